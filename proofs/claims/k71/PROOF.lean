import PyProof.Rows.All
import Wide.All
import OpenK.AllK
import Wide.FinOn
import Lean
import PyProof.EqAt
import PyProof.EqKinds
import PyProof.TupleCall
import PyProof.RaisesMany
import KE.KSortTup
import PyProof.NeKinds
import PyProof.SetKind
import PyProof.SetRoads
import PyProof.SetNew
import PyProof.WalksS
import PyProof.CollectWalk
import PyProof.TupleKey
import PyProof.IsRules
import PyProof.InstEq
import KE.KRevIter
import PyProof.FitsBits
import PyProof.P3Eq
import PyProof.ListRange
import PyProof.RulesAs
import PyProof.NsDelKeeps
import PyProof.PassesOwn
import PyProof.FString
import PyProof.MeetsSeq
import PyProof.DictRoadsH
import PyProof.DictTruth
import PyProof.MinMaxWalk
import KE.KItemsList
import PyProof.DictCompW
import PySem.Challenge.RW_mapdye_k71_ties_dyes
local macro_rules|`(tactic|subst_eqs)=>`(tactic|first|exact Or.inl rfl|exact Or.inr rfl|exact Or.inr (Or.inl rfl)|exact Or.inr (Or.inr rfl)|assumption)
local macro_rules|`(tactic|bv_omega)=>`(tactic|exact ⟨rfl,rfl,rfl,by decide+kernel,rfl,by decide+kernel,by decide+kernel⟩)
local macro_rules|`(#[$x,$y,*])=>`(⟨$x,$y,*⟩)
local macro_rules|`(#[$x])=>`(⟨$x⟩)
local macro_rules|`(tactic|exists $x,*)=>`(tactic|refine⟨$x,* ,?_⟩)
local macro_rules|`(())=>`((by lia))
local macro_rules|`(∅)=>`((by decide))
local macro_rules|`(~~~$x)=>`((by simpa using $x))
local macro_rules|`($a\$b)=>`($a=some $b)
set_option genInjectivity false
set_option genSizeOf false
open PySem.W renaming Frag→ad,kitOne→aj,findIn→ak,keepIn→am,nsIn→aR,codeIn→bd,emptyDict→bj,specialIn→bv,isFn→b5,fnOf→cb,instObj→ce,hasDictIn→cm,plainGet→cr,mroIn→cv,kitAny→cI,OpenLaw→cZ,lookIn→c4,plainOver→dc,methodObj→dz,takesIn→dM,takerIn→dV,readsIn→d3,makesIn→d5,findCls→d6,clsIn→eg,WalkO→eh
open List renaming range→aM,lookup→bf,replicate→bu,length→db,Nodup→dL
open PySem renaming Spec→bi,Within→cq,SetTable→ec,call→ee
open Array renaming replicate→d7
abbrev mo:=@if_pos
abbrev tz:=@if_neg
abbrev GT:=@decide_eq_false
abbrev IR:=@decide_eq_true
abbrev M2:=@of_decide_eq_true
abbrev On:=@congrArg
abbrev PP:=@if_false
abbrev SC:=@of_decide_eq_false
abbrev abA:=@beq_eq_false_iff_ne
abbrev abI:=@beq_iff_eq
abbrev abN:=@if_true
abbrev ab7:=@getElem?_pos
abbrev acK:=@decide_eq_decide
abbrev ads:=@bne_self_eq_false
abbrev adJ:=@beq_self_eq_true
open PySem renaming wpAny_pure→ir,wpAny_holding→KB,wpAny_truthy_bool→SB,wpAny_standAt→W1,wpAny_Call_Name_kw→abC,wpAny_call_entry→abD,wpAny_field→abE,wpAny_newObj_type→abF,wpAny_loadPart_at→abG,wpAny_isSubtype_exc→abH,mem_of_lookup→abM,boot_len→abO,codeAny_mono→abP,wpAny_passesOwn→abQ,wpAny_setState_of→abR,wpAny_rule→abS,wpAny_call→abT,wpAny_comprehension_free→abV,codeAny_builtin→ab5,sizeLine_eq→ab6,call_meets→ab8,codeAny_call_builtin→aca,wpAny_attempt→acb,plainId_quiet→acd,codeAny_of_tree→acg,wpAny_seqItems→acq,wpAny_callSpecial?_slot→acr,wpAny_nextOf_list_item→acz,wpAny_newList→acD,plainObj_wpAny_Assign_Attribute→acQ,wpAny_execs_nil→acT,wpAny_specialOf→acZ,wpAny_updateSeq→ac1,wpAny_loadPart→ac5,wpAny_of_eq→adb,wpAny_pyIter_list→adq,wpAny_lookBehind→adB,pastItsLine_dict→adC,wpAny_askSetting→adH,wpAny_forIn_list→adL,wpAny_Call_method_late→adY,codeAny_compStart_list→adZ,wpAny_newTuple→ad5,wpAny_setField→ad6,wpAny_nsSet1→ad8,wpAny_typeOf→aea,codeAny_loop→aeb
open PySem.Heap renaming get?_push_of_some→AC,lt_size→Do,get?_push_size→GE,get?_update_other→Pi,get?_update_self→P3,get?_update_ne→ab1,size_update→ab9,size_push→acn,get?_push_ne→acu
open Option.some renaming inj→Da
open PyProof.Rows renaming wpS_bind→Fk,wpS_pure→FB,wpS_mono→SZ,wpS_forRange→UF,callWith_type1→Wp,wpS_get→ace,wpS_modify→acp,subscriptTail_builtinR→acw,wpS_lift→acF,slot_tuple_getitem→acR,callWith_builtin1→acU,args_list_sort→ac7,assignInOrder_cons→ade,listUpdate_at→adm,size_push'→adu,seqEpoch_at→ad0,sortedAll_old→ad7,sortedAll_at→aec,plain_sorted→aed,entry_sorted→aee,args_sorted1→aef,collect_list→aeg
open PySem.PassesOwn renaming never→FM
open Classical renaming byContradiction→FS
open PySem.F renaming plainAttrs_list→GM,plain_extend_loop→abK,slot_list_append→abX,type_list_append→abY,slot_list_insert→abZ,type_list_insert→ab0,slot_list_index→ab2,type_list_index→ab3,slot_zip_next→ac0,excBase_ValueError→adn,entry_extend_loop→adx,args_tuple_add_2→adE,slot_list_extend→adM,type_list_extend→adN,entry_tuple_add→adP,slot_tuple_add→adX
open PySem.W renaming mg_none_of→KF,mg_of→Os,kia_one→UV,callWith_K→ab4,methodCall_KW→acM,plainGet_of→ac3,any_some→adI,cellsFrom_some→adW
open PyProof.Rows.KeyOrd renaming kle_trans→KM,kle_of_klt→SL,kle_refl→abB,klt_of_kle_of_klt→ack
open Prod renaming ext→abJ
open List.Perm renaming eq_of_pairwise→abL
open PySem.Around renaming under_plainId→abU
open List.Pairwise renaming imp_of_mem→abW
open Prod.mk renaming inj→acf
open PySem.Calls renaming call_function_entry→ach,callWith_builtin→acx,Name_function_global→adj
open PySem.SeqAt.EqAt renaming int_int→aci
open PySem.Obj renaming data_mapFields→acj,isFreed_of_fields→acN
open Array renaming size_setIfInBounds→acm,getElem?_setIfInBounds→ac8,toList_inj→adG,toList_filterMap→ad2
open Nat renaming mod_lt→aco,lt_succ_of_lt→acv,lt_succ_self→adD,mod_self→adF,add_sub_cancel_left→adQ,min_eq_left→adV,le_of_eq→ad9
open List renaming reverse_cons→acs,getElem_cons_drop→acA,all_cons→acB,map_take→acC,take_succ_eq_append_getElem→acG,nodup_range→acH,filter_cons→acI,getElem_map→acJ,findIdx_lt_length_of_exists→acL,pairwise_reverse→acO,getElem?_toArray→acP,eraseIdxIfInBounds_toArray→acS,getElem?_append→acV,range_succ→acW,reverse_reverse→acX,mem_of_mem_take→acY,filterMap_cons→ac2,map_congr_left→ac4,countP_eq_length_filter→ac9,count_set→ada,mem_filterMap→adf,find?_eq_none→adh,any_cons→adk,map_drop→adl,reverse_perm→adt,mem_of_find?_eq_some→adv,count_replicate_self→adw,getElem?_zip_eq_some→ady,mem_or_eq_of_mem_set→adz,getElem_inj→adA,of_mem_zip→adR,forIn_cons→adS,getElem_replicate→ad3,any_map→aeh
open Option renaming map_eq_some_iff→acy,bind_some→acE
open Bool renaming and_false→ac6,not_true→adp,or_eq_true→adU,false_and→ad4
open PySem.Code renaming quiet_builtin→adg
open Int renaming emod_lt_of_pos→adi,natCast_emod→adO,emod_nonneg→adT
open PySem.MeetsSeq3 renaming plain_eq_loop→ado
open PySem.SetTable renaming toList_insertAt→adK,insertAt_perm→ad1
def aa{g:Prop}(h:∀G:Prop,(g->G)->G):g:=h g id
set_option hygiene false in
local macro_rules|`(tactic|rfl')=>`(tactic|refine aa fun G0 k0=>?_)
set_option hygiene false in
local macro_rules|`(tactic|ac_rfl)=>`(tactic|refine k0 ?_)
noncomputable section
set_option bootstrap.genMatcherCode false
set_option Elab.async false
set_option linter.all false
set_option maxRecDepth 100000
abbrev aI:= @List.length_map
abbrev cw:= @List.getElem?_eq_some_iff
abbrev dH:= @List.getElem?_eq_getElem
abbrev cV:= @List.mem_of_getElem?
abbrev fq:= @List.getD_eq_getElem?_getD
abbrev bq:= @Nat.le_refl
abbrev dh:= @List.length_append
abbrev dB:= @List.mem_cons_self
abbrev eW:= @List.mem_cons_of_mem
abbrev dJ:= @List.getElem?_map
abbrev b7:= @List.size_toArray
abbrev cO:= @Array.length_toList
abbrev cP:= @Nat.lt_of_lt_of_le
abbrev bE:= @Nat.ne_of_lt
abbrev dj:= @Bool.false_ne_true
abbrev fY:= @List.getElem?_append_left
abbrev cD:= @List.map_append
abbrev fF:= @List.mem_append_right
abbrev dG:= @List.length_cons
abbrev c5:= @List.mem_append
abbrev eV:= @Bool.false_eq_true
abbrev fO:= @Array.getElem?_toList
abbrev iz:= @List.getElem?_append_right
abbrev eJ:= @List.append_nil
abbrev dq:= @List.map_cons
abbrev il:= @List.getElem?_eq_none
abbrev c7:= @List.mem_map
abbrev fZ:= @List.mem_singleton
abbrev eL:= @List.mem_cons
abbrev iA:= @List.getElem?_of_mem
abbrev dA:= @Nat.zero_le
abbrev dX:= @List.map_map
abbrev jb:= @List.getElem?_set_ne
abbrev fG:= @List.mem_range
abbrev gO:= @List.length_take
abbrev kO:= @List.getElem?_set_self
abbrev jw:= @Array.toList_append
abbrev gP:= @List.length_set
abbrev km:= @List.mem_append_left
abbrev kP:= @List.take_append_drop
abbrev jc:= @List.pairwise_map
abbrev jd:= @Nat.le_of_not_lt
abbrev jx:= @List.nodup_append
abbrev iB:= @List.nodup_nil
abbrev qq:= @Array.getElem?_eq_getElem
abbrev kQ:= @List.append_assoc
abbrev iq:= @Nat.le_trans
abbrev tG:= @List.drop_eq_getElem_cons
abbrev lS:= @Int.toNat_natCast
abbrev lT:= @List.getElem?_set
abbrev qr:= @List.take_of_length_le
abbrev iC:= @Nat.zero_add
abbrev jy:= @Nat.lt_irrefl
abbrev tH:= @List.getElem?_replicate
abbrev tI:= @Int.eq_ofNat_of_zero_le
abbrev je:= @Nat.ne_of_gt
abbrev qs:= @List.pairwise_append
abbrev oX:= @Nat.lt_of_le_of_lt
abbrev mV:= @List.length_drop
abbrev mW:= @List.getElem_mem
abbrev oY:= @List.length_range
abbrev vy:= @List.getElem?_cons_succ
abbrev yV:= @Array.getElem?_eq_some_iff
abbrev oZ:= @List.mem_flatten
abbrev yW:= @List.pairwise_iff_getElem
abbrev tJ:= @List.flatten_append
abbrev vz:= @List.length_replicate
abbrev yX:= @List.idxOf_lt_length_iff
abbrev o9:= @List.length_nil
abbrev yY:= @List.length_pos_of_mem
abbrev yZ:= @List.drop_of_length_le
abbrev y0:= @List.drop_eq_nil_of_le
abbrev qt:= @List.nil_append
abbrev tK:= @List.lookup_cons
abbrev Bn:= @List.set_eq_of_length_le
abbrev vA:= @List.flatMap_cons
abbrev vB:= @Bool.eq_false_iff
abbrev F4:= @Array.getD_eq_getD_getElem?
abbrev y3:= @List.reverse_append
abbrev y4:= @List.getElem?_range
abbrev mX:= @Nat.le_succ
abbrev pb:= @Nat.le_of_lt
abbrev ph:= @Nat.sub_self
abbrev F5:= @List.nodup_iff_pairwise_ne
abbrev F6:= @List.perm_ext_iff_of_nodup
abbrev vC:= @Bool.and_eq_true
abbrev vD:= @List.mem_reverse
abbrev tL:= @Nat.mul_le_mul
abbrev vE:= @List.nodup_cons
abbrev y6:= @Array.toList_push
abbrev y8:= @List.ext_getElem?
abbrev y9:= @List.flatten_cons
abbrev za:= @List.take_length
abbrev Bo:= @List.getElem?_drop
abbrev Bp:= @Array.size_extract
abbrev zb:= @List.mem_filter
abbrev Kf:= @Array.perm_iff_toList_perm
abbrev F7:= @Array.toList_reverse
abbrev zc:= @List.take_zero
abbrev zd:= @List.take_succ
abbrev uR:= @Nat.mod_eq_of_lt
abbrev uS:= @List.any_eq_true
abbrev DL:= @List.getElem?_take_of_lt
abbrev uT:= @List.all_eq_true
abbrev DM:= @List.pairwise_singleton
abbrev uU:= @Bool.eq_iff_iff
abbrev yT:= @List.getElem_idxOf
abbrev DP:= @List.range_succ_eq_map
abbrev DQ:= @List.pairwise_lt_range
abbrev DR:= @List.length_singleton
abbrev DS:= @List.mem_iff_getElem?
abbrev DU:= @List.length_filter_le
abbrev Ji:= @List.sublist_flatten_of_mem
abbrev DV:= @List.length_pos_iff
abbrev yU:= @Option.map_some
abbrev uV:= @List.map_nil
abbrev DX:= @Array.forIn_toList
namespace L2
open PySem PySem.Spec PyProof.Rows
abbrev Key:=Sum Int Str
noncomputable def OQ:Key->Value->Bool
 | .inl k,v=>Value.isInt k v
 | .inr x,v=>Value.isStrOf x v
noncomputable def aae(w:World):Key->Int
 | .inl k=>hashInt k
 | .inr x=>hashStr w x
theorem dg:∀{k:Key}{v:Value},OQ k v=true->(∃i t,k=Sum.inl i/\v=Value.int i t)\/(∃x t,k=Sum.inr x/\v=Value.str x t)
 | .inl i,v,h=>by
  obtain⟨t,e⟩:=Value.isInt_shape (k:=i) (v:=v) h;exact .inl #[i,t,rfl,e]
 | .inr x,v,h=>by
  obtain⟨t,e⟩:=Value.isStrOf_shape (x:=x) (v:=v) h;exact .inr #[x,t,rfl,e]
def RO(a b:Int):decide ((Sum.inl a:Key)=Sum.inl b)=(a==b):=by
 by_cases e:a=b
 .subst e;simp
 .have h:¬(Sum.inl a:Key)=Sum.inl b:=λq=>e (Sum.inl.inj q)
  rw[GT h];exact(abA.mpr e).symm
def RU(a b:Str):decide ((Sum.inr a:Key)=Sum.inr b)=decide (a=b):=by
 by_cases e:a=b
 .subst e;simp
 .have h:¬(Sum.inr a:Key)=Sum.inr b:=λq=>e (Sum.inr.inj q)
  rw[GT h,GT e]
def RP(a:Int)(b:Str):decide ((Sum.inl a:Key)=Sum.inr b)=false:=GT (λq=>nomatch q)
def RT(a:Str)(b:Int):decide ((Sum.inr a:Key)=Sum.inl b)=false:=GT (λq=>nomatch q)
noncomputable def xR(prog:Program)(w:World):PySem.KeyKind prog w Key where
 is:=OQ
 hash:=aae w
 inj:=λv a b g f=>by
  rcases dg g with ⟨i,t,rfl,rfl⟩ | ⟨x,t,rfl,rfl⟩
  .rcases dg f with ⟨j,u,rfl,e⟩ | ⟨y,u,rfl,e⟩
   .injection e with c _;rw[c]
   .exact nomatch e
  .rcases dg f with ⟨j,u,rfl,e⟩ | ⟨y,u,rfl,e⟩
   .exact nomatch e
   .injection e with c _;rw[c]
 byValue:=λk v h=>by
  rcases dg h with ⟨i,t,rfl,rfl⟩ | ⟨x,t,rfl,rfl⟩<;>rfl
 pyHash:=λd h=>by
  rcases dg d with ⟨i,t,rfl,rfl⟩ | ⟨x,t,rfl,rfl⟩
  .exact wpAny_pyHash_int h
  .exact wpAny_pyHash_str h
 eqBool:=λl d h=>by
  rcases dg l with ⟨i,t,rfl,rfl⟩ | ⟨x,t,rfl,rfl⟩
  .rcases dg d with ⟨j,u,rfl,rfl⟩ | ⟨y,u,rfl,rfl⟩
   .rw[RO] at h;exact wpAny_eqBool_int h
   .rw[RP] at h;exact SeqAt.EqAt.int_str i t y u _ _ _ _ h
  .rcases dg d with ⟨j,u,rfl,rfl⟩ | ⟨y,u,rfl,rfl⟩
   .rw[RT] at h;exact SeqAt.EqAt.str_int x t j u _ _ _ _ h
   .rw[RU] at h;exact wpAny_eqBool_str h
 «strs»:=λk x t v h=>by
  rcases dg h with ⟨i,u,rfl,e⟩ | ⟨y,u,rfl,e⟩
  .exact nomatch e
  .injection e with c _
   subst c;cases v<;>rfl
set_option genInjectivity true in
inductive V where
 |aL|bl (b:Bool) |int (i:Int) |str (x:Str) |vJ (b:Array UInt8) |GJ (b:UInt64) |ref (a:Addr) |ty (n:String)
 deriving DecidableEq
def RelV:V->Value->Prop
 | .aL,u=>u=Value.none
 | .bl b,u=>u=Value.bool b
 | .int i,u=>∃t,u=Value.int i t
 | .str x,u=>∃t,u=Value.str x t
 | .vJ b,u=>∃t,u=Value.bytes b t
 | .GJ b,u=>∃t,u=Value.float b t
 | .ref a,u=>u=Value.ref a
 | .ty n,u=>u=Value.type n
abbrev Vals:List V->List Value->Prop:=Paired RelV
theorem Vals.length{xs:List V}{a:List Value}(r:Vals xs a):xs.length=a.length:=Paired.length r
theorem Vals.get:∀{a:List V}{b:List Value}{i:Nat}{x:V},Vals a b->a[i]?\x->∃u,b[i]?\u/\RelV x u
 |_,_,_,_, .nil,e=>by simp at e
 |_,_,0,_, .cons r _,e=>by simp at e;subst e;exact#[_,rfl,r]
 |_,_,i+1,x, .cons _ t,e=>by
  obtain⟨u,c,d⟩:=Vals.get (i:=i) (x:=x) t (~~~e)
  exact#[u,by simpa using c,d]
theorem Vals.set{x:V}(r:RelV x u):∀{a:List V}{b:List Value}(i:Nat),Vals a b->Vals (a.set i x) (b.set i u)
 |_,_,_, .nil=> .nil
 |_,_,0, .cons _ t=> .cons r t
 |_,_,i+1, .cons q t=> .cons q (Vals.set r i t)
theorem Vals.append:∀{a b:List V}{c d:List Value},Vals a c->Vals b d->Vals (a++b) (c++d)
 |_,_,_,_, .nil,s=>s
 |_,_,_,_, .cons r t,s=> .cons r (Vals.append t s)
theorem Vals.take:∀{xs:List V}{a:List Value}(n:Nat),Vals xs a->Vals (xs.take n) (a.take n)
 |_,_,0,_=> .nil
 |_,_,_+1, .nil=> .nil
 |_,_,n+1, .cons r t=> .cons r (Vals.take n t)
theorem Vals.drop:∀{xs:List V}{a:List Value}(n:Nat),Vals xs a->Vals (xs.drop n) (a.drop n)
 |_,_,0,r=>r
 |_,_,_+1, .nil=> .nil
 |_,_,n+1, .cons _ t=>Vals.drop n t
def kz:Option V->Option Value->Prop
 |some v,some u=>RelV v u
 |none,none=>True
 |_,_=>False
def KV{a:Type}:List (a×V)->List (a×Value)->Prop:=Paired λ(p:a×V)(q:a×Value)=>p.1=q.1/\RelV p.2 q.2
noncomputable def kV:Key->V
 | .inl i=> .int i
 | .inr x=> .str x
inductive HO where
  |lst (xs:List V)
  |tup (xs:List V)
  |dK (fj:List (Key×V)) |dT (fj:List (List Key×V))
  |set (S:Int->Bool) (n:Nat)
  |ins (C dx:Addr) (fs:List (Str×V))
  |own (x:Addr)
  |xd (fs:List (Str×V))
  |met (f x:Addr)
  |rng (lo hi:Int)
  |qK (o:Obj) (u:HO)
  |FP (ps:Array Value)
  |ext (φ:Heap->Prop)
abbrev Hp:=Addr->Option HO
noncomputable def upd(H:Hp)(a:Addr)(o:HO):Hp:=λb=>if b=a then some o else H b
def af{H:Hp}{a:Addr}{o:HO}:upd H a o a\o:=by unfold upd;rw[mo rfl]
def ag{H:Hp}{a b:Addr}{o:HO}(h:b≠a):upd H a o b=H b:=by unfold upd;rw[tz h]
def tq:upd (upd H a o) a u=upd H a u:=by
 funext b;unfold upd;split<;>rfl
def ao{H:Hp}{a b:Addr}(h:H a\o)(h':H b=none):a≠b:=by
 intro e;subst e;rw[h] at h';cases h'
section
variable (P:Program) (w:World)
def cg(H:Hp)(h:Heap)(a:Addr):HO->Prop
 | .lst c=>c.length<=sizeLine/\∃(b:List Value)(n:Nat),Vals c b/\h.get? a\{cls:= .type "list",data:= .seq b.toArray n}
 | .tup c=>c.length<=sizeLine/\∃b:List Value,Vals c b/\IsTup h a b.toArray
 | .dK e=>e.length<=sizeLine/\(a==sysModules)=false/\∃j,KV e j/\h.DictOf (xR P w) a j
 | .dT e=>e.length<=sizeLine/\(a==sysModules)=false/\∃c:List (List Key×Addr×Value),
   Paired (λ(p:List Key×V)(q:List Key×Addr×Value)=>p.1=q.1/\H q.2.1\(.tup (p.1.map kV))/\RelV p.2 q.2.2) e c/\
   ∃o k r,h.get? a\o/\o.ExactDict/\o.data= .dict k r/\k.toList=c.map (entryOfKey (tupleKind (xR P w)))/\(c.map (·.1)).Nodup
 | .set S n=>h.SetOf (intKind P w) a S n
 | .ins C g fs=>H g\(.own a)/\fs.length<=1000/\g≠a/\h.get? a\(ce C g)/\
   ∃d,h.Ns1 g d/\(∀f,kz (fs.lookup f) (d f))/\cq d (fs.map (·.1))
 | .own _=>∃o,h.get? a\o
 | .xd fs=>∃d,h.Ns1 a d/\∀f,kz (fs.lookup f) (d f)
 | .rng lo s=>∃t u v,h.get? a\{cls:= .type "range",data:= .fields [.int lo t, .int s u, .int 1 v].toArray}
 | .qK o u=>h.get? a\o/\cg H h a u
 | .FP y=>h.get? a\{cls:= .none,data:= .fields y}
 | .met f x=>h.get? a\(dz (.ref f) (.ref x))
 | .ext i=>i h/\(∃o,h.get? a\o)/\∀l m:Heap,i l->(∀o,l.get? a\o->m.get? a\o)->i m
def gx(H:Hp)(h:Heap):Prop:=∀a o,H a\o->cg P w H h a o
end
section
variable {P:Program} {w:World} {H H':Hp} {h h':Heap} {a:Addr} {o:HO}
theorem cg.lt(x:cg P w H h a o):a<h.objs.size:=by
 cases o with
 |lst b=>obtain⟨_,_,_,_,e⟩:=x;exact Do e
 |tup b=>obtain⟨_,_,_,p⟩:=x;exact p.lt
 |dK c=>obtain⟨_,_,_,_,o,_,_,e,_⟩:=x;exact Do e
 |dT c=>obtain⟨_,_,_,_,o,_,_,e,_⟩:=x;exact Do e
 |set S n=>obtain⟨o,_,_,_,e,_⟩:=x;exact Do e
 |ins C d fs=>obtain⟨_,_,_,e,_⟩:=x;exact Do e
 |own y=>obtain⟨_,e⟩:=x;exact Do e
 |xd fs=>obtain⟨_,⟨_,_,_,e,_⟩,_⟩:=x;exact Do e
 |rng lo g=>obtain⟨_,_,_,e⟩:=x;exact Do e
 |qK i u=>obtain⟨e,_⟩:=x;exact Do e
 |FP j=>exact Do (show h.get? a\_ from x)
 |met f y=>exact Do (show h.get? a\_ from x)
 |ext k=>obtain⟨_,⟨_,e⟩,_⟩:=x;exact Do e
theorem Paired.Uz:∀{c:List e}{d:List g},Paired F c d->(∀a b,F a b->G a b)->Paired G c d
 |_,_, .nil,_=> .nil
 |_,_, .cons r t,f=> .cons (f _ _ r) (Paired.Uz t f)
theorem cg.mT(x:cg P w H h a o)(k:∀b u,(b=a\/H b\(.own a))->h.get? b\u->h'.get? b\u)
  (E:∀b,H b\(.own a)->H' b\(.own a)) (F:∀b m,H b\(.tup m)->H' b\(.tup m)):cg P w H' h' a o:=by
 induction o with
 |lst m=>obtain⟨z,l,n,r,e⟩:=x;exact#[z,l,n,r,k _ _ (.inl rfl) e]
 |tup m=>obtain⟨z,l,r,g,e,c⟩:=x;exact#[z,l,r,g,k _ _ (.inl rfl) e,c]
 |dK G=>obtain⟨z,y,I,r,g,i,j,e,c⟩:=x;exact#[z,y,I,r,g,i,j,k _ _ (.inl rfl) e,c]
 |dT G=>
  obtain⟨z,y,m,r,g,i,j,e,c⟩:=x;exact#[z,y,m,Paired.Uz r λp q z=>#[z.1,F _ _ z.2.1,z.2.2],g,i,j,k _ _ (.inl rfl) e,c]
 |set S n=>obtain⟨g,i,j,t,e,c⟩:=x;exact#[g,i,j,t,k _ _ (.inl rfl) e,c]
 |ins C N fs=>
  rfl';obtain⟨d,z,ne,e,s,⟨A,i,j,L,c⟩,r⟩:=x;ac_rfl;exact#[E _ d,z,ne,k _ _ (.inl rfl) e,s,#[A,i,j,k _ _ (.inr d) L,c],r]
 |own y=>obtain⟨g,e⟩:=x;exact#[g,k _ _ (.inl rfl) e]
 |xd fs=>obtain⟨s,⟨A,i,j,e,c⟩,r⟩:=x;exact#[s,#[A,i,j,k _ _ (.inl rfl) e,c],r]
 |rng lo Q=>obtain⟨t,u,v,e⟩:=x;exact#[t,u,v,k _ _ (.inl rfl) e]
 |qK g u M=>obtain⟨e,q⟩:=x;exact#[k _ _ (.inl rfl) e,M q]
 |FP B=>
  have e:h.get? a\{cls:= .none,data:= .fields B}:=x;show h'.get? a\{cls:= .none,data:= .fields B};exact k a _ (.inl rfl) e
 |met f y=>
  have e:h.get? a\(dz (.ref f) (.ref y)):=x;show h'.get? a\(dz (.ref f) (.ref y));exact k a _ (.inl rfl) e
 |ext R=>obtain⟨p,⟨o,e⟩,st⟩:=x;exact#[st _ _ p λo q=>k _ _ (.inl rfl) q,#[o,k _ _ (.inl rfl) e],st]
theorem gx.lt(x:gx P w H h)(e:H a\o):a<h.objs.size:=(x a o e).lt
def gx.fresh(x:gx P w H h)(e:h.objs.size<=a):H a=none:=by
 cases q:H a with
 |none=>rfl
 |some u=>exact absurd (cP (x.lt q) e) (jy _)
def gx.kept(x:gx P w H h)(k:∀b u,h.get? b\u->h'.get? b\u):gx P w H h':=λa o e=>
 (x a o e).mT (λb u _ q=>k b u q) (λ_ q=>q) λ_ _ q=>q
def gx.laid(x:gx P w H h)(k:∀b u,h.get? b\u->h'.get? b\u)(g:h.objs.size<=a)(new:cg P w (upd H a o) h' a o):gx P w (upd H a o) h':=λb u e=>by
 have d:=x.fresh g
 by_cases f:b=a
 .subst f;rw[af] at e;cases e;exact new
 .rw[ag f] at e
  exact(x b u e).mT (λc v _ q=>k c v q) (λc q=>by rw[ag (ao q d)];exact q) λc i q=>by rw[ag (ao q d)];exact q
end
def Rd(H:Hp)(a:Addr)(u:HO):Prop:=H a\u\/∃o,H a\(.qK o u)
def Rd.ok{P:Program}{w:World}{H:Hp}{a:Addr}(r:Rd H a u)(x:gx P w H h):cg P w H h a u:=by
 rcases r with r| ⟨o,r⟩
 .exact x a u r
 .obtain⟨_,q⟩:=x a _ r
  exact q
def MP:Option HO->Prop
 |some (.lst _)=>True
 |some (.dK _)=>True
 |some (.dT _)=>True
 |some (.set _ _)=>True
 |some (.ins _ _ _)=>True
 |some (.ext _)=>True
 |_=>False
section
variable {P:Program} {w:World} {H:Hp} {h h':Heap} {x e:Addr} {o':HO}
def gx.write(ok:gx P w H h)(a:MP (H x))(j:e=x\/H e\(.own x))(k:∀b u,b≠e->h.get? b\u->h'.get? b\u)(n:∃u,h'.get? e\u)
  (new:cg P w (upd H x o') h' x o'):gx P w (upd H x o') h':=λb u q=>by
 have l:∀c y,H c\(.own y)->c≠x:=λc y r z=>by subst z;rw[r] at a;exact a
 have o:∀c d,H c\(.tup d)->c≠x:=λc d r z=>by subst z;rw[r] at a;exact a
 by_cases f:b=x
 .subst f;rw[af] at q;cases q;exact new
 .rw[ag f] at q
  by_cases g:b=e
  .have m:H b\(.own x):=by
    rcases j with z|z
    .exact absurd (g.trans z) f
    .rw[g];exact z
   obtain⟨v,p⟩:=n;rw[q] at m;cases m;exact#[v,by rw[g];exact p]
  .refine(ok b u q).mT (λc v i r=>k c v ?_ r) (λc r=>by rw[ag (l c b r)];exact r) λc d r=>by rw[ag (o c d r)];exact r
   rcases i with rfl|i
   .exact g
   .rintro rfl
    rcases j with z|z
    .exact l c b i z
    .rw[i] at z;cases z;exact f rfl
end
structure Un (fs ex:List Addr) (H H':Hp) (h h':Heap):Prop where
 keep:∀b o,h.get? b\o->H b=none->b∉fs->b∉ex->h'.get? b\o
 slot:∀b o,h.get? b\o->H b=none->b∈fs->b∉ex->∃sl,h'.get? b\{o with slots:=sl}
 free:∀b o,h.get? b\o->H b=none->b∉ex->H' b=none
 there:∀b o,h.get? b\o->b∉ex->∃o',h'.get? b\o'
 tups:∀b xs,H b\(.tup xs)->H' b\(.tup xs)
 frzs:∀b o u,H b\(.qK o u)->H' b\(.qK o u)
 tbls:∀b ps,H b\(.FP ps)->∃more,H' b\(.FP (ps++more))
section
variable {fs fs' ex p8:List Addr} {H H1 H2:Hp} {h h1 h2 h':Heap} {a x e:Addr} {o:HO}
def Un.any(u:Un fs ex H H1 h h1)(q:h.get? b\c)(n:H b=none)(d:b∉ex):∃g,h1.get? b\{c with slots:=g}:=by
 by_cases f:b∈fs
 .exact u.slot b c q n f d
 .exact#[c.slots,u.keep b c q n f d]
def Un.kept(k:∀b u,h.get? b\u->h'.get? b\u):Un fs ex H H h h':=
 #[λb c q _ _ _=>k b c q,λb c q _ _ _=>#[c.slots,k b c q],λ_ _ _ n _=>n,λb c q _=>#[c,k b c q],λ_ _ q=>q,λ_ _ _ q=>q,λ_ d q=>#[#[],by rw[q];simp]]
def Un.refl:Un fs ex H H h h:=Un.kept λ_ _ q=>q
def Un.laid(k:∀b u,h.get? b\u->h'.get? b\u)(d:h.objs.size<=a)(c:H a=none):Un fs ex H (upd H a o) h h' where
 keep:=λb u q _ _ _=>k b u q
 slot:=λb u q _ _ _=>#[u.slots,k b u q]
 free:=λb u q n _=>by rw[ag (bE (cP (Do q) d))];exact n
 there:=λb u q _=>#[u,k b u q]
 tups:=λb f q=>by rw[ag (ao q c)];exact q
 frzs:=λb u f q=>by rw[ag (ao q c)];exact q
 tbls:=λb g q=>#[#[],by rw[ag (ao q c),q];simp]
def Un.write(c:MP (H x))(j:e=x\/H e\(.own x))(k:∀b u,b≠e->h.get? b\u->h'.get? b\u)(l:∃u,h'.get? e\u):Un fs ex H (upd H x o) h h':=by
 have f:∀b,H b=none->b≠x:=λb n z=>by subst z;rw[n] at c;exact c
 have g:∀b,H b=none->b≠e:=λb n z=>by
  subst z
  rcases j with r|r
  .exact f b n r
  .rw[n] at r;cases r
 have d:∀b u,H b\u->¬MP (some u)->b≠x:=λb u q m z=>by subst z;rw[q] at c;exact m c
 refine#[λb u q n _ _=>k b u (g b n) q,λb u q n _ _=>#[u.slots,k b u (g b n) q],λb u q n _=>by rw[ag (f b n)];exact n,λb u q _=>?_,
  λb p q=>by rw[ag (d b _ q λz=>z)];exact q,λb u p q=>by rw[ag (d b _ q λz=>z)];exact q,λb s q=>#[#[],by rw[ag (d b _ q λz=>z),q];simp]]
 by_cases i:b=e
 .subst i;exact l
 .exact#[u,k b u i q]
end
noncomputable def TF(h:Heap)(H:Hp):List Addr:=(aM h.objs.size).filter λa=>(H a).isSome
noncomputable def rX(h:Heap)(H:Hp):Heap:=PySem.W.hideAll h (TF h H)
def He(h:Heap)(H:Hp):(rX h H).objs.size=h.objs.size:=PySem.W.hideAll_size _ _
def Lf(e:h.get? b\o)(n:H b=none):(rX h H).get? b\o:=
 PySem.W.hideAll_get _ e λa=>by
  have q:(H b).isSome=true:=(zb.mp a).2;rw[n] at q;simp at q
def Pb(e:(rX h H).get? b\o):h.get? b\o/\H b=none:=by
 have a:h.get? b\o:=PySem.W.of_hideAll (TF h H) e;exists a;cases q:H b with
 |none=>rfl
 |some x=>
  have c:b∈TF h H:=zb.mpr #[fG.mpr (Do a),by simp[q]]
  have z:(rX h H).get? b=none:=PySem.W.hideAll_none (TF h H) c;rw[z] at e;cases e
structure Mod (K:ad) (mg:Str->Option Value) (base:Heap):Prop where
 kin:K.In base
 glob:base.Ns mainGlobals mg
 blt:∃mb,base.Ns builtinsNs mb/\∀x:Str,x≠"__name__"->mb x=bootBuiltins x
 nolimit:base.NoLimit
structure Cx where
 prog:Program
 w:World
 K:ad
 mg:Str->Option Value
 base:Heap
 A:Around
 N:List Str
 s₀:Shared
 H₀:Hp
 env:Env
 outer:List Env
 stack:List Env
 ex:List Addr
 fn:Str->Bool
 calm:Bool
 pn:List (Addr×Obj)
 xe:Value->Shared->Prop
noncomputable def rQ(l:List Env):List Addr:=l.filterMap (·.frame)
abbrev Cx.fs(X:Cx):List Addr:=rQ X.outer
def nz(a:Scope)(x:Str):Prop:=a.names.lookup x\.local\/a.names.lookup x\.cell\/a.names.lookup x\.free
def Loc(a:Scope)(x:Str):Prop:=a.names.lookup x\.local\/a.names.lookup x\.cell
def Look(env:Env)(h:Heap)(m:Str->Option Value)(x:Str)(u:Value):Prop:=
 (env.kindOf x\.local/\m x\u)\/((env.kindOf x\.cell\/env.kindOf x\.free)/\∃c,env.cells.lookup x\c/\h.IsCell c (some u))
structure Cx.Ok (X:Cx):Prop where
 mod:Mod X.K X.mg X.base
 kind:X.env.scope.kind= .function
 glob:X.env.globals=mainGlobals
 blt:X.env.builtins=builtinsNs
 above:X.s₀.heap.objs.size<=X.env.locals
 inj:∀x y c,X.env.cells.lookup x\c->X.env.cells.lookup y\c->x=y
 has:∀x,(X.env.kindOf x\.cell\/X.env.kindOf x\.free)->∃c,X.env.cells.lookup x\c
 cab:∀x c,X.fn x=true->X.env.cells.lookup x\c->X.s₀.heap.objs.size<=c
 hd:X.calm=true->X.A.handled=none
 frames:X.A.frames\X.stack
 stk:X.stack=X.outer\/(X.stack=X.env::X.outer/\X.env.frame\X.env.locals)
 exf:∀b∈X.ex,b≠X.env.locals/\∀x c,X.env.cells.lookup x\c->c≠b
 bs:∀b o,X.base.get? b\o->X.s₀.heap.get? b\o/\X.H₀ b=none
 bsz:X.base.objs.size<=X.s₀.heap.objs.size
 noex:∀b o,X.base.get? b\o->b∉X.ex
 exfs:∀b∈X.ex,b∉X.fs
 funs:X.s₀.heap.FunFrames X.base X.outer
 frf:∀b∈X.fs,X.H₀ b=none
structure Inv (X:Cx) (pins:List (Addr×Obj)) (σ:List (Option V)) (H:Hp) (s:Shared):Prop where
 ok:X.Ok
 os:s.os=X.s₀.os
 bare:AllBare s.gens
 base:Un X.fs X.ex X.H₀ H X.s₀.heap s.heap
 loc:∃m,s.heap.Ns X.env.locals m/\∀(i:Nat)(x:Str)(v:V),X.N[i]?\x->σ[i]?\(some v)->nz X.env.scope x->∃u,RelV v u/\Look X.env s.heap m x u
 cell:∀x c,X.env.cells.lookup x\c->∃v,s.heap.IsCell c v
 free:H X.env.locals=none
 freeC:∀x c,X.env.cells.lookup x\c->H c=none
 pin:∀p∈X.pn++pins,s.heap.get? p.1\p.2/\H p.1=none/\p.1≠X.env.locals/\p.1∉X.fs/\∀v,p.2.data≠ .cell v
 hok:gx X.prog X.w H s.heap
 len:σ.length=X.N.length
section
variable {X:Cx} {pins:List (Addr×Obj)} {σ:List (Option V)} {H H':Hp} {s:Shared} {h':Heap}
def Cx.Ok.aaq(ok:X.Ok)(e:X.base.get? b\o):b∉X.fs:=λa=>by
 have:=(ok.funs.mem a).1
 rw[e] at this;cases this
theorem Inv.bs(I:Inv X pins σ H s):∀b o,X.base.get? b\o->s.heap.get? b\o/\H b=none:=λb o e=>
 #[I.base.keep b o (I.ok.bs b o e).1 (I.ok.bs b o e).2 (I.ok.aaq e) (I.ok.noex b o e),I.base.free b o (I.ok.bs b o e).1 (I.ok.bs b o e).2 (I.ok.noex b o e)]
def Inv.bk(I:Inv X pins σ H s):∀b o,X.base.get? b\o->s.heap.get? b\o:=λb o e=>(I.bs b o e).1
theorem Inv.mod(I:Inv X pins σ H s):Mod X.K X.mg X.base:=I.ok.mod
def Inv.dW(I:Inv X pins σ H s):X.K.In s.heap:=I.ok.mod.kin.keeps I.bk
theorem Inv.lt(I:Inv X pins σ H s):X.env.locals<s.heap.objs.size:=let #[_,a,_]:=I.loc;a.lt
def Inv.sz(I:Inv X pins σ H s):X.s₀.heap.objs.size<=s.heap.objs.size:=iq I.ok.above (pb I.lt)
def Inv.UI(I:Inv X pins σ H s)(h:s.heap.objs.size<=a):a∉X.fs:=λb=>by
 obtain⟨_,o,c,_⟩:=I.ok.funs.mem b;exact absurd (cP (Do c) (iq I.sz h)) (jy _)
def Inv.wN(I:Inv X pins σ H s):∀x c,X.env.cells.lookup x\c->c≠X.env.locals:=λx c e z=>by
 obtain⟨v,o,a,b⟩:=I.cell x c e;obtain⟨m,⟨g,h,i,d,f,_⟩,_⟩:=I.loc;rw[z,d] at a;cases a;rw[f] at b;cases b
theorem Inv.funs(I:Inv X pins σ H s):s.heap.FunFrames X.base X.outer:=by
 have all:∀(l:List Env),(∀b∈rQ l,b∈X.fs)->X.s₀.heap.FunFrames X.base l->s.heap.FunFrames X.base l:=by
  intro l
  induction l with
  |nil=>intro _ _;trivial
  |cons env r g=>
   intro f h;rfl';obtain⟨j,⟨L,o,a,k,m,n⟩,p⟩:=h;have c:L∈X.fs:=f L (by unfold rQ;rw[ac2,a];exact dB)
   obtain⟨t,e⟩:=I.base.slot L o m (I.ok.frf L c) c λz=>I.ok.exfs L z c;ac_rfl;exact#[j,#[L,_,a,k,e,n],g (λb d=>f b (by unfold rQ;rw[ac2,a];exact eW _ d)) p]
 exact all X.outer (λ_ d=>d) I.ok.funs
theorem Inv.stack(I:Inv X pins σ H s):s.heap.FunFrames X.base X.stack:=by
 rcases I.ok.stk with e| ⟨e,a⟩
 .rw[e];exact I.funs
 .rw[e]
  obtain⟨m,b,_⟩:=I.loc;refine .cons (by rw[I.ok.kind];decide) a b ?_ I.funs
  exact Heap.get?_none_of_le (iq I.ok.bsz I.ok.above)
def Inv.Dh(I:Inv X pins σ H s):∀b∈rQ X.stack,b∈X.env.locals::X.fs:=λb a=>by
 rcases I.ok.stk with e| ⟨e,c⟩
 .rw[e] at a;exact eW _ a
 .rw[e] at a
  unfold rQ at a;rw[ac2,c] at a;exact a
def Inv.yD(I:Inv X pins σ H s):∀b∈rQ X.stack,H b=none:=λb a=>by
 rcases eL.mp (I.Dh b a) with e|a
 .rw[e];exact I.free
 .obtain⟨_,o,c,_⟩:=I.ok.funs.mem a
  exact I.base.free b o c (I.ok.frf b a) λz=>I.ok.exfs b z a
def Inv.step{g':Array GenState}{d':Drawn}{ch:List Addr}(I:Inv X pins σ H s)
  (t:∀b∈ch,(b∈X.ex\/X.s₀.heap.objs.size<=b)/\b≠X.env.locals/\(∀x c,X.env.cells.lookup x\c->c≠b)/\∀p∈X.pn++pins,p.1≠b)
  (keep:∀b o,b≠X.env.locals->b∉X.fs->b∉ch->s.heap.get? b\o->H b=none->h'.get? b\o)
  (slot:∀b o,b≠X.env.locals->b∈X.fs->b∉ch->s.heap.get? b\o->H b=none->∃G,h'.get? b\{o with slots:=G}) (free:∀b o,b∉ch->s.heap.get? b\o->H b=none->H' b=none)
  (there:∀b o,b∉ch->s.heap.get? b\o->∃y,h'.get? b\y)
  (tups:∀b xs,H b\(.tup xs)->H' b\(.tup xs)) (frzs:∀b o u,H b\(.qK o u)->H' b\(.qK o u)) (tbls:∀b E,H b\(.FP E)->∃more,H' b\(.FP (E++more)))
  (O:∀m,s.heap.Ns X.env.locals m->h'.Ns X.env.locals m) (hok:gx X.prog X.w H' h') (P:AllBare g'):
  Inv X pins σ H' {s with heap:=h',gens:=g',drawn:=d',toks:=t'}:=by
 have A:∀b o,X.s₀.heap.get? b\o->b≠X.env.locals:=λb o e=>bE (cP (Do e) I.ok.above)
 have F:∀b o,X.s₀.heap.get? b\o->b∉X.ex->b∉ch:=λb o e a h=>by
  rcases(t b h).1 with z|z
  .exact a z
  .exact absurd (cP (Do e) z) (jy _)
 have f:∀x c,X.env.cells.lookup x\c->∀v,s.heap.IsCell c v->h'.IsCell c v:=λx c e v #[o,j,J]=>by
  have B:c∉ch:=λz=>(t c z).2.2.1 x c e rfl
  by_cases L:c∈X.fs
  .obtain⟨G,q⟩:=slot c o (I.wN x c e) L B j (I.freeC x c e)
   exact#[_,q,J]
  .exact#[o,keep c o (I.wN x c e) L B j (I.freeC x c e),J]
 refine#[I.ok,I.os,P,#[λb o e n h a=>?_,λb o e n h a=>?_,λb o e n a=>?_,λb o e a=>?_,λb xs e=>tups b xs (I.base.tups b xs e),λb o xs e=>frzs b o xs (I.base.frzs b o xs e),λb E e=>?_],?_,λx c e=>?_,?_,λx c e=>?_,λp M=>?_,hok,I.len]
 .exact keep b o (A b o e) h (F b o e a) (I.base.keep b o e n h a) (I.base.free b o e n a)
 .obtain⟨G,g⟩:=I.base.slot b o e n h a
  obtain⟨Q,C⟩:=slot b _ (A b o e) h (F b o e a) g (I.base.free b o e n a);exact#[Q,C]
 .obtain⟨y,g⟩:=I.base.there b o e a
  exact free b y (F b o e a) g (I.base.free b o e n a)
 .obtain⟨y,g⟩:=I.base.there b o e a
  exact there b y (F b o e a) g
 .obtain⟨R,g⟩:=I.base.tbls b E e
  obtain⟨S,C⟩:=tbls b _ g;exact#[R++S,by rw[C,Array.append_assoc]]
 .obtain⟨m,T,Y⟩:=I.loc
  refine#[m,O m T,λi x v g C Z=>?_];obtain⟨u,r,l⟩:=Y i x v g C Z;exists u,r
  rcases l with l| ⟨k,c,e,z⟩
  .exact .inl l
  .exact .inr #[k,c,e,f x c e _ z]
 .obtain⟨v,z⟩:=I.cell x c e
  exact#[v,f x c e v z]
 .obtain⟨m,⟨o,_,_,j,_⟩,_⟩:=I.loc
  exact free _ o (λz=>(t _ z).2.1 rfl) j I.free
 .obtain⟨v,o,j,J⟩:=I.cell x c e
  exact free c o (λz=>(t c z).2.2.1 x c e rfl) j (I.freeC x c e)
 .obtain⟨e,n,ne,N,d⟩:=I.pin p M
  have B:p.1∉ch:=λz=>(t p.1 z).2.2.2 p M rfl;exact#[keep p.1 p.2 ne N B e n,free p.1 p.2 B e n,ne,N,d]
def Inv.un{t':Nat}(I:Inv X pins σ H s)(u:Un X.fs [] H H' s.heap h')(hok:gx X.prog X.w H' h'):Inv X pins σ H' {s with heap:=h',toks:=t'}:=by
 rfl';obtain⟨m,⟨o,p,q,d,r⟩,_⟩:=id I.loc;obtain⟨t,h⟩:=u.any d I.free (by simp)
 ac_rfl
 exact I.step (g':=s.gens) (d':=s.drawn) (ch:= []) (λ_ z=>nomatch z) (λb o _ c _ e n=>u.keep b o e n c (by simp)) (λb o _ c _ e n=>u.slot b o e n c (by simp)) (λb o _ e n=>u.free b o e n (by simp)) (λb o _ e=>u.there b o e (by simp)) u.tups u.frzs u.tbls (λv i=>by
  rfl';obtain⟨x,j,k,f,l⟩:=i;ac_rfl;rw[d] at f;cases f;exact#[_,j,k,h,l]) hok I.bare
def Inv.call{g':Array GenState}{t':Nat}{d':Drawn}{ch:List Addr}(I:Inv X pins σ H s)(u:Un (rQ X.stack) ch H H' s.heap h')(hok:gx X.prog X.w H' h')(j:AllBare g')
  (g:∀b∈ch,(b∈X.ex\/X.s₀.heap.objs.size<=b)/\b≠X.env.locals/\(∀x c,X.env.cells.lookup x\c->c≠b)/\∀p∈X.pn++pins,p.1≠b):
  Inv X pins σ H' {s with heap:=h',gens:=g',drawn:=d',toks:=t'}:=by
 rfl';obtain⟨m,⟨o,A,B,h,r⟩,_⟩:=id I.loc;obtain⟨C,f⟩:=u.any h I.free λz=>(g _ z).2.1 rfl;ac_rfl
 exact I.step (ch:=ch) g (λb o f l a e n=>u.keep b o e n (λz=>(eL.mp (I.Dh b z)).elim f l) a) (λb o _ _ a e n=>u.any e n a) (λb o a e n=>u.free b o e n a) (λb o a e=>u.there b o e a) u.tups u.frzs u.tbls (λE q=>by
  rfl';obtain⟨F,t,v,i,y⟩:=q;ac_rfl;rw[h] at i;cases i;exact#[_,t,v,f,y]) hok j
def Inv.turned{t':Nat}{it:Addr}(I:Inv X pins σ H s)(k:∀b o,b≠it->s.heap.get? b\o->h'.get? b\o)(g:H it=none)(f:it≠X.env.locals)
  (h:it∈X.ex\/X.s₀.heap.objs.size<=it) (i:∀x c,X.env.cells.lookup x\c->c≠it) (j:∀p∈X.pn++pins,p.1≠it):Inv X pins σ H {s with heap:=h',toks:=t'}:=by
 have d:∀b u,H b\u->b≠it:=λb u e z=>by rw[z,g] at e;cases e
 refine I.step (g':=s.gens) (d':=s.drawn) (ch:= [it]) (λb l=>?_) (λb o _ _ a e _=>k b o (λz=>a (by simp[z])) e) (λb o _ _ a e _=>#[o.slots,k b o (λz=>a (by simp[z])) e]) (λ_ _ _ _ n=>n)
  (λb o a e=>#[o,k b o (λz=>a (by simp[z])) e]) (λ_ _ e=>e) (λ_ _ _ e=>e) (λb B e=>#[#[],by rw[e];simp]) (λm t=>?_) (λb u e=>?_) I.bare
 .have e:b=it:=by simpa using l
  subst e;exact#[h,f,i,j]
 .obtain⟨o,w,y,A,r⟩:=t
  exact#[o,w,y,k _ o (Ne.symm f) A,r]
 .refine(I.hok b u e).mT (λc v a q=>k c v ?_ q) (λ_ q=>q) λ_ _ q=>q
  rcases a with z|z
  .rw[z];exact d b u e
  .exact d c _ z
def Inv.tok(I:Inv X pins σ H s)(t:Nat):Inv X pins σ H {s with toks:=t}:=I.un (h':=s.heap) (t':=t) Un.refl I.hok
theorem Inv.kept{t':Nat}(I:Inv X pins σ H s)(k:∀b u,s.heap.get? b\u->h'.get? b\u):Inv X pins σ H {s with heap:=h',toks:=t'}:=I.un (Un.kept k) (I.hok.kept k)
theorem Inv.laid{a:Addr}{o:HO}{t':Nat}(I:Inv X pins σ H s)(k:∀b u,s.heap.get? b\u->h'.get? b\u)(c:s.heap.objs.size<=a)(new:cg X.prog X.w (upd H a o) h' a o):
  Inv X pins σ (upd H a o) {s with heap:=h',toks:=t'}:=I.un (Un.laid k c (I.hok.fresh c)) (I.hok.laid k c new)
theorem Inv.write{x e:Addr}{o:HO}{t':Nat}(I:Inv X pins σ H s)(a:MP (H x))(c:e=x\/H e\(.own x))(k:∀b u,b≠e->s.heap.get? b\u->h'.get? b\u)(d:∃u,h'.get? e\u)
  (new:cg X.prog X.w (upd H x o) h' x o):Inv X pins σ (upd H x o) {s with heap:=h',toks:=t'}:=I.un (Un.write a c k d) (I.hok.write a c k d new)
def Inv.sE(I:Inv X pins σ H s)(h:∀p∈a,s.heap.get? p.1\p.2/\H p.1=none/\p.1≠X.env.locals/\p.1∉X.fs/\∀v,p.2.data≠ .cell v):Inv X a σ H s:=
 #[I.ok,I.os,I.bare,I.base,I.loc,I.cell,I.free,I.freeC,λp b=>(c5.mp b).elim (λz=>I.pin p (km _ z)) (h p),I.hok,I.len]
def uA{N:List Str}(c:N.Nodup){i j:Nat}{x:Str}(a:N[i]?\x)(b:N[j]?\x):i=j:=by
 obtain⟨f,d⟩:=cw.mp a;obtain⟨g,e⟩:=cw.mp b;exact(adA c).mp (d.trans e.symm)
def store_ok2(I:Inv X pins σ H s)(hN:X.N.Nodup)(O:X.N[i]?\x)(B:Loc X.env.scope x)(r:RelV v u)
  (h:∀S,Inv X pins (σ.set i (some v)) H S->(∃a,Heap.SameBut a s.heap S.heap/\(a=X.env.locals\/X.env.cells.lookup x\a))->Q ⟨⟩ S) (hf:X.fn x=true\/X.env.scope.names.lookup x\.local:=by subst_eqs):wpAny M A (storeName X.env x u) Q E s:=by
 obtain⟨m,T,hl⟩:=id I.loc;have EH:(X.env.scope.kind== .class|| (X.env.scope.kind== .module&&X.env.locals !=X.env.globals))=false:=by rw[I.ok.kind];rfl
 have JF:i<σ.length:=by rw[I.len];exact(cw.mp O).1
 have wN:=I.wN
 have g:∀{a:Addr}{L:Heap},(∃o,s.heap.get? a\o/\H a=none)->Heap.SameBut a s.heap L->gx X.prog X.w H L:=λ {a L} ha f b ob e=>by
  obtain⟨_,_,B3⟩:=ha;refine(I.hok b ob e).mT (λc P t q=>(f.2 c ?_).trans q) (λ_ q=>q) λ_ _ q=>q;rintro rfl
  rcases t with rfl|t
  .rw[B3] at e;cases e
  .rw[B3] at t;cases t
 rcases B with F|F
 .refine wpAny_storeName_local F T (λL B8 f=>?_) EH
  obtain⟨oL,_,_,xu,_⟩:=id T;refine h _ #[I.ok,I.os,I.bare,#[λb o e n G B=>?_,λb o e n G B=>?_,I.base.free,λb o e B=>?_,I.base.tups,I.base.frzs,I.base.tbls],#[_,B8,λj y Y l C Z=>?_],λy c e=>?_,I.free,I.freeC,λp hp=>?_,g #[oL,xu,I.free] f,by simpa using I.len] #[_,f, .inl rfl]
  .exact(f.2 b (bE (cP (Do e) I.ok.above))).trans (I.base.keep b o e n G B)
  .obtain⟨sl,l⟩:=I.base.slot b o e n G B
   exact#[sl,(f.2 b (bE (cP (Do e) I.ok.above))).trans l]
  .obtain⟨o',l⟩:=I.base.there b o e B
   exact#[o',(f.2 b (bE (cP (Do e) I.ok.above))).trans l]
  .by_cases J:j=i
   .subst J
    rw[O] at l;cases l;rw[kO JF] at C;cases C;exact#[u,r, .inl #[F,by simp]]
   .rw[jb (Ne.symm J)] at C
    obtain⟨u',r',q⟩:=hl j y Y l C Z;exists u',r'
    rcases q with ⟨k,e⟩ | ⟨k,c,e,z⟩
    .refine .inl #[k,?_]
     have:y≠x:=λe=>J (uA hN l (e▸O))
     simp[this,e]
    .exact .inr #[k,c,e,z.sameBut f (wN y c e)]
  .obtain⟨P,z⟩:=I.cell y c e
   exact#[P,z.sameBut f (wN y c e)]
  .obtain⟨e,n,ne,nf,d⟩:=I.pin p hp
   exact#[(f.2 p.1 ne).trans e,n,ne,nf,d]
 .have WA:X.fn x=true:=by
   rcases hf with z|z
   .exact z
   .rw[z] at F;cases F
  obtain⟨c,t⟩:=I.ok.has x (.inl F);obtain⟨P,z⟩:=I.cell x c t;refine wpAny_storeName_cell I.ok.kind F t z (λL m6 f=>?_);obtain⟨oc,ZZ,Z0⟩:=id z;refine h {s with heap:=L} #[I.ok,I.os,I.bare,#[λb o e n G B=>?_,λb o e n G B=>?_,I.base.free,λb o e B=>?_,I.base.tups,I.base.frzs,I.base.tbls],#[m,T.sameBut f (Ne.symm (wN x c t)),λj y Y l C Z=>?_],λy R e=>?_,I.free,I.freeC,λp hp=>?_,g #[oc,ZZ,I.freeC x c t] f,by simpa using I.len] #[c,f, .inr t]
  .exact(f.2 b (bE (cP (Do e) (I.ok.cab x c WA t)))).trans (I.base.keep b o e n G B)
  .obtain⟨sl,l⟩:=I.base.slot b o e n G B
   exact#[sl,(f.2 b (bE (cP (Do e) (I.ok.cab x c WA t)))).trans l]
  .obtain⟨o',l⟩:=I.base.there b o e B
   exact#[o',(f.2 b (bE (cP (Do e) (I.ok.cab x c WA t)))).trans l]
  .by_cases J:j=i
   .subst J
    rw[O] at l;cases l;rw[kO JF] at C;cases C;exact#[u,r, .inr #[.inl F,c,t,m6]]
   .rw[jb (Ne.symm J)] at C
    obtain⟨u',r',q⟩:=hl j y Y l C Z;exists u',r'
    rcases q with q| ⟨k,R,e,z'⟩
    .exact .inl q
    .refine .inr #[k,R,e,z'.sameBut f ?_]
     rintro rfl;exact J (uA hN l (I.ok.inj _ _ _ e t▸O))
  .by_cases Zt:R=c
   .subst Zt;exact#[_,m6]
   .obtain⟨w2,z2⟩:=I.cell y R e
    exact#[w2,z2.sameBut f Zt]
  .obtain⟨e,n,ne,nf,d⟩:=I.pin p hp
   refine#[(f.2 p.1 ?_).trans e,n,ne,nf,d];intro q;rw[q,ZZ] at e;have q':oc=p.2:=Da e;exact d P (by rw[<-q'];exact Z0)
def jO{x:Str}{v:V}(I:Inv X pins σ H s)(b:X.N.Nodup)(c:X.N[i]?\x)(d:Loc X.env.scope x)(r:RelV v u)
  (h:∀a,Inv X pins (σ.set i (some v)) H a->Q ⟨⟩ a) (e:X.fn x=true\/X.env.scope.names.lookup x\.local:=by subst_eqs):wpAny M A (storeName X.env x u) Q E s:=
 store_ok2 I b c d r (λa f _=>h a f) e
def Inv.Gm{s':Shared}{ch:List Addr}(I:Inv X pins σ H s)(a:s'.os=s.os)(u:Un (rQ X.stack) ch H H' s.heap s'.heap)(hok:gx X.prog X.w H' s'.heap)(d:AllBare s'.gens)
  (f:∀b∈ch,(b∈X.ex\/X.s₀.heap.objs.size<=b)/\b≠X.env.locals/\(∀x c,X.env.cells.lookup x\c->c≠b)/\∀p∈X.pn++pins,p.1≠b):Inv X pins σ H' s':=by
 obtain⟨h,g',d',t',g⟩:=s';have e:g=s.os:=a;subst e;exact I.call (g':=g') (t':=t') (d':=d') u hok d f
end
abbrev XK:=Value->Option Addr->Hp->Prop
abbrev St:=List (Option V)
abbrev VK:=V->Hp->Prop
abbrev TE:=St->Hp->VK->Prop
abbrev TT:=St->Hp->(Bool->Hp->Prop)->Prop
abbrev TA:=St->Hp->(List V->Hp->Prop)->Prop
structure Ends where
 nx:St->Hp->Prop
 rt:VK
 bk:St->Hp->Prop:=λ_ _=>False
 ct:St->Hp->Prop:=λ_ _=>False
abbrev TS:=Ends->St->Hp->Prop
def EP(X:Cx)(a:List (Addr×Obj))(c:St)(Q:VK)(u:Value)(d:Shared):Prop:=∃v b,Inv X a c b d/\RelV v u/\Q v b
def TP(X:Cx)(a:List (Addr×Obj))(d:St)(Q:Bool->Hp->Prop)(b:Bool)(e:Shared):Prop:=∃c,Inv X a d c e/\Q b c
def AP(X:Cx)(a:List (Addr×Obj))(d:St)(Q:List V->Hp->Prop)(e:List Value)(f:Shared):Prop:=∃b c,Inv X a d c f/\Vals b e/\Q b c
def SP(X:Cx)(a:List (Addr×Obj))(D:Ends)(f:Flow)(d:Shared):Prop:=
 match f with
 | .next=>∃c b,Inv X a c b d/\D.nx c b
 | .brk=>∃c b,Inv X a c b d/\D.bk c b
 | .cont=>∃c b,Inv X a c b d/\D.ct c b
 | .ret u=>∃v c b,Inv X a c b d/\RelV v u/\D.rt v b
def PE(X:Cx)(e:Expr)(t:TE):Prop:=
 ∀(a:List (Addr×Obj))(s:Shared)(b:St)(H:Hp)(Q:VK),Inv X a b H s->t b H Q->wpAny (model X.prog X.w) X.A (eval e X.env) (EP X a b Q) X.xe s
def PT(X:Cx)(e:Expr)(t:TT):Prop:=
 ∀(a:List (Addr×Obj))(s:Shared)(b:St)(H:Hp)(Q:Bool->Hp->Prop),Inv X a b H s->t b H Q->wpAny (model X.prog X.w) X.A (isTrue e X.env (eval e X.env)) (TP X a b Q) X.xe s
def PW(X:Cx)(e:Expr)(t:TT):Prop:=
 ∀(b:Sem Value)(a:List (Addr×Obj))(s:Shared)(c:St)(H:Hp)(Q:Bool->Hp->Prop),Inv X a c H s->t c H Q->wpAny (model X.prog X.w) X.A (isTrue e X.env b) (TP X a c Q) X.xe s
def PW.pt(h:PW X e t):PT X e t:=h _
def PA(X:Cx)(d:List Expr)(t:TA):Prop:=
 ∀(b:Pos)(a:List (Addr×Obj))(s:Shared)(c:St)(H:Hp)(Q:List V->Hp->Prop),Inv X a c H s->t c H Q->wpAny (model X.prog X.w) X.A (spliced (backTo b (starEach d X.env))) (AP X a c Q) X.xe s
def PS(X:Cx)(st:Stmt)(t:TS):Prop:=
 ∀(a:List (Addr×Obj))(s:Shared)(b:St)(H:Hp)(D:Ends),Inv X a b H s->t D b H->wpAny (model X.prog X.w) X.A (exec st X.env) (SP X a D) X.xe s
def jz(X:Cx)(st:List Stmt)(t:TS):Prop:=
 ∀(a:List (Addr×Obj))(s:Shared)(b:St)(H:Hp)(D:Ends),Inv X a b H s->t D b H->wpAny (model X.prog X.w) X.A (execs st X.env) (SP X a D) X.xe s
def thn{Q c:b->Shared->Prop}(h:wpAny M A t Q E s)(d:∀a s,Q a s->c a s):wpAny M A t c E s:=wpAny_mono h d λ_ _ x=>x
section
variable {X:Cx}
def vt(i:Nat):TE:=λa H Q=>∃v,a[i]?\(some v)/\Q v H
def tC(v:V):TE:=λ_ H Q=>Q v H
def CW(k:X.N[i]?\x)(n:nz X.env.scope x)(f:(x==("__debug__":Str))=false:=by decide)(o:(x==("__classdict__":Str))=false:=by decide):PE X (.Name x d) (vt i):=by
 intro b s p H Q I h;rfl';obtain⟨v,e,h⟩:=h;obtain⟨m,t,w⟩:=I.loc;obtain⟨u,r,l⟩:=w i x v k e n;have fin:EP X b p Q u s:=#[v,H,I,r,h];ac_rfl
 rcases l with ⟨a,y⟩ | ⟨a,c,g,j⟩
 .exact wpAny_Name (wpAny_loadName_local I.ok.kind a t y fin) f
 .rcases a with a|a
  .exact wpAny_Name (wpAny_loadName_cell I.ok.kind a g j fin) f
  .exact wpAny_Name (wpAny_loadName_free I.ok.kind a g j fin o) f
def aS{i j pos}:PE X (.Constant (.int i) j pos) (tC (.int i)):=λ_ _ _ H _ I h=>wpAny_Constant_int #[.int i,H,I.tok _,#[_,rfl],h]
def Xz{b j pos}:PE X (.Constant (.bool b) j pos) (tC (.bl b)):=λ_ _ _ H _ I h=>Constant_bool #[.bl b,H,I,rfl,h]
def SE{j pos}:PE X (.Constant .none j pos) (tC .aL):=λ_ _ _ H _ I h=>Constant_none #[.aL,H,I,rfl,h]
def JQ{x j pos}:PE X (.Constant (.str x) j pos) (tC (.str x)):=λ_ _ _ H _ I h=>Calls.Constant_str #[.str x,H,I.tok _,#[_,rfl],h]
def Gl(X:Cx)(x:Str):Prop:=X.env.kindOf x\.globalImplicit
def jZ(I:Inv X a c H s)(d:Gl X x)(e:X.mg x\u)(h:Q u s)
  (f:(x==("__debug__":Str))=false:=by decide):wpAny (model X.prog X.w) X.A (eval (.Name x b) X.env) Q E s:=
 adj I.ok.kind d (Calls.loadGlobal_global (by rw[I.ok.glob];exact I.mod.glob.keeps I.bk) e h) f
def jE{u:Value}(I:Inv X a c H s)(d:Gl X x)(e:X.mg x=none)(f:bootBuiltins x\u)(h:Q u s)
  (g:x≠"__name__":=by decide) (i:(x==("__debug__":Str))=false:=by decide):wpAny (model X.prog X.w) X.A (eval (.Name x b) X.env) Q E s:=by
 obtain⟨l,j,k⟩:=I.mod.blt;exact adj I.ok.kind d (Calls.loadGlobal_builtin (by rw[I.ok.glob];exact I.mod.glob.keeps I.bk) e (by rw[I.ok.blt];exact j.keeps I.bk) ((k x g).trans f) h) i
def Fj{v:V}(b:Gl X x)(c:X.mg x\u)(r:RelV v u)(d:(x==("__debug__":Str))=false:=by decide):PE X (.Name x a) (tC v):=
 λ_ _ _ H _ I h=>jZ I b c #[v,H,I,r,h] d
def Fh(b:Gl X x)(c:X.mg x=none)(d:bootBuiltins x\u)(r:RelV v u)(e:x≠"__name__":=by decide)(f:(x==("__debug__":Str))=false:=by decide):PE X (.Name x a) (tC v):=
 λ_ _ _ H _ I h=>jE I b c d #[v,H,I,r,h] e f
variable {a b:Expr} {ta tb:TE} {pos:Pos}
def tB(t:TE):TT:=λd H Q=>t d H λx e=>∃c,x= .bl c/\Q c e
def SR(h:PE X e t)(g:∀c,isTrue e X.env c=(do let v <-c;standAt e.pos;holding [v] (truthy v)):=by intro _;rfl):PT X e (tB t):=by
 intro f s i H Q I hw;refine isTrue_plain (thn (h f s i H _ I hw) λv n #[x,j,k,l,m]=>?_) (g _);obtain⟨d,rfl,q⟩:=m;cases l;exact SB #[j,k,q]
variable {tA IF:TT} {rest:List Expr}
def aaO(t u:TT):TT:=λd H Q=>t d H λc e=>if c=true then u d e Q else Q false e
def tOr(t u:TT):TT:=λd H Q=>t d H λc e=>if c=true then Q true e else u d e Q
def aaV(t:TT):TT:=λd H Q=>t d H λc e=>Q (!c) e
def Fs(f:PT X a tA):PW X (.BoolOp .And [a] pos) tA:=by
 intro i d s g H Q I h;refine isTrue_and (thn (f d s g H Q I h) λc j e=>?_);cases c with
 |true=>exact isTrue_and_nil e
 |false=>exact e
def JU(f:PT X a tA):PW X (.BoolOp .Or [a] pos) tA:=by
 intro i d s g H Q I h;refine isTrue_or (thn (f d s g H Q I h) λc j e=>?_);cases c with
 |false=>exact isTrue_or_nil e
 |true=>exact e
def JT(j:PT X a tA)(k:PW X (.BoolOp .And (b::rest) pos) IF):PW X (.BoolOp .And (a::b::rest) pos) (aaO tA IF):=by
 intro l d s e H Q I h;refine isTrue_and (thn (j d s e H _ I h) λc m #[f,g,i]=>?_);cases c with
 |true=>exact k l d m e f Q g i
 |false=>exact#[f,g,i]
def PK(j:PT X a tA)(k:PW X (.BoolOp .Or (b::rest) pos) IF):PW X (.BoolOp .Or (a::b::rest) pos) (tOr tA IF):=by
 intro l d s e H Q I h;refine isTrue_or (thn (j d s e H _ I h) λc m #[f,g,i]=>?_);cases c with
 |true=>exact#[f,g,i]
 |false=>exact k l d m e f Q g i
def JR(e:PT X a tA):PT X (.UnaryOp .Not a pos) (aaV tA):=by
 intro d s f H Q I h;exact isTrue_not (e d s f H (λc g=>Q (!c) g) I h)
def XT(f g:TE):TE:=λd H Q=>f d H λx e=>∃c,x= .bl c/\if c=true then g d e Q else Q (.bl false) e
def X1(d:TE):TE:=λe H Q=>d e H λx f=>∃c,x= .bl c/\Q (.bl (!c)) f
def SH{op}(h:PE X a t):PE X (.BoolOp op [a] pos) t:=λc s d H Q I hw=>BoolOp_one (h c s d H Q I hw)
def Sx(j:PE X a ta)(k:PE X (.BoolOp .And (b::rest) pos) tb):PE X (.BoolOp .And (a::b::rest) pos) (XT ta tb):=by
 intro d s f H Q I h;refine BoolOp_and (thn (j d s f H _ I h) λv l m=>?_);rfl';obtain⟨x,g,i,o,e⟩:=m;obtain⟨c,rfl,e⟩:=e;ac_rfl;subst o;refine SB ?_;cases c with
 |true=>exact k d l f g Q i e
 |false=>exact#[.bl false,g,i,rfl,e]
def SG(f:PE X a ta):PE X (.UnaryOp .Not a pos) (X1 ta):=by
 intro d s g H Q I h;refine UnaryOp_ (thn (f d s g H _ I h) λv n i=>?_);rfl';obtain⟨x,k,l,m,e⟩:=i;obtain⟨c,rfl,e⟩:=e;ac_rfl;subst m;exact not_of (SB #[.bl (!c),k,l,rfl,e])
def tIf(t:TT)(f g:TE):TE:=λd H Q=>t d H λc e=>if c=true then f d e Q else g d e Q
def LY(l:PT X c tA)(m:PE X a ta)(n:PE X b tb):PE X (.IfExp c a b pos) (tIf tA ta tb):=by
 intro e s f H Q I h;refine wpAny_IfExp (thn (l e s f H _ I h) λd g #[i,j,k]=>?_);cases d with
 |true=>exact m e g f i Q j k
 |false=>exact n e g f i Q j k
end
def aG(K:ad)(H:Hp)(a:Addr)(xs:List V):Prop:=
 Rd H a (.lst xs)\/
  ∃(o:Obj)(b:Array Value)(n:Nat),K.lookup a\o/\o.cls= .type "list"/\o.dict=none/\o.data= .seq b n/\b.size<=sizeLine/\Vals xs b.toList
def fe(K:ad)(H:Hp)(a:Addr)(c:List V):Prop:=
 Rd H a (.tup c)\/
  ∃(o:Obj)(b:Array Value)(n:Nat),K.lookup a\o/\o.cls= .type "tuple"/\o.data= .seq b n/\b.size<=sizeLine/\Vals c b.toList
noncomputable def Yq:Value->Option V
 | .none=>some .aL
 | .bool b=>some (.bl b)
 | .int i _=>some (.int i)
 | .str x _=>some (.str x)
 | .bytes b _=>some (.vJ b)
 | .float b _=>some (.GJ b)
 | .ref a=>some (.ref a)
 | .type n=>some (.ty n)
 |_=>none
def RelV.abs{x:V}{u:Value}(r:RelV x u):Yq u\x:=by
 cases x with
 |aL=>cases r;rfl
 |bl _=>cases r;rfl
 |int _=>obtain⟨t,rfl⟩:=r;rfl
 |str _=>obtain⟨t,rfl⟩:=r;rfl
 |vJ _=>obtain⟨t,rfl⟩:=r;rfl
 |GJ _=>obtain⟨t,rfl⟩:=r;rfl
 |ref _=>cases r;rfl
 |ty _=>cases r;rfl
def RelV.inj{x y:V}(r:RelV x u)(q:RelV y u):x=y:=Da (r.abs.symm.trans q.abs)
theorem Vals.inj:∀{a b:List V}{c:List Value},Vals a c->Vals b c->a=b
 |_,_,_, .nil, .nil=>rfl
 |_,_,_, .cons r t, .cons d e=>by rw[r.inj d,Vals.inj t e]
section
variable {X:Cx} {pins:List (Addr×Obj)} {σ:St} {H:Hp} {s:Shared} {a:Addr} {xs ys:List V}
def aG.of{K:ad}(h:H a\(.lst xs)):aG K H a xs:= .inl (.inl h)
def fe.of{K:ad}(h:H a\(.tup xs)):fe K H a xs:= .inl (.inl h)
def Inv.list(I:Inv X pins σ H s)(h:aG X.K H a xs):∃its:List Value,Vals xs its/\PlainL s.heap a its.toArray/\xs.length<=sizeLine:=by
 rcases h with h| ⟨o,its,n,b,c,d,f,g,r⟩
 .obtain⟨z,its,n,r,e⟩:=h.ok I.hok
  exact#[its,r,#[_,n,e,rfl,rfl,rfl],z]
 .refine#[its.toList,r,#[o,n,I.dW a o b,c,d,by simpa using f],?_]
  have e:=r.length;simp only[cO] at e;lia
def Inv.tuple(I:Inv X pins σ H s)(h:fe X.K H a xs):∃its:List Value,Vals xs its/\IsTup s.heap a its.toArray/\xs.length<=sizeLine:=by
 rcases h with h| ⟨o,its,n,b,c,d,f,r⟩
 .obtain⟨z,its,r,p⟩:=h.ok I.hok
  exact#[its,r,p,z]
 .refine#[its.toList,r,#[o,I.dW a o b,c,n,by simpa using d],?_]
  have e:=r.length;simp only[cO] at e;lia
def Inv.AY(I:Inv X pins σ H s)(h:aG X.K H a xs)(h':aG X.K H a ys):xs=ys:=by
 rfl';obtain⟨c,r,⟨o,n,e,_,_,d⟩,_⟩:=I.list h;obtain⟨b,j,⟨m,p,f,_,_,g⟩,_⟩:=I.list h';ac_rfl;rw[e] at f;cases f;rw[d] at g
 injection g with k _
 have:c=b:=by simpa using On Array.toList k
 subst this;exact r.inj j
end
abbrev Cx.qo(X:Cx)(E:Value->Shared->Prop):Cx:={X with xe:=E}
abbrev Cx.ku(X:Cx):Cx:=X.qo λ_ _=>False
theorem Cx.Ok.qo{X:Cx}(ok:X.Ok)(E:Value->Shared->Prop):(X.qo E).Ok:=
 #[ok.mod,ok.kind,ok.glob,ok.blt,ok.above,ok.inj,ok.has,ok.cab,ok.hd,ok.frames,ok.stk,ok.exf,ok.bs,ok.bsz,ok.noex,ok.exfs,ok.funs,ok.frf]
def Cx.Ok.kM{X:Cx}(ok:(X.qo E).Ok):X.Ok:=
 #[ok.mod,ok.kind,ok.glob,ok.blt,ok.above,ok.inj,ok.has,ok.cab,ok.hd,ok.frames,ok.stk,ok.exf,ok.bs,ok.bsz,ok.noex,ok.exfs,ok.funs,ok.frf]
section
variable {X:Cx} {pins:List (Addr×Obj)} {σ:St} {H:Hp} {s:Shared} {E:Value->Shared->Prop}
theorem Inv.qo(I:Inv X pins σ H s)(E:Value->Shared->Prop):Inv (X.qo E) pins σ H s:=#[I.ok.qo E,I.os,I.bare,I.base,I.loc,I.cell,I.free,I.freeC,I.pin,I.hok,I.len]
theorem Inv.kM(I:Inv (X.qo E) pins σ H s):Inv X pins σ H s:=#[I.ok.kM,I.os,I.bare,I.base,I.loc,I.cell,I.free,I.freeC,I.pin,I.hok,I.len]
theorem SP.kM{D:Ends}{f:Flow}{s':Shared}(h:SP (X.qo E) pins D f s'):SP X pins D f s':=by
 cases f with
 |next=>obtain⟨ax,H',I,q⟩:=h;exact#[ax,H',I.kM,q]
 |brk=>obtain⟨ax,H',I,q⟩:=h;exact#[ax,H',I.kM,q]
 |cont=>obtain⟨ax,H',I,q⟩:=h;exact#[ax,H',I.kM,q]
 |ret u=>obtain⟨v,ax,H',I,r,q⟩:=h;exact#[v,ax,H',I.kM,r,q]
theorem jz.ku{st:List Stmt}{t:TS}(h:jz X.ku st t):jz X st t:=λa s b H D I hw=>
 wpAny_mono (h a s b H D (I.qo _) hw) (λ_ _ q=>q.kM) λ_ _ z=>False.elim z
end
section
variable {X:Cx} {st:Stmt} {rest:List Stmt} {t u:TS} {e:Expr} {te:TE} {pos:Pos}
def X0:TS:=λD a H=>D.nx a H
def Qo(t u:TS):TS:=λD a H=>t {D with nx:=u D} a H
def lN:jz X [] X0:=λ_ _ a H _ I h=>acT #[a,H,I,h]
def aC(h1:PS X st t)(h2:jz X rest u):jz X (st::rest) (Qo t u):=by
 intro pins s σ H D I h;refine wpAny_execs_cons (thn (h1 pins s σ H {D with nx:=u D} I h) λf s1 q=>?_)
 cases f with
 |next=>
  obtain⟨ax,H',I',q⟩:=q;exact h2 pins s1 ax H' D I' q
 |ret v=>exact q
 |brk=>exact q
 |cont=>exact q
def bB(h1:PS X st t):jz X [st] t:=by
 intro pins s σ H D I h;refine wpAny_execs_cons (thn (h1 pins s σ H D I h) λf s1 q=>?_);cases f with
 |next=>exact wpAny_execs_nil q
 |ret v=>exact q
 |brk=>exact q
 |cont=>exact q
def Inv.quiet(I:Inv X a b H s):interactive X.env=false:=by simp[interactive,I.ok.kind]
def XX(b:TE):TS:=λD a H=>b a H λ_ c=>D.nx a c
def cY(c:PE X e te)(d:swapsWith e none pos.line X.env=pure false:=by rfl):PS X (.Expr e pos) (XX te):=by
 intro a s b H D I h;exact wpAny_Expr_any (thn (c a s b H _ I h) λv j #[x,f,g,k,i]=>#[b,f,g,i]) I.quiet d
def U2(a:TE):TS:=λD b H=>a b H D.rt
def gr(c:PE X e te):PS X (.Return (some e) pos) (U2 te):=by
 intro a s b H D I h;exact wpAny_Return_some (thn (c a s b H _ I h) λv j #[x,d,f,g,i]=>#[x,b,d,f,g,i])
def aaT(c:TT)(t u:TS):TS:=λD a H=>c a H λb d=>if b=true then t D a d else u D a d
def uE{i:TT}(n:PT X c i)(o:jz X a t)(p:jz X b u):PS X (.If c a b pos) (aaT i t u):=by
 intro f s g H D I h;refine wpAny_If (thn (n f s g H _ I h) λd j #[k,l,m]=>?_);cases d with
 |true=>exact o f j g k D l m
 |false=>exact p f j g k D l m
def Tv:TS:=λ_ _ _=>False
def Mb:PS X st Tv:=λ_ _ _ _ _ _ h=>h.elim
end
abbrev TG:=V->St->Hp->(St->Hp->Prop)->Prop
abbrev zj:=List V->St->Hp->(St->Hp->Prop)->Prop
def PG(X:Cx)(a:Expr)(t:TG):Prop:=
 ∀(b:List (Addr×Obj))(s:Shared)(c:St)(H:Hp)(v:V)(u:Value)(Q:St->Hp->Prop),Inv X b c H s->RelV v u->t v c H Q->
  wpAny (model X.prog X.w) X.A (assign a X.env u) (λ_ f=>∃d e,Inv X b d e f/\Q d e) X.xe s
def Bv(X:Cx)(g:List Expr)(t:zj):Prop:=
 ∀(a:List (Addr×Obj))(s:Shared)(b:St)(H:Hp)(c:List V)(d:List Value)(Q:St->Hp->Prop),Inv X a b H s->Vals c d->t c b H Q->
  wpAny (model X.prog X.w) X.A (assignInOrder ((assignEach g X.env).map (·.2)) d) (λ_ h=>∃e f,Inv X a e f h/\Q e f) X.xe s
abbrev MU:=V->V->V->Hp->(Hp->Prop)->Prop
def TY(X:Cx)(t:MU):Prop:=
 ∀(a:List (Addr×Obj))(s:Shared)(b:St)(H:Hp)(o i v:V)(c d u:Value)(Q:Hp->Prop),Inv X a b H s->RelV o c->RelV i d->RelV v u->t o i v H Q->
  wpAny (model X.prog X.w) X.A (setItem c d u) (λ_ f=>∃e,Inv X a b e f/\Q e) X.xe s
section
variable {X:Cx} {pos:Pos}
def w9(i:Nat):TG:=λv a H Q=>Q (a.set i (some v)) H
def cn{i:Nat}(b:X.N.Nodup)(c:X.N[i]?\x)(d:Loc X.env.scope x)(e:X.fn x=true\/X.env.scope.names.lookup x\.local:=by subst_eqs):PG X (.Name x f) (w9 i):=by
 intro a s j H v u Q I r h;exact wpAny_assign_Name (jO I b c d r (λk g=>#[_,H,g,h]) e)
def Zb:zj:=λa b H Q=>a= []/\Q b H
def VX(t:TG)(u:zj):zj:=λa b H Q=>∃v r,a=v::r/\t v b H λc d=>u r c d Q
def lM:Bv X [] Zb:=by
 intro a s b H c d Q I r h;obtain⟨e,h⟩:=h;subst e;cases r;exact assignInOrder_nil #[b,H,I,h]
theorem ft(c:PG X e t)(d:Bv X b u)
  (f:(assignEach (e::b) X.env).map (·.2)=assign e X.env::(assignEach b X.env).map (·.2):=by rfl):Bv X (e::b) (VX t u):=by
 intro a s g H w x Q I r h;obtain⟨v,y,i,h⟩:=h;subst i;cases r with
 |cons r j=>
  rw[f];refine ade (thn (c a s g H _ _ _ I r h) λ_ k l=>?_);rfl';obtain⟨n,o,p,q⟩:=l;ac_rfl;exact d a k n o _ _ Q p j q
def Zc(K:ad)(n:Nat)(t:zj):TG:=λv c H Q=>∃a b,v= .ref a/\fe K H a b/\b.length=n/\t b c H Q
def pP(i:X.calm=true)(h:Bv X d t)
  (j:(assignEach d X.env).length=n:=by rfl) (l:(assignEach d X.env).findIdx? (·.1)=none:=by rfl):PG X (.Tuple d k pos) (Zc X.K n t):=by
 intro c s f H v u Q I r hw;rfl';obtain⟨a,p,q,w,x,hw⟩:=hw;subst q;subst r;obtain⟨y,g,z,F⟩:=I.tuple w;ac_rfl;refine assign_Tuple_tuple (I.ok.hd i) z (by simp[j,<-x,g.length]) l λA B=>?_
 have C:Inv X c f H {s with heap:=A}:=I.kept (t':=s.toks) λb o e=>B b o (bE (Do e)) e
 exact h c _ f H p _ Q C (g) hw
def Ul(b c:TE)(t:MU):TG:=λv a H Q=>b a H λo d=>c a d λi e=>t o i v e λf=>Q a f
def CY(l:PE X o g)(m:PE X i j)(n:TY X t)
  (p:∀v,assign (.Subscript o i pos) X.env v=(do
   let b <-holding [v] (eval o X.env)
   let c <-holding [v,b] (eval i X.env)
   standAt pos
   holding [v,b,c] (setItem b c v)
   release [v,b,c] []):=by intro _;rfl):PG X (.Subscript o i pos) (Ul g j t):=by
 intro a s f H v u Q I r h;rw[p];refine wpAny_bind (KB (thn (l a s f H _ I h) λb q d=>?_));rfl';obtain⟨x,w,z,A,B⟩:=d;ac_rfl;refine wpAny_bind (KB (thn (m a q f w _ z B) λc C d=>?_));rfl';obtain⟨y,E,F,G,J⟩:=d;ac_rfl;refine wpAny_bind (W1 (wpAny_bind (KB (thn (n a C f E x y v b c u _ F A G r J) λ_ O d=>?_))));rfl';obtain⟨L,M,N⟩:=d;ac_rfl;exact wpAny_release #[f,L,M,N]
def J9(b:TE)(g:TG):TS:=λD a H=>b a H λx c=>g x a c D.nx
def pR(f:PE X e c)(i:PG X b g)(j:swapsWithSole [b] e pos.line X.env=pure false:=by rfl)(hw:swappedStores [b] e X.env=pure none:=by rfl)
  (k:(assignEach [b] X.env).map (·.2)= [assign b X.env]:=by rfl):PS X (.Assign [b] e pos) (J9 c g):=by
 intro a s d H D I h;refine wpAny_Assign_stores (thn (f a s d H _ I h) λv l #[x,m,n,o,p]=>?_) j hw;rw[k];exact thn (i a l d m x v _ n o p) λ_ r q=>q
def bP{i:Nat}(d:X.N.Nodup)(f:X.N[i]?\x)(g:Loc X.env.scope x)(j:PE X e c)(k:swapsWith e (some (.Name x a)) pos.line X.env=pure false:=by rfl)(l:X.fn x=true\/X.env.scope.names.lookup x\.local:=by subst_eqs):
  PS X (.Assign [.Name x a] e pos) (J9 c (w9 i)):=by
 intro b s m H D I h;refine wpAny_Assign_Name (thn (j b s m H _ I h) λv t #[y,n,o,p,q]=>?_) k;exact jO o d f g p (λu r=>#[_,n,r,q]) l
def aaW(i j:Nat)(b:TA):TS:=λD a H=>b a H λc d=>∃v w,c= [v,w]/\D.nx ((a.set i (some v)).set j (some w)) d
theorem SO{kt k2 Ig}(C:X.calm=true)(n:X.N.Nodup)(E:X.N[i]?\x)(F:X.N[j]?\y)(G:i≠j)
  (r:X.env.scope.names.lookup x\.local) (t:X.env.scope.names.lookup y\.local) (J:PA X [a,b] m)
  (hw:swappedStores [.Tuple [.Name x k, .Name y py] kt pt] (.Tuple [a,b] k2 Ig) X.env=pure (some [x,y]))
  (L:swapsWithSole [.Tuple [.Name x k, .Name y py] kt pt] (.Tuple [a,b] k2 Ig) pos.line X.env=pure false:=by rfl):
  PS X (.Assign [.Tuple [.Name x k, .Name y py] kt pt] (.Tuple [a,b] k2 Ig) pos) (aaW i j m):=by
 intro c s u H D I h;rw[exec_Assign_arm];refine wpAny_bind (W1 ?_);rw[L];refine wpAny_bind (ir ?_);rw[tz ∅]
 refine wpAny_bind (Tuple_ (thn (J _ c s u H _ I h) λM d O=>?_));obtain⟨vs,z,P,Q,l⟩:=O;obtain⟨v,w,R,l⟩:=l;subst R
 obtain⟨f,g,rfl,S,T⟩:∃f g,M= [f,g]/\RelV v f/\RelV w g:=by
  cases Q with
  |cons p q=>
   cases q with
   |cons Y Z=>
    cases Z;exact#[_,_,rfl,p,Y]
 refine abF ?_ (by show 2<=sizeLine;decide)
 have I2:Inv X c u z {d with heap:=d.heap.push {cls:= .type "tuple",data:= .seq [f,g].toArray}}:=P.kept (t':=d.toks) λb o e=>AC _ e
 rw[hw];refine wpAny_bind (ir ?_);show wpAny (model X.prog X.w) X.A (do rule "assign.swapped-stores";let items <-unpackItems (.ref d.heap.objs.size) 2 none;assignInOrder [λv=>bindName X.env y v,λv=>bindName X.env x v] items.reverse;pure Flow.next) _ _ _
 refine wpAny_bind (abS (wpAny_bind (unpackItems_tuple (items:= [f,g].toArray) (I.ok.hd C) (IsTup.new d.heap _) λh' vO=>?_)));have I3:=I2.kept (h':=h') (t':=d.toks) λb o e=>vO b o (bE (Do e)) e;show wpAny _ _ (assignInOrder [λv=>bindName X.env y v,λv=>bindName X.env x v] [g,f]>>=λ_=>pure Flow.next) _ _ _;refine wpAny_bind (ade (wpAny_bindName (jO I3 n F (.inl t) T (λs2 I4=>?_) (.inr t))));refine ade (wpAny_bindName (jO I4 n E (.inl r) S (λs3 B=>assignInOrder_nil (ir ?_)) (.inr r)));rw[List.set_comm _ _ (Ne.symm G)] at B;exact#[_,z,B,l]
end
section
variable {X:Cx} {pos:Pos}
def Kb(c:TT)(h:TS):TS:=λD a H=>∃W:Nat->St->Hp->Prop,(∃m,W m a H)/\∀m a H,W m a H->
 c a H λb d=>if b=true then ∃N:St->Hp->Prop,(∀e f,N e f->∃g,g<m/\W g e f)/\h {D with nx:=N,ct:=N,bk:=D.nx} a d else D.nx a d
def A6{c:Expr}{body:List Stmt}{tc:TT}{tb:TS}(hp:PassesOwn (model X.prog X.w) X.A X.env X.xe)(hc:PT X c tc)(hb:jz X body tb):PS X (.While c body [] pos) (Kb tc tb):=by
 intro pins s σ H D I h;obtain⟨W,⟨m0,w0⟩,turn⟩:=h;refine wpAny_While (codeAny_whileLoop (λn s'=>∃ax H',Inv X pins ax H' s'/\W n ax H') ?_ m0 #[σ,H,I,w0]);intro n s1 Qz;rfl';obtain⟨Jk,H1,I1,w1⟩:=Qz;ac_rfl;refine wpAny_passesOwn hp (thn (hc pins s1 Jk H1 _ I1 (turn n Jk H1 w1)) λb s2 aO=>?_);rfl';obtain⟨H2,I2,q2⟩:=aO;ac_rfl;cases b with
 |true=>
  rfl';obtain⟨N,hN,q2⟩:=q2;ac_rfl;rw[if_pos rfl];refine wpAny_passesOwn hp (thn (hb pins s2 Jk H2 _ I2 q2) λf s3 q3=>?_);cases f with
  |next=>
   obtain⟨vZ,H3,I3,n3⟩:=q3;obtain⟨m',hm,w3⟩:=hN vZ H3 n3;exact#[m',hm,vZ,H3,I3,w3]
  |cont=>
   obtain⟨vZ,H3,I3,n3⟩:=q3;obtain⟨m',hm,w3⟩:=hN vZ H3 n3;exact#[m',hm,vZ,H3,I3,w3]
  |brk=>exact q3
  |ret v=>exact q3
 |false=>
  rw[if_neg dj];exact wpAny_execs_nil #[Jk,H2,I2,q2]
end
structure It where
 go:Nat->Hp->Prop
 yld:Nat->Hp->V->Hp->Prop
 stop:Nat->Hp->Prop
def eY(X:Cx)(a:List (Addr×Obj))(H:Hp)(b:Addr):Prop:=
 H b=none/\b≠X.env.locals/\b∉X.fs/\(b∈X.ex\/X.s₀.heap.objs.size<=b)/\(∀x c,X.env.cells.lookup x\c->c≠b)/\∀p∈X.pn++a,p.1≠b
def Inv.NP(I:Inv X a g H s)(d:s.heap.objs.size<=b)(h:f b=none):eY X a f b:=by
 refine#[h,je (cP I.lt d),I.UI d, .inr (iq I.sz d),λx c e z=>?_,λp i z=>?_]
 .obtain⟨v,q⟩:=I.cell x c e
  exact absurd (cP q.lt (by rw[z];exact d)) (jy _)
 .exact absurd (cP (Do (I.pin p i).1) (by rw[z];exact d)) (jy _)
structure Turn (P:Program) (w:World) (K:ad) (tg:Expr) (J:It) (fp:List Addr) (it:Addr) (tn:Nat->Heap->Prop):Prop where
 mem:it∈fp
 obj:∀i h,tn i h->∀b∈fp,∃o,h.get? b\o/\∀v,o.data≠ .cell v
 keep:∀i h h',tn i h->(∀b∈fp,∀o,h.get? b\o->h'.get? b\o)->tn i h'
 item:∀(X:Cx),X.prog=P->X.w=w->X.K=K->X.calm=true->∀(i:Nat)(pins:List (Addr×Obj))(s:Shared)(σ:St)(H:Hp)(E:Value->Shared->Prop),Inv X pins σ H s->(∀b∈fp,eY X pins H b)->tn i s.heap->J.go i H->
  wpAny (model P w) X.A (pyNext (.ref it)) (λr s1=>∃u,r\u/\
   wpAny (model P w) X.A (letOwnedTupleGo tg (.ref it) u) (λ_ s2=>∃x H',Inv X pins σ H' s2/\RelV x u/\J.yld i H x H'/\tn (i+1) s2.heap/\∀b∈fp,H' b=none) E s1) E s
 done:∀(X:Cx),X.prog=P->X.w=w->X.K=K->X.calm=true->∀(i:Nat)(pins:List (Addr×Obj))(s:Shared)(σ:St)(H:Hp)(E:Value->Shared->Prop),Inv X pins σ H s->(∀b∈fp,eY X pins H b)->tn i s.heap->J.stop i H->
  wpAny (model P w) X.A (pyNext (.ref it)) (λr s1=>r=none/\Inv X pins σ H s1) E s
 self:∀(A:Around)(i:Nat)(s:Shared)(Q:Value->Shared->Prop)(E:Value->Shared->Prop),tn i s.heap->Q (.ref it) s->wpAny (model P w) A (pyIter (.ref it)) Q E s
abbrev TI:=St->Hp->(It->Hp->Prop)->Prop
def Yl(X:Cx)(a:List (Addr×Obj))(h:St)(i:Expr)(R:It->Hp->Prop)(j:Value)(d:Shared):Prop:=
 ∃(e:Addr)(f:List Addr)(g:Nat->Heap->Prop)(J:It)(c:Hp),j= .ref e/\Inv X a h c d/\Turn X.prog X.w X.K i J f e g/\g 0 d.heap/\(∀b∈f,eY X a c b)/\R J c
def PI(X:Cx)(c iter:Expr)(d:TI):Prop:=
 ∀(a:List (Addr×Obj))(s:Shared)(b:St)(H:Hp)(R:It->Hp->Prop),Inv X a b H s->d b H R->
  wpAny (model X.prog X.w) X.A (eval iter X.env) (λv e=>wpAny (model X.prog X.w) X.A (pyIter v) (Yl X a b c R) X.xe e) X.xe s
theorem NZ{M:Model}{A:Around}{E:Value->Shared->Prop}{s:Shared}{b:Expr}{c:Addr}{u:Value}{o:Obj}{n:String}{d:Array Value}{Q:Unit->Shared->Prop}(e:s.heap.get? c\o)(f:o.cls= .type n)(g:o.data= .fields d)
  (i: ["enumerate","zip","dict_itemiterator","dict_reverseitemiterator","odict_iterator","itertools.zip_longest","itertools.pairwise"].contains n=false) (a:Q ⟨⟩ s):wpAny M A (letOwnedTupleGo b (.ref c) u) Q E s:=by
 unfold letOwnedTupleGo
 cases b<;>first
  |exact wpAny_pure a
  | (cases u<;>first
    |exact wpAny_pure a
    | (refine wpAny_bind (wpAny_load e ?_)
       rw[f,g];show wpAny M A (if (["enumerate","zip","dict_itemiterator","dict_reverseitemiterator","odict_iterator","itertools.zip_longest","itertools.pairwise"].contains n&&d[0]? ==some (rawInt _))=true then _ else _) Q E s;rw[if_neg (by intro h;rw[i,Bool.false_and] at h;cases h)]
       exact wpAny_pure a))
noncomputable def Kn(K:ad)(a:Addr):It:=
 #[λi H=>∃b x,aG K H a b/\b[i]?\x,λi H x c=>c=H/\∀b,aG K H a b->b[i]?\x,λi H=>∃b,aG K H a b/\b.length<=i]
def DZ(lo:Int)(n:Nat):It:=#[λi _=>i<n,λi H x a=>a=H/\x= .int (lo+i),λi _=>n<=i]
def IM{P:Program}{w:World}{K:ad}{R:Expr}(a g:Addr):Turn P w K R (Kn K a) [g] g (λi h=>h.IsListIter g a i) where
 mem:=by simp
 obj:=λi h st b j=>by
  have e:b=g:=by simpa using j
  subst e;obtain⟨o,e,c,d⟩:=st;exact#[o,e,λv z=>by rw[d] at z;cases z]
 keep:=λi h l st k=>st.at λo e=>k g (by simp) o e
 item:=by
  intro X q hw r N i f s O H E I m st t;rfl';subst q hw r;obtain⟨T,x,n,A⟩:=t;obtain⟨B,C,p,Y⟩:=I.list n;obtain⟨u,Z,ru⟩:=C.get A;obtain⟨F,G,f2,J,L,M⟩:=m g (by simp)
  ac_rfl;refine wpAny_pyNext_list_item st p.isList (x:=u) (~~~Z) λl Q sb=>?_
  have I1:Inv X f O H {s with heap:=l}:=I.turned (t':=s.toks) (λb o j e=>(sb.2 b j).trans e) F G J L M
  obtain⟨o,e,c,d⟩:=id Q;exact#[u,rfl,NZ (s:={s with heap:=l}) e c d ∅ #[x,H,I1,ru,#[rfl,λys hy=>by rw[I.AY hy n];exact A],Q,λb j=>(m b j).1]]
 done:=by
  intro X q hw r N i f s O H E I m st t;rfl';subst q hw r;obtain⟨T,n,A⟩:=t;obtain⟨B,C,p,Y⟩:=I.list n;obtain⟨F,G,f2,J,L,M⟩:=m g (by simp)
  have hl:=C.length;ac_rfl;exact wpAny_pyNext_list_end (I.ok.hd N) st p.isList (by simp;lia) λl eb=>#[rfl,I.turned (t':=s.toks) (λb o j e=>eb b o j e) F G J L M]
 self:=λ_ _ _ _ _ st h=>wpAny_pyIter_listiter st h
def FT{P:Program}{w:World}{K:ad}{G:Expr}(a:Addr)(lo:Int)(n:Nat):Turn P w K G (DZ lo n) [a] a (λi h=>IsRangeIter h a (lo+(i:Nat)*1) ((n:Int)-(i:Nat)) 1) where
 mem:=by simp
 obj:=λi h st b d=>by
  have e:b=a:=by simpa using d
  subst e
  exact#[_,st,λv z=>by
   have J:Data.fields _=Data.cell v:=z;cases J]
 keep:=λi h f st k=>k a (by simp) _ st
 item:=by
  intro X j hw l m i c s B H E I g st p;subst j hw l;rfl';obtain⟨r,u,M,x,y,A⟩:=g a (by simp)
  ac_rfl;have W:=Walks.range (prog:=X.prog) (w:=X.w) (I.ok.hd m) a lo 1 n;refine W.item i s _ _ p st λv f C N F O=>?_;obtain⟨t,rfl⟩:=N;have Q:Inv X c B H {s with heap:=f,toks:=C}:=I.turned (λb o d e=>O b o (~~~d) e) r u x y A
  refine#[_,rfl,NZ (s:={s with heap:=f,toks:=C}) (n:="range_iterator") F rfl rfl ∅ #[.int (lo+i),H,Q,#[t,?_],#[rfl,rfl],F,λb d=>(g b d).1]]
  rw[Int.mul_one]
 done:=by
  intro X j hw l m i c s B H E I g st p;subst j hw l;rfl';obtain⟨r,u,M,x,y,A⟩:=g a (by simp)
  ac_rfl;exact wpAny_pyNext_range_end (I.ok.hd m) st (by have:n<=i:=p;lia) λf R=>#[rfl,I.turned (t':=s.toks) (λb o d e=>R b o d e) r u x y A]
 self:=λ_ _ _ _ _ st h=>wpAny_pyIter_rangeiter st h
section
variable {X:Cx} {tg:Expr}
def W8(K:ad)(c:TE):TI:=λd H R=>c d H λx b=>∃a,x= .ref a/\(∃e,aG K b a e)/\R (Kn K a) b
def j7{i:TE}(j:PE X l i):PI X tg l (W8 X.K i):=by
 intro c s k H R I h;refine thn (j c s k H _ I h) λv d m=>?_;rfl';obtain⟨x,r,f,t,u⟩:=m;ac_rfl;rfl';obtain⟨a,e,⟨A,w⟩,q⟩:=u;subst e;subst t;obtain⟨y,B,p,C⟩:=f.list w;ac_rfl;refine adq p.isList ?_;refine#[d.heap.objs.size,[d.heap.objs.size],_,_,r,rfl,f.kept (t':=d.toks) λb o e=>AC _ e,IM a _,#[_,GE _ rfl,rfl,rfl],λb z=>?_,q];have e:b=d.heap.objs.size:=by simpa using z
 subst e;exact f.NP (bq _) (f.hok.fresh (bq _))
def A7{c:List (Addr×Obj)}{d:St}{H:Hp}{s:Shared}{R:It->Hp->Prop}{E:Value->Shared->Prop}{lo a:Int}{t u v:Tok}{f:Nat}(I:Inv X c d H s)(h: -(2^62)<=lo)(i:lo<2^62)(j: -(2^62)<=a)(k:a<2^62)
  (q:R (DZ lo (a-lo).toNat) H):wpAny (model X.prog X.w) X.A (pyIter (.ref s.heap.objs.size)) (Yl X c d tg R) E {s with heap:=s.heap.push {cls:= .type "range",data:= .fields [.int lo t, .int a u, .int 1 v].toArray},toks:=f}:=by
 refine wpAny_pyIter_range (IsRange.new ..) (small_one h i j k) ?_;have g:Inv X c d H {s with heap:=s.heap.push {cls:= .type "range",data:= .fields [.int lo t, .int a u, .int 1 v].toArray},toks:=f}:=I.kept λb o e=>AC _ e
 refine#[(s.heap.push {cls:= .type "range",data:= .fields [.int lo t, .int a u, .int 1 v].toArray}).objs.size,[(s.heap.push {cls:= .type "range",data:= .fields [.int lo t, .int a u, .int 1 v].toArray}).objs.size],_,_,H,rfl,
  g.kept (t':=f) λb o e=>AC _ e,FT _ lo (a-lo).toNat,?_,λb l=>?_,q]
 .have m:lo+((0:Nat):Int)*1=lo:=by simp
  have n:(((a-lo).toNat:Nat):Int)-((0:Nat):Int)=Builtin.Range.rangeSize lo a 1:=by rw[rangeSize_one];split<;>lia
  show IsRangeIter _ _ (lo+((0:Nat):Int)*1) ((((a-lo).toNat:Nat):Int)-((0:Nat):Int)) 1;rw[m,n];exact GE _ rfl
 .have e:b=(s.heap.push {cls:= .type "range",data:= .fields [.int lo t, .int a u, .int 1 v].toArray}).objs.size:=by simpa using l
  subst e;exact g.NP (bq _) (g.hok.fresh (bq _))
def W9(a:TA):TI:=λb H R=>a b H λc d=>∃j:Int,c= [.int j]/\-(2^62)<=j/\j<2^62/\R (DZ 0 j.toNat) d
def Xa(a:TA):TI:=λb H R=>a b H λc d=>∃i j:Int,c= [.int i, .int j]/\(-(2^62)<=i/\i<2^62/\-(2^62)<=j/\j<2^62)/\R (DZ i (j-i).toNat) d
def j8(g:Gl X "range")(i:X.mg "range"=none)(k:PA X [a] f)(l:starEach [a] X.env= [(false,eval a X.env)]:=by rfl):PI X tg (.Call (.Name "range" p) [a] [] b) (W9 f):=by
 intro c s m H R I h;refine Call_ (jE I g i boot_range (Wp (thn (k b c s m H _ I h) λw x #[y,z,n,o,d]=>?_) l rfl));obtain⟨j,e,d,u,q⟩:=d;subst e;cases o with
 |cons r v=>
  cases v;obtain⟨t,rfl⟩:=r;exact call_range_1 (A7 n () () d u (~~~q))
def H0(m:Gl X "range")(n:X.mg "range"=none)(o:PA X [a,b] k)(u:starEach [a,b] X.env= [(false,eval a X.env),(false,eval b X.env)]:=by rfl)(l:starEach [b] X.env= [(false,eval b X.env)]:=by rfl):
  PI X tg (.Call (.Name "range" p) [a,b] [] c) (Xa k):=by
 intro d s v H R I h;refine Call_ (jE I m n boot_range (Wp (thn (o c d s v H _ I h) λC E #[F,G,w,x,f]=>?_) (by rw[u,l]) (by rw[l];rfl)))
 obtain⟨i,j,e,⟨f,y,z,A⟩,q⟩:=f;subst e;cases x with
 |cons r g=>
  cases g with
  |cons B g=>
   cases g;obtain⟨t,rfl⟩:=r;obtain⟨J,rfl⟩:=B;exact call_range_2 (A7 w f y z A q)
def aaS(e:TI)(g:TG)(f:TS):TS:=λD a H=>e a H λJ h=>∃W:Nat->Nat->St->Hp->Prop,(∃m,W 0 m a h)/\∀i m a H,W i m a H->
 (J.stop i H/\D.nx a H)\/(J.go i H/\∃N:St->Hp->Prop,(∀c b,N c b->∃d,d<m/\W (i+1) d c b)/\∀x b,J.yld i H x b->g x a b λj k=>f {D with nx:=N,ct:=N,bk:=D.nx} j k)
noncomputable def mB(a:List Addr)(h:Heap):List (Addr×Obj):=a.filterMap λb=>(h.get? b).map λo=>(b,o)
def eZ(c:b∈a)(e:h.get? b\o):(b,o)∈mB a h:=adf.mpr #[b,c,by rw[e];rfl]
def HR(c:p∈mB a h):p.1∈a/\h.get? p.1\p.2:=by
 obtain⟨b,d,e⟩:=adf.mp c;cases q:h.get? b with
 |none=>rw[q] at e;cases e
 |some o=>
  rw[q] at e;have f:(b,o)=p:=Da e;subst f;exact#[d,q]
def Inv.pinned(I:Inv X a f H s)(i:∀b∈c,eY X a H b)(j:∀b∈c,∃o,s.heap.get? b\o/\∀v,o.data≠ .cell v):Inv X (a++mB c s.heap) f H s:=
 I.sE λp k=>(c5.mp k).elim (λz=>I.pin p (fF _ z)) λz=>by
  rfl';obtain⟨g,e⟩:=HR z;obtain⟨m,n,q,_⟩:=i p.1 g;obtain⟨o,h,d⟩:=j p.1 g;ac_rfl;rw[e] at h;cases h;exact#[e,m,n,q,d]
def Inv.jP(I:Inv X (a++pl) b H s):Inv X a b H s:=I.sE λp c=>I.pin p (fF _ (km _ c))
theorem iR(C:PassesOwn (model X.prog X.w) X.A X.env X.xe)(hc:X.calm=true)(hi:PI X tg iter wi)(hg:PG X tg g)(c:jz X t tb)
  (hs:∀x,foldedSetIterable iter X.env x=pure x:=by intro _;rfl):PS X (.For tg iter t [] P) (aaS wi g tb):=by
 intro a s σ H D I h;refine wpAny_For (thn (hi a s σ H _ I h) λv s1 h1=>thn h1 λxF s2 h2=>?_) hs;rfl';obtain⟨it,E,tn,J,H2,e,I2,T,iL,f2,W,⟨m0,w0⟩,F⟩:=h2;subst e;ac_rfl;have j:∀{q:Hp},(∀b∈E,q b=none)->∀b∈E,eY X a q b:=λhn b c=>#[hn b c,(f2 b c).2];refine codeAny_forLoop_any (λn s'=>∃i G q,Inv X a G q s'/\tn i s'.heap/\(∀b∈E,q b=none)/\W i n G q) ?_ m0 #[0,σ,H2,I2,iL,λb c=>(f2 b c).1,w0];intro n s3 Qz;rfl';obtain⟨i,L,O,I3,vW,Y9,w3⟩:=Qz;ac_rfl
 rcases F i n L O w3 with ⟨stop,qn⟩ | ⟨go,N,hN,step⟩
 .refine abQ C (thn (T.done X rfl rfl rfl hc i a s3 L O X.xe I3 (j Y9) vW stop) λr s4 B=>?_)
  obtain⟨R,I4⟩:=B;subst R;exact acT #[L,O,I4,qn]
 .refine abQ C (thn (T.item X rfl rfl rfl hc i a s3 L O X.xe I3 (j Y9) vW go) λr s4 B=>?_)
  obtain⟨u,R,h4⟩:=B;subst R;refine abQ C (thn h4 λ_ s5 B=>?_);rfl';obtain⟨x,H5,I5,r5,y5,S,qJ⟩:=B;ac_rfl;have U6:=I5.pinned (j qJ) (T.obj _ _ S);refine abQ C (thn (hg _ s5 L H5 x u _ U6 r5 (step x H5 y5)) λ_ s6 B=>?_);rfl';obtain⟨Y,H6,I6,q6⟩:=B;ac_rfl;refine abQ C (thn (c _ s6 Y H6 _ I6 q6) λf Z y=>?_)
  have again:∀{k:St}{l:Hp},Inv X (a++mB E s5.heap) k l Z->N k l->∃m,m<n/\∃i G q,Inv X a G q Z/\tn i Z.heap/\(∀b∈E,q b=none)/\W i m G q:=λ {k l} p M=>by
   obtain⟨m',hm,w7⟩:=hN k l M;refine#[m',hm,i+1,k,l,p.jP,T.keep _ _ _ S λb c o e=>(p.pin (b,o) (fF _ (fF _ (eZ c e)))).1,λb c=>?_,w7];obtain⟨o,e,d⟩:=T.obj _ _ S b c;exact(p.pin (b,o) (fF _ (fF _ (eZ c e)))).2.1
  cases f with
  |next=>obtain⟨k,l,p,M⟩:=y;exact again p M
  |cont=>obtain⟨k,l,p,M⟩:=y;exact again p M
  |brk=>obtain⟨k,l,p,y⟩:=y;exact#[k,l,p.jP,y]
  |ret v=>obtain⟨x7,k,l,p,r7,y⟩:=y;exact#[x7,k,l,p.jP,r7,y]
end
def _root_.o0_{a b:Nat}(c:a<b):b-(a+1)<b-a:=()
def K0{K:ad}{a:Addr}{xs:List V}{g:TG}{l:TS}{D:Ends}{b:St}{H:Hp}(c:Nat->St->Hp->Prop)(o:c 0 b H)(r:∀i b H,i<=xs.length->c i b H->aG K H a xs)
  (s:∀i x b H,xs[i]?\x->c i b H->g x b H λf h=>l {D with nx:=c (i+1),ct:=c (i+1),bk:=D.nx} f h) (t:∀b H,c xs.length b H->D.nx b H):
  ∃W:Nat->Nat->St->Hp->Prop,(∃m,W 0 m b H)/\∀i m b H,W i m b H->
   ((Kn K a).stop i H/\D.nx b H)\/((Kn K a).go i H/\∃N:St->Hp->Prop,(∀j d,N j d->∃n,n<m/\W (i+1) n j d)/\∀x d,(Kn K a).yld i H x d->g x b d λf h=>l {D with nx:=N,ct:=N,bk:=D.nx} f h):=by
 refine#[λi m b H=>m=xs.length-i/\i<=xs.length/\c i b H,#[xs.length,by simp,dA _,o],?_]
 rintro i m b H ⟨rfl,u,p⟩;have q:=r i b H u p
 by_cases k:i<xs.length
 .refine .inr #[#[xs,xs[i],q,by simp[k]],c (i+1),λj d v=>#[xs.length-(i+1),o0_ k,rfl,k,v],λx d y=>?_]
  obtain⟨e,y⟩:=y;subst e;exact s i x b _ (y xs q) p
 .have e:i=xs.length:=()
  subst e;exact .inl #[#[xs,q,bq _],t b H p]
def l6{lo:Int}{n:Nat}{g:TG}{k:TS}{D:Ends}{a:St}{H:Hp}(b:Nat->St->Hp->Prop)(o:b 0 a H)
  (q:∀i a H,i<n->b i a H->g (.int (lo+i)) a H λf h=>k {D with nx:=b (i+1),ct:=b (i+1),bk:=D.nx} f h) (r:∀a H,b n a H->D.nx a H):
  ∃W:Nat->Nat->St->Hp->Prop,(∃m,W 0 m a H)/\∀i m a H,W i m a H->
   ((DZ lo n).stop i H/\D.nx a H)\/((DZ lo n).go i H/\∃N:St->Hp->Prop,(∀j c,N j c->∃l,l<m/\W (i+1) l j c)/\∀x c,(DZ lo n).yld i H x c->g x a c λf h=>k {D with nx:=N,ct:=N,bk:=D.nx} f h):=by
 refine#[λi m a H=>m=n-i/\i<=n/\b i a H,#[n,by simp,dA _,o],?_]
 rintro i m a H ⟨rfl,t,p⟩
 by_cases d:i<n
 .refine .inr #[d,b (i+1),λj c s=>#[n-(i+1),o0_ d,rfl,d,s],λx c y=>?_]
  obtain⟨e,y⟩:=y;subst e y;exact q i a _ d p
 .have e:i=n:=()
  subst e;exact .inl #[bq _,r a H p]
theorem MC(g:St->Hp->Prop)(h:St->Hp->Nat)(k:g a H)
  (n:∀a H,g a H->c a H λb d=>if b=true then i {D with nx:=λe f=>g e f/\h e f<h a H,ct:=λe f=>g e f/\h e f<h a H,bk:=D.nx} a d else D.nx a d)
  (mono:∀a H Q j,(∀b d,Q b d->j b d)->c a H Q->c a H j):Kb c i D a H:=by
 refine#[λm a H=>m=h a H/\g a H,#[_,rfl,k],?_];rintro m a H ⟨rfl,p⟩;refine mono a H _ _ (λb d q=>?_) (n a H p);cases b with
 |true=>exact#[_,λe f #[o,l]=>#[_,l,rfl,o],q]
 |false=>exact q
abbrev R2:=V->V->Hp->VK->Prop
def OpR(X:Cx)(f:Value->Value->Sem Value)(r:R2):Prop:=
 ∀(a:List (Addr×Obj))(s:Shared)(b:St)(H:Hp)(x y:V)(v u:Value)(Q:VK),Inv X a b H s->RelV x v->RelV y u->r x y H Q->
  wpAny (model X.prog X.w) X.A (f v u) (EP X a b Q) X.xe s
def UnR(X:Cx)(f:Value->Sem Value)(r:V->Hp->VK->Prop):Prop:=
 ∀(a:List (Addr×Obj))(s:Shared)(b:St)(H:Hp)(x:V)(v:Value)(Q:VK),Inv X a b H s->RelV x v->r x H Q->
  wpAny (model X.prog X.w) X.A (f v) (EP X a b Q) X.xe s
def CallR(X:Cx)(f:Value)(r:List V->Hp->VK->Prop):Prop:=
 ∀(a:List (Addr×Obj))(s:Shared)(b:St)(H:Hp)(c:List V)(d:List Value)(Q:VK),Inv X a b H s->Vals c d->r c H Q->
  wpAny (model X.prog X.w) X.A (call f d) (EP X a b Q) X.xe s
def Yn(X:Cx)(r:V->Hp->(Bool->Hp->Prop)->Prop):Prop:=
 ∀(a:List (Addr×Obj))(s:Shared)(b:St)(H:Hp)(x:V)(v:Value)(Q:Bool->Hp->Prop),Inv X a b H s->RelV x v->r x H Q->
  wpAny (model X.prog X.w) X.A (truthy v) (TP X a b Q) X.xe s
def Dl(r:R2)(b c:TE):TE:=λa H Q=>b a H λx d=>c a d λy e=>r x y e Q
def tUn(r:V->Hp->VK->Prop)(a:TE):TE:=λb H Q=>a b H λx c=>r x c Q
def rI(C:Int->Int->Prop)(g:Int->Int->V):R2:=λx y H Q=>∃i j,x= .int i/\y= .int j/\C i j/\Q (g i j) H
def C1(g:Int->Int->V):R2:=λx y H Q=>∃i j,x= .int i/\y= .int j/\Q (g i j) H
def rU(g:Int->V):V->Hp->VK->Prop:=λx H Q=>∃i,x= .int i/\Q (g i) H
section
variable {X:Cx} {a b c:Expr} {ta tb tc:TE} {pos:Pos}
def MZ(l:PE X a ta)(m:PE X b tb){d:List (Addr×Obj)}{s:Shared}{e:St}{H:Hp}{R:V->V->Hp->Prop}(I:Inv X d e H s)
  (h:ta e H λx k=>tb e k λy g=>R x y g) {Q:Value->Shared->Prop} {f:Value->Value->Sem Value}
  (n:∀v u j x y g,Inv X d e g j->RelV x v->RelV y u->R x y g->wpAny (model X.prog X.w) X.A (f v u) Q X.xe j):
  wpAny (model X.prog X.w) X.A (eval a X.env) (λv i=>wpAny (model X.prog X.w) X.A (eval b X.env) (λu o=>wpAny (model X.prog X.w) X.A (f v u) Q X.xe o) X.xe i) X.xe s:=by
 refine thn (l d s e H _ I h) λv p #[x,k,q,r,t]=>?_;refine thn (m d p e k _ q t) λu j #[y,g,z,B,C]=>?_;exact n v u j x y g z r B C
def cM(f:OpR X (binaryOp e) r)(g:PE X a ta)(i:PE X b tb):PE X (.BinOp a e b pos) (Dl r ta tb):=by
 intro d s j H Q I h;exact wpAny_BinOp (MZ g i I h λv u k x y l m n o q=>f d k j l x y v u Q m n o q)
def XA(g:UnR X (unaryOp e) r)(i:PE X a ta):PE X (.UnaryOp e a pos) (tUn r ta):=by
 intro d s f H Q I h;exact UnaryOp_ (thn (i d s f H _ I h) λv j #[x,k,l,m,n]=>g d j f k x v Q l m n)
def Sr{f:Value->Value->Sem Value}{C:Int->Int->Prop}{g:Int->Int->Int}
  (rule:∀(i j:Int)(t u:Tok)(s:Shared)(Q:Value->Shared->Prop)(E:Value->Shared->Prop),C i j->Q (.int (g i j) s.toks) {s with toks:=s.toks+1}->wpAny (model X.prog X.w) X.A (f (.int i t) (.int j u)) Q E s):
  OpR X f (rI C λi j=> .int (g i j)):=by
 intro d s n H x y v u Q I e k h;obtain⟨i,j,rfl,rfl,l,q⟩:=h;obtain⟨t,rfl⟩:=e;obtain⟨m,rfl⟩:=k;exact rule i j t m s _ _ l #[.int (g i j),H,I.tok _,#[_,rfl],q]
def UP{f:Value->Value->Sem Value}{g:Int->Int->Int}
  (rule:∀(i j:Int)(t u:Tok)(s:Shared)(Q:Value->Shared->Prop)(E:Value->Shared->Prop),Q (.int (g i j) s.toks) {s with toks:=s.toks+1}->wpAny (model X.prog X.w) X.A (f (.int i t) (.int j u)) Q E s):
  OpR X f (C1 λi j=> .int (g i j)):=by
 intro d s m H x y v u Q I e k h;obtain⟨i,j,rfl,rfl,q⟩:=h;obtain⟨t,rfl⟩:=e;obtain⟨l,rfl⟩:=k;exact rule i j t l s _ _ #[.int (g i j),H,I.tok _,#[_,rfl],q]
def Pk{f:Value->Value->Sem Value}{g:Int->Int->Bool}
  (rule:∀(i j:Int)(t u:Tok)(s:Shared)(Q:Value->Shared->Prop)(E:Value->Shared->Prop),Q (.bool (g i j)) s->wpAny (model X.prog X.w) X.A (f (.int i t) (.int j u)) Q E s):
  OpR X f (C1 λi j=> .bl (g i j)):=by
 intro d s m H x y v u Q I e k h;obtain⟨i,j,rfl,rfl,q⟩:=h;obtain⟨t,rfl⟩:=e;obtain⟨l,rfl⟩:=k;exact rule i j t l s _ _ #[.bl (g i j),H,I,rfl,q]
def TX(i j:Int):Prop:=0<j/\j<1073741824
def Ye(i j:Int):Prop:=0<=j/\j<=1000000/\i.natAbs<2^64
def MG(i j:Int):Prop:=(-(2^64)<i/\i<2^64)\/(-(2^64)<j/\j<2^64)
def MG.ok(h:MG i j):IntMulOk i j:=by
 rcases h with ⟨d,e⟩ | ⟨d,e⟩
 .exact .of_left (intBits_le_64 d e)
 .exact .of_right (intBits_le_64 d e)
def hU:OpR X (binaryOp .Add) (C1 λi j=> .int (i+j)):=UP λ_ _ _ _ _ _ _ q=>add_int q
def pL:OpR X (binaryOp .Mult) (rI MG λi j=> .int (i*j)):=Sr λ_ _ _ _ _ _ _ d q=>mul_int q d.ok
def Pm:OpR X (binaryOp .FloorDiv) (rI TX λi j=> .int (i / j)):=Sr λi j _ _ _ _ _ d q=>by
 have e:(0:Int)<j:=d.1;have f:j<1073741824:=d.2;exact floordiv_int () (by rw[Int.fdiv_eq_ediv_of_nonneg i ()];exact q) (.inl (PyProof.noPylong_small ()))
def pK:OpR X (binaryOp .Mod) (rI (λ_ j=>0<j) λi j=> .int (i%j)):=Sr λi j _ _ _ _ _ d q=>by
 have e:(0:Int)<j:=d;exact mod_int' () (by rw[Int.fmod_eq_emod_of_nonneg i ()];exact q)
def Sv:OpR X (binaryOp .Pow) (rI Ye λi j=> .int (i^j.toNat)):=Sr λ_ _ _ _ _ _ _ d q=>pow_int_small d.1 d.2.1 d.2.2 q
def Sw:OpR X (binaryOp .BitXor) (C1 λi j=> .int (Builtin.bitXor i j)):=UP λ_ _ _ _ _ _ _ q=>xor_int q
def unI{f:Value->Sem Value}{g:Int->Int}
  (rule:∀(i:Int)(t:Tok)(s:Shared)(Q:Value->Shared->Prop)(E:Value->Shared->Prop),Q (.int (g i) s.toks) {s with toks:=s.toks+1}->wpAny (model X.prog X.w) X.A (f (.int i t)) Q E s):
  UnR X f (rU λi=> .int (g i)):=by
 intro d s j H x v Q I e h;obtain⟨i,rfl,q⟩:=h;obtain⟨t,rfl⟩:=e;exact rule i t s _ _ #[.int (g i),H,I.tok _,#[_,rfl],q]
def TK:UnR X (unaryOp .USub) (rU λi=> .int (-i)):=unI λ_ _ _ _ _ q=>neg_int q
end
noncomputable def aaI:V->V->Bool
 | .aL, .aL=>true| .aL, .int _=>true| .int _, .aL=>true| .aL, .bl _=>true| .bl _, .aL=>true| .aL, .str _=>true| .str _, .aL=>true
 | .int _, .int _=>true| .bl _, .bl _=>true| .str _, .str _=>true| .vJ _, .vJ _=>true
 | .int _, .str _=>true| .str _, .int _=>true| .bl _, .str _=>true| .str _, .bl _=>true
 |_,_=>false
def rNe:R2:=λx y H Q=>aaI x y=true/\Q (.bl (!decide (x=y))) H
def Ng:decide (V.int i=V.int j)=(i==j):=by
 rw[uU];simp
def Q3:decide (V.bl i=V.bl j)=(i==j):=by
 rw[uU];simp
def Nh:decide (V.str i=V.str j)=(i==j):=by
 rw[uU];simp
def Nf:decide (V.vJ i=V.vJ j)=(i.toList==j.toList):=by
 rw[uU];cases i;cases j;simp
section
variable {X:Cx} {a b c:Expr} {ta tb tc:TE} {pos:Pos}
def dQ(I:Inv X d f H s)(q:Q (.bl k) H)(e:k=g):EP X d f Q (.bool g) s:=by
 subst e;exact#[.bl k,H,I,rfl,q]
def Xu:OpR X (compareOp .NotEq) rNe:=by
 intro pins s σ H x y v u Q I rx ry h;obtain⟨hs,q⟩:=h;cases x with
 |aL=>
  cases rx;cases y with
  |aL=>cases ry;exact PySem.EqNone.ne_none_none (dQ I q (by simp))
  |bl j=>cases ry;exact PySem.EqNone.ne_none_bool (dQ I q (by simp))
  |int j=>obtain⟨t',rfl⟩:=ry;exact PySem.EqNone.ne_none_int (dQ I q (by simp))
  |str j=>obtain⟨t',rfl⟩:=ry;exact PySem.EqNone.ne_none_str (dQ I q (by simp))
  |_=>exact absurd (show false=true from hs) dj
 |bl i=>
  cases rx;cases y with
  |aL=>cases ry;exact PySem.EqNone.ne_bool_none (dQ I q (by simp))
  |bl j=>cases ry;exact ne_bool (dQ I q (congrArg not Q3))
  |str j=>obtain⟨t',rfl⟩:=ry;exact PySem.EqMixed.ne_bool_str (dQ I q (by simp))
  |_=>exact absurd (show false=true from hs) dj
 |int i=>
  obtain⟨t,rfl⟩:=rx;cases y with
  |aL=>cases ry;exact PySem.EqNone.ne_int_none (dQ I q (by simp))
  |int j=>obtain⟨t',rfl⟩:=ry;exact ne_int (dQ I q (congrArg not Ng))
  |str j=>obtain⟨t',rfl⟩:=ry;exact PySem.EqMixed.ne_int_str (dQ I q (by simp))
  |_=>exact absurd (show false=true from hs) dj
 |str i=>
  obtain⟨t,rfl⟩:=rx;cases y with
  |aL=>cases ry;exact PySem.EqNone.ne_str_none (dQ I q (by simp))
  |bl j=>cases ry;exact PySem.EqMixed.ne_str_bool (dQ I q (by simp))
  |int j=>obtain⟨t',rfl⟩:=ry;exact PySem.EqMixed.ne_str_int (dQ I q (by simp))
  |str j=>obtain⟨t',rfl⟩:=ry;exact ne_str (dQ I q (congrArg not Nh))
  |_=>exact absurd (show false=true from hs) dj
 |vJ i=>
  obtain⟨t,rfl⟩:=rx;cases y with
  |vJ j=>obtain⟨t',rfl⟩:=ry;exact PySem.W.ne_bytes (dQ I q (congrArg not Nf))
  |_=>exact absurd (show false=true from hs) dj
 |_=>cases y<;>exact absurd (show false=true from hs) dj
def HW:OpR X (compareOp .Lt) (C1 λi j=> .bl (decide (i<j))):=Pk λ_ _ _ _ _ _ _ q=>lt_int q
def Xt:OpR X (compareOp .LtE) (C1 λi j=> .bl (decide (i<=j))):=Pk λ_ _ _ _ _ _ _ q=>le_int q
def HU:OpR X (compareOp .Gt) (C1 λi j=> .bl (decide (j<i))):=Pk λ_ _ _ _ _ _ _ q=>gt_int q
def Su:OpR X (compareOp .Is) (λx y H Q=>y= .aL/\Q (.bl (decide (x= .aL))) H):=by
 intro d s g H x y v u Q I e f h;obtain⟨rfl,q⟩:=h;subst f;refine is_none_gen (dQ I q ?_)
 cases x<;>first
  | (cases e;rfl)
  | (obtain⟨t,rfl⟩:=e;rfl)
def Pn:OpR X (compareOp .IsNot) (λx y H Q=>y= .aL/\Q (.bl (!decide (x= .aL))) H):=by
 intro d s g H x y v u Q I e f h;obtain⟨rfl,q⟩:=h;subst f;refine isnot_none_gen (dQ I q ?_)
 cases x<;>first
  | (cases e;rfl)
  | (obtain⟨t,rfl⟩:=e;rfl)
def OpR.or(h:OpR X f r)(k:OpR X f e):OpR X f (λx y H Q=>r x y H Q\/e x y H Q):=by
 intro d s g H x y v u Q I i j q
 rcases q with q|q
 .exact h d s g H x y v u Q I i j q
 .exact k d s g H x y v u Q I i j q
def bD(b:Expr)(h:d≠ .In:=by decide)(e:d≠ .NotIn:=by decide):behindInMarks d b=false:=by
 have f:(d==CmpOp.In)=false:=by cases d<;>first|rfl|exact absurd rfl h
 have g:(d==CmpOp.NotIn)=false:=by cases d<;>first|rfl|exact absurd rfl e
 cases b<;>simp[behindInMarks,f,g]
def Fi(f:OpR X (compareOp e) r)(g:PE X a ta)(i:PE X b tb)(j:behindInMarks e b=false):PE X (.Compare a [e] [b] pos) (Dl r ta tb):=by
 intro d s k H Q I h;exact wpAny_Compare1 (MZ g i I h λv u l x y m n o p q=>f d l k m x y v u Q n o p q) j
def IH(t:TE):TT:=λd H Q=>t d H λx e=>∃k,x= .bl k/\Q k e
def hZ(i:OpR X (compareOp f) r)(j:PE X a ta)(l:PE X b tb)(m:behindInMarks f b=false):PT X (.Compare a [f] [b] pos) (IH (Dl r ta tb)):=by
 intro d s g H Q I h
 refine wpAny_isTrue_Compare1 (thn (j d s g H _ I h) λv n #[x,o,p,q,t]=>thn (l d n g o _ p t) λu w #[y,A,B,C,E]=>
  thn (i d w g A x y v u _ B q C E) λc M #[z,F,G,J,k,e,L]=>?_) m
 subst e;subst J;exact SB #[F,G,L]
def Dj(r f:R2)(g h i:TE):TE:=λd H Q=>g d H λx j=>h d j λy l=>r x y l λz e=>∃k,z= .bl k/\
 (if k=true then i d e λm n=>f y m n Q else Q (.bl false) e)
theorem LX(q:OpR X (compareOp i) r)(t:OpR X (compareOp j) l)(w:PE X a ta)(A:PE X b tb)(B:PE X c tc)
  (C:lastMarks [i,j] [b,c]=false:=by with_unfolding_all rfl):PE X (.Compare a [i,j] [b,c] pos) (Dj r l ta tb tc):=by
 intro f s g H Q I h
 refine Compare_chain (thn (w f s g H _ I h) λv E #[x,F,G,J,L]=>chain_link (thn (A f E g F _ G L) λu M #[y,N,O,m,P]=>
  thn (q f M g N x y v u _ O J m P) λd R #[z,n,o,S,k,e,p]=>?_)) C
 subst e;subst S;refine SB ?_;cases k with
 |false=>exact ite_ff #[.bl false,n,o,rfl,p]
 |true=>exact ite_tt (chain_last (thn (B f R g n _ o p) λT Y #[Z,H4,I4,r4,q4]=>t f Y g H4 y Z u T Q I4 m r4 q4))
theorem Md(q:OpR X (compareOp i) r)(t:OpR X (compareOp j) l)(w:PE X a ta)(A:PE X b tb)(B:PE X c tc)
  (C:lastMarks [i,j] [b,c]=false:=by with_unfolding_all rfl):PT X (.Compare a [i,j] [b,c] pos) (IH (Dj r l ta tb tc)):=by
 intro f s g H Q I h
 refine isTrue_chain (thn (w f s g H _ I h) λv E #[x,F,G,J,L]=>test_link (thn (A f E g F _ G L) λu M #[y,N,O,m,P]=>
  thn (q f M g N x y v u _ O J m P) λd R #[z,n,o,S,k,e,p]=>?_)) C
 subst e;subst S;refine SB ?_;cases k with
 |false=>
  rfl';obtain⟨k',Y,Z⟩:=p;cases Y;ac_rfl;exact ite_ff #[n,o,Z]
 |true=>
  refine ite_tt (test_last (thn (B f R g n _ o p) λw' s4 #[z',H4,I4,r4,q4]=>thn (t f s4 g H4 y z' u w' _ I4 m r4 q4) λd' s5 #[z2,H5,I5,r5,k2,e2,q5]=>?_));subst e2;subst r5;exact SB #[H5,I5,q5]
def T3(K:ad)(x:V)(H:Hp)(k:Bool):Prop:=
 match x with
 | .aL=>k=false
 | .bl b=>k=b
 | .int i=>k=(i !=0)
 | .str y=>y.length<=sizeLine/\k=((y.length:Int) !=0)
 | .vJ y=>y.size<=sizeLine/\k=((y.size:Int) !=0)
 | .ref p=>(∃d,aG K H p d/\k= !d.isEmpty)\/(∃d,fe K H p d/\k= !d.isEmpty)\/∃e,H p\(.dK e)/\k= !e.isEmpty
 |_=>False
def EW(r:KV e f):(!f.isEmpty)= !e.isEmpty:=by
 cases r<;>rfl
def vc(r:Vals e d):(!d.toArray.isEmpty)= !e.isEmpty:=by
 cases r<;>simp
def mm:(sizeLine:Nat)<2^63:=by rw[ab6];decide
def TH:Yn X (λx H Q=>∃k,T3 X.K x H k/\Q k H):=by
 intro pins s σ H x v Q I rx h;obtain⟨k,e,q⟩:=h;have hl:=mm;have hs:sizeLine=16777216:=sizeLine_eq;cases x with
 |aL=>
  cases rx;have e':k=false:=e;subst e';exact truthy_none #[H,I,q]
 |bl b=>
  cases rx;have e':k=b:=e;subst e';exact wpAny_truthy_bool #[H,I,q]
 |int i=>
  obtain⟨t,rfl⟩:=rx;have e':k=(i !=0):=e;subst e';exact PySem.P.truthy_int #[H,I,q]
 |str y=>
  obtain⟨t,rfl⟩:=rx;obtain⟨hy,e'⟩:y.length<=sizeLine/\k=((y.length:Int) !=0):=e;subst e';exact PySem.P.truthy_str () #[H,I.tok _,q]
 |vJ y=>
  obtain⟨t,rfl⟩:=rx;obtain⟨hy,e'⟩:y.size<=sizeLine/\k=((y.size:Int) !=0):=e;subst e';exact PySem.W.truthy_bytes () #[H,I.tok _,q]
 |ref p=>
  subst rx;have e':(∃xs,aG X.K H p xs/\k= !xs.isEmpty)\/(∃xs,fe X.K H p xs/\k= !xs.isEmpty)\/∃fj,H p\(.dK fj)/\k= !fj.isEmpty:=e
  rcases e' with ⟨xs,hx,e'⟩ | ⟨xs,hx,e'⟩ | ⟨fj,hx,e'⟩
  .subst e'
   obtain⟨its,r,pl,hz⟩:=I.list hx;have hlen:=r.length;exact wpAny_truthy_list pl.isList (by simp only[b7];lia) #[H,I.tok _,by rw[vc r];exact q]
  .subst e'
   obtain⟨its,r,pl,hz⟩:=I.tuple hx;have hlen:=r.length;exact truthy_tuple pl (by simp only[b7];lia) #[H,I.tok _,by rw[vc r];exact q]
  .subst e'
   obtain⟨hz,hS,vs,r,m⟩:fj.length<=sizeLine/\(p==sysModules)=false/\∃vs,KV fj vs/\s.heap.DictOf (xR X.prog X.w) p vs:=I.hok p _ hx;have hlen:fj.length=vs.length:=Paired.length r;exact wpAny_truthy_dict hS m () #[H,I.tok _,by rw[EW r];exact q]
 |_=>exact(show False from e).elim
def Me(i:PE X a ta)(j:∀d,isTrue a X.env d=(do let v <-d;standAt a.pos;holding [v] (truthy v))):
  PT X a (λf H Q=>ta f H λx g=>∃k,T3 X.K x g k/\Q k g):=by
 intro e s f H Q I h;exact isTrue_plain (thn (i e s f H _ I h) λv l #[x,m,n,o,p]=>TH e l f m x v Q n o p) (j _)
def vals1(r:Vals [x] d):∃u,d= [u]/\RelV x u:=by
 cases r with
 |cons e f=>cases f;exact#[_,rfl,e]
def vals2(r:Vals [x,y] d):∃u e,d= [u,e]/\RelV x u/\RelV y e:=by
 cases r with
 |cons f g=>
  cases g with
  |cons h i=>cases i;exact#[_,_,rfl,f,h]
def Gp(g:X.calm=true):CallR X (.builtin "max") (λe H Q=>∃i j,e= [.int i, .int j]/\Q (.int (if j>i then j else i)) H):=by
 intro f s m H e n Q I r h;rfl';obtain⟨i,j,rfl,q⟩:=h;obtain⟨u,p,rfl,⟨t,rfl⟩,⟨v,rfl⟩⟩:=vals2 r;ac_rfl;refine max_two_ints (I.ok.hd g) λw x k=>#[_,H,I.kept k,?_,q]
 by_cases d:j>i
 .rw[mo d,mo d];exact#[_,rfl]
 .rw[tz d,tz d];exact#[_,rfl]
def Gq(g:X.calm=true):CallR X (.builtin "min") (λe H Q=>∃i j,e= [.int i, .int j]/\Q (.int (if j<i then j else i)) H):=by
 intro f s m H e n Q I r h;rfl';obtain⟨i,j,rfl,q⟩:=h;obtain⟨u,p,rfl,⟨t,rfl⟩,⟨v,rfl⟩⟩:=vals2 r;ac_rfl;refine min_two_ints (I.ok.hd g) λw x k=>#[_,H,I.kept k,?_,q]
 by_cases d:j<i
 .rw[mo d,mo d];exact#[_,rfl]
 .rw[tz d,tz d];exact#[_,rfl]
def Gn:CallR X (.type "int") (λd H Q=>(∃i,d= [.int i]/\Q (.int i) H)\/∃k,d= [.bl k]/\Q (.int (if k then 1 else 0)) H):=by
 intro e s g H d j Q I r h
 rcases h with ⟨i,rfl,q⟩ | ⟨k,rfl,q⟩
 .obtain⟨u,rfl,t,rfl⟩:=vals1 r
  exact call_int_int #[.int i,H,I,#[_,rfl],q]
 .obtain⟨u,rfl,f⟩:=vals1 r
  cases f;exact call_int_bool #[.int (if k then 1 else 0),H,I.tok _,#[_,rfl],q]
end
structure wC (h:Heap) (x dx C:Addr) (mA:Str->Option Value):Prop where
 obj:h.get? x\(ce C dx)
 ns:h.Ns1 dx mA
 ne:dx≠x
def qU{h:Heap}(n:h.Ns1 c d):∃od,h.get? c\od/\∀b,c4 b od\(d b):=by
 rfl';obtain⟨o,f,u,i,j,k,_,l⟩:=n;ac_rfl;refine#[o,i,λb=>?_];have e:=l b;unfold nsFind findBy at e;rw[<-Array.find?_toList] at e;unfold c4;rw[j];dsimp only
 split
 .rename_i y q
  rw[q] at e;exact On some e
 .rename_i q
  rw[q] at e
  have a:f.toList.any (·.refKey)=false:=by
   rw[List.any_eq_false];intro y m;obtain⟨z,t,p⟩:=k y (Array.mem_toList_iff.mp m);simp[DictEntry.refKey,p]
  have r:¬f.toList.any (·.refKey)=true:=by rw[a];exact dj
  rw[tz r];exact On some e
def wC.look(I:wC h x c C d):∃b,PySem.W.InstAt h x (ce C c) C (some b)/\∀a,c4 a b\(d a):=
 let #[b,e,f]:=qU I.ns
 #[b,#[I.obj,rfl,rfl,e],f]
section
variable {prog:Program} {w:World} {A:Around} {E:Value->Shared->Prop} {s:Shared} {K:ad} {x dx C f:Addr} {mA:Str->Option Value} {name:Str} {v:Value}
def get_map(X:K.In s.heap)(I:wC s.heap x dx C mA)(b:cr K C name=true)(c:cm K C=true)
  (d:ak K (.ref C) name\none) (e:mA name\v) (g:PySem.W.handedIn v=true) (h:Q v {s with toks:=s.toks+1}):
  wpAny (model prog w) A (getAttr (.ref x) name a) Q E s:=by
 obtain⟨j,J,i⟩:=I.look;exact PySem.W.get_value X J (ac3 b).1 (PySem.W.findObj_own c d rfl (by rw[i,e])) g h
def K3(X:K.In s.heap)(I:wC s.heap x dx C mA)(a:cr K C name=true)
  (b:ak K (.ref C) name\(some (.ref f))) (c:b5 K (.ref f)=true) (d:mA name=none) (h:Q (.ref f,[.ref x]) s):
  wpAny (model prog w) A (getMethod (.ref x) name pl) Q E s:=by
 obtain⟨e,J,g⟩:=I.look;exact PySem.W.method_fn X J (ac3 a).1 (ac3 a).2 b (abI.mp c) (by show(c4 name e).map (·.isSome)\false;rw[g,d];rfl) h
def Qa{e:List Str}(X:K.In s.heap)(I:wC s.heap x dx C mA)
  (j:ak K (.ref C) "__setattr__"\(some (.builtin "object.__setattr__"))) (k:dc K C=true) (l:dV K C name\none) (m:cm K C=true)
  (hw:cq mA e) (B:e.length<=sizeLine)
  (h:∀c,wC c x dx C (λy=>if y=name then some v else mA y)->Heap.SameBut dx s.heap c->Q ⟨⟩ {s with heap:=c,toks:=s.toks+2}):
  wpAny (model prog w) A (setAttr (.ref x) name v) Q E s:=by
 rfl';obtain⟨F,J,G⟩:=I.look;obtain⟨H,o,p⟩:=PySem.W.any_some m;ac_rfl;refine PySem.W.set_plain X J j (PySem.W.osa_open (s:={s with toks:=s.toks+1}) (r:=none) X J k l λb=>?_)
 have q:s.heap.get? x\#[.ref C,some dx, .plain, #[]]:=I.obj;refine wpAny_bind (ir (wpAny_bind (wpAny_bind (ac5 q (wpAny_bind (PySem.W.Looks.here (s:={s with toks:=s.toks+1}) (PySem.W.looks_clsIn X o) ?_))))))
 rw[p];refine ir (a:=some dx) (wpAny_bind (ir (wpAny_bind ?_)));refine ad8 (s:={s with toks:=s.toks+1}) I.ns λc g i=>?_
 rfl';obtain⟨L,M,N,t,u,z⟩:=g.count (PySem.Within.cons name v hw);ac_rfl;refine wpAny_bind (adB t (by rw[u];exact adC (iq z (by rw[dG];lia))) ?_)
 exact ir (h _ #[(i.2 _ (Ne.symm I.ne)).trans I.obj,g,I.ne] i)
def LH(X:K.In s.heap)(c:d5 K C=true)
  (e:ak K (.ref C) "__init__"\(some (.ref f))) (i:PySem.W.typeIn K (.ref f)\(.type "function"))
  (h:codeAny (model prog w) (A.under (.builtin "type.__call__" #[.ref C::a,b])) (.call (.ref f) #[.ref (s.heap.objs.size+1)::a,b]) (PySem.W.InitBack (s.heap.objs.size+1) R)
   {s with heap:=(s.heap.push bj).push (ce C s.heap.objs.size)}):
  codeAny (model prog w) A (.call (.ref C) #[a,b]) R s:=by
 obtain⟨j,g,d,t,os⟩:=s;exact PySem.W.make_core (PySem.W.makes_of X c) (PySem.W.looks_findIn X e) (λself=>PySem.W.bind_fn X self i) (.inl rfl) h
end
noncomputable def i7(f:Str)(v:V):List (Str×V)->List (Str×V)
 | []=> [(f,v)]
 | (g,x)::r=>if g=f then(g,v)::r else(g,x)::i7 f v r
theorem mn(f g:Str)(v:V):∀fs:List (Str×V),(i7 f v fs).lookup g=if g=f then some v else fs.lookup g
 | []=>by
  show bf g [(f,v)]=_
  by_cases h:g=f
  .have a:(g==f)=true:=abI.mpr h
   simp only[bf,a,mo h]
  .have a:(g==f)=false:=abA.mpr h
   simp only[bf,a,tz h]
 | (k,x)::r=>by
  have c:=mn f g v r;rw[show i7 f v ((k,x)::r)=(if k=f then(k,v)::r else(k,x)::i7 f v r) from rfl]
  by_cases b:k=f
  .rw[mo b]
   by_cases h:g=k
   .have a:(g==k)=true:=abI.mpr h
    simp only[bf,a,mo (h.trans b)]
   .have a:(g==k)=false:=abA.mpr h
    simp only[bf,a,tz (λe:g=f=>h (e.trans b.symm))]
  .rw[tz b]
   by_cases h:g=k
   .have a:(g==k)=true:=abI.mpr h
    simp only[bf,a,tz (λe:g=f=>b (h.symm.trans e))]
   .have a:(g==k)=false:=abA.mpr h
    simp only[bf,a];exact c
theorem jY(f:Str)(v:V):∀fs:List (Str×V),f∈(i7 f v fs).map (·.1)/\∀g,g∈fs.map (·.1)->g∈(i7 f v fs).map (·.1)
 | []=>#[by simp[i7],λg h=>by simp at h]
 | (k,x)::r=>by
  obtain⟨b,c⟩:=jY f v r;rw[show i7 f v ((k,x)::r)=(if k=f then(k,v)::r else(k,x)::i7 f v r) from rfl]
  by_cases a:k=f
  .rw[mo a]
   subst a;exact#[by simp,λg h=>h]
  .rw[tz a]
   refine#[?_,λg h=>?_]
   .rw[dq]
    exact eW _ b
   .rw[dq] at h ⊢
    rcases eL.mp h with e|e
    .exact eL.mpr (.inl e)
    .exact eW _ (c g e)
theorem mh(f:Str)(v:V):∀fs:List (Str×V),(i7 f v fs).length<=fs.length+1
 | []=>by simp[i7]
 | (k,x)::r=>by
  have b:=mh f v r;rw[show i7 f v ((k,x)::r)=(if k=f then(k,v)::r else(k,x)::i7 f v r) from rfl]
  by_cases a:k=f
  .rw[mo a,dG,dG];lia
  .rw[tz a,dG,dG];lia
def kz.some_of{v:V}{o:Option Value}(r:kz (some v) o):∃u,o\u/\RelV v u:=by
 cases o with
 |none=>exact(show False from r).elim
 |some u=>exact#[u,rfl,r]
def kz.none_of(r:kz none o):o=none:=by
 cases o with
 |none=>rfl
 |some u=>exact(show False from r).elim
def xg{v:V}{u:Value}(r:RelV v u):PySem.W.handedIn u=true:=by
 cases v with
 |aL=>cases(show u=Value.none from r);rfl
 |bl b=>cases(show u=Value.bool b from r);rfl
 |int i=>obtain⟨t,e⟩:=(show ∃t,u=Value.int i t from r);cases e;rfl
 |str x=>obtain⟨t,e⟩:=(show ∃t,u=Value.str x t from r);cases e;rfl
 |vJ b=>obtain⟨t,e⟩:=(show ∃t,u=Value.bytes b t from r);cases e;rfl
 |GJ b=>obtain⟨t,e⟩:=(show ∃t,u=Value.float b t from r);cases e;rfl
 |ref a=>cases(show u=Value.ref a from r);rfl
 |ty n=>cases(show u=Value.type n from r);rfl
section
variable {P:Program} {w:World} {H H':Hp} {h h':Heap} {a C dx:Addr} {fs fs':List (Str×V)}
def r8(hok:gx P w H h)(e:H a\(.ins C dx fs)):∃b,wC h a dx C b/\(∀f,kz (fs.lookup f) (b f))/\cq b (fs.map (·.1))/\fs.length<=1000/\H dx\(.own a):=by
 obtain⟨d,z,ne,c,b,n,r,q⟩:=(show cg P w H h a (.ins C dx fs) from hok a _ e);exact#[b,#[c,n,ne],r,q,z,d]
end
structure wu (K:ad) (C:Addr):Prop where
 pg:cr K C Str.empty=true
 hd:cm K C=true
 po:dc K C=true
 sa:ak K (.ref C) "__setattr__"\(some (.builtin "object.__setattr__"))
def wu.get{K:ad}{C:Addr}(c:wu K C)(f:Str):cr K C f=true:=c.pg
def fP(K:ad)(C:Addr)(f:Str):Prop:=ak K (.ref C) f\none
def fP.II{K:ad}{C:Addr}{f:Str}(n:fP K C f):dV K C f\none:=by
 unfold dV;rw[show ak K (.ref C) f\none from n];rfl
structure Meth (K:ad) (C:Addr) (m:Str) (f:Addr):Prop where
 at_:ak K (.ref C) m\(some (.ref f))
 fn:b5 K (.ref f)=true
 kp:am K (.ref f)=true
section
variable {X:Cx} {pins:List (Addr×Obj)} {σ:St} {H:Hp} {s:Shared} {a C dx:Addr} {fs:List (Str×V)} {f:Str} {v:V} {A:Around} {E:Value->Shared->Prop}
def EF(I:Inv X pins σ H s)(e:H a\(.ins C dx fs))(c:wu X.K C)(n:fP X.K C f)(l:fs.lookup f\v)
  (h:∀u d,Inv X pins σ H d->RelV v u->Q u d):wpAny (model X.prog X.w) A (getAttr (.ref a) f b) Q E s:=by
 obtain⟨i,O,r,_,_,_⟩:=r8 I.hok e;obtain⟨u,j,g⟩:=kz.some_of (v:=v) (o:=i f) (by rw[<-l];exact r f)
 exact get_map I.dW O (c.get f) c.hd n j (xg g) (h u _ (I.tok _) g)
def u5{pl:Sem Bool}(I:Inv X pins σ H s)(e:H a\(.ins C dx fs))(c:wu X.K C)(k:Meth X.K C m g)(l:fs.lookup m=none)
  (h:Q (.ref g,[.ref a]) s):wpAny (model X.prog X.w) A (getMethod (.ref a) m pl) Q E s:=by
 obtain⟨b,O,r,_,_,_⟩:=r8 I.hok e;have d:b m=none:=kz.none_of (by rw[<-l];exact r m)
 exact K3 I.dW O (c.get m) k.at_ k.fn d h
def FD(I:Inv X pins σ H s)(e:H a\(.ins C dx fs))(c:wu X.K C)(n:fP X.K C f)(N:fs.length<1000)(m:RelV y u)
  (h:∀i,Inv X pins σ (upd H a (.ins C dx (i7 f y fs))) i->Q ⟨⟩ i):wpAny (model X.prog X.w) A (setAttr (.ref a) f u) Q E s:=by
 rfl';obtain⟨j,O,r,k,_,l⟩:=r8 I.hok e;have t:(fs.map (·.1)).length<=sizeLine:=by rw[aI,ab6];lia
 ac_rfl;refine Qa I.dW O c.sa c.po n.II c.hd k t λB d F=>h _ ?_;have G:∃o,B.get? dx\o:=let #[o,_,_,J,_]:=d.ns;#[o,J];refine I.write (x:=a) (e:=dx) (by rw[e];exact True.intro) (.inr l) (λb q L z=>(F.2 b L).trans z) G ?_
 refine#[by rw[ag O.ne];exact l,?_,O.ne,d.obj,_,d.ns,λg=>?_,λg M=>?_]
 .have:=mh f y fs;lia
 .show kz ((i7 f y fs).lookup g) (if g=f then some u else j g)
  rw[mn]
  by_cases q:g=f
  .rw[mo q,mo q];exact m
  .rw[tz q,tz q];exact r g
 .by_cases q:g=f
  .rw[q];exact(jY f y fs).1
  .refine(jY f y fs).2 g (k g λz=>M ?_)
   show(if g=f then some u else j g)=none;rw[tz q];exact z
def Inv.made(I:Inv X pins σ H s):Inv X pins σ (upd (upd H s.heap.objs.size (.own (s.heap.objs.size+1))) (s.heap.objs.size+1) (.ins C s.heap.objs.size []))
  {s with heap:=(s.heap.push bj).push (ce C s.heap.objs.size)}:=by
 have c:(s.heap.push bj).get? s.heap.objs.size\bj:=GE s.heap rfl
 have d:((s.heap.push bj).push (ce C s.heap.objs.size)).get? (s.heap.objs.size+1)\(ce C s.heap.objs.size):=by
  have:=GE (s.heap.push bj) (o:=ce C s.heap.objs.size) rfl
  rwa [acn] at this
 have g:(s.heap.push bj).Ns s.heap.objs.size (λ_=>none):=#[bj, #[],_,c,rfl,(λe h=>absurd h (by simp)),λ_=>rfl]
 have i:=I.laid (a:=s.heap.objs.size) (o:= .own (s.heap.objs.size+1)) (h':=s.heap.push bj) (t':=s.toks) (λb u q=>AC _ q) (bq _) #[_,c];refine i.laid (a:=s.heap.objs.size+1) (o:= .ins C s.heap.objs.size []) (t':=s.toks) (λb u q=>AC _ q) (ad9 (acn _ _)) ?_;have ne:s.heap.objs.size≠s.heap.objs.size+1:=bE (adD _);refine#[by rw[ag ne,af],dA _,ne,d,λ_=>none,(Heap.Ns1.of_empty g).at λo q=>AC _ q,λ_=>True.intro,λy j=>absurd rfl j]
def D6{f:Str}{s:Shared}(d:attributeBase e f env (eval e env)=eval e env)
  (h:wpAny (model prog w) A (eval e env) (λo b=>wpAny (model prog w) A (getAttr o f true) Q E b) E s):wpAny (model prog w) A (eval (.Attribute e f c) env) Q E s:=
 Attribute_any_ h (by rw[arm_eval_Attribute,d])
end
def aaR(K:ad)(c:TE)(f:Str):TE:=λd H Q=>c d H λx b=>∃a C e fs v,x= .ref a/\b a\(.ins C e fs)/\wu K C/\fP K C f/\fs.lookup f\v/\Q v b
def aaH(K:ad)(e g:TE)(f:Str):TS:=λD b H=>g b H λy h=>e b h λx c=>∃a C d fs,x= .ref a/\c a\(.ins C d fs)/\wu K C/\fP K C f/\fs.length<1000/\
 D.nx b (upd c a (.ins C d (i7 f y fs)))
section
variable {X:Cx} {o e value:Expr} {f:Str} {pos pos' aaZ:Pos} {ta tv:TE}
def SA(d:PE X e ta)(g:attributeBase e f X.env (eval e X.env)=eval e X.env):PE X (.Attribute e f pos) (aaR X.K ta f):=by
 intro b s i H Q I h;refine D6 g (thn (d b s i H _ I h) λu A j=>?_);rfl';obtain⟨x,m,p,r,a,C,E,fs,v,t,w,c,n,l,q⟩:=j;ac_rfl;subst t;obtain rfl:u=Value.ref a:=r;exact EF p w c n l λF G y z=>#[v,m,y,z,q]
def SN(g:PE X o ta)(i:PE X value tv)(j:swapsWith value (some (.Attribute o f pos')) pos.line X.env=pure false):PS X (.Assign [.Attribute o f pos'] value pos) (aaH X.K ta tv f):=by
 intro b s d H D I h;refine acQ (thn (i b s d H _ I h) λu k #[y,m,p,r,q]=>thn (g b k d m _ p q) λt F #[x,G,v,w,a,C,J,fs,z,A,c,n,l,B]=>?_) j;subst z;obtain rfl:t=Value.ref a:=w;exact FD v A c n l r λL E=>#[d,_,E,B]
end
section
variable {X:Cx} {pins:List (Addr×Obj)} {σ:St} {H:Hp} {s:Shared} {A:Around} {E:Value->Shared->Prop} {Q:Value->Shared->Prop} {c:Value} {b:Bool}
inductive kA (K:ad) (H:Hp):V->Value->Prop where
 |aL:kA K H .aL (.type "NoneType")
 |bl (x:Bool):kA K H (.bl x) (.type "bool")
 |int (i:Int):kA K H (.int i) (.type "int")
 |str (x:Str):kA K H (.str x) (.type "str")
 |GJ (x:UInt64):kA K H (.GJ x) (.type "float")
 |lst {a:Addr} {xs:List V} (e:H a\(.lst xs)):kA K H (.ref a) (.type "list")
 |qK {a:Addr} {o:Obj} {xs:List V} (e:H a\(.qK o (.lst xs))):kA K H (.ref a) (.type "list")
 |tup {a:Addr} {xs:List V} (e:H a\(.tup xs)):kA K H (.ref a) (.type "tuple")
 |dK {a:Addr} {fj:List (Key×V)} (e:H a\(.dK fj)):kA K H (.ref a) (.type "dict")
 |dT {a:Addr} {fj:List (List Key×V)} (e:H a\(.dT fj)):kA K H (.ref a) (.type "dict")
 |ins {a C dx:Addr} {fs:List (Str×V)} (e:H a\(.ins C dx fs)) (cl:wu K C) (ha:ak K (.ref C) "__class__"\(some (.builtin "object.__class__")))
   (hn:bv K (.builtin "object.__class__") "__get__"\(some (.builtin "getset_descriptor.__get__"))) (htk:dM K (.builtin "object.__class__")\true)
   (hm:cv K C (.type "object")\true):kA K H (.ref a) (.ref C)
def Hz{x:V}{u t:Value}(I:Inv X pins σ H s)(rx:RelV x u)(ty:kA X.K H x t)(e:aj X.K t c\b)(h:∀tk,Q (.bool b) {s with toks:=tk}):
  wpAny (model X.prog X.w) A (call (.builtin "isinstance") [u,c]) Q E s:=by
 cases ty with
 |aL=>cases(show u=Value.none from rx);exact PySem.W.kia_one PySem.W.kitx_none I.dW True.intro e (λz=>nomatch z) h
 |bl y=>cases(show u=Value.bool y from rx);exact PySem.W.kia_one PySem.W.kitx_bool I.dW True.intro e (λz=>nomatch z) h
 |int i=>obtain⟨t,q⟩:=(show ∃t,u=Value.int i t from rx);cases q;exact PySem.W.kia_one PySem.W.kitx_int I.dW True.intro e (λz=>nomatch z) h
 |str y=>obtain⟨t,q⟩:=(show ∃t,u=Value.str y t from rx);cases q;exact PySem.W.kia_one PySem.W.kitx_str I.dW True.intro e (λz=>nomatch z) h
 |GJ y=>obtain⟨t,q⟩:=(show ∃t,u=Value.float y t from rx);cases q;exact PySem.W.kia_one PySem.W.kitx_float I.dW True.intro e (λz=>nomatch z) h
 | @lst a xs ea=>
  cases(show u=Value.ref a from rx);obtain⟨_,_,n,_,h1⟩:=(show cg X.prog X.w H s.heap a (.lst xs) from I.hok a _ ea);exact PySem.W.kia_one PySem.W.kitx_list I.dW #[_,h1,rfl] e (λz=>nomatch z) h
 | @qK a ob xs ea=>
  cases(show u=Value.ref a from rx);obtain⟨_,_,_,n,_,h1⟩:=(show cg X.prog X.w H s.heap a (.qK ob (.lst xs)) from I.hok a _ ea);exact PySem.W.kia_one PySem.W.kitx_list I.dW #[_,h1,rfl] e (λz=>nomatch z) h
 | @tup a xs ea=>
  cases(show u=Value.ref a from rx);obtain⟨_,_,_,p⟩:=(show cg X.prog X.w H s.heap a (.tup xs) from I.hok a _ ea);obtain⟨o,h1,h2,_⟩:=p;exact PySem.W.kia_one PySem.W.kitx_tuple I.dW #[o,h1,h2] e (λz=>nomatch z) h
 | @dK a fj ea=>
  cases(show u=Value.ref a from rx);obtain⟨_,_,vs,_,p⟩:=(show cg X.prog X.w H s.heap a (.dK fj) from I.hok a _ ea);obtain⟨o,es,ep,h1,h2,_⟩:=p;exact PySem.W.kia_one PySem.W.kitx_dict I.dW #[o,h1,h2.1] e (λz=>nomatch z) h
 | @dT a fj ea=>
  cases(show u=Value.ref a from rx);obtain⟨_,_,xs,_,o,es,ep,h1,h2,_⟩:=(show cg X.prog X.w H s.heap a (.dT fj) from I.hok a _ ea);exact PySem.W.kia_one PySem.W.kitx_dict I.dW #[o,h1,h2.1] e (λz=>nomatch z) h
 | @ins a C dx fs ea cl ha hn htk hm=>
  rfl';cases(show u=Value.ref a from rx);obtain⟨mA,O,_⟩:=r8 I.hok ea;obtain⟨od,J,_⟩:=O.look;ac_rfl;exact PySem.W.kia_one (PySem.W.kitx_own (cl.get _) cl.hd ha hn htk hm) I.dW J e (λz=>nomatch z) h
end
structure bJ (k:Nat) (A:Around):Prop where
 hd:A.handled=none
 dp:A.depth+3*k+5<recursionLimit
 un:A.units+16*k+200<cLine
def bJ.mono(r:bJ k A)(h:j<=k):bJ j A:=#[r.hd,by have:=r.dp;lia,by have:=r.un;lia]
theorem bJ.deeper(r:bJ (k+1) A)(env:Env):bJ k (A.deeper env):=
 #[r.hd,by have:=r.dp;show A.depth+1+3*k+5<_;lia,by have:=r.un;show A.units+3+16*k+200<_;lia]
def E5{A:Around}:(A.under (.builtin "type.__call__" #[.ref C::a,b])).depth=A.depth+1:=by
 first|rfl|simp[Around.under,Code.weight,Code.isCreation,Code.isGuard,Code.isCaller,Code.frames,Code.isFrame,guardIds]
def E6{A:Around}:(A.under (.builtin "type.__call__" #[.ref C::a,b])).units=A.units+1:=by
 first|rfl|simp[Around.under,Code.cUnits,Code.frames,Code.isFrame]
def bJ.make(r:bJ (k+1) A)(C:Addr)(a:List Value)(b:List (Str×Value)):bJ k (A.under (.builtin "type.__call__" #[.ref C::a,b])):=
 #[r.hd,by have:=r.dp;rw[E5];lia,by have:=r.un;rw[E6];lia]
theorem bJ.depth{k:Nat}(r:bJ k A):A.depth<recursionLimit:=by have:=r.dp;lia
theorem bJ.units{k:Nat}(r:bJ k A):A.units+64<cLine:=by have:=r.un;lia
def UZ:TA:=λ_ H Q=>Q [] H
def XW(b:TE)(tr:TA):TA:=λa H Q=>b a H λx c=>tr a c λd e=>Q (x::d) e
section
variable {X:Cx} {e:Expr} {es:List Expr} {te:TE} {t:TA} {pos:Pos}
def az:PA X [] UZ:=λ_ _ _ _ H Q I h=>Calls.spliced_nil #[[],H,I, .nil,h]
def ah(d:PE X e te)(f:PA X es t)(g:starEach (e::es) X.env=(false,eval e X.env)::starEach es X.env:=by rfl):PA X (e::es) (XW te t):=by
 intro b a s c H Q I h;rw[g];show wpAny _ _ (spliced ((false,eval e X.env)::backTo b (starEach es X.env))) _ _ s;refine Calls.spliced_cons (thn (d a s c H _ I h) λu i j=>?_);rfl';obtain⟨x,l,m,n,o⟩:=j;ac_rfl;exact thn (f b a i c l _ m o) λz A #[p,q,r,v,w]=>#[x::p,q,r, .cons n v,w]
def aaY(t:TA):TE:=λc H Q=>t c H λa b=>a.length<=sizeLine/\∀p,b p=none->Q (.ref p) (upd b p (.tup a))
def aaU(t:TA):TE:=λc H Q=>t c H λa b=>a.length<=sizeLine/\∀p,b p=none->Q (.ref p) (upd b p (.lst a))
def sD{x1}(h:PA X es t):PE X (.Tuple es x1 pos) (aaY t):=by
 intro a s g H Q I i;refine wpAny_Tuple_spliced (thn (h pos a s g H _ I i) λj c #[k,d,f,r,z,q]=>#[r.length▸z,?_]);have l:d c.heap.objs.size=none:=f.hok.fresh (bq _);refine#[.ref c.heap.objs.size,upd d c.heap.objs.size (.tup k),f.laid (t':=c.toks) (λb u e=>AC _ e) (bq _) ?_,rfl,q _ l];exact#[z,j,r,#[_,GE _ rfl,rfl,_,rfl]]
def fC(h:PA X es t):PE X (.List es pos) (aaU t):=by
 intro a s g H Q I i;refine wpAny_List_spliced (thn (h pos a s g H _ I i) λj c #[k,d,f,r,z,q]=>#[r.length▸z,?_]);have l:d c.heap.objs.size=none:=f.hok.fresh (bq _);refine#[.ref c.heap.objs.size,upd d c.heap.objs.size (.lst k),f.laid (t':=c.toks) (λb u e=>AC _ e) (bq _) ?_,rfl,q _ l];exact#[z,j,0,r,GE _ rfl]
end
abbrev Sp:=List V->Hp->VK->XK->Prop
abbrev pX:=List Env->Hp->Shared->XK->Value->Shared->Prop
structure Env0 (P:Program) (w:World) (K:ad) (mg:Str->Option Value) (base:Heap) (A:Around) (outer:List Env) (s:Shared) (H:Hp):Prop where
 frames:A.frames\outer
 mod:Mod K mg base
 bs:∀b o,base.get? b\o->s.heap.get? b\o/\H b=none
 bsz:base.objs.size<=s.heap.objs.size
 funs:s.heap.FunFrames base outer
 frf:∀b∈rQ outer,H b=none
 hok:gx P w H s.heap
 bare:AllBare s.gens
def CE(outer:List Env)(P:Program)(w:World)(H:Hp)(s:Shared)(Q:VK)(u:Value)(a:Shared):Prop:=
 ∃v b,a.os=s.os/\AllBare a.gens/\Un (rQ outer) [] H b s.heap a.heap/\gx P w b a.heap/\RelV v u/\Q v b
def CR(b:pX)(outer:List Env)(P:Program)(w:World)(H:Hp)(s:Shared)(Q:VK)(E:XK)(r:Result)(a:Shared):Prop:=
 match r with
 | .ok (.ret u)=>CE outer P w H s Q u a
 | .ok _=>False
 | .error e=>b outer H s E e a
structure FnOk (P:Program) (w:World) (K:ad) (mg:Str->Option Value) (base:Heap) (CX:pX) (k:Nat) (f:Addr) (fd:FuncData) (ps:List Str) (sp:Sp):Prop where
 len:∀vs H Q E,sp vs H Q E->vs.length=ps.length
 run:∀(A:Around)(outer:List Env)(s:Shared)(H:Hp)(args:Args)(us:List Value)(vs:List V)(Q:VK)(E:XK),bJ k A->Env0 P w K mg base A outer s H->BindsTo s fd args (ps.zip us)->Vals vs us->sp vs H Q E->
  codeAny (model P w) A (.call (.ref f) args) (CR CX outer P w H s Q E) s
theorem FnOk.mono{P:Program}{w:World}{K:ad}{b:Str->Option Value}{base:Heap}(F:FnOk P w K b base c j f d ps e)(h:j<=k):
  FnOk P w K b base c k f d ps e:=#[F.len,λA outer s H a g i Q E l=>F.run A outer s H a g i Q E (l.mono h)]
def FnOk.imp{P:Program}{w:World}{K:ad}{d:Str->Option Value}{base:Heap}{f:Addr}{i b:Sp}(F:FnOk P w K d base e k f g ps i)
  (h:∀a H Q E,b a H Q E->i a H Q E):FnOk P w K d base e k f g ps b:=
 #[λa H Q E q=>F.len a H Q E (h _ _ _ _ q),λA outer s H c j a Q E l m n o p=>F.run A outer s H c j a Q E l m n o (h _ _ _ _ p)]
def Env0.make{P:Program}{w:World}{K:ad}{a:Str->Option Value}{base:Heap}{A:Around}{outer:List Env}{s:Shared}{H:Hp}(e:Env0 P w K a base A outer s H)(C:Addr)(b:List Value)(c:List (Str×Value)):
  Env0 P w K a base (A.under (.builtin "type.__call__" #[.ref C::b,c])) outer s H:=#[by first|exact e.frames| (simpa [Around.under,Code.envs,Code.isFrame,pushEnvs] using e.frames),e.mod,e.bs,e.bsz,e.funs,e.frf,e.hok,e.bare]
section
variable {X:Cx} {pins:List (Addr×Obj)} {σ:St} {H:Hp} {s s':Shared}
def Inv.Jz(I:Inv X pins σ H s):Env0 X.prog X.w X.K X.mg X.base X.A X.stack s H:=
 #[I.ok.frames,I.ok.mod,I.bs,iq I.ok.bsz I.sz,I.stack,I.yD,I.hok,I.bare]
def Inv.after(I:Inv X pins σ H s)(h:CE X.stack X.prog X.w H s Q u s'):EP X pins σ Q u s':=by
 obtain⟨v,c,os,bare,un,hok,r,q⟩:=h;obtain⟨e,g,d,t,a⟩:=s';obtain rfl:a=s.os:=os;exact#[v,c,I.call (h':=e) (g':=g) (d':=d) (t':=t) (ch:= []) un hok bare (λb z=>absurd z (by simp)),r,q]
end
def XU(a:Sp)(b:List V)(E:XK)(t:TA):TE:=λc H Q=>t c H λd e=>a (d++b) e Q E
def IG(C:Addr)(m:Str)(d:Sp)(e:List V)(E:XK)(f:TE)(t:TA):TE:=λb H Q=>f b H λx c=>∃a g fs,x= .ref a/\c a\(.ins C g fs)/\fs.lookup m=none/\
 t b c λh i=>d (x::(h++e)) i Q E
def XZ(C:Addr)(c:Sp)(d:List V)(E:XK)(t:TA):TE:=λe H Q=>t e H λf b=>∀x a,b x=none->b a=none->a≠x->
 c (.ref x::(f++d)) (upd (upd b a (.own x)) x (.ins C a [])) (λv g=>v= .aL/\Q (.ref x) g) E
def Binds(K:ad)(d:FuncData)(b:List Str)(c:List Value):Prop:=
 ∀(s:Shared)(a:List Value),K.In s.heap->(a++c).length=b.length->BindsTo s d #[a,[]] (b.zip (a++c))
def Binds.all{K:ad}{c:FuncData}{b:List Str}(h:∀a:List Value,a.length=b.length->bindArgs c #[a,[]]=pure (b.zip a)):Binds K c b []:=λs a _ d=>by
 rw[eJ] at d ⊢;exact .of_eq (h a d)
def Passes(c:pX)(X:Cx)(E:XK):Prop:=∀(a:List (Addr×Obj))(d:St)(H:Hp)(s:Shared)(e:Value)(b:Shared),Inv X a d H s->c X.stack H s E e b->X.xe e b
section
variable {X:Cx} {CX:pX} {k:Nat} {f C:Addr} {fd:FuncData} {ps:List Str} {sp:Sp} {bx:List V} {ds:List Value} {E:XK} {x m:Str} {p pos apos:Pos} {e o:Expr} {es:List Expr} {ta:TE} {t:TA}
theorem C2{pins:List (Addr×Obj)}{σ:St}{H:Hp}{s:Shared}{Q:VK}{us:List Value}{vs:List V}(F:FnOk X.prog X.w X.K X.mg X.base CX k f fd ps sp)(hr:bJ k X.A)(hb:Binds X.K fd ps ds)(hd:Vals bx ds)(hx:Passes CX X E)
  (I:Inv X pins σ H s) (r:Vals vs us) (h:sp (vs++bx) H Q E):wpAny (model X.prog X.w) X.A (call (.ref f) us) (EP X pins σ Q) X.xe s:=by
 have r2:Vals (vs++bx) (us++ds):=r.append hd;have hl:(us++ds).length=ps.length:=by rw[<-r2.length];exact F.len _ _ _ _ h
 refine wpAny_call (codeAny_mono (F.run X.A X.stack s H #[us,[]] (us++ds) (vs++bx) Q E hr I.Jz (hb s us I.dW hl) r2 h) λr s' hq=>?_);cases r with
 |error e=>exact hx pins σ H s e s' I hq
 |ok fl=>
  cases fl with
  |ret u=>exact I.after hq
  |next=>exact False.elim hq
  |brk=>exact False.elim hq
  |cont=>exact False.elim hq
def bb(F:FnOk X.prog X.w X.K X.mg X.base CX k f fd ps sp)(c:bJ k X.A)(d:Gl X x)(g:X.mg x\(.ref f))(i:am X.K (.ref f)=true)(j:Binds X.K fd ps ds)(l:Vals bx ds)(n:Passes CX X E)
  (u:PA X (e::es) t) (v:(x==("__debug__":Str))=false:=by decide) (y:starEach (e::es) X.env=(false,eval e X.env)::starEach es X.env:=by rfl) (z:(backTo pos (starEach es X.env)).any (·.1)=false:=by rfl):
  PE X (.Call (.Name x p) (e::es) [] pos) (XU sp bx E t):=by
 intro a s B H Q I h;refine abC (jZ I d g ?_ v);refine ab4 (h₀:=X.base) I.ok.mod.kin i (thn (u pos a s B H _ I h) λG J #[L,M,b,r,q]=>#[b.dW,?_]) y z;exact C2 F c j l n b r q
def Py{pl:Sem Bool}(v:PE X o ta)(c:wu X.K C)(d:Meth X.K C m f)(F:FnOk X.prog X.w X.K X.mg X.base CX k f fd ps sp)(y:bJ k X.A)(z:Binds X.K fd ps ds)(B:Vals bx ds)(G:Passes CX X E)(J:PA X (e::es) t)
  (L:starEach (e::es) X.env=(false,eval e X.env)::starEach es X.env:=by rfl) (M:(backTo pos (starEach es X.env)).any (·.1)=false:=by rfl)
  (N:eval (.Call (.Attribute o m apos) (e::es) [] pos) X.env=(do
   let g <-eval o X.env
   standAt apos.atName
   let (f,first) <-holding [g] (getMethod g m pl)
   callWith pos f first (backTo pos (starEach (e::es) X.env)) (backToKw pos (keywordEach [] X.env))):=by rfl):
  PE X (.Call (.Attribute o m apos) (e::es) [] pos) (IG C m sp bx E ta t):=by
 intro b s i H Q I h;refine acM (pl:=pl) (thn (v b s i H _ I h) λu O #[x,P,j,R,a,Z,fs,S,T,l,q]=>?_) N;subst S;obtain rfl:u=Value.ref a:=R;refine u5 j T c d l ?_;refine ab4 (first:= [.ref a]) (h₀:=X.base) I.ok.mod.kin d.kp (thn (J pos b O i P _ j q) λus p #[vs,H2,n,r,Y]=>#[n.dW,?_]) L M;exact C2 (us:= .ref a::us) (vs:= .ref a::vs) F y z B G n (.cons rfl r) Y
def LZ{pl:Sem Bool}(j:PE X o ta)(c:wu X.K C)(g:Meth X.K C m f)(F:FnOk X.prog X.w X.K X.mg X.base CX k f fd ps sp)(n:bJ k X.A)(r:Binds X.K fd ps ds)(v:Vals bx ds)(y:Passes CX X E)
  (z:eval (.Call (.Attribute o m apos) [] [] pos) X.env=(do
   let i <-eval o X.env
   standAt apos.atName
   let (f,first) <-holding [i] (getMethod i m pl)
   callWith pos f first (backTo pos (starEach [] X.env)) (backToKw pos (keywordEach [] X.env))):=by rfl):
  PE X (.Call (.Attribute o m apos) [] [] pos) (IG C m sp bx E ta UZ):=by
 intro b s B H Q I h;refine acM (pl:=pl) (thn (j b s B H _ I h) λu M #[x,N,d,G,a,O,fs,J,L,l,q]=>?_) z;subst J;obtain rfl:u=Value.ref a:=G;refine u5 d L c g l ?_;exact PySem.W.callWith_K0 (first:= [.ref a]) d.dW g.kp (C2 (us:= [.ref a]) (vs:= [.ref a]) F n r v y d (.cons rfl .nil) q)
structure Mk (K:ad) (C f:Addr):Prop where
 makes:d5 K C=true
 init:ak K (.ref C) "__init__"\(some (.ref f))
 fn:b5 K (.ref f)=true
 kp:am K (.ref C)=true
theorem Mn{pins:List (Addr×Obj)}{σ:St}{H:Hp}{s:Shared}{Q:VK}{us:List Value}{vs:List V}(M:Mk X.K C f)(F:FnOk X.prog X.w X.K X.mg X.base CX k f fd ps sp)(hr:bJ (k+1) X.A)(hb:Binds X.K fd ps ds)(hd:Vals bx ds)
  (hx:Passes CX X E) (I:Inv X pins σ H s) (r:Vals vs us)
  (h:∀x dx,H x=none->H dx=none->dx≠x->sp (.ref x::(vs++bx)) (upd (upd H dx (.own x)) x (.ins C dx [])) (λv H2=>v= .aL/\Q (.ref x) H2) E):
  wpAny (model X.prog X.w) X.A (call (.ref C) us) (EP X pins σ Q) X.xe s:=by
 have hq:=h (s.heap.objs.size+1) s.heap.objs.size (I.hok.fresh (mX _)) (I.hok.fresh (bq _)) (bE (Nat.lt_succ_self _));have I2:=Inv.made (C:=C) I;have r2:Vals (V.ref (s.heap.objs.size+1)::(vs++bx)) (Value.ref (s.heap.objs.size+1)::(us++ds)):= .cons rfl (r.append hd)
 have hl:(Value.ref (s.heap.objs.size+1)::us++ds).length=ps.length:=by
  have e:=r2.length;rw[F.len _ _ _ _ hq] at e;exact e.symm
 refine wpAny_call (LH (f:=f) I.dW M.makes M.init (beq_iff_eq.mp M.fn) (codeAny_mono (F.run _ X.stack _ _ #[Value.ref (s.heap.objs.size+1)::us,[]] (Value.ref (s.heap.objs.size+1)::(us++ds)) _ _ E (hr.make C us [])
  (I2.Jz.make C us []) (hb _ (Value.ref (s.heap.objs.size+1)::us) I2.dW hl) r2 hq) λr s' nY=>?_))
 cases r with
 |error e=>exact hx pins σ _ _ e s' I2 nY
 |ok fl=>
  cases fl with
  |ret u=>
   rfl';obtain⟨v,H',I3,rv,ev,q3⟩:=I2.after nY;subst ev;ac_rfl;exact#[rv,#[V.ref (s.heap.objs.size+1),H',I3,rfl,q3]]
  |next=>exact False.elim nY
  |brk=>exact False.elim nY
  |cont=>exact False.elim nY
def Px(M:Mk X.K C f)(F:FnOk X.prog X.w X.K X.mg X.base CX k f fd ps sp)(c:bJ (k+1) X.A)(d:Gl X x)(g:X.mg x\(.ref C))(i:Binds X.K fd ps ds)(j:Vals bx ds)(l:Passes CX X E)
  (n:PA X (e::es) t) (u:(x==("__debug__":Str))=false:=by decide) (v:starEach (e::es) X.env=(false,eval e X.env)::starEach es X.env:=by rfl) (y:(backTo pos (starEach es X.env)).any (·.1)=false:=by rfl):
  PE X (.Call (.Name x p) (e::es) [] pos) (XZ C sp bx E t):=by
 intro a s z H Q I h;refine abC (jZ I d g ?_ u);refine ab4 (h₀:=X.base) I.ok.mod.kin M.kp (thn (n pos a s z H _ I h) λB G #[J,L,b,r,q]=>#[b.dW,?_]) v y;exact Mn M F c i j l b r q
end
section
variable {X:Cx} {CX:pX} {k:Nat} {f C:Addr} {fd:FuncData} {ps ks:List Str} {sp:Sp} {E:XK} {x m:Str} {p pos apos abr:Pos} {e o:Expr} {es:List Expr} {kws:List Keyword} {te ta:TE} {t tk:TA} {nm:Option Str}
variable {g:List Value->List Value->List Value} {gV:List V->List V->List V}
end
structure aE (N P:List Str) (sc:Scope):Prop where
 kind:sc.kind= .function
 co:sc.isCoroutine=false
 gen:sc.isGenerator=false
 nd:N.Nodup
 pre:N.take P.length=P
 par:∀x∈P,sc.names.lookup x\.local\/sc.names.lookup x\.cell
 nofree:∀y∈sc.names,y.2≠ .free
theorem wJ{kindOf:Str->Option NameKind}{x:Str}:∀{binds:List (Str×Value)}{m:Str->Option Value},(∀v,(x,v)∉binds)->bindL kindOf binds m x=m x
 | [],_,_=>rfl
 | (n,v)::r,m,h=>by
  unfold bindL;rw[wJ λw hw=>h w (eW _ hw)]
  split
  .have:x≠n:=by rintro rfl;exact h v dB
   simp[this]
  .rfl
theorem wH{kindOf:Str->Option NameKind}{x:Str}:∀{binds:List (Str×Value)}{m:Str->Option Value},(∀v,(x,v)∉binds)->bindC kindOf binds m x=m x
 | [],_,_=>rfl
 | (n,v)::r,m,h=>by
  unfold bindC;rw[wH λw hw=>h w (eW _ hw)]
  split
  .rfl
  .have:x≠n:=by rintro rfl;exact h v dB
   simp[this]
theorem wI{kindOf:Str->Option NameKind}{x:Str}{v:Value}:∀{P:List Str}{a:List Value}{i:Nat}{m:Str->Option Value},P.Nodup->P[i]?\x->a[i]?\v->kindOf x\.local->
  bindL kindOf (P.zip a) m x\v
 | [],_,_,_,_,h,_,_=>by simp at h
 |_::_,[],_,_,_,_,h,_=>by simp at h
 |p::P,w::a,0,m,d,b,c,e=>by
  simp at b c;subst b;subst c;show bindL kindOf ((p,w)::P.zip a) m p=_;unfold bindL;rw[wJ λv f=>(vE.mp d).1 (adR f).1,mo e];simp
 |p::P,w::a,i+1,m,d,b,c,e=>by
  show bindL kindOf ((p,w)::P.zip a) m x=_;unfold bindL;exact wI (i:=i) (vE.mp d).2 (~~~b) (~~~c) e
theorem wG{kindOf:Str->Option NameKind}{x:Str}{v:Value}:∀{P:List Str}{a:List Value}{i:Nat}{m:Str->Option Value},P.Nodup->P[i]?\x->a[i]?\v->kindOf x≠some .local->
  bindC kindOf (P.zip a) m x\v
 | [],_,_,_,_,h,_,_=>by simp at h
 |_::_,[],_,_,_,_,h,_=>by simp at h
 |p::P,w::a,0,m,d,b,c,e=>by
  simp at b c;subst b;subst c;show bindC kindOf ((p,w)::P.zip a) m p=_;unfold bindC;rw[wH λv f=>(vE.mp d).1 (adR f).1,tz e];simp
 |p::P,w::a,i+1,m,d,b,c,e=>by
  show bindC kindOf ((p,w)::P.zip a) m x=_;unfold bindC;exact wG (i:=i) (vE.mp d).2 (~~~b) (~~~c) e
noncomputable def start(N:List Str)(a:List V):St:=a.map some++bu (N.length-a.length) none
noncomputable def jt(g:pX)(P:Program)(w:World)(K:ad)(mg:Str->Option Value)(base:Heap)(N:List Str)(b:Str)(a:Scope)(f:Addr)(c:Value)(A:Around)(outer:List Env)(s:Shared)(H:Hp)(E:XK):Cx where
 prog:=P
 w:=w
 K:=K
 mg:=mg
 base:=base
 A:=A.deeper (envOfC b a s.heap.objs.size f c)
 N:=N
 s₀:=s
 H₀:=H
 env:=envOfC b a s.heap.objs.size f c
 outer:=outer
 stack:=envOfC b a s.heap.objs.size f c::outer
 ex:= []
 calm:=true
 fn:=λ_=>true
 pn:= []
 xe:=λe h=>wpAny (model P w) (A.deeper (envOfC b a s.heap.objs.size f c)) (leaving (envOfC b a s.heap.objs.size f c) e) (λ_ d=>g outer H s E e d) (λi d=>g outer H s E i d) h
def Aa{a:Scope}{n:Nat}(h:a.names.lookup x\.cell):∃c,(cellsFrom n a.names []).lookup x\c:=by
 have q:=adW a.names n [] (.inl h);exact Option.isSome_iff_exists.mp q
def _root_.o1_{a b c:Nat}(d:a=b)(e:b<=c):a+(c-a)=c:=()
theorem Hx{O:pX}{P:Program}{w:World}{K:ad}{J:Str->Option Value}{base:Heap}{N m:List Str}{g:Str}{d:Scope}{f:Addr}{F:Value}{A:Around}{outer:List Env}{s Q:Shared}{H:Hp}{E:XK}{L:List Value}{o:List V}
  (S:aE N m d) (X:A.handled=none) (l:Env0 P w K J base A outer s H) (Y:o.length=m.length) (r:Vals o L)
  (x:InCallC s s.heap.objs.size (bindL (envOfC g d s.heap.objs.size f F).kindOf (m.zip L) λ_=>none) (cellsFrom (s.heap.objs.size+1) d.names []) (bindC (envOfC g d s.heap.objs.size f F).kindOf (m.zip L) λ_=>none) Q):
  Inv (jt O P w K J base N g d f F A outer s H E) [] (start N o) H Q:=by
 have Z:m.length<=N.length:=by have:=On db S.pre;rw[gO] at this;lia
 obtain⟨G,tk,rfl,R⟩:=x.done;have M:∀b:Addr,b∉(jt O P w K J base N g d f F A outer s H E).ex:=λb z=>absurd (show b∈([]:List Addr) from z) (by simp)
 refine#[#[l.mod,S.kind,rfl,rfl,bq _,λy z c G j=>?_,λy t=>?_,λy c _ h=>?_,λ_=>X,Around.frames_deeper l.frames, .inr #[rfl,rfl],λb z=>absurd z (M b),l.bs,l.bsz,λb _ _=>M b,λb z=>absurd z (M b),l.funs,l.frf],
  rfl,l.bare,Un.kept R,#[_,x.toInCall.ns,λi y v G j h3=>?_],λy c h=>#[_,x.cell y c h],l.hok.fresh (bq _),λy c h=>?_,λp B=>absurd (show p∈([]:List (Addr×Obj)) from B) (by simp),l.hok.kept R,?_]
 .exact name_of_addr x.apart (abM G) (abM j)
 .have t:d.names.lookup y\.cell\/d.names.lookup y\.free:=t
  rcases t with t|t
  .exact Aa t
  .exact absurd rfl (S.nofree _ (abM t))
 .exact pb (x.above y c (abM h))
 .have I:i<o.length:=by
   unfold start at j
   by_cases I:i<o.length
   .exact I
   .rw[iz (~~~I)] at j
    rw[tH] at j
    split at j<;>cases j
  have ha:o[i]?\v:=by
   unfold start at j;rw[fY (~~~I),dJ] at j
   cases e:o[i]? with
   |none=>rw[e] at j;cases j
   |some a=>rw[e] at j;cases j;rfl
  obtain⟨u,T,rv⟩:=r.get ha
  have B:m[i]?\y:=by
   rw[<-S.pre,DL ()];exact G
  have C:m.Nodup:=by rw[<-S.pre];exact S.nd.sublist (List.take_sublist _ _)
  exists u,rv
  rcases S.par y (cV B) with k|k
  .exact .inl #[k,wI C B T k]
  .obtain⟨c,e⟩:=Aa (n:=s.heap.objs.size+1) k
   refine .inr #[.inl k,c,e,?_];have q:=x.cell y c e;rw[wG C B T (by show d.names.lookup y≠_;rw[k];decide)] at q
   exact q
 .exact l.hok.fresh (pb (x.above y c (abM h)))
 .unfold start
  show _=N.length;rw[dh,aI,vz];exact o1_ Y Z
theorem NO{B:pX}{P:Program}{w:World}{K:ad}{C:Str->Option Value}{base:Heap}{k:Nat}{f:Addr}{i c:Str}{d:Arguments}{g:List Stmt}{a:Scope}{X kV p Y l Z oc:Value}{an od:Option Addr}
  {CU:Array (Option Value)} {N F:List Str} {L:Sp} (lk:K.lookup f\#[oc,od, .func (cb i c d g a X kV p Y an l Z),CU]) (fK:bd K l c=true) (S:aE N F a)
  (len:∀h H Q E,L h H Q E->h.length=F.length)
  (iG:∀(A:Around)(outer:List Env)(s:Shared)(H:Hp)(h:List V)(Q:VK)(E:XK),bJ k (A.deeper (envOfC c a s.heap.objs.size f l))->L h H Q E->
   ∃t,jz (jt B P w K C base N c a f l A outer s H E) g t/\t {nx:=λ_ j=>Q .aL j,rt:=Q} (start N h) H):
  FnOk P w K C base B (k+1) f (cb i c d g a X kV p Y an l Z) F L:=by
 refine#[len,λA outer s H args us h Q E M z hb r zG=>?_];have hl:=len _ _ _ _ zG;have KX:K.In s.heap:=z.mod.kin.keeps λb o e=>(z.bs b o e).1;have O:s.heap.NoLimit:=z.mod.nolimit.keeps λb o e=>(z.bs b o e).1
 have WE:∀y∈F.zip us,a.names.lookup y.1\.local\/(a.names.lookup y.1\.cell/\((cellsFrom (s.heap.objs.size+1) a.names []).lookup y.1).isSome=true):=λ#[n,v] hy=>by
  rcases S.par n (adR hy).1 with q|q
  .exact .inl q
  .exact .inr #[q,adW _ _ _ (.inl q)]
 refine codeAny_call_function M.depth (KX _ _ lk) rfl S.co S.gen rfl (PySem.W.codeRec_of KX fK) (hb _ _ _ _ ?_);refine wpAny_newFunctionEnv_cells S.kind WE λenv he s1 x=>?_;subst he;obtain⟨t,ht,hq⟩:=iG A outer s H h Q E (M.deeper _) zG;refine#[O.keeps x.toInCall.keep,codeAny_func ?_];have I:Inv (jt B P w K C base N c a f l A outer s H E) [] (start N h) H s1:=Hx S M.hd z hl r x;refine wpAny_mono (ht [] s1 (start N h) H _ I hq) (λfl R m=>?_) λe R m=>m
 have fin:∀{G:St}{j:Hp}{v:V}{u:Value},Inv (jt B P w K C base N c a f l A outer s H E) [] G j R->RelV v u->Q v j->CE outer P w H s Q u R:=
  λ {G j v u} J T q=>#[v,j,J.os,J.bare,J.base,J.hok,T,q]
 cases fl with
 |ret u=>
  obtain⟨v,G,j,J,T,q⟩:=m;exact fin J T q
 |next=>
  obtain⟨G,j,J,q⟩:=m;exact fin (v:=V.aL) (u:=Value.none) J rfl q
 |brk=>
  obtain⟨_,_,_,q⟩:=m;exact False.elim q
 |cont=>
  obtain⟨_,_,_,q⟩:=m;exact False.elim q
section
variable {X:Cx} {x:Str} {p pos:Pos} {e:Expr} {es:List Expr} {t:TA} {id T:String} {r:List V->Hp->VK->Prop}
def tCB(r:List V->Hp->VK->Prop)(t:TA):TE:=λa H Q=>t a H λb c=>r b c Q
def cR(c:CallR X (.builtin id) r)(d:Gl X x)(f:X.mg x=none)(g:bootBuiltins x\(.builtin id))(i:PA X (e::es) t)(j:x≠"__name__":=by decide)(k:(x==("__debug__":Str))=false:=by decide)
  (l:starEach (e::es) X.env=(false,eval e X.env)::starEach es X.env:=by rfl) (m:(backTo pos (starEach es X.env)).any (·.1)=false:=by rfl):PE X (.Call (.Name x p) (e::es) [] pos) (tCB r t):=by
 intro a s b H Q I h;refine abC (jE I d f g ?_ j k);exact acU (thn (i pos a s b H _ I h) λn o #[q,u,v,w,y]=>c a o b u q n Q v w y) l m
def ye(c:CallR X (.type T) r)(d:Gl X x)(f:X.mg x=none)(g:bootBuiltins x\(.type T))(i:PA X (e::es) t)(j:x≠"__name__":=by decide)(k:(x==("__debug__":Str))=false:=by decide)
  (l:starEach (e::es) X.env=(false,eval e X.env)::starEach es X.env:=by rfl) (m:(backTo pos (starEach es X.env)).any (·.1)=false:=by rfl):PE X (.Call (.Name x p) (e::es) [] pos) (tCB r t):=by
 intro a s b H Q I h;refine abC (jE I d f g ?_ j k);exact Wp (thn (i pos a s b H _ I h) λn o #[q,u,v,w,y]=>c a o b u q n Q v w y) l m
end
end L2
namespace HT
open PySem PyProof.Rows
noncomputable def lexLt:List Int->List Int->Bool
 | [],[]=>false
 | [],_::_=>true
 |_::_,[]=>false
 |x::a,y::b=>if x=y then lexLt a b else decide (x<y)
def gJ(x y:Int)(a b:List Int):lexLt (x::a) (y::b)=if x=y then lexLt a b else decide (x<y):=rfl
def xK:lexLt [] []=false:=rfl
def vQ(y:Int)(a:List Int):lexLt [] (y::a)=true:=rfl
def vP(x:Int)(a:List Int):lexLt (x::a) []=false:=rfl
def KR(A:Around)(s:Shared)(a:Int)(t:Tok)(c:Int)(u:Tok):∃e,SeqAt.EqAt A s (.int a t) (.int c u) e/\(e=true↔a=c):=
 #[(a==c),aci a t c u,by simp]
def Mg(A:Around)(s:Shared)(a:Int)(t:Tok)(c:Int)(u:Tok)(prog:Program)(w:World)(E:Value->Shared->Prop)(Q:Value->Shared->Prop)(h:Q (.bool (decide (a<c))) s):
  wpAny (model prog w) A (richCompare .Lt (.int a t) (.int c u)) Q E s:=
 (PyProof.Rows.lt_int h:wpAny (model prog w) A (compareOp .Lt (.int a t) (.int c u)) Q E s)
section
open PySem.SeqAt
open PySem.AutoSeq1 (wpAny_loadPart')
open PySem.MeetsSeq PySem.MeetsSeq2 PySem.MeetsSeq3
end
section
variable {prog:Program} {w:World} {A:Around} {E:Value->Shared->Prop} {s:Shared}
def M3(r:IsTup s.heap t c.toArray)(u:IsTup s.heap b a.toArray)(h:c≠ [])
  (v:a= []->Q (.ref t) s) (x:a≠ []->Q (.ref s.heap.objs.size) {s with heap:=s.heap.push {cls:= .type "tuple",data:= .seq (c++a).toArray}})
  (y:c.length+a.length<=sizeLine):wpAny (model prog w) A (binaryOp .Add (.ref t) (.ref b)) Q E s:=by
 rfl';obtain⟨⟨cls,i,data,j⟩,f,k,n,l⟩:=id r;obtain⟨⟨C,m,data2,o⟩,g,p,q,d⟩:=id u;ac_rfl;simp only at k l p d;subst k l p d;have e:c.toArray++a.toArray=(c++a).toArray:=by simp
 by_cases hw:a= []
 .exact concat_meets #[_,f,rfl] #[_,g,rfl] noFill_tuple_add seq_tuple_add adX adP (adE _ _)
   (tuple_addW1 t b c.toArray a.toArray n q i m j o (~~~h) (by simp[hw])) #[f,g,v hw]
 .refine concat_meets #[_,f,rfl] #[_,g,rfl] noFill_tuple_add seq_tuple_add adX adP (adE _ _)
   (tuple_addW2 t b c.toArray a.toArray n q i m j o (~~~h) (~~~hw) (by rw[b7,b7];exact y)) #[f,g,?_]
  rw[e];exact x hw
noncomputable def bW(n d:Nat):Option Int->Nat
 |none=>d
 |some v=>if v<0 then(v+(n:Int)).toNat else min v.toNat n
def Bd(n d:Nat):bW n d none=d:=rfl
def Fx(n d k:Nat):bW n d (some (k:Int))=min k n:=by
 show(if (k:Int)<0 then((k:Int)+(n:Int)).toNat else min (k:Int).toNat n)=min k n;rw[tz (),lS]
def _root_.o2_{a b:Nat}{c:Int}(d:a<=b)(e:c<0):Int.toNat (c+(b:Int))<=b:=()
def S8(n d:Nat)(b:d<=n)(o:Option Int):bW n d o<=n:=by
 cases o with
 |none=>exact b
 |some v=>
  show(if v<0 then(v+(n:Int)).toNat else min v.toNat n)<=n
  by_cases a:v<0
  .rw[mo a];exact o2_ b a
  .rw[tz a];exact Nat.min_le_right _ _
def _root_.o3_{b:Nat}{a:Int}(c:¬(a<0)):min a (b:Int)=((min (Int.toNat (a)) b:Nat):Int):=()
def Ee(v:Int)(n d:Nat):(if v<0 then max (v+(n:Int)) 0 else min v (n:Int))=((bW n d (some v):Nat):Int):=by
 show(if v<0 then max (v+(n:Int)) 0 else min v (n:Int))=(((if v<0 then(v+(n:Int)).toNat else min v.toNat n):Nat):Int)
 by_cases a:v<0
 .simp only[mo a];lia
 .simp only[tz a];exact o3_ a
def D3(lo a:Option Int)(n:Nat):Builtin.Slice.sliceAdjust lo a 1 (n:Int)=(((bW n 0 lo:Nat):Int),((bW n n a:Nat):Int)):=by
 have b:¬((1:Int)<0):=()
 unfold Builtin.Slice.sliceAdjust;simp only[b,PP];refine abJ ?_ ?_
 .cases lo with
  |none=>rfl
  |some v=>exact Ee v n 0
 .cases a with
  |none=>rfl
  |some v=>exact Ee v n n
def Fm(i j:Nat):Builtin.Slice.slicePlaces (i:Int) (j:Int) 1=j-i:=by
 unfold Builtin.Slice.slicePlaces;have a:(1:Int)>0:=()
 simp only[a,abN,Int.ediv_one]
 split<;>lia
def vp(p:IsPart v o)(h:Q o s):wpAny (model prog w) A (Builtin.Slice.slicePartIndex v) Q E s:=by
 cases p with
 |none=>exact slicePart_none h
 |int i t=>exact slicePart_int h
def sX{f:Addr}{b c:Value}{lo a:Option Int}{n:Nat}{Q:Int×Int×Nat->Shared->Prop}(g:s.heap.IsSliceOf f b c .none)(pl:IsPart b lo)(i:IsPart c a)
  (h:Q (((bW n 0 lo:Nat):Int),1,bW n n a-bW n 0 lo) s):wpAny (model prog w) A (Builtin.Slice.sliceApplied (.ref f) (pure (n:Int))) Q E s:=by
 rfl';obtain⟨os,d,l,e⟩:=id g;ac_rfl;unfold Builtin.Slice.sliceApplied Builtin.Slice.sliceFields;refine wpAny_bind (wpAny_bind (abE d e (x:=b) rfl (wpAny_bind (abE d e (x:=c) rfl (wpAny_bind (abE d e (x:= .none) rfl (ir ?_)))))));refine wpAny_bind (slicePart_none ?_);rw[tz ∅]
 refine wpAny_bind (vp pl (wpAny_bind (vp i (wpAny_bind (ir ?_)))));show wpAny _ _ (match Builtin.Slice.sliceAdjust lo a 1 (n:Int) with| (lo,a)=>pure (lo,(1:Int),Builtin.Slice.slicePlaces lo a 1)) _ _ s
 rw[D3 lo a n];show wpAny _ _ (pure (((bW n 0 lo:Nat):Int),(1:Int),Builtin.Slice.slicePlaces ((bW n 0 lo:Nat):Int) ((bW n n a:Nat):Int) 1)) _ _ s;rw[Fm];exact ir h
def _root_.o4_{a b:Nat}:Int.toNat ((a:Int)+(b:Int)*1)=a+b:=()
def L8(a:Array Value)(i k:Nat):((aM k).filterMap λ(m:Nat)=>a[((i:Int)+(m:Int)*1).toNat]?).toArray=((a.toList.drop i).take k).toArray:=by
 have e:(λ(m:Nat)=>a[((i:Int)+(m:Int)*1).toNat]?)=λm=>a[i+m]? :=by
  funext m
  have:((i:Int)+(m:Int)*1).toNat=i+m:=o4_
  rw[this]
 rw[e]
 have:=pick_run a i k
 rw[List.filterMap_map] at this;have b:((λx=>a[x]?)∘λx=>i+x)=λm=>a[i+m]? :=rfl;rw[b] at this;rw[this]
def _root_.o5_{a b c d:Nat}(e:a<=b):min (c-d) (a-d)<=b:=()
def _root_.o6_{a b c:Nat}(d:a<=b)(e:(c:Int)=0)(f:a-c=b):a=b:=()
theorem qL{t e:Addr}{a:Array Value}{g i:Value}{lo b:Option Int}{Q:Value->Shared->Prop}(c:IsTup s.heap t a)(j:s.heap.IsSliceOf e g i .none)(pl:IsPart g lo)(k:IsPart i b)
  (hw:¬(bW a.size 0 lo=0/\bW a.size a.size b=a.size))
  (h:Q (.ref s.heap.objs.size) {s with heap:=s.heap.push {cls:= .type "tuple",data:= .seq ((a.toList.drop (bW a.size 0 lo)).take (bW a.size a.size b-bW a.size 0 lo)).toArray}})
  (l:a.size<=sizeLine):wpAny (model prog w) A (getItem (.ref t) (.ref e)) Q E s:=by
 have d:sizeOk (.seq ((a.toList.drop (bW a.size 0 lo)).take (bW a.size a.size b-bW a.size 0 lo)).toArray):=by
  show((a.toList.drop (bW a.size 0 lo)).take (bW a.size a.size b-bW a.size 0 lo)).toArray.size<=sizeLine;rw[b7,gO,mV,cO];exact o5_ l
 have n:bW a.size a.size b<=a.size:=S8 _ _ (bq _) b;obtain⟨os,o,p,x⟩:=id j;have f:s.TypeIs (.ref e) "slice":=#[os,o,p];unfold getItem
 try with_reducible refine wpAny_holding ?_
 first|refine wpAny_bind (wpAny_pure ?_) |skip
 refine wpAny_bind (wpAny_sequenceKey c.typeIs ∅ ?_)
 refine wpAny_bind (wpAny_callSpecial?_slot (name:=Str.ofString "__getitem__") c.typeIs PyProof.Rows.slot_tuple_getitem
  (wpAny_call_entry PyProof.Rows.slot_tuple_getitem c.typeIs entry_tuple_getitem ?_ (args_tuple_getitem _ _)))
 show wpAny _ _ (Builtin.Tuple.tupleItemsOf (.ref t)>>=_) _ _ s;refine wpAny_bind (tupleItemsOf_ c ?_);refine wpAny_bind (wpAny_typeOf f ?_);rw[if_pos ∅]
 refine wpAny_bind (sX j pl k ?_)
 have r:¬((((bW a.size 0 lo:Nat):Int)==0&&(1:Int)==1&&(bW a.size a.size b-bW a.size 0 lo)==a.size)=true):=by
  intro q;rw[vC,vC] at q;have u:((bW a.size 0 lo:Nat):Int)=0:=eq_of_beq q.1.1;have v:bW a.size a.size b-bW a.size 0 lo=a.size:=eq_of_beq q.2;exact hw #[(),o6_ n u v]
 show wpAny _ _ (if (((bW a.size 0 lo:Nat):Int)==0&&(1:Int)==1&&(bW a.size a.size b-bW a.size 0 lo)==a.size)=true then _ else _) _ _ s;rw[if_neg r,L8]
 first
  |exact wpAny_bind (m:=Builtin.Tuple.tupleExact _) (wpAny_newObj_type (wpAny_pure #[_,rfl,wpAny_pure h]) d)
  |exact wpAny_bind (m:=Builtin.Tuple.tupleExact _) (wpAny_newObj_type (wpAny_bind (wpAny_pure (wpAny_pure #[_,rfl,wpAny_pure h]))) d)
  |exact wpAny_bind (wpAny_bind (m:=Builtin.Tuple.tupleExact _) (wpAny_newObj_type (wpAny_pure (wpAny_pure #[_,rfl,wpAny_pure h])) d))
  |exact wpAny_bind (wpAny_bind (m:=Builtin.Tuple.tupleExact _) (wpAny_newObj_type (wpAny_pure #[_,rfl,wpAny_pure h]) d))
end
end HT
namespace L2
open PySem PySem.Spec PyProof.Rows
abbrev TO:=St->Hp->(Option Int->Hp->Prop)->Prop
def PO(X:Cx)(e:Option Expr)(t:TO):Prop:=
 ∀(a:List (Addr×Obj))(s:Shared)(b:St)(H:Hp)(Q:Option Int->Hp->Prop),Inv X a b H s->t b H Q->
  wpAny (model X.prog X.w) X.A (evalPart e X.env) (λu d=>∃o c,Inv X a b c d/\IsPart u o/\Q o c) X.xe s
def Qm:TO:=λ_ H Q=>Q none H
def X2(t:TE):TO:=λa H Q=>t a H λx b=>∃i,x= .int i/\Q (some i) b
def intsAre_of:∀{b:List Value},Vals (a.map V.int) b->IntsAre b a:=by
 induction a with
 |nil=>intro b r;rw[uV] at r;cases r;exact .nil
 |cons n a c=>
  intro b r;rw[dq] at r;cases r with
  |cons d f=>
   obtain⟨t,e⟩:=d;subst e;exact .cons n t (c f)
section
variable {X:Cx} {e:Expr} {te:TE} {lo hi:Option Expr} {tl th:TO} {pos p2:Pos}
def yg:PO X none Qm:=by
 intro a s b H Q I h;rw[evalPart_none];exact ir #[none,H,I, .none,h]
def oq(h:PE X e te):PO X (some e) (X2 te):=by
 intro a s b H Q I hw;rw[evalPart_some];refine thn (h a s b H _ I hw) λu l c=>?_;rfl';obtain⟨x,f,g,j,k⟩:=c;obtain⟨i,rfl,q⟩:=k;obtain⟨t,rfl⟩:=j;ac_rfl;exact#[some i,f,g, .int i t,q]
def Gh(X:Cx)(r:V->Option Int->Option Int->Hp->VK->Prop):Prop:=
 ∀(a:List (Addr×Obj))(s:Shared)(b:St)(H:Hp)(x:V)(v c d:Value)(lo f:Option Int)(g:Addr)(Q:VK),Inv X a b H s->RelV x v->s.heap.IsSliceOf g c d .none->IsPart c lo->IsPart d f->r x lo f H Q->
  ∃T id,typeLookup (.type T) "__getitem__"=pure (some (.builtin id))/\s.TypeIs v T/\wpAny (model X.prog X.w) X.A (getItem v (.ref g)) (EP X a b Q) X.xe s
def Gh.or(h:Gh X r)(m:Gh X c):Gh X (λx lo b H Q=>r x lo b H Q\/c x lo b H Q):=by
 intro a s d H x v f g lo b i Q I j k pl l q
 rcases q with q|q
 .exact h a s d H x v f g lo b i Q I j k pl l q
 .exact m a s d H x v f g lo b i Q I j k pl l q
def tSl(r:V->Option Int->Option Int->Hp->VK->Prop)(b:TE)(c d:TO):TE:=λa H Q=>b a H λx f=>c a f λl g=>d a g λu h=>r x l u h Q
def pO(m:Gh X r)(n:PE X e te)(o:PO X lo tl)(p:PO X hi th):PE X (.Subscript e (.Slice lo hi none p2) pos) (tSl r te tl th):=by
 intro a s d H Q I h;refine Subscript_ (thn (n a s d H _ I h) λv t f=>?_);rfl';obtain⟨x,y,z,A,B⟩:=f;ac_rfl;refine wpAny_Slice (thn (o a t d y _ z B) λi C #[l,E,F,pl,G]=>thn (p a C d E _ F G) λj c f=>?_);rfl';obtain⟨u,k,J,L,M⟩:=f;ac_rfl;rw[evalPart_none];refine ir ?_;have N:Inv X a d k {c with heap:=c.heap.push {cls:= .type "slice",data:= .fields [i,j, .none].toArray}}:=J.kept (t':=c.toks) λb S q=>AC _ q
 obtain⟨T,id,O,P,R⟩:=m a {c with heap:=c.heap.push {cls:= .type "slice",data:= .fields [i,j, .none].toArray}} d k x v i j l u c.heap.objs.size Q N A (Heap.IsSliceOf.new ..) pl L M
 exact tail_any (ops:= [.ref c.heap.objs.size,v]) P O R (by with_unfolding_all rfl)
noncomputable def ix(a:List V)(lo b:Option Int):List V:=(a.drop (HT.bW a.length 0 lo)).take (HT.bW a.length a.length b-HT.bW a.length 0 lo)
def _root_.o7_{a b c:Nat}:min (a-b) (c-b)<=c:=()
def lX(a:List V)(lo b:Option Int):(ix a lo b).length<=a.length:=by
 unfold ix;rw[gO,mV];exact o7_
def aaD(K:ad):V->Option Int->Option Int->Hp->VK->Prop:=λx lo c H Q=>∃a b,x= .ref a/\fe K H a b/\
 ¬(HT.bW b.length 0 lo=0/\HT.bW b.length b.length c=b.length)/\∀p,H p=none->Q (.ref p) (upd H p (.tup (ix b lo c)))
def Ta:Gh X (aaD X.K):=by
 intro i s u H x v w y lo f z Q I l m pl n h;rfl';obtain⟨a,d,rfl,t,hw,q⟩:=h;subst l;obtain⟨g,r,j,k⟩:=I.tuple t;have c:g.toArray.size=d.length:=by rw[b7];exact r.length.symm
 ac_rfl;exists "tuple",_,acR.lookup,j.typeIs;refine HT.qL j m pl n (by rw[c];exact hw) ?_ (by rw[c];exact k)
 rw[c];refine#[.ref s.heap.objs.size,_,I.laid (t':=s.toks) (o:= .tup (ix d lo f)) (λb B q=>AC _ q) (bq _) ?_,rfl,q _ (I.hok.fresh (bq _))];exact#[iq (lX d lo f) k,_,(r.drop (HT.bW d.length 0 lo)).take (HT.bW d.length d.length f-HT.bW d.length 0 lo),IsTup.new _ _]
def XG(K:ad):R2:=λx y H Q=>∃a b d c,x= .ref a/\y= .ref b/\fe K H a d/\fe K H b c/\d≠ []/\d.length+c.length<=sizeLine/\
 (c= []->Q (.ref a) H)/\(c≠ []->∀p,H p=none->Q (.ref p) (upd H p (.tup (d++c))))
def Vals.xU(r:Vals a b):b= []↔a= []:=by
 cases r with
 |nil=>simp
 |cons _ _=>simp
def Pl:OpR X (binaryOp .Add) (XG X.K):=by
 intro f s F H x y v u Q I i j h;rfl';obtain⟨a,b,l,m,rfl,rfl,n,p,r,g,t,A⟩:=h;subst i;subst j;obtain⟨B,d,C,_⟩:=I.tuple n;obtain⟨J,c,E,_⟩:=I.tuple p;ac_rfl;refine HT.M3 C E (λz=>r (d.xU.mp z)) (λz=>#[.ref a,H,I,rfl,t (c.xU.mp z)]) (λz=>?_) (by rw[<-d.length,<-c.length];exact g)
 refine#[.ref s.heap.objs.size,_,I.laid (t':=s.toks) (o:= .tup (l++m)) (λb L q=>AC _ q) (bq _) ?_,rfl,A (λw=>z (c.xU.mpr w)) _ (I.hok.fresh (bq _))];exact#[by rw[dh];exact g,_,d.append c,IsTup.new _ _]
end
noncomputable def m8(n:Nat)(i:Int):Option Nat:=if 0<=i then(if i<n then some i.toNat else none) else if-(n:Int)<=i then some (i+n).toNat else none
noncomputable def f7{a:Type}(b:List a)(i:Int):Option a:=(m8 b.length i).bind λj=>b[j]?
def _root_.o8_{b c:Nat}{a:Int}(d:0<=a)(e:a<(b:Int))(f:Int.toNat (a)=c):c<b:=()
def _root_.o9_{b c:Nat}{a:Int}(d:¬(0<=a))(e:-(b:Int)<=a)(f:Int.toNat (a+(b:Int))=c):c<b:=()
def E1(h:m8 n i\j):seqIndex? i n\j/\j<n/\-(n:Int)<=i/\i<n:=by
 unfold m8 at h
 by_cases b:0<=i
 .rw[mo b] at h
  by_cases a:i<n
  .rw[mo a] at h
   have e:i.toNat=j:=Da h;exact#[by rw[seqIndex_of b a,e],o8_ b a e,(),a]
  .rw[tz a] at h;cases h
 .rw[tz b] at h
  by_cases a: -(n:Int)<=i
  .rw[mo a] at h
   have e:(i+n).toNat=j:=Da h;exact#[by rw[seqIndex_neg () a,e],o9_ b a e,a,()]
  .rw[tz a] at h;cases h
def D5(h:f7 a i\v):∃j,seqIndex? i a.length\j/\a[j]?\v/\j<a.length/\-(a.length:Int)<=i/\i<a.length:=by
 unfold f7 at h;cases e:m8 a.length i with
 |none=>rw[e] at h;cases h
 |some j=>
  rw[e] at h;obtain⟨c,d,f,g⟩:=E1 e;exact#[j,c,h,d,f,g]
def cK{j:Nat}(h:a[j]?\v):f7 a (j:Int)\v:=by
 have c:j<a.length:=(cw.mp h).1
 have e:m8 a.length (j:Int)\j:=by
  unfold m8;rw[mo (),mo ()];simp
 unfold f7;rw[e];exact h
def _root_.o10_{a:Nat}:Int.toNat ((-1)+((a+1:Nat):Int))=a:=()
def Ks(a:List b)(v:b):f7 (a++ [v]) (-1)\v:=by
 have c:(a++ [v]).length=a.length+1:=by simp
 have e:m8 (a++ [v]).length (-1)\a.length:=by
  unfold m8;rw[c,tz ∅,mo ()]
  congr 1
  exact o10_
 unfold f7;rw[e];show(a++ [v])[a.length]?\v;simp
def nu(b:Expr):Prop:=∀o i,subscripted b false o i=operate [o,i] (getItem o i)
def wA(X:Cx)(r:R2):Prop:=
 ∀(c a:Expr)(b:List (Addr×Obj))(s:Shared)(d:St)(H:Hp)(x y:V)(v u:Value)(Q:VK),Inv X b d H s->RelV x v->RelV y u->r x y H Q->
  subscripted a false v u=operate [v,u] (getItem v u)->wpAny (model X.prog X.w) X.A (subscriptTail c a v u) (EP X b d Q) X.xe s
def QH(X:Cx)(id:String)(r:V->List V->Hp->VK->Prop):Prop:=
 ∀(a:List (Addr×Obj))(s:Shared)(b:St)(H:Hp)(x:V)(c:List V)(v:Value)(d:List Value)(Q:VK),Inv X a b H s->RelV x v->Vals c d->r x c H Q->
  wpAny (model X.prog X.w) X.A (call (.builtin id) (v::d)) (EP X a b Q) X.xe s
section
variable {X:Cx} {a b:Expr} {ta tb:TE} {pos:Pos}
def wA.or(h:wA X r)(l:wA X f):wA X (λx y H Q=>r x y H Q\/f x y H Q):=by
 intro c d e s g H x y v u Q I i j q k
 rcases q with q|q
 .exact h c d e s g H x y v u Q I i j q k
 .exact l c d e s g H x y v u Q I i j q k
def cC(d:wA X r)(e:PE X a ta)(f:PE X b tb)(g:nu b):PE X (.Subscript a b pos) (Dl r ta tb):=by
 intro c s i H Q I h;exact Subscript_ (MZ e f I h λv u j x y k l m n q=>d a b c j i k x y v u Q l m n q (g _ _))
def JW(K:ad):R2:=λx y H Q=>∃p c i v,x= .ref p/\y= .int i/\aG K H p c/\f7 c i\v/\Q v H
def US(K:ad):R2:=λx y H Q=>∃p c i v,x= .ref p/\y= .int i/\fe K H p c/\f7 c i\v/\Q v H
def _root_.o11_{a b d:Nat}{c:Int}(e:a<=b)(f:c<(a:Int))(g:a=d)(h:b<2^63):c<2^63:=()
def _root_.o12_{a b d:Nat}{c:Int}(e:a<=b)(f:-(a:Int)<=c)(g:a=d)(h:b<2^63):-(2^63)<=c:=()
def bG:wA X (JW X.K):=by
 intro e f c s m H x y v u Q I G J h n;rfl';obtain⟨p,T,i,z,rfl,rfl,M,N,q⟩:=h;subst G;obtain⟨t,rfl⟩:=J;obtain⟨g,r,pl,o⟩:=I.list M;obtain⟨j,d,O,Y,A,B⟩:=D5 N;obtain⟨w,C,P⟩:=r.get O;have k:=r.length;have E:=mm;have fin:EP X c m Q w s:=#[z,H,I,P,q];ac_rfl
 by_cases F:0<=i
 .have l:i.toNat=j:=by
   rw[seqIndex_of F B] at d;exact Da d
  exact item_listR pl.isList F (o11_ o B k E) (by rw[l];simpa using C) fin n
 .have l:(i+(g.toArray.size:Int)).toNat=j:=by
   rw[seqIndex_neg () A] at d
   rw[b7,<-k];exact Da d
  exact acw (x:=w) pl.isList.typeIs slot_list_getitem.lookup
   (wpAny_getItem_list_neg (Q:=λr R=>r=w/\EP X c m Q r R) pl.isList () (by rw[b7]<;>lia) (o12_ o A k E) (by rw[l];simpa using C) #[rfl,fin]) n
def _root_.o13_{a b c e:Nat}{d:Int}(f:a<=b)(g:c<a)(h:-(a:Int)<=d)(i:a=e)(j:b<2^63):-(2^63)<=d:=()
def _root_.o14_{a b c e:Nat}{d:Int}(f:a<=b)(g:c<a)(h:d<(a:Int))(i:a=e)(j:b<2^63):d<2^63:=()
def JK:wA X (US X.K):=by
 intro d e c s g H x y v u Q I n o h A;rfl';obtain⟨p,S,i,z,rfl,rfl,C,E,q⟩:=h;subst n;obtain⟨t,rfl⟩:=o;obtain⟨F,r,pl,k⟩:=I.tuple C;obtain⟨j,G,J,l,L,M⟩:=D5 E;obtain⟨w,N,O⟩:=r.get J;have f:=r.length;have m:=mm;have fin:EP X c g Q w s:=#[z,H,I,O,q];ac_rfl
 exact acw (x:=w) pl.typeIs slot_tuple_getitem.lookup
  (getItem_tuple (j:=j) (Q:=λr P=>r=w/\EP X c g Q r P) pl (o13_ k l L f m) (o14_ k l M f m) (by rw[b7,<-f];exact G) (~~~N) #[rfl,fin]) A
def E7(c:List Value)(n j:Nat)(u:Value):Obj.mapSeq (·.setIfInBounds j u) {cls:= .type "list",data:= .seq c.toArray n}={cls:= .type "list",data:= .seq (c.set j u).toArray n}:=by
 simp[Obj.mapSeq]
theorem Inv.lst{c:List (Addr×Obj)}{d:St}{H:Hp}{s:Shared}{p:Addr}{xs:List V}(I:Inv X c d H s)(h:H p\(.lst xs)):
  ∃(its:List Value)(n:Nat),Vals xs its/\s.heap.get? p\{cls:= .type "list",data:= .seq its.toArray n}/\xs.length<=sizeLine:=by
 obtain⟨z,its,n,r,e⟩:=I.hok p _ h;exact#[its,n,r,e,z]
def Inv.Sd{its c:List Value}(I:Inv X d j H s)(h:H p\(.lst xs))
  (l:s.heap.get? p\{cls:= .type "list",data:= .seq its.toArray n}) (k:f {cls:= .type "list",data:= .seq its.toArray n}={cls:= .type "list",data:= .seq c.toArray i}) (r:Vals g c) (m:g.length<=sizeLine) (t:Nat):
  Inv X d j (upd H p (.lst g)) {s with heap:=s.heap.update p f,toks:=t}:=by
 have e:(s.heap.update p f).get? p\{cls:= .type "list",data:= .seq c.toArray i}:=by
  rw[P3 f l (by rw[k]<;>rfl),k]
 refine I.write (x:=p) (e:=p) (by rw[h];trivial) (.inl rfl) (λb u o q=>(Pi _ _ (Ne.symm o)).trans q) #[_,e] ?_
 exact#[m,c,i,r,e]
def PV:V->V->V->Hp->(Hp->Prop)->Prop:=λo i v H Q=>∃p c k j,o= .ref p/\i= .int k/\H p\(.lst c)/\m8 c.length k\j/\Q (upd H p (.lst (c.set j v)))
def set_list:TY X PV:=by
 intro c s C H o i v N O u Q I E F G h;rfl';obtain⟨p,L,k,j,rfl,rfl,y,M,q⟩:=h;subst E;obtain⟨t,rfl⟩:=F;obtain⟨d,n,r,g,l⟩:=I.lst y;obtain⟨f,R,m,w⟩:=E1 M;have e:=r.length;have z:=mm;ac_rfl
 have A:Inv X c C (upd H p (.lst (L.set j v))) {s with heap:=s.heap.update p (Obj.mapSeq (·.setIfInBounds j u))}:=
  I.Sd y g (E7 d n j u) (r.set G j) (by rw[gP];exact l) s.toks
 by_cases B:0<=k
 .have x:k.toNat=j:=by
   rw[seqIndex_of B w] at f;exact Da f
  exact PySem.W.ki_setAt g B (o11_ l w e z) (by rw[b7,<-e];exact w) (by rw[x];exact#[_,A,q])
 .have x:(k+(d.toArray.size:Int)).toNat=j:=by
   rw[seqIndex_neg () m] at f
   rw[b7,<-e];exact Da f
  exact PySem.W.ki_setBack g () (by rw[b7,<-e];exact m) (o12_ l m e z) (by rw[x];exact#[_,A,q])
def _root_.o15_{b:Nat}{a:Int}(c:a<0):max 0 (min (a+(b:Int)) (b:Int))=((Int.toNat (a+(b:Int)):Nat):Int):=()
def _root_.o16_{b:Nat}{a:Int}(c:¬(a<0)):max 0 (min a (b:Int))=((min (Int.toNat (a)) b:Nat):Int):=()
def zS(lo c:Option Int)(n:Nat):(sliceBounds lo c none n).1=((HT.bW n 0 lo:Nat):Int)/\(sliceBounds lo c none n).2.1=((HT.bW n n c:Nat):Int)/\(sliceBounds lo c none n).2.2=1:=by
 refine#[?_,?_,rfl]
 .cases lo with
  |none=>simp[sliceBounds,HT.bW]
  |some i=>
   simp only[sliceBounds,HT.bW,Option.getD_none,show(1:Int)>0 by decide,abN]
   by_cases h:i<0
   .simp only[h,abN]<;>exact o15_ h
   .simp only[h,PP]<;>exact o16_ h
 .cases c with
  |none=>simp[sliceBounds,HT.bW]
  |some i=>
   simp only[sliceBounds,HT.bW,Option.getD_none,show(1:Int)>0 by decide,abN]
   by_cases h:i<0
   .simp only[h,abN]<;>exact o15_ h
   .simp only[h,PP]<;>exact o16_ h
def yt(c:List Value)(lo d:Option Int):slicePick c.toArray lo d none=((c.drop (HT.bW c.length 0 lo)).take (HT.bW c.length c.length d-HT.bW c.length 0 lo)).toArray:=by
 obtain⟨e,f,g⟩:=zS lo d c.toArray.size;unfold slicePick;rw[e,f,g];simp only[sliceRange_one,pick_run,b7]<;>rfl
def aaC(K:ad):V->Option Int->Option Int->Hp->VK->Prop:=λx lo d H Q=>∃a c,x= .ref a/\aG K H a c/\∀p,H p=none->Q (.ref p) (upd H p (.lst (ix c lo d)))
def sW:Gh X (aaC X.K):=by
 intro f s t H x v u w lo e y Q I i j pl k h;rfl';obtain⟨a,c,rfl,m,q⟩:=h;subst i;obtain⟨n,r,g,p⟩:=I.list m;have d:=r.length;ac_rfl;exists "list",_,slot_list_getitem.lookup,g.isList.typeIs;refine wpAny_getItem_list_slice g.isList j pl k .none (by simp) ?_ (by rw[b7]<;>lia)
 rw[yt,<-d];refine#[.ref s.heap.objs.size,_,I.laid (t':=s.toks) (o:= .lst (ix c lo e)) (λb A q=>AC _ q) (bq _) ?_,rfl,q _ (I.hok.fresh (bq _))];exact#[iq (lX c lo e) p,_,0,(r.drop (HT.bW c.length 0 lo)).take (HT.bW c.length c.length e-HT.bW c.length 0 lo),GE _ rfl]
noncomputable def gz:V->Bool
 | .aL=>true
 | .bl _=>true
 | .int _=>true
 | .str _=>true
 |_=>false
noncomputable def qF:V->V->Bool
 | .aL, .aL=>true
 | .bl a, .bl b=>a==b
 | .bl a, .int b=>(if a then 1 else 0)==b
 | .int a, .bl b=>a==(if b then 1 else 0)
 | .int a, .int b=>a==b
 | .str a, .str b=>a==b
 |_,_=>false
def Rg{A:Around}{s:Shared}{y x:V}{u v:Value}(ry:RelV y u)(rx:RelV x v)(fy:gz y=true)(fx:gz x=true):SeqAt.EqAt A s u v (qF y x):=by
 cases y with
 |aL=>
  cases ry;cases x with
  |aL=>cases rx;exact SeqAt.EqAt.same _
  |bl b=>cases rx;exact SeqAt.EqAt.none_bool b
  |int b=>obtain⟨t,rfl⟩:=rx;exact SeqAt.EqAt.none_int b t
  |str b=>obtain⟨t,rfl⟩:=rx;exact SeqAt.EqAt.none_str b t
  |_=>exact absurd (show false=true from fx) dj
 |bl a=>
  subst ry;cases x with
  |aL=>cases rx;exact SeqAt.EqAt.bool_none a
  |bl b=>cases rx;exact SeqAt.EqAt.bool_bool a b
  |int b=>obtain⟨t,rfl⟩:=rx;exact SeqAt.EqAt.bool_int a b t
  |str b=>obtain⟨t,rfl⟩:=rx;exact SeqAt.EqAt.bool_str a b t
  |_=>exact absurd (show false=true from fx) dj
 |int a=>
  obtain⟨t',rfl⟩:=ry;cases x with
  |aL=>cases rx;exact SeqAt.EqAt.int_none a t'
  |bl b=>cases rx;exact SeqAt.EqAt.int_bool a t' b
  |int b=>obtain⟨t,rfl⟩:=rx;exact SeqAt.EqAt.int_int a t' b t
  |str b=>obtain⟨t,rfl⟩:=rx;exact SeqAt.EqAt.int_str a t' b t
  |_=>exact absurd (show false=true from fx) dj
 |str a=>
  obtain⟨t',rfl⟩:=ry;cases x with
  |aL=>cases rx;exact SeqAt.EqAt.str_none a t'
  |bl b=>cases rx;exact SeqAt.EqAt.str_bool a t' b
  |int b=>obtain⟨t,rfl⟩:=rx;exact SeqAt.EqAt.str_int a t' b t
  |str b=>obtain⟨t,rfl⟩:=rx;exact SeqAt.EqAt.str_str a t' b t
  |_=>exact absurd (show false=true from fx) dj
 |_=>exact absurd (show false=true from fy) dj
noncomputable def p7(x:V)(u:Value):Bool:=match u with
 | .none=>qF .aL x
 | .bool b=>qF (.bl b) x
 | .int i _=>qF (.int i) x
 | .str z _=>qF (.str z) x
 |_=>false
def wa{x y:V}{u:Value}(r:RelV y u)(f:gz y=true):p7 x u=qF y x:=by
 cases y with
 |aL=>cases r;rfl
 |bl b=>cases r;rfl
 |int i=>obtain⟨t,rfl⟩:=r;rfl
 |str z=>obtain⟨t,rfl⟩:=r;rfl
 |_=>exact absurd (show false=true from f) dj
theorem nB:∀{c:List V}{d:List Value},Vals c d->c.all gz=true->d.any (p7 x)=c.any λy=>qF y x
 |_,_, .nil,_=>rfl
 |y::c,u::d, .cons r t,f=>by
  rw[acB,vC] at f;rw[adk,adk,wa r f.1,nB t f.2]
theorem jM(g:RelV x v)(h:gz x=true):∀{d:List V}{e:List Value},Vals d e->d.all gz=true->∀u∈e,SeqAt.EqAt A s u v (p7 x u)
 |_,_, .nil,_=>λu c=>by cases c
 |y::d,u::e, .cons r t,f=>λi c=>by
  rw[acB,vC] at f
  rcases eL.mp c with rfl|c
  .rw[wa r f.1];exact Rg r g f.1 h
  .exact jM g h t f.2 i c
noncomputable def Hu(x:V)(c:List V):Bool:=c.any λy=>qF y x
def SS(K:ad)(d:Bool):R2:=λx y H Q=>∃p c,y= .ref p/\(aG K H p c\/fe K H p c)/\gz x=true/\c.all gz=true/\Q (.bl (if d then !Hu x c else Hu x c)) H
def HV:OpR X (compareOp .In) (SS X.K false):=by
 intro e s l H x y v u Q I f i h;rfl';obtain⟨p,n,rfl,d,g,fs,q⟩:=h;subst i;ac_rfl
 rcases d with d|d
 .obtain⟨c,r,pl,k⟩:=I.list d
  refine SeqAt.in_listAt (p7 x) pl.isList (λw hw=>jM f g r fs w (~~~hw)) #[.bl _,H,I,rfl,?_]
  rw[show c.toArray.any (p7 x)=c.any (p7 x) by simp,nB r fs]
  exact q
 .obtain⟨c,r,pl,k⟩:=I.tuple d
  refine SeqAt.in_tupleAt (p7 x) pl (λw hw=>jM f g r fs w (~~~hw)) #[.bl _,H,I,rfl,?_]
  rw[show c.toArray.any (p7 x)=c.any (p7 x) by simp,nB r fs]
  exact q
def qh:OpR X (compareOp .NotIn) (SS X.K true):=by
 intro e s l H x y v u Q I f i h;rfl';obtain⟨p,n,rfl,d,g,fs,q⟩:=h;subst i;ac_rfl
 rcases d with d|d
 .obtain⟨c,r,pl,k⟩:=I.list d
  refine SeqAt.notIn_listAt (p7 x) pl.isList (λw hw=>jM f g r fs w (~~~hw)) #[.bl _,H,I,rfl,?_]
  rw[show c.toArray.any (p7 x)=c.any (p7 x) by simp,nB r fs]
  exact q
 .obtain⟨c,r,pl,k⟩:=I.tuple d
  refine SeqAt.notIn_tupleAt (p7 x) pl (λw hw=>jM f g r fs w (~~~hw)) #[.bl _,H,I,rfl,?_]
  rw[show c.toArray.any (p7 x)=c.any (p7 x) by simp,nB r fs]
  exact q
def cE:CallR X (.builtin "len") (λi H Q=>∃p d,i= [.ref p]/\(aG X.K H p d\/fe X.K H p d)/\Q (.int d.length) H):=by
 intro j s n H i o Q I r h;rfl';obtain⟨p,d,rfl,e,q⟩:=h;obtain⟨u,rfl,l⟩:=vals1 r;subst l;have v:=mm;ac_rfl
 rcases e with e|e
 .obtain⟨f,g,pl,m⟩:=I.list e
  have c:=g.length;exact Calls.call_len_list pl.isList (by simp only[b7]<;>lia) #[.int d.length,H,I.tok _,#[s.toks+1,by rw[b7,c]],q]
 .obtain⟨f,g,pl,m⟩:=I.tuple e
  have c:=g.length;exact len_tuple pl (by simp only[b7]<;>lia) #[.int d.length,H,I.tok _,#[s.toks+1,by rw[b7,c]],q]
def zo:CallR X (.type "list") (λA H Q=>∃p f,A= [.ref p]/\(aG X.K H p f\/fe X.K H p f)/\∀l,H l=none->Q (.ref l) (upd H l (.lst f))):=by
 intro j s C H A F Q I r h;obtain⟨p,f,rfl,k,q⟩:=h;obtain⟨u,rfl,E⟩:=vals1 r;subst E
 have fin:∀(c:List Value),Vals f c->f.length<=sizeLine->∀(d:Heap)(g:Nat),(∀b B,s.heap.get? b\B->d.get? b\B)->
   d.get? s.heap.objs.size\{cls:= .type "list",dict:=none,data:= .seq c.toArray g,slots:= #[]}->EP X j C Q (.ref s.heap.objs.size) {s with heap:=d}:=λc i m d g t e=>
  #[.ref s.heap.objs.size,_,I.laid (t':=s.toks) t (bq _) (show cg X.prog X.w _ d _ (.lst f) from#[m,c,g,i,e]),rfl,q _ (I.hok.fresh (bq _))]
 rcases k with k|k
 .obtain⟨c,i,pl,m⟩:=I.list k
  have v:=i.length;obtain⟨o,x,y,n,z⟩:=pl.isList;exact call_list_seq p (.inl rfl) x y z (λd g t e=>fin c i m d g t e) (by simp only[b7]<;>lia)
 .obtain⟨c,i,pl,m⟩:=I.tuple k
  have v:=i.length;obtain⟨o,x,y,n,z⟩:=pl;exact call_list_seq p (.inr rfl) x y z (λd g t e=>fin c i m d g t e) (by simp only[b7]<;>lia)
def TJ(K:ad)(T:String)(x:V)(H:Hp):Prop:=match x with
 | .str _=>T="str"
 | .int _=>T="int"
 | .ref p=>(T="list"/\∃d,aG K H p d)\/(T="tuple"/\∃o,K.lookup p\o/\o.cls= .type "tuple"/\o.dict=none)\/
   (T="dict"/\((∃c,H p\(.dK c))\/∃c,H p\(.dT c)))\/(T="set"/\∃S n,H p\(.set S n))
 |_=>False
theorem Kc(I:Inv X g m H s)(r:RelV x v)(h:TJ X.K T x H):
  s.TypeIs v T/\∀a,v= .ref a->∃l,s.heap.get? a\l/\l.dict=none:=by
 cases x with
 |str z=>
  obtain⟨t,rfl⟩:=r;cases(show T="str" from h);exact#[typeIs_str s z t,λ_ e=>nomatch e]
 |int i=>
  obtain⟨t,rfl⟩:=r;cases(show T="int" from h);exact#[typeIs_int s i t,λ_ e=>nomatch e]
 |ref p=>
  subst r
  rcases h with ⟨rfl,A,q⟩ | ⟨rfl,o,d,u,j⟩ | ⟨rfl,d⟩ | ⟨rfl,S,n,d⟩
  .obtain⟨w,_,pl,_⟩:=I.list q
   refine#[pl.isList.typeIs,λa e=>?_];cases e;obtain⟨o,n,e,c,j,_⟩:=pl;exact#[o,e,j]
  .refine#[#[o,I.dW p o d,u],λa e=>?_]
   cases e;exact#[o,I.dW _ o d,j]
  .have z:∃o,s.heap.get? p\o/\o.ExactDict:=by
    rcases d with ⟨y,d⟩ | ⟨y,d⟩
    .obtain⟨_,_,_,_,o,_,_,e,f,_⟩:=I.hok p _ d
     exact#[o,e,f]
    .obtain⟨_,_,_,_,o,_,_,e,f,_⟩:=I.hok p _ d
     exact#[o,e,f]
   obtain⟨o,e,f⟩:=z;refine#[#[o,e,f.1],λa k=>?_];cases k;exact#[o,e,f.2.1]
  .obtain⟨o,_,_,_,e,f,_⟩:=I.hok p _ d
   refine#[#[o,e,f.1],λa k=>?_];cases k;exact#[o,e,f.2.1]
 |_=>exact False.elim h
def aaP(K:ad)(T:String)(r:V->List V->Hp->VK->Prop)(d:TE):TE:=λe H Q=>d e H λx c=>TJ K T x c/\r x [] c Q
def tBM(K:ad)(T:String)(r:V->List V->Hp->VK->Prop)(e:TE)(t:TA):TE:=λc H Q=>e c H λx d=>TJ K T x d/\t c d λf g=>r x f g Q
variable {o e:Expr} {es:List Expr} {to:TE} {t:TA} {name:Str} {apos aN:Pos} {T id:String} {r:V->List V->Hp->VK->Prop}
def JP(i:PlainAttrs T)(slot:Slot T name id)(j:typeOf (.builtin id)=pure (.type "method_descriptor"))(k:QH X id r)(l:PE X o to)
  (m:attributeBase o name X.env (eval o X.env)=eval o X.env:=by rfl) (n:(apos.endLine==aN.line)=true:=by rfl):PE X (.Call (.Attribute o name apos) [] [] aN) (aaP X.K T r to):=by
 intro c s d H Q I h;refine wpAny_Call_method0_late m n (thn (l c s d H _ I h) λv p q=>?_);rfl';obtain⟨x,w,f,g,y,z⟩:=q;obtain⟨A,B⟩:=Kc f g y;ac_rfl;exact#[T,id,i,slot,j,A,B,acx rfl (PySem.evalArgs_none (k c p d w x [] v [] Q f g .nil z))]
def gF(l:PlainAttrs T)(slot:Slot T name id)(m:typeOf (.builtin id)=pure (.type "method_descriptor"))(n:QH X id r)(p:PE X o to)(q:PA X (e::d) t)
  (u:attributeBase o name X.env (eval o X.env)=eval o X.env:=by rfl)
  (w:((backTo f (starEach (e::d) X.env)).all (λx=>!x.1)&&(backToKw f (keywordEach [] X.env)).all (λx=>x.1.isSome)
   &&decide ((e::d).length+([]:List Keyword).length+(if ([]:List Keyword).isEmpty then 0 else 1)<30))=true:=by rfl)
  (y:(apos.endLine==f.line)=true:=by rfl) (z:starEach (e::d) X.env=(false,eval e X.env)::starEach d X.env:=by rfl) (A:(backTo f (starEach d X.env)).any (·.1)=false:=by rfl):
  PE X (.Call (.Attribute o name apos) (e::d) [] f) (tBM X.K T r to t):=by
 intro c s g H Q I h;refine adY u w y rfl (thn (p c s g H _ I h) λv B C=>?_);rfl';obtain⟨x,F,i,j,G,J⟩:=C;obtain⟨L,M⟩:=Kc i j G;ac_rfl;exists T,id,l,slot,m,L,M;have k:=q f c B g F _ i J;rw[z] at k ⊢;refine acx (by show(false|| (backTo f (starEach d X.env)).any (·.1))=false;rw[A]<;>rfl) (Calls.evalArgs_plain ?_)
 exact thn k λN O #[P,R,S,Y,Z]=>n c O g R x P v N Q S j Y Z
end
def Gg(X:Cx)(id:String)(r:V->List V->Hp->VK->Prop):Prop:=
 ∀(a:List (Addr×Obj))(s:Shared)(b:St)(H:Hp)(x:V)(c:List V)(v:Value)(d:List Value)(Q:VK),Inv X a b H s->RelV x v->Vals c d->r x c H Q->
  wpAny (model X.prog X.w) X.A (call (.builtin id) (v::d)) (EP X a b Q) X.xe s
def Vals.one(h:Vals [x] a):∃u,a= [u]/\RelV x u:=by
 cases h with|cons r t=>cases t;exact#[_,rfl,r]
def Vals.two{x y:V}(h:Vals [x,y] a):∃u v,a= [u,v]/\RelV x u/\RelV y v:=by
 cases h with
 |cons r t=>
  obtain⟨v,rfl,q⟩:=Vals.one t;exact#[_,v,rfl,r,q]
theorem Vals.zero:∀{a:List Value},Vals [] a->a= []
 |_, .nil=>rfl
theorem Vals.dropLast(h:Vals a b):Vals a.dropLast b.dropLast:=by
 induction h with
 |nil=>exact .nil
 |cons r t c=>
  cases t with
  |nil=>exact .nil
  |cons q d=>exact .cons r c
theorem Vals.eraseIdx:∀{a:List V}{b:List Value}(i:Nat),Vals a b->Vals (a.eraseIdx i) (b.eraseIdx i)
 |_,_,_, .nil=> .nil
 |_,_,0, .cons _ t=>t
 |_,_,i+1, .cons r t=> .cons r (Vals.eraseIdx i t)
theorem Vals.reverse(h:Vals a b):Vals a.reverse b.reverse:=by
 induction h with
 |nil=>exact .nil
 |cons r t c=>rw[acs,acs];exact Vals.append c (.cons r .nil)
def _root_.o17_{a b c:Nat}(d:a=b+2)(e:c=b+1):a-1=c-1+1:=()
def EA(l:List c):l.eraseIdx (l.length-1)=l.dropLast:=by
 induction l with
 |nil=>rfl
 |cons a r d=>
  cases r with
  |nil=>rfl
  |cons b r=>
   have e:(a::b::r).length-1=((b::r).length-1)+1:=by
    have f:(a::b::r).length=r.length+2:=rfl;have g:(b::r).length=r.length+1:=rfl;exact o17_ f g
   rw[e,List.eraseIdx_cons_succ,d]
   all_goals rfl
theorem xI:∀(l:List a)(i:Nat),(l.eraseIdx i).length<=l.length
 | [],_=>bq _
 |_::_,0=>mX _
 |_::r,i+1=>Nat.succ_le_succ (xI r i)
section
variable {X:Cx} {pins:List (Addr×Obj)} {σ:St} {H:Hp} {s:Shared} {l b:Addr} {xs ys zs:List V}
def Inv.A0{its its':List Value}(I:Inv X pins σ H s)(a:H l\(.lst xs))
  (e:s.heap.get? l\{cls:= .type "list",data:= .seq its.toArray n}) (c:f its.toArray=its'.toArray) (d:Vals ys its') (g:ys.length<=sizeLine):
  Inv X pins σ (upd H l (.lst ys)) {s with heap:=s.heap.update l (Obj.mapSeq f),toks:=t'}:=by
 have q:=PySem.IsL.update e f;rw[c] at q;refine I.write (x:=l) (e:=l) (by rw[a];exact trivial) (.inl rfl) (λj u h i=>(Pi s.heap (Obj.mapSeq f) (Ne.symm h)).trans i) #[_,q] ?_
 exact#[g,its',_,d,q]
def Inv.OZ{its:List Value}{t':Nat}(I:Inv X pins σ H s)(a:Vals ys its)(c:ys.length<=sizeLine):
  Inv X pins σ (upd H s.heap.objs.size (.lst ys)) {s with heap:=s.heap.push {cls:= .type "list",data:= .seq its.toArray},toks:=t'}:=
 I.laid (λ_ _ q=>AC _ q) (bq _) #[c,its,0,a,GE _ rfl]
theorem Inv.fresh(I:Inv X pins σ H s):H s.heap.objs.size=none:=I.hok.fresh (bq _)
def Inv.n9(I:Inv X pins σ H s)(a:H l\(.lst xs)):xs.length<=sizeLine/\∃(its:List Value)(n:Nat),Vals xs its/\xs.length=its.length/\s.heap.get? l\{cls:= .type "list",data:= .seq its.toArray n}:=by
 obtain⟨z,its,n,r,e⟩:=I.hok l _ a;exact#[z,its,n,r,r.length,e]
def LM(h:n<=sizeLine):Builtin.List.listTooLong n=false:=by
 unfold Builtin.List.listTooLong;exact GT ()
end
section
variable {X:Cx}
def PQ:V->List V->Hp->VK->Prop:=λx b H Q=>∃l a y,x= .ref l/\b= [y]/\H l\(.lst a)/\a.length<sizeLine/\Q .aL (upd H l (.lst (a++ [y])))
def iJ:Gg X "list.append" PQ:=by
 intro b s j H x k v m Q I d f h;rfl';obtain⟨l,p,y,rfl,rfl,c,t,q⟩:=h;subst d;obtain⟨u,rfl,i⟩:=f.one;obtain⟨z,a,n,r,w,e⟩:=I.n9 c;ac_rfl;refine ab8 F.slot_list_append #[_,e,rfl] F.entry_list_append (F.args_list_append_2 _ _) (PySem.list_append l a.toArray n u (by rw[b7];lia)) #[e,?_]
 refine#[.aL,_,I.A0 (its':=a++ [u]) c e (by simp) (r.append (.cons i .nil)) ?_,rfl,q]
 rw[dh,DR];lia
def PR:V->List V->Hp->VK->Prop:=λx d H Q=>∃l b a c,x= .ref l/\d= [.ref b]/\H l\(.lst a)/\H b\(.lst c)/\a.length+c.length<=sizeLine/\Q .aL (upd H l (.lst (a++c)))
def xS:Gg X "list.extend" PR:=by
 intro d s y H x A v B Q I g i h;obtain⟨l,b,C,E,rfl,rfl,f,j,G,q⟩:=h;cases g;obtain⟨u,rfl,k⟩:=i.one;cases k;obtain⟨z,a,n,r,J,e⟩:=I.n9 f;obtain⟨L,c,m,o,M,p⟩:=I.n9 j;have t:a.toArray.size+c.toArray.size<=sizeLine:=by rw[b7,b7];lia
 have w:¬(!a.toArray.isEmpty&&Builtin.List.listTooLong (a.toArray.size+c.toArray.size))=true:=by
  rw[LM t,ac6];exact dj
 refine ab8 F.slot_list_extend #[_,e,rfl] F.entry_list_extend (F.args_list_extend_2 _ _)
  (AutoSeq1.list_extend_list_list_0 l a.toArray n b c.toArray m w (by rw[b7];lia) ()) #[e,p,?_]
 refine#[.aL,_,I.A0 (its':=a++c) f e (by simp) (r.append o) ?_,rfl,q]
 rw[dh];lia
def aaB:V->List V->Hp->VK->Prop:=λx b H Q=>∃l a y,x= .ref l/\b= []/\H l\(.lst a)/\a[a.length-1]?\y/\Q y (upd H l (.lst a.dropLast))
def _root_.o18_{a b c:Nat}(d:a<=b)(e:a=c):a-1<=b:=()
def Sf:Gg X "list.pop" aaB:=by
 intro b s t H x w v A Q I f g h;rfl';obtain⟨l,C,y,rfl,rfl,c,j,q⟩:=h;subst f;have k:=g.zero;subst k;obtain⟨z,a,n,r,d,e⟩:=I.n9 c;obtain⟨u,m,o⟩:=r.get j;ac_rfl
 have p:a.toArray[a.toArray.size-1]?\u:=by
  show a.toArray[a.length-1]?\u;rw[<-fO,<-d];exact m
 refine ab8 F.slot_list_pop #[_,e,rfl] F.entry_list_pop (F.args_list_pop_1 _) (MeetsSeq.list_pop_last l a.toArray n u p (by rw[b7];lia)) #[e,?_]
 refine#[y,_,I.A0 (its':=a.dropLast) c e ?_ r.dropLast ?_,o,q]
 .show a.toArray.eraseIdxIfInBounds (a.toArray.size-1)=a.dropLast.toArray
  rw[b7,acS,EA]
 .rw[List.length_dropLast]
  exact o18_ z d
def SV:V->List V->Hp->VK->Prop:=λx b H Q=>∃l a i k y,x= .ref l/\b= [.int i]/\H l\(.lst a)/\-(2^63)<=i/\i<2^63/\seqIndex? i a.length\k/\a[k]?\y/\Q y (upd H l (.lst (a.eraseIdx k)))
def LI:Gg X "list.pop" SV:=by
 intro b s E H x G v J Q I d f h;obtain⟨l,g,i,k,y,rfl,rfl,c,j,m,o,p,q⟩:=h;cases d;obtain⟨u,rfl,A⟩:=f.one;obtain⟨t,rfl⟩:=A;obtain⟨z,a,n,r,B,e⟩:=I.n9 c;obtain⟨w,hw,C⟩:=r.get p
 refine ab8 F.slot_list_pop #[_,e,rfl] F.entry_list_pop (F.args_list_pop_2 _ _)
  (MeetsSeq.list_pop_at l a.toArray n i t k w (fitsIndex_both j m) (by rw[b7,<-B];exact o) (by rw[<-fO];exact hw) (by rw[b7];lia)) #[e,?_]
 refine#[y,_,I.A0 (its':=a.eraseIdx k) c e ?_ (r.eraseIdx k) ?_,C,q]
 .show a.toArray.eraseIdxIfInBounds k=(a.eraseIdx k).toArray
  rw[acS]
 .have:=xI g k
  lia
def Mf:V->List V->Hp->VK->Prop:=λx b H Q=>∃l a,x= .ref l/\b= []/\H l\(.lst a)/\Q .aL (upd H l (.lst a.reverse))
def E9:Gg X "list.reverse" Mf:=by
 intro b s i H x j v k Q I d f h;obtain⟨l,m,rfl,rfl,c,q⟩:=h;cases d;have g:=f.zero;subst g;obtain⟨z,a,n,r,o,e⟩:=I.n9 c;refine ab8 F.slot_list_reverse #[_,e,rfl] F.entry_list_reverse (F.args_list_reverse_1 _) (AutoSeq1.list_reverse_list_0 l a.toArray n (by rw[b7];lia)) #[e,?_]
 refine#[.aL,_,I.A0 (its':=a.reverse) c e (by simp) r.reverse ?_,rfl,q]
 rw[List.length_reverse];lia
def aay:R2:=λx y H Q=>∃l b a c,x= .ref l/\y= .ref b/\H l\(.lst a)/\H b\(.lst c)/\a.length+c.length<=sizeLine/\∀p,H p=none->Q (.ref p) (upd H p (.lst (a++c)))
def CQ:OpR X (binaryOp .Add) aay:=by
 intro c s t H x y v u Q I f g h;rfl';obtain⟨l,b,A,B,rfl,rfl,j,k,C,q⟩:=h;subst f;subst g;obtain⟨z,a,n,r,E,e⟩:=I.n9 j;obtain⟨F,d,G,m,J,o⟩:=I.n9 k;ac_rfl;refine PySem.P.add_list e o ?_ (by rw[b7,b7];lia)
 have p:a.toArray++d.toArray=(a++d).toArray:=by simp
 rw[p];exact#[.ref _,_,I.OZ (t':=s.toks) (r.append m) (by rw[dh];lia),rfl,q _ I.fresh]
end
section
variable {prog:Program} {w:World} {A:Around} {E:Value->Shared->Prop} {s:Shared}
end
section
variable {X:Cx}
end
end L2
namespace Yc
open PySem PySem.W PySem.Calls PyProof.Rows
def uq:∀(c:List Int)(d:List Value),WellAll P h d (c.map WData.int)->IntsAre d c:=by
 intro c
 induction c with
 |nil=>
  intro d w;rw[uV] at w;cases w;exact .nil
 |cons n c e=>
  intro d w;rw[dq] at w;cases w with
  |cons a b=>
   cases a;exact .cons _ _ (e _ b)
theorem Iq{l:OpenLaw}(m:l.most\n) 
  (i:l.row.toRowW.claim.pre args=true) (o:WellAll P h vals args):
  ∃a j b,vals= [Value.ref a]/\args= [WData.list (b.map WData.int)]/\h.get? a\{cls:= .type "list",data:= .seq j.toArray}/\IntsAre j b/\b.length<=n:=by
 have g:WShape.hasAll [] args [.list .int]=true:=(pre_splitW i).1;have k:l.pre.holds [] {args:=args}=true:=(pre_splitW i).2;obtain⟨d,r,rfl,p,s⟩:=hasAllW_cons g;obtain rfl:=hasAllW_nil s;obtain⟨z,rfl,t⟩:=hasW_list p;obtain⟨b,rfl⟩:=items_int t
 have c:b.length<=n:=by
  unfold OpenLaw.pre at k
  have e:(WTm.not (.lt (.lit (.int (n:Int))) (.len (.arg 0)))).holds [] {args:= [.list (b.map .int)]}=true:=by
   have e:=(holds_andW k).1;rw[m] at e;exact e
  have f:=condW_of e (w_not (w_lt w_lit (w_len_list (w_arg rfl))));rw[aI] at f;refine jd λq=>?_;have u:(n:Int)<((b.length:Nat):Int):=()
  first
   | (rw[A u] at f;exact absurd f ∅)
   | (simp at f;lia)
 cases o with
 |cons v w=>
  cases w;cases v with
  |list x y=>exact#[_,_,b,rfl,rfl,x,uq b _ y,c]
def Ic(l:OpenLaw)(args:List WData):l.row.toRowW.claim.post args (.bool true) args=true:=
 postW_of (r:=l.row.toRowW) (X:=(true==true))
  (show WShape.has [] (.bool true) .bool=true by first|rfl|decide|simp[WShape.has,WShape.arms,WShape.armsAll])
  (show(WTm.eq .res (.lit (.bool true))).value [] {args:=args,res:=some (.bool true),after:=args}\(.bool (true==true)) from w_eq_bool (w_res rfl) w_lit) rfl
def Bx{l:OpenLaw} 
  (B:l.most\n) (C:d.params.defaults= [])
  (call:∀(w:World)(e b:Shared)(m u:Str->Option Value)(j:Addr)(o:Obj)(v p g:Value)(a:Addr)(i:List Value)(s:List Int),
   Ground q c [] x w e m u b.heap->y w b.heap->
   b.heap.get? j\o->o.data= .func (docDef d.name d.params d.body d.scope v p g)->b.heap.CodeRec p d.name->m d.name\(.ref j)->
   b.heap.get? a\{cls:= .type "list",data:= .seq i.toArray}->IntsAre i s->s.length<=n->b.gens= #[]->
   codeAny (model l.prog w) callerA (.call (.ref j) #[[.ref a],[]]) (λr t=>r= .ok (.ret (.bool true))/\OldK b.heap t.heap/\t.os=b.os/\AllBare t.gens) b):
  WalkO q c x y l.row.toRowW d [] (λf i=>ee f i):=by
 intro w e b m u G Y j o v p g E kV F H I z J L A vals as M N O P uh;obtain rfl:E= .none:=Dflts.none z C;obtain rfl:kV= .none:=Dflts.noKw z;rfl';obtain⟨a,i,s,rfl,rfl,R,h,k⟩:=Iq B M P;ac_rfl;refine enter_call (abP (call w e b m u j o v p g a i s G Y F (fd_plain H) I J R h k L) λr t S=>?_);obtain⟨rfl,T,X,Z⟩:=S;exact#[.inl #[.bool true, .bool true,[],rfl,λ_=>rfl, .bool true,Ic l _,λ_=>#[List.Pairwise.nil,λ_ hm=>(nomatch hm)]],T,X,Z]
section
variable {prog:Program} {w:World} {A:Around} {E:Value->Shared->Prop} {s:Shared} {K:Frag}
end
end Yc
namespace L2
open PySem PySem.Spec PyProof.Rows
theorem rm:∀{a:List Value}{b:List Int},IntsAre a b->Vals (b.map V.int) a
 |_,_, .nil=> .nil
 |_,_, .cons n t h=> .cons #[t,rfl] (rm h)
def MR(H:Hp):Prop:=∀b,H b=none\/∃o a,H b\(.qK o (.lst a))
theorem LD{P:Program}{w:World}{K:ad}{l E:Str->Option Value}{M:pX}{k:Nat}{G a:Addr}{N:FuncData}{x:Str}{O:Sp}{c:Shared}{j:List Value}{p:List Int}
  (Q:K.In c.heap) (R:c.heap.Ns mainGlobals l) (f:c.heap.Ns builtinsNs E) (GX:∀x:Str,x≠"__name__"->E x=bootBuiltins x) (ZP:c.heap.NoLimit) (hg:c.gens= #[])
  (B:c.heap.get? a\{cls:= .type "list",data:= .seq j.toArray}) (S:IntsAre j p) (T:p.length<=sizeLine) (hr:bJ k callerA)
  (F:∀base:Heap,K.In base->base.Ns mainGlobals l->FnOk P w K l base M k G N [x] O) (Wl:∀(s:Shared)(u:Value),BindsTo s N #[[u],[]] [(x,u)])
  (zG:∀H:Hp,MR H->aG K H a (p.map V.int)->O [.ref a] H (λv _=>v= .bl true) λ_ _ _=>False)
  (V4:∀H e g,M [] H c (λ_ _ _=>False) e g->False):
  codeAny (model P w) callerA (.call (.ref G) #[[.ref a],[]]) (λr g=>r= .ok (.ret (.bool true))/\OldK c.heap g.heap/\g.os=c.os/\AllBare g.gens) c:=by
 have X:=rm S;have I:=S.length
 have i:∀H:Hp,MR H->aG K H a (p.map V.int)->gx P w H c.heap->(∀b,H b≠none->b=a)->(H a≠none->K.lookup a=none)->
   codeAny (model P w) callerA (.call (.ref G) #[[.ref a],[]]) (λr g=>r= .ok (.ret (.bool true))/\OldK c.heap g.heap/\g.os=c.os/\AllBare g.gens) c:=by
  intro H Y hS hok Z hK;have D7:∀{b:Addr}{o:Obj},c.heap.get? b\o->H b=none->(rX c.heap H).get? b\o:=λe n=>Lf e n
  have O6:∀{b:Addr}{o:Obj}{t:Array DictEntry}{y:Nat},c.heap.get? b\o->o.data= .dict t y->H b=none:=λ {b o t y} e d=>by
   cases q:H b with
   |none=>rfl
   |some u=>
    have J:b=a:=Z b (by rw[q];simp)
    subst J;rw[B] at e;cases e;have d':Data.seq j.toArray _=Data.dict t y:=d;cases d'
  have C:∀{b:Addr}{m:Str->Option Value},c.heap.Ns b m->(rX c.heap H).Ns b m:=λ {b m} #[o,t,y,e,d,r]=>#[o,t,y,D7 e (O6 e d),d,r]
  have Zk:K.In (rX c.heap H):=λb o e=>D7 (Q b o e) (by
   cases q:H b with
   |none=>rfl
   |some u=>
    have J:b=a:=Z b (by rw[q];simp)
    subst J;rw[hK (by rw[q];simp)] at e;cases e)
  have hM:Mod K l (rX c.heap H):=#[Zk,C R,#[E,C f,GX],let #[mc,h1,h2]:=ZP;#[mc,C h1,h2]];have e0:Env0 P w K l (rX c.heap H) callerA [] c H:=#[rfl,hM,λb o e=>Pb e,ad9 (He _ _),trivial,λb f=>absurd (show b∈([]:List Addr) from f) (by simp),hok, .of_eq hg]
  refine abP ((F _ Zk (C R)).run callerA [] c H #[[.ref a],[]] [.ref a] [.ref a] _ _ hr e0 (Wl c (.ref a)) (.cons rfl .nil) (zG H Y hS)) λr g h=>?_;cases r with
  |error e=>exact(V4 H e g h).elim
  |ok fl=>
   cases fl with
   |next=>exact False.elim h
   |brk=>exact False.elim h
   |cont=>exact False.elim h
   |ret u=>
    rfl';obtain⟨v,H',os,bare,un,Z1,r',q⟩:=h;have q':v= .bl true:=q;subst q';ac_rfl;obtain rfl:u=Value.bool true:=r';refine#[rfl,OldK.of_keep λb o e=>?_,os,bare];cases q:H b with
    |none=>exact un.keep b o e q (by intro z;exact absurd (show b∈([]:List Addr) from z) (by simp)) (by simp)
    |some u=>
     rcases Y b with z| ⟨ob,xs,z⟩
     .rw[q] at z;cases z
     .have z2:=un.frzs b ob _ z
      obtain⟨e1,_⟩:=hok b _ z;obtain⟨e2,_⟩:=Z1 b _ z2;rw[e] at e1;cases e1;exact e2
 cases L:K.lookup a with
 |some o=>
  have e:=Q a o L;rw[B] at e;cases Da e;refine i (λ_=>none) (λ_=> .inl rfl) (.inr #[_,j.toArray,_,L,rfl,rfl,rfl,by rw[b7,I];exact T,by simpa using X]) (λb u z=>by have A:(none:Option HO)\u:=z;cases A) (λb z=>absurd rfl z) λz=>absurd rfl z
 |none=>
  refine i (λb=>if b=a then some (.qK {cls:= .type "list",data:= .seq j.toArray} (.lst (p.map V.int))) else none) (λb=>?_) (.inl (.inr #[{cls:= .type "list",data:= .seq j.toArray},mo rfl])) (λb u z=>?_) (λb z=>?_) λ_=>L
  .by_cases f:b=a
   .exact .inr #[_,_,mo f]
   .exact .inl (tz f)
  .by_cases f:b=a
   .have A:=(mo f).symm.trans z
    obtain rfl:=Da A;subst f;exact#[B,by rw[aI];exact T,j,_,X,B]
   .have A:=(tz f).symm.trans z
    cases A
  .by_cases f:b=a
   .exact f
   .exact absurd (tz f) z
def Qu{l:cZ}{n k:Nat}{q:Program}{i:List Str}{I:(Str->Option Value)->Heap->Prop}{A:World->Heap->Prop}{d:DefRec}{K:Params->ad}{CX:World->pX}{sp:World->Sp}{x:Str}
  (J:l.most\n) (L:n<=sizeLine) (M:d.params.defaults= []) (N:bJ k callerA)
  (O:∀(w:World)(h:Heap),A w h->(K w.params).In h)
  (F:∀(w:World)(m:Str->Option Value)(r:Addr)(h:Heap),(K w.params).In h->h.Ns mainGlobals m->m d.name\(.ref r)->
   ∃y:FuncData,(∀(s:Shared)(u:Value),BindsTo s y #[[u],[]] [(x,u)])/\
    ∀base:Heap,(K w.params).In base->base.Ns mainGlobals m->FnOk l.prog w (K w.params) m base (CX w) k r y [x] (sp w))
  (P:∀(w:World)(H:Hp)(a:Addr)(t:List Int),t.length<=n->MR H->aG (K w.params) H a (t.map V.int)->sp w [.ref a] H (λv _=>v= .bl true) λ_ _ _=>False)
  (Q:∀(w:World)(H:Hp)(s:Shared)(e:Value)(z:Shared),CX w [] H s (λ_ _ _=>False) e z->False):
  eh q i I A l.row.toRowW d [] (λf B=>ee f B):=by
 refine Yc.Bx J M λw C p m mb r o pm cd R a B t G Y ho hd fK S X j c Z=>?_;have E:=O w _ Y;obtain⟨y,hb,hF⟩:=F w m r _ E G.T.g S;exact LD E G.T.g G.T.b G.T.builtins G.T.nolimit Z X j (iq c L) N hF hb (λH hO hS=>P w H a t c hO hS) λH e z=>Q w H p e z
noncomputable def inClass(s:Stmt)(j:Nat):Stmt:=match s with
 | .ClassDef _ _ _ body _ _ _ _ _ _ _=>body.getD j (.Pass #[0,0,0,0])
 |_=> .Pass #[0,0,0,0]
noncomputable def gX(s:Stmt):Arguments:=match s with
 | .FunctionDef _ a _ _ _ _ _ _ _ _=>a
 |_=>{posonlyargs:= [],args:= [],vararg:=none,kwonlyargs:= [],kw_defaults:= [],kwarg:=none,defaults:= []}
noncomputable def cW(s:Stmt):List Stmt:=match s with
 | .FunctionDef _ _ b _ _ _ _ _ _ _=>b
 |_=> []
noncomputable def aq(s:Stmt):Scope:=match s with
 | .FunctionDef _ _ _ _ _ _ sc _ _ _=>sc
 |_=>{kind:= .function,names:= [],isGenerator:=false,isCoroutine:=false}
abbrev bQ:pX:=λ_ _ _ _ _ _=>False
abbrev E0:XK:=λ_ _ _=>False
def bT:Passes bQ X E0:=λ_ _ _ _ _ _ _ h=>h.elim
structure qy (K:ad) (x qual:Str) (st:Stmt) (f:Addr) (fd:FuncData):Prop where
 ex:∃(oc:Value)(od:Option Addr)(kV doc pm:Value)(an:Option Addr)(aT ct:Value)(CU:Array (Option Value)),
  fd=cb x qual (gX st) (cW st) (aq st) .none kV doc pm an aT ct/\K.lookup f\#[oc,od, .func fd,CU]/\bd K aT qual=true
 kp:am K (.ref f)=true
section
variable {P:Program} {w:World} {K:ad} {mg:Str->Option Value} {base:Heap}
def qy.ok{x a:Str}{st:Stmt}{f:Addr}{e:FuncData}{N c:List Str}{k:Nat}{d:Sp}(F:qy K x a st f e)(S:aE N c (aq st))(len:∀vs H Q E,d vs H Q E->vs.length=c.length)
  (g:∀(b:Value)(A:Around)(outer:List Env)(s:Shared)(H:Hp)(vs:List V)(Q:VK)(E:XK),bJ k (A.deeper (envOfC a (aq st) s.heap.objs.size f b))->d vs H Q E->
   ∃t,jz (jt bQ P w K mg base N a (aq st) f b A outer s H E).ku (cW st) t/\t {nx:=λ_ i=>Q .aL i,rt:=Q} (start N vs) H):FnOk P w K mg base bQ (k+1) f e c d:=by
 rfl';obtain⟨u,v,kV,l,y,z,b,B,C,rfl,m,n⟩:=F.ex;ac_rfl;refine NO m n S len λA outer s H vs Q E o p=>?_;obtain⟨t,h,q⟩:=g b A outer s H vs Q E o p;exact#[t,h.ku,q]
def qy.binds{st:Stmt}{ps:List Str}(F:qy K x a st f j)
  (h:∀(kV b c:Value)(d:Option Addr)(e g:Value)(i:List Value),i.length=ps.length->bindArgs (cb x a (gX st) (cW st) (aq st) .none kV b c d e g) #[i,[]]=pure (ps.zip i)):Binds K j ps []:=by
 rfl';obtain⟨m,n,kV,b,c,d,e,g,o,rfl,p,q⟩:=F.ex;ac_rfl;exact .all (h kV b c d e g)
def l7{x a:Str}{st:Stmt}{f:Addr}{i:Value}{j e:Option Addr}{m:Array (Option Value)}{kV b g d h:Value}(l:K.lookup f\#[i,j, .func (cb x a (gX st) (cW st) (aq st) .none kV b g e d h),m])
  (c:bd K d a=true) (k:am K (.ref f)=true):qy K x a st f (cb x a (gX st) (cW st) (aq st) .none kV b g e d h):=#[#[i,j,kV,b,g,e,d,h,m,rfl,l,c],k]
end
def aZ(h:n<=1000):n<sizeLine:=oX h ∅
section
variable {X:Cx}
def pv(i:Nat){a:Pos}(b:X.N[i]?\x:=by rfl)(c:nz X.env.scope x:=by subst_eqs)(d:(x==("__debug__":Str))=false:=by decide)
  (e:(x==("__classdict__":Str))=false:=by decide):PE X (.Name x a) (vt i):=CW b c d e
end
def dS{A B:Prop}(h:B):if false=true then A else B:=by
 rw[tz dj];exact h
def dU{A B:Prop}(h:A):if true=true then A else B:=by
 rw[mo rfl];exact h
def vf{c A B:Prop} [Decidable c] (a:c->A) (b:¬c->B):if c then A else B:=by
 by_cases h:c
 .rw[mo h]
  exact a h
 .rw[tz h]
  exact b h
def aB(H a:Hp):Prop:=∀b o,H b\o->a b\o
def aB.refl(H:Hp):aB H H:=λ_ _ h=>h
def aB.trans{H d e:Hp}(a:aB H d)(b:aB d e):aB H e:=λc o h=>b c o (a c o h)
def aB.free{H a:Hp}(e:aB H a)(h:a l=Option.none):H l=Option.none:=by
 cases q:H l with
 |none=>rfl
 |some o=>
  rw[e l o q] at h;cases h
def aB.seq{K:ad}{H b:Hp}{a:Addr}{xs:List V}(e:aB H b)(h:aG K H a xs):aG K b a xs:=by
 rcases h with (h| ⟨o,h⟩) |h
 .exact .inl (.inl (e _ _ h))
 .exact .inl (.inr #[o,e _ _ h])
 .exact .inr h
noncomputable def iV(env:Env):List (Str×NameKind)->List (Str×Addr)->List (Str×Addr)
 | [],a=>a
 | (n,k)::r,a=>if k==NameKind.free then iV env r ((n,(env.cells.lookup n).getD 0)::a) else iV env r a
def fS(h:∀x∈b.names,x.2= .free->∃c,env.cells.lookup x.1\c):closureFor b env=pure (iV env b.names []):=by
 simp only[closureFor]
 have j:∀(names:List (Str×NameKind))(d:List (Str×Addr)),(∀x∈names,x.2= .free->∃c,env.cells.lookup x.1\c)->
   (forIn names d λx e=>if (x.snd==NameKind.free)=true then(do let a <-cellOf env x.fst;pure (ForInStep.yield ((x.fst,a)::e))) else pure (ForInStep.yield e))=(pure (iV env names d):Sem _):=by
  intro names
  induction names with
  |nil=>intro d _;rfl
  |cons x r l=>
   obtain⟨n,k⟩:=x;intro d h;rw[adS,iV];have f:=λd=>l d λy m=>h y (eW _ m);cases g:k==NameKind.free with
   |false=>
    simp only[g,eV,PP];exact f d
   |true=>
    have o:k= .free:=by simpa using g
    obtain⟨c,i⟩:=h (n,k) dB o;simp only at i;simp only[abN,cellOf,i];exact f _
 rw[j _ _ h];rfl
theorem fR:∀(names:List (Str×NameKind))(a:List (Str×Addr)),(∀x∈names,x.2= .free->∃c,env.cells.lookup x.1\c)->(∀x c,a.lookup x\c->env.cells.lookup x\c)->
  ∀x c,(iV env names a).lookup x\c->env.cells.lookup x\c
 | [],a,_,b=>b
 | (n,k)::r,a,h,b=>by
  rw[iV]
  split
  .rename_i g
   refine fR r _ (λy d=>h y (eW _ d)) λx c e=>?_;obtain⟨l,f⟩:=h (n,k) dB (~~~g)
   rw[tK] at e
   split at e
   .rename_i i
    have j:x=n:=by simpa using i
    subst j;simp only at f;rw[f] at e ⊢;exact e
   .exact b x c e
  .exact fR r a (λy d=>h y (eW _ d)) b
theorem pk{env:Env}:∀(names:List (Str×NameKind))(a:List (Str×Addr))(x:Str),((x,NameKind.free)∈names\/∃c,a.lookup x\c)->∃c,(iV env names a).lookup x\c
 | [],a,x,h=>by
  rcases h with h|h
  .cases h
  .exact h
 | (n,k)::r,a,x,h=>by
  rw[iV]
  split
  .rename_i b
   refine pk r _ x ?_
   by_cases e:x=n
   .subst e;exact .inr #[(env.cells.lookup x).getD 0,by simp[tK]]
   .have ne:(x==n)=false:=by simpa using e
    rcases h with h| ⟨c,h⟩
    .rcases eL.mp h with z|z
     .cases z;exact absurd rfl e
     .exact .inl z
    .exact .inr #[c,by rw[tK,ne];exact h]
  .rename_i b
   refine pk r a x ?_
   rcases h with h|h
   .rcases eL.mp h with z|z
    .cases z;exact absurd rfl b
    .exact .inl z
   .exact .inr h
noncomputable def kj(src:List (Option Nat))(a:St):St:=src.map λo=>o.bind λi=>(a[i]?).bind id
def cS(a:Scope)(b:List Str):List (Option Nat)->List Str->Prop
 | [],[]=>True
 |none::r,_::n=>cS a b r n
 |some i::r,x::n=>b[i]?\x/\a.names.lookup x\.free/\cS a b r n
 |_,_=>False
theorem cS.len:∀{src:List (Option Nat)}{NC:List Str},cS a b src NC->src.length=NC.length
 | [],[],_=>rfl
 |none::r,_::n,h=>by have:=cS.len (src:=r) (NC:=n) h;simp[this]
 |some i::r,_::n,h=>by have:=cS.len (src:=r) (NC:=n) h.2.2;simp[this]
 | [],_::_,h=>h.elim
 |none::_,[],h=>h.elim
 |some _::_,[],h=>h.elim
theorem cS.at{a:Scope}:∀{src:List (Option Nat)}{NC:List Str}{j i:Nat}{x:Str},cS a d src NC->src[j]?\(some i)->NC[j]?\x->d[i]?\x/\a.names.lookup x\.free
 | [],[],_,_,_,_,h,_=>by simp at h
 |none::r,_::n,0,_,_,_,h,_=>by simp at h
 |none::r,_::n,j+1,i,x,h,b,c=>cS.at (src:=r) (NC:=n) (j:=j) h (~~~b) (~~~c)
 |some k::r,y::n,0,i,x,h,b,c=>by
  have e:k=i:=by simpa using b
  have f:y=x:=by simpa using c
  subst e f;exact#[h.1,h.2.1]
 |some k::r,_::n,j+1,i,x,h,b,c=>cS.at (src:=r) (NC:=n) (j:=j) h.2.2 (~~~b) (~~~c)
 | [],_::_,_,_,_,h,_,_=>h.elim
 |none::_,[],_,_,_,h,_,_=>h.elim
 |some _::_,[],_,_,_,h,_,_=>h.elim
structure br (X:Cx) (scope:Scope):Prop where
 kind:scope.kind= .function
 names:∀x∈scope.names,x.2= .local->scope.names.lookup x.1\.local
 nocell:∀x∈scope.names,x.2≠ .cell
 free:∀x∈scope.names,x.2= .free->X.env.kindOf x.1\.cell\/X.env.kindOf x.1\.free
theorem gu{env:Env}:∀(names:List (Str×NameKind))(x:Str),
  (names.map λ(n,k)=>if (k==NameKind.free&&env.scope.kind== .function&&env.kindOf n==some .cell) then(n,NameKind.cell) else(n,k)).lookup x=
   (names.lookup x).map λk=>if (k==NameKind.free&&env.scope.kind== .function&&env.kindOf x==some .cell) then NameKind.cell else k
 | [],_=>rfl
 | (n,k)::r,x=>by
  have c:=gu (env:=env) r x;show bf x ((if (k==NameKind.free&&env.scope.kind== .function&&env.kindOf n==some .cell)=true then(n,NameKind.cell) else(n,k))::_)=_;cases b:x==n with
  |true=>
   have e:x=n:=by simpa using b
   subst e
   by_cases a:(k==NameKind.free&&env.scope.kind== .function&&env.kindOf x==some .cell)=true
   .rw[mo a,tK,tK]
    simp only[b];show some NameKind.cell\(if _ then _ else _);rw[mo a]
   .rw[tz a,tK,tK]
    simp only[b];show some k\(if _ then _ else _);rw[tz a]
  |false=>
   by_cases a:(k==NameKind.free&&env.scope.kind== .function&&env.kindOf n==some .cell)=true
   .rw[mo a];simp only[tK,b];exact c
   .rw[tz a];simp only[tK,b];exact c
def mem_lookup{names:List (Str×NameKind)}{x:Str}{k:NameKind}(h:names.lookup x\k):(x,k)∈names:=abM h
noncomputable def bA(X:Cx)(a:Scope)(NC:List Str)(ex:List Addr)(s:Shared)(H:Hp):Cx:=
 {X with N:=NC,s₀:=s,H₀:=H,env:=compEnvC a (iV X.env a.names []) s.heap.objs.size X.env,outer:=X.stack,stack:=X.stack,ex:=ex,fn:=λ_=>false,pn:= [],xe:=λ_ _=>False}
section
variable {X:Cx} {pins:List (Addr×Obj)} {σ:St} {H:Hp} {s:Shared} {scope:Scope} {NC:List Str} {ex:List Addr} {src:List (Option Nat)}
theorem br.cells(c:br X scope)(ok:X.Ok):∀x∈scope.names,x.2= .free->∃c,X.env.cells.lookup x.1\c:=λx a e=>ok.has x.1 (c.free x a e)
def br.Xd(c:br X scope)(h:(compEnvC scope (iV X.env scope.names []) C X.env).kindOf x\k)(i:k= .cell\/k= .free):scope.names.lookup x\.free:=by
 have a:(relabel scope X.env).names.lookup x\k:=h;unfold relabel at a;rw[gu] at a;cases e:scope.names.lookup x with
 |none=>rw[e] at a;cases a
 |some b=>
  have g:=c.nocell _ (mem_lookup e);rw[e] at a;have f:(if (b==NameKind.free&&X.env.scope.kind== .function&&X.env.kindOf x==some .cell) then NameKind.cell else b)=k:=Da a
  by_cases d:b= .free
  .rw[d]
  .have j:(b==NameKind.free)=false:=by simpa using d
   rw[j,ad4,ad4,tz dj] at f
   rcases i with z|z
   .rw[f] at g;exact absurd z g
   .rw[f] at d;exact absurd z d
def M4(I:Inv X pins σ H s)(c:br X scope)(f:∀b∈ex,eY X pins H b)(g:∀b∈ex,b<s.heap.objs.size):(bA X scope NC ex s H).Ok where
 mod:=I.ok.mod
 kind:=c.kind
 glob:=I.ok.glob
 blt:=I.ok.blt
 above:=bq _
 inj:=λx y d i j=>I.ok.inj x y d (fR _ _ (c.cells I.ok) (λ_ _ z=>by cases z) x d i) (fR _ _ (c.cells I.ok) (λ_ _ z=>by cases z) y d j)
 has:=λx k=>pk _ _ x (.inl (mem_lookup (by rcases k with h|h<;>exact c.Xd h (by simp))))
 cab:=λ_ _ z=>by cases z
 hd:=I.ok.hd
 frames:=I.ok.frames
 stk:= .inl rfl
 exf:=λb a=>#[bE (g b a),λx d e=>(f b a).2.2.2.2.1 x d (fR _ _ (c.cells I.ok) (λ_ _ z=>by cases z) x d e)]
 bs:=I.bs
 bsz:=iq I.ok.bsz I.sz
 noex:=λb o e a=>by
  rcases(f b a).2.2.2.1 with z|z
  .exact I.ok.noex b o e z
  .exact absurd (cP (Do e) (iq I.ok.bsz z)) (jy _)
 exfs:=λb a z=>(eL.mp (I.Dh b z)).elim (f b a).2.1 (f b a).2.2.1
 funs:=I.stack
 frf:=I.yD
theorem Ae{tk:Nat}(I:Inv X pins σ H s)(c:br X scope)(A:cS scope X.N src NC)(E:∀b∈ex,eY X pins H b)(F:∀b∈ex,b<s.heap.objs.size)
  (G:h.Ns s.heap.objs.size (λ_=>none)) (J:Heap.SameBut s.heap.objs.size (s.heap.push C) h):
  Inv (bA X scope NC ex s H) [] (kj src σ) H {s with heap:=h,toks:=tk}:=by
 have f:∀b o,s.heap.get? b\o->h.get? b\o:=λb o e=>J.extBut b o (bE (Do e)) (AC _ e);have t:∀x d,(iV X.env scope.names []).lookup x\d->X.env.cells.lookup x\d:=λx d=>fR _ _ (c.cells I.ok) (λ_ _ z=>by cases z) x d
 have a:∀d v,s.heap.IsCell d v->h.IsCell d v:=λd v #[o,L,k]=>#[o,f d o L,k];refine#[M4 I c E F,rfl,I.bare,Un.kept f,#[_,G,λj x v M O Y=>?_],λx d e=>?_,I.hok.fresh (bq _),λx d e=>I.freeC x d (t x d e),λp P=>absurd (show p∈([]:List (Addr×Obj)) from P) (by simp),I.hok.kept f,?_]
 .have g:(kj src σ)[j]?\(some v):=O
  unfold kj at g;rw[dJ] at g;cases w:src[j]? with
  |none=>rw[w] at g;cases g
  |some o=>
   rw[w] at g;cases o with
   |none=>cases g
   |some i=>
    have n:(σ[i]?).bind id\v:=Da g
    have Q:σ[i]?\(some v):=by
     cases q:σ[i]? with
     |none=>rw[q] at n;cases n
     |some z=>rw[q] at n;exact On some n
    rfl';obtain⟨S,y⟩:=A.at w M;have B:=c.free _ (mem_lookup y) rfl;obtain⟨m,hn,T⟩:=I.loc;obtain⟨u,r,l⟩:=T i x v S Q (B.elim (λz=> .inr (.inl z)) (λz=> .inr (.inr z)));ac_rfl;refine#[u,r, .inr #[?_,?_]]
    .show(relabel scope X.env).names.lookup x=_\/(relabel scope X.env).names.lookup x=_
     unfold relabel;rw[gu,y]
     by_cases z:(NameKind.free==NameKind.free&&X.env.scope.kind== .function&&X.env.kindOf x==some .cell)=true
     .left;simp only[yU,z,abN]
     .right;simp only[yU,z];rfl
    .obtain⟨d,k⟩:=pk (env:=X.env) scope.names [] x (.inl (mem_lookup y))
     exists d,k
     rcases l with ⟨l,_⟩ | ⟨_,d',e,z⟩
     .exfalso;rcases B with z|z<;>(rw[l] at z;cases z)
     .rw[t x d k] at e;cases e;exact a d _ z
 .obtain⟨v,z⟩:=I.cell x d (t x d e)
  exact#[v,a d v z]
 .show(kj src σ).length=NC.length
  unfold kj;rw[aI];exact A.len
def comp_back(I:Inv X pins σ H s)(p:∀b∈ex,eY X pins H b)(J:Inv (bA X scope NC ex s H) m l g c)
  (r:Heap.SameBut s.heap.objs.size c.heap i):Inv X pins σ g {c with heap:=i}:=by
 have h:∀b o,b≠s.heap.objs.size->c.heap.get? b\o->i.get? b\o:=λb o a e=>r.extBut b o a e;have ne:∀b o,s.heap.get? b\o->b≠s.heap.objs.size:=λb o e=>bE (Do e);have u:=J.base;refine I.Gm (ch:=ex) (show c.os=s.os from J.os) #[λb o e n a f=>h b o (ne b o e) (u.keep b o e n a f),λb o e n a f=>?_,u.free,λb o e f=>?_,u.tups,u.frzs,u.tbls] ?_ J.bare λb a=>?_
 .obtain⟨t,q⟩:=u.slot b o e n a f
  exact#[t,h b _ (ne b o e) q]
 .obtain⟨j,q⟩:=u.there b o e f
  exact#[j,h b j (ne b o e) q]
 .intro b o e
  have k:∀b o,g b\o->b≠s.heap.objs.size:=λb o e z=>by
   have:=J.free
   rw[z] at e;have w:g s.heap.objs.size=none:=this;rw[w] at e;cases e
  refine(J.hok b o e).mT (λd v x q=>h d v ?_ q) (λ_ q=>q) λ_ _ q=>q
  rcases x with z|z
  .rw[z];exact k b o e
  .exact k d _ z
 .obtain⟨_,y,_,A,B,C⟩:=p b a
  exact#[A,y,B,C]
end
def jR(X:Cx)(b:List Expr)(t:TT):Prop:=
 ∀(a:List (Addr×Obj))(s:Shared)(d:St)(H:Hp)(Q:Bool->Hp->Prop),Inv X a d H s->t d H Q->
  wpAny (model X.prog X.w) X.A (forIn b true λc r=>if r=true then do let ok <-isTrue c X.env (eval c X.env);pure (ForInStep.yield ok) else pure (ForInStep.yield r)) (TP X a d Q) X.xe s
def U3:TT:=λ_ H Q=>Q true H
def sH:jR X [] U3:=λ_ _ _ H _ I h=>wpAny_tests_nil #[H,I,h]
def Fo(h:PT X c t):jR X [c] t:=λa s b H Q I q=>wpAny_tests_one (h a s b H Q I q)
def Yj(J:It)(g:TG)(o:TT)(p:TE)(D:Addr)(Q:VK)(q:St)(H:Hp):Prop:=
 ∃W:Nat->Nat->St->Hp->Prop,(∃m,W 0 m q H)/\∀i m e a,W i m e a->
  (J.stop i a/\Q (.ref D) a)\/
  (J.go i a/\∃N:St->Hp->Prop,(∀f h,N f h->∃j,j<m/\W (i+1) j f h)/\∀x k,J.yld i a x k->g x e k λc r=>o c r λb l=>
   if b=true then p c l λv n=>∃d,n D\(.lst d)/\d.length<sizeLine/\N c (upd n D (.lst (d++ [v]))) else N c l)
def Tu(c:TI)(g:TG)(d:TT)(e:TE)(src:List (Option Nat)):TE:=λa H Q=>c a H λJ b=>∀D,b D=none->Yj J g d e D Q (kj src a) (upd b D (.lst []))
section
variable {X:Cx} {elt iter tg:Expr} {ifs:List Expr} {scope:Scope} {pos:Pos} {wi:TI} {g:TG} {tt:TT} {te:TE} {src:List (Option Nat)} {NC:List Str}
theorem uX{RR:Value->Addr->Result->Shared->Prop}{Q:VK}
  (hc:X.calm=true) (c:br X scope) (dO:cS scope X.N src NC) (I2:Inv X j σ I B) (T:Turn X.prog X.w X.K tg J F it tn) (iL:tn 0 B.heap) (f2:∀b∈F,eY X j I b)
  (hg:∀s H,PG (bA X scope NC F s H) tg g) (ht:∀s H,jR (bA X scope NC F s H) ifs tt) (he:∀s H,PE (bA X scope NC F s H) elt te)
  (hW:∀D,I D=none->∃W:Nat->Nat->St->Hp->Prop,(∃m,W 0 m (kj src σ) (upd I D (.lst [])))/\∀i m di I,W i m di I->
   (J.stop i I/\Q (.ref D) I)\/
   (J.go i I/\∃N:St->Hp->Prop,(∀G a,N G a->∃m',m'<m/\W (i+1) m' G a)/\∀x Y,J.yld i I x Y->g x di Y λdY H4=>tt dY H4 λb H5=>
    if b=true then te dY H5 λv H6=>∃ys,H6 D\(.lst ys)/\ys.length<sizeLine/\N dY (upd H6 D (.lst (ys++ [v]))) else N dY H5))
  (GW:∀D C Y G a M,Inv X j σ Y C->(∀b∈F,eY X j Y b)->Inv (bA X scope NC F C Y) [] G a M->Q (.ref D) a->RR (.ref D) C.heap.objs.size (.ok .next) M):
  wpAny (model X.prog X.w) X.A (newList []) (λacc sZ=>wpAny (model X.prog X.w) X.A (newFunctionEnv scope X.env.globals (iV X.env scope.names []) [] X.env.qual none .none (some X.env)) (λkG tj=>
   codeAny (model X.prog X.w) X.A (.compStart (.ListComp elt [#[tg,iter,ifs,0]] scope pos) 0 (.ref it) acc {kG with scope:=relabel scope X.env}) (RR acc kG.locals) tj) E sZ) E B:=by
 rfl';obtain⟨W,⟨m0,w0⟩,turn⟩:=hW B.heap.objs.size I2.fresh;have I3:Inv X j σ (upd I B.heap.objs.size (.lst [])) {B with heap:=B.heap.push {cls:= .type "list",data:= .seq ([]:List Value).toArray}}:=I2.OZ (its:= []) (t':=B.toks) .nil (dA _)
 ac_rfl
 have HG:∀b∈F,b<B.heap.objs.size:=λb l=>by
  obtain⟨o,e,_⟩:=T.obj _ _ iL b l;exact Do e
 have f3:∀b∈F,eY X j (upd I B.heap.objs.size (.lst [])) b:=λb l=>#[by rw[ag (bE (HG b l))];exact(f2 b l).1,(f2 b l).2]
 refine abF ?_
 suffices key:∀C:Shared,Inv X j σ (upd I B.heap.objs.size (.lst [])) C->(∀b o,B.heap.get? b\o->C.heap.get? b\o)->
   wpAny (model X.prog X.w) X.A (newFunctionEnv scope X.env.globals (iV X.env scope.names []) [] X.env.qual none .none (some X.env)) (λkG tj=>
    codeAny (model X.prog X.w) X.A (.compStart (.ListComp elt [#[tg,iter,ifs,0]] scope pos) 0 (.ref it) (.ref B.heap.objs.size) {kG with scope:=relabel scope X.env}) (RR (.ref B.heap.objs.size) kG.locals) tj) E C from
  key _ I3 λb o e=>AC _ e
 intro C I3 X4;have vW:tn 0 C.heap:=T.keep _ _ _ iL λb _ o e=>X4 b o e
 have HH:∀b∈F,b<C.heap.objs.size:=λb l=>by
  obtain⟨o,e,_⟩:=T.obj _ _ vW b l;exact Do e
 generalize Zh:upd I B.heap.objs.size (.lst [])=Y at I3 f3 w0;refine wpAny_newFunctionEnv c.nocell (by intro y hy;simp at hy) (λh1 Ca Cg=>?_) c.kind
 have I4:=Ae (src:=src) (NC:=NC) (ex:=F) (tk:=C.toks+([]:List (Str×Value)).length) I3 c dO f3 HH Ca Cg;have Qi:tn 0 h1:=T.keep _ _ _ vW λb l o e=>Cg.extBut b o (bE (HH b l)) (AC _ e);generalize L:bA X scope NC F C Y=k at I4
 have R:∀{a:Hp},(∀b∈F,a b=none)->∀b∈F,eY k [] a b:=λ {a} hn b l=>by
  subst L;refine#[hn b l,bE (HH b l),λz=>?_, .inl l,λx d e=>?_,λp hp=>absurd (show p∈([]:List (Addr×Obj)) from hp) (by simp)]
  .exact(I4.ok.exfs b l) z
  .exact(I4.ok.exf b l).2 x d e
 have Z:codeAny (model X.prog X.w) X.A (.compLoop (.ListComp elt [#[tg,iter,ifs,0]] scope pos) 0 (.ref it) (.ref B.heap.objs.size) k.env) (RR (.ref B.heap.objs.size) C.heap.objs.size)
   {C with heap:=h1,toks:=C.toks+([]:List (Str×Value)).length}:=by
  refine aeb rfl (λn M=>∃i G a,Inv k [] G a M/\tn i M.heap/\(∀b∈F,a b=none)/\W i n G a) (λn M hI=>?_) m0 #[0,_,_,I4,Qi,λb l=>(f3 b l).1,w0];obtain⟨i,G,a,I5,vX,qJ,w5⟩:=hI;show wpAny _ X.A ((compTurn (.ListComp elt [#[tg,iter,ifs,0]] scope pos) 0 (.ref it) (.ref B.heap.objs.size) k.env).onRaise (λx=>do noteFrame x k.env;theTreesLotGoes x)) _ _ M
  refine wpAny_noted ?_;rw[compTurn_list]
  have ku:∀{α:Type}{t:Sem α}{Q:α->Shared->Prop}{E:Value->Shared->Prop}{s:Shared},wpAny (model k.prog k.w) k.A t Q k.xe s->wpAny (model X.prog X.w) X.A t Q E s:=λ {α t Q E s} h=>by
   subst L;exact wpAny_mono h (λ_ _ q=>q) λ_ _ f=>f.elim
  have Le:k.calm=true:=by subst L;exact hc
  have eP:k.prog=X.prog:=by subst L;rfl
  have ew:k.w=X.w:=by subst L;rfl
  have eK:k.K=X.K:=by subst L;rfl
  have eA:k.A=X.A:=by subst L;rfl
  have WB:PG k tg g:=by subst L;exact hg _ _
  have WY:jR k ifs tt:=L▸ht _ _;have Wx:PE k elt te:=L▸he _ _;refine wpAny_bind (W1 (wpAny_bind ?_))
  rcases turn i n G a w5 with ⟨stop,qn⟩ | ⟨go,N,hN,step⟩
  .have hd:=T.done k eP ew eK Le i [] M G a (notedBy (model X.prog X.w) X.A k.env λe M=>RR (.ref B.heap.objs.size) C.heap.objs.size (.error e) M) I5 (R qJ) vX stop
   rw[eA] at hd;refine thn hd λr s6 O=>?_;obtain⟨hr,I6⟩:=O;subst hr;refine ir ?_;subst L;exact GW _ C Y G a s6 I3 f3 I6 qn
  .have hd:=T.item k eP ew eK Le i [] M G a (notedBy (model X.prog X.w) X.A k.env λe M=>RR (.ref B.heap.objs.size) C.heap.objs.size (.error e) M) I5 (R qJ) vX go
   rw[eA] at hd;refine thn hd λr s6 O=>?_;rfl';obtain⟨u,hr,h6⟩:=O;ac_rfl;subst hr;refine wpAny_bind (thn h6 λ_ s7 O=>?_);rfl';obtain⟨x,H7,I7,r7,y7,yA,NR⟩:=O;ac_rfl;have MN:=I7.pinned (R NR) (T.obj _ _ yA)
   have again:∀{S:St}{H8:Hp}{s8:Shared},Inv k ([]++mB F s7.heap) S H8 s8->N S H8->∃m,m<n/\∃i G a,Inv k [] G a s8/\tn i s8.heap/\(∀b∈F,a b=none)/\W i m G a:=λ {S H8 s8} I8 n8=>by
    obtain⟨m',hm,w8⟩:=hN S H8 n8;refine#[m',hm,i+1,S,H8,I8.jP,T.keep _ _ _ yA λb l o e=>(I8.pin (b,o) (fF _ (fF _ (eZ l e)))).1,λb l=>?_,w8];obtain⟨o,e,d⟩:=T.obj _ _ yA b l;exact(I8.pin (b,o) (fF _ (fF _ (eZ l e)))).2.1
   refine wpAny_bind (ku (thn (WB _ s7 G H7 x u _ MN r7 (step x H7 y7)) λ_ s8 O=>?_));rfl';obtain⟨S,H8,I8,q8⟩:=O;ac_rfl;refine wpAny_bind (ku (thn (WY _ s8 S H8 _ I8 q8) λb s9 O=>?_));obtain⟨H9,I9,q9⟩:=O;cases b with
   |false=>
    rw[tz dj] at q9;exact ir #[L▸rfl,again I9 q9]
   |true=>
    rw[mo rfl] at q9;refine wpAny_bind (wpAny_bind (ku (thn (Wx _ s9 S H9 _ I9 q9) λy yl O=>?_)));rfl';obtain⟨v,vH,MM,PN,ys,hD,hz,PM⟩:=O;ac_rfl;refine wpAny_bind (ku (thn (iJ _ yl S vH (.ref B.heap.objs.size) [v] _ [y] (λ_ a=>N S a) MM rfl (.cons PN .nil) #[_,ys,v,rfl,rfl,hD,hz,PM]) λ_ C3 O=>?_));rfl';obtain⟨_,zi,Br,_,Ii⟩:=O;ac_rfl;exact ir (ir #[L▸rfl,again Br Ii])
 subst L;exact adZ Z (T.self _ 0 _ _ _ Qi Z)
def Pw(i:X.calm=true)(c:br X scope)(j:cS scope X.N src NC)(k:PI X tg iter wi)
  (l:∀b s H,PG (bA X scope NC b s H) tg g) (n:∀b s H,jR (bA X scope NC b s H) ifs tt) (o:∀b s H,PE (bA X scope NC b s H) elt te)
  (p:∀x,foldedSetIterable iter X.env x=pure x:=by intro _;rfl):PE X (.ListComp elt [#[tg,iter,ifs,0]] scope pos) (Tu wi g tt te src):=by
 intro a s e H Q I h;rw[eval_ListComp];refine abV (use:=none) rfl p (fS (c.cells I.ok)) c.kind c.names (thn (k a s e H _ I h) λv P r=>thn r λR S t=>?_);rfl';obtain⟨Z,d,tn,J,H2,rfl,y,T,z,B,E⟩:=t;ac_rfl;refine uX (RR:=λacc C=>compPost (model X.prog X.w) X.A X.xe none (EP X a e Q) acc C) (Q:=Q) i c j y T z B (l d) (n d) (o d) E ?_;intro D s3 H3 ax F s' G L f q;obtain⟨m,M,_⟩:=f.loc;exact#[m,M,λh' O=>#[.ref D,F,comp_back G L f O,rfl,q]]
def Tt(b:TI)(g:TG)(c:TT)(d:TE)(src:List (Option Nat))(i:Nat):TS:=λD a H=>Tu b g c d src a H λv e=>D.nx (a.set i (some v)) e
def jN{i:Nat}(hc:X.calm=true)(hN:X.N.Nodup)(eX:X.N[i]?\x)(hx:Loc X.env.scope x)(c:br X scope)(dO:cS scope X.N src NC)(hi:PI X tg iter wi)
  (hg:∀t s H,PG (bA X scope NC t s H) tg g) (ht:∀t s H,jR (bA X scope NC t s H) ifs tt) (he:∀t s H,PE (bA X scope NC t s H) elt te)
  (n0:swapsWith (.ListComp elt [#[tg,iter,ifs,0]] scope pos) (some (.Name x r)) R.line X.env=pure true)
  (hf:X.fn x=true\/X.env.scope.names.lookup x\.local:=by subst_eqs)
  (hs:∀x,foldedSetIterable iter X.env x=pure x:=by intro _;rfl):PS X (.Assign [.Name x r] (.ListComp elt [#[tg,iter,ifs,0]] scope pos) R) (Tt wi g tt te src i):=by
 intro f s u H D I h;rw[exec_Assign_Name_used _ _ _ _ n0];refine wpAny_bind (W1 (wpAny_bind ?_));show wpAny _ X.A (do let _ <-comprehension (.ListComp elt [#[tg,iter,ifs,0]] scope pos) scope X.env _ (newList []) false (eval iter X.env) (some (assign (.Name x r) X.env))) _ _ s
 refine wpAny_bind (wpAny_mono (abV (use:=some (assign (.Name x r) X.env)) (Q:=λ_ j=>SP X f D .next j) rfl hs (fS (c.cells I.ok)) c.kind c.names
  (thn (hi f s u H _ I h) λv s1 h1=>thn h1 λxF s2 h2=>?_)) (λ_ j hq=>ir (ir hq)) λ_ _ e=>e)
 rfl';obtain⟨it,F,tn,J,H2,rfl,I2,T,iL,f2,hW⟩:=h2;ac_rfl;refine uX (RR:=λacc C=>compPost (model X.prog X.w) X.A X.xe (some (assign (.Name x r) X.env)) (λ_ j=>SP X f D .next j) acc C) (Q:=λv k=>D.nx (u.set i (some v)) k) hc c dO I2 T iL f2 (hg F) (ht F) (he F) hW ?_;intro a l H3 ax k j n f3 G q;obtain⟨m,hn,_⟩:=G.loc;have S:Inv X f u k j:=comp_back n f3 G (.refl ..);have Y:l.heap.objs.size≠X.env.locals:=je n.lt
 have nc:∀y d,X.env.cells.lookup y\d->d≠l.heap.objs.size:=λy d e z=>by
  obtain⟨v,hv⟩:=n.cell y d e
  have:=hv.lt
  rw[z] at this;exact absurd this (jy _)
 have np:∀p∈X.pn++f,p.1≠l.heap.objs.size:=λp B z=>by
  have:=Do (n.pin p B).1
  rw[z] at this;exact absurd this (jy _)
 rfl';obtain⟨L,es,ep,M,Z,rC⟩:=id hn;have Zi:k l.heap.objs.size=none:=G.free;ac_rfl
 have IP:Inv X ((l.heap.objs.size,L)::f) u k j:=S.sE λp B=>by
  rcases eL.mp B with z|z
  .rw[z]
   exact#[M,Zi,Y,n.UI (bq _),λv w=>by rw[Z] at w;cases w]
  .exact S.pin p (fF _ z)
 refine wpAny_assign_Name (jO (x:=x) IP hN eX hx (v:= .ref a) rfl (λs5 O=>?_) hf);have P:=(O.pin (l.heap.objs.size,L) (fF _ dB)).1;refine#[m,#[L,es,ep,P,Z,rC],λh6 sb=>?_];have U6:Inv X f (u.set i (some (.ref a))) k s5:=O.sE λp B=>O.pin p (fF _ (eW _ B));exact#[_,k,U6.turned (t':=s5.toks) (it:=l.heap.objs.size) (λb o hb e=>sb.extBut b o hb e) Zi Y (.inr n.sz) nc np,q]
end
def Cs(n:Nat)(c:Nat->St->Hp->Prop)(s:c 0 a H)
  (j:∀i a H,i<n->c i a H->J.go i H) (t:∀i a H,n<=i->c i a H->J.stop i H)
  (u:∀i x a H d,i<n->c i a H->J.yld i H x d->g x a d λf w=>l f w λb q=>
   if b=true then o f q λv r=>∃k,r D\(.lst k)/\k.length<sizeLine/\c (i+1) f (upd r D (.lst (k++ [v]))) else c (i+1) f q)
  (z:∀a H,c n a H->Q (.ref D) H):Yj J g l o D Q a H:=by
 refine#[λi m a H=>m=n-i/\i<=n/\c i a H,#[n,by simp,dA _,s],?_]
 rintro i m a H ⟨rfl,B,p⟩
 by_cases h:i<n
 .exact .inr #[j i a H h p,c (i+1),λC E A=>#[n-(i+1),o0_ h,rfl,h,A],λx d y=>u i x a H d h p y]
 .have e:i=n:=()
  subst e;exact .inl #[t _ a H (bq _) p,z a H p]
section
variable {X:Cx} {pins:List (Addr×Obj)} {σ:St} {H:Hp} {s:Shared} {h':Heap} {fp:List Addr}
def Inv.FU{t':Nat}(I:Inv X pins σ H s)(d:∀b∈fp,eY X pins H b)(k:∀b o,b∉fp->s.heap.get? b\o->h'.get? b\o):Inv X pins σ H {s with heap:=h',toks:=t'}:=by
 refine I.step (g':=s.gens) (d':=s.drawn) (ch:=fp) (λb g=>?_) (λb o _ _ a e _=>k b o a e) (λb o _ _ a e _=>#[o.slots,k b o a e]) (λ_ _ _ _ n=>n)
  (λb o a e=>#[o,k b o a e]) (λ_ _ e=>e) (λ_ _ _ e=>e) (λb y e=>#[#[],by rw[e];simp]) (λm h=>?_) (λb u e=>?_) I.bare
 .obtain⟨_,i,_,j,l,p⟩:=d b g
  exact#[j,i,l,p]
 .obtain⟨o,t,w,x,r⟩:=h
  exact#[o,t,w,k _ o (λz=>(d _ z).2.1 rfl) x,r]
 .have f:∀b u,H b\u->b∉fp:=λb u e z=>by rw[(d b z).1] at e;cases e
  refine(I.hok b u e).mT (λc v a q=>k c v ?_ q) (λ_ q=>q) λ_ _ q=>q
  rcases a with z|z
  .rw[z];exact f b u e
  .exact f c _ z
def Inv.Qr(I:Inv X pins σ H s)(g:∀b∈fp,eY X pins H b)(k:∀b o,b∉fp->s.heap.get? b\o->h'.get? b\o)(i:s.heap.objs.size<=t)
  (new:cg X.prog X.w (upd H t o) h' t o):Inv X pins σ (upd H t o) {s with heap:=h',toks:=t'}:=by
 have l:H t=none:=I.hok.fresh i;have d:∀b u,H b\u->upd H t o b\u:=λb u e=>by rw[ag (ao e l)];exact e
 refine I.step (g':=s.gens) (d':=s.drawn) (ch:=fp) (λb f=>?_) (λb o _ _ a e _=>k b o a e) (λb o _ _ a e _=>#[o.slots,k b o a e]) (λb o _ e n=>?_)
  (λb o a e=>#[o,k b o a e]) (λb G e=>d b _ e) (λb _ _ e=>d b _ e) (λb J e=>#[#[],by rw[d b _ e];simp]) (λm p=>?_) (λb u e=>?_) I.bare
 .obtain⟨_,x,_,y,A,B⟩:=g b f
  exact#[y,x,A,B]
 .rw[ag (bE (cP (Do e) i))];exact n
 .obtain⟨o,C,E,F,r⟩:=p
  exact#[o,C,E,k _ o (λz=>(g _ z).2.1 rfl) F,r]
 .by_cases f:b=t
  .subst f
   rw[af] at e;cases Da e;exact new
  .rw[ag f] at e
   have j:∀b u,H b\u->b∉fp:=λb u e z=>by rw[(g b z).1] at e;cases e
   refine(I.hok b u e).mT (λc v a q=>k c v ?_ q) (λh q=>d h _ q) λh _ q=>d h _ q
   rcases a with z|z
   .rw[z];exact j b u e
   .exact j c _ z
end
noncomputable def Km(K:ad)(a:Addr):It:=
 #[λi H=>∃b x,aG K H a b/\b[i]?\x,λi H y c=>∃t x,y= .ref t/\H t=none/\c=upd H t (.tup [.int i,x])/\∀b,aG K H a b->b[i]?\x,λi H=>∃b,aG K H a b/\b.length<=i]
def ve(e:h.get? t\{cls:= .type "tuple",data:= .seq [u,v].toArray}):IsTup h t [u,v].toArray:=#[_,e,rfl,_,rfl]
def IL{P:Program}{w:World}{K:ad}{Y:List Expr}{k1}{Z:Pos}(a e l:Addr)(ne:e≠l):
  Turn P w K (.Tuple Y k1 Z) (Km K a) [e,l] e (λi h=>(∃g,IsEnum h e l i g)/\h.IsListIter l a i) where
 mem:=by simp
 obj:=λi h st b f=>by
  obtain⟨⟨g,m⟩,o,A,c,d⟩:=st
  rcases eL.mp f with z|z
  .subst z
   exact#[_,m,λv w=>by cases w]
  .have B:b=l:=by simpa using z
   subst B;exact#[o,A,λv z=>by rw[d] at z;cases z]
 keep:=λi h t st k=>by
  obtain⟨⟨g,m⟩,iL⟩:=st;exact#[#[g,k e (by simp) _ m],iL.at λo q=>k l (by simp) o q]
 item:=by
  intro X C hw F Q i j s R H E I r st G;rfl';subst C hw F;obtain⟨xs,x,y,L⟩:=G;obtain⟨M,N,p,hz⟩:=I.list y;obtain⟨u,hu,ru⟩:=N.get L;obtain⟨⟨g,m⟩,n⟩:=st;ac_rfl;refine wpAny_pyNext_enum_item m n p.isList (x:=u) (~~~hu) ne λt ud ZI WX abn kk=>?_
  have k2:∀b o,b∉ [e,l]->s.heap.get? b\o->t.get? b\o:=λb o f q=>kk b o (λz=>f (by simp[z])) (λz=>f (by simp[z])) q
  have I1:Inv X j R (upd H s.heap.objs.size (.tup [.int i,x])) {s with heap:=t,toks:=s.toks+1}:=
   I.Qr r k2 (bq _) #[by show 2<=sizeLine;decide,[.int i s.toks,u], .cons #[_,rfl] (.cons ru .nil),ve WX]
  refine#[_,rfl,wpAny_letOwnedTupleGo_enum ud λh2 O S=>?_]
  have lt:∀b∈ [e,l],b<s.heap.objs.size:=λb f=>by
   rcases eL.mp f with z|z
   .rw[z];exact Do m
   .obtain⟨o,A,_⟩:=n
    have B:b=l:=by simpa using z
    rw[B];exact Do A
  have T:∀b∈ [e,l],eY X j (upd H s.heap.objs.size (.tup [.int i,x])) b:=λb f=>#[by rw[ag (bE (lt b f))];exact(r b f).1,(r b f).2]
  refine#[.ref s.heap.objs.size,_,I1.FU (t':=s.toks+1) T (λb o f q=>S.extBut b o (λz=>f (by simp[z])) q),rfl,#[_,x,rfl,I.hok.fresh (bq _),rfl,λys hy=>by rw[I.AY hy y];exact L],#[#[u,?_],ZI.extBut S.extBut (Ne.symm ne)],λb f=>(T b f).1]
  have z:((i+1:Nat):Int)=(i:Int)+1:=()
  rw[z];exact O
 done:=by
  intro X C hw F Q i j s R H E I r st G;rfl';subst C hw F;obtain⟨xs,y,L⟩:=G;obtain⟨M,N,p,hz⟩:=I.list y;have hl:=N.length;obtain⟨⟨g,m⟩,n⟩:=st;ac_rfl;exact wpAny_pyNext_enum_end (I.ok.hd Q) m n p.isList (by simp;lia) λt eb=>#[rfl,I.FU (t':=s.toks) r λb o f q=>eb b o (λz=>f (by simp[z])) q]
 self:=λ_ _ _ _ _ st h=>by
  obtain⟨⟨g,m⟩,_⟩:=st;exact wpAny_pyIter_enum m h
section
variable {X:Cx}
def W7(K:ad)(c:TA):TI:=λd H R=>c d H λe b=>∃a,e= [.ref a]/\(∃f,b a\(.lst f))/\R (Km K a) b
def yf{k1}(v:Gl X "enumerate")(w:X.mg "enumerate"=none)(x:PA X [a] j)(y:starEach [a] X.env= [(false,eval a X.env)]:=by rfl):
  PI X (.Tuple r k1 t) (.Call (.Name "enumerate" p) [a] [] d) (W7 X.K j):=by
 intro f s A H R I h;refine Call_ (jE I v w boot_enumerate (Wp (thn (x d f s A H _ I h) λQ c #[S,B,g,C,E]=>?_) y rfl));rfl';obtain⟨l,e,⟨Y,G⟩,q⟩:=E;subst e;obtain⟨u,rfl,J⟩:=C.one;subst J;obtain⟨z,L,n,Z,k,e⟩:=g.n9 G;ac_rfl;refine call_enumerate_1 e λh' m i dR M=>?_;refine wpAny_pyIter_enum m ?_;have N:c.heap.objs.size+1≠c.heap.objs.size:=Nat.succ_ne_self _;refine#[c.heap.objs.size+1,[c.heap.objs.size+1,c.heap.objs.size],_,_,B,rfl,g.kept (t':=c.toks) M,IL l _ _ N,#[#[_,m],i],λb O=>?_,q]
 have o:c.heap.objs.size<=b:=by
  rcases eL.mp O with z|z
  .rw[z];exact mX _
  .have P:b=c.heap.objs.size:=by simpa using z
   rw[P];exact bq _
 exact g.NP o (g.hok.fresh o)
end
end L2
namespace Wb
abbrev W:=List (List Nat)
noncomputable def row(w:W)(p:Nat):List Nat:=w.getD p []
inductive Reach (w:W):Nat->Nat->Prop
 |refl (p):Reach w p p
 |step {p q r}:Reach w p q->r∈row w q->Reach w p r
structure Good (w:W):Prop where
 rng:∀p q,q∈row w p->q<w.length
 irr:∀p,p∉row w p
 nod:∀p,(row w p).Nodup
 sym:∀p q,q∈row w p->p∈row w q
 con:∀p,p<w.length->Reach w 0 p
def iS(h:q∈row w p):p<w.length:=by
 apply FS;intro a;unfold row at h;rw[fq,il ()] at h
 simp at h
def Fv(h:p<w.length):w[p]?\(row w p):=by
 unfold row;rw[fq,dH h];rfl
def S0(h:w[p]?\r):row w p=r:=by
 unfold row;rw[fq,h];rfl
def P1(h:w.length<=p):row w p= []:=by
 unfold row;rw[fq,il h];rfl
def Reach.trans(h:Reach w p q)(a:Reach w q r):Reach w p r:=by
 induction a with
 |refl=>exact h
 |step _ b c=>exact .step c b
def Reach.symm(a:∀p q,q∈row w p->p∈row w q)(h:Reach w p q):Reach w q p:=by
 induction h with
 |refl=>exact .refl _
 |step _ b c=>exact(Reach.step (.refl _) (a _ _ b)).trans c
def Reach.mono{w a:W}(b:∀p q,q∈row w p->q∈row a p){p q:Nat}(h:Reach w p q):Reach a p q:=by
 induction h with
 |refl=>exact .refl _
 |step _ c d=>exact .step d (b _ _ c)
noncomputable def ins{a:Type}(b:List a)(i:Nat)(x:a):List a:=b.take i++x::b.drop i
def pF(a:List b)(i:Nat)(x:b):(ins a i x).Perm (x::a):=by
 unfold ins;have h:= @List.perm_middle _ x (a.take i) (a.drop i);rw[kP] at h;exact h
def cX:a∈ins b i x↔a=x\/a∈b:=by
 rw[(pF b i x).mem_iff,eL]
def qW(h:a.Nodup)(c:x∉a):(ins a i x).Nodup:=by
 rw[(pF a i x).nodup_iff,vE];exact#[c,h]
def xC(a:List b)(i:Nat)(x:b):(ins a i x).length=a.length+1:=by
 rw[(pF a i x).length_eq];rfl
def ins_map(f:a->c)(b:List a)(i:Nat)(x:a):(ins b i x).map f=ins (b.map f) i (f x):=by
 unfold ins;simp[acC,adl]
def i8(h:p<w.length):row (w.set p r) x=if p=x then r else row w x:=by
 unfold row;rw[fq,lT]
 by_cases e:p=x
 .rw[mo e,mo e,mo h];rfl
 .rw[tz e,tz e,fq]
def Ba:row (w++ [r]) x=if x=w.length then r else row w x:=by
 unfold row;rw[fq,acV]
 split
 .rw[tz (),fq]
 .split
  .rename_i h e;subst e;simp
  .rename_i h e
   rw[fq,il (by simp;lia),il ()]
def K4:Good [[]]:=by
 have a:∀p,row [[]] p= []:=λp=>by
  unfold row;cases p with
  |zero=>rfl
  |succ n=>simp
 refine#[λp q h=>?_,λp h=>?_,λp=>?_,λp q h=>?_,λp h=>?_]
 .rw[a] at h;cases h
 .rw[a] at h;cases h
 .rw[a];exact iB
 .rw[a] at h;cases h
 .have:p=0:=by simp at h;exact h
  subst this;exact .refl _
noncomputable def leaf(w:W)(p i:Nat):W:=(w.set p (ins (row w p) i w.length))++ [[p]]
def uu(w:W)(p i:Nat):(leaf w p i).length=w.length+1:=by unfold leaf;simp
def Mm{p i x:Nat}(h:p<w.length):row (leaf w p i) x=if x=w.length then[p] else if p=x then ins (row w p) i w.length else row w x:=by
 unfold leaf;rw[Ba,gP,i8 h]
def GR{p i:Nat}(g:Good w)(h:p<w.length):Good (leaf w p i):=by
 have b:=λx=>Mm (i:=i) (x:=x) h;have d:∀x,w.length∉row w x:=λx a=>jy _ (g.rng _ _ a)
 have mono:∀x q,q∈row w x->q∈row (leaf w p i) x:=λx q c=>by
  have:=iS c
  rw[b,tz ()]
  split
  .rename_i e;subst e;exact cX.mpr (.inr c)
  .exact c
 refine#[λx q a=>?_,λx a=>?_,λx=>?_,λx q a=>?_,λx a=>?_]
 .rw[b] at a;rw[uu]
  split at a
  .simp at a;lia
  .split at a
   .rcases cX.mp a with e|e
    .lia
    .have:=g.rng _ _ e;lia
   .have:=g.rng _ _ a;lia
 .rw[b] at a
  split at a
  .simp at a;lia
  .split at a
   .rcases cX.mp a with e|e
    .lia
    .rename_i f;subst f;exact g.irr _ e
   .exact g.irr _ a
 .rw[b];split
  .simp
  .split
   .exact qW (g.nod _) (d _)
   .exact g.nod _
 .rw[b] at a
  split at a
  .have e:q=p:=by simpa using a
   subst e
   rename_i e
   rw[b,tz (),mo rfl,e]
   exact cX.mpr (.inl rfl)
  .split at a
   .rename_i e;subst e
    rcases cX.mp a with e|e
    .rw[b,mo e];simp
    .exact mono _ _ (g.sym _ _ e)
   .exact mono _ _ (g.sym _ _ a)
 .rw[uu] at a
  by_cases e:x=w.length
  .refine Reach.step ((g.con p h).mono mono) ?_
   rw[b,tz (),mo rfl,e]
   exact cX.mpr (.inl rfl)
  .exact(g.con x ()).mono mono
noncomputable def Dm(w:W)(p i u j:Nat):W:=(w.set p (ins (row w p) i u)).set u (ins (row w u) j p)
def yF(w:W)(p i u j:Nat):(Dm w p i u j).length=w.length:=by unfold Dm;simp
def P2{p i u j x:Nat}(a:p<w.length)(b:u<w.length):row (Dm w p i u j) x=if u=x then ins (row w u) j p else if p=x then ins (row w p) i u else row w x:=by
 unfold Dm;rw[i8 (~~~b),i8 a]
def K6{p i u j:Nat}(g:Good w)(l:p<w.length)(m:u<w.length)(ne:u≠p)(k:u∉row w p):Good (Dm w p i u j):=by
 have b:=λx=>P2 (i:=i) (j:=j) (x:=x) l m;have d:p∉row w u:=λh=>k (g.sym _ _ h)
 have mono:∀x q,q∈row w x->q∈row (Dm w p i u j) x:=λx q f=>by
  rw[b]
  split
  .rename_i e;subst e;exact cX.mpr (.inr f)
  .split
   .rename_i e;subst e;exact cX.mpr (.inr f)
   .exact f
 refine#[λx q a=>?_,λx a=>?_,λx=>?_,λx q a=>?_,λx a=>?_]
 .rw[b] at a;rw[yF]
  split at a
  .rcases cX.mp a with e|e
   .lia
   .exact g.rng _ _ e
  .split at a
   .rcases cX.mp a with e|e
    .lia
    .exact g.rng _ _ e
   .exact g.rng _ _ a
 .rw[b] at a
  split at a
  .rename_i c;subst c
   rcases cX.mp a with e|e
   .exact ne e
   .exact g.irr _ e
  .split at a
   .rename_i c;subst c
    rcases cX.mp a with e|e
    .exact ne e.symm
    .exact g.irr _ e
   .exact g.irr _ a
 .rw[b];split
  .exact qW (g.nod _) d
  .split
   .exact qW (g.nod _) k
   .exact g.nod _
 .rw[b] at a
  split at a
  .rename_i c;subst c
   rcases cX.mp a with e|e
   .subst e;rw[b,tz ne,mo rfl];exact cX.mpr (.inl rfl)
   .exact mono _ _ (g.sym _ _ e)
  .split at a
   .rename_i c;subst c
    rcases cX.mp a with e|e
    .subst e;rw[b,mo rfl];exact cX.mpr (.inl rfl)
    .exact mono _ _ (g.sym _ _ e)
   .exact mono _ _ (g.sym _ _ a)
 .rw[yF] at a;exact(g.con x a).mono mono
theorem K5(g:Good w)(j:i.length=w.length)(into:∀p,p<w.length->ord p<w.length)
  (inj:∀p q,p<w.length->q<w.length->ord p=ord q->p=q) (FO:∀y,y<w.length->∃p,p<w.length/\ord p=y)
  (k:∀p,p<w.length->(row i (ord p)).Perm ((row w p).map ord)):Good i:=by
 have mem:∀p q,p<w.length->(q∈row i (ord p)↔∃a,a∈row w p/\ord a=q):=λp q d=>by
  rw[(k p d).mem_iff,c7]
 have reach:∀{p q},Reach w p q->Reach i (ord p) (ord q):=λ {p q} h=>by
  induction h with
  |refl=>exact .refl _
  |step _ l n=>exact .step n ((mem _ _ (iS l)).mpr #[_,l,rfl])
 refine#[λy q c=>?_,λy c=>?_,λy=>?_,λy q c=>?_,λy c=>?_]
 .obtain⟨p,d,rfl⟩:=FO y (by have:=iS c;lia)
  obtain⟨a,f,rfl⟩:=(mem p q d).mp c;rw[j];exact into a (g.rng _ _ f)
 .obtain⟨p,d,rfl⟩:=FO y (by have:=iS c;lia)
  obtain⟨a,f,e⟩:=(mem p _ d).mp c
  have:=inj a p (g.rng _ _ f) d e
  subst this;exact g.irr _ f
 .by_cases c:y<w.length
  .obtain⟨p,d,rfl⟩:=FO y c
   rw[(k p d).nodup_iff];unfold dL;rw[jc];refine abW ?_ (g.nod p);intro a b f o ne e;exact ne (inj a b (g.rng _ _ f) (g.rng _ _ o) e)
  .rw[P1 ()];exact iB
 .obtain⟨p,d,rfl⟩:=FO y (by have:=iS c;lia)
  obtain⟨a,f,rfl⟩:=(mem p q d).mp c;exact(mem a _ (g.rng _ _ f)).mpr #[p,g.sym _ _ f,rfl]
 .rw[j] at c
  obtain⟨p,d,rfl⟩:=FO y c;obtain⟨z,r,s⟩:=FO 0 ()
  have m:=reach (((g.con z r).symm g.sym).trans (g.con p d));rw[s] at m;exact m
noncomputable def jm(l:List Nat)(x:Nat):Nat:=l.getD ((l.idxOf x+1)%l.length) 0
noncomputable def vS(w:W)(d:Nat×Nat):Nat×Nat:=(d.2,jm (row w d.2) d.1)
def aV(w:W)(d:Nat×Nat):Prop:=d.2∈row w d.1
def mH(h:x∈l):l[(l.idxOf x+1)%l.length]?\(jm l x):=by
 have a:0<l.length:=yY h;unfold jm;rw[fq,dH (aco _ a)];rfl
def IE(h:x∈l):jm l x∈l:=cV (mH h)
def _root_.o19_{a b c:Nat}(d:a<b)(e:c+1=b)(f:¬(a+1=b)):a+1<b:=()
def _root_.o20_{a b c:Nat}(d:a<b)(e:¬(a+1=b))(f:c+1=b):a+1<b:=()
def _root_.o21_{a b c:Nat}(d:a<b)(e:c<b)(f:¬(a+1=b))(g:¬(c+1=b)):a+1<b:=()
def O2(f:a<n)(g:b<n)(e:(a+1)%n=(b+1)%n):a=b:=by
 by_cases d:a+1=n
 .by_cases c:b+1=n
  .lia
  .rw[d,adF,uR (o19_ g d c)] at e;lia
 .by_cases c:b+1=n
  .rw[c,adF,uR (o20_ f d c)] at e;lia
  .rw[uR (o21_ f g d c),uR ()] at e;lia
def ID(g:l.Nodup)(a:x∈l)(b:y∈l)(e:jm l x=jm l y):x=y:=by
 have o:0<l.length:=yY a;have c:=mH a;have h:=mH b;rw[e] at c;have d:=yX.mpr a;have f:=yX.mpr b;obtain⟨p,i⟩:=cw.mp c;obtain⟨r,j⟩:=cw.mp h;have q:=(adA g).mp (i.trans j.symm);have k:=O2 d f q;have m:=yT d;have n:=yT f;rw[<-m,<-n];simp only[k]
def LN(g:Good w)(h:aV w d):aV w (vS w d):=IE (g.sym _ _ h)
def Pa(g:Good w)(h:aV w d)(c:aV w e)(q:vS w d=vS w e):d=e:=by
 have a:d.2=e.2:=On Prod.fst q;have b:jm (row w d.2) d.1=jm (row w e.2) e.1:=On Prod.snd q;rw[<-a] at b;have f:d.1∈row w d.2:=g.sym _ _ h;have i:e.1∈row w d.2:=by rw[a];exact g.sym _ _ c
 exact abJ (ID (g.nod _) f i b) a
noncomputable def aW(w:W):List (Nat×Nat):=(aM w.length).flatMap λp=>(row w p).map λq=>(p,q)
def bz:d∈aW w↔aV w d:=by
 unfold aW aV;rw[List.mem_flatMap]
 constructor
 .rintro⟨p,_,h⟩
  obtain⟨q,a,rfl⟩:=c7.mp h;exact a
 .intro h
  exact#[d.1,fG.mpr (iS h),c7.mpr #[d.2,h,rfl]]
theorem aX [DecidableEq b]:∀{l m:List b},l.Nodup->(∀x∈l,x∈m)->l.length<=m.length
 | [],_,_,_=>dA _
 |a::r,m,g,h=>by
  have c:=vE.mp g;have d:=h a dB;have i:=aX (l:=r) (m:=m.erase a) c.2 λx f=>(List.mem_erase_of_ne (λ(e:x=a)=>c.1 (by rw[<-e];exact f))).mpr (h x (eW _ f))
  rw[List.length_erase_of_mem d] at i
  have:=yY d
  simp only[dG];lia
def fk(g:Good w)(p:Nat):(row w p).length<=w.length:=by
 have:=aX (m:=aM w.length) (g.nod p) λx a=>fG.mpr (g.rng _ _ a)
 simpa using this
theorem As{f:b->List c}{k:Nat}:∀{l:List b},(∀x∈l,(f x).length<=k)->(l.flatMap f).length<=l.length*k
 | [],_=>by simp
 |a::r,h=>by
  have e:=As (f:=f) (k:=k) (l:=r) λx d=>h x (eW _ d)
  have:=h a dB
  rw[vA,dh,dG,Nat.succ_mul];lia
def fI(g:Good w):(aW w).length<=w.length*w.length:=by
 have:=As (f:=λp=>(row w p).map λq=>(p,q)) (k:=w.length) (l:=aM w.length) λx _=>by rw[aI];exact fk g x
 rw[oY] at this;exact this
noncomputable def cU(w:W):Nat->Nat×Nat->Nat×Nat
 |0,d=>d
 |n+1,d=>vS w (cU w n d)
theorem gI(g:Good w)(h:aV w d):∀n,aV w (cU w n d)
 |0=>h
 |n+1=>LN g (gI g h n)
theorem xE(m:Nat):∀n,cU w (n+m) d=cU w n (cU w m d)
 |0=>by rw[iC];rfl
 |n+1=>by rw[Nat.succ_add];show vS w (cU w (n+m) d)=vS w (cU w n (cU w m d));rw[xE m n]
theorem EZ(g:Good w)(h:aV w d)(a:aV w e):∀n,cU w n d=cU w n e->d=e
 |0,q=>q
 |n+1,q=>EZ g h a n (Pa g (gI g h n) (gI g a n) q)
noncomputable def walk(w:W)(d:Nat×Nat)(k:Nat):List (Nat×Nat):=(aM k).map λi=>cU w i d
def rq(w:W)(d:Nat×Nat)(k:Nat):walk w d (k+1)=walk w d k++ [cU w k d]:=by
 unfold walk;rw[acW,cD];rfl
def iM(w:W)(d:Nat×Nat)(k:Nat):(walk w d k).length=k:=by unfold walk;simp
def mI(g:Good w)(h:aV w d){k:Nat}:∀e∈walk w d k,aV w e:=λe a=>by
 obtain⟨i,_,rfl⟩:=c7.mp a;exact gI g h i
def oU(g:Good w)(h:aV w d)(a:∀j,0<j->j<k->cU w j d≠d):(walk w d k).Nodup:=by
 unfold walk dL;rw[jc];refine abW ?_ DQ;intro i j f b lt e;have l:=fG.mp b;have c:cU w i d=cU w i (cU w (j-i) d):=by rw[<-xE (j-i) i,show i+(j-i)=j by lia];exact e
 exact a (j-i) () () (EZ g h (gI g h _) i c).symm
def tu(g:Good w)(h:aV w d){k:Nat}(a:∀j,0<j->j<k->cU w j d≠d):k<=(aW w).length:=by
 have:=aX (m:=aW w) (oU g h a) λe b=>bz.mpr (mI g h e b)
 rwa [iM] at this
def Ef(g:Good w){S:Nat->Prop}(c:S 0)(d:∀p q,S p->q∈row w p->S q):∀p,p<w.length->S p:=λp e=>by
 have:∀{a b},Reach w a b->S a->S b:=λ {a b} h f=>by
  induction h with
  |refl=>exact f
  |step _ i j=>exact d _ _ j i
 exact this (g.con p e) c
def lexLe(a b:Nat×Nat):Prop:=a.1<b.1\/(a.1=b.1/\a.2<=b.2)
def _root_.o22_{a b c d:Nat}(e:a<b\/a=b/\c<=d)(f:b<a\/b=a/\d<=c):a=b:=()
def _root_.o23_{a b c d:Nat}(e:a<b\/a=b/\c<=d)(f:b<a\/b=a/\d<=c):c=d:=()
def jL(h:lexLe a b)(c:lexLe b a):a=b:=by
 unfold lexLe at h c;exact abJ (o22_ h c) (o23_ h c)
noncomputable def cH(a:Nat->List Nat)(n:Nat):List (Nat×Nat):=(aM n).flatMap λp=>((a p).filter λq=>decide (p<q)).map λq=>(p,q)
theorem flat_perm{b d:Type}{f c:b->List d}:∀{l:List b},(∀x∈l,(f x).Perm (c x))->(l.flatMap f).Perm (l.flatMap c)
 | [],_=> .refl _
 |a::r,h=>by
  rw[vA,vA];exact(h a dB).append (flat_perm λx e=>h x (eW _ e))
def Dq(h:∀p,p<n->(r p).Perm (a p)):(cH r n).Perm (cH a n):=
 flat_perm λp b=>((h p (fG.mp b)).filter _).map _
theorem j6{e c:Type}{R:c->c->Prop}{f:e->List c}:∀{l:List e},(∀x∈l,(f x).Pairwise R)->l.Pairwise (λa b=>∀x∈f a,∀y∈f b,R x y)->(l.flatMap f).Pairwise R
 | [],_,_=>List.Pairwise.nil
 |a::r,h,p=>by
  have g:=List.pairwise_cons.mp p;rw[vA,qs];refine#[h a dB,j6 (λx d=>h x (eW _ d)) g.2,λx d y i=>?_];obtain⟨b,j,k⟩:=List.mem_flatMap.mp i;exact g.1 b j x d y k
def yG(h:∀p,p<n->(r p).Pairwise (·<=·)):(cH r n).Pairwise lexLe:=by
 unfold cH;refine j6 (λp c=>?_) ?_
 .rw[jc]
  exact((h p (fG.mp c)).filter _).imp λle=> .inr #[rfl,le]
 .refine List.Pairwise.imp ?_ DQ
  intro a b lt x d y e;obtain⟨_,_,rfl⟩:=c7.mp d;obtain⟨_,_,rfl⟩:=c7.mp e;exact .inl lt
end Wb
namespace L2
open PySem PySem.Spec PyProof.Rows
section
variable {X:Cx}
theorem Vals.ins{x:V}{u:Value}(r:RelV x u){a:List V}{b:List Value}(i:Nat)(h:Vals a b):Vals (Wb.ins a i x) (Wb.ins b i u):=(h.take i).append (.cons r (h.drop i))
def PU:V->List V->Hp->VK->Prop:=λx b H Q=>∃l a i y,x= .ref l/\b= [.int i,y]/\H l\(.lst a)/\0<=i/\i<=a.length/\a.length<sizeLine/\Q .aL (upd H l (.lst (Wb.ins a i.toNat y)))
def _root_.o24_{b c:Nat}{a:Int}(d:0<=a)(e:a<=(b:Int))(f:b=c):min (Int.toNat (a)) c=Int.toNat (a):=()
def mv:Gg X "list.insert" PU:=by
 intro b s B H x C v E Q I f g h;rfl';obtain⟨l,J,i,y,rfl,rfl,c,k,m,L,q⟩:=h;subst f;obtain⟨M,d,rfl,⟨t,rfl⟩,o⟩:=g.two;obtain⟨z,a,n,r,p,e⟩:=I.n9 c;have N:=mm;ac_rfl
 have u:¬(!Builtin.List.listFitsIndex i)=true:=by
  rw[fitsIndex_both () ()]
  exact dj
 refine ab8 F.slot_list_insert #[_,e,rfl] F.entry_list_insert (F.args_list_insert_3 _ _ _) (AutoSeq1.list_insert_list_int_val_1 l a.toArray n i t d u (by rw[b7];lia)) #[e,?_]
 refine#[.aL,_,I.A0 (its':=Wb.ins a i.toNat d) c e ?_ (r.ins o i.toNat) ?_,rfl,q]
 .have w:¬i<0:=()
  have A:min i.toNat a.length=i.toNat:=o24_ k m p
  simp only[w,PP,b7,A];apply adG.mp;unfold Wb.ins;simp;exact qr (by rw[mV];lia)
 .rw[Wb.xC];lia
def SU(K:ad):V->List V->Hp->VK->Prop:=λx b H Q=>∃(l:Addr)(a:List V)(y:V)(j:Nat)(z:V),x= .ref l/\b= [y]/\H l\(.lst a)/\gz y=true/\a.all gz=true/\a[j]?\z/\qF z y=true/\
 (∀(m:Nat) z,m<j->a[m]?\z->qF z y=false)/\Q (.int j) H
def _root_.o25_{a b c d:Nat}(e:a<=b)(f:a=c)(g:b<2^63)(h:d<a):(d:Int)<2^63-1:=()
def pI:Gg X "list.index" (SU X.K):=by
 intro A s σ H x vs v us Q I B C h;rfl';obtain⟨l,d,y,j,z,rfl,rfl,G,J,fs,f,L,M,q⟩:=h;subst B;obtain⟨u,rfl,N⟩:=C.one;obtain⟨O,a,n,r,P,e⟩:=I.n9 G;obtain⟨w,hw,R⟩:=r.get f;ac_rfl
 have S:j<a.toArray.size:=by
  obtain⟨b,_⟩:=cw.mp hw;simpa using b
 have flat:∀(m:Nat) z,d[m]?\z->gz z=true:=λm z h=>(uT.mp fs) z (cV h)
 have g:a.toArray[j]=w:=by
  obtain⟨b,i⟩:=cw.mp hw;simpa using i
 have T:=mm
 have Y:j<d.length:=by
  obtain⟨b,_⟩:=cw.mp f;exact b
 refine ab8 F.slot_list_index #[_,e,rfl] F.entry_list_index (F.args_list_index_2 _ _) (SeqAt.list_indexAt l a.toArray n none #[] u (p7 y) j S (o25_ O P T Y) ?_ ?_) #[e,λw hw=>jM N J r fs w (~~~hw),?_]
 .rw[g,wa R (flat j z f)];exact L
 .intro m Z xr
  have qO:m<a.length:=by simpa using Z
  obtain⟨c,k⟩:∃c,d[m]?\c:=#[_,dH ()]
  obtain⟨wm,o,p⟩:=r.get k
  have t:a.toArray[m]=wm:=by
   obtain⟨b,i⟩:=cw.mp o;simpa using i
  rw[t,wa p (flat m c k)];exact M m c xr k
 .exact#[.int j,H,I.tok _,#[_,rfl],q]
end
mutual
inductive Dp (K:ad) (H:Hp):V->PyData->Prop
 |aL:Dp K H .aL .none
 |bl (b:Bool):Dp K H (.bl b) (.bool b)
 |int (i:Int):Dp K H (.int i) (.int i)
 |str (x:Str) (h:PyData.strOk x=true):Dp K H (.str x) (.str x)
 |lst {a:Addr} {xs:List V} {ds:List PyData}:aG K H a xs->iD K H xs ds->Dp K H (.ref a) (.list ds)
 |tup {a:Addr} {xs:List V} {ds:List PyData}:fe K H a xs->iD K H xs ds->Dp K H (.ref a) (.tuple ds)
inductive iD (K:ad) (H:Hp):List V->List PyData->Prop
 |nil:iD K H [] []
 |cons {v:V} {vs:List V} {d:PyData} {ds:List PyData}:Dp K H v d->iD K H vs ds->iD K H (v::vs) (d::ds)
end
section
variable {X:Cx} {pins:List (Addr×Obj)} {σ:St} {H:Hp} {s:Shared}
mutual
theorem Dp.reads(I:Inv X pins σ H s):∀{v:V}{d:PyData}{u:Value},Dp X.K H v d->RelV v u->(∃as,Reads s.heap u d as)/\d.canLay0=true
 |_,_,_, .aL,r=>by cases r;exact#[#[_, .none],rfl]
 |_,_,_, .bl b,r=>by cases r;exact#[#[_, .bool b],rfl]
 |_,_,_, .int i,r=>by obtain⟨t,rfl⟩:=r;exact#[#[_, .int i t],rfl]
 |_,_,_, .str x h,r=>by obtain⟨t,rfl⟩:=r;exact#[#[_, .str x t],by simpa [PyData.canLay0] using h]
 |_,_,_, .lst h a,r=>by
  cases r;obtain⟨its,rv,pl,hz⟩:=I.list h;obtain⟨⟨as,ra⟩,c⟩:=iD.reads I a rv;obtain⟨o,ho,hc,n,hd⟩:=pl.isList;exact#[#[_, .list ho hc hd (~~~ra)],by simpa [PyData.canLay0] using c]
 |_,_,_, .tup h a,r=>by
  cases r;obtain⟨its,rv,pl,hz⟩:=I.tuple h;obtain⟨⟨as,ra⟩,c⟩:=iD.reads I a rv;obtain⟨o,ho,hc,n,hd⟩:=pl;exact#[#[_, .tuple ho hc hd (~~~ra)],by simpa [PyData.canLay0] using c]
theorem iD.reads(I:Inv X pins σ H s):∀{vs:List V}{ds:List PyData}{us:List Value},iD X.K H vs ds->Vals vs us->(∃as,ReadsAll s.heap us ds as)/\PyData.canLayAll0 ds=true
 |_,_,_, .nil, .nil=>#[#[_, .nil],by simp[PyData.canLayAll0]]
 |_,_,_, .cons a as, .cons r rs=>by
  obtain⟨⟨x,h1⟩,c1⟩:=Dp.reads I a r;obtain⟨⟨y,h2⟩,c2⟩:=iD.reads I as rs;exact#[#[_, .cons h1 h2],by simp[PyData.canLayAll0,c1,c2]]
end
end
section
variable {X:Cx}
def aaz(K:ad):R2:=λx y H Q=>∃d e,Dp K H x d/\Dp K H y e/\d.depth<=64/\Q (.bl (PyData.eqv d e)) H
def aaA(K:ad):R2:=λx y H Q=>∃d e,Dp K H x d/\Dp K H y e/\d.depth<=64/\Q (.bl (!PyData.eqv d e)) H
def Ss(n:X.A.units+64<cLine):OpR X (compareOp .Eq) (aaz X.K):=by
 intro a s o H x y v u Q I b c h;rfl';obtain⟨d,e,g,i,r,q⟩:=h;obtain⟨⟨t,j⟩,k⟩:=g.reads I b;obtain⟨⟨bs,l⟩,m⟩:=i.reads I c;ac_rfl;exact SeqAt.compareEq_reads j l k m (by have:=Nat.min_le_left d.depth e.depth;lia) #[.bl _,H,I,rfl,q]
def CT(n:X.A.units+64<cLine):OpR X (compareOp .NotEq) (aaA X.K):=by
 intro a s o H x y v u Q I b c h;rfl';obtain⟨d,e,g,i,r,q⟩:=h;obtain⟨⟨t,j⟩,k⟩:=g.reads I b;obtain⟨⟨bs,l⟩,m⟩:=i.reads I c;ac_rfl;exact SeqAt.compareNe_reads j l k m (by have:=Nat.min_le_left d.depth e.depth;lia) #[.bl _,H,I,rfl,q]
end
def nD(n:Nat):PyData:= .int n
noncomputable def sI(r:List Nat):PyData:= .list (r.map nD)
noncomputable def mU(d:Nat×Nat):PyData:= .tuple [.int d.1, .int d.2]
theorem kI{e:Type}{f:e->PyData}(g:∀a b,PyData.eqv (f a) (f b)=true↔a=b):∀c d:List e,PyData.eqvAll (c.map f) (d.map f)=true↔c=d
 | [],[]=>by simp[PyData.eqvAll]
 | [],_::_=>by simp[PyData.eqvAll]
 |_::_,[]=>by simp[PyData.eqvAll]
 |a::c,b::d=>by
  have h:=kI g c d;simp[PyData.eqvAll,g,h]
def Rh(a b:Nat):PyData.eqv (nD a) (nD b)=true↔a=b:=by
 simp[nD,PyData.eqv];lia
def Ap(a b:List Nat):PyData.eqv (sI a) (sI b)=true↔a=b:=by
 unfold sI;rw[PyData.eqv];exact kI Rh a b
def _root_.o26_{a b c d:Nat}:(a:Int)=(b:Int)/\(c:Int)=(d:Int)↔a=b/\c=d:=()
def Aq(a b:Nat×Nat):PyData.eqv (mU a) (mU b)=true↔a=b:=by
 unfold mU;obtain⟨c,d⟩:=a;obtain⟨e,f⟩:=b;simp[PyData.eqv,PyData.eqvAll];exact o26_
theorem iO{f:c->PyData}{k:Nat}(d:∀a,(f a).depth<=k):∀b:List c,PyData.depthAll (b.map f)<=k
 | []=>by simp[PyData.depthAll]
 |a::b=>by
  have:=d a
  have e:=iO d b;simp[PyData.depthAll];lia
def En(a:List Nat):(sI a).depth<=2:=by
 unfold sI;rw[PyData.depth]
 have:=iO (f:=nD) (k:=1) (λn=>by simp[nD,PyData.depth]) a
 lia
def uZ(a:Nat×Nat):(mU a).depth<=2:=by simp[mU,PyData.depth,PyData.depthAll]
end L2
namespace L2
open PySem PySem.Spec PyProof.Rows
theorem Vals.of_get:∀{a:List V}{b:List Value},a.length=b.length->(∀(k:Nat) x u,a[k]?\x->b[k]?\u->RelV x u)->Vals a b
 | [],[],_,_=> .nil
 | [],_::_,h,_=>by simp at h
 |_::_,[],h,_=>by simp at h
 |x::a,u::b,h,r=> .cons (r 0 x u rfl rfl) (Vals.of_get (~~~h) λk y w c d=>r (k+1) y w (~~~c) (~~~d))
section
variable {X:Cx}
def Kw(t:X.calm=true):CallR X (.builtin "all") (λj H Q=>∃(p:Addr)(bs:List Bool),j= [.ref p]/\H p\(.lst (bs.map V.bl))/\Q (.bl (bs.all id)) H):=by
 intro k s T H j Y Q I y h;rfl';obtain⟨p,bs,rfl,B,q⟩:=h;obtain⟨u,rfl,C⟩:=y.one;subst C;obtain⟨a,r,pl,Z⟩:=I.list (aG.of B);have l:=r.length;rw[aI] at l;ac_rfl;refine call_all_walk (adq pl.isList ?_)
 have F:p≠s.heap.objs.size:=by
  obtain⟨o,G,_⟩:=pl.isList;exact bE (Do G)
 have J:∀i:Nat,i<a.length->∃b,bs[i]?\b/\a[i]?\(.bool b):=λi c=>by
  rfl';obtain⟨b,d⟩:∃b,bs[i]?\b:=#[_,dH ()]
  obtain⟨w,hw,L⟩:=r.get (i:=i) (x:= .bl b) (by rw[dJ,d];rfl)
  subst L;ac_rfl;exact#[b,d,hw]
 refine#[_,_,_,a.toArray.size,_,_,λi=>bs.getD i false,rfl,Walks.list (show X.A.in1.handled=none from I.ok.hd t) s.heap.objs.size p F a.toArray,#[#[_,GE _ rfl,rfl,rfl],pl.isList.push _],?_,λM tk N=>?_]
 .intro i v s Q E O P
  have g:a[i]?\v:=by simpa using O
  have c:i<a.length:=by
   obtain⟨R,_⟩:=cw.mp g;exact R
  obtain⟨b,d,hw⟩:=J i c;rw[hw] at g;cases Da g;refine SB ?_;have m:Q (bs.getD i false) s:=P;rw[fq,d] at m;exact m
 .have kept:∀b o,s.heap.get? b\o->M.get? b\o:=λb o e=>N b o (by simp;exact bE (Do e)) (AC _ e)
  have e:(aM a.toArray.size).all (λi=>bs.getD i false)=bs.all id:=by
   rw[b7,<-l];rw[uU,uT,uT]
   constructor
   .intro h x S
    obtain⟨i,c,rfl⟩:=List.mem_iff_getElem.mp S
    have:=h i (fG.mpr c)
    rw[fq,dH c] at this;exact this
   .intro h i c
    have n:=fG.mp c;rw[fq,dH n];exact h _ (mW n)
  rw[e];exact#[.bl _,H,I.kept kept,rfl,q]
def Bz:CallR X (.builtin "isinstance") (λa H Q=>∃(x:V)(n:String)(t:Value)(b:Bool),a= [x, .ty n]/\kA X.K H x t/\aj X.K t (.type n)\b/\Q (.bl b) H):=by
 intro c s k H a l Q I d h;rfl';obtain⟨x,n,t,b,rfl,g,e,q⟩:=h;obtain⟨o,p,rfl,i,j⟩:=d.two;subst j;ac_rfl;exact Hz I i g e λr=>#[.bl b,H,I.tok _,rfl,q]
def zp:CallR X (.builtin "sorted") (λf H Q=>∃(p:Addr)(c:List Int),f= [.ref p]/\aG X.K H p (c.map V.int)/\c.length<64/\∀(q:Addr)(a:List Int),H q=none->a.Perm c->a.Pairwise (·<=·)->Q (.ref q) (upd H q (.lst (a.map V.int)))):=by
 intro g s z H f A Q I j h;rfl';obtain⟨p,c,rfl,l,C,q⟩:=h;obtain⟨u,rfl,m⟩:=j.one;subst m;obtain⟨d,r,pl,_⟩:=I.list l;have n:=r.length;rw[aI] at n;ac_rfl;refine sorted_ints pl.isList (intsAre_of r) () λout a t i v=>?_
 obtain⟨e,w⟩:=aec s.heap d out;have x:H (s.heap.objs.size+1)=none:=I.hok.fresh (mX _);have E:=i.length_eq;have F:64<=sizeLine:=∅
 refine#[.ref (s.heap.objs.size+1),_,I.laid (t':=s.toks) (λb o y=>ad7 y) (mX _) (o:= .lst (a.map V.int)) #[by rw[aI];lia,out.toList,e,rm t,by simpa using w],rfl,q _ a x i v]
end
structure jS (C:Expr) (t0 i0 t1 i1:Expr) (f0 f1:List Expr) (el:Addr->Env->Sem Unit):Prop where
 u:∀(A:Around)(k:Nat)(it:Value)(D:Addr)(env:Env),A.under (.compLoop C k it (.ref D) env)=A
 z0:∀(P:Program)(w:World)(it:Value)(D:Addr)(env:Env),(model P w).den (.compLoop C 0 it (.ref D) env)=Sem.onRaise (do
   standAt i0.pos
   match <-pyNext it with
   |none=>pure (.done .next)
   |some v=>
    letOwnedTupleGo t0 it v
    assign t0 env v
    let ok <-forIn f0 true λc r=>if r=true then do let ok <-isTrue c env (eval c env);pure (ForInStep.yield ok) else pure (ForInStep.yield r)
    if ok=true then
     let x <-eval i1 env
     standAt i1.pos
     let x <-foldedSetIterable i1 env x
     let EX <-holding [x] (pyIter x)
     let _ <-runOwn (.compStart C 1 EX (.ref D) env) env
     again (.compLoop C 0 it (.ref D) env)
    else again (.compLoop C 0 it (.ref D) env)) (λx=>do noteFrame x env;theTreesLotGoes x)
 z1:∀(P:Program)(w:World)(it:Value)(D:Addr)(env:Env),(model P w).den (.compLoop C 1 it (.ref D) env)=Sem.onRaise (do
   standAt i1.pos
   match <-pyNext it with
   |none=>pure (.done .next)
   |some v=>
    letOwnedTupleGo t1 it v
    assign t1 env v
    let ok <-forIn f1 true λc r=>if r=true then do let ok <-isTrue c env (eval c env);pure (ForInStep.yield ok) else pure (ForInStep.yield r)
    if ok=true then
     el D env
     again (.compLoop C 1 it (.ref D) env)
    else again (.compLoop C 1 it (.ref D) env)) (λx=>do noteFrame x env;theTreesLotGoes x)
 b0:∀{P:Program}{w:World}{A:Around}{R:Result->Shared->Prop}{s:Shared}{it:Value}{D:Addr}{env:Env},codeAny (model P w) A (.compLoop C 0 it (.ref D) env) R s->
  (∀(Q:Value->Shared->Prop)(E:Value->Shared->Prop),Q it s->wpAny (model P w) A (pyIter it) Q E s)->codeAny (model P w) A (.compStart C 0 it (.ref D) env) R s
 b1:∀{P:Program}{w:World}{A:Around}{R:Result->Shared->Prop}{s:Shared}{it:Value}{D:Addr}{env:Env},codeAny (model P w) A (.compLoop C 1 it (.ref D) env) R s->
  (∀(Q:Value->Shared->Prop)(E:Value->Shared->Prop),Q it s->wpAny (model P w) A (pyIter it) Q E s)->codeAny (model P w) A (.compStart C 1 it (.ref D) env) R s
abbrev Ko:=Addr->St->Hp->(Hp->Prop)->Prop
def MS(X:Cx)(d:Addr->Env->Sem Unit)(e:Ko):Prop:=∀(D:Addr)(a:List (Addr×Obj))(s:Shared)(b:St)(H:Hp)(N:Hp->Prop),Inv X a b H s->e D b H N->wpAny (model X.prog X.w) X.A (d D X.env) (λ_ f=>∃c,Inv X a b c f/\N c) X.xe s
section
variable {X XC:Cx} {C elt i0 t0 i1 t1:Expr} {f0 f1:List Expr} {scope:Scope} {pos:Pos} {wi cx:TI} {g g1:TG} {tt bO:TT} {te:TE} {ta:Ko} {el:Addr->Env->Sem Unit} {src:List (Option Nat)} {NC:List Str}
theorem IQ{a:List (Addr×Obj)}{s:Shared}{σ:St}{H:Hp}{it D:Addr}{z:List Addr}{Y:Nat->Heap->Prop}{J:It}{R:Result->Shared->Prop}{N:St->Hp->Prop}
  (RG:XC.xe=λ_ _=>False) (hc:XC.calm=true) (I:Inv XC a σ H s) (T:Turn XC.prog XC.w XC.K t1 J z it Y) (st:Y 0 s.heap) (f2:∀b∈z,eY XC a H b)
  (Tw:jS C t0 i0 t1 i1 f0 f1 el) (hg:PG XC t1 g1) (ht:jR XC f1 bO) (he:MS XC el ta)
  (hW:∃W:Nat->Nat->St->Hp->Prop,(∃m,W 0 m σ H)/\∀i m di L,W i m di L->(J.stop i L/\N di L)\/
   (J.go i L/\∃M:St->Hp->Prop,(∀j c,M j c->∃Z,Z<m/\W (i+1) Z j c)/\∀x H3,J.yld i L x H3->g1 x di H3 λg H4=>bO g H4 λb H5=>
    if b=true then ta D g H5 (M g) else M g H5))
  (hR:∀j c v,Inv XC a j c v->N j c->R (.ok .next) v):
  codeAny (model XC.prog XC.w) XC.A (.compStart C 1 (.ref it) (.ref D) XC.env) R s:=by
 obtain⟨W,⟨m0,w0⟩,O⟩:=hW
 have ku:∀{α:Type}{t:Sem α}{Q:α->Shared->Prop}{E:Value->Shared->Prop}{s:Shared},wpAny (model XC.prog XC.w) XC.A t Q XC.xe s->wpAny (model XC.prog XC.w) XC.A t Q E s:=λ {α t Q E s} h=>
  wpAny_mono h (λ_ _ q=>q) λ_ _ f=>by rw[RG] at f;exact f.elim
 have k:∀{c:Hp},(∀b∈z,c b=none)->∀b∈z,eY XC a c b:=λhn b p=>#[hn b p,(f2 b p).2]
 have P:codeAny (model XC.prog XC.w) XC.A (.compLoop C 1 (.ref it) (.ref D) XC.env) R s:=by
  refine aeb rfl (λn v=>∃i j c,Inv XC a j c v/\Y i v.heap/\(∀b∈z,c b=none)/\W i n j c) (λn v hI=>?_) m0 #[0,σ,H,I,st,λb p=>(f2 b p).1,w0];rfl';obtain⟨i,j,c,I5,vX,qJ,w5⟩:=hI;ac_rfl;rw[Tw.u,Tw.z1];refine wpAny_noted ?_;refine wpAny_bind (W1 (wpAny_bind ?_))
  rcases O i n j c w5 with ⟨stop,qn⟩ | ⟨go,M,hN,step⟩
  .refine thn (T.done XC rfl rfl rfl hc i a v j c _ I5 (k qJ) vX stop) λr s6 l=>?_
   obtain⟨hr,I6⟩:=l;subst hr;exact ir (hR j c s6 I6 qn)
  .refine thn (T.item XC rfl rfl rfl hc i a v j c _ I5 (k qJ) vX go) λr s6 l=>?_
   rfl';obtain⟨u,hr,h6⟩:=l;ac_rfl;subst hr;refine wpAny_bind (thn h6 λ_ s7 l=>?_);rfl';obtain⟨x,H7,I7,r7,y7,yA,NR⟩:=l;ac_rfl;have MN:=I7.pinned (k NR) (T.obj _ _ yA)
   have nextT:∀{y:St}{F:Hp}{G:Shared},Inv XC (a++mB z s7.heap) y F G->M y F->∃m,m<n/\∃i j c,Inv XC a j c G/\Y i G.heap/\(∀b∈z,c b=none)/\W i m j c:=λ {y F G} S n8=>by
    obtain⟨Z,hm,w8⟩:=hN y F n8;refine#[Z,hm,i+1,y,F,S.jP,T.keep _ _ _ yA λb p o e=>(S.pin (b,o) (fF _ (fF _ (eZ p e)))).1,λb p=>?_,w8];obtain⟨o,e,d⟩:=T.obj _ _ yA b p;exact(S.pin (b,o) (fF _ (fF _ (eZ p e)))).2.1
   refine wpAny_bind (ku (thn (hg _ s7 j H7 x u _ MN r7 (step x H7 y7)) λ_ G l=>?_));rfl';obtain⟨y,F,S,q8⟩:=l;ac_rfl;refine wpAny_bind (ku (thn (ht _ G y F _ S q8) λb s9 l=>?_));obtain⟨H9,I9,X⟩:=l;cases b with
   |false=>
    rw[tz dj] at X;exact ir #[rfl,nextT I9 X]
   |true=>
    rw[mo rfl] at X;refine wpAny_bind (ku (thn (he D _ s9 y H9 _ I9 X) λ_ C3 l=>?_));obtain⟨zi,Br,Ii⟩:=l;exact ir #[rfl,nextT Br Ii]
 exact Tw.b1 P λQ E q=>T.self _ 0 _ _ _ st q
def gIn(n:TG)(o:TT)(p:Ko)(D:Addr)(J:It)(N:St->Hp->Prop):St->Hp->Prop:=λq H=>
 ∃W:Nat->Nat->St->Hp->Prop,(∃m,W 0 m q H)/\∀i m d a,W i m d a->(J.stop i a/\N d a)\/
  (J.go i a/\∃e:St->Hp->Prop,(∀f h,e f h->∃j,j<m/\W (i+1) j f h)/\∀x k,J.yld i a x k->n x d k λc r=>o c r λb l=>
   if b=true then p D c l (e c) else e c l)
def NU(g:TG)(l:TT)(n:TI)(o:TG)(p:TT)(q:Ko)(D:Addr)(J:It)(Q:VK)(r:St)(H:Hp):Prop:=
 ∃W:Nat->Nat->St->Hp->Prop,(∃m,W 0 m r H)/\∀i m d a,W i m d a->
  (J.stop i a/\Q (.ref D) a)\/
  (J.go i a/\∃N:St->Hp->Prop,(∀e f,N e f->∃h,h<m/\W (i+1) h e f)/\∀x j,J.yld i a x j->g x d j λc s=>l c s λb k=>
   if b=true then n c k λt u=>gIn o p q D t N c u else N c k)
theorem yH{k:List (Addr×Obj)}{σ:St}{v:Shared}{Y:Hp}{it:Addr}{G:List Addr}{tn:Nat->Heap->Prop}{J:It}{RR:Value->Addr->Result->Shared->Prop}{E:Value->Shared->Prop}{Q:VK}{o0:Addr->HO}{new:Sem Value}
  (Tw:jS C t0 i0 t1 i1 f0 f1 el)
  (hc:X.calm=true) (c:br X scope) (dO:cS scope X.N src NC) (I2:Inv X k σ Y v) (T:Turn X.prog X.w X.K t0 J G it tn) (iL:tn 0 v.heap) (f2:∀b∈G,eY X k Y b)
  (hg:∀ex s H,PG (bA X scope NC ex s H) t0 g) (ht:∀ex s H,jR (bA X scope NC ex s H) f0 tt) (m7:∀ex s H,PI (bA X scope NC ex s H) t1 i1 cx) (ue:∀ex s H,PG (bA X scope NC ex s H) t1 g1)
  (um:∀ex s H,jR (bA X scope NC ex s H) f1 bO) (he:∀ex s H,MS (bA X scope NC ex s H) el ta) (qa:∀env x,foldedSetIterable i1 env x=pure x)
  (hn:∀(Q':Value->Shared->Prop)(E':Value->Shared->Prop),(∀B:Shared,Inv X k σ (upd Y v.heap.objs.size (o0 v.heap.objs.size)) B->(∀b o,v.heap.get? b\o->B.heap.get? b\o)->Q' (.ref v.heap.objs.size) B)->wpAny (model X.prog X.w) X.A new Q' E' v)
  (hW:∀D,Y D=none->NU g tt cx g1 bO ta D J Q (kj src σ) (upd Y D (o0 D)))
  (GW:∀D B H3 I l L,Inv X k σ H3 B->(∀b∈G,eY X k H3 b)->Inv (bA X scope NC G B H3) [] I l L->Q (.ref D) l->RR (.ref D) B.heap.objs.size (.ok .next) L):
  wpAny (model X.prog X.w) X.A new (λacc sZ=>wpAny (model X.prog X.w) X.A (newFunctionEnv scope X.env.globals (iV X.env scope.names []) [] X.env.qual none .none (some X.env)) (λkG tj=>
   codeAny (model X.prog X.w) X.A (.compStart C 0 (.ref it) acc {kG with scope:=relabel scope X.env}) (RR acc kG.locals) tj) E sZ) E v:=by
 rfl';obtain⟨W,⟨m0,w0⟩,turn⟩:=hW v.heap.objs.size I2.fresh;ac_rfl
 have HG:∀b∈G,b<v.heap.objs.size:=λb j=>by
  obtain⟨o,e,_⟩:=T.obj _ _ iL b j;exact Do e
 have f3:∀b∈G,eY X k (upd Y v.heap.objs.size (o0 v.heap.objs.size)) b:=λb j=>#[by rw[ag (bE (HG b j))];exact(f2 b j).1,(f2 b j).2]
 refine hn _ _ λB I3 X4=>?_;have vW:tn 0 B.heap:=T.keep _ _ _ iL λb _ o e=>X4 b o e
 have HH:∀b∈G,b<B.heap.objs.size:=λb j=>by
  obtain⟨o,e,_⟩:=T.obj _ _ vW b j;exact Do e
 generalize Zh:upd Y v.heap.objs.size (o0 v.heap.objs.size)=H3 at I3 f3 w0;refine wpAny_newFunctionEnv c.nocell (by intro y hy;simp at hy) (λh1 Ca Cg=>?_) c.kind
 have I4:=Ae (src:=src) (NC:=NC) (ex:=G) (tk:=B.toks+([]:List (Str×Value)).length) I3 c dO f3 HH Ca Cg;have Qi:tn 0 h1:=T.keep _ _ _ vW λb j o e=>Cg.extBut b o (bE (HH b j)) (AC _ e);generalize F:bA X scope NC G B H3=a at I4
 have M:∀{l:Hp},(∀b∈G,l b=none)->∀b∈G,eY a [] l b:=λ {l} hn b j=>by
  subst F;refine#[hn b j,bE (HH b j),λz=>?_, .inl j,λx d e=>?_,λp hp=>absurd (show p∈([]:List (Addr×Obj)) from hp) (by simp)]
  .exact(I4.ok.exfs b j) z
  .exact(I4.ok.exf b j).2 x d e
 have Le:a.calm=true:=by subst F;exact hc
 have eP:a.prog=X.prog:=by subst F;rfl
 have ew:a.w=X.w:=by subst F;rfl
 have eK:a.K=X.K:=by subst F;rfl
 have eA:a.A=X.A:=by subst F;rfl
 have RG:a.xe=λ_ _=>False:=by subst F;rfl
 have WB:PG a t0 g:=by subst F;exact hg _ _ _
 have WY:jR a f0 tt:=F▸ht _ _ _;have hiC:PI a t1 i1 cx:=F▸m7 _ _ _;have ZD:PG a t1 g1:=F▸ue _ _ _;have aaa:jR a f1 bO:=F▸um _ _ _;have Wx:MS a el ta:=F▸he _ _ _
 have ku:∀{α:Type}{t:Sem α}{Q:α->Shared->Prop}{E:Value->Shared->Prop}{s:Shared},wpAny (model a.prog a.w) a.A t Q a.xe s->wpAny (model X.prog X.w) X.A t Q E s:=λ {α t Q E s} h=>by
  rw[<-eP,<-ew,<-eA];exact wpAny_mono h (λ_ _ q=>q) λ_ _ f=>by rw[RG] at f;exact f.elim
 have loop:codeAny (model X.prog X.w) X.A (.compLoop C 0 (.ref it) (.ref v.heap.objs.size) a.env) (RR (.ref v.heap.objs.size) B.heap.objs.size)
   {B with heap:=h1,toks:=B.toks+([]:List (Str×Value)).length}:=by
  refine aeb rfl (λn L=>∃i I l,Inv a [] I l L/\tn i L.heap/\(∀b∈G,l b=none)/\W i n I l) (λn L hI=>?_) m0 #[0,_,_,I4,Qi,λb j=>(f3 b j).1,w0];rfl';obtain⟨i,I,l,I5,vX,qJ,w5⟩:=hI;ac_rfl;rw[Tw.u,Tw.z0];refine wpAny_noted ?_;refine wpAny_bind (W1 (wpAny_bind ?_))
  rcases turn i n I l w5 with ⟨stop,qn⟩ | ⟨go,N,hN,step⟩
  .have hd:=T.done a eP ew eK Le i [] L I l (notedBy (model X.prog X.w) X.A a.env λe L=>RR (.ref v.heap.objs.size) B.heap.objs.size (.error e) L) I5 (M qJ) vX stop
   rw[eA] at hd;refine thn hd λr s6 P=>?_;obtain⟨hr,I6⟩:=P;subst hr;refine ir ?_;subst F;exact GW _ B _ I l s6 I3 f3 I6 qn
  .have hd:=T.item a eP ew eK Le i [] L I l (notedBy (model X.prog X.w) X.A a.env λe L=>RR (.ref v.heap.objs.size) B.heap.objs.size (.error e) L) I5 (M qJ) vX go
   rw[eA] at hd;refine thn hd λr s6 P=>?_;obtain⟨u,hr,h6⟩:=P;subst hr;refine wpAny_bind (thn h6 λ_ s7 P=>?_);rfl';obtain⟨x,H7,I7,r7,y7,yA,NR⟩:=P;ac_rfl;have MN:=I7.pinned (M NR) (T.obj _ _ yA)
   have nextT:∀{S:St}{Z:Hp}{s8:Shared},Inv a ([]++mB G s7.heap) S Z s8->N S Z->∃m,m<n/\∃i I l,Inv a [] I l s8/\tn i s8.heap/\(∀b∈G,l b=none)/\W i m I l:=λ {S Z s8} I8 n8=>by
    obtain⟨m',hm,w8⟩:=hN S Z n8;refine#[m',hm,i+1,S,Z,I8.jP,T.keep _ _ _ yA λb j o e=>(I8.pin (b,o) (fF _ (fF _ (eZ j e)))).1,λb j=>?_,w8];obtain⟨o,e,d⟩:=T.obj _ _ yA b j;exact(I8.pin (b,o) (fF _ (fF _ (eZ j e)))).2.1
   refine wpAny_bind (ku (thn (WB _ s7 I H7 x u _ MN r7 (step x H7 y7)) λ_ s8 P=>?_));rfl';obtain⟨S,Z,I8,q8⟩:=P;ac_rfl;refine wpAny_bind (ku (thn (WY _ s8 S Z _ I8 q8) λb s9 P=>?_));obtain⟨H9,I9,q9⟩:=P;cases b with
   |false=>
    rw[tz dj] at q9;exact ir #[F▸rfl,nextT I9 q9]
   |true=>
    rw[mo rfl] at q9;refine wpAny_bind (ku (thn (hiC _ s9 S H9 _ I9 q9) λv1 yl h10=>?_));refine wpAny_bind (W1 (wpAny_bind (adb (qa _ v1) (wpAny_bind (KB (ku (thn h10 λxF C3 h11=>?_)))))));rfl';obtain⟨EX,fp1,tn1,J1,zi,rfl,Br,T1,aaM,f11,ZH⟩:=h11;ac_rfl;refine wpAny_bind (wpAny_runOwn ?_);have tr:∀(cd:Code)(R:Result->Shared->Prop),codeAny (model a.prog a.w) a.A cd R C3->codeAny (model X.prog X.w) X.A cd R C3:=λcd R h=>by rw[eP,ew,eA] at h;exact h
    exact tr _ _ (IQ RG Le Br T1 aaM f11 Tw ZD aaa Wx ZH λI l L U5 n12=>ir #[F▸rfl,nextT U5 n12])
 subst F;exact Tw.b0 loop λQ E q=>T.self _ 0 _ _ _ Qi q
def Ys(c:TE):Ko:=λD d H N=>c d H λv b=>∃a,b D\(.lst a)/\a.length<sizeLine/\N (upd b D (.lst (a++ [v])))
theorem Mz:jS (.ListComp elt [#[t0,i0,f0,0],#[t1,i1,f1,0]] scope pos) t0 i0 t1 i1 f0 f1 (λD env=>do let _ <-call (.builtin "list.append") [.ref D,<-eval elt env]) where
 u:=λ_ _ _ _ _=>rfl
 z0:=λ_ _ _ _ _=>rfl
 z1:=λ_ _ _ _ _=>rfl
 b0:=λa b=>codeAny_compStart_list a (b _ _ a)
 b1:=λa b=>by
  refine codeAny_of_tree ?_;refine wpAny_notedAt ?_;unfold compStart;refine wpAny_bind (wpAny_askSetting (wpAny_ite ?_))
  split
  .first
    |exact wpAny_bind (wpAny_pure (wpAny_pure #[rfl,a]))
    |exact wpAny_pure #[rfl,a]
  .refine wpAny_bind (wpAny_rule ?_)
   exact wpAny_bind (wpAny_standAt (wpAny_bind (b _ _ (wpAny_pure #[rfl,a]))))
def LU(e:PE X elt te):MS X (λD env=>do let _ <-call (.builtin "list.append") [.ref D,<-eval elt env]) (Ys te):=λD a s d H N I h=>
 wpAny_bind (thn (e a s d H _ I h) λy f b=>by
  rfl';obtain⟨v,j,k,l,m,n,o,p⟩:=b;ac_rfl;refine wpAny_bind (thn (iJ _ f d j (.ref D) [v] _ [y] (λ_ q=>N q) k rfl (.cons l .nil) #[_,m,v,rfl,rfl,n,o,p]) λ_ w b=>?_);rfl';obtain⟨_,r,t,_,u⟩:=b;ac_rfl;exact ir #[r,t,u])
def U0(g:TG)(a:TT)(b:TI)(c:TG)(d:TT)(e:TE)(D:Addr)(J:It)(Q:VK)(f:St)(H:Hp):Prop:=NU g a b c d (Ys e) D J Q f H
def UY(c:TI)(g:TG)(d:TT)(e:TI)(f:TG)(h:TT)(i:TE)(src:List (Option Nat)):TE:=λa H Q=>c a H λJ b=>∀D,b D=none->U0 g d e f h i D J Q (kj src a) (upd b D (.lst []))
def BF{a:List (Addr×Obj)}{j:St}{f:Shared}{h:Hp}{m:Addr}{i:List Addr}{n:Nat->Heap->Prop}{J:It}{p:Value->Addr->Result->Shared->Prop}{E:Value->Shared->Prop}{Q:VK}
  (y:X.calm=true) (c:br X scope) (z:cS scope X.N src NC) (r:Inv X a j h f) (T:Turn X.prog X.w X.K t0 J i m n) (B:n 0 f.heap) (F:∀b∈i,eY X a h b)
  (G:∀d s H,PG (bA X scope NC d s H) t0 g) (I:∀d s H,jR (bA X scope NC d s H) f0 tt) (L:∀d s H,PI (bA X scope NC d s H) t1 i1 cx) (M:∀d s H,PG (bA X scope NC d s H) t1 g1)
  (O:∀d s H,jR (bA X scope NC d s H) f1 bO) (P:∀d s H,PE (bA X scope NC d s H) elt te) (R:∀env x,foldedSetIterable i1 env x=pure x)
  (S:∀D,h D=none->U0 g tt cx g1 bO te D J Q (kj src j) (upd h D (.lst [])))
  (Y:∀D k l Z t u,Inv X a j l k->(∀b∈i,eY X a l b)->Inv (bA X scope NC i k l) [] Z t u->Q (.ref D) t->p (.ref D) k.heap.objs.size (.ok .next) u):
  wpAny (model X.prog X.w) X.A (newList []) (λacc C=>wpAny (model X.prog X.w) X.A (newFunctionEnv scope X.env.globals (iV X.env scope.names []) [] X.env.qual none .none (some X.env)) (λv tj=>
   codeAny (model X.prog X.w) X.A (.compStart (.ListComp elt [#[t0,i0,f0,0],#[t1,i1,f1,0]] scope pos) 0 (.ref m) acc {v with scope:=relabel scope X.env}) (p acc v.locals) tj) E C) E f:=by
 refine yH (o0:=λ_=> .lst []) Mz y c z r T B F G I L M O (λd s H=>LU (P d s H)) R (λQ' E' q=>?_) S Y;exact abF (q _ (r.OZ (its:= []) (t':=f.toks) .nil (dA _)) λb o e=>AC _ e)
def SD(e:X.calm=true)(c:br X scope)(f:cS scope X.N src NC)(i:PI X t0 i0 wi)
  (j:∀a s H,PG (bA X scope NC a s H) t0 g) (k:∀a s H,jR (bA X scope NC a s H) f0 tt) (l:∀a s H,PI (bA X scope NC a s H) t1 i1 cx) (n:∀a s H,PG (bA X scope NC a s H) t1 g1)
  (o:∀a s H,jR (bA X scope NC a s H) f1 bO) (p:∀a s H,PE (bA X scope NC a s H) elt te)
  (q:∀x,foldedSetIterable i0 X.env x=pure x:=by intro _;rfl) (r:∀env x,foldedSetIterable i1 env x=pure x:=by intro _ _;rfl):
  PE X (.ListComp elt [#[t0,i0,f0,0],#[t1,i1,f1,0]] scope pos) (UY wi g tt cx g1 bO te src):=by
 intro b s t H Q I h;rw[eval_ListComp];refine abV (use:=none) rfl q (fS (c.cells I.ok)) c.kind c.names (thn (i b s t H _ I h) λv R u=>thn u λS Y w=>?_);rfl';obtain⟨C,fp,tn,J,H2,rfl,z,T,A,B,E⟩:=w;ac_rfl
 exact BF e c f z T A B j k l n o p r E λD s3 H3 ax F s' G L d M=>by
  obtain⟨m,O,_⟩:=d.loc;exact#[m,O,λh' P=>#[.ref D,F,comp_back G L d P,rfl,M]]
end
end L2
namespace KS
open PySem PySem.W PyProof.Rows
section
variable {prog:Program} {w:World} {A:Around} {E:Value->Shared->Prop} {s:Shared}
def vq(c:s.heap.get? a\(seqObj "list" b.toArray n))(j:b.length<2)
  (h:G (.done (.ret .none)) {s with heap:=sortedHeap s.heap a b b.toArray}):wpAny (model prog w) A (Builtin.«list.sort» #[[.ref a],[]]) G E s:=by
 rw[list_sort_plain];have m:a<s.heap.objs.size:=Do c;refine wpAny_bind (listItems_at c rfl (wpAny_bind (adm c rfl ?_)));obtain⟨l,d⟩:∃k,(s.heap.update a (Obj.mapSeq λ_=> #[])).get? a\(seqObj "list" #[] k):=#[_,get?_update_seq c (λ_=> #[])];refine wpAny_bind (ad0 d rfl (wpAny_bind (ad5 (wpAny_bind (acD (KB ?_))))));have e:(((s.heap.update a (Obj.mapSeq λ_=> #[])).push (seqObj "tuple" b.toArray 0)).push (seqObj "list" #[] 0)).get? a\(seqObj "list" #[] l):=AC _ (AC _ d);show wpAny (model prog w) A _ G E {s with heap:=((s.heap.update a (Obj.mapSeq λ_=> #[])).push (seqObj "tuple" b.toArray 0)).push (seqObj "list" #[] 0)}
 dsimp only;have f:b.toArray.size<2:=j;rw[mo f,mo f];refine wpAny_bind (ir ?_);rw[StateT.run_pure];refine wpAny_bind (ir ?_);dsimp only
 have g:(arrOf (SortSt.mk' general' (b.toArray.zip b.toArray) #[] 7 none)).map (·.2)=b.toArray:=by
  show(b.toArray.zip b.toArray).map (·.2)=b.toArray;apply adG.mp;simp[List.map_snd_zip]
 refine wpAny_bind (ad0 e rfl (wpAny_bind (adm e rfl ?_ (hsz2:=by rw[g];rw[ab6];lia))))
 simp only[ads,eV,PP];have i:=h;unfold sortedHeap at i;rw[g];exact ir i
def zU(e:s.heap.IsList l a.toArray)(f:a.length<2)(h:G (.ref (s.heap.objs.size+1)) {s with heap:=sortedAll s.heap a a.toArray}):
  wpAny (model prog w) A (call (.builtin "sorted") [.ref l]) G E s:=by
 refine ach kind_sorted aed aee (aef (.ref l)) ?_;unfold Builtin.«sorted»;have b:a.length<=sizeLine:=by rw[ab6];lia
 refine wpAny_bind (m:=checkCount "sorted" 1 1 _) (ir (wpAny_bind (aeg e (wpAny_bind (acD ?_ b)) b)));have c:((s.heap.push (seqObj "list" #[] 0)).update s.heap.objs.size (Obj.mapSeq (·++a.toArray))).objs.size=s.heap.objs.size+1:=by rw[ab9,adu]
 have d:(((s.heap.push (seqObj "list" #[] 0)).update s.heap.objs.size (Obj.mapSeq (·++a.toArray))).push (seqObj "list" a.toArray 0)).get? (s.heap.objs.size+1)\(seqObj "list" a.toArray 0):=by
  rw[<-c];exact GE _ rfl
 show wpAny (model prog w) _ _ _ E {s with heap:=((s.heap.push (seqObj "list" #[] 0)).update s.heap.objs.size (Obj.mapSeq (·++a.toArray))).push (seqObj "list" a.toArray 0)}
 rw[c];exact wpAny_bind (KB (abD slot_list_sort #[_,d,rfl] entry_list_sort (vq d f #[_,rfl,ir #[_,rfl,h]]) (ac7 _)))
end
end KS
namespace L2
open PySem PySem.Spec PyProof.Rows
section
variable {X:Cx} {pins:List (Addr×Obj)} {σ:St} {H:Hp} {s:Shared} {h':Heap}
end
noncomputable def hV(k:Nat×Nat):List V:= [.int (k.1:Nat), .int (k.2:Nat)]
def p5(H:Hp)(L:List (Addr×(Nat×Nat))):Prop:=∀p∈L,H p.1\(.tup (hV p.2))
noncomputable def j0(a b:Nat×Nat):Bool:=if a.1=b.1 then decide (a.2<b.2) else decide (a.1<b.1)
def _root_.o27_{a b c d:Nat}(e:a=b):c<d↔a<b\/a=b/\c<d:=()
def _root_.o28_{a b c d:Nat}(e:¬(a=b)):a<b↔a<b\/a=b/\c<d:=()
def ux(x y:Nat×Nat):j0 x y=true↔x.1<y.1\/(x.1=y.1/\x.2<y.2):=by
 unfold j0
 by_cases e:x.1=y.1
 .rw[mo e,decide_eq_true_iff]
  exact o27_ e
 .rw[tz e,decide_eq_true_iff]
  exact o28_ e
def _root_.o29_{a b c d e f:Nat}(g:a<b\/a=b/\c<d):(a<e\/a=e/\c<f)\/e<b\/e=b/\f<d:=()
def LF(x y z:Nat×Nat)(h:j0 x z=true):j0 x y=true\/j0 y z=true:=by
 rw[ux] at*;rw[ux];exact o29_ h
def _root_.o30_{a b c d e f:Nat}(g:a<b\/a=b/\c<d)(h:b<e\/b=e/\d<f):a<e\/a=e/\c<f:=()
def OT(x y z:Nat×Nat)(h:j0 x y=true)(a:j0 y z=true):j0 x z=true:=by
 rw[ux] at*;exact o30_ h a
def xJ(h:j0 b a=false):Wb.lexLe a b:=by
 unfold j0 at h;unfold Wb.lexLe
 by_cases e:b.1=a.1
 .rw[mo e] at h
  have:=SC h
  right;lia
 .rw[tz e] at h
  have:=SC h
  left;lia
def RQ 
  (n:IsTup s.heap x [.int a i, .int b j].toArray) (o:IsTup s.heap y [.int c k, .int d l].toArray)
  (h:C (if a=c then decide (b<d) else decide (a<c)) s):wpAny (model prog w) A (keyLt' (tuples' true) (.ref x) (.ref y)) C E s:=by
 rfl';obtain⟨u,f,_,v,q⟩:=n;obtain⟨z,g,_,B,r⟩:=o;ac_rfl;refine PySem.W.kat_lt f q g r ?_;refine PySem.W.kat_cons (aci a i c k prog w _ _ ?_)
 by_cases e:a=c
 .rw[mo e] at h
  rw[show(a==c)=true by simpa using e]
  refine PySem.W.kat_yes (PySem.W.kat_cons (aci b j d l prog w _ _ ?_))
  by_cases m:b=d
  .rw[show(b==d)=true by simpa using m]
   refine PySem.W.kat_yes (PySem.W.kat_nil ?_);rw[show decide (b<d)=false by simp;lia] at h
   simpa using h
  .rw[show(b==d)=false by simpa using m]
   refine PySem.W.kat_no (PySem.W.kat_one _ _ ?_);exact lt_int h
 .rw[tz e] at h
  rw[show(a==c)=false by simpa using e]
  exact PySem.W.kat_no (oneLt_int h)
section
variable {X:Cx}
theorem rp:∀{as:List Addr}{us:List Value},Vals (as.map V.ref) us->us=as.map Value.ref
 | [],_, .nil=>rfl
 |a::as,_, .cons r t=>by cases r;rw[rp t];rfl
theorem rg:∀b:List Addr,Vals (b.map V.ref) (b.map Value.ref)
 | []=> .nil
 |a::b=> .cons rfl (rg b)
def LV(I:Inv X b c H s)(h:H a\(.tup (hV k))):
  ∃t u,IsTup s.heap a [.int (k.1:Nat) t, .int (k.2:Nat) u].toArray:=by
 rfl';obtain⟨e,r,p,_⟩:=I.tuple (fe.of h);obtain⟨g,i,rfl,⟨t,rfl⟩,⟨u,rfl⟩⟩:=Vals.two r;ac_rfl;exact#[t,u,p]
end
end L2
set_option maxHeartbeats 4000000
namespace L2
open PySem PySem.Spec PySem.Calls PyProof.Rows PySem.W Builtin Builtin.ObjectAttr
noncomputable def zJ(s:String):Value->Bool
 | .type a=>a==s
 |_=>false
noncomputable def JJ(l:List Value):Bool:=match l with
 |a::b::c::d::r=>zJ "ValueError" a&&zJ "Exception" b&&zJ "BaseException" c&&zJ "object" d&&r.isEmpty
 |_=>false
noncomputable def isRef:Value->Bool
 | .ref _=>true
 |_=>false
noncomputable def pM:List Value->Bool
 | []=>false
 |v::r=>if isRef v then pM r else JJ (v::r)
def wc(h:zJ s v=true):v= .type s:=by
 unfold zJ at h
 split at h
 .rw[abI.mp h]
 .cases h
def xD(h:JJ l=true):l= [.type "ValueError", .type "Exception", .type "BaseException", .type "object"]:=by
 cases l with
 |nil=>cases h
 |cons a l=>cases l with
  |nil=>cases h
  |cons b l=>cases l with
   |nil=>cases h
   |cons c l=>cases l with
    |nil=>cases h
    |cons d r=>
     have h:(zJ "ValueError" a&&zJ "Exception" b&&zJ "BaseException" c&&zJ "object" d&&r.isEmpty)=true:=h;simp only[vC] at h;rw[wc h.1.1.1.1,wc h.1.1.1.2,wc h.1.1.2,wc h.1.2,List.isEmpty_iff.mp h.2]
noncomputable def CV(K:Frag)(C:Addr):Bool:=(clsIn K C).any λa=>pM a.mro
structure js (K:Frag) (C:Addr):Prop where
 hd:hasDictIn K C=true
 ga:findIn K (.ref C) "__getattribute__"\(some (.builtin "BaseException.__getattribute__"))
 gh:findIn K (.ref C) "__getattr__"\none
 sa:findIn K (.ref C) "__setattr__"\(some (.builtin "object.__setattr__"))
 ov:CV K C=true
 cl:findIn K (.ref C) "__class__"\(some (.builtin "object.__class__"))
 be:mroIn K C (.type "BaseException")\true
 ob:mroIn K C (.type "object")\true
section
variable {prog:Program} {w:World} {A:Around} {E:Value->Shared->Prop} {s:Shared} {K:Frag} {x C:Addr} {ox:Obj} {od:Option Obj} {name:Str}
def Bl{fill a:Bool}{b:Tok}{Q:Value->Shared->Prop}(X:K.In s.heap)(I:InstAt s.heap x ox C od)(c:js K C)
  (h:wpAny (model prog w) A.in1 (Builtin.«object.__getattribute__» #[[.ref x, .str name b],[]]) (λfin d=>match fin with| .done (.ret v)=>wpAny (model prog w) A (handedOut v) Q E d|_=>False) (λ_ _=>False) s):
  wpAny (model prog w) A (getAttrBy (.ref x) (.str name b) fill a) Q E s:=by
 unfold getAttrBy;refine KB (wpAny_bind (I.type _ _ _ _ (λ_ _ e=>e) (wpAny_bind (looks_findIn X c.ga _ _ _ _ (λ_ _ e=>e) ?_))));dsimp only;rw[show(onTheHeap (.ref C)&&Value.builtin "BaseException.__getattribute__"==Value.builtin "object.__getattribute__")=false from by rw[show(Value.builtin "BaseException.__getattribute__"==Value.builtin "object.__getattribute__")=false from by decide+kernel,ac6],tz ∅]
 unfold getAttrByItsOwn;refine wpAny_bind (looks_hook (mc:= .ref C) (r:=none) X c.gh _ _ _ _ (λ_ _ e=>e) (wpAny_bind (acb (KB ?_))));unfold callGetattribute;rw[show(a&&onTheHeap (Value.builtin "BaseException.__getattribute__"))=false from ac6 _,tz ∅]
 unfold boundAndCalled;rw[F.excAttr_ValueError.ga.bind];refine wpAny_bind (ir ?_);show wpAny _ _ (call (.builtin "BaseException.__getattribute__") [.ref x, .str name b]) _ _ _;refine abT ?_;refine aca F.excAttr_ValueError.ga.plain F.entry_bexc_ga ?_;refine @check_slot (model prog w) _ _ s "BaseException.__getattribute__" "BaseException" "__getattribute__" (.ref x) [.str name b] [] _ (by decide+kernel) (by decide+kernel) (I.type.andThen (looks_mroIn X c.be)) (F.args_bexc_ga (.ref x) (.str name b)) ?_
 refine wpAny_mono h (λfin d z=>?_) λ_ _ z=>z.elim
 rcases fin with (_|_|_|_) |_<;>first|exact z|exact z.elim
def Jd(X:K.In s.heap)(I:InstAt s.heap x ox C od)(b:findObj K C od name\(.value v))(h:Q (.done (.ret v)) s):
  wpAny (model prog w) A (Builtin.«object.__getattribute__» #[[.ref x, .str name a],[]]) Q E s:=by
 obtain⟨c,g,d,t,os⟩:=s;have e:=I.type (M:=model prog w);have f:=looks_find (M:=model prog w) X I b;unfold Builtin.«object.__getattribute__»;refine wpAny_bind (ir (wpAny_bind (ir (wpAny_bind (e.at (wpAny_bind (f.at ?_)))))));exact ir h
def MF{P:Value->Shared->Prop}(X:K.In s.heap)(I:InstAt s.heap x ox C od)(e:findObj K C od name\(.bind g a))
  (h:wpAny (model prog w) A (call g [a, .ref x, .ref C]) P E s):
  wpAny (model prog w) A (Builtin.«object.__getattribute__» #[[.ref x, .str name c],[]]) (λfin b=>match fin with| .done (.ret v)=>P v b|_=>False) E s:=by
 obtain⟨f,k,d,t,os⟩:=s;have i:=I.type (M:=model prog w);have j:=looks_find (M:=model prog w) X I e;unfold Builtin.«object.__getattribute__»;refine wpAny_bind (ir (wpAny_bind (ir (wpAny_bind (i.at (wpAny_bind (j.at ?_)))))));exact wpAny_bind (KB (wpAny_mono h (λv b z=>ir z) λ_ _ z=>z))
def FZ(X:K.In s.heap)(I:InstAt s.heap x ox C od)(c:js K C)(b:findObj K C od name\(.value v))(d:handedIn v=true)(h:Q v {s with toks:=s.toks+1}):
  wpAny (model prog w) A (getAttr (.ref x) name a) Q E s:=by
 unfold getAttr;refine wpAny_bind (wpAny_mkText ?_);refine Bl (s:={s with toks:=s.toks+1}) X I c (Jd (s:={s with toks:=s.toks+1}) X I b ?_)
 show wpAny _ _ (handedOut v) _ _ _;rw[handedOut_of d];exact ir h
def F0(X:K.In s.heap)(I:InstAt s.heap x ox C od)(c:js K C)(b:specialIn K (.builtin "object.__class__") "__get__"\(some (.builtin "getset_descriptor.__get__")))(htk:takesIn K (.builtin "object.__class__")\true)
  (h:Q (some (.ref C)) {s with toks:=s.toks+1}):wpAny (model prog w) A (getAttr? (.ref x) "__class__") Q E s:=by
 have d:findObj K C od "__class__"\(.bind (.builtin "getset_descriptor.__get__") (.builtin "object.__class__")):=by
  obtain⟨f,e,_⟩:=adI c.hd;unfold findObj;rw[e,acE,c.cl,acE];dsimp only;rw[b,acE];dsimp only;rw[htk];rfl
 unfold getAttr? getAttrBy?;refine wpAny_bind (wpAny_mkText (wpAny_bind (acb ?_)))
 have key:wpAny (model prog w) A.in1 (Builtin.«object.__getattribute__» #[[.ref x, .str "__class__" s.toks],[]]) (λfin a=>match fin with| .done (.ret v)=>v= .ref C/\a={s with toks:=s.toks+1} |_=>False) (λ_ _=>False) {s with toks:=s.toks+1}:=by
  refine MF (P:=λv a=>v= .ref C/\a={s with toks:=s.toks+1}) (s:={s with toks:=s.toks+1}) X I d (abT (class_get (s:={s with toks:=s.toks+1}) (ox:=ox) (od:=od) X I c.ob ?_))
  exact#[rfl,rfl]
 refine Bl (s:={s with toks:=s.toks+1}) X I c (wpAny_mono key (λfin a z=>?_) λ_ _ z=>z.elim)
 rcases fin with (_|_|_|_) |_<;>first|exact z.elim|skip
 obtain⟨rfl,rfl⟩:=z;exact ir (ir h)
def AN(c:js K C)(i:specialIn K (.builtin "object.__class__") "__get__"\(some (.builtin "getset_descriptor.__get__")))(htk:takesIn K (.builtin "object.__class__")\true):
  KitX K (.ref x) (.ref C) (λh=>InstAt h x ox C od) where
 ty:=λ_ _ _ I=>I.type
 it:=λ_ _ X _=>by
  obtain⟨b,a,_⟩:=adI c.hd;unfold clsIn at a
  split at a
  .rename_i j l d m f
   intro r t u v k q;unfold isType loadHead;exact wpAny_bind (ac5 (k _ _ (X _ _ f)) (ir q))
  .cases a
 ne:=λh o y p n B X g=>by
  obtain⟨b,a,_⟩:=adI c.hd;refine vB.mpr λq=>?_;have e:C=o:=Value.ref.inj (abI.mp q);subst e;unfold clsIn at a
  split at a
  .rename_i j l d m f
   have z:=(X _ _ f).symm.trans g;cases z
  .cases a
 ca:=λX I k=>F0 X I c i htk k
end
def Ij(self:Value)(e:pM l=true):refuseLoop self "__setattr__" l=pure ⟨⟩:=by
 induction l with
 |nil=>cases e
 |cons v r b=>
  rw[pM] at e;cases a:isRef v with
  |true=>
   rw[mo a] at e;cases v with
   |ref c=>rw[refuseLoop_ref];exact b e
   |_=>cases a
  |false=>
   rw[tz (by rw[a];exact dj)] at e
   rw[xD e];exact F.store_ValueError.passes self
abbrev cG(C t:Addr)(d:Option Addr):Obj:={cls:= .ref C,dict:=d,data:= .fields [.ref t, .none, .none, .none, .bool false, .none].toArray}
section
variable {prog:Program} {w:World} {A:Around} {E:Value->Shared->Prop} {s:Shared} {K:Frag} {x C:Addr} {ox:Obj} {od:Option Obj} {name:Str} {R:Result->Shared->Prop}
theorem yS(X:K.In s.heap)(I:InstAt s.heap x ox C od)(c:js K C)(l:takerIn K C name\none)
  (h:∀b,wpAny (model prog w) A.in1 (storeInOwnDict (.ref x) (.ref C) (.str name i) name v b)
   (λfin j=>match fin with| .done f=>R (.ok f) j| .again k=>k.quiet=true/\codeAny (model prog w) A k R j) (λe j=>R (.error e) j) s):
  codeAny (model prog w) A (.call (.builtin "object.__setattr__") #[[.ref x, .str name i,v],[]]) R s:=by
 rfl';have g:=PySem.F.store_object;obtain⟨n,o,p⟩:=adI c.ov;have sub:Looks (model prog w) s.heap (isInstance (.ref x) (.type "object")) true:=I.type.andThen (looks_mroIn X c.ob);obtain⟨d,r,t⟩:=Option.bind_eq_some_iff.mp l;ac_rfl;refine aca g.slot.plain g.entry (@check_slot (model prog w) _ _ s "object.__setattr__" "object" "__setattr__" (.ref x) [.str name i,v] [] _ g.kind g.split sub (g.args (.ref x) (.str name i) v) ?_);have u:Looks (model prog w) s.heap (mroOf (.ref C)) n.mro:=(looks_clsIn X o).andThen .now
 have y:Looks (model prog w) s.heap (storeTaker? d) none:=by
  cases d with
  |none=>exact .now
  |some a=>
   obtain⟨b,z,q⟩:=acy.mp t;refine(looks_takesIn X z).andThen ?_;cases b with
   |true=>cases q
   |false=>exact .now
 rw[osa_eq,refuse_eq];refine wpAny_bind (wpAny_bind (I.type.here (wpAny_bind (u.here ?_))));rw[Ij _ p];refine ir (wpAny_bind (I.type.here (wpAny_bind ((looks_findIn X r).here (wpAny_bind (y.here ?_))))));exact h _
def X8(X:K.In s.heap)(c:js K C)(j:s.heap.get? x\(cG C t (some d)))(k:s.heap.Ns1 d f)(ne:d≠x)(m:takerIn K C name\none)
  (hw:cq f i) (G:i.length<=sizeLine)
  (h:∀e,e.Ns1 d (λy=>if y=name then some v else f y)->Heap.SameBut d s.heap e->Q ⟨⟩ {s with heap:=e,toks:=s.toks+2}):
  wpAny (model prog w) A (setAttr (.ref x) name v) Q E s:=by
 rfl';obtain⟨o,p,_⟩:=qU k;have J:InstAt s.heap x (cG C t (some d)) C (some o):=#[j,rfl,rfl,p];obtain⟨H,q,r⟩:=adI c.hd;ac_rfl;refine set_plain X J c.sa (yS (s:={s with toks:=s.toks+1}) X J c m λb=>?_)
 refine wpAny_bind (ir (wpAny_bind (wpAny_bind (ac5 j (wpAny_bind (Looks.here (s:={s with toks:=s.toks+1}) (looks_clsIn X q) ?_))))))
 rw[r];refine ir (a:=some d) (wpAny_bind (ir (wpAny_bind ?_)));refine ad8 (s:={s with toks:=s.toks+1}) k λe l u=>?_
 rfl';obtain⟨I,L,M,z,B,F⟩:=l.count (PySem.Within.cons name v hw);ac_rfl;refine wpAny_bind (adB z (by rw[B];exact adC (iq F (by rw[dG];lia))) ?_)
 exact ir (h _ l u)
def X7(X:K.In s.heap)(c:js K C)(i:s.heap.get? x\(cG C t none))(u:takerIn K C name\none)
  (h:∀f,f.Ns1 s.heap.objs.size (λy=>if y=name then some v else none)->f.get? x\(cG C t (some s.heap.objs.size))->(∀b o,b≠x->s.heap.get? b\o->f.get? b\o)->Q ⟨⟩ {s with heap:=f,toks:=s.toks+2}):
  wpAny (model prog w) A (setAttr (.ref x) name v) Q E s:=by
 have J:InstAt s.heap x (cG C t none) C none:=#[i,rfl,rfl,trivial];obtain⟨M,z,B⟩:=adI c.hd;refine set_plain X J c.sa (yS (s:={s with toks:=s.toks+1}) X J c u λb=>?_)
 obtain⟨a,g,d,l,os⟩:=s;dsimp only at*;have m:(a.push {cls:= .type "dict",data:= .dict #[]}).get? x\(cG C t none):=AC _ i;have n:x≠a.objs.size:=bE (Do i);refine wpAny_bind (ir (wpAny_bind (wpAny_bind (ac5 i (wpAny_bind (Looks.here (s:=#[a,g,d,l+1,os]) (looks_clsIn X z) ?_))))));rw[B];refine wpAny_bind (wpAny_alloc' ?_);refine wpAny_bind (wpAny_update' m ?_);refine ir ?_
 have j:((a.push {cls:= .type "dict",data:= .dict #[]}).update x λo=>{cls:=o.cls,dict:=some a.objs.size,data:=o.data,slots:=o.slots}).get? a.objs.size\{cls:= .type "dict",data:= .dict #[]}:=
  (ab1 _ _ _ _ n.symm).trans (Heap.get?_push_at rfl rfl)
 have rZ:((a.push {cls:= .type "dict",data:= .dict #[]}).update x λo=>{cls:=o.cls,dict:=some a.objs.size,data:=o.data,slots:=o.slots}).Ns a.objs.size (λ_=>none):=
  #[_, #[],_,j,rfl,λe F=>absurd F (by simp),λ_=>rfl]
 show wpAny _ _ (storeInDict a.objs.size (.str name l) name v) _ _ _;unfold storeInDict newKeyGuard;refine wpAny_bind (ir (wpAny_bind (ad8 (Heap.Ns1.of_empty rZ) λf p q=>?_)));rfl';obtain⟨O,P,S,H,I,L⟩:=p.count (Within.cons name v Within.nil);ac_rfl;refine wpAny_bind (adB H (by rw[I];exact adC (iq L (by rw[dG,o9,ab6];lia))) ?_)
 refine ir (h f p ?_ λb T k r=>?_)
 .exact(q.2 x n).trans (P3 _ m rfl)
 .exact(q.2 b (bE (Do r))).trans ((ab1 _ _ _ _ k).trans (AC _ r))
end
section
variable {M:Model} {A:Around} {E:Value->Shared->Prop} {h:Heap} {g:Array GenState} {d:Drawn} {t:Nat} {os:OsState}
variable {nm q:Str} {C N:Addr} {bs bm Kt:List Value} {iy:Bool} {sn:List Str} {sub:List Value} {ab:Bool} {col:Option Bool} {dd:Option Addr} {k0 k1 k2 k3 k5:Option Value} {B newId kJ:String}
def BC(F:ExcBaseFacts B newId kJ Kt)(Wq:(Value.ref C::bm).contains (.type B)=true){rest:List Value}{Q:Unit->Shared->Prop}(hC:h.get? C\(excClassObj nm q C N bs bm iy sn sub ab col dd k0 k1 k2 k3 k5 newId))
  (hq:Q ⟨⟩ #[h,g,d,t,os]):wpAny M A (checkBuiltinCall newId #[.ref C::rest,[]]) Q E #[h,g,d,t,os]:=by
 have abf:=F.noStar;simp only[checkBuiltinCall,F.newKind,F.newSplit,F.newRow]
 repeat (first|refine wpAny_loadPart_at hC ?_| (refine wpAny_isSubtype_exc hC ?_;rw[Wq]) |refine wpAny_staticBase_exc hC ?_|refine wpAny_madeBy_exc hC ?_|simp only[bne_self_eq_false,eV,if_false]|wp_step)
 exact hq
def zr(F:ExcBaseFacts B newId kJ Kt)(zA:(Value.ref C::bm).contains (.type B)=true){e:Addr}{oe:Obj}{rest:List Value}{Q:Unit->Shared->Prop}
  (hC:h.get? C\(excClassObj nm q C N bs bm iy sn sub ab col dd k0 k1 k2 k3 k5 newId)) (he:h.get? e\oe) (EH:oe.cls= .ref C) (hq:Q ⟨⟩ #[h,g,d,t,os]):
  wpAny M A (checkBuiltinCall kJ #[.ref e::rest,[]]) Q E #[h,g,d,t,os]:=by
 have aa9:=F.noStar;simp only[checkBuiltinCall,F.initKind,F.initSplit,F.initRow]
 repeat (first| (with_reducible refine wpAny_loadPart_at he ?_;rw[EH]) |with_reducible refine wpAny_loadPart_at hC ?_| (with_reducible refine wpAny_isSubtype_exc hC ?_;rw[zA]) |wp_step)
 refine wpAny_onRaise ?_
 rw[show ∀(a b:String)(n:Nat),Bind.check #[.positional,"*",B, .self,[#["args", .varPos,false]]] a b n (List.map (λx=>x.fst) ({pos:=Value.ref e::rest}:Args).kw)=pure ⟨⟩ from
  λa b n=>check_star_args _ _ _ _ _ _]
 exact wpAny_pure hq
end
section
variable {prog:Program} {w:World} {A:Around} {R:Result->Shared->Prop} {h:Heap} {g:Array GenState} {d:Drawn} {t:Nat} {os:OsState}
variable {nm q:Str} {C N:Addr} {bs bm Kt:List Value} {iy:Bool} {sn:List Str} {sub:List Value} {ab:Bool} {col:Option Bool} {dd:Option Addr} {k0 k1 k2 k3 k5:Option Value} {B newId kJ:String}
def GI(F:ExcBaseFacts B newId kJ Kt)(zA:(Value.ref C::bm).contains (.type B)=true)(Wm:(Value.ref C::bm).contains (.type "AttributeError")=false)(Wn:(Value.ref C::bm).contains (.type "NameError")=false)
  {rest:List Value} (hC:h.get? C\(excClassObj nm q C N bs bm iy sn sub ab col dd k0 k1 k2 k3 k5 newId))
  (hq:R (.ok (.ret (.ref (h.objs.size+1)))) #[(h.push {cls:= .type "tuple",data:= .seq rest.toArray}).push (cG C h.objs.size none),g,d,t,os]) (Hn:rest.length<=sizeLine):
  codeAny (model prog w) A (.builtin newId #[.ref C::rest,[]]) R #[h,g,d,t,os]:=by
 have abd:=F.ends;refine codeAny_builtinAt F.entry ?_;unfold Builtin.«BaseException.__new__»;refine PySem.wpAt_bind ?_;show PySem.wpAt _ _ _ (stack>>=_) _ _ _;refine PySem.wpAt_bind (PySem.wpAt_stack λp below=>PySem.wpAt_of_wpAny ?_)
 wp_walk
 refine PySem.wpAt_of_wpAny ?_;rw[F.owner]
 repeat (first|with_reducible refine wpAny_madeHere_exc F.canon hC ?_|with_reducible refine wpAny_loadPart_at hC ?_| (with_reducible refine wpAny_isSubtype_exc hC ?_;first|rw[zA]|rw[Wm]|rw[Wn]) |wp_step)
 show R _ _;rw[Heap.size_push];exact hq
def EB(F:ExcBaseFacts B newId kJ Kt)(zA:(Value.ref C::bm).contains (.type B)=true){e t0:Addr}{od:Option Addr}{rest:List Value}(hC:h.get? C\(excClassObj nm q C N bs bm iy sn sub ab col dd k0 k1 k2 k3 k5 newId))(he:h.get? e\(cG C t0 od))
  (hq:∀h' t',h'.get? e\(cG C t' od)->(∀b o,b≠e->h.get? b\o->h'.get? b\o)->R (.ok (.ret .none)) #[h',g,d,t,os]) (Hn:rest.length<=sizeLine):
  codeAny (model prog w) A (.call (.builtin kJ) #[.ref e::rest,[]]) R #[h,g,d,t,os]:=by
 refine codeAny_call_builtin F.init.plain F.initEntry (zr F zA hC he rfl ?_)
 wp_walk
 have fb:e≠h.objs.size:=bE (Heap.lt_size he);refine hq _ h.objs.size ?_ λb o hb ho=>?_
 .rw[Heap.get?_update_self _ (Heap.get?_push_of_some _ he) rfl]
  rfl
 .rw[Heap.get?_update_other _ _ (Ne.symm hb)]
  exact Heap.get?_push_of_some _ ho
def F2(F:ExcBaseFacts B newId kJ Kt)(zA:(Value.ref C::bm).contains (.type B)=true)(Wm:(Value.ref C::bm).contains (.type "AttributeError")=false)(Wn:(Value.ref C::bm).contains (.type "NameError")=false)
  {rest:List Value} {init:Value} (hC:h.get? C\(excClassObj nm q C N bs bm iy sn sub ab col dd k0 k1 k2 k3 k5 newId)) (call:Looks (model prog w) h (specialOf (.ref C) "__call__") (some (.builtin "type.__call__"))) (typ:Looks (model prog w) h (isInstance (.ref C) (.type "type")) true)
  (hi:Looks (model prog w) h (typeLookup (.ref C) "__init__") (some init)) (hb:∀self,Looks (model prog w) h (bindSpecial init self) (init,[self])) (Hn:rest.length<=sizeLine)
  (hq:codeAny (model prog w) (A.under (.builtin "type.__call__" #[.ref C::rest,[]])) (.call init #[.ref (h.objs.size+1)::rest,[]]) (InitBack (h.objs.size+1) R) #[(h.push {cls:= .type "tuple",data:= .seq rest.toArray}).push (cG C h.objs.size none),g,d,t,os]):
  codeAny (model prog w) A (.call (.ref C) #[rest,[]]) R #[h,g,d,t,os]:=by
 refine codeAny_of_tree ?_;show wpAny _ _ (callAny (.ref C) _) _ _ _;refine nd_load hC ?_;show wpAny _ _ (callAny.viaDunder (.ref C) _) _ _ _;unfold callAny.viaDunder;refine wpAny_bind (call.at ?_);dsimp only;rw[tc_bind];refine wpAny_bind (wpAny_pure (wpAny_bind (wpAny_pure ?_)));refine wpAny_pure (a:=Fin.again (.call (.builtin "type.__call__") #[.ref C::rest,[]])) (And.intro rfl ?_);refine codeAny_call_builtin_at (Code.quiet_builtin _ (by decide+kernel)) entry_typeCall (check_slot tc_kind tc_split typ (tc_args _ _ _) ?_)
 have hm:Looks (model prog w) h (mroOf (.ref C)) (.ref C::bm):=((Looks.ld (part:=none) hC).andThen .now).andThen .now
 have made:Looks (model prog w) h (Bind.madeBy (.ref C)) (some newId):=by
  intro A Q E s k q;obtain⟨h2,g2,d2,t2,os2⟩:=s;exact wpAny_madeBy_exc (k _ _ hC) q
 unfold Builtin.«type.__call__»
 repeat (first|simp only[List.isEmpty_cons,eV,if_false]|with_reducible refine wpAny_call ?_|lk)
 refine codeAny_call_builtin_code (Code.quiet_builtin _ F.quiet) (BC F zA hC ?_);refine GI F zA Wm Wn hC ?_ Hn;have k:∀b o,h.get? b\o->((h.push {cls:= .type "tuple",data:= .seq rest.toArray}).push (cG C h.objs.size none)).get? b\o:=λb o e=>Heap.get?_push_of_some _ (Heap.get?_push_of_some _ e);have hx:((h.push {cls:= .type "tuple",data:= .seq rest.toArray}).push (cG C h.objs.size none)).get? (h.objs.size+1)\(cG C h.objs.size none):=by heap_get
 have t1:Looks (model prog w) ((h.push {cls:= .type "tuple",data:= .seq rest.toArray}).push (cG C h.objs.size none)) (typeOf (.ref (h.objs.size+1))) (.ref C):=(Looks.ld hx).andThen .now
 have s0:Looks (model prog w) h (isSubtype (.ref C) (.ref C)) true:=by
  intro A Q E s k q;obtain⟨h2,g2,d2,t2,os2⟩:=s;refine wpAny_isSubtype_exc (k _ _ hC) ?_;rw[show(Value.ref C::bm).contains (.ref C)=true by simp]
  exact q
 have s1:=s0.keeps k;have i1:=hi.keeps k;have b1:=(hb (.ref (h.objs.size+1))).keeps k;unfold isInstance callSpecial? specialOf
 repeat (first|with_reducible refine wpAny_call ?_|lk)
 refine codeAny_mono hq λr s' z=>?_
 rcases r with e| (v|_|_|_)<;>first|exact z|exact z.elim|skip
 obtain⟨rfl,z⟩:=z;exact wpAny_pure (wpAny_pure z)
end
noncomputable def tT(C a:Addr)(d:Option Addr):HO:= .ext λh=>∃t,h.get? a\(cG C t d)
noncomputable def zk(a:Addr)(fs:List (Str×V)):HO:= .ext λh=>fs.length<=1000/\∃mA,h.Ns1 a mA/\(∀f,kz (fs.lookup f) (mA f))/\cq mA (fs.map (·.1))
section
variable {P:Program} {w:World} {H:Hp} {h:Heap} {a C:Addr} {d:Option Addr} {fs:List (Str×V)}
def Jb{t:Addr}(e:h.get? a\(cG C t d)):cg P w H h a (tT C a d):=#[#[t,e],#[_,e],λh1 h2 #[t,p] k=>#[t,k _ p]]
def Qx{mA:Str->Option Value}(hl:fs.length<=1000)(n:h.Ns1 a mA)(r:∀f,kz (fs.lookup f) (mA f))(q:cq mA (fs.map (·.1))):cg P w H h a (zk a fs):=
 #[#[hl,mA,n,r,q],let #[o,_,_,e,_]:=n;#[o,e],λh1 h2 #[hl,mA,#[o,es,ep,e,c],r,q] k=>#[hl,mA,#[o,es,ep,k _ e,c],r,q]]
def wo(hok:gx P w H h)(e:H a\(tT C a d)):∃t,h.get? a\(cG C t d):=(hok a _ e).1
def DD(hok:gx P w H h)(e:H a\(zk a fs)):fs.length<=1000/\∃mA,h.Ns1 a mA/\(∀f,kz (fs.lookup f) (mA f))/\cq mA (fs.map (·.1)):=(hok a _ e).1
end
section
variable {X:Cx} {pins:List (Addr×Obj)} {σ:St} {H:Hp} {s:Shared}
theorem Inv.TM{a dx:Addr}{o1 o2:HO}{h':Heap}{t':Nat}(I:Inv X pins σ H s)(mu:MP (H a))(zC:s.heap.objs.size<=dx)(k:∀b u,b≠a->s.heap.get? b\u->h'.get? b\u)(EK:∃u,h'.get? a\u)
  (aal:cg X.prog X.w (upd (upd H a o1) dx o2) h' a o1) (aam:cg X.prog X.w (upd (upd H a o1) dx o2) h' dx o2):Inv X pins σ (upd (upd H a o1) dx o2) {s with heap:=h',toks:=t'}:=by
 have nd:H dx=none:=I.hok.fresh zC
 obtain⟨oa,ha⟩:∃o,H a\o:=by
  cases q:H a with
  |none=>rw[q] at mu;exact mu.elim
  |some o=>exact#[o,rfl]
 have Sh:a≠dx:=ao ha nd;have Fd:∀c y,H c\(.own y)->c≠a:=λc y r z=>by subst z;rw[r] at mu;exact mu
 have JO:∀c xs,H c\(.tup xs)->c≠a:=λc xs r z=>by subst z;rw[r] at mu;exact mu
 have aan:∀c o u,H c\(.qK o u)->c≠a:=λc o u r z=>by subst z;rw[r] at mu;exact mu
 have aar:∀c ps,H c\(.FP ps)->c≠a:=λc ps r z=>by subst z;rw[r] at mu;exact mu
 have up:∀b u,b≠a->H b\u->upd (upd H a o1) dx o2 b\u:=λb u hb e=>by rw[ag (ao e nd),ag hb];exact e
 refine I.un (h':=h') (t':=t') #[λb o e n _ _=>?_,λb o e n _ _=>#[o.slots,?_],λb o e n _=>?_,λb o e _=>?_,λb xs e=>up b _ (JO b xs e) e,λb o u e=>up b _ (aan b o u e) e,λb ps e=>#[#[],by rw[up b _ (aar b ps e) e];simp]] λb u e=>?_
 .exact k b o (λz=>by rw[z,ha] at n;cases n) e
 .exact k b o (λz=>by rw[z,ha] at n;cases n) e
 .rw[ag (λz=>by rw[z] at e;exact absurd (Heap.lt_size e) (Nat.not_lt.mpr zC)),ag (λz=>by rw[z,ha] at n;cases n)];exact n
 .by_cases z:b=a
  .rw[z];exact EK
  .exact#[o,k b o z e]
 .by_cases z:b=dx
  .subst z;rw[af] at e;cases e;exact aam
  .rw[ag z] at e
   by_cases z2:b=a
   .subst z2;rw[af] at e;cases e;exact aal
   .rw[ag z2] at e
    refine(I.hok b u e).mT (λc v hc q=>k c v ?_ q) (λc q=>up c _ (Fd c b q) q) λc xs q=>up c _ (JO c xs q) q
    rcases hc with y|y
    .rw[y];exact z2
    .exact Fd c b y
variable {a C:Addr} {fs:List (Str×V)} {f:Str} {v:V} {A:Around} {E:Value->Shared->Prop}
def T4(H:Hp)(C a:Addr)(f:Str)(y:V)(fs:List (Str×V))(Q:Hp->Prop):Prop:=
 (fs= []/\H a\(tT C a none)/\∀dx,H dx=none->Q (upd (upd H a (tT C a (some dx))) dx (zk dx [(f,y)])))\/
 (∃dx,H a\(tT C a (some dx))/\H dx\(zk dx fs)/\fs.length<1000/\Q (upd H dx (zk dx (i7 f y fs))))
def DH{y:V}{u:Value}{Q:Unit->Shared->Prop}{R:Hp->Prop}(I:Inv X pins σ H s)(c:js X.K C)(n:fP X.K C f)(ry:RelV y u)(p:T4 H C a f y fs R)
  (h:∀H' s',Inv X pins σ H' s'->R H'->Q ⟨⟩ s'):wpAny (model X.prog X.w) A (setAttr (.ref a) f u) Q E s:=by
 rcases p with ⟨rfl,e,q⟩ | ⟨dx,e,ed,hl,q⟩
 .obtain⟨t,et⟩:=wo I.hok e
  refine X7 I.dW c et n.II λh' hn hx k=>?_;refine h _ _ (I.TM (by rw[e];exact True.intro) (bq _) k #[_,hx] (Jb hx) ?_) (q s.heap.objs.size I.fresh)
  refine Qx (by simp) hn (λg=>?_) (λg hg=>?_)
  .by_cases z:g=f
   .rw[if_pos z,z];simp only[bf,beq_self_eq_true];exact ry
   .rw[if_neg z]
    have hb:(g==f)=false:=beq_eq_false_iff_ne.mpr z;simp only[bf,hb];exact True.intro
  .by_cases z:g=f
   .rw[z];simp
   .rw[if_neg z] at hg;exact absurd rfl hg
 .obtain⟨t,et⟩:=wo I.hok e
  obtain⟨_,mA,hn,r,wi⟩:=DD I.hok ed
  have ne:dx≠a:=by
   rintro rfl;obtain⟨o,es,ep,eo,hd,_⟩:=hn;rw[et] at eo;cases eo;cases hd
  have hz:(fs.map (·.1)).length<=sizeLine:=by rw[aI,sizeLine_eq];lia
  refine X8 I.dW c et hn ne n.II wi hz λh' B8 sb=>h _ _ (I.write (x:=dx) (e:=dx) (by rw[ed];exact True.intro) (.inl rfl) (λb q hb z=>(sb.2 b hb).trans z) (let #[o,_,_,e',_]:=B8;#[o,e']) ?_) q
  refine Qx (by have:=mh f y fs;lia) B8 (λg=>?_) (λg hg=>?_)
  .rw[mn]
   by_cases q:g=f
   .rw[if_pos q,if_pos q];exact ry
   .rw[if_neg q,if_neg q];exact r g
  .by_cases q:g=f
   .rw[q];exact(jY f y fs).1
   .refine(jY f y fs).2 g (wi g λz=>hg ?_)
    show(if g=f then some u else mA g)=none;rw[if_neg q];exact z
end
def XJ(K:ad)(ta tv:TE)(f:Str):TS:=λD σ H=>tv σ H λy H1=>ta σ H1 λx H2=>∃a C fs,x= .ref a/\js K C/\fP K C f/\T4 H2 C a f y fs λH3=>D.nx σ H3
section
variable {X:Cx} {o e value:Expr} {f:Str} {pos pos' aaZ:Pos} {ta tv:TE}
def Fn(ha:PE X o ta)(hv:PE X value tv)(hs:swapsWith value (some (.Attribute o f pos')) pos.line X.env=pure false):PS X (.Assign [.Attribute o f pos'] value pos) (XJ X.K ta tv f):=by
 intro pins s σ H D I h;refine plainObj_wpAny_Assign_Attribute (thn (hv pins s σ H _ I h) λu s1 #[y,H1,I1,ry,q]=>thn (ha pins s1 σ H1 _ I1 q) λov s2 #[x,H2,I2,rx,a,C,fs,ex,c,n,p]=>?_) hs;subst ex;obtain rfl:ov=Value.ref a:=rx;exact DH I2 c n ry p λH3 s3 I3 q=>#[σ,_,I3,q]
inductive DY:V->Value->Prop where
 |own (D:Addr):DY (.ref D) (.ref D)
 |blt (n:String):DY (.ty n) (.type n)
end
structure qc (K:ad) (C:Addr):Prop where
 obj:∃nm q N bs bm iy sn sub ab col dd k0 k1 k2 k3 k5,K.lookup C\(excClassObj nm q C N bs bm iy sn sub ab col dd k0 k1 k2 k3 k5 "ValueError.__new__")/\(Value.ref C::bm).contains (.type "ValueError")=true/\
  (Value.ref C::bm).contains (.type "AttributeError")=false/\(Value.ref C::bm).contains (.type "NameError")=false
structure Vd (K:ad) (C:Addr) (init:Value):Prop extends qc K C where
 call:bv K (.ref C) "__call__"\(some (.builtin "type.__call__"))
 typ:PySem.W.instIn K (.ref C) (.type "type")\true
 ini:ak K (.ref C) "__init__"\(some init)
 kp:am K (.ref C)=true
def TL{H:Hp}{a:Addr}{o:HO}(e:H a\o):upd H a o=H:=by
 funext b
 by_cases h:b=a
 .rw[h,af,e]
 .rw[ag h]
def TB(C:Addr)(sp:Sp)(E:XK)(t:TA):TE:=λσ H Q=>t σ H λvs H1=>∀e,H1 e=none->sp (.ref e::vs) (upd H1 e (tT C e none)) (λv H2=>v= .aL/\Q (.ref e) H2) E
def Tz(K:ad)(t:TA):TE:=λσ H Q=>t σ H λvs H1=>∃a C d y,vs= [.ref a,y]/\H1 a\(tT C a d)/\qc K C/\Q .aL H1
section
variable {X:Cx} {CX:pX} {k:Nat} {f C:Addr} {fd:FuncData} {ps:List Str} {sp:Sp} {E:XK} {x m:Str} {p pos apos:Pos} {e o:Expr} {es:List Expr} {ta:TE} {t:TA}
theorem Io{pins:List (Addr×Obj)}{σ:St}{H:Hp}{s:Shared}{Q:VK}{us:List Value}{vs:List V}(M:Vd X.K C (.ref f))(hf:b5 X.K (.ref f)=true)(F:FnOk X.prog X.w X.K X.mg X.base CX k f fd ps sp)(hr:bJ (k+1) X.A)(hb:Binds X.K fd ps [])
  (OC:ps.length<=1000) (hx:Passes CX X E) (I:Inv X pins σ H s) (r:Vals vs us)
  (h:∀e,H e=none->sp (.ref e::vs) (upd H e (tT C e none)) (λv H2=>v= .aL/\Q (.ref e) H2) E):
  wpAny (model X.prog X.w) X.A (call (.ref C) us) (EP X pins σ Q) X.xe s:=by
 obtain⟨nm,q,N,bs,bm,iy,sn,sub,ab,col,dd,k0,k1,k2,k3,k5,hC,cB,cA,cN⟩:=M.obj;have hq:=h (s.heap.objs.size+1) (I.hok.fresh (mX _))
 have hx1:((s.heap.push {cls:= .type "tuple",data:= .seq us.toArray}).push (cG C s.heap.objs.size none)).get? (s.heap.objs.size+1)\(cG C s.heap.objs.size none):=by
  have:=Heap.get?_push_size (s.heap.push {cls:= .type "tuple",data:= .seq us.toArray}) (o:=cG C s.heap.objs.size none) rfl
  rwa [Heap.size_push] at this
 have I2:Inv X pins σ (upd H (s.heap.objs.size+1) (tT C (s.heap.objs.size+1) none)) {s with heap:=(s.heap.push {cls:= .type "tuple",data:= .seq us.toArray}).push (cG C s.heap.objs.size none)}:=
  I.laid (t':=s.toks) (λb u q=>Heap.get?_push_of_some _ (Heap.get?_push_of_some _ q)) (mX _) (Jb hx1)
 have r2:Vals (V.ref (s.heap.objs.size+1)::vs) (Value.ref (s.heap.objs.size+1)::us):= .cons rfl r
 have hl:((Value.ref (s.heap.objs.size+1)::us)++ []).length=ps.length:=by
  have e:=r2.length;rw[F.len _ _ _ _ hq] at e;rw[eJ];exact e.symm
 have hlen:us.length<=sizeLine:=by
  rw[eJ,dG] at hl;exact pb (aZ ())
 have GX:=hb _ (Value.ref (s.heap.objs.size+1)::us) I2.dW hl;rw[eJ] at GX;obtain⟨hh,g,d,tk,os⟩:=s
 refine wpAny_call (F2 (init:= .ref f) PySem.F.excBase_ValueError cB cA cN (I.dW _ _ hC) (PySem.W.looks_specialIn I.dW M.call) (PySem.W.looks_instIn I.dW M.typ) (PySem.W.looks_findIn I.dW M.ini) (λself=>PySem.W.bind_fn I.dW self (beq_iff_eq.mp hf)) hlen
  (codeAny_mono (F.run _ X.stack _ _ #[Value.ref (hh.objs.size+1)::us,[]] (Value.ref (hh.objs.size+1)::us) _ _ E (hr.make C us []) (I2.Jz.make C us []) GX r2 hq) λr s' nY=>?_))
 cases r with
 |error e=>exact hx pins σ _ _ e s' I2 nY
 |ok fl=>
  cases fl with
  |ret u=>
   refine aa λG0 k0=>?_;obtain⟨v,H',I3,rv,ev,q3⟩:=I2.after nY;subst ev;refine k0 ?_;exact#[rv,#[V.ref (hh.objs.size+1),H',I3,rfl,q3]]
  |next=>exact False.elim nY
  |brk=>exact False.elim nY
  |cont=>exact False.elim nY
def L6(M:Vd X.K C (.ref f))(hf:b5 X.K (.ref f)=true)(F:FnOk X.prog X.w X.K X.mg X.base CX k f fd ps sp)(hr:bJ (k+1) X.A)(hg:Gl X x)(hm:X.mg x\(.ref C))(hb:Binds X.K fd ps [])(OC:ps.length<=1000)(hx:Passes CX X E)
  (ha:PA X (e::es) t) (eQ:(x==("__debug__":Str))=false:=by decide) (he:starEach (e::es) X.env=(false,eval e X.env)::starEach es X.env:=by rfl) (b9:(backTo pos (starEach es X.env)).any (·.1)=false:=by rfl):
  PE X (.Call (.Name x p) (e::es) [] pos) (TB C sp E t):=by
 intro pins s σ H Q I h;refine wpAny_Call_Name_kw (jZ I hg hm ?_ eQ);refine PySem.W.callWith_K (h₀:=X.base) I.ok.mod.kin M.kp (thn (ha pos pins s σ H _ I h) λus s1 #[vs,H1,I1,r,q]=>#[I1.dW,?_]) he b9;exact Io M hf F hr hb OC hx I1 r q
def L5{C0:Addr}{pl:Sem Bool}(hg:Gl X x)(hm:X.mg x\(.ref C0))(sg:bv X.K (.ref C0) "__getattribute__"\(some (.builtin "type.__getattribute__")))(rd:d3 X.K C0 (.type "type")=true)
  (fc:d6 X.K (.ref C0) (.type "type") "__init__"\(.val (.builtin "ValueError.__init__"))) (ha:PA X (e::es) t) (eQ:(x==("__debug__":Str))=false:=by decide)
  (he:starEach (e::es) X.env=(false,eval e X.env)::starEach es X.env:=by rfl) (b9:(backTo pos (starEach es X.env)).any (·.1)=false:=by rfl)
  (ht:eval (.Call (.Attribute (.Name x p) "__init__" apos) (e::es) [] pos) X.env=(do
   let ov <-eval (.Name x p) X.env
   standAt apos.atName
   let (f,first) <-holding [ov] (getMethod ov "__init__" pl)
   callWith pos f first (backTo pos (starEach (e::es) X.env)) (backToKw pos (keywordEach [] X.env))):=by rfl):
  PE X (.Call (.Attribute (.Name x p) "__init__" apos) (e::es) [] pos) (Tz X.K t):=by
 intro pins s σ H Q I h;refine PySem.W.methodCall_KW (pl:=pl) (jZ I hg hm ?_ eQ) ht;refine PySem.W.method_cls I.dW sg (PySem.W.cls_value I.dW rd fc (by decide+kernel) ?_)
 refine PyProof.Rows.callWith_builtin1 (thn (ha pos pins _ σ H _ (I.tok _) h) λus s1 #[vs,H1,I1,r1,a,C,d,y,ev,ea,xo,q1]=>?_) he b9;refine aa λG0 k0=>?_;subst ev;obtain⟨u1,u2,rfl,ra,ry⟩:=r1.two;subst ra;obtain⟨nm,q,N,bs,bm,iy,sn,sub,ab,col,dd,k0,k1,k2,k3,k5,hC,cB,cA,cN⟩:=xo.obj;obtain⟨t0,et⟩:=wo I1.hok ea;obtain⟨hh,g,dr,tk,os⟩:=s1;refine k0 ?_;refine wpAny_call (EB PySem.F.excBase_ValueError cB (I1.dW _ _ hC) et (λh' t' hx2 kk=>?_) (by show 1<=sizeLine;decide))
 have I2:=I1.write (x:=a) (e:=a) (o:=tT C a d) (t':=tk) (by rw[ea];exact True.intro) (.inl rfl) (λb u hb q=>kk b u hb q) #[_,hx2] (Jb hx2)
 rw[TL ea] at I2;exact#[.aL,H1,I2,rfl,q1]
end
section
variable {X:Cx} {pins:List (Addr×Obj)} {σ:St} {H:Hp} {s:Shared} {A:Around} {E:Value->Shared->Prop} {Q:Value->Shared->Prop} {b:Bool}
end
def br.of(f:Scope)(e:X.env.scope=f)(k:d.kind= .function)(a:∀x∈d.names,x.2= .local->d.names.lookup x.1\.local)(b:∀x∈d.names,x.2≠ .cell)
  (c:∀x∈d.names,x.2= .free->f.names.lookup x.1\.cell\/f.names.lookup x.1\.free):br X d:=#[k,a,b,λx g h=>by rw[<-e] at c;exact c x g h]
def Aw{K:ad}{a:Addr}{xs:List V}{g:TG}{l:TS}{D:Ends}{b:St}{H:Hp}(c:Nat->St->Hp->Prop)(o:c 0 b H)(r:∀i b H,i<=xs.length->c i b H->aG K H a xs)
  (s:∀(i:Nat) x t b H,xs[i]?\x->H t=none->c i b H->g (.ref t) b (upd H t (.tup [.int (i:Int),x])) λf h=>l {D with nx:=c (i+1),ct:=c (i+1),bk:=D.nx} f h) (u:∀b H,c xs.length b H->D.nx b H):
  ∃W:Nat->Nat->St->Hp->Prop,(∃m,W 0 m b H)/\∀i m b H,W i m b H->
   ((Km K a).stop i H/\D.nx b H)\/((Km K a).go i H/\∃N:St->Hp->Prop,(∀j d,N j d->∃n,n<m/\W (i+1) n j d)/\∀x d,(Km K a).yld i H x d->g x b d λf h=>l {D with nx:=N,ct:=N,bk:=D.nx} f h):=by
 refine#[λi m b H=>m=xs.length-i/\i<=xs.length/\c i b H,#[xs.length,by simp,dA _,o],?_]
 rintro i m b H ⟨rfl,w,p⟩;have q:=r i b H w p
 by_cases k:i<xs.length
 .refine .inr #[#[xs,xs[i],q,by simp[k]],c (i+1),λj d z=>#[xs.length-(i+1),o0_ k,rfl,k,z],λx d y=>?_]
  obtain⟨t,v,rfl,A,rfl,B⟩:=y;exact s i v t b H (B xs q) A p
 .have e:i=xs.length:=()
  subst e;exact .inl #[#[xs,q,bq _],u b H p]
def AI{K:ad}(e:X.K=K:=by rfl):wA X (JW K):=by rw[<-e];exact bG
def E2{K:ad}(e:X.K=K:=by rfl):wA X (US K):=by rw[<-e];exact JK
def HX{K:ad}(e:X.K=K:=by rfl):OpR X (compareOp .NotIn) (SS K true):=by rw[<-e];exact qh
structure bR (K:ad) (mg:Str->Option Value) (x:Str) (st:Stmt) (ps:List Str) where
 f:Addr
 fd:FuncData
 F:qy K x x st f fd
 b:Binds K fd ps []
 m:mg x\(.ref f)
def ay(h:H p=none)(o:HO):aB H (upd H p o):=λb u q=>by rw[ag (ao q h)];exact q
def small(h:n<=1000):n<=sizeLine:=pb (aZ h)
abbrev iZ(C t:Addr)(a:Value)(d:Option Addr):Obj:={cls:= .ref C,dict:=d,data:= .fields [.ref t,a, .none, .none, .bool false, .none].toArray}
noncomputable def lV(C a:Addr)(d:Option Addr):HO:= .ext λh=>∃t b,h.get? a\(iZ C t b d)
section
variable {P:Program} {w:World} {H:Hp} {h:Heap} {a C:Addr} {d:Option Addr}
def NM{tb:Value}(e:h.get? a\(iZ C t tb d)):cg P w H h a (lV C a d):=#[#[t,tb,e],#[_,e],λb c #[t,tb,p] k=>#[t,tb,k _ p]]
def JB(hok:gx P w H h)(e:H a\(lV C a d)):∃t b,h.get? a\(iZ C t b d):=(hok a _ e).1
end
def D1(h:Heap)(T:Addr):Prop:=∃o a,h.get? T\o/\o.data= .fields a/\a[3]?\.none
section
variable {M:Model} {A:Around} {E:Value->Shared->Prop} {s:Shared}
def xT 
  (N:A.frames\(env::outer)) (v:s.heap.FunFrames base (env::outer)) (O:env.frame\L)
  (w:s.heap.get? e\(iZ C t j d))
  (h:∀k T,s.heap.objs.size<=T->k.get? e\(iZ C t (.ref T) d)->D1 k T->(∀b o,s.heap.get? b\o->b≠e->∃p,k.get? b\{o with slots:=p})->
   (∀b o,s.heap.get? b\o->b≠e->b∉rQ (env::outer)->k.get? b\o)->Q ⟨⟩ {s with heap:=k}):
  wpAny M A (do let a <-frameOf env;let pl <-entryPlaceOf L J;let b <-EntryCells.newEntry g a .none (rawInt L) .none pl;setField (.ref e) 1 b) (λ_ P=>wpAny M A (setFlight (.ref e) none) Q E P) E s:=by
 have q:(iZ C t j d).data= .fields [.ref t,j, .none, .none, .bool false, .none].toArray:=rfl;have R:1<([.ref t,j, .none, .none, .bool false, .none].toArray:Array Value).size:=by simp
 have S:e∉(env::outer).filterMap (·.frame):=λX=>by
  obtain⟨_,o,m,Y⟩:=v.mem X;rw[w] at m;injection m with m;subst m;exact Y _ q
 refine wpAny_bind (wpAny_frameOf_fun N v O λc n=>?_);refine wpAny_bind (wpAny_entryPlaceOf λpl y=>?_);unfold EntryCells.newEntry newFields;refine wpAny_bind (abF ?_ (y.sizeOk5 _ _ _ _ _));have z:c.get? e\(iZ C t j d):=(n.2.1 e S).trans w;have B:=AC (h:=c) {cls:= .type "traceback",dict:=none,data:= .fields ([g, .ref L, .none,rawInt L, .none]++(if pl.isEmpty then bu 6 Value.none else pl)).toArray} z;refine ad6 B q R ?_;have F:c.objs.size≠e:=je (Do z);have G:=acj q (·.setIfInBounds 1 (Value.ref c.objs.size));have H:=P3 (Obj.mapFields (·.setIfInBounds 1 (Value.ref c.objs.size))) B (acN G)
 have I:=(Pi (c.push {cls:= .type "traceback",dict:=none,data:= .fields ([g, .ref L, .none,rawInt L, .none]++(if pl.isEmpty then bu 6 Value.none else pl)).toArray})
  (Obj.mapFields (·.setIfInBounds 1 (Value.ref c.objs.size))) (Ne.symm F)).trans (GE c rfl)
 unfold setFlight;refine wpAny_bind (abE H G (x:= .ref c.objs.size) (by simp) ?_)
 rw[mo (show(Value.ref c.objs.size !=Value.none)=true from by simp)]
 refine ad6 I rfl (by simp only[b7,dh,dG,o9]<;>lia) ?_
 have keep:∀b o,b≠e->c.get? b\o->
   (((c.push {cls:= .type "traceback",dict:=none,data:= .fields ([g, .ref L, .none,rawInt L, .none]++(if pl.isEmpty then bu 6 Value.none else pl)).toArray}).update e (Obj.mapFields (·.setIfInBounds 1 (Value.ref c.objs.size)))).update c.objs.size
     (Obj.mapFields (·.setIfInBounds 3 ((none:Option Addr).elim Value.none λf=>rawInt f)))).get? b\o:=λb o l i=>by
  have r:c.objs.size≠b:=je (Do i);rw[Pi _ _ r,Pi _ _ (Ne.symm l)];exact AC _ i
 refine h _ c.objs.size (by rw[n.1];exact bq _) ?_ #[_,_,P3 _ I (acN (acj rfl _)),acj rfl _,by first| (simp;done) | (rcases y with rfl| ⟨_,_,_,_,_,_,_,rfl⟩<;>simp)] (λb o i l=>?_) (λb o i l u=>?_)
 .rw[Pi _ _ F];exact H
 .obtain⟨p,Z⟩:=n.2.2 b o i
  exact#[p,keep b _ l Z]
 .exact keep b o l ((n.2.1 b u).trans i)
def HD{base:Heap} 
  (G:A.frames\(env::outer)) (H:s.heap.FunFrames base (env::outer)) (r:env.frame\L)
  (u:s.heap.get? e\(iZ C t g d)) (I:g= .none\/∃T,g= .ref T/\T≠e/\D1 s.heap T)
  (h:∀c T,s.heap.objs.size<=T->c.get? e\(iZ C t (.ref T) d)->D1 c T->(∀b o,s.heap.get? b\o->b≠e->∃J,c.get? b\J)->(∀b o,s.heap.get? b\o->b≠e->g≠ .ref b->∃k,c.get? b\{o with slots:=k})->
   (∀b o,s.heap.get? b\o->b≠e->g≠ .ref b->b∉rQ (env::outer)->c.get? b\o)->Q ⟨⟩ {s with heap:=c}):
  wpAny M A (noteFrame (.ref e) env) (λ_ N=>wpAny M A (setFlight (.ref e) none) Q E N) E s:=by
 have O:(iZ C t g d).data= .fields [.ref t,g, .none, .none, .bool false, .none].toArray:=rfl;unfold noteFrame;simp only[r];refine wpAny_bind (abE (x:=g) u O rfl ?_)
 rcases I with rfl| ⟨T,rfl,P,Z,R,l,m,i⟩
 .rw[tz ∅]
  exact xT G H r u λc T p v i j y=>h c T p v i (λb o q n=>let #[k,z]:=j b o q n;#[_,z]) (λb o q n _=>j b o q n) λb o q n _=>y b o q n
 .rw[mo (show(Value.ref T !=Value.none)=true from by simp)]
  refine wpAny_bind (abE l m i ?_);rw[tz (show ¬((Value.none==rawInt L)=true) from by simp[rawInt])]
  refine wpAny_bind (ad6 l m (yV.mp i).1 ?_);have a:∀b,b≠T->(s.heap.update T (Obj.mapFields (·.setIfInBounds 3 Value.none))).get? b=s.heap.get? b:=λb f=>Pi _ _ (Ne.symm f)
  have S:∀b o,s.heap.get? b\o->(∀X,o.data≠ .fields X)->b≠T:=λb o f B q=>by
   rw[q,l] at f;injection f with f;subst f;exact B R m
  have F:=P3 (Obj.mapFields (·.setIfInBounds 3 Value.none)) l (acN (acj m _));refine xT (s:={s with heap:=s.heap.update T (Obj.mapFields (·.setIfInBounds 3 Value.none))}) G (H.of_keeps λb o f B=>#[o,(a b (S b o f B)).trans f,rfl]) r ((a e (Ne.symm P)).trans u) λc Y p v i j y=>?_
  refine h c Y (by rw[Heap.size_after_update] at p;exact p) v i (λb o q n=>?_) (λb o q n z=>j b o ((a b λw=>z (by rw[w])).trans q) n) λb o q n z=>y b o ((a b λw=>z (by rw[w])).trans q) n
  by_cases z:b=T
  .subst z
   obtain⟨k,z⟩:=j b _ F n;exact#[_,z]
  .obtain⟨k,z⟩:=j b o ((a b z).trans q) n
   exact#[_,z]
end
def Ym(X:Cx)(H:Hp)(h:Heap)(a:Value):Prop:=a= .none\/∃T,a= .ref T/\X.s₀.heap.objs.size<=T/\T≠X.env.locals/\(∀x c,X.env.cells.lookup x\c->c≠T)/\(∀p∈X.pn,p.1≠T)/\H T=none/\D1 h T
def wy(X:Cx)(H:Hp)(s:Shared)(a:Addr):Prop:=∃C t b d,H a\(lV C a d)/\s.heap.get? a\(iZ C t b d)/\Ym X H s.heap b
structure Yg (P:Program) (w:World) (outer:List Env) (H:Hp) (s:Shared) (a:Addr) (H':Hp) (s':Shared):Prop where
 os:s'.os=s.os
 bare:AllBare s'.gens
 un:Un (rQ outer) [] H H' s.heap s'.heap
 hok:gx P w H' s'.heap
 obj:∃C t tb d,H' a\(lV C a d)/\s'.heap.get? a\(iZ C t tb d)/\(tb= .none\/∃T,tb= .ref T/\s.heap.objs.size<=T/\H' T=none/\D1 s'.heap T)
def zg(P:Program)(w:World):pX:=λouter H s E e c=>∃a b,e= .ref a/\Yg P w outer H s a b c/\E e none b
section
variable {X:Cx} {pins:List (Addr×Obj)} {σ:St} {H H':Hp} {s s':Shared} {a:Addr}
def Inv.MY(I:Inv X pins σ H s):Inv X [] σ H s:=#[I.ok,I.os,I.bare,I.base,I.loc,I.cell,I.free,I.freeC,λp b=>I.pin p (by rw[eJ] at b;exact km _ b),I.hok,I.len]
def Rk(I:Inv X pins σ H s)(f:Yg X.prog X.w X.stack H s a H' s'):Inv X [] σ H' s'/\wy X H' s' a:=by
 rfl';obtain⟨os,bare,un,hok,C,t,h,d,i,j,k⟩:=f;have l:Inv X pins σ H' s':=I.Gm (ch:= []) os un hok bare (λb z=>absurd z (by simp))
 ac_rfl;refine#[l.MY,C,t,h,d,i,j,k.imp id λ#[T,m,e,n,q]=>#[T,m,iq I.sz e,?_,λx c r z=>?_,λp u z=>?_,n,q]]
 .exact λz=>absurd (cP I.lt e) (by rw[z];exact jy _)
 .obtain⟨v,o,y,_⟩:=I.cell x c r
  exact absurd (cP (Do y) e) (by rw[z];exact jy _)
 .have:=(I.pin p (km _ u)).1
  exact absurd (cP (Do this) e) (by rw[z];exact jy _)
def AU(r:X.stack=X.env::X.outer)(Z:X.env.frame\X.env.locals)(I:Inv X [] σ H s)(f:wy X H s a)
  (h:∀s',Inv X [] σ H s'->wy X H s' a->Q ⟨⟩ s'):
  wpAny M X.A (noteFrame (.ref a) X.env) (λ_ s'=>wpAny M X.A (setFlight (.ref a) none) Q E s') E s:=by
 obtain⟨C,t,tb,d,j,h2,B⟩:=f;have fr:s.heap.FunFrames X.base (X.env::X.outer):=by rw[<-r];exact I.stack
 refine HD (base:=X.base) (by rw[I.ok.frames,r]) fr Z h2 (B.imp id λ#[T,e1,_,_,_,_,P,e7]=>#[T,e1,(λz=>by rw[z,j] at P;cases P),e7]) λk T F G J k0 k1 R=>?_
 have tr:∀b u,H b\u->b≠a->∀o,s.heap.get? b\o->k.get? b\o:=λb u i fb o l=>by
  refine R b o l fb (λz=>?_) λz=>?_
  .rcases B with q| ⟨T,q,_,_,_,_,L,_⟩
   .rw[q] at z;cases z
   .rw[q] at z;cases z;rw[i] at L;cases L
  .have:=I.yD b (by rw[r];exact z)
   rw[i] at this;cases this
 have hok:gx X.prog X.w H k:=λb u i=>by
  by_cases z:b=a
  .subst z;rw[j] at i;cases i;exact NM G
  .refine(I.hok b u i).mT (λc v g q=>?_) (λ_ q=>q) λ_ _ q=>q
   rcases g with rfl|g
   .exact tr c u i z v q
   .exact tr c _ g (λw=>by rw[w,j] at g;cases g) v q
 have N:H T=none:=I.hok.fresh F;have O:∀c o,s.heap.get? c\o->c≠T:=λc o g z=>absurd (cP (Do g) F) (by rw[z];exact jy _)
 have fin:∀ch:List Addr,(∀b,tb= .ref b->b∈ch)->(∀b∈ch,(b∈X.ex\/X.s₀.heap.objs.size<=b)/\b≠X.env.locals/\(∀x c,X.env.cells.lookup x\c->c≠b)/\∀p∈X.pn++ [],p.1≠b)->Inv X [] σ H {s with heap:=k}:=λch S h6=>by
  refine I.Gm (s':={s with heap:=k}) (ch:=ch) rfl #[λb o e n i g=>?_,λb o e n _ g=>?_,λb o _ n _=>n,λb o e _=>?_,λ_ _ q=>q,λ_ _ _ q=>q,λ_ ps q=>#[#[],by rw[q];simp]] hok I.bare h6
  .exact R b o e (λz=>by rw[z,j] at n;cases n) (λz=>g (S b z)) (by rw[<-r];exact i)
  .exact k1 b o e (λz=>by rw[z,j] at n;cases n) (λz=>g (S b z))
  .by_cases z:b=a
   .exact#[_,by rw[z];exact G]
   .exact k0 b o e z
 have I':Inv X [] σ H {s with heap:=k}:=by
  rcases B with q| ⟨Y,q,q2,q3,q4,q5,L,q7⟩
  .exact fin [] (λb z=>by rw[q] at z;cases z) λb z=>absurd z (by simp)
  .refine fin [Y] (λb z=>by rw[q] at z;cases z;exact dB ..) λb z=>?_
   have:b=Y:=by simpa using z
   subst this;exact#[.inr q2,q3,q4,λp y=>q5 p (by rw[eJ] at y;exact y)]
 refine h _ I' #[C,t, .ref T,d,j,G, .inr #[T,rfl,iq I.sz F,?_,λx c g=>?_,λp y=>?_,N,J]]
 .obtain⟨m,⟨o,_,_,l,_⟩,_⟩:=I.loc
  exact(O _ _ l).symm
 .obtain⟨v,o,l,_⟩:=I.cell x c g
  exact O _ _ l
 .exact O _ _ (I.pin p (km _ y)).1
end
def Jn(X:Cx)(b:St)(H:Hp)(a:Addr):Prop:=∀s,Inv X [] b H s->wy X H s a->X.xe (.ref a) s
def NN{P:Program}{w:World}{K:ad}{e:Str->Option Value}{base:Heap}{N:List Str}{c:Str}{b:Scope}{f:Addr}{g:Value}{A:Around}{outer:List Env}{s k:Shared}{H i:Hp}{E:XK}{l:St}{a:Addr}
  (I:Inv (jt (zg P w) P w K e base N c b f g A outer s H E) [] l i k) (m:wy (jt (zg P w) P w K e base N c b f g A outer s H E) i k a) (h:E (.ref a) none i):(jt (zg P w) P w K e base N c b f g A outer s H E).xe (.ref a) k:=by
 show wpAny _ _ (leaving _ _) _ _ _;unfold leaving;refine wpAny_bind (AU (X:=jt (zg P w) P w K e base N c b f g A outer s H E) rfl rfl I m λB j n=>?_);rfl';obtain⟨C,t,p,d,q,r,u⟩:=n;ac_rfl;exact#[a,i,rfl,#[j.os,j.bare,j.base,j.hok,C,t,p,d,q,r,u.imp id λ#[T,v,x,_,_,_,y,z]=>#[T,v,x,y,z]],h]
end L2
namespace TS
open PySem PyProof.Rows
noncomputable def fi:Bool->Keyed->Array Keyed->Nat->Nat->Nat->StateT SortSt Sem (Option Nat):=sortPriv%PySem.Builtin.gallop
noncomputable def pH:Array Keyed->Array Keyed->StateT SortSt Sem (Array Keyed):=sortPriv%PySem.Builtin.mergeLo
noncomputable def pG:Array Keyed->Array Keyed->StateT SortSt Sem (Array Keyed):=sortPriv%PySem.Builtin.mergeHi
noncomputable def setMinGallop':Nat->StateT SortSt Sem Unit:=sortPriv%PySem.Builtin.setMinGallop
noncomputable def jU(left:Bool)(key:Keyed)(arr:Array Keyed)(base i:Nat):StateT SortSt Sem (Option Bool):=do
 let x <-elem' arr (base+i)
 if left then lt' x key else return (<-lt' key x).map (!·)
def EC(left:Bool)(key:Keyed)(arr:Array Keyed)(base n a:Nat):fi left key arr base n a=(do
 let mut lastofs:=0
 let mut ofs:=1
 let mut lo:=0
 let mut hi:=0
 let some right <-jU left key arr base a|return none
 if right then
  let b:=n-a
  for _ in [0:n] do
   if ofs>=b then break
   let some more <-jU left key arr base (a+ofs) |return none
   if !more then break
   lastofs:=ofs
   ofs:=2*ofs+1
  lo:=a+lastofs+1
  hi:=a+min ofs b
 else
  let b:=a+1
  for _ in [0:n] do
   if ofs>=b then break
   let some found <-jU left key arr base (a-ofs) |return none
   if found then break
   lastofs:=ofs
   ofs:=2*ofs+1
  lo:=a+1-min ofs b
  hi:=a-lastofs
 for _ in [0:n] do
  if lo>=hi then break
  let m:=lo+(hi-lo) / 2
  let some more <-jU left key arr base m|return none
  if more then lo:=m+1 else hi:=m
 return some hi):=rfl
def gQ(O:KeyOrd)(key:Keyed->O.α)(S:Keyed->Prop)(a:SortKind)(M:Model)(A:Around)(E:Value->Shared->Prop)(s:Shared):Prop:=
 ∀(x y:Keyed)(st:SortSt)(Q:Option Bool->SortSt->Prop),S x->S y->kindOf st=a->Q (some (O.blt (key x) (key y))) st->wpS M A E s (lt' x y) Q st
section
variable {O:KeyOrd} {key:Keyed->O.α} {S:Keyed->Prop} {k0:SortKind} {M:Model} {A:Around} {E:Value->Shared->Prop} {s:Shared} {st:SortSt}
noncomputable def d9(O:KeyOrd)(key:Keyed->O.α)(left:Bool)(k x:Keyed):Bool:=if left then O.blt (key x) (key k) else !O.blt (key k) (key x)
def bo{i:Nat}(h:arr[i]?\x)(q:Q x st):wpS M A E s (elem' arr i) Q st:=by
 rw[elem'_eq,h];exact FB q
theorem kN(C:gQ O key S k0 M A E s)(d:arr[base+i]?\x)(a:S k)(b:S x)(c:kindOf st=k0)
  (q:Q (some (d9 O key left k x)) st):wpS M A E s (jU left k arr base i) Q st:=by
 unfold jU;refine Fk (bo d ?_);unfold d9 at q;cases left with
 |true=>exact C _ _ _ _ b a c q
 |false=>exact Fk (C _ _ _ _ a b c (FB q))
structure Seg (S:Keyed->Prop) (arr:Array Keyed) (base n:Nat) (g:Nat->Keyed):Prop where
 at_:∀i,i<n->arr[base+i]?\(g i)
 mem:∀i,i<n->S (g i)
def _root_.o31_{a b c:Nat}(d:a<=b)(e:b<=c):b-a<=c-0:=()
def _root_.o32_{a b c:Nat}(d:a<=b)(e:b-a<=c-max 0 c):a=b:=()
def _root_.o33_{a b c:Nat}(d:a<=b)(e:¬(c>=a)):c+(a-c)/2<b:=()
def _root_.o34_{a b:Nat}(c:¬(a>=b)):a+(b-a)/2+1<=b:=()
def _root_.o35_{a b c d:Nat}(e:a<b)(f:c-d<=b-a)(g:¬(d>=c)):c-(d+(c-d)/2+1)<=b-(a+1):=()
def _root_.o36_{a b:Nat}:a<=a+(b-a)/2:=()
def _root_.o37_{a b c d:Nat}(e:a<b)(f:c-d<=b-a)(g:¬(d>=c)):d+(c-d)/2-d<=b-(a+1):=()
def _root_.o38_{a b c:Nat}(d:a<b)(e:max 0 b<c):b-a<=c:=()
def _root_.o39_{a b c:Nat}(d:a<b)(e:¬(c>=b-a)):a+c<b:=()
def _root_.o40_{a b c d:Nat}(e:a<b)(f:c<d)(g:a+c<b):a+c+1<=a+min d (b-a):=()
def _root_.o41_{a b c:Nat}(d:a<b):a+min c (b-a)<=b:=()
def _root_.o42_{a b c d:Nat}{e:Prop}(f:a<b)(g:a+min c (b-a)<=d)(h:d<b)(i:b-a<=c):e:=()
def _root_.o43_{a b c d:Nat}(e:a<b)(f:a+min c (b-a)<=d)(g:a+c<b):a+c<=d:=()
def _root_.o44_{a b c:Nat}(d:a<b)(e:max 0 b<c):a+1<=c:=()
def _root_.o45_{a b c d:Nat}(e:a<b)(f:c<d)(g:¬(d>=a+1)):a-d<b:=()
def _root_.o46_{a b c:Nat}(d:a<b)(e:a<=c):c+1-min b (c+1)<=c-a:=()
def _root_.o47_{a b c:Nat}(d:a<b)(e:c<=a):a-c<=b:=()
def _root_.o48_{a b c:Nat}{d:Prop}(e:a<b+1-min c (b+1))(f:b+1<=c):d:=()
def _root_.o49_{a b c:Nat}(d:a<b+1-min c (b+1))(e:c<=b):a<=b-c:=()
def _root_.o50_{a b c d:Nat}(e:a<b)(f:c<d)(g:d<=a):a-d<b:=()
theorem gL(C:gQ O key S k0 M A E s){base n a:Nat}(G:Seg S arr base n g)(P:S k)(R:kindOf st=k0)(v:a<n)
  (mono:∀i j,i<=j->j<n->d9 O key left k (g j)=true->d9 O key left k (g i)=true)
  (q:∀p,p<=n->(∀i,i<p->d9 O key left k (g i)=true)->(∀i,p<=i->i<n->d9 O key left k (g i)=false)->Q (some p) st):wpS M A E s (fi left k arr base n a) Q st:=by
 rw[EC];refine Fk (kN C (G.at_ _ v) P (G.mem _ v) R ?_)
 have Y:∀i j,i<=j->j<n->d9 O key left k (g i)=false->d9 O key left k (g j)=false:=λi j eE hj h=>by
  cases e:d9 O key left k (g j) with
  |false=>rfl
  |true=>rw[mono i j eE hj e] at h;cases h
 have fin:∀lo b,lo<=b->b<=n->(∀i,i<lo->d9 O key left k (g i)=true)->(∀i,b<=i->i<n->d9 O key left k (g i)=false)->
   wpS M A E s (do
    let mut lo:=lo
    let mut b:=b
    for _ in [0:n] do
     if lo>=b then break
     let m:=lo+(b-lo) / 2
     let some more <-jU left k arr base m|return none
     if more then lo:=m+1 else b:=m
    return some b) Q st:=by
  intro lo b L hn B F;dsimp only
  refine Fk (SZ (UF (I:=λx c f=>f=st/\∃lo b,c=(none,lo,b)/\lo<=b/\b<=n/\b-lo<=n-x/\(∀i,i<lo->d9 O key left k (g i)=true)/\(∀i,b<=i->i<n->d9 O key left k (g i)=false))
   (Q:=λc f=>f=st/\∃b,c=(none,b,b)/\b<=n/\(∀i,i<b->d9 O key left k (g i)=true)/\(∀i,b<=i->i<n->d9 O key left k (g i)=false)) ?step ?fin #[rfl,lo,b,rfl,L,hn,o31_ L hn,B,F]) ?post)
  case fin=>
   rintro c f ⟨rfl,lo,b,rfl,u,y,r,t,T⟩
   have:lo=b:=o32_ u r
   subst this;exact#[rfl,lo,rfl,y,t,T]
  case step=>
   rintro x c f _ X ⟨rfl,lo,b,rfl,u,y,r,t,T⟩;dsimp only
   by_cases l:lo>=b
   .rw[mo l]
    have:lo=b:=()
    subst this;exact FB #[rfl,lo,rfl,y,t,T]
   .rw[tz l]
    have z:lo+(b-lo) / 2<n:=o33_ y l
    refine Fk (kN C (G.at_ _ z) P (G.mem _ z) R ?_);cases e:d9 O key left k (g (lo+(b-lo) / 2)) with
    |true=>
     dsimp only;rw[mo rfl];exact FB #[rfl,_,_,rfl,o34_ l,y,o35_ X r l,λi b=>mono _ _ () z e,T]
    |false=>
     dsimp only;rw[tz ∅]
     exact FB #[rfl,_,_,rfl,o36_,(),o37_ X r l,t,λi B F=>Y _ _ B F e]
  case post=>
   rintro c f ⟨rfl,b,rfl,J,H,N⟩;exact FB (q _ J H N)
 dsimp only;cases e0:d9 O key left k (g a) with
 |true=>
  rw[mo rfl]
  refine Fk (SZ (UF (I:=λx c f=>f=st/\∃d o,c=(none,d,o)/\d<o/\x<o/\a+d<n/\d9 O key left k (g (a+d))=true)
   (Q:=λc f=>f=st/\∃d o,c=(none,d,o)/\d<o/\a+d<n/\d9 O key left k (g (a+d))=true/\(n-a<=o\/(a+o<n/\d9 O key left k (g (a+o))=false))) ?step ?fin2 #[rfl,0,1,rfl,(),(),(),e0]) ?post)
  case fin2=>
   rintro c f ⟨rfl,d,o,rfl,u,y,r,t⟩;exact#[rfl,d,o,rfl,u,r,t, .inl (o38_ v y)]
  case step=>
   rintro x c f _ X ⟨rfl,d,o,rfl,u,y,r,t⟩;dsimp only
   by_cases l:o>=n-a
   .rw[mo l]
    exact FB #[rfl,d,o,rfl,u,r,t, .inl l]
   .rw[tz l]
    have z:a+o<n:=o39_ v l
    refine Fk (kN C (G.at_ _ z) P (G.mem _ z) R ?_);cases e:d9 O key left k (g (a+o)) with
    |true=>
     dsimp only;rw[tz ∅]
     exact FB #[rfl,_,_,rfl,(),(),z,e]
    |false=>
     dsimp only;rw[mo ∅]
     exact FB #[rfl,d,o,rfl,u,r,t, .inr #[z,e]]
  case post=>
   rintro c f ⟨rfl,d,o,rfl,J,H,N,w⟩;refine fin (a+d+1) (a+min o (n-a)) (o40_ v J H) (o41_ v) (λi b=>mono _ _ () H N) (λi B F=>?_)
   rcases w with w| ⟨w,Z⟩
   .exact o42_ v B F w
   .exact Y _ _ (o43_ v B w) F Z
 |false=>
  rw[tz ∅]
  refine Fk (SZ (UF (I:=λx c f=>f=st/\∃d o,c=(none,d,o)/\d<o/\x<o/\d<=a/\d9 O key left k (g (a-d))=false)
   (Q:=λc f=>f=st/\∃d o,c=(none,d,o)/\d<o/\d<=a/\d9 O key left k (g (a-d))=false/\(a+1<=o\/(o<=a/\d9 O key left k (g (a-o))=true))) ?step ?fin2 #[rfl,0,1,rfl,(),(),(),e0]) ?post)
  case fin2=>
   rintro c f ⟨rfl,d,o,rfl,u,y,r,t⟩;exact#[rfl,d,o,rfl,u,r,t, .inl (o44_ v y)]
  case step=>
   rintro x c f _ X ⟨rfl,d,o,rfl,u,y,r,t⟩;dsimp only
   by_cases l:o>=a+1
   .rw[mo l]
    exact FB #[rfl,d,o,rfl,u,r,t, .inl l]
   .rw[tz l]
    have z:a-o<n:=o45_ v u l
    refine Fk (kN C (G.at_ _ z) P (G.mem _ z) R ?_);cases e:d9 O key left k (g (a-o)) with
    |true=>
     dsimp only;rw[mo rfl];exact FB #[rfl,d,o,rfl,u,r,t, .inr #[(),e]]
    |false=>
     dsimp only;rw[tz ∅]
     exact FB #[rfl,_,_,rfl,(),(),(),e]
  case post=>
   rintro c f ⟨rfl,d,o,rfl,J,H,N,w⟩;refine fin (a+1-min o (a+1)) (a-d) (o46_ J H) (o47_ v H) (λi b=>?_) (λi B F=>Y _ _ B F N)
   rcases w with w| ⟨w,Z⟩
   .exact o48_ b w
   .exact mono _ _ (o49_ b w) (o50_ v J w) Z
end
section
variable {O:KeyOrd} {key:Keyed->O.α} {S:Keyed->Prop} {k0:SortKind} {M:Model} {A:Around} {E:Value->Shared->Prop} {s:Shared} {st bN:SortSt}
noncomputable def ky(O:KeyOrd)(key:Keyed->O.α)(a:Array Keyed)(i:Nat):O.α:=key (a[i]?.getD (.none, .none))
def iI(h:a[i]? =b[j]?):ky O key a i=ky O key b j:=by unfold ky;rw[h]
def jA(O:KeyOrd)(key:Keyed->O.α)(xs:Array Keyed)(a b:Nat):Prop:=∀i j,a<=i->i<=j->j<b->O.kle (ky O key xs i) (ky O key xs j)
def Kj(O:KeyOrd)(key:Keyed->O.α)(c:Array Keyed)(a b:Nat):Prop:=∀i j,a<=i->i<=j->j<b->O.kle (ky O key c j) (ky O key c i)
structure gU (bN st:SortSt) (lo hi:Nat):Prop where
 perm:(arrOf st).Perm (arrOf bN)
 kind:kindOf st=kindOf bN
 failed:failedOf st=failedOf bN
 pend:pendingOf st=pendingOf bN
 out:∀i,i<lo\/hi<=i->(arrOf st)[i]? =(arrOf bN)[i]?
theorem gU.refl(st:SortSt)(lo a:Nat):gU st st lo a:=#[.refl _,rfl,rfl,rfl,λ_ _=>rfl]
theorem gU.trans{d e:SortSt}{lo c:Nat}(a:gU bN d lo c)(b:gU d e lo c):gU bN e lo c:=
 #[b.perm.trans a.perm,b.kind.trans a.kind,b.failed.trans a.failed,b.pend.trans a.pend,λi h=>(b.out i h).trans (a.out i h)]
theorem gU.size{lo b:Nat}(a:gU bN st lo b):(arrOf st).size=(arrOf bN).size:=a.perm.size_eq
def _root_.o51_{a b c d e:Nat}(f:a<=b)(g:c<=d)(h:e<a\/d<=e):¬(b<=e/\e<c):=()
theorem gU.mirror{lo a i j:Nat}(b:lo<=i)(c:j<=a)(d:j<=(arrOf st).size):gU st (setArr st (mirror (arrOf st) i j ((j-i) / 2))) lo a:=
 #[mirror_perm _ _ _ _,rfl,rfl,rfl,λk h=>by
  show(PyProof.Rows.mirror (arrOf st) i j ((j-i) / 2))[k]? =_;rw[getElem?_mirror_all d,tz (o51_ b c h)]]
def _root_.o52_{a b c d e:Nat}(f:a<=b)(g:c<=b-a)(h:b<d)(i:e<c\/d<=e):¬(e=b-a):=()
def _root_.o53_{a b c d e:Nat}(f:a<=b-c)(g:b<d)(h:e<a\/d<=e):¬(b-c<e/\e<=b):=()
theorem gU.bubble{lo a src d:Nat}(b:d<=src)(c:lo<=src-d)(e:src<a)(f:src<(arrOf st).size):gU st (setArr st (bubble (arrOf st) src d)) lo a:=
 #[bubble_perm _ _ _,rfl,rfl,rfl,λk h=>by
  show(PyProof.Rows.bubble (arrOf st) src d)[k]? =_;rw[getElem?_bubble f d b,tz (o52_ b c e h),tz (o53_ c e h)]]
def qQ{i j:Nat}(c:j<=a.size)(k:Nat):ky O key (mirror a i j ((j-i) / 2)) k=if i<=k/\k<j then ky O key a (i+j-1-k) else ky O key a k:=by
 have e:=getElem?_mirror_all (i:=i) c k
 by_cases b:i<=k/\k<j
 .rw[mo b] at e ⊢;exact iI e
 .rw[tz b] at e ⊢;exact iI e
def gm(c:j<=a.size)(b:∀k,i<=k->k<j->ky O key a k=ky O key a (j-1))(k:Nat):ky O key (mirror a i j ((j-i) / 2)) k=ky O key a k:=by
 rw[qQ c]
 split
 .rw[b _ () (),b k () ()]
 .rfl
def xG(f:src<a.size)(g:d<=src)(k:Nat):
  ky O key (bubble a src d) k=if k=src-d then ky O key a src else if src-d<k/\k<=src then ky O key a (k-1) else ky O key a k:=by
 have e:=getElem?_bubble f d g k
 by_cases b:k=src-d
 .rw[mo b] at e ⊢;exact iI e
 .rw[tz b] at e ⊢
  by_cases c:src-d<k/\k<=src
  .rw[mo c] at e ⊢;exact iI e
  .rw[tz c] at e ⊢;exact iI e
structure Ok (S:Keyed->Prop) (k0:SortKind) (st:SortSt):Prop where
 mem:∀p,p∈(arrOf st).toList->S p
 kind:kindOf st=k0
def Ok.step{lo b:Nat}(o:Ok S k0 bN)(a:gU bN st lo b):Ok S k0 st:=
 #[λp c=>o.mem p ((Kf.mp a.perm).mem_iff.mp c),a.kind.trans o.kind]
def Ok.at{i:Nat}(o:Ok S k0 st)(a:i<(arrOf st).size):(arrOf st)[i]?\((arrOf st)[i]?.getD (.none, .none))/\S ((arrOf st)[i]?.getD (.none, .none)):=by
 have e:(arrOf st)[i]? =some (arrOf st)[i]:=ab7 _ i a;rw[e];exact#[rfl,o.mem _ (by simp)]
def oW(C:gQ O key S k0 M A E s)(o:Ok S k0 st)(a:i<(arrOf st).size)(b:j<(arrOf st).size)
  (q:Q (some (O.blt (ky O key (arrOf st) i) (ky O key (arrOf st) j))) st):wpS M A E s (ltAt' i j) Q st:=by
 rw[ltAt'_eq];obtain⟨c,d⟩:=o.at a;obtain⟨e,f⟩:=o.at b;refine Fk (ace (Fk (bo c (Fk (bo e (C _ _ _ _ d f o.kind q))))))
def _root_.o54_{a b c d e:Nat}(f:a<=b)(g:b<=c)(h:c<a+min (max d 1) e)(i:d=0):b=c:=()
def _root_.o55_{a b c d:Nat}(e:a<=b)(f:c<d+min (max a 1) b)(g:¬(a=0)):c<d+a:=()
def _root_.o56_{a b:Nat}:min (max (max a 1) b) b=b:=()
def _root_.o57_{a b:Nat}(c:a<b):min a b=a:=()
def _root_.o58_{a b c d e:Nat}(f:a+b<=c)(g:d<b)(h:e=c):a+d<e:=()
def _root_.o59_{a b:Nat}(c:a<=b)(d:a>=b):a=b:=()
def _root_.o60_{a b c d e:Nat}(f:a+b<c)(g:d<=b)(h:¬(e>=d)):a+(e+d)/2<c:=()
def _root_.o61_{a b:Nat}(c:¬(a>=b)):a<=(a+b)/2:=()
def _root_.o62_{a b c:Nat}(d:a<=b)(e:¬(c>=a)):(c+a)/2<=b:=()
def _root_.o63_{a b c d:Nat}(e:a<b)(f:c-d<=b-a)(g:¬(d>=c)):(d+c)/2-d<=b-(a+1):=()
def _root_.o64_{a b c:Nat}(d:¬(a>=b)):c<=c+(a+b)/2:=()
def _root_.o65_{a b c d:Nat}(e:(a+b)/2<=c):d+(a+b)/2<=d+c:=()
def _root_.o66_{a b:Nat}(c:¬(a>=b)):(a+b)/2+1<=b:=()
def _root_.o67_{a b c d:Nat}(e:a<b)(f:c-d<=b-a)(g:¬(d>=c)):c-((d+c)/2+1)<=b-(a+1):=()
def _root_.o68_{a b c d:Nat}(e:a<(b+c)/2+1):d+a<=d+(b+c)/2:=()
def _root_.o69_{a b c d:Nat}(e:a<=b)(f:¬(c>=a)):d+(c+a)/2<d+b:=()
def _root_.o70_{a b c:Nat}(d:a<=b):c+b-(c+a)=b-a:=()
def _root_.o71_{a b c:Nat}(d:a<=b)(e:c+b-(c+a)=b-a):c+b-(c+a)<=c+b:=()
def _root_.o72_{a b c:Nat}(d:a<=b)(e:c+b-(c+a)=b-a):c<=c+b-(c+b-(c+a)):=()
def _root_.o73_{a b:Nat}(c:a<b):min (a+1) b=a+1:=()
def _root_.o74_{a b c:Nat}(d:a<=b)(e:c+b-(c+a)=b-a):c+b-(c+b-(c+a))=c+a:=()
def _root_.o75_{a b c:Nat}(d:a<=b)(e:b<a+c):b-a<c:=()
def _root_.o76_{a b:Nat}(c:a<=b):a+(b-a)=b:=()
def _root_.o77_{a b c:Nat}(d:a+b<=c):b<=c-a:=()
def _root_.o78_{a b c d:Nat}(e:a+b<=c)(f:c<a+d):c-a<d:=()
def _root_.o79_{a b c:Nat}(d:a+b<=c):a+(c-a)=c:=()
theorem wpS_binarySort(C:gQ O key S k0 M A E s){lo n ok:Nat}{Q:Bool->SortSt->Prop}(o:Ok S k0 st)(P:lo+n<=(arrOf st).size)(hok:ok<=n)(R:jA O key (arrOf st) lo (lo+ok))
  (h:∀b,gU st b lo (lo+n)->jA O key (arrOf b) lo (lo+n)->Q true b):wpS M A E s (binarySort' lo n ok) Q st:=by
 rw[binarySort'_eq]
 refine wpS_bind (wpS_mono (wpS_forRange (I:=λk c b=>c=(none,⟨⟩)/\gU st b lo (lo+n)/\jA O key (arrOf b) lo (lo+min k n))
  (Q:=λc b=>c=(none,⟨⟩)/\gU st b lo (lo+n)/\jA O key (arrOf b) lo (lo+n)) ?step ?fin ?init) ?post)
 case post=>
  rintro c b ⟨rfl,p,m⟩;exact wpS_pure (h b p m)
 case init=>
  refine#[rfl, .refl _ _ _,λi j G J L=>?_]
  by_cases d:ok=0
  .have:i=j:=o54_ G J L d
   subst this;exact KeyOrd.kle_refl _
  .exact R i j G J (o55_ hok L d)
 case fin=>
  rintro c b ⟨T,p,m⟩;exists T,p
  rwa [show min (max (max ok 1) n) n=n by exact o56_] at m
 case step=>
  rintro k c b X q ⟨rfl,p,m⟩;rw[show min k n=k by exact o57_ q] at m
  have Y:=o.step p;have Z:=p.size;have y:lo+k<(arrOf b).size:=o58_ P q Z
  refine wpS_bind (wpS_mono (wpS_forRange (I:=λx c e=>e=b/\∃l r,c=(none,l,r)/\l<=r/\r<=k/\r-l<=k-x/\
    (∀i,i<l->O.kle (ky O key (arrOf b) (lo+i)) (ky O key (arrOf b) (lo+k)))/\(∀i,r<=i->i<k->O.klt (ky O key (arrOf b) (lo+k)) (ky O key (arrOf b) (lo+i))))
   (Q:=λc e=>e=b/\∃l r,c=(none,l,r)/\l<=k/\
    (∀i,i<l->O.kle (ky O key (arrOf b) (lo+i)) (ky O key (arrOf b) (lo+k)))/\(∀i,l<=i->i<k->O.klt (ky O key (arrOf b) (lo+k)) (ky O key (arrOf b) (lo+i)))) ?istep ?ifin ?iinit) ?ipost)
  case iinit=>exact#[rfl,0,k,rfl,(),(),(),λi G=>by lia,λi d z=>by lia]
  case ifin=>
   rintro c e ⟨rfl,l,r,rfl,t,u,H,v,w⟩
   have:l=r:=o32_ t H
   subst this;exact#[rfl,l,l,rfl,u,v,w]
  case istep=>
   rintro x c e _ B ⟨rfl,l,r,rfl,t,u,H,v,w⟩;dsimp only
   by_cases g:l>=r
   .rw[if_pos g]
    have:l=r:=o59_ t g
    subst this;exact wpS_pure #[rfl,l,l,rfl,u,v,w]
   .rw[if_neg g]
    refine wpS_bind (oW C Y y (o60_ y u g) ?_)
    cases N:O.blt (ky O key (arrOf e) (lo+k)) (ky O key (arrOf e) (lo+(l+r) / 2))
    case true=>
     simp only[if_true];refine wpS_pure #[rfl,l,(l+r) / 2,rfl,o61_ g,o62_ u g,o63_ B H g,v,λi d z=>?_]
     exact KeyOrd.klt_of_klt_of_kle N (m _ _ (o64_ g) (o65_ d) ())
    case false=>
     simp only[eV,if_false];refine wpS_pure #[rfl,(l+r) / 2+1,r,rfl,o66_ g,(),o67_ B H g,λi d=>?_,w]
     exact KeyOrd.kle_trans (m (lo+i) (lo+(l+r) / 2) () (o68_ d) (o69_ u g)) (show O.kle _ _ from N)
  case ipost=>
   rintro c e ⟨rfl,l,r,rfl,f,v,w⟩;show wpS _ _ _ _ (do moveDown' (lo+k) (lo+l);pure (ForInStep.yield (none,Unit.unit))) _ _
   rw[moveDown'_eq];have F:lo+k-(lo+l)=k-l:=o70_ f
   refine wpS_bind (wpS_modify (wpS_pure #[rfl,p.trans (gU.bubble (o71_ f F) (o72_ f F) () y),?_]))
   rw[show min (k+1) n=k+1 by exact o73_ q]
   intro i j G J L;show O.kle (ky O key (bubble (arrOf e) (lo+k) (lo+k-(lo+l))) i) (ky O key (bubble (arrOf e) (lo+k) (lo+k-(lo+l))) j);rw[xG y (o71_ f F),xG y (o71_ f F),show lo+k-(lo+k-(lo+l))=lo+l by exact o74_ f F]
   have ZQ:∀a,lo<=a->a<lo+l->O.kle (ky O key (arrOf e) a) (ky O key (arrOf e) (lo+k)):=λa d z=>by
    have:=v (a-lo) (o75_ d z);rwa [show lo+(a-lo)=a by exact o76_ d] at this
   have ZF:∀a,lo+l<=a->a<lo+k->O.klt (ky O key (arrOf e) (lo+k)) (ky O key (arrOf e) a):=λa d z=>by
    have:=w (a-lo) (o77_ d) (o78_ d z);rwa [show lo+(a-lo)=a by exact o79_ d] at this
   repeat' split
   all_goals first
    | (exfalso;lia)
    |exact KeyOrd.kle_refl _
    |exact ZQ _ () ()
    |exact KeyOrd.kle_of_klt (ZF _ () ())
    |exact m _ _ () () ()
end
noncomputable def D4(lo a d:Nat):StateT SortSt Sem AscSt:=
 forIn [a:d] ((none,a):AscSt) λ_ b=>do
  let c <-ltAt' (lo+b.snd) (lo+b.snd-1)
  match c with
  |some e=>if e=true then pure (ForInStep.done (none,b.snd)) else pure (ForInStep.yield (none,b.snd+1))
  |_=>pure (ForInStep.done (some none,b.snd))
noncomputable def tailL(lo n b:Nat):StateT SortSt Sem (Option Nat):=do
 reverseSlice' lo (lo+n)
 let a <-D4 lo n b
 match a.fst with
 |some r=>pure r
 |none=>pure (some a.snd)
noncomputable def BL(lo n c:Nat):StateT SortSt Sem DescSt:=
 forIn [n:c] ((none,n,0):DescSt) λ_ a=>do
  let b <-ltAt' (lo+a.snd.fst) (lo+a.snd.fst-1)
  match b with
  |some d=>
   if d=true then
    if a.snd.snd>0 then do
     reverseSlice' (lo+a.snd.fst-(a.snd.snd+1)) (lo+a.snd.fst)
     pure (ForInStep.yield (none,a.snd.fst+1,0))
    else pure (ForInStep.yield (none,a.snd.fst+1,0))
   else do
    let b <-ltAt' (lo+a.snd.fst-1) (lo+a.snd.fst)
    match b with
    |some e=>
     if e=true then pure (ForInStep.done (none,a.snd.fst,a.snd.snd))
     else pure (ForInStep.yield (none,a.snd.fst+1,a.snd.snd+1))
    |_=>pure (ForInStep.done (some none,a.snd.fst,a.snd.snd))
  |_=>pure (ForInStep.done (some none,a.snd.fst,a.snd.snd))
noncomputable def descP(lo n b:Nat):StateT SortSt Sem (Option Nat):=do
 liftM (rule "list.sort.descending-run")
 let a <-BL lo (n+1) b
 match a.fst with
 |some r=>pure r
 |none=>
  if a.snd.snd>0 then do
   reverseSlice' (lo+a.snd.fst-(a.snd.snd+1)) (lo+a.snd.fst)
   tailL lo a.snd.fst b
  else tailL lo a.snd.fst b
theorem zv(lo c:Nat):countRun' lo c=(do
  let a <-D4 lo 1 c
  match a.fst with
  |some r=>pure r
  |none=>
   if (a.snd==c)=true then pure (some a.snd)
   else if a.snd>1 then do
    let e <-ltAt' lo (lo+a.snd-1)
    match e with
    |some g=>if g=true then pure (some a.snd) else do
      reverseSlice' lo (lo+a.snd)
      descP lo a.snd c
    |_=>pure none
   else descP lo a.snd c):=by
 rw[countRun'_eq];dsimp only;unfold descP tailL BL D4
 congr 1
 funext a
 obtain⟨r,n⟩:=a;cases r with
 |some r=>rfl
 |none=>
  dsimp only
  split
  .rfl
  .split
   .congr 1
    funext x
    cases x with
    |none=>rfl
    |some g=>
     dsimp only
     split
     .rfl
     .congr 1
      funext _r
      (congr 1;funext _u;congr 1;congr 1;funext s2;obtain⟨d,h,i⟩:=s2;cases d with
 |some d=>rfl
 |none=>(dsimp only;split;(congr 1;funext _v;(congr 1;funext _w;congr 1;(funext s3;obtain⟨b,f⟩:=s3;cases b<;>rfl)));(congr 1;funext _w;congr 1;(funext s3;obtain⟨b,f⟩:=s3;cases b<;>rfl))))
   ·(congr 1;funext _u;congr 1;congr 1;funext s2;obtain⟨d,h,i⟩:=s2;cases d with
 |some d=>rfl
 |none=>(dsimp only;split;(congr 1;funext _v;(congr 1;funext _w;congr 1;(funext s3;obtain⟨b,f⟩:=s3;cases b<;>rfl)));(congr 1;funext _w;congr 1;(funext s3;obtain⟨b,f⟩:=s3;cases b<;>rfl))))
section
variable {O:KeyOrd} {key:Keyed->O.α} {S:Keyed->Prop} {k0:SortKind} {prog:Program} {w:World} {A:Around} {E:Value->Shared->Prop} {s:Shared} {st bN:SortSt}
def _root_.o80_{a b c d e:Nat}(f:1<=a)(g:a<=b)(h:b<c)(i:d+c<=e):d+b-1<e:=()
def _root_.o81_{a b c:Nat}(d:a<b+(c+1))(e:¬(a<b+c)):a=b+c:=()
def _root_.o82_{a b c d:Nat}(e:1<=a)(f:a<=b)(g:c<=d+b)(h:¬(c=d+b)):c<=d+b-1:=()
def _root_.o83_{a b c:Nat}(d:1<=a)(e:a<=b):c+b-1<c+b:=()
def Bk(C:gQ O key S k0 (model prog w) A E s){lo a b:Nat}{Q:AscSt->SortSt->Prop}(o:Ok S k0 st)(t:lo+b<=(arrOf st).size)(g:1<=a)(k:a<=b)(u:jA O key (arrOf st) lo (lo+a))
  (h:∀n,a<=n->n<=b->jA O key (arrOf st) lo (lo+n)->(n=b\/O.klt (ky O key (arrOf st) (lo+n)) (ky O key (arrOf st) (lo+n-1)))->Q (none,n) st):
  wpS (model prog w) A E s (D4 lo a b) Q st:=by
 unfold D4;refine UF (I:=λx c e=>e=st/\c=(none,x)/\jA O key (arrOf st) lo (lo+x)) ?step ?fin #[rfl,rfl,u]
 case fin=>
  rintro c e ⟨rfl,rfl,d⟩;rw[show max a b=b by lia] at d ⊢
  exact h b k (bq _) d (.inl rfl)
 case step=>
  rintro x c e f v ⟨rfl,rfl,d⟩;dsimp only;refine Fk (oW C o () (o80_ g f v t) ?_)
  cases l:O.blt (ky O key (arrOf e) (lo+x)) (ky O key (arrOf e) (lo+x-1))
  case true=>
   simp only[abN];exact FB (h x f () d (.inr l))
  case false=>
   simp only[eV,PP];refine FB #[rfl,rfl,λi j m p y=>?_]
   by_cases q:j<lo+x
   .exact d i j m p q
   .have z:j=lo+x:=o81_ y q
    subst z
    by_cases r:i=lo+x
    .subst r;exact abB _
    .exact KM (d i (lo+x-1) m (o82_ g f p r) (o83_ g f)) l
def tD(h:Q ⟨⟩ (setArr st (mirror (arrOf st) i j ((j-i) / 2)))):wpS (model prog w) A E s (reverseSlice' i j) Q st:=by
 rw[reverseSlice'_eq];exact acp h
def _root_.o84_{a b c d:Nat}(e:a<=b)(f:b<=c)(g:c<a+d):a<=b/\b<a+d:=()
def _root_.o85_{a b c d:Nat}(e:a<=b)(f:b<=c)(g:c<a+d):a<=c/\c<a+d:=()
def _root_.o86_{a b c:Nat}(d:a<b+c):b<=b+(b+c)-1-a:=()
def _root_.o87_{a b c d:Nat}(e:a<=b)(f:b<c+d):c+(c+d)-1-b<=c+(c+d)-1-a:=()
def _root_.o88_{a b c d:Nat}(e:a<=b)(f:c<a+d):a+(a+d)-1-b<a+d:=()
def yR(C:gQ O key S k0 (model prog w) A E s){lo n a:Nat}{Q:Option Nat->SortSt->Prop}(o:Ok S k0 st)(l:lo+a<=(arrOf st).size)(p:1<=n)(q:n<=a)(r:Kj O key (arrOf st) lo (lo+n))
  (h:∀m c,gU st c lo (lo+a)->1<=m->m<=a->jA O key (arrOf c) lo (lo+m)->Q (some m) c):wpS (model prog w) A E s (tailL lo n a) Q st:=by
 unfold tailL;have d:lo+n<=(arrOf st).size:=()
 refine Fk (tD ?_);have e:gU st (setArr st (mirror (arrOf st) lo (lo+n) ((lo+n-lo) / 2))) lo (lo+a):=gU.mirror (bq _) () d
 refine Fk (Bk C (o.step e) (by rw[e.size];exact l) p q ?_ λm t u f _=>FB (h m _ e () u f))
 intro i j g k b;show O.kle (ky O key (mirror (arrOf st) lo (lo+n) ((lo+n-lo) / 2)) i) (ky O key (mirror (arrOf st) lo (lo+n) ((lo+n-lo) / 2)) j);rw[qQ d,qQ d,mo (o84_ g k b),mo (o85_ g k b)]
 exact r _ _ (o86_ b) (o87_ k b) (o88_ g b)
def _root_.o89_{a b c d e:Nat}(f:a+b<=c)(g:d<b)(h:e=c):a+d<=e:=()
def _root_.o90_{a b c d e:Nat}(f:a+b<=c)(g:d<b)(h:e=c)(i:a+d<=e):a+d<e:=()
def _root_.o91_{a b c d:Nat}(e:1<=a)(f:a<=b)(g:c+b<=d):c+b-1<d:=()
def _root_.o92_{a b c:Nat}(d:a<=b+c)(e:¬(a=b+c)):a<=b+c-1:=()
def _root_.o93_{a b c:Nat}(d:a+1<=b):c<=c+b-(a+1):=()
def _root_.o94_{a b c d:Nat}(e:a+1<=b)(f:c+(b+1)-(a+1+1)<=d)(g:d<c+(b+1))(h:¬(d=c+b)):c+b-(a+1)<=d:=()
def _root_.o95_{a b c:Nat}(d:a<b+(c+1))(e:¬(a=b+c)):a<b+c:=()
def IS(C:gQ O key S B (model prog w) A E s){lo n d:Nat}{Q:DescSt->SortSt->Prop}(o:Ok S B st)(F:lo+d<=(arrOf st).size)(e:1<=n)(B9:n<=d)(hs:Kj O key (arrOf st) lo (lo+n))
  (h:∀m b a,gU st a lo (lo+d)->n<=m->m<=d->Kj O key (arrOf a) lo (lo+m)->b+1<=m->(∀i,lo+m-(b+1)<=i->i<lo+m->ky O key (arrOf a) i=ky O key (arrOf a) (lo+m-1))->Q (none,m,b) a):
  wpS (model prog w) A E s (BL lo n d) Q st:=by
 unfold BL
 refine UF (I:=λx c a=>∃b,c=(none,x,b)/\gU st a lo (lo+d)/\Kj O key (arrOf a) lo (lo+x)/\b+1<=x/\
   (∀i,lo+x-(b+1)<=i->i<lo+x->ky O key (arrOf a) i=ky O key (arrOf a) (lo+x-1))) ?step ?fin #[0,rfl, .refl _ _ _,hs,(),λi e r=>by congr 1;lia]
 case fin=>
  rintro c a ⟨b,rfl,f,g,l,p⟩;rw[show max n d=d by lia] at g l p ⊢
  exact h d b a f B9 (bq _) g l p
 case step=>
  intro x c a z G H;refine aa λG0 B=>?_;obtain⟨b,rfl,f,g,l,p⟩:=H;refine B ?_;dsimp only;have R:=o.step f;have J:=f.size;have q:lo+x<=(arrOf a).size:=o89_ F G J
  refine Fk (oW C R (o90_ F G J q) (o91_ e z q) ?_)
  cases T:O.blt (ky O key (arrOf a) (lo+x)) (ky O key (arrOf a) (lo+x-1))
  case true=>
   simp only[abN]
   have X:∀L:Array Keyed,(∀k,ky O key L k=ky O key (arrOf a) k)->Kj O key L lo (lo+(x+1)):=by
    intro L Y i j t u M;rw[Y,Y]
    by_cases v:j<lo+x
    .exact g i j t u v
    .have N:j=lo+x:=o81_ M v
     subst N
     by_cases y:i=lo+x
     .subst y;exact abB _
     .exact KM (SL T) (g i (lo+x-1) t (o92_ u y) (o83_ e z))
   by_cases Z:b>0
   .rw[mo Z]
    refine Fk (tD (FB #[0,rfl,f.trans (gU.mirror (o93_ l) () q),X _ (gm q p),(),λi e r=>by congr 1;lia]))
   .rw[tz Z]
    exact FB #[0,rfl,f,X _ (λ_=>rfl),(),λi e r=>by congr 1;lia]
  case false=>
   simp only[eV,PP];refine Fk (oW C R (o91_ e z q) (o90_ F G J q) ?_)
   cases Ot:O.blt (ky O key (arrOf a) (lo+x-1)) (ky O key (arrOf a) (lo+x))
   case true=>
    simp only[abN];exact FB (h x b a f () () g l p)
   case false=>
    simp only[eV,PP];have Um:ky O key (arrOf a) (lo+x)=ky O key (arrOf a) (lo+x-1):=O.total _ _ T Ot;refine FB #[b+1,rfl,f,λi j t u M=>?_,(),λi e r=>?_]
    .by_cases v:j<lo+x
     .exact g i j t u v
     .have N:j=lo+x:=o81_ M v
      subst N
      by_cases y:i=lo+x
      .subst y;exact abB _
      .rw[Um];exact g i (lo+x-1) t (o92_ u y) (o83_ e z)
    .rw[show lo+(x+1)-1=lo+x by lia]
     by_cases P:i=lo+x
     .subst P;rfl
     .rw[Um];exact p i (o94_ l e r P) (o95_ r P)
def _root_.o96_{a b c d e:Nat}(f:a+b<=c)(g:d<=b)(h:e=c):a+d<=e:=()
def yK(C:gQ O key S k0 (model prog w) A E s){lo n b:Nat}{Q:Option Nat->SortSt->Prop}(o:Ok S k0 st)(q:lo+b<=(arrOf st).size)(v:n+1<=b)(x:Kj O key (arrOf st) lo (lo+(n+1)))
  (h:∀m a,gU st a lo (lo+b)->1<=m->m<=b->jA O key (arrOf a) lo (lo+m)->Q (some m) a):wpS (model prog w) A E s (descP lo n b) Q st:=by
 unfold descP;refine Fk (acF (abS #[rfl,?_]));refine Fk (IS C o q () v x λm d a c y e r z t=>?_)
 dsimp only;have B:=c.size;have f:lo+m<=(arrOf a).size:=o96_ q e B
 by_cases u:d>0
 .rw[mo u]
  have g:gU a (setArr a (mirror (arrOf a) (lo+m-(d+1)) (lo+m) ((lo+m-(lo+m-(d+1))) / 2))) lo (lo+b):=gU.mirror (o93_ z) () f
  refine Fk (tD (yR C (o.step (c.trans g)) (by rw[g.size];lia) () e ?_ λk l p=>h k l ((c.trans g).trans p)))
  intro i j F G H;show O.kle (ky O key (mirror (arrOf a) _ _ _) j) (ky O key (mirror (arrOf a) _ _ _) i);rw[gm f t,gm f t];exact r i j F G H
 .rw[tz u]
  exact yR C (o.step c) () () e r λk l p=>h k l (c.trans p)
def _root_.o97_{a b c d:Nat}(e:a+b<=c)(f:d<=b)(g:d>1):a+d-1<c:=()
def _root_.o98_{a b c:Nat}(d:a<b+c):a<=b+c-1:=()
def _root_.o99_{a b c:Nat}(d:a<b+c):b+c-1<b+c:=()
def _root_.o100_{a b c:Nat}(d:a<=b)(e:b<=c)(f:c<a+(1+1))(g:¬(b=c)):b=a:=()
def _root_.o101_{a b c:Nat}(d:a<=b)(e:b<c+(1+1))(f:¬(a=b))(g:a=c):b=c+1:=()
def wpS_countRun(C:gQ O key S k0 (model prog w) A E s){lo a:Nat}{Q:Option Nat->SortSt->Prop}(o:Ok S k0 st)(q:lo+a<=(arrOf st).size)(J:1<=a)
  (h:∀m r,gU st r lo (lo+a)->1<=m->m<=a->jA O key (arrOf r) lo (lo+m)->Q (some m) r):wpS (model prog w) A E s (countRun' lo a) Q st:=by
 rw[zv];refine Fk (Bk C o q (bq 1) J (λi j b l c=>by have:i=j:=();subst this;exact abB _) λn G t p u=>?_)
 dsimp only
 by_cases v:n=a
 .rw[mo (~~~v)]
  exact FB (h n st (.refl _ _ _) G t p)
 .rw[tz (~~~v)]
  have H:O.klt (ky O key (arrOf st) (lo+n)) (ky O key (arrOf st) (lo+n-1)):=u.resolve_left v
  by_cases x:n>1
  .rw[mo x]
   refine Fk (oW C o () (o97_ q t x) ?_)
   cases L:O.blt (ky O key (arrOf st) lo) (ky O key (arrOf st) (lo+n-1))
   case true=>
    simp only[abN];exact FB (h n st (.refl _ _ _) G t p)
   case false=>
    simp only[eV,PP];have y:lo+n<=(arrOf st).size:=()
    have d:∀k,lo<=k->k<lo+n->ky O key (arrOf st) k=ky O key (arrOf st) (lo+n-1):=by
     intro k I z;have M:=p lo k () I z
     have N:=p k (lo+n-1) I (o98_ z) (o99_ z)
     exact KeyOrd.kle_antisymm N (KM L M)
    have B:gU st (setArr st (mirror (arrOf st) lo (lo+n) ((lo+n-lo) / 2))) lo (lo+a):=gU.mirror (bq _) () y
    refine Fk (tD (yK C (o.step B) (by rw[B.size];lia) () ?_ λP R T=>h P R (B.trans T)))
    intro i j b l c;show O.kle (ky O key (mirror (arrOf st) _ _ _) j) (ky O key (mirror (arrOf st) _ _ _) i);rw[gm y d,gm y d]
    by_cases e:j<lo+n
    .rw[d i b (),d j () e];exact abB _
    .have X:j=lo+n:=o81_ c e
     subst X
     by_cases f:i=lo+n
     .subst f;exact abB _
     .rw[d i b ()];exact SL H
  .rw[tz x]
   have Y:n=1:=()
   subst Y;refine yK C o q () ?_ h
   intro i j b l c
   by_cases f:i=j
   .subst f;exact abB _
   .have g:i=lo:=o100_ b l c f
    have F:j=lo+1:=o101_ l c f g
    subst g;subst F;exact SL H
end
section lists
variable (O:KeyOrd) (key:Keyed->O.α)
def LE(x y:Keyed):Prop:=O.kle (key x) (key y)
structure MI (l o ra rb:List Keyed):Prop where
 perm:(o++(ra++rb)).Perm l
 so:o.Pairwise (LE O key)
 sa:ra.Pairwise (LE O key)
 sb:rb.Pairwise (LE O key)
 le:∀x∈o,∀y∈ra++rb,LE O key x y
def Res(l r:List Keyed):Prop:=r.Perm l/\r.Pairwise (LE O key)
variable {O key}
def MI.mq{l o xs e b:List Keyed}(m:MI O key l o (xs++e) b)(h:∀x∈xs,∀y∈b,LE O key x y):MI O key l (o++xs) e b:=by
 obtain⟨f,g,c⟩:=qs.mp m.sa;refine#[by simpa [kQ] using m.perm,qs.mpr #[m.so,f,λx d y a=>m.le x d y (by simp[a])],g,m.sb,λx d y a=>?_]
 rcases c5.mp d with z|z
 .refine m.le x z y ?_
  rcases c5.mp a with u|u<;>simp[u]
 .rcases c5.mp a with u|u
  .exact c x z y u
  .exact h x z y u
def MI.swap(m:MI O key l o a b):MI O key l o b a:=
 #[(List.Perm.append_left o List.perm_append_comm).trans m.perm,m.so,m.sb,m.sa,λx c y d=>m.le x c y (by rcases c5.mp d with u|u<;>simp[u])]
def MI.mr{l o xs a b:List Keyed}(m:MI O key l o a (xs++b))(h:∀x∈xs,∀y∈a,LE O key x y):MI O key l (o++xs) a b:=(m.swap.mq h).swap
def MI.Ew(m:MI O key l o a []):Res O key l (o++a):=
 #[by simpa using m.perm,qs.mpr #[m.so,m.sa,λx b y c=>m.le x b y (by simp[c])]]
def MI.Cq(m:MI O key l o a b)(h:∀y∈b,∀x∈a,LE O key y x):Res O key l (o++b++a):=by
 have c:MI O key l o a (b++ []):=by rw[eJ];exact m
 exact(c.mr h).Ew
end lists
noncomputable def Cw(a b:Array Keyed)(h e f d:Nat)(out:Array Keyed)(g:Nat):StateT SortSt Sem (ForInStep (Option (Array Keyed)×Array Keyed×Nat×Nat×Nat×Nat×Nat)):=do
 let c <-elem' a d
 let out:Array Keyed:=out.push c
 let d:Nat:=d+1
 if (d+1==a.size)=true then pure (ForInStep.done (some (out++b.extract g b.size++a.extract d a.size),out,d,g,h,e,f))
 else if (decide (e<7)&&decide (f<7))=true then pure (ForInStep.done (none,out,d,g,h,e,f))
 else pure (ForInStep.yield (none,out,d,g,h,e,f))
noncomputable def uz(a b:Array Keyed)(f g i d:Nat)(out:Array Keyed)(e:Nat):StateT SortSt Sem (ForInStep (Option (Array Keyed)×Array Keyed×Nat×Nat×Nat×Nat×Nat)):=do
 let c <-elem' b d
 let out:Array Keyed:=out.push c
 let d:Nat:=d+1
 if (d==b.size)=true then pure (ForInStep.done (some (out++a.extract e a.size++b.extract d b.size),out,e,d,f,g,i))
 else do
  let c <-elem' a e
  let h <-fi true c b d (b.size-d) 0
  match h with
  |some k=>
   if k>0 then
    if (d+k==b.size)=true then pure (ForInStep.done (some (out++b.extract d (d+k)++a.extract e a.size++b.extract (d+k) b.size),out++b.extract d (d+k),e,d+k,f,g,k))
    else Cw a b f g k e (out++b.extract d (d+k)) (d+k)
   else Cw a b f g k e out d
  |_=>pure (ForInStep.done (some (out++a.extract e a.size++b.extract d b.size),out,e,d,f,g,i))
noncomputable def qT(a b:Array Keyed)(g i c e:Nat)(out:Array Keyed)(f:Nat):StateT SortSt Sem (ForInStep (Option (Array Keyed)×Array Keyed×Nat×Nat×Nat×Nat×Nat)):=do
 setMinGallop' f
 let d <-elem' b e
 let h <-fi false d a c (a.size-c) 0
 match h with
 |some k=>
  if k>0 then
   if (c+k+1==a.size)=true then pure (ForInStep.done (some (out++a.extract c (c+k)++b.extract e b.size++a.extract (c+k) a.size),out++a.extract c (c+k),c+k,e,f,k,g))
   else if (c+k==a.size)=true then pure (ForInStep.done (some (out++a.extract c (c+k)++a.extract (c+k) a.size++b.extract e b.size),out++a.extract c (c+k),c+k,e,f,k,g))
   else uz a b f k g e (out++a.extract c (c+k)) (c+k)
  else uz a b f k g e out c
 |_=>pure (ForInStep.done (some (out++a.extract c a.size++b.extract e b.size),out,c,e,f,i,g))
noncomputable def Cz(a b:Array Keyed)(c:Option (Array Keyed)×Array Keyed×Nat×Nat×Nat×Nat×Nat):StateT SortSt Sem (ForInStep (Option (Array Keyed)×Array Keyed×Nat×Nat×Nat×Nat×Nat)):=
 if c.2.2.2.2.1>1 then qT a b c.2.2.2.2.2.2 c.2.2.2.2.2.1 c.2.2.1 c.2.2.2.1 c.2.1 (c.2.2.2.2.1-1) else qT a b c.2.2.2.2.2.2 c.2.2.2.2.2.1 c.2.2.1 c.2.2.2.1 c.2.1 c.2.2.2.2.1
noncomputable def Cy(a b:Array Keyed)(e:Nat)(c:Option (Array Keyed)×Array Keyed×Nat×Nat×Nat×Nat):StateT SortSt Sem (ForInStep (Option (Array Keyed)×Array Keyed×Nat×Nat×Nat×Nat)):=do
 let y <-elem' b c.2.2.2.1
 let x <-elem' a c.2.2.1
 let d <-lt' y x
 match d with
 |some f=>
  if f=true then do
   let y <-elem' b c.2.2.2.1
   if (c.2.2.2.1+1==b.size)=true then pure (ForInStep.done (some (c.2.1.push y++a.extract c.2.2.1 a.size++b.extract (c.2.2.2.1+1) b.size),c.2.1.push y,c.2.2.1,c.2.2.2.1+1,0,c.2.2.2.2.2+1))
   else if c.2.2.2.2.2+1>=e then pure (ForInStep.done (none,c.2.1.push y,c.2.2.1,c.2.2.2.1+1,0,c.2.2.2.2.2+1))
   else pure (ForInStep.yield (none,c.2.1.push y,c.2.2.1,c.2.2.2.1+1,0,c.2.2.2.2.2+1))
  else do
   let x <-elem' a c.2.2.1
   if (c.2.2.1+1+1==a.size)=true then pure (ForInStep.done (some (c.2.1.push x++b.extract c.2.2.2.1 b.size++a.extract (c.2.2.1+1) a.size),c.2.1.push x,c.2.2.1+1,c.2.2.2.1,c.2.2.2.2.1+1,0))
   else if c.2.2.2.2.1+1>=e then pure (ForInStep.done (none,c.2.1.push x,c.2.2.1+1,c.2.2.2.1,c.2.2.2.2.1+1,0))
   else pure (ForInStep.yield (none,c.2.1.push x,c.2.2.1+1,c.2.2.2.1,c.2.2.2.2.1+1,0))
 |_=>pure (ForInStep.done (some (c.2.1++a.extract c.2.2.1 a.size++b.extract c.2.2.2.1 b.size),c.2.1,c.2.2.1,c.2.2.2.1,c.2.2.2.2.1,c.2.2.2.2.2))
noncomputable def su(a b:Array Keyed)(f:Option (Array Keyed)×Array Keyed×Nat×Nat×Nat):StateT SortSt Sem (ForInStep (Option (Array Keyed)×Array Keyed×Nat×Nat×Nat)):=do
 let e <-forIn [0:a.size+b.size] (none,f.2.1,f.2.2.1,f.2.2.2.1,0,0) λ_ c=>Cy a b f.2.2.2.2 c
 match e.1 with
 |some r=>pure (ForInStep.done (some r,e.2.1,e.2.2.1,e.2.2.2.1,f.2.2.2.2))
 |none=>do
  liftM (rule "list.sort.gallop")
  let d <-forIn [0:a.size+b.size] (none,e.2.1,e.2.2.1,e.2.2.2.1,f.2.2.2.2+1,e.2.2.2.2.1,e.2.2.2.2.2) λ_ c=>Cz a b c
  match d.1 with
  |some r=>pure (ForInStep.done (some r,d.2.1,d.2.2.1,d.2.2.2.1,d.2.2.2.2.1))
  |none=>do
   setMinGallop' (d.2.2.2.2.1+1)
   pure (ForInStep.yield (none,d.2.1,d.2.2.1,d.2.2.2.1,d.2.2.2.2.1+1))
def dE{b d:Type}{m c:StateT SortSt Sem b}{f a:b->StateT SortSt Sem d}(h:m=c)(g:∀x,f x=a x):m>>=f=c>>=a:=by rw[h,show f=a from funext g]
def BP{a:Type}{n:Nat}{d:a}{f b:Nat->a->StateT SortSt Sem (ForInStep a)}(h:∀i c,f i c=b i c):forIn [0:n] d f=forIn [0:n] d b:=by rw[show f=b from funext λi=>funext (h i)]
def fB [Decidable c] (h:c->x=a) (g:¬c->y=b):(if c then x else y)=if c then a else b:=by
 by_cases e:c
 .rw[mo e,mo e];exact h e
 .rw[tz e,tz e];exact g e
def zM(a b:Array Keyed):pH a b=(do
 rule "list.sort.merge-lo"
 let total:=a.size+b.size
 let done (out:Array Keyed) (c d:Nat):=out++a.extract c a.size++b.extract d b.size
 let e (out:Array Keyed) (c d:Nat):=out++b.extract d b.size++a.extract c a.size
 let mut out:Array Keyed:= [<-elem' b 0].toArray
 let mut c:=0
 let mut d:=1
 if d==b.size then return done out c d
 if c+1==a.size then return e out c d
 let mut minGallop:=gallopOf (<-get)
 for _ in [0:total] do
  let mut acount:=0
  let mut bcount:=0
  for _ in [0:total] do
   let some Gj <-lt' (<-elem' b d) (<-elem' a c) |return done out c d
   if Gj then
    out:=out.push (<-elem' b d);d:=d+1;bcount:=bcount+1;acount:=0
    if d==b.size then return done out c d
    if bcount>=minGallop then break
   else
    out:=out.push (<-elem' a c);c:=c+1;acount:=acount+1;bcount:=0
    if c+1==a.size then return e out c d
    if acount>=minGallop then break
  rule "list.sort.gallop"
  minGallop:=minGallop+1
  for _ in [0:total] do
   if minGallop>1 then minGallop:=minGallop-1
   setMinGallop' minGallop
   let some k <-fi false (<-elem' b d) a c (a.size-c) 0|return done out c d
   acount:=k
   if k>0 then
    out:=out++a.extract c (c+k);c:=c+k
    if c+1==a.size then return e out c d
    if c==a.size then return done out c d
   out:=out.push (<-elem' b d);d:=d+1
   if d==b.size then return done out c d
   let some k <-fi true (<-elem' a c) b d (b.size-d) 0|return done out c d
   bcount:=k
   if k>0 then
    out:=out++b.extract d (d+k);d:=d+k
    if d==b.size then return done out c d
   out:=out.push (<-elem' a c);c:=c+1
   if c+1==a.size then return e out c d
   if acount<7&&bcount<7 then break
  minGallop:=minGallop+1
  setMinGallop' minGallop
 unsupported "internal:list.sort.merge-bound"):=rfl
theorem CF(a b:Array Keyed):pH a b=(do
 liftM (rule "list.sort.merge-lo")
 let y <-elem' b 0
 if (1==b.size)=true then pure ([y].toArray++a.extract 0 a.size++b.extract 1 b.size)
 else if (0+1==a.size)=true then pure ([y].toArray++b.extract 1 b.size++a.extract 0 a.size)
 else do
  let d <-get
  let e <-forIn [0:a.size+b.size] (none, [y].toArray,0,1,gallopOf d) λ_ c=>su a b c
  match e.1 with
  |some r=>pure r
  |none=>liftM (unsupported (α:=Array Keyed) "internal:list.sort.merge-bound")):=by
 rw[zM];dsimp only;refine dE rfl λ_=>dE rfl λy=>?_;refine On (ite _ _) (On (ite _ _) ?_);refine dE rfl λg=>dE (BP λ_ c=>?_) λu=>?_
 .unfold su
  refine dE (BP λ_ t=>?_) λt=>?_
  .unfold Cy
   refine dE rfl λ_=>dE rfl λ_=>dE rfl λz=>?_;cases z<;>rfl
  .obtain⟨i,l⟩:=t
   cases i with
   |some r=>rfl
   |none=>
    dsimp only;refine dE rfl λ_=>dE (BP λ_ u=>?_) λu=>?_
    .unfold Cz
     have m:∀h,qT a b u.2.2.2.2.2.2 u.2.2.2.2.2.1 u.2.2.1 u.2.2.2.1 u.2.1 h=qT a b u.2.2.2.2.2.2 u.2.2.2.2.2.1 u.2.2.1 u.2.2.2.1 u.2.1 h:=λ_=>rfl;refine fB (λ_=>?_) (λ_=>?_)
     all_goals
      unfold qT;refine dE rfl λ_=>dE rfl λ_=>dE rfl λz=>?_;cases z with
      |none=>rfl
      |some k=>
       dsimp only;refine fB (λ_=>?_) (λ_=>?_)
       .refine fB (λ_=>rfl) (λ_=>fB (λ_=>rfl) (λ_=>?_))
        unfold uz;refine dE rfl λ_=>fB (λ_=>rfl) (λ_=>dE rfl λ_=>dE rfl λz=>?_);cases z with
        |none=>rfl
        |some k=>rfl
       .unfold uz
        refine dE rfl λ_=>fB (λ_=>rfl) (λ_=>dE rfl λ_=>dE rfl λz=>?_);cases z with
        |none=>rfl
        |some k=>rfl
    .obtain⟨f,j⟩:=u
     cases f<;>rfl
 .obtain⟨f,j⟩:=u
  cases f<;>rfl
structure GS (st ar:SortSt):Prop where
 arr:arrOf ar=arrOf st
 kind:kindOf ar=kindOf st
 failed:failedOf ar=failedOf st
 pend:pendingOf ar=pendingOf st
def GS.refl(st:SortSt):GS st st:=#[rfl,rfl,rfl,rfl]
theorem GS.trans(x:GS a b)(y:GS b c):GS a c:=#[y.arr.trans x.arr,y.kind.trans x.kind,y.failed.trans x.failed,y.pend.trans x.pend]
def sU(g:Nat):setMinGallop' g=modify λs=>SortSt.mk' (kindOf s) (arrOf s) (pendingOf s) g (failedOf s):=rfl
def ext_toList(a:Array Keyed)(i j:Nat):(a.extract i j).toList=(a.toList.drop i).take (j-i):=by
 rw[Array.toList_extract]
def lA(a:Array Keyed)(i:Nat):(a.extract i a.size).toList=a.toList.drop i:=by
 rw[ext_toList,qr (by simp)]
def drop_cons{xs:Array Keyed}(h:xs[i]?\x):xs.toList.drop i=x::xs.toList.drop (i+1):=by
 have a:xs.toList[i]?\x:=by rw[<-h];simp
 obtain⟨b,e⟩:=cw.mp a;rw[tG b,e]
def nH(l:List Keyed)(i k:Nat):l.drop i=(l.drop i).take k++l.drop (i+k):=by
 rw[<-List.drop_drop,kP]
def eU{l:List Keyed}{i k:Nat}{x:Keyed}(h:x∈(l.drop i).take k):∃j,j<k/\i+j<l.length/\l[i+j]?\x:=by
 obtain⟨j,a⟩:=iA h;rw[List.getElem?_take] at a
 split at a
 .rename_i c
  rw[Bo] at a;exact#[j,c,(cw.mp a).1,a]
 .cases a
def gB{l:List Keyed}{i:Nat}{x:Keyed}(h:x∈l.drop i):∃j,i+j<l.length/\l[i+j]?\x:=by
 obtain⟨j,a⟩:=iA h;rw[Bo] at a;exact#[j,(cw.mp a).1,a]
section
variable {O:KeyOrd} {key:Keyed->O.α} {S:Keyed->Prop} {k0:SortKind} {M:Model} {A:Around} {E:Value->Shared->Prop} {s:Shared} {st bN:SortSt}
def pV(h:∀a,GS st a->Q ⟨⟩ a):wpS M A E s (setMinGallop' g) Q st:=by
 rw[sU];exact acp (h _ #[rfl,rfl,rfl,rfl])
structure jS (O:KeyOrd) (key:Keyed->O.α) (S:Keyed->Prop) (a b:Array Keyed):Prop where
 ma:∀x∈a.toList,S x
 mb:∀x∈b.toList,S x
 sa:a.toList.Pairwise (LE O key)
 sb:b.toList.Pairwise (LE O key)
 na:1<=a.size
 nb:1<=b.size
 first:∀y,b[0]?\y->∀x∈a.toList,LE O key y x
 last:∀x,a[a.size-1]?\x->∀y∈b.toList,LE O key y x
def _root_.o102_{a b c:Nat}(d:a+1=b)(e:a+c<b):a+c=b-1:=()
def jS.Cq(T:jS O key S a b)(h:c+1=a.size):∀y∈b.toList.drop f,∀x∈a.toList.drop c,LE O key y x:=λy g x i=>by
 obtain⟨j,d,e⟩:=gB i;rw[cO] at d
 have:c+j=a.size-1:=o102_ h d
 rw[this] at e;exact T.last x (by rw[<-e];simp) y (List.mem_of_mem_drop g)
def fX{l:List Keyed}(h:l.Pairwise (LE O key)){i j:Nat}{x y:Keyed}(k:i<=j)(b:l[i]?\x)(a:l[j]?\y):LE O key x y:=by
 by_cases e:i=j
 .subst e
  rw[b] at a;cases a;exact abB _
 .obtain⟨c,d⟩:=cw.mp b
  obtain⟨f,g⟩:=cw.mp a;rw[<-d,<-g];exact yW.mp h i j c f ()
def pU{xs:Array Keyed}(m:∀x∈xs.toList,S x){i n:Nat}(h:i+n<=xs.size):Seg S xs i n (λj=>xs[i+j]?.getD (.none, .none)):=
 #[λj a=>by
  have:i+j<xs.size:=()
  rw[ab7 xs (i+j) this];rfl,λj a=>by
  have:i+j<xs.size:=()
  rw[ab7 xs (i+j) this];exact m _ (by simp)]
def bC{xs:Array Keyed}{i:Nat}(h:i<xs.size):∃x,xs[i]?\x/\x∈xs.toList/\xs.toList[i]?\x:=by
 refine#[xs[i],ab7 xs i h,by simp,?_]
 rw[fO];exact ab7 xs i h
def lF{a:Array Keyed}{i:Nat}{x:Keyed}(h:a[i]?\x):a.toList[i]?\x:=by rw[fO];exact h
def kB{a:Array Keyed}{i:Nat}{x:Keyed}(h:a.toList[i]?\x):a[i]?\x:=by rw[<-fO];exact h
structure IV (O:KeyOrd) (key:Keyed->O.α) (a b out:Array Keyed) (ia ib:Nat):Prop where
 mi:MI O key (a.toList++b.toList) out.toList (a.toList.drop ia) (b.toList.drop ib)
 ha:ia<a.size
 hb:ib<b.size
def IV.uH{a b out:Array Keyed}(v:MI O key (a.toList++b.toList) out.toList (a.toList.drop c) (b.toList.drop d))(e:b[d]?\y)(h:∀x∈a.toList.drop c,LE O key y x):
  MI O key (a.toList++b.toList) (out.push y).toList (a.toList.drop c) (b.toList.drop (d+1)):=by
 rw[drop_cons e] at v;rw[y6];exact MI.mr (xs:= [y]) v λx f=>by rw[fZ.mp f];exact h
def IV.uG{a b out:Array Keyed}(v:MI O key (a.toList++b.toList) out.toList (a.toList.drop c) (b.toList.drop d))(e:a[c]?\x)(h:∀y∈b.toList.drop d,LE O key x y):
  MI O key (a.toList++b.toList) (out.push x).toList (a.toList.drop (c+1)) (b.toList.drop d):=by
 rw[drop_cons e] at v;rw[y6];exact MI.mq (xs:= [x]) v λx e=>by rw[fZ.mp e];exact h
def _root_.o103_{a b:Nat}:a+b-a=b:=()
theorem IV.mr{a b out:Array Keyed}(v:MI O key (a.toList++b.toList) out.toList (a.toList.drop d) (b.toList.drop c))(h:∀y∈(b.toList.drop c).take k,∀x∈a.toList.drop d,LE O key y x):
  MI O key (a.toList++b.toList) (out++b.extract c (c+k)).toList (a.toList.drop d) (b.toList.drop (c+k)):=by
 rw[nH b.toList c k] at v;rw[jw,ext_toList,show c+k-c=k by exact o103_]
 exact MI.mr v h
theorem IV.mq{a b out:Array Keyed}(v:MI O key (a.toList++b.toList) out.toList (a.toList.drop c) (b.toList.drop d))(h:∀x∈(a.toList.drop c).take k,∀y∈b.toList.drop d,LE O key x y):
  MI O key (a.toList++b.toList) (out++a.extract c (c+k)).toList (a.toList.drop (c+k)) (b.toList.drop d):=by
 rw[nH a.toList c k] at v;rw[jw,ext_toList,show c+k-c=k by exact o103_]
 exact MI.mq v h
def IV.t7{a b out:Array Keyed}(v:MI O key (a.toList++b.toList) out.toList (a.toList.drop d) (b.toList.drop c))(h:c=b.size):Res O key (a.toList++b.toList) (out++a.extract d a.size++b.extract c b.size).toList:=by
 have e:b.toList.drop c= []:=yZ (by rw[cO];lia)
 rw[jw,jw,lA,lA,e,eJ];rw[e] at v;exact v.Ew
def IV.t6{a b out:Array Keyed}(v:MI O key (a.toList++b.toList) out.toList (a.toList.drop c) (b.toList.drop d))(h:c=a.size):Res O key (a.toList++b.toList) (out++a.extract c a.size++b.extract d b.size).toList:=by
 have e:a.toList.drop c= []:=yZ (by rw[cO];lia)
 rw[jw,jw,lA,lA,e,eJ];rw[e] at v;exact v.swap.Ew
def IV.last(T:jS O key S a b)(v:MI O key (a.toList++b.toList) out.toList (a.toList.drop c) (b.toList.drop d))(h:c+1=a.size):Res O key (a.toList++b.toList) (out++b.extract d b.size++a.extract c a.size).toList:=by
 rw[jw,jw,lA,lA];exact v.Cq (T.Cq h)
end
section
variable {O:KeyOrd} {key:Keyed->O.α} {S:Keyed->Prop} {k0:SortKind} {M:Model} {A:Around} {E:Value->Shared->Prop} {s:Shared} {st bN:SortSt} {a b:Array Keyed}
def Inv(O:KeyOrd)(key:Keyed->O.α)(a b:Array Keyed)(n:Nat)(out:Array Keyed)(c d:Nat):Prop:=MI O key (a.toList++b.toList) out.toList (a.toList.drop c) (b.toList.drop d)/\c+1<a.size/\d<b.size/\n<=c+d
def Fin{d:Type}(O:KeyOrd)(key:Keyed->O.α)(a b:Array Keyed)(n:Nat)(c:Option (Array Keyed)×Array Keyed×Nat×Nat×d):Prop:=
 (∃r,c.1\r/\Res O key (a.toList++b.toList) r.toList)\/(c.1=none/\Inv O key a b n c.2.1 c.2.2.1 c.2.2.2.1)
def Out{d:Type}(O:KeyOrd)(key:Keyed->O.α)(a b:Array Keyed)(n:Nat)(r:ForInStep (Option (Array Keyed)×Array Keyed×Nat×Nat×d)):Prop:=match r with
 | .done c=>Fin O key a b n c
 | .yield c=>c.1=none/\Inv O key a b n c.2.1 c.2.2.1 c.2.2.2.1
def Yk{d:Type}(O:KeyOrd)(key:Keyed->O.α)(a b:Array Keyed)(n:Nat)(r:ForInStep (Option (Array Keyed)×Array Keyed×Nat×Nat×d)):Prop:=match r with
 | .done c=>∃r,c.1\r/\Res O key (a.toList++b.toList) r.toList
 | .yield c=>c.1=none/\Inv O key a b n c.2.1 c.2.2.1 c.2.2.2.1
def yQ(T:jS O key S a b)(g:GS bN st)(v:MI O key (a.toList++b.toList) out.toList (a.toList.drop c) (b.toList.drop d))(w:c+1<a.size)(p:d<b.size)(z:n<=c+d)
  (q:∀x,a[c]?\x->∀y∈b.toList.drop d,LE O key x y):wpS M A E s (Cw a b o h j c out d) (λr t=>GS bN t/\Out O key a b n r) st:=by
 unfold Cw;rfl';obtain⟨x,e,C,_⟩:=bC (xs:=a) (i:=c) ()
 ac_rfl;refine Fk (bo e ?_);have k:=IV.uG v e (q x e);dsimp only
 by_cases f:c+1+1=a.size
 .rw[mo (~~~f)]
  exact FB #[g, .inl #[_,rfl,IV.last T k f]]
 .rw[tz (~~~f)]
  have l:Inv O key a b n (out.push x) (c+1) d:=#[k,(),p,()]
  by_cases m:(decide (h<7)&&decide (j<7))=true
  .rw[mo m]
   exact FB #[g, .inr #[rfl,l]]
  .rw[tz m]
   exact FB #[g,rfl,l]
def _root_.o104_{a b:Nat}(c:a<b)(d:¬(a+1=b)):0<b-(a+1):=()
def _root_.o105_{a b c d:Nat}(e:a<b)(f:c<=d)(g:d<b-(a+1)):a+1+c<b:=()
def _root_.o106_{a b c:Nat}(d:a<b)(e:c<b-(a+1)):a+1+c<b:=()
def _root_.o107_{a b c d:Nat}(e:a<b)(f:a+1+c+d<b):c+d<b-(a+1):=()
def _root_.o108_{a b c:Nat}(d:a<b)(e:c<=b-(a+1))(f:¬(a+1+c=b)):a+1+c<b:=()
def _root_.o109_{a b c d:Nat}(e:a<=b+c)(f:d>0):a<=b+(c+1+d):=()
def yP(C:gQ O key S k M A E s)(X:kindOf st=k)(T:jS O key S a b)(g:GS bN st)(v:MI O key (a.toList++b.toList) out.toList (a.toList.drop d) (b.toList.drop c))(J:d+1<a.size)(f:c<b.size)(hn:n<=d+c)
  (hy:∀y,b[c]?\y->∀x∈a.toList.drop d,LE O key y x):wpS M A E s (uz a b Y Z bc c out d) (λr ar=>GS bN ar/\Out O key a b n r) st:=by
 unfold uz;refine aa λG0 k=>?_;obtain⟨y,B,my,_⟩:=bC (xs:=b) (i:=c) f;refine k ?_;refine Fk (bo B ?_);have F:=IV.uH v B (hy y B);dsimp only
 by_cases t:c+1=b.size
 .rw[mo (~~~t)]
  exact FB #[g, .inl #[_,rfl,IV.t7 F t]]
 .rw[tz (~~~t)]
  refine aa λG0 k=>?_;obtain⟨x,L,mx,lx⟩:=bC (xs:=a) (i:=d) ()
  refine k ?_;refine Fk (bo L ?_)
  have G:∀z∈a.toList.drop d,LE O key x z:=λz l=>by
   obtain⟨j,_,m⟩:=gB l;exact fX T.sa () lx m
  have N:∀j z,c+1+j<b.size->b.toList[c+1+j]?\z->b[c+1+j]?.getD (Value.none,Value.none)=z:=λj z o e=>by rw[kB e];rfl
  refine Fk (gL C (pU T.mb (i:=c+1) (n:=b.size-(c+1)) ()) (T.ma x mx) X (o104_ f t) (λi j eE o h=>?_) λp hp pt pf=>?_)
  .obtain⟨yi,e1,_,l1⟩:=bC (xs:=b) (i:=c+1+i) (o105_ f eE o)
   obtain⟨yj,e2,_,l2⟩:=bC (xs:=b) (i:=c+1+j) (o106_ f o)
   unfold d9 at h ⊢;rw[mo rfl] at h ⊢;rw[e2] at h;rw[e1];exact ack (fX T.sb () l1 l2) h
  .have lo:∀y∈(b.toList.drop (c+1)).take p,∀x∈a.toList.drop d,LE O key y x:=λz l u hu=>by
    obtain⟨j,o,q,m⟩:=eU l;rw[cO] at q
    have:=pt j o
    unfold d9 at this;rw[mo rfl,N j z q m] at this;exact KM (SL this) (G u hu)
   have P:∀H,a[d]?\H->∀y∈b.toList.drop (c+1+p),LE O key H y:=λH Q z l=>by
    rw[L] at Q;cases Q;obtain⟨j,q,m⟩:=gB l;rw[cO] at q
    have:=pf (p+j) () (o107_ f q)
    unfold d9 at this;rw[mo rfl,N (p+j) z () (by rw[<-m];congr 1;lia)] at this
    exact this
   dsimp only
   by_cases I:p>0
   .rw[mo I]
    have R:=IV.mr F lo
    by_cases w:c+1+p=b.size
    .rw[mo (~~~w)]
     exact FB #[g, .inl #[_,rfl,IV.t7 R w]]
    .rw[tz (~~~w)]
     exact yQ T g R J (o108_ f hp w) (o109_ hn I) P
   .rw[tz I]
    have:p=0:=()
    subst this;exact yQ T g F J () () P
def _root_.o110_{a b:Nat}(c:a+1<b):0<b-a:=()
def _root_.o111_{a b c d:Nat}(e:a+1<b)(f:c<=d)(g:d<b-a):a+c<b:=()
def _root_.o112_{a b c:Nat}(d:a+1<b)(e:c<b-a):a+c<b:=()
def _root_.o113_{a b c d:Nat}(e:a+1<b)(f:a+c+d<b):c+d<b-a:=()
def _root_.o114_{a b c:Nat}(d:a+1<b)(e:c<=b-a)(f:¬(a+c+1=b))(g:¬(a+c=b)):a+c+1<b:=()
def yO(C:gQ O key S q M A E s)(Z:kindOf st=q)(T:jS O key S a b)(g:GS bN st)(iv:Inv O key a b n out c d):wpS M A E s (qT a b bc ac c d out mg) (λr ar=>GS bN ar/\Out O key a b n r) st:=by
 obtain⟨v,f,F,hn⟩:=iv;unfold qT;refine Fk (pV λDg N=>?_);have G:kindOf Dg=q:=N.kind.trans Z;have t:=g.trans N;refine aa λG0 q=>?_;obtain⟨y,P,my,ly⟩:=bC (xs:=b) (i:=d) F;refine q ?_;refine Fk (bo P ?_)
 have H:∀z∈b.toList.drop d,LE O key y z:=λz k=>by
  obtain⟨j,_,l⟩:=gB k;exact fX T.sb () ly l
 have Q:∀j z,c+j<a.size->a.toList[c+j]?\z->a[c+j]?.getD (Value.none,Value.none)=z:=λj z m e=>by rw[kB e];rfl
 refine Fk (gL C (pU T.ma (i:=c) (n:=a.size-c) ()) (T.mb y my) G (o110_ f) (λi j eE m h=>?_) λp hp pt pf=>?_)
 .obtain⟨xi,e1,_,l1⟩:=bC (xs:=a) (i:=c+i) (o111_ f eE m)
  obtain⟨xj,e2,_,l2⟩:=bC (xs:=a) (i:=c+j) (o112_ f m)
  unfold d9 at h ⊢;rw[tz ∅] at h ⊢
  rw[e2] at h;rw[e1];have I:O.kle (key xj) (key y):=by unfold KeyOrd.kle;simpa using h
  have:=KM (fX T.sa () l1 l2) I
  unfold KeyOrd.kle at this;simpa using this
 .have lo:∀x∈(a.toList.drop c).take p,∀y∈b.toList.drop d,LE O key x y:=λz k u hu=>by
   obtain⟨j,m,o,l⟩:=eU k;rw[cO] at o
   have:=pt j m
   unfold d9 at this;rw[tz ∅,Q j z o l] at this
   have I:O.kle (key z) (key y):=by unfold KeyOrd.kle;simpa using this
   exact KM I (H u hu)
  have R:∀J,b[d]?\J->∀x∈a.toList.drop (c+p),LE O key J x:=λJ X z k=>by
   rw[P] at X;cases X;obtain⟨j,o,l⟩:=gB k;rw[cO] at o
   have:=pf (p+j) () (o113_ f o)
   unfold d9 at this;rw[tz ∅,Q (p+j) z () (by rw[<-l];congr 1;lia)] at this
   exact SL (show O.blt _ _=true by simpa using this)
  dsimp only
  by_cases Y:p>0
  .rw[mo Y]
   have L:=IV.mq v lo
   by_cases w:c+p+1=a.size
   .rw[mo (~~~w)]
    exact FB #[t, .inl #[_,rfl,IV.last T L w]]
   .rw[tz (~~~w)]
    by_cases B:c+p=a.size
    .rw[mo (~~~B)]
     exact FB #[t, .inl #[_,rfl,IV.t6 L B]]
    .rw[tz (~~~B)]
     exact yP C G T t L (o114_ f hp w B) F () R
  .rw[tz Y]
   have:p=0:=()
   subst this;exact yP C G T t v f F hn R
def IY(C:gQ O key S k0 M A E s)(d:kindOf st=k0)(T:jS O key S a b)(g:GS bN st)(c:Option (Array Keyed)×Array Keyed×Nat×Nat×Nat×Nat×Nat)(e:Inv O key a b n c.2.1 c.2.2.1 c.2.2.2.1):
  wpS M A E s (Cz a b c) (λr f=>GS bN f/\Out O key a b n r) st:=by
 unfold Cz
 by_cases h:c.2.2.2.2.1>1
 .rw[mo h];exact yO C d T g e
 .rw[tz h];exact yO C d T g e
theorem IW(C:gQ O key S o M A E s)(F:kindOf st=o)(T:jS O key S a b)(g:GS bN st)(c:Option (Array Keyed)×Array Keyed×Nat×Nat×Nat×Nat)(d:Inv O key a b n c.2.1 c.2.2.1 c.2.2.2.1):
  wpS M A E s (Cy a b p c) (λr G=>GS bN G/\Out O key a b (n+1) r) st:=by
 obtain⟨X,out,l,m,H,I⟩:=c;obtain⟨v,J,B,L⟩:=d;dsimp only at v J B L;unfold Cy;dsimp only;refine aa λY o=>?_;obtain⟨y,q,N,P⟩:=bC (xs:=b) (i:=m) B;obtain⟨x,t,Q,R⟩:=bC (xs:=a) (i:=l) ()
 refine o ?_;refine Fk (bo q (Fk (bo t (Fk (C _ _ _ _ (T.mb y N) (T.ma x Q) F ?_)))));cases e:O.blt (key y) (key x) with
 |true=>
  dsimp only;rw[mo rfl];refine Fk (bo q ?_)
  have h:=IV.uH v q λz u=>by
   obtain⟨j,_,w⟩:=gB u;exact KM (SL e) (fX T.sa () R w)
  by_cases f:m+1=b.size
  .rw[mo (~~~f)]
   exact FB #[g, .inl #[_,rfl,IV.t7 h f]]
  .rw[tz (~~~f)]
   have d:Inv O key a b (n+1) (out.push y) l (m+1):=#[h,(),(),()]
   by_cases k:I+1>=p
   .rw[mo k];exact FB #[g, .inr #[rfl,d]]
   .rw[tz k];exact FB #[g,rfl,d]
 |false=>
  dsimp only;rw[tz ∅]
  refine Fk (bo t ?_)
  have h:=IV.uG v t λz u=>by
   obtain⟨j,_,w⟩:=gB u;exact KM e (fX T.sb () P w)
  by_cases f:l+1+1=a.size
  .rw[mo (~~~f)]
   exact FB #[g, .inl #[_,rfl,IV.last T h f]]
  .rw[tz (~~~f)]
   have d:Inv O key a b (n+1) (out.push x) (l+1) m:=#[h,(),(),()]
   by_cases k:H+1>=p
   .rw[mo k];exact FB #[g, .inr #[rfl,d]]
   .rw[tz k];exact FB #[g,rfl,d]
def Inv.le(h:Inv O key a b n out c d)(e:m<=n):Inv O key a b m out c d:=#[h.1,h.2.1,h.2.2.1,iq e h.2.2.2]
def _root_.o115_{a b c:Nat}(d:0<a+b):c+1<=c+min (max 0 (a+b)) 1:=()
theorem Dx(C:gQ O key S l M A E s)(J:kindOf st=l)(T:jS O key S a b)(g:GS bN st)(t:kindOf bN=l)(c:Option (Array Keyed)×Array Keyed×Nat×Nat×Nat)(u:Inv O key a b n c.2.1 c.2.2.1 c.2.2.2.1):
  wpS M A E s (su a b c) (λr h=>GS bN h/\Yk O key a b (n+1) r) st:=by
 have v:0<a.size+b.size:=by have:=T.na;lia
 unfold su;refine Fk (SZ (UF (I:=λ(x:Nat)(f:Option (Array Keyed)×Array Keyed×Nat×Nat×Nat×Nat)(h:SortSt)=>GS bN h/\f.1=none/\Inv O key a b (n+min x 1) f.2.1 f.2.2.1 f.2.2.2.1) (Q:=λf h=>GS bN h/\Fin O key a b (n+1) f) ?step ?fin #[g,rfl,u.le ()]) ?post)
 case fin=>
  rintro f h ⟨i,m,j⟩;exact#[i, .inr #[m,j.le (o115_ v)]]
 case step=>
  rintro x f h _ _ ⟨i,m,j⟩;refine SZ (IW C (i.kind.trans t) T i f j) λr w q=>?_;refine aa λy l=>?_;obtain⟨p,o⟩:=q;refine l ?_;cases r with
  |done d=>
   exists p
   rcases o with o| ⟨z,B⟩
   .exact .inl o
   .exact .inr #[z,B.le ()]
  |yield d=>exact#[p,o.1,o.2.le ()]
 case post=>
  rintro⟨L,N⟩ h ⟨i,o⟩
  rcases o with ⟨r,e,k⟩ | ⟨e,F⟩
  .dsimp only at e
   subst e;exact FB #[i,r,rfl,k]
  .dsimp only at e
   subst e;dsimp only;refine Fk (acF (abS #[rfl,?_]));refine Fk (SZ (UF (I:=λ(x:Nat)(f:Option (Array Keyed)×Array Keyed×Nat×Nat×Nat×Nat×Nat)(h:SortSt)=>GS bN h/\f.1=none/\Inv O key a b (n+1) f.2.1 f.2.2.1 f.2.2.2.1) (Q:=λf h=>GS bN h/\Fin O key a b (n+1) f) ?step2 ?fin2 #[i,rfl,F]) ?post2)
   case fin2=>
    rintro f h ⟨i,m,j⟩;exact#[i, .inr #[m,j]]
   case step2=>
    rintro x f h _ _ ⟨i,m,j⟩;refine SZ (IY C (i.kind.trans t) T i f j) λr w q=>?_;refine aa λy l=>?_;obtain⟨p,o⟩:=q;refine l ?_;cases r with
    |done d=>exact#[p,o]
    |yield d=>exact#[p,o]
   case post2=>
    rintro⟨P,R⟩ h ⟨i,o⟩
    rcases o with ⟨r,e,k⟩ | ⟨e,G⟩
    .dsimp only at e
     subst e;exact FB #[i,r,rfl,k]
    .dsimp only at e
     subst e;refine Fk (pV λX H=>FB #[i.trans H,rfl,G])
def DB(C:gQ O key S h M A E s)(p:kindOf st=h)(T:jS O key S a b)(q:∀r c,GS st c->Res O key (a.toList++b.toList) r.toList->Q r c):wpS M A E s (pH a b) Q st:=by
 rw[CF];refine Fk (acF (abS #[rfl,?_]));refine aa λu h=>?_;obtain⟨y,m,B,F⟩:=bC (xs:=b) (i:=0) T.nb;refine h ?_;refine Fk (bo m ?_);have v:MI O key (a.toList++b.toList) (#[]:Array Keyed).toList (a.toList.drop 0) (b.toList.drop 0):=#[by simp,by simp,by simpa using T.sa,by simpa using T.sb,by simp]
 have l:=IV.uH v m (T.first y m);have w:(#[]:Array Keyed).push y= [y].toArray:=rfl;rw[w] at l
 by_cases j:1=b.size
 .rw[mo (~~~j)]
  exact FB (q _ _ (GS.refl _) (IV.t7 l j))
 .rw[tz (~~~j)]
  by_cases f:0+1=a.size
  .rw[mo (~~~f)]
   exact FB (q _ _ (GS.refl _) (IV.last T l f))
  .rw[tz (~~~f)]
   refine Fk (ace ?_);have G:=T.na;have H:=T.nb;refine Fk (SZ (UF (I:=λ(x:Nat)(g:Option (Array Keyed)×Array Keyed×Nat×Nat×Nat)(c:SortSt)=>GS st c/\g.1=none/\Inv O key a b (x+1) g.2.1 g.2.2.1 g.2.2.2.1) (Q:=λg c=>GS st c/\∃r,g.1\r/\Res O key (a.toList++b.toList) r.toList) ?step ?fin #[GS.refl _,rfl,l,by show 0+1<a.size;lia,by show 1<b.size;lia,by show 0+1<=0+1;lia]) ?post)
   case fin=>
    rintro g c ⟨k,j,f⟩
    have:=f.2.2.2
    have:=f.2.1
    have:=f.2.2.1
    lia
   case step=>
    rintro x g c _ _ ⟨k,j,f⟩;refine SZ (Dx C (k.kind.trans p) T k p g f) λr J z=>?_;refine aa λu h=>?_;obtain⟨t,o⟩:=z;refine h ?_;cases r with
    |done d=>exact#[t,o]
    |yield d=>exact#[t,o]
   case post=>
    rintro⟨L,N⟩ c ⟨k,r,e,n⟩;dsimp only at e;subst e;exact FB (q r c k n)
end
def zL(a b:Array Keyed):pG a b=(do
 rule "list.sort.merge-hi"
 let total:=a.size+b.size
 let done (out:Array Keyed) (na nb:Nat):=a.extract 0 na++b.extract 0 nb++out.reverse
 let c (out:Array Keyed) (na nb:Nat):=b.extract 0 nb++a.extract 0 na++out.reverse
 let mut na:=a.size-1
 let mut nb:=b.size
 let mut out:Array Keyed:= [<-elem' a na].toArray
 if na==0 then return done out na nb
 if nb==1 then return c out na nb
 let mut minGallop:=gallopOf (<-get)
 for _ in [0:total] do
  let mut acount:=0
  let mut bcount:=0
  for _ in [0:total] do
   let some Gi <-lt' (<-elem' b (nb-1)) (<-elem' a (na-1)) |return done out na nb
   if Gi then
    na:=na-1;out:=out.push (<-elem' a na);acount:=acount+1;bcount:=0
    if na==0 then return done out na nb
    if acount>=minGallop then break
   else
    nb:=nb-1;out:=out.push (<-elem' b nb);bcount:=bcount+1;acount:=0
    if nb==1 then return c out na nb
    if bcount>=minGallop then break
  rule "list.sort.gallop"
  minGallop:=minGallop+1
  for _ in [0:total] do
   if minGallop>1 then minGallop:=minGallop-1
   setMinGallop' minGallop
   let some at_ <-fi false (<-elem' b (nb-1)) a 0 na (na-1) |return done out na nb
   let k:=na-at_
   acount:=k
   if k>0 then
    out:=out++(a.extract at_ na).reverse;na:=at_
    if na==0 then return done out na nb
   nb:=nb-1;out:=out.push (<-elem' b nb)
   if nb==1 then return c out na nb
   let some at_ <-fi true (<-elem' a (na-1)) b 0 nb (nb-1) |return done out na nb
   let k:=nb-at_
   bcount:=k
   if k>0 then
    out:=out++(b.extract at_ nb).reverse;nb:=at_
    if nb==1 then return c out na nb
    if nb==0 then return done out na nb
   na:=na-1;out:=out.push (<-elem' a na)
   if na==0 then return done out na nb
   if acount<7&&bcount<7 then break
  minGallop:=minGallop+1
  setMinGallop' minGallop
 unsupported "internal:list.sort.merge-bound"):=rfl
abbrev S7:=Option (Array Keyed)×Nat×Nat×Array Keyed×Nat×Nat×Nat
abbrev S6:=Option (Array Keyed)×Nat×Nat×Array Keyed×Nat×Nat
abbrev S5:=Option (Array Keyed)×Nat×Nat×Array Keyed×Nat
noncomputable def jf(a b out:Array Keyed)(c d:Nat):Array Keyed:=a.extract 0 c++b.extract 0 d++out.reverse
noncomputable def pD(a b out:Array Keyed)(c d:Nat):Array Keyed:=b.extract 0 d++a.extract 0 c++out.reverse
noncomputable def B4(a b:Array Keyed)(g d e c:Nat)(out:Array Keyed)(f:Nat):StateT SortSt Sem (ForInStep S7):=do
 let x <-elem' a (c-1)
 if (c-1==0)=true then pure (ForInStep.done (some (jf a b (out.push x) (c-1) f),c-1,f,out.push x,g,d,e))
 else if (decide (d<7)&&decide (e<7))=true then pure (ForInStep.done (none,c-1,f,out.push x,g,d,e))
 else pure (ForInStep.yield (none,c-1,f,out.push x,g,d,e))
noncomputable def uf(a b:Array Keyed)(e f h c:Nat)(out:Array Keyed)(d:Nat):StateT SortSt Sem (ForInStep S7):=do
 let y <-elem' b (c-1)
 if (c-1==1)=true then pure (ForInStep.done (some (pD a b (out.push y) d (c-1)),d,c-1,out.push y,e,f,h))
 else do
  let x <-elem' a (d-1)
  let g <-fi true x b 0 (c-1) (c-1-1)
  match g with
  |some p=>
   if c-1-p>0 then
    if (p==1)=true then pure (ForInStep.done (some (pD a b (out.push y++(b.extract p (c-1)).reverse) d p),d,p,out.push y++(b.extract p (c-1)).reverse,e,f,c-1-p))
    else if (p==0)=true then pure (ForInStep.done (some (jf a b (out.push y++(b.extract p (c-1)).reverse) d p),d,p,out.push y++(b.extract p (c-1)).reverse,e,f,c-1-p))
    else B4 a b e f (c-1-p) d (out.push y++(b.extract p (c-1)).reverse) p
   else B4 a b e f (c-1-p) d (out.push y) (c-1)
  |_=>pure (ForInStep.done (some (jf a b (out.push y) d (c-1)),d,c-1,out.push y,e,f,h))
noncomputable def xp(a b:Array Keyed)(f h c d:Nat)(out:Array Keyed)(e:Nat):StateT SortSt Sem (ForInStep S7):=do
 setMinGallop' e
 let y <-elem' b (d-1)
 let g <-fi false y a 0 c (c-1)
 match g with
 |some p=>
  if c-p>0 then
   if (p==0)=true then pure (ForInStep.done (some (jf a b (out++(a.extract p c).reverse) p d),p,d,out++(a.extract p c).reverse,e,c-p,f))
   else uf a b e (c-p) f d (out++(a.extract p c).reverse) p
  else uf a b e (c-p) f d out c
 |_=>pure (ForInStep.done (some (jf a b out c d),c,d,out,e,h,f))
noncomputable def B6(a b:Array Keyed)(c:S7):StateT SortSt Sem (ForInStep S7):=
 if c.2.2.2.2.1>1 then xp a b c.2.2.2.2.2.2 c.2.2.2.2.2.1 c.2.1 c.2.2.1 c.2.2.2.1 (c.2.2.2.2.1-1) else xp a b c.2.2.2.2.2.2 c.2.2.2.2.2.1 c.2.1 c.2.2.1 c.2.2.2.1 c.2.2.2.2.1
noncomputable def B5(a b:Array Keyed)(e:Nat)(c:S6):StateT SortSt Sem (ForInStep S6):=do
 let y <-elem' b (c.2.2.1-1)
 let x <-elem' a (c.2.1-1)
 let d <-lt' y x
 match d with
 |some f=>
  if f=true then do
   let x <-elem' a (c.2.1-1)
   if (c.2.1-1==0)=true then pure (ForInStep.done (some (jf a b (c.2.2.2.1.push x) (c.2.1-1) c.2.2.1),c.2.1-1,c.2.2.1,c.2.2.2.1.push x,c.2.2.2.2.1+1,0))
   else if c.2.2.2.2.1+1>=e then pure (ForInStep.done (none,c.2.1-1,c.2.2.1,c.2.2.2.1.push x,c.2.2.2.2.1+1,0))
   else pure (ForInStep.yield (none,c.2.1-1,c.2.2.1,c.2.2.2.1.push x,c.2.2.2.2.1+1,0))
  else do
   let y <-elem' b (c.2.2.1-1)
   if (c.2.2.1-1==1)=true then pure (ForInStep.done (some (pD a b (c.2.2.2.1.push y) c.2.1 (c.2.2.1-1)),c.2.1,c.2.2.1-1,c.2.2.2.1.push y,0,c.2.2.2.2.2+1))
   else if c.2.2.2.2.2+1>=e then pure (ForInStep.done (none,c.2.1,c.2.2.1-1,c.2.2.2.1.push y,0,c.2.2.2.2.2+1))
   else pure (ForInStep.yield (none,c.2.1,c.2.2.1-1,c.2.2.2.1.push y,0,c.2.2.2.2.2+1))
 |_=>pure (ForInStep.done (some (jf a b c.2.2.2.1 c.2.1 c.2.2.1),c.2.1,c.2.2.1,c.2.2.2.1,c.2.2.2.2.1,c.2.2.2.2.2))
noncomputable def rW(a b:Array Keyed)(f:S5):StateT SortSt Sem (ForInStep S5):=do
 let e <-forIn [0:a.size+b.size] ((none,f.2.1,f.2.2.1,f.2.2.2.1,0,0):S6) λ_ c=>B5 a b f.2.2.2.2 c
 match e.1 with
 |some r=>pure (ForInStep.done (some r,e.2.1,e.2.2.1,e.2.2.2.1,f.2.2.2.2))
 |none=>do
  liftM (rule "list.sort.gallop")
  let d <-forIn [0:a.size+b.size] ((none,e.2.1,e.2.2.1,e.2.2.2.1,f.2.2.2.2+1,e.2.2.2.2.1,e.2.2.2.2.2):S7) λ_ c=>B6 a b c
  match d.1 with
  |some r=>pure (ForInStep.done (some r,d.2.1,d.2.2.1,d.2.2.2.1,d.2.2.2.2.1))
  |none=>do
   setMinGallop' (d.2.2.2.2.1+1)
   pure (ForInStep.yield (none,d.2.1,d.2.2.1,d.2.2.2.1,d.2.2.2.2.1+1))
theorem CD(a b:Array Keyed):pG a b=(do
 liftM (rule "list.sort.merge-hi")
 let x <-elem' a (a.size-1)
 if (a.size-1==0)=true then pure (jf a b [x].toArray (a.size-1) b.size)
 else if (b.size==1)=true then pure (pD a b [x].toArray (a.size-1) b.size)
 else do
  let d <-get
  let e <-forIn [0:a.size+b.size] ((none,a.size-1,b.size, [x].toArray,gallopOf d):S5) λ_ c=>rW a b c
  match e.1 with
  |some r=>pure r
  |none=>liftM (unsupported (α:=Array Keyed) "internal:list.sort.merge-bound")):=by
 rw[zL];dsimp only;refine dE rfl λ_=>dE rfl λy=>?_;refine On (ite _ _) (On (ite _ _) ?_);refine dE rfl λg=>dE (BP λ_ c=>?_) λu=>?_
 .unfold rW
  refine dE (BP λ_ t=>?_) λt=>?_
  .unfold B5
   refine dE rfl λ_=>dE rfl λ_=>dE rfl λz=>?_;cases z<;>rfl
  .obtain⟨h,j⟩:=t
   cases h with
   |some r=>rfl
   |none=>
    dsimp only;refine dE rfl λ_=>dE (BP λ_ u=>?_) λu=>?_
    .unfold B6
     refine fB (λ_=>?_) (λ_=>?_)
     all_goals
      unfold xp;refine dE rfl λ_=>dE rfl λ_=>dE rfl λz=>?_;cases z with
      |none=>rfl
      |some k=>
       dsimp only;refine fB (λ_=>?_) (λ_=>?_)
       .refine fB (λ_=>rfl) (λ_=>?_)
        unfold uf;refine dE rfl λ_=>fB (λ_=>rfl) (λ_=>dE rfl λ_=>dE rfl λz=>?_);cases z with
        |none=>rfl
        |some k=>rfl
       .unfold uf
        refine dE rfl λ_=>fB (λ_=>rfl) (λ_=>dE rfl λ_=>dE rfl λz=>?_);cases z with
        |none=>rfl
        |some k=>rfl
    .obtain⟨f,i⟩:=u
     cases f<;>rfl
 .obtain⟨f,i⟩:=u
  cases f<;>rfl
noncomputable def Uh(O:KeyOrd):KeyOrd:={α:=O.α,blt:=λa b=>O.blt b a,irrefl:=O.irrefl,trans:=λa b c d e=>O.trans _ _ _ e d,negTrans:=λa b c h=>(O.negTrans c b a h).symm,total:=λa b d e=>O.total a b e d}
section
variable {O:KeyOrd} {key:Keyed->O.α} {S:Keyed->Prop} {k0:SortKind} {M:Model} {A:Around} {E:Value->Shared->Prop} {s:Shared} {st bN:SortSt} {a b:Array Keyed}
abbrev MJ(O:KeyOrd)(key:Keyed->O.α)(a b out:Array Keyed)(c d:Nat):Prop:=MI (Uh O) key (a.toList++b.toList) out.toList (a.toList.take c).reverse (b.toList.take d).reverse
def uI(h:Res (Uh O) key l r.reverse):Res O key l r:=
 #[(adt r).symm.trans h.1,by
   have:=acO.mp h.2
   exact this.imp λh=>h]
def Ar(c:Array Keyed)(n:Nat):(c.extract 0 n).toList=c.toList.take n:=by rw[ext_toList];simp
def Bi{xs:Array Keyed}(f:1<=n)(h:xs[n-1]?\x):(xs.toList.take n).reverse=x::(xs.toList.take (n-1)).reverse:=by
 have c:=lF h;obtain⟨d,e⟩:=cw.mp c
 have:xs.toList.take n=xs.toList.take (n-1)++ [x]:=by
  have:=acG d
  rw[show n-1+1=n by lia,e] at this
  exact this
 rw[this,y3];rfl
def oS(l:List Keyed)(h:p<=n):l.take n=l.take p++(l.drop p).take (n-p):=by
 conv=>lhs;rw[<-kP p (l.take n)]
 rw[List.take_take,show min p n=p by lia,List.drop_take]
def gE{l:List Keyed}{x:Keyed}(h:x∈l.take n):∃j,j<n/\j<l.length/\l[j]?\x:=by
 have:=eU (l:=l) (i:=0) (k:=n) (x:=x) (~~~h)
 obtain⟨j,c,d,e⟩:=this;exact#[j,c,by simpa using d,by simpa using e]
def MJ.uG(v:MJ O key a b out c d)(e:1<=c)(f:a[c-1]?\x)(h:∀y∈b.toList.take d,LE O key y x):MJ O key a b (out.push x) (c-1) d:=by
 unfold MJ at v ⊢;rw[Bi e f] at v;rw[y6];exact MI.mq (xs:= [x]) v λz g y i=>by rw[fZ.mp g];exact h y (vD.mp i)
def MJ.uH(v:MJ O key a b out d c)(e:1<=c)(f:b[c-1]?\y)(h:∀x∈a.toList.take d,LE O key x y):MJ O key a b (out.push y) d (c-1):=by
 unfold MJ at v ⊢;rw[Bi e f] at v;rw[y6];exact MI.mr (xs:= [y]) v λz g x i=>by rw[fZ.mp g];exact h x (vD.mp i)
theorem MJ.mq(v:MJ O key a b out c d)(e:p<=c)(h:∀x∈(a.toList.drop p).take (c-p),∀y∈b.toList.take d,LE O key y x):MJ O key a b (out++(a.extract p c).reverse) p d:=by
 unfold MJ at v ⊢;rw[oS a.toList e,y3] at v;rw[jw,F7,ext_toList];exact MI.mq v λx f y g=>h x (vD.mp f) y (vD.mp g)
theorem MJ.mr(v:MJ O key a b out d c)(e:p<=c)(h:∀y∈(b.toList.drop p).take (c-p),∀x∈a.toList.take d,LE O key x y):MJ O key a b (out++(b.extract p c).reverse) d p:=by
 unfold MJ at v ⊢;rw[oS b.toList e,y3] at v;rw[jw,F7,ext_toList];exact MI.mr v λx f y g=>h x (vD.mp f) y (vD.mp g)
def MJ.t6(v:MJ O key a b out 0 c):Res O key (a.toList++b.toList) (jf a b out 0 c).toList:=by
 refine uI ?_;unfold jf MJ at*;rw[jw,jw,Ar,Ar,F7,zc,qt,y3,acX];rw[zc,List.reverse_nil] at v;exact v.swap.Ew
def MJ.t7(v:MJ O key a b out c 0):Res O key (a.toList++b.toList) (jf a b out c 0).toList:=by
 refine uI ?_;unfold jf MJ at*;rw[jw,jw,Ar,Ar,F7,zc,eJ,y3,acX];rw[zc,List.reverse_nil] at v;exact v.Ew
theorem MJ.first(T:jS O key S a b)(v:MJ O key a b out c 1):Res O key (a.toList++b.toList) (pD a b out c 1).toList:=by
 refine uI ?_;have h:=v.swap.Cq λx d y f=>?_
 .unfold pD
  rw[jw,jw,Ar,Ar,F7,y3,acX,y3,<-kQ];exact h
 .obtain⟨j,g,_,e⟩:=gE (vD.mp f)
  have:j=0:=()
  subst this;exact T.first y (kB e) x (acY (vD.mp d))
def pZ(O:KeyOrd)(key:Keyed->O.α)(a b:Array Keyed)(n:Nat)(c d:Nat)(out:Array Keyed):Prop:=MJ O key a b out c d/\1<=c/\c<=a.size/\2<=d/\d<=b.size/\n+c+d<=a.size+b.size
def U7{d:Type}(O:KeyOrd)(key:Keyed->O.α)(a b:Array Keyed)(n:Nat)(c:Option (Array Keyed)×Nat×Nat×Array Keyed×d):Prop:=
 (∃r,c.1\r/\Res O key (a.toList++b.toList) r.toList)\/(c.1=none/\pZ O key a b n c.2.1 c.2.2.1 c.2.2.2.1)
def MO{d:Type}(O:KeyOrd)(key:Keyed->O.α)(a b:Array Keyed)(n:Nat)(r:ForInStep (Option (Array Keyed)×Nat×Nat×Array Keyed×d)):Prop:=match r with
 | .done c=>U7 O key a b n c
 | .yield c=>c.1=none/\pZ O key a b n c.2.1 c.2.2.1 c.2.2.2.1
def Yi{d:Type}(O:KeyOrd)(key:Keyed->O.α)(a b:Array Keyed)(n:Nat)(r:ForInStep (Option (Array Keyed)×Nat×Nat×Array Keyed×d)):Prop:=match r with
 | .done c=>∃r,c.1\r/\Res O key (a.toList++b.toList) r.toList
 | .yield c=>c.1=none/\pZ O key a b n c.2.1 c.2.2.1 c.2.2.2.1
def _root_.o116_{a b c d e:Nat}(f:1<=a)(g:b+a+c<=d+e):b+(a-1)+c<=d+e:=()
def yN(g:GS bN st)(v:MJ O key a b out c d)(m:1<=c)(f:c<=a.size)(q:2<=d)(t:d<=b.size)(u:n+c+d<=a.size+b.size)
  (w:∀x,a[c-1]?\x->∀y∈b.toList.take d,LE O key y x):wpS M A E s (B4 a b p k l c out d) (λr z=>GS bN z/\MO O key a b n r) st:=by
 unfold B4;rfl';obtain⟨x,h,F,_⟩:=bC (xs:=a) (i:=c-1) ()
 ac_rfl;refine Fk (bo h ?_);have j:=MJ.uG v m h (w x h)
 by_cases e:c-1=0
 .rw[mo (~~~e)]
  rw[e] at j ⊢;exact FB #[g, .inl #[_,rfl,j.t6]]
 .rw[tz (~~~e)]
  have o:pZ O key a b n (c-1) d (out.push x):=#[j,(),(),q,t,o116_ m u]
  by_cases f:(decide (k<7)&&decide (l<7))=true
  .rw[mo f]
   exact FB #[g, .inr #[rfl,o]]
  .rw[tz f]
   exact FB #[g,rfl,o]
def _root_.o117_{a b:Nat}(c:1<=a)(d:b<a):b<=a-1:=()
def _root_.o118_{a b:Nat}(c:2<=a)(d:a<=b):0+(a-1)<=b:=()
def _root_.o119_{a:Nat}(b:2<=a):a-1-1<a-1:=()
def _root_.o120_{a b c d:Nat}(e:2<=a)(f:a<=b)(g:c<=d)(h:d<a-1):0+c<b:=()
def _root_.o121_{a b c:Nat}(d:2<=a)(e:a<=b)(f:c<a-1):0+c<b:=()
def _root_.o122_{a b c:Nat}(d:2<=a)(e:b<a-1-c):c+b<a-1:=()
def _root_.o123_{a:Nat}(b:¬(a=1))(c:¬(a=0)):2<=a:=()
def _root_.o124_{a b c:Nat}(d:a<=b)(e:a-1-c>0)(f:¬(c=1))(g:¬(c=0)):c<=b:=()
def _root_.o125_{a b c d e f:Nat}(g:a+b+c<=d+e)(h:c-1-f>0)(i:¬(f=1))(j:¬(f=0)):a+b+f<=d+e:=()
def _root_.o126_{a b:Nat}(c:2<=a)(d:b<=a-1)(e:¬(a-1-b>0)):b=a-1:=()
def _root_.o127_{a:Nat}(b:2<=a)(c:¬(a-1=1))(d:¬(a-1-(a-1)>0)):2<=a-1:=()
def _root_.o128_{a b:Nat}(c:2<=a)(d:a<=b)(e:¬(a-1-(a-1)>0)):a-1<=b:=()
def _root_.o129_{a b c d e:Nat}(f:2<=a)(g:b+c+a<=d+e)(h:¬(a-1-(a-1)>0)):b+c+(a-1)<=d+e:=()
def yM(C:gQ O key S q M A E s)(Z:kindOf st=q)(T:jS O key S a b)(g:GS bN st)(v:MJ O key a b out d c)(G:1<=d)(N:d<=a.size)(f:2<=c)(t:c<=b.size)(P:n+d+c<=a.size+b.size)
  (hy:∀y,b[c-1]?\y->∀x∈a.toList.take d,LE O key x y):wpS M A E s (uf a b mg ac bc c out d) (λr ar=>GS bN ar/\MO O key a b n r) st:=by
 unfold uf;refine aa λG0 q=>?_;obtain⟨y,H,my,_⟩:=bC (xs:=b) (i:=c-1) ()
 refine q ?_;refine Fk (bo H ?_);have F:=MJ.uH v () H (hy y H)
 by_cases e:c-1=1
 .rw[mo (~~~e)]
  rw[e] at F ⊢;exact FB #[g, .inl #[_,rfl,MJ.first T F]]
 .rw[tz (~~~e)]
  refine aa λG0 q=>?_;obtain⟨x,Q,mx,lx⟩:=bC (xs:=a) (i:=d-1) ()
  refine q ?_;refine Fk (bo Q ?_)
  have I:∀z∈a.toList.take d,LE O key z x:=λz w=>by
   obtain⟨j,k,_,B⟩:=gE w;exact fX T.sa (o117_ G k) B lx
  have R:∀j z,b.toList[j]?\z->b[0+j]?.getD (Value.none,Value.none)=z:=λj z e=>by rw[iC,kB e];rfl
  refine Fk (gL C (pU T.mb (i:=0) (n:=c-1) (o118_ f t)) (T.ma x mx) Z (o119_ f) (λi j eE k h=>?_) λp X pt pf=>?_)
  .obtain⟨yi,l,_,l1⟩:=bC (xs:=b) (i:=0+i) (o120_ f t eE k)
   obtain⟨yj,m,_,l2⟩:=bC (xs:=b) (i:=0+j) (o121_ f t k)
   unfold d9 at h ⊢;rw[mo rfl] at h ⊢;rw[m] at h;rw[l];exact ack (fX T.sb () l1 l2) h
  .have hi:∀y∈(b.toList.drop p).take (c-1-p),∀x∈a.toList.take d,LE O key x y:=λz w u hu=>by
    obtain⟨j,k,hl,B⟩:=eU w
    have:=pf (p+j) () (o122_ f k)
    unfold d9 at this;rw[mo rfl,R (p+j) z B] at this;exact KM (I u hu) this
   have lo:∀J,a[d-1]?\J->∀y∈b.toList.take p,LE O key y J:=λJ Y z w=>by
    rw[Q] at Y;cases Y;obtain⟨j,k,_,B⟩:=gE w
    have:=pt j k
    unfold d9 at this;rw[mo rfl,R j z B] at this;exact SL this
   dsimp only
   by_cases o:c-1-p>0
   .rw[mo o]
    have L:=MJ.mr F X hi
    by_cases l:p=1
    .rw[mo (~~~l)]
     subst l;exact FB #[g, .inl #[_,rfl,MJ.first T L]]
    .rw[tz (~~~l)]
     by_cases m:p=0
     .rw[mo (~~~m)]
      subst m;exact FB #[g, .inl #[_,rfl,L.t7]]
     .rw[tz (~~~m)]
      exact yN g L G N (o123_ l m) (o124_ t o l m) (o125_ P o l m) lo
   .rw[tz o]
    have:p=c-1:=o126_ f X o
    subst this;exact yN g F G N (o127_ f e o) (o128_ f t o) (o129_ f P o) lo
def _root_.o130_{a b:Nat}(c:2<=a)(d:b<a):b<=a-1:=()
def _root_.o131_{a b c:Nat}(d:a<=b)(e:c<b-a):a+c<b:=()
def _root_.o132_{a b:Nat}(c:a<=b)(d:¬(b-a>0)):a=b:=()
def yL(C:gQ O key S k0 M A E s)(Q:kindOf st=k0)(T:jS O key S a b)(g:GS bN st)(Z:pZ O key a b n c d out):wpS M A E s (xp a b Y X c d out R) (λr ar=>GS bN ar/\MO O key a b n r) st:=by
 obtain⟨v,h1,h2,o,H,hn⟩:=Z;unfold xp;refine Fk (pV λDg I=>?_);have q:kindOf Dg=k0:=I.kind.trans Q;have t:=g.trans I;obtain⟨y,J,my,ly⟩:=bC (xs:=b) (i:=d-1) ()
 refine Fk (bo J ?_)
 have w:∀z∈b.toList.take d,LE O key z y:=λz k=>by
  obtain⟨j,f,_,l⟩:=gE k;exact fX T.sb (o130_ o f) l ly
 have L:∀j z,a.toList[j]?\z->a[0+j]?.getD (Value.none,Value.none)=z:=λj z e=>by rw[iC,kB e];rfl
 refine Fk (gL C (pU T.ma (i:=0) (n:=c) ()) (T.mb y my) q () (λi j eE f h=>?_) λp B pt pf=>?_)
 .obtain⟨xi,m,_,l1⟩:=bC (xs:=a) (i:=0+i) ()
  obtain⟨xj,e2,_,l2⟩:=bC (xs:=a) (i:=0+j) ()
  unfold d9 at h ⊢;rw[tz ∅] at h ⊢
  rw[e2] at h;rw[m];have h':O.kle (key xj) (key y):=by unfold KeyOrd.kle;simpa using h
  have:=KM (fX T.sa () l1 l2) h'
  unfold KeyOrd.kle at this;simpa using this
 .have hi:∀x∈(a.toList.drop p).take (c-p),∀y∈b.toList.take d,LE O key y x:=λz k u hu=>by
   obtain⟨j,f,hl,l⟩:=eU k
   have:=pf (p+j) () (o131_ B f)
   unfold d9 at this;rw[tz ∅,L (p+j) z l] at this
   exact KM (w u hu) (SL (show O.blt _ _=true by simpa using this))
  have lo:∀F,b[d-1]?\F->∀x∈a.toList.take p,LE O key x F:=λF N z k=>by
   rw[J] at N;cases N;obtain⟨j,f,_,l⟩:=gE k
   have:=pt j f
   unfold d9 at this;rw[tz ∅,L j z l] at this
   show O.blt _ _=false;simpa using this
  dsimp only
  by_cases G:c-p>0
  .rw[mo G]
   have P:=MJ.mq v B hi
   by_cases m:p=0
   .rw[mo (~~~m)]
    subst m;exact FB #[t, .inl #[_,rfl,P.t6]]
   .rw[tz (~~~m)]
    exact yM C q T t P () () o H () lo
  .rw[tz G]
   have:p=c:=o132_ B G
   subst this;exact yM C q T t v h1 h2 o H hn lo
def IU(C:gQ O key S k0 M A E s)(d:kindOf st=k0)(T:jS O key S a b)(g:GS bN st)(c:S7)(e:pZ O key a b n c.2.1 c.2.2.1 c.2.2.2.1):
  wpS M A E s (B6 a b c) (λr f=>GS bN f/\MO O key a b n r) st:=by
 unfold B6
 by_cases h:c.2.2.2.2.1>1
 .rw[mo h];exact yL C d T g e
 .rw[tz h];exact yL C d T g e
def _root_.o133_{a b c d e:Nat}(f:1<=a)(g:b+a+c<=d+e):b+1+(a-1)+c<=d+e:=()
def _root_.o134_{a:Nat}(b:2<=a)(c:¬(a-1=1)):2<=a-1:=()
def _root_.o135_{a b:Nat}(c:2<=a)(d:a<=b):a-1<=b:=()
def _root_.o136_{a b c d e:Nat}(f:2<=a)(g:b+c+a<=d+e):b+1+c+(a-1)<=d+e:=()
theorem IT(C:gQ O key S q M A E s)(J:kindOf st=q)(T:jS O key S a b)(g:GS bN st)(c:S6)(f:pZ O key a b n c.2.1 c.2.2.1 c.2.2.2.1):
  wpS M A E s (B5 a b t c) (λr L=>GS bN L/\MO O key a b (n+1) r) st:=by
 obtain⟨Z,m,o,out,N,P⟩:=c;obtain⟨v,p,h,l,u,w⟩:=f;dsimp only at v p h l u w;unfold B5;dsimp only;refine aa λG0 q=>?_;obtain⟨y,B,Q,R⟩:=bC (xs:=b) (i:=o-1) ()
 obtain⟨x,F,X,Y⟩:=bC (xs:=a) (i:=m-1) ()
 refine q ?_;refine Fk (bo B (Fk (bo F (Fk (C _ _ _ _ (T.mb y Q) (T.ma x X) J ?_)))));cases e:O.blt (key y) (key x) with
 |true=>
  dsimp only;rw[mo rfl];refine Fk (bo F ?_)
  have k:=MJ.uG v p F λz G=>by
   obtain⟨j,H,_,I⟩:=gE G;exact KM (fX T.sb (o130_ l H) I R) (SL e)
  by_cases d:m-1=0
  .rw[mo (~~~d)]
   rw[d] at k ⊢;exact FB #[g, .inl #[_,rfl,k.t6]]
  .rw[tz (~~~d)]
   have f:pZ O key a b (n+1) (m-1) o (out.push x):=#[k,(),(),l,u,o133_ p w]
   by_cases h:N+1>=t
   .rw[mo h];exact FB #[g, .inr #[rfl,f]]
   .rw[tz h];exact FB #[g,rfl,f]
 |false=>
  dsimp only;rw[tz ∅]
  refine Fk (bo B ?_)
  have k:=MJ.uH v () B λz G=>by
   obtain⟨j,H,_,I⟩:=gE G;exact KM (fX T.sa (o117_ p H) I Y) e
  by_cases d:o-1=1
  .rw[mo (~~~d)]
   rw[d] at k ⊢;exact FB #[g, .inl #[_,rfl,MJ.first T k]]
  .rw[tz (~~~d)]
   have f:pZ O key a b (n+1) m (o-1) (out.push y):=#[k,(),(),o134_ l d,o135_ l u,o136_ l w]
   by_cases h:P+1>=t
   .rw[mo h];exact FB #[g, .inr #[rfl,f]]
   .rw[tz h];exact FB #[g,rfl,f]
def pZ.le(h:pZ O key a b n c d out)(e:m<=n):pZ O key a b m c d out:=#[h.1,h.2.1,h.2.2.1,h.2.2.2.1,h.2.2.2.2.1,by have:=h.2.2.2.2.2;lia]
theorem Dw(C:gQ O key S l M A E s)(T:jS O key S a b)(g:GS bN st)(t:kindOf bN=l)(c:S5)(u:pZ O key a b n c.2.1 c.2.2.1 c.2.2.2.1):
  wpS M A E s (rW a b c) (λr h=>GS bN h/\Yi O key a b (n+1) r) st:=by
 have v:0<a.size+b.size:=by have:=T.na;lia
 unfold rW;refine Fk (SZ (UF (I:=λ(x:Nat)(f:S6)(h:SortSt)=>GS bN h/\f.1=none/\pZ O key a b (n+min x 1) f.2.1 f.2.2.1 f.2.2.2.1) (Q:=λf h=>GS bN h/\U7 O key a b (n+1) f) ?step ?fin #[g,rfl,u.le ()]) ?post)
 case fin=>
  rintro f h ⟨i,m,j⟩;exact#[i, .inr #[m,j.le (o115_ v)]]
 case step=>
  rintro x f h _ _ ⟨i,m,j⟩;refine SZ (IT C (i.kind.trans t) T i f j) λr w q=>?_;refine aa λy l=>?_;obtain⟨p,o⟩:=q;refine l ?_;cases r with
  |done d=>
   exists p
   rcases o with o| ⟨z,B⟩
   .exact .inl o
   .exact .inr #[z,B.le ()]
  |yield d=>exact#[p,o.1,o.2.le ()]
 case post=>
  rintro⟨J,L⟩ h ⟨i,o⟩
  rcases o with ⟨r,e,k⟩ | ⟨e,F⟩
  .dsimp only at e
   subst e;exact FB #[i,r,rfl,k]
  .dsimp only at e
   subst e;dsimp only;refine Fk (acF (abS #[rfl,?_]));refine Fk (SZ (UF (I:=λ(x:Nat)(f:S7)(h:SortSt)=>GS bN h/\f.1=none/\pZ O key a b (n+1) f.2.1 f.2.2.1 f.2.2.2.1) (Q:=λf h=>GS bN h/\U7 O key a b (n+1) f) ?step2 ?fin2 #[i,rfl,F]) ?post2)
   case fin2=>
    rintro f h ⟨i,m,j⟩;exact#[i, .inr #[m,j]]
   case step2=>
    rintro x f h _ _ ⟨i,m,j⟩;refine SZ (IU C (i.kind.trans t) T i f j) λr w q=>?_;refine aa λy l=>?_;obtain⟨p,o⟩:=q;refine l ?_;cases r with
    |done d=>exact#[p,o]
    |yield d=>exact#[p,o]
   case post2=>
    rintro⟨N,P⟩ h ⟨i,o⟩
    rcases o with ⟨r,e,k⟩ | ⟨e,G⟩
    .dsimp only at e
     subst e;exact FB #[i,r,rfl,k]
    .dsimp only at e
     subst e;refine Fk (pV λR H=>FB #[i.trans H,rfl,G])
def _root_.o137_{a b:Nat}(c:1<=a)(d:1<=b)(e:¬(a-1=0))(f:¬(b=1)):1<=a-1:=()
def Dz(C:gQ O key S l M A E s)(v:kindOf st=l)(T:jS O key S a b)(q:∀r c,GS st c->Res O key (a.toList++b.toList) r.toList->Q r c):wpS M A E s (pG a b) Q st:=by
 rw[CD];refine Fk (acF (abS #[rfl,?_]));refine aa λw l=>?_;have t:=T.na;have z:=T.nb;obtain⟨x,n,J,L⟩:=bC (xs:=a) (i:=a.size-1) ()
 refine l ?_;refine Fk (bo n ?_)
 have B:MJ O key a b #[] a.size b.size:=by
  refine#[?_,by simp,?_,?_,by simp]
  .rw[qr (by simp),qr (by simp)]
   simpa using(adt a.toList).append (adt b.toList)
  .rw[qr (by simp)]
   exact acO.mpr (T.sa.imp λh=>h)
  .rw[qr (by simp)]
   exact acO.mpr (T.sb.imp λh=>h)
 have j:=MJ.uG B t n λy F=>T.last x n y (acY F);have G:(#[]:Array Keyed).push x= [x].toArray:=rfl;rw[G] at j
 by_cases k:a.size-1=0
 .rw[mo (~~~k)]
  rw[k] at j ⊢;exact FB (q _ _ (GS.refl _) j.t6)
 .rw[tz (~~~k)]
  by_cases f:b.size=1
  .rw[mo (~~~f)]
   rw[f] at j ⊢;exact FB (q _ _ (GS.refl _) (MJ.first T j))
  .rw[tz (~~~f)]
   refine Fk (ace ?_);refine Fk (SZ (UF (I:=λ(x:Nat)(g:S5)(c:SortSt)=>GS st c/\g.1=none/\pZ O key a b (x+1) g.2.1 g.2.2.1 g.2.2.2.1) (Q:=λg c=>GS st c/\∃r,g.1\r/\Res O key (a.toList++b.toList) r.toList) ?step ?fin #[GS.refl _,rfl,j,by show 1<=a.size-1;exact o137_ t z k f,by show a.size-1<=a.size;lia,by show 2<=b.size;lia,bq _,by show 0+1+(a.size-1)+b.size<=a.size+b.size;lia]) ?post)
   case fin=>
    rintro g c ⟨m,k,f⟩
    have:=f.2.2.2.2.2
    have:=f.2.1
    lia
   case step=>
    rintro x g c _ _ ⟨m,k,f⟩;refine SZ (Dw C T m v g f) λr N H=>?_;refine aa λw l=>?_;obtain⟨u,o⟩:=H;refine l ?_;cases r with
    |done d=>exact#[u,o]
    |yield d=>exact#[u,o]
   case post=>
    rintro⟨P,R⟩ c ⟨m,r,e,p⟩;dsimp only at e;subst e;exact FB (q r c m p)
end
def CC(i:Nat):mergeAt' i=(do
 let s <-get
 let (some (sa,na,power),some (sb,nb,_)):=((pendingOf s)[i]?,(pendingOf s)[i+1]?) |unsupported "internal:list.sort.pending"
 set (setPending s (((pendingOf s).setIfInBounds i (sa,na+nb,power)).eraseIdxIfInBounds (i+1)))
 let some k <-fi false (<-elem' (arrOf s) sb) (arrOf s) sa na 0|return false
 let (sa,na):=(sa+k,na-k)
 if na==0 then return true
 let some nb <-fi true (<-elem' (arrOf s) (sa+na-1)) (arrOf s) sb nb (nb-1) |return false
 if nb==0 then return true
 let x:=(arrOf s).extract sa sb
 let y:=(arrOf s).extract sb (sb+nb)
 let merged <-if na<=nb then pH x y else pG x y
 modify λs=>setArr s (merged.toList.zipIdx.foldl (λa (p,j)=>a.setIfInBounds (sa+j) p) (arrOf s))
 return (failedOf (<-get)).isNone):=rfl
def _root_.o138_{a b c d:Nat}(e:a+(b+1)<=c/\c<a+(b+1)+d):a+b<=c/\c<a+b+(d+1):=()
def _root_.o139_{a b c d:Nat}(e:a+(b+1)<=c/\c<a+(b+1)+d):c-(a+b)=c-(a+(b+1))+1:=()
def _root_.o140_{a b c d:Nat}(e:a+b=c):a+b<=c/\c<a+b+(d+1):=()
def _root_.o141_{a b c d:Nat}(e:¬(a+(b+1)<=c/\c<a+(b+1)+d))(f:¬(a+b=c)):¬(a+b<=c/\c<a+b+(d+1)):=()
theorem qG:∀(m:List Keyed)(off b:Nat)(c:Array Keyed),b+off+m.length<=c.size->
  ((m.zipIdx off).foldl (λa (p:Keyed×Nat)=>a.setIfInBounds (b+p.2) p.1) c).size=c.size/\∀i,((m.zipIdx off).foldl (λa (p:Keyed×Nat)=>a.setIfInBounds (b+p.2) p.1) c)[i]? =if b+off<=i/\i<b+off+m.length then m[i-(b+off)]? else c[i]?
 | [],off,b,c,_=>#[rfl,λi=>by rw[tz (by simp)];rfl]
 |x::m,off,b,c,h=>by
  rw[dG] at h;have f:=qG m (off+1) b (c.setIfInBounds (b+off) x) (by rw[acm];lia)
  rw[List.zipIdx_cons,List.foldl_cons];refine#[by rw[f.1,acm],λi=>?_]
  rw[f.2 i]
  by_cases d:b+(off+1)<=i/\i<b+(off+1)+m.length
  .rw[mo d,mo (by rw[dG];exact o138_ d),show i-(b+off)=(i-(b+(off+1)))+1 by exact o139_ d,vy]
  .rw[tz d,ac8]
   by_cases e:b+off=i
   .rw[mo e,mo (),mo (by rw[dG];exact o140_ e),<-e,ph];rfl
   .rw[tz e,tz (by rw[dG];exact o141_ d e)]
noncomputable def putAt(c m:Array Keyed)(b:Nat):Array Keyed:=m.toList.zipIdx.foldl (λa (p:Keyed×Nat)=>a.setIfInBounds (b+p.2) p.1) c
def yh(h:b+m.size<=a.size)(i:Nat):(putAt a m b)[i]? =if b<=i/\i<b+m.size then m[i-b]? else a[i]? :=by
 have:=(qG m.toList 0 b a (~~~h)).2 i
 unfold putAt;rw[this];simp
def Fq(h:b+m.size<=a.size):(putAt a m b).size=a.size:=(qG m.toList 0 b a (~~~h)).1
def Fp(h:b+m.size<=a.size)(p:m.toList.Perm ((a.toList.drop b).take m.size)):(putAt a m b).Perm a:=by
 rw[Kf]
 have e:(putAt a m b).toList=a.toList.take b++(m.toList++a.toList.drop (b+m.size)):=by
  apply y8;intro i;rw[fO,yh h,acV,acV,gO,cO,cO,List.getElem?_take,Bo,fO,fO,fO]
  repeat' split
  all_goals first|rfl| (exfalso;lia) | (congr 1;lia)
 have c:a.toList=a.toList.take b++((a.toList.drop b).take m.size++a.toList.drop (b+m.size)):=by
  conv=>lhs;rw[<-kP b a.toList,nH a.toList b m.size]
 rw[e]
 conv=>rhs;rw[c]
 exact List.Perm.append_left _ (p.append_right _)
section
variable {O:KeyOrd} {key:Keyed->O.α} {S:Keyed->Prop} {k0:SortKind} {prog:Program} {w:World} {A:Around} {E:Value->Shared->Prop} {s:Shared} {st bN:SortSt}
def Qv(h:Q ⟨⟩ a):wpS M A E s (set a:StateT SortSt Sem PUnit) Q st:=by
 unfold wpS;rw[StateT.run_set];exact ir #[rfl,h]
def fE{xs:Array Keyed}{a b:Nat}(h:jA O key xs a b){i j:Nat}(c:a<=i)(d:i<=j)(e:j<b)(f:xs[i]?\x)(g:xs[j]?\y):LE O key x y:=by
 have:=h i j c d e
 unfold ky at this;rw[f,g] at this;exact this
def Df{xs:Array Keyed}(k:b<=xs.size)(h:∀i j x y,a<=i->i<=j->j<b->xs[i]?\x->xs[j]?\y->LE O key x y):jA O key xs a b:=λi j e f g=>by
 obtain⟨x,c,_,_⟩:=bC (xs:=xs) (i:=i) ()
 obtain⟨y,d,_,_⟩:=bC (xs:=xs) (i:=j) ()
 unfold ky;rw[c,d];exact h i j x y e f g c d
def _root_.o142_{a b c d:Nat}(e:a<=b)(f:c<a-d):c<min a b-d:=()
def ext_get{xs:Array Keyed}{a b i:Nat}(c:b<=xs.size)(d:i<b-a):(xs.extract a b)[i]? =xs[a+i]? :=by
 rw[Array.getElem?_extract,mo (o142_ c d)]
def ext_mem{c:Array Keyed}{a b:Nat}{x:Keyed}(h:x∈(c.extract a b).toList):∃i,a<=i/\i<b/\i<c.size/\c[i]?\x:=by
 rw[ext_toList] at h;obtain⟨j,f,d,e⟩:=eU h;rw[cO] at d;exact#[a+j,(),(),d,kB e]
def _root_.o143_{a b c:Nat}(d:a<=b):min a b-c=a-c:=()
def JA(h:jA O key xs a b)(c:b<=xs.size):(xs.extract a b).toList.Pairwise (LE O key):=by
 rw[yW];intro i j d e l;have f:(xs.extract a b).toList.length=b-a:=by rw[cO,Bp];exact o143_ c
 rw[f] at d e;have g:=ext_get (xs:=xs) (a:=a) c d;have k:=ext_get (xs:=xs) (a:=a) c e;refine fE h (i:=a+i) (j:=a+j) () () () ?_ ?_
 .rw[<-g,<-fO];exact dH _
 .rw[<-k,<-fO];exact dH _
def _root_.o144_{a b c d e f:Nat}(g:1<=a)(h:b+c+a<=d)(i:e<=f)(j:f<c):b+e<d:=()
def _root_.o145_{a b c d:Nat}(e:a<=b)(f:b-a=0)(g:c<d+b):c<d+a:=()
def _root_.o146_{a b c:Nat}(d:1<=a)(e:b<=a):c+b+(a-b)-1=c+a-1:=()
def _root_.o147_{a b c d e:Nat}(f:1<=a)(g:1<=b)(h:c+a+b<=d)(i:c+e+(a-e)-1=c+a-1):c+e+(a-e)-1<d:=()
def _root_.o148_{a b c d e f:Nat}(g:a+b+c<=d)(h:e<=f)(i:f<c):a+b+e<d:=()
def _root_.o149_{a b c d:Nat}(e:a+b<=c)(f:c<a+b+d):c-(a+b)<d:=()
def _root_.o150_{a b c:Nat}(d:a+b<=c):a+b+(c-(a+b))=c:=()
def _root_.o151_{a b c d:Nat}(e:a+b+c<=d):c<=d-(a+b):=()
def _root_.o152_{a b c d e:Nat}(f:a+b+c<=d)(g:d<a+b+e):d-(a+b)<e:=()
def _root_.o153_{a b c d:Nat}(e:a+b+c<=d):a+b+(d-(a+b))=d:=()
def _root_.o154_{a b c d e:Nat}(f:a<=b)(g:c<d+e+a):c<d+e+b:=()
def _root_.o155_{a b c d e f:Nat}(g:1<=a)(h:1<=b)(i:c+a+b<=d)(j:e<=a)(k:¬(a-e=0))(l:c+e+(a-e)-1=c+a-1)(m:¬(f=0)):1<=min (c+a) d-(c+e):=()
def _root_.o156_{a b c d e:Nat}(f:1<=a)(g:b+c+a<=d)(h:¬(e=0)):1<=min (b+c+e) d-(b+c):=()
def _root_.o157_{a b c:Nat}(d:¬(a=0)):0<b+c+a-(b+c):=()
def _root_.o158_{a b c d e:Nat}(f:1<=a)(g:b+c+a<=d)(h:e<=c):min (b+c) d-(b+e)=c-e:=()
def _root_.o159_{a b c d:Nat}(e:1<=a)(f:b<=a)(g:¬(a-b=0))(h:¬(c=0)):a-b-1<d+a-(d+b):=()
def _root_.o160_{a b c d:Nat}(e:1<=a)(f:b<=a)(g:¬(a-b=0))(h:c+b+(a-b)-1=c+a-1)(i:¬(d=0)):c+b+(a-b-1)=c+a-1:=()
def _root_.o161_{a b c d e:Nat}(f:1<=a)(g:b+c+a<=d)(h:e<=a):min (b+c+e) d-(b+c)=e:=()
def _root_.o162_{a b c d e f g h:Nat}(i:a+b+c<=d)(j:e<=b)(k:f<=c)(l:g=f)(m:h=b-e+f):a+e+h<=d:=()
def _root_.o163_{a b c d e f g:Nat}(h:a<=b)(i:c=d)(j:e=b-a+d)(k:f+a<=g)(l:g<f+b+d):f+a<=g/\g<f+a+(b-a+d):=()
def _root_.o164_{a b c d e:Nat}(f:a=b)(g:c<d+e):c<d+e+b:=()
def _root_.o165_{a b c d:Nat}(e:a<=b)(f:c+b<=d):c+a<=d:=()
def _root_.o166_{a b c d e f g:Nat}(h:a<=b)(i:c=d)(j:e=b-a+d)(k:f<g+a\/g+b+d<=f):¬(g+a<=f/\f<g+a+(b-a+d)):=()
def _root_.o167_{a b c d:Nat}(e:a<b+c)(f:b+c<=d):a<=d:=()
def _root_.o168_{a b c d e f:Nat}(g:a=b)(h:c<d+e+b)(i:d+e+b<=f):c<=f:=()
def _root_.o169_{a b c d e f g:Nat}(h:a<=b)(i:c=a)(j:d<e\/e+f+b<=d):d<e+g\/e+f+a<=d:=()
def _root_.o170_{a b c d e f:Nat}(g:a<=b)(h:c=d)(i:e=b-a+d):f+b-(f+a)=b-a:=()
def _root_.o171_{a b c d:Nat}(e:a=b):c+d+b-(c+d)=b:=()
def _root_.o172_{a b c d:Nat}(e:a=b):c-d<=c-d+b:=()
def _root_.o173_{a b c d e f:Nat}(g:a<=b)(h:c=d)(i:e=b-a+d):f+a+(b-a)=f+b:=()
def _root_.o174_{a b c d:Nat}(e:a=b):c-d+b-(c-d)=b:=()
def _root_.o175_{a b c d:Nat}(e:a<=b)(f:c<d+a):c<d+b:=()
def _root_.o176_{a b c d e f:Nat}(g:a<=b)(h:c=a)(i:d<e+f+a):d<e+f+b:=()
def _root_.o177_{a b c d e:Nat}(f:a=b)(g:¬(c<d+e+b)):d+e+b<=c:=()
def _root_.o178_{a b c d:Nat}(e:a<b+(c+d)):a<b+c+d:=()
def _root_.o179_{a b c d:Nat}(e:a<=b)(f:¬(a<c+d)):a-(c+d)<=b-(c+d):=()
def _root_.o180_{a b c:Nat}(d:a+b<=c):a<=c:=()
def _root_.o181_{a b c d e f:Nat}(g:a=b)(h:c<=d)(i:¬(c<e+f+b)):e+f+b<=d:=()
def _root_.o182_{a b c d e:Nat}(f:a=b)(g:¬(c<d+e+b)):d+e<=c:=()
def Dy(C:gQ O key S k0 (model prog w) A E s)(o:Ok S k0 st)(hf:failedOf st=none)(p1:(pendingOf st)[i]?\(b,d,pw))(p2:(pendingOf st)[i+1]?\(b+d,F,pw2))(J:1<=d)(RC:1<=F)(N:b+d+F<=(arrOf st).size)
  (s1:jA O key (arrOf st) b (b+d)) (s2:jA O key (arrOf st) (b+d) (b+d+F))
  (q:∀t,(arrOf t).Perm (arrOf st)->kindOf t=kindOf st->failedOf t=none->pendingOf t=((pendingOf st).setIfInBounds i (b,d+F,pw)).eraseIdxIfInBounds (i+1)->(∀j,j<b\/b+d+F<=j->(arrOf t)[j]? =(arrOf st)[j]?)->jA O key (arrOf t) b (b+(d+F))->Q true t):
  wpS (model prog w) A E s (mergeAt' i) Q st:=by
 rw[CC];refine Fk (ace ?_);rw[p1,p2];dsimp only;refine Fk (Qv ?_);generalize ((pendingOf st).setIfInBounds i (b,d+F,pw)).eraseIdxIfInBounds (i+1)=pn at q;have o':Ok S k0 (setPending st pn):=#[o.mem,o.kind];have mem:∀x∈(arrOf st).toList,S x:=o.mem;obtain⟨b0,VP,mb0,lb0⟩:=bC (xs:=arrOf st) (i:=b+d) ()
 refine Fk (bo VP ?_);have qd:∀(j:Nat)(z:Keyed),(arrOf st)[j]?\z->(arrOf st)[j]?.getD (Value.none,Value.none)=z:=λj z e=>by rw[e];rfl
 refine Fk (gL C (pU mem (i:=b) (n:=d) ()) (mem b0 mb0) o'.kind () (λi j G L h=>?_) λk H kt kf=>?_)
 .obtain⟨xi,I,_,_⟩:=bC (xs:=arrOf st) (i:=b+i) (by exact o144_ RC N G L)
  obtain⟨xj,e2,_,_⟩:=bC (xs:=arrOf st) (i:=b+j) ()
  unfold d9 at h ⊢;rw[tz ∅] at h ⊢
  rw[e2] at h;rw[I];have h':O.kle (key xj) (key b0):=by unfold KeyOrd.kle;simpa using h
  have:=KM (fE s1 () () () I e2) h'
  unfold KeyOrd.kle at this;simpa using this
 have klo:∀j x,b<=j->j<b+k->(arrOf st)[j]?\x->LE O key x b0:=λj x l v e=>by
  have:=kt (j-b) (by exact o75_ l v)
  unfold d9 at this;rw[tz ∅,show b+(j-b)=j by exact o76_ l,qd j x e] at this
  show O.blt _ _=false;simpa using this
 have khi:∀j x,b+k<=j->j<b+d->(arrOf st)[j]?\x->LE O key b0 x:=λj x l v e=>by
  have:=kf (j-b) (by exact o77_ l) (by exact o78_ l v)
  unfold d9 at this;rw[tz ∅,show b+(j-b)=j by exact o79_ l,qd j x e] at this
  exact SL (show O.blt _ _=true by simpa using this)
 dsimp only;have T5:∀j y,b+d<=j->j<b+d+F->(arrOf st)[j]?\y->LE O key b0 y:=λj y l v e=>fE s2 () l v VP e
 by_cases e0:d-k=0
 .rw[mo (~~~e0)]
  refine FB (q _ (.refl _) rfl hf rfl (λ_ _=>rfl) ?_);refine Df (by show b+(d+F)<=(arrOf st).size;lia) λi j x y l G L P R=>?_
  by_cases c1:j<b+d
  .exact fE s1 l G c1 P R
  .by_cases c2:i<b+d
   .exact KM (klo i x l (by exact o145_ H e0 c2) P) (T5 j y () () R)
   .exact fE s2 () G () P R
 rw[tz (~~~e0)]
 have Y3:b+k+(d-k)-1=b+d-1:=by exact o146_ J H
 obtain⟨al,Rf,mal,lal⟩:=bC (xs:=arrOf st) (i:=b+k+(d-k)-1) (by exact o147_ J RC N Y3)
 refine Fk (bo Rf ?_);rw[Y3] at Rf;refine Fk (gL C (pU mem (i:=b+d) (n:=F) ()) (mem al mal) o'.kind () (λi j G L h=>?_) λm hm mt mf=>?_)
 .obtain⟨yi,I,_,_⟩:=bC (xs:=arrOf st) (i:=b+d+i) (by exact o148_ N G L)
  obtain⟨yj,e2,_,_⟩:=bC (xs:=arrOf st) (i:=b+d+j) ()
  unfold d9 at h ⊢;rw[mo rfl] at h ⊢;rw[e2] at h;rw[I];exact ack (fE s2 () () () I e2) h
 have mlo:∀j y,b+d<=j->j<b+d+m->(arrOf st)[j]?\y->LE O key y al:=λj y l v e=>by
  have:=mt (j-(b+d)) (by exact o149_ l v)
  unfold d9 at this;rw[mo rfl,show b+d+(j-(b+d))=j by exact o150_ l,qd j y e] at this
  exact SL this
 have mhi:∀j y,b+d+m<=j->j<b+d+F->(arrOf st)[j]?\y->LE O key al y:=λj y l v e=>by
  have:=mf (j-(b+d)) (by exact o151_ l) (by exact o152_ l v)
  unfold d9 at this;rw[mo rfl,show b+d+(j-(b+d))=j by exact o153_ l,qd j y e] at this
  exact this
 have xal:∀j x,b<=j->j<b+d->(arrOf st)[j]?\x->LE O key x al:=λj x l v e=>fE s1 l (by exact o98_ v) (by exact o99_ v) e Rf
 dsimp only
 by_cases I:m=0
 .rw[mo (~~~I)]
  refine FB (q _ (.refl _) rfl hf rfl (λ_ _=>rfl) ?_);refine Df (by show b+(d+F)<=(arrOf st).size;lia) λi j x y l G L P R=>?_
  by_cases c1:j<b+d
  .exact fE s1 l G c1 P R
  .by_cases c2:i<b+d
   .exact KM (xal i x l c2 P) (mhi j y () () R)
   .exact fE s2 () G () P R
 rw[tz (~~~I)]
 have T:jS O key S ((arrOf st).extract (b+k) (b+d)) ((arrOf st).extract (b+d) (b+d+m)):=by
  refine#[λx X=>?_,λx X=>?_,JA (λi j l v h3=>s1 i j () v h3) (),JA (λi j l v h3=>s2 i j l v (by exact o154_ hm h3)) (),by rw[Bp];exact o155_ J RC N H e0 Y3 I,by rw[Bp];exact o156_ RC N I,λy hy x X=>?_,λx X y hy=>?_]
  .obtain⟨i,_,_,_,e⟩:=ext_mem X
   exact mem x (cV (lF e))
  .obtain⟨i,_,_,_,e⟩:=ext_mem X
   exact mem x (cV (lF e))
  .rw[ext_get () (by exact o157_ I)] at hy
   have Li:(arrOf st)[b+d]?\y:=hy;rw[VP] at Li;cases Li;obtain⟨i,l,v,_,e⟩:=ext_mem X;exact khi i x l v e
  .have hsz2:((arrOf st).extract (b+k) (b+d)).size=d-k:=by rw[Bp];exact o158_ RC N H
   rw[hsz2,ext_get () (by exact o159_ J H e0 I)] at X
   rw[show b+k+(d-k-1)=b+d-1 by exact o160_ J H e0 Y3 I,Rf] at X;cases X
   obtain⟨i,l,v,_,e⟩:=ext_mem hy;exact mlo i y l v e
 have szx:((arrOf st).extract (b+k) (b+d)).size=d-k:=by rw[Bp];exact o158_ RC N H
 have f:((arrOf st).extract (b+d) (b+d+m)).size=m:=by rw[Bp];exact o161_ RC N hm
 have fin:∀(r:Array Keyed)(t:SortSt),GS (setPending st pn) t->Res O key (((arrOf st).extract (b+k) (b+d)).toList++((arrOf st).extract (b+d) (b+d+m)).toList) r.toList->
   wpS (model prog w) A E s (do
    modify λs=>setArr s (r.toList.zipIdx.foldl (λa (p,j)=>a.setIfInBounds (b+k+j) p) (arrOf s))
    return (failedOf (<-get)).isNone) Q t:=by
  intro r t g B;refine Fk (acp (Fk (ace ?_)));have Ru:failedOf t=none:=g.failed.trans hf
  have hr:r.size=d-k+m:=by
   have:=B.1.length_eq
   rw[dh,cO,cO,cO,szx,f] at this;exact this
  have hb:b+k+r.size<=(arrOf t).size:=by rw[g.arr];show _<=(arrOf st).size;exact o162_ N H hm f hr
  have abk:(r.toList.zipIdx.foldl (λa (x:Keyed×Nat)=>match x with| (p,j)=>a.setIfInBounds (b+k+j) p) (arrOf t))=putAt (arrOf t) r (b+k):=rfl
  show wpS _ _ _ _ (pure (failedOf t).isNone) Q (setArr t (putAt (arrOf t) r (b+k)));rw[Ru];have ga:arrOf t=arrOf st:=g.arr;rw[ga] at hb ⊢;have JE:=λi=>yh hb i;rw[hr] at JE
  have UB:∀j x,b+k<=j->j<b+d+m->(putAt (arrOf st) r (b+k))[j]?\x->∃i,b+k<=i/\i<b+d+m/\(arrOf st)[i]?\x:=λj x l v e=>by
   rw[JE,mo (by exact o163_ H f hr l v)] at e
   have hm:=B.1.mem_iff.mp (cV (lF e))
   rcases c5.mp hm with z|z
   .obtain⟨i,a1,a2,_,a4⟩:=ext_mem z
    exact#[i,a1,by exact o164_ f a2,a4]
   .obtain⟨i,a1,a2,_,a4⟩:=ext_mem z
    exact#[i,by exact o165_ H a1,a2,a4]
  have u:∀j,j<b+k\/b+d+m<=j->(putAt (arrOf st) r (b+k))[j]? =(arrOf st)[j]? :=λj h=>by rw[JE,tz (by exact o166_ H f hr h)]
  have O0:∀i x j y,b<=i->i<b+k->(arrOf st)[i]?\x->b+k<=j->j<b+d+F->(arrOf st)[j]?\y->LE O key x y:=λi x j y a1 a2 a3 a4 a5 a6=>by
   by_cases c:j<b+d
   .exact fE s1 a1 (by exact o167_ a2 a4) c a3 a6
   .exact KM (klo i x a1 a2 a3) (T5 j y () a5 a6)
  have Rw:∀i x j y,b<=i->i<b+d+m->(arrOf st)[i]?\x->b+d+m<=j->j<b+d+F->(arrOf st)[j]?\y->LE O key x y:=λi x j y a1 a2 a3 a4 a5 a6=>by
   by_cases c:i<b+d
   .exact KM (xal i x a1 c a3) (mhi j y a4 a5 a6)
   .exact fE s2 () (by exact o168_ f a2 a4) a5 a3 a6
  refine FB (q _ ?_ g.kind Ru g.pend (λj L=>u j (by exact o169_ hm f L)) ?_)
  .refine Fp hb ?_
   rw[hr];refine B.1.trans ?_;rw[ext_toList,ext_toList,show b+d-(b+k)=d-k by exact o170_ H f hr,show b+d+m-(b+d)=m by exact o171_ f]
   have:((arrOf st).toList.drop (b+k)).take (d-k+m)=((arrOf st).toList.drop (b+k)).take (d-k)++((arrOf st).toList.drop (b+d)).take m:=by
    rw[oS _ (show d-k<=d-k+m by exact o172_ f),List.drop_drop,show b+k+(d-k)=b+d by exact o173_ H f hr,show d-k+m-(d-k)=m by exact o174_ f]
   rw[this]
  .refine Df (by show b+(d+F)<=(putAt (arrOf st) r (b+k)).size;rw[Fq hb];lia) λi j x y l G L P R=>?_
   have Y:(putAt (arrOf st) r (b+k))[i]?\x:=P;have M:(putAt (arrOf st) r (b+k))[j]?\y:=R
   by_cases ci:i<b+k
   .rw[u i (.inl ci)] at Y
    by_cases cj:j<b+k
    .rw[u j (.inl cj)] at M
     exact fE s1 l G (by exact o175_ H cj) Y M
    .by_cases Yw:j<b+d+m
     .obtain⟨j',b1,b2,b3⟩:=UB j y () Yw M
      exact O0 i x j' y l ci Y b1 (by exact o176_ hm f b2) b3
     .rw[u j (.inr (by exact o177_ f Yw))] at M
      exact O0 i x j y l ci Y () (by exact o178_ L) M
   .by_cases Z:i<b+d+m
    .by_cases Yw:j<b+d+m
     .rw[JE,mo ()] at Y M
      exact fX B.2 (by exact o179_ G ci) (lF Y) (lF M)
     .obtain⟨i',b1,b2,b3⟩:=UB i x () Z Y
      rw[u j (.inr (by exact o177_ f Yw))] at M
      exact Rw i' x j y (by exact o180_ b1) b2 b3 (by exact o177_ f Yw) (by exact o178_ L) M
    .rw[u i (.inr (by exact o177_ f Z))] at Y
     rw[u j (.inr (by exact o181_ f G Z))] at M
     exact fE s2 (by exact o182_ f Z) G (by exact o178_ L) Y M
 by_cases c:d-k<=m
 .rw[mo c]
  exact Fk (DB C o'.kind T λr t g B=>fin r t g B)
 .rw[tz c]
  exact Fk (Dz C o'.kind T λr t g B=>fin r t g B)
end
abbrev U1:=Option Unit×Unit
noncomputable def J8(a:Nat):StateT SortSt Sem (ForInStep U1):=do
 let st <-get
 match (if (pendingOf st).size>1 then(pendingOf st)[(pendingOf st).size-2]? else none) with
 |some (_,_,b)=>
  if b<=a then pure (ForInStep.done (none,Unit.unit))
  else do
   let ok <-mergeAt' ((pendingOf st).size-2)
   if (!ok)=true then pure (ForInStep.done (some ⟨⟩,Unit.unit)) else pure (ForInStep.yield (none,Unit.unit))
 |_=>pure (ForInStep.done (none,Unit.unit))
noncomputable def mF(size lo n:Nat):StateT SortSt Sem (ForInStep (Option Unit×Nat)):=do
 let st <-get
 match (pendingOf st).back? with
 |some (b,a,_)=>do
  let t <-forIn [0:size] ((none,⟨⟩):U1) λ_ _=>J8 (power' size (2*b+a) (2*b+a+a+n) size)
  match t.1 with
  |some r=>pure (ForInStep.done (some r,lo))
  |none=>do
   modify λs=>setPending s ((pendingOf s).modify ((pendingOf s).size-1) λx=>(x.1,x.2.1,power' size (2*b+a) (2*b+a+a+n) size))
   modify λs=>setPending s ((pendingOf s).push (lo,n,0))
   pure (ForInStep.yield (none,lo+n))
 |_=>do
  modify λs=>setPending s ((pendingOf s).push (lo,n,0))
  pure (ForInStep.yield (none,lo+n))
noncomputable def De(size lo:Nat):StateT SortSt Sem (ForInStep (Option Unit×Nat)):=
 if lo>=size then pure (ForInStep.done (none,lo))
 else do
  let x <-countRun' lo (size-lo)
  match x with
  |some a=>
   if a<minRun' size size 0 then do
    liftM (rule "list.sort.binary-insertion")
    let ok <-binarySort' lo (min (size-lo) (minRun' size size 0)) a
    if (!ok)=true then pure (ForInStep.done (some ⟨⟩,lo)) else mF size lo (min (size-lo) (minRun' size size 0))
   else mF size lo a
  |_=>pure (ForInStep.done (some ⟨⟩,lo))
noncomputable def IB:StateT SortSt Sem (ForInStep U1):=do
 let st <-get
 if (pendingOf st).size<=1 then pure (ForInStep.done (none,Unit.unit))
 else do
  let ok <-mergeAt' (if (if (pendingOf st).size-2>0 then(pendingOf st)[(pendingOf st).size-2-1]?.map (·.2.1) else none).any (·<((pendingOf st)[(pendingOf st).size-2+1]?.elim 0 (·.2.1))) then(pendingOf st).size-2-1 else(pendingOf st).size-2)
  if (!ok)=true then pure (ForInStep.done (some ⟨⟩,Unit.unit)) else pure (ForInStep.yield (none,Unit.unit))
theorem yv:sortRuns'=(do
 let st <-get
 let c <-forIn [0:(arrOf st).size] ((none,0):Option Unit×Nat) λ_ c=>De (arrOf st).size c.2
 match c.1 with
 |some r=>pure r
 |none=>do
  let t <-forIn [0:(arrOf st).size] ((none,⟨⟩):U1) λ_ _=>IB
  match t.1 with
  |some r=>pure r
  |none=>pure ⟨⟩):=by
 rw[sortRuns'_eq];dsimp only;refine dE rfl λst=>dE (BP λ_ c=>?_) λc=>?_
 .unfold De
  refine fB (λ_=>rfl) (λ_=>dE rfl λx=>?_);cases x with
  |none=>rfl
  |some f=>
   dsimp only;have i:∀n:Nat,mF (arrOf st).size c.2 n=mF (arrOf st).size c.2 n:=λ_=>rfl;refine fB (λ_=>dE rfl λ_=>dE rfl λok=>fB (λ_=>rfl) (λ_=>?_)) (λ_=>?_)
   all_goals
    unfold mF;refine dE rfl λd=>?_;cases(pendingOf d).back? with
    |none=>rfl
    |some e=>
     obtain⟨j,k,l⟩:=e;dsimp only;refine dE (BP λ_ c=>?_) λt=>?_
     .unfold J8
      refine dE rfl λa=>?_;cases(if (pendingOf a).size>1 then(pendingOf a)[(pendingOf a).size-2]? else none) with
      |none=>rfl
      |some e=>rfl
     .obtain⟨b,g⟩:=t
      cases b<;>rfl
 .obtain⟨h,m⟩:=c
  cases h with
  |some r=>rfl
  |none=>
   dsimp only;refine dE (BP λ_ c=>?_) λt=>?_
   .rfl
   .obtain⟨b,g⟩:=t
    cases b<;>rfl
section
variable {O:KeyOrd} {key:Keyed->O.α} {S:Keyed->Prop} {k0:SortKind} {prog:Program} {w:World} {A:Around} {E:Value->Shared->Prop} {s:Shared} {st bN:SortSt}
def jQ(O:KeyOrd)(key:Keyed->O.α)(c:Array Keyed):Nat->List (Nat×Nat)->Nat->Prop
 |a,[],b=>a=b
 |a,e::r,b=>e.1=a/\1<=e.2/\jA O key c a (a+e.2)/\jQ O key c (a+e.2) r b
theorem jQ.app:∀{j g:List (Nat×Nat)}{a b:Nat},jQ O key i a (j++g) b↔∃c,jQ O key i a j c/\jQ O key i c g b
 | [],g,a,b=>#[λh=>#[a,rfl,h],λ#[c,d,f]=>by cases d;exact f]
 |e::j,g,a,b=>by
  constructor
  .rintro⟨d,f,k,n⟩
   obtain⟨c,l,m⟩:=jQ.app.mp n;exact#[c,#[d,f,k,l],m]
  .rintro⟨c,⟨d,f,k,l⟩,m⟩
   exact#[d,f,k,jQ.app.mpr #[c,l,m]]
theorem jQ.le:∀{l:List (Nat×Nat)}{a b:Nat},jQ O key c a l b->a+l.length<=b
 | [],a,b,h=>by cases h;simp
 |e::l,a,b,#[_,f,_,d]=>by
  have:=jQ.le d
  rw[dG];lia
def yz(h:∀i,a<=i->i<b->d[i]? =c[i]?)(g:jA O key c a b):jA O key d a b:=λi j e k f=>by
 rw[iI (h i e ()),iI (h j () f)];exact g i j e k f
theorem jQ.congr:∀{l:List (Nat×Nat)}{a b:Nat},(∀i,a<=i->i<b->d[i]? =c[i]?)->jQ O key c a l b->jQ O key d a l b
 | [],a,b,_,h=>h
 |e::l,a,b,f,#[m,n,o,g]=>by
  have:=jQ.le g
  exact#[m,n,yz (λi j k=>f i j ()) o,jQ.congr (λi j k=>f i () k) g]
noncomputable def pl(st:SortSt):List (Nat×Nat):=(pendingOf st).toList.map λe=>(e.1,e.2.1)
structure SI (O:KeyOrd) (key:Keyed->O.α) (S:Keyed->Prop) (k0:SortKind) (a0:Array Keyed) (st:SortSt) (lo:Nat):Prop where
 ok:Ok S k0 st
 failed:failedOf st=none
 perm:(arrOf st).Perm a0
 cov:jQ O key (arrOf st) 0 (pl st) lo
 le:lo<=a0.size
theorem SI.size{a:Array Keyed}{lo:Nat}(h:SI O key S k0 a st lo):(arrOf st).size=a.size:=h.perm.size_eq
def _root_.o183_{a b c d e f g:Nat}(h:a+b+c+d<=e)(i:f=g)(j:e<=g):a+b+c<=f:=()
def _root_.o184_{a b:Nat}(c:a+1<b):min a b=a:=()
def _root_.o185_{a:Nat}:a+1-a=1:=()
def _root_.o186_{a b c d e f:Nat}(g:a+b+c+d<=e)(h:e<=f):a+b+c<=f:=()
def _root_.o187_{a b:Nat}(c:a+1<b):min a b+(b-(a+2)+1)=b-1:=()
def FY(C:gQ O key S e (model prog w) A E s){r:Array Keyed}{lo i:Nat}{Q:Bool->SortSt->Prop}(h:SI O key S e r st lo)(f:i+1<(pendingOf st).size)
  (q:∀a,SI O key S e r a lo->(pendingOf a).size=(pendingOf st).size-1->(∀j,lo<=j->(arrOf a)[j]? =(arrOf st)[j]?)->Q true a):wpS (model prog w) A E s (mergeAt' i) Q st:=by
 have M:(pendingOf st)[i]? =some (pendingOf st)[i]:=ab7 _ i ()
 have N:(pendingOf st)[i+1]? =some (pendingOf st)[i+1]:=ab7 _ (i+1) f
 have t:(pendingOf st).toList=(pendingOf st).toList.take i++((pendingOf st)[i]::(pendingOf st)[i+1]::(pendingOf st).toList.drop (i+2)):=by
  conv=>lhs;rw[<-kP i (pendingOf st).toList]
  congr 1
  rw[tG (by rw[cO];lia),tG (by rw[cO];lia)]
  rfl
 generalize hx:(pendingOf st)[i]=x at*;generalize hy:(pendingOf st)[i+1]=y at*;obtain⟨g,k,P⟩:=x;obtain⟨sb,l,R⟩:=y;have m:=h.cov;unfold pl at m;refine aa λG0 e=>?_;rw[t,cD,dq,dq] at m;obtain⟨c,T,X⟩:=jQ.app.mp m;obtain⟨u,v,z,B,F,G,n⟩:=X;refine e ?_;dsimp only at u v z B F G n;subst u;subst B;have b:=n.le;have Y:=h.size;have Z:=h.le;refine Dy C h.ok h.failed M N v F (o183_ b Y Z) z G λa H b2 b3 b4 o b6=>?_
 have I:(pendingOf a).toList=(pendingOf st).toList.take i++((g,k+l,P)::(pendingOf st).toList.drop (i+2)):=by
  rw[b4,Array.toList_eraseIdxIfInBounds,Array.toList_setIfInBounds]
  conv=>lhs;rw[t]
  have d:((pendingOf st).toList.take i).length=i:=by rw[gO,cO];exact o184_ f
  rw[List.set_append_right _ _ (),List.eraseIdx_append_of_length_le (),d,ph,show i+1-i=1 by exact o185_]
  rfl
 refine q a #[#[λp hp=>h.ok.mem p ((Kf.mp H).mem_iff.mp hp),b2.trans h.ok.kind],b3,H.trans h.perm,?_,h.le] ?_ λj hj=>o j (.inr (o186_ b hj))
 .unfold pl
  rw[I,cD,dq];refine jQ.app.mpr #[g,jQ.congr (λj J L=>o j (.inl L)) T,rfl,?_,b6,?_]
  .show 1<=k+l;lia
  .show jQ O key (arrOf a) (g+(k+l)) _ lo
   rw[<-Nat.add_assoc];exact jQ.congr (λj J L=>o j (.inr J)) n
 .rw[<-cO,I,dh,dG,gO,mV,cO];exact o187_ f
def Kp(bN st:SortSt)(lo:Nat):Prop:=∀j,lo<=j->(arrOf st)[j]? =(arrOf bN)[j]?
def ME(C:gQ O key S k0 (model prog w) A E s){f:Array Keyed}{lo g:Nat}(h:SI O key S k0 f st lo)(d:Kp bN st lo):wpS (model prog w) A E s (J8 g) (λr a=>match r with| .done c=>c=(none,⟨⟩)/\SI O key S k0 f a lo/\Kp bN a lo| .yield c=>c=(none,⟨⟩)/\SI O key S k0 f a lo/\Kp bN a lo) st:=by
 unfold J8;refine Fk (ace ?_)
 by_cases i:(pendingOf st).size>1
 .rw[mo i]
  cases e:(pendingOf st)[(pendingOf st).size-2]? with
  |none=>exact FB #[rfl,h,d]
  |some x=>
   obtain⟨o,p,l⟩:=x;dsimp only
   by_cases b:l<=g
   .rw[mo b];exact FB #[rfl,h,d]
   .rw[tz b]
    refine Fk (FY C h () λa m _ n=>?_)
    exact FB #[rfl,m,λj k=>(n j k).trans (d j k)]
 .rw[tz i]
  exact FB #[rfl,h,d]
def PB{lo n:Nat}:pl (setPending st ((pendingOf st).push (lo,n,0)))=pl st++ [(lo,n)]:=by
 unfold pl;show((pendingOf st).push (lo,n,0)).toList.map _=_;rw[y6,cD];rfl
def Ia:pl (setPending st ((pendingOf st).modify i λx=>(x.1,x.2.1,a)))=pl st:=by
 unfold pl;show((pendingOf st).modify i λx=>(x.1,x.2.1,a)).toList.map _=_;apply y8;intro j;rw[dJ,dJ,fO,fO,Array.getElem?_modify]
 by_cases e:i=j
 .rw[mo e]
  cases(pendingOf st)[j]? <;>rfl
 .rw[tz e]
def SI.JS{a:Array Keyed}{lo n:Nat}(h:SI O key S k0 a st lo)(b:1<=n)(c:lo+n<=a.size)(d:jA O key (arrOf st) lo (lo+n)):SI O key S k0 a (setPending st ((pendingOf st).push (lo,n,0))) (lo+n):=by
 refine#[#[h.ok.mem,h.ok.kind],h.failed,h.perm,?_,c];rw[PB];exact jQ.app.mpr #[lo,h.cov,rfl,b,d,rfl]
theorem vw(C:gQ O key S k0 (model prog w) A E s){b:Array Keyed}{lo n:Nat}(h:SI O key S k0 b st lo)(k:1<=n)(l:lo+n<=b.size)(m:jA O key (arrOf st) lo (lo+n)):
  wpS (model prog w) A E s (mF b.size lo n) (λr a=>match r with| .done c=>False| .yield c=>c=(none,lo+n)/\SI O key S k0 b a (lo+n)) st:=by
 unfold mF;refine Fk (ace ?_);cases(pendingOf st).back? with
 |none=>exact Fk (acp (FB #[rfl,h.JS k l m]))
 |some e=>
  obtain⟨p,j,v⟩:=e;dsimp only;refine Fk (SZ (UF (I:=λ(x:Nat)(c:U1)(a:SortSt)=>c=(none,⟨⟩)/\SI O key S k0 b a lo/\Kp st a lo) (Q:=λc a=>c=(none,⟨⟩)/\SI O key S k0 b a lo/\Kp st a lo) (λx c a _ _ g=>?_) (λc a g=>g) #[rfl,h,λ_ _=>rfl]) ?_)
  .refine SZ (ME C g.2.1 g.2.2) λr y o=>?_
   cases r with
   |done d=>exact o
   |yield d=>exact o
  .rintro c a ⟨rfl,f,q⟩
   dsimp only;refine Fk (acp (Fk (acp (FB #[rfl,?_]))))
   have t:SI O key S k0 b (setPending a ((pendingOf a).modify ((pendingOf a).size-1) λx=>(x.1,x.2.1,power' b.size (2*p+j) (2*p+j+j+n) b.size))) lo:=
    #[#[f.ok.mem,f.ok.kind],f.failed,f.perm,by rw[Ia];exact f.cov,f.le]
   exact t.JS k l (yz (λi u z=>q i u) m)
def SI.stp{b:Array Keyed}{lo c:Nat}{a:SortSt}(h:SI O key S k0 b st lo)(t:gU st a lo c):SI O key S k0 b a lo:=
 #[h.ok.step t,t.failed.trans h.failed,t.perm.trans h.perm,by
  have:pl a=pl st:=by unfold pl;rw[t.pend]
  rw[this];exact jQ.congr (λi _ d=>t.out i (.inl d)) h.cov,h.le]
def _root_.o188_{a b c d:Nat}(e:¬(a>=b))(f:c=b):a+min (b-a) d<=c:=()
def _root_.o189_{a b c d:Nat}(e:a<=b-c)(f:a<d):a<=min (b-c) d:=()
def _root_.o190_{a b c d:Nat}(e:1<=a)(f:a<=b-c)(g:a<d):1<=min (b-c) d:=()
def _root_.o191_{a b c d:Nat}(e:¬(a>=b))(f:c=b):a+min (b-a) d<=b:=()
def _root_.o192_{a b c d:Nat}(e:¬(a>=b))(f:c<=b-a)(g:d=b):a+c<=b:=()
theorem I0(C:gQ O key S k0 (model prog w) A E s){a:Array Keyed}{lo:Nat}(h:SI O key S k0 a st lo):
  wpS (model prog w) A E s (De a.size lo) (λr g=>match r with| .done c=>c=(none,lo)/\a.size<=lo/\SI O key S k0 a g lo| .yield c=>∃n,1<=n/\c=(none,lo+n)/\SI O key S k0 a g (lo+n)) st:=by
 unfold De;have v:=h.size;have p:=h.le
 by_cases e:lo>=a.size
 .rw[mo e];exact FB #[rfl,e,h]
 .rw[tz e]
  refine Fk (wpS_countRun C h.ok () () λm x q i j l=>?_)
  dsimp only;have k:=h.stp q;have b:=k.size
  by_cases f:m<minRun' a.size a.size 0
  .rw[mo f]
   refine Fk (acF (abS #[rfl,?_]));refine Fk (wpS_binarySort C k.ok (o188_ e b) (o189_ j f) l λy t u=>?_)
   rw[tz ∅]
   refine SZ (vw C (k.stp t) (o190_ i j f) (o191_ e b) u) λr g o=>?_
   cases r with
   |done d=>exact o.elim
   |yield d=>exact#[_,o190_ i j f,o.1,o.2]
  .rw[tz f]
   refine SZ (vw C k i (o192_ e j b) l) λr g o=>?_
   cases r with
   |done d=>exact o.elim
   |yield d=>exact#[_,i,o.1,o.2]
def ite_le [Decidable c]:(if c then p-1 else p)<=p:=by split<;>lia
def _root_.o193_{a b c d:Nat}(e:a<=max 1 (b-c))(f:¬(a<=1))(g:d=a-1):d<=max 1 (b-(c+1)):=()
def IZ(C:gQ O key S k0 (model prog w) A E s)(h:SI O key S k0 a st a.size)(f:(pendingOf st).size<=max 1 (a.size-x)):
  wpS (model prog w) A E s IB (λr b=>match r with| .done c=>c=(none,⟨⟩)/\SI O key S k0 a b a.size/\(pendingOf b).size<=1| .yield c=>c=(none,⟨⟩)/\SI O key S k0 a b a.size/\(pendingOf b).size<=max 1 (a.size-(x+1))) st:=by
 unfold IB;refine Fk (ace ?_)
 by_cases d:(pendingOf st).size<=1
 .rw[mo d];exact FB #[rfl,h,d]
 .rw[tz d]
  refine Fk (FY C h (oX (Nat.succ_le_succ ite_le) ()) λb g e _=>?_)
  exact FB #[rfl,g,o193_ f d e]
def _root_.o194_{a b:Nat}(c:1<=a)(d:min (max 0 a) a<=b)(e:b<=a):b=a:=()
def _root_.o195_{a b:Nat}(c:1<=a)(d:b<=a):b<=max 1 (a-0):=()
def _root_.o196_{a d:Nat}{b c:Prop}(e:1<=a)(f:b/\c/\d<=max 1 (a-max 0 a)):d<=1:=()
theorem wpS_sortRuns(C:gQ O key S k0 (model prog w) A E s){Q:Unit->SortSt->Prop}(o:Ok S k0 st)(u:failedOf st=none)(v:pendingOf st= #[])(k:1<=(arrOf st).size)
  (q:∀a,(arrOf a).Perm (arrOf st)->failedOf a=none->jA O key (arrOf a) 0 (arrOf st).size->Q ⟨⟩ a):wpS (model prog w) A E s sortRuns' Q st:=by
 rw[yv];refine Fk (ace ?_);have y:SI O key S k0 (arrOf st) st 0:=#[o,u, .refl _,by unfold pl;rw[v];rfl,dA _]
 refine Fk (SZ (UF (I:=λ(x:Nat)(c:Option Unit×Nat)(a:SortSt)=>∃lo,c=(none,lo)/\min x (arrOf st).size<=lo/\SI O key S k0 (arrOf st) a lo) (Q:=λc a=>c=(none,(arrOf st).size)/\SI O key S k0 (arrOf st) a (arrOf st).size) (λx c a _ _ b=>?_) (λc a b=>?_) #[0,rfl,(),y]) ?_)
 .obtain⟨lo,rfl,t,f⟩:=b
  refine SZ (I0 C f) λr g o=>?_;cases r with
  |done d=>
   obtain⟨e,G,h⟩:=o
   have:=h.le
   have l:lo=(arrOf st).size:=()
   rw[l] at e h;exact#[e,h]
  |yield d=>
   obtain⟨n,H,e,h⟩:=o;exact#[lo+n,e,(),h]
 .obtain⟨lo,rfl,t,f⟩:=b
  have:=f.le
  have l:lo=(arrOf st).size:=o194_ k t this
  rw[l] at f ⊢;exact#[rfl,f]
 .rintro c a ⟨rfl,f⟩
  dsimp only
  have i:(pendingOf a).size<=(arrOf st).size:=by
   have:=f.cov.le
   unfold pl at this;rw[aI,cO] at this;lia
  refine Fk (SZ (UF (I:=λ(x:Nat)(c:U1)(a:SortSt)=>c=(none,⟨⟩)/\SI O key S k0 (arrOf st) a (arrOf st).size/\(pendingOf a).size<=max 1 ((arrOf st).size-x)) (Q:=λc a=>c=(none,⟨⟩)/\SI O key S k0 (arrOf st) a (arrOf st).size/\(pendingOf a).size<=1) (λx c a _ _ b=>?_) (λc a b=>?_) #[rfl,f,o195_ k i]) ?_)
  .refine SZ (IZ C b.2.1 b.2.2) λr g o=>?_
   cases r with
   |done d=>exact o
   |yield d=>exact o
  .exact#[b.1,b.2.1,by have:=b.2.2;exact o196_ k b]
  .rintro c g ⟨rfl,m,z⟩
   refine FB (q g m.perm m.failed ?_);have j:=m.cov;have p:(pl g).length<=1:=by unfold pl;rw[aI,cO];exact z
   match b9:pl g,p with
   | [],_=>rw[b9] at j;exact absurd j (by show ¬(0=(arrOf st).size);lia)
   | [e],_=>
    rw[b9] at j;obtain⟨J,L,B,F⟩:=j
    have:0+e.2=(arrOf st).size:=F
    rw[<-this];exact B
end
section
variable {O:KeyOrd} {key:Keyed->O.α} {S:Keyed->Prop} {k0:SortKind} {prog:Program} {w:World} {A:Around} {E:Value->Shared->Prop} {s:Shared}
def Keeps(s a:Shared):Prop:=∀b o,s.heap.get? b\o->a.heap.get? b\o
def uQ(a:List Value):(a.toArray.zip a.toArray).toList=a.map λv=>(v,v):=by
 rw[Array.toList_zip];show List.zip a a=_
 induction a with
 |nil=>rfl
 |cons v r b=>rw[List.zip_cons_cons,dq,b]
def Tq(h:jA O key a 0 a.size):a.toList.Pairwise (LE O key):=by
 rw[yW];intro i j c b d;rw[cO] at c b;exact fE h (dA _) (pb d) b (kB (dH _)) (kB (dH _))
def _root_.o197_{a b c d e:Nat}(f:2<=a)(g:a<=1000)(h:1000<b)(i:c=a)(j:d=a)(k:e=a):e<=b+1:=()
def n5(j:s.heap.get? a\(seqObj "list" c.toArray n))(z:2<=c.length)(B:c.length<=1000)(ne:∀b o,s.heap.get? b\o->b≠a->True)
  {s0:Shared} (k:∀b o,s0.heap.get? b\o->b≠a/\s.heap.get? b\o)
  (F:∀(E:Value->Shared->Prop)(f:Shared)(m:SortKind->Shared->Prop),Keeps s0 f->m k0 f->wpAny (model prog w) A (keyKind' c.toArray) m E f)
  (C:∀(E:Value->Shared->Prop)(f:Shared),Keeps s0 f->gQ O key S k0 (model prog w) A E f) (mem:∀v∈c,S (v,v))
  (h:∀out:Array Keyed,out.toList.Perm (c.map λv=>(v,v))->out.toList.Pairwise (LE O key)->P (.done (.ret .none)) {s with heap:=sortedHeap s.heap a c (out.map (·.2))}):
  wpAny (model prog w) A (Builtin.«list.sort» #[[.ref a],[]]) P E s:=by
 rw[list_sort_plain];have q:a<s.heap.objs.size:=Do j;have G:1000<sizeLine:=∅
 refine wpAny_bind (listItems_at j rfl ?_);refine wpAny_bind (adm j rfl ?_ (by rw[b7];lia) (dA _))
 obtain⟨l,r⟩:∃l,(s.heap.update a (Obj.mapSeq λ_=> #[])).get? a\(seqObj "list" #[] l):=#[_,get?_update_seq j (λ_=> #[])];refine wpAny_bind (ad0 r rfl ?_);refine wpAny_bind (ad5 ?_ (by show c.length<=_;lia))
 refine wpAny_bind (acD ?_ (dA _));refine KB ?_
 have t:(((s.heap.update a (Obj.mapSeq λ_=> #[])).push (seqObj "tuple" c.toArray 0)).push (seqObj "list" #[] 0)).get? a\(seqObj "list" #[] l):=by
  rw[acu _ _ _ (by rw[adu,ab9];exact bE (acv q)),acu _ _ _ (by rw[ab9];exact bE q)]
  exact r
 show wpAny (model prog w) A _ P E {s with heap:=((s.heap.update a (Obj.mapSeq λ_=> #[])).push (seqObj "tuple" c.toArray 0)).push (seqObj "list" #[] 0)}
 have u:Keeps s0 {s with heap:=((s.heap.update a (Obj.mapSeq λ_=> #[])).push (seqObj "tuple" c.toArray 0)).push (seqObj "list" #[] 0)}:=λb o e=>by
  obtain⟨H,I⟩:=k b o e;refine AC _ (AC _ ?_);rw[ab1 _ _ _ _ H];exact I
 dsimp only;have J:c.toArray.size=c.length:=by simp
 have x:¬c.toArray.size<2:=()
 rw[tz x,tz x];refine wpAny_bind (F _ _ _ u ?_);have d:(c.toArray.zip c.toArray).size=c.length:=by rw[<-cO,uQ,aI]
 refine wpAny_bind (wpAny_mono (wpS_sortRuns (C _ _ u) (st:=SortSt.mk' k0 (c.toArray.zip c.toArray) #[] 7 none)
   (Q:=λ_ g=>(arrOf g).Perm (c.toArray.zip c.toArray)/\failedOf g=none/\jA O key (arrOf g) 0 (c.toArray.zip c.toArray).size)
   #[λp i=>?_,rfl] rfl rfl (by show 1<=(c.toArray.zip c.toArray).size;lia) λg L M N=>#[L,M,N]) ?_ λ_ _ e=>e)
 .have y:p∈(c.toArray.zip c.toArray).toList:=i
  rw[uQ] at y;obtain⟨v,R,rfl⟩:=c7.mp y;exact mem v R
 rintro⟨⟨⟩,g⟩ f ⟨rfl,i,T,X⟩;dsimp only;have Y:(arrOf g).size=c.length:=by rw[i.size_eq,d]
 refine wpAny_bind (ad0 t rfl ?_);refine wpAny_bind (adm t rfl ?_ (dA _) (by rw[Array.size_map];exact o197_ z B G J d Y))
 rw[T];simp only[ads,eV,PP];refine ir (h (arrOf g) ?_ ?_)
 .rw[<-uQ];exact Kf.mp i
 .refine Tq ?_
  rw[i.size_eq];exact X
def FG(j:s.heap.IsList l a.toArray)(k:2<=a.length)(n:a.length<=1000)
  (p:∀(E:Value->Shared->Prop)(c:Shared)(g:SortKind->Shared->Prop),Keeps s c->g k0 c->wpAny (model prog w) A.in1.in1 (keyKind' a.toArray) g E c)
  (C:∀(E:Value->Shared->Prop)(c:Shared),Keeps s c->gQ O key S k0 (model prog w) A.in1.in1 E c) (mem:∀v∈a,S (v,v))
  (h:∀out:Array Keyed,out.toList.Perm (a.map λv=>(v,v))->out.toList.Pairwise (LE O key)->Q (.ref (s.heap.objs.size+1)) {s with heap:=sortedAll s.heap a (out.map (·.2))}):
  wpAny (model prog w) A (call (.builtin "sorted") [.ref l]) Q E s:=by
 have u:1000<sizeLine:=∅
 refine ach kind_sorted aed aee (aef _) ?_;unfold Builtin.«sorted»;refine wpAny_bind (m:=checkCount "sorted" 1 1 _) (ir ?_);refine wpAny_bind (aeg j ?_ ())
 refine wpAny_bind (acD ?_ (by show a.length<=_;lia))
 have d:((s.heap.push (seqObj "list" #[] 0)).update s.heap.objs.size (Obj.mapSeq (·++a.toArray))).objs.size=s.heap.objs.size+1:=by
  rw[ab9,adu]
 have i:(((s.heap.push (seqObj "list" #[] 0)).update s.heap.objs.size (Obj.mapSeq (·++a.toArray))).push (seqObj "list" a.toArray 0)).get? (s.heap.objs.size+1)\(seqObj "list" a.toArray 0):=by
  rw[<-d];exact GE _ rfl
 have keep:∀b o,s.heap.get? b\o->(((s.heap.push (seqObj "list" #[] 0)).update s.heap.objs.size (Obj.mapSeq (·++a.toArray))).push (seqObj "list" a.toArray 0)).get? b\o:=λb o q=>by
  have f:b<s.heap.objs.size:=Do q;rw[acu _ _ _ (by rw[d];exact bE (acv f)),ab1 _ _ _ _ (bE f),acu _ _ _ (bE f)]
  exact q
 show wpAny _ _ _ _ _ {s with heap:=((s.heap.push (seqObj "list" #[] 0)).update s.heap.objs.size (Obj.mapSeq (·++a.toArray))).push (seqObj "list" a.toArray 0)}
 rw[d];refine wpAny_bind (KB (abD slot_list_sort #[_,i,rfl] entry_list_sort (n5 (s0:=s) i k n (λ_ _ _ _=>trivial) (λb o e=>#[bE (acv (Do e)),keep b o e]) p C mem λout r t=>#[_,rfl,?_]) (ac7 _)));exact ir #[_,rfl,h out r t]
end
end TS
namespace L2
open PySem PySem.Spec PyProof.Rows
noncomputable def lexOrd:KeyOrd where
 α:=Nat×Nat
 blt:=j0
 irrefl:=λa=>by unfold j0;rw[mo rfl];simp
 trans:=λa b c d e=>OT _ _ _ d e
 negTrans:=λa b c h=>LF _ _ _ h
 total:=λa b d e=>Wb.jL (xJ e) (xJ d)
noncomputable def keyOf(L:List (Addr×(Nat×Nat)))(v:Keyed):Nat×Nat:=match v.1 with
 | .ref a=>((L.find? λe=>e.1==a).map (·.2)).getD (0,0)
 |_=>(0,0)
def HZ(h:hV k=hV b):k=b:=by
 unfold hV at h
 injection h with c a
 injection a with a _
 injection c with c
 injection a with a
 exact abJ () ()
def l9(c:p5 H L)(d:e∈L)(v:Value):keyOf L (.ref e.1,v)=e.2:=by
 unfold keyOf;dsimp only;cases b:L.find? λx=>x.1==e.1 with
 |none=>exact absurd (adh.mp b e d) (by simp)
 |some x=>
  have f:=adv b;have g:=List.find?_some b;have h:x.1=e.1:=by simpa using g
  have a:=c x f;have i:=c e d;rw[h,i] at a
  injection a with a
  injection a with a
  exact(HZ a).symm
theorem jG [DecidableEq a] (f:a->b):∀(l:List b)(L:List a),l.Perm (L.map f)->∃M:List a,M.Perm L/\l=M.map f
 | [],L,h=>by
  have:=h.length_eq
  rw[aI] at this
  have:L= []:=List.length_eq_zero_iff.mp this.symm
  subst this;exact#[[], .refl _,rfl]
 |x::r,L,h=>by
  obtain⟨e,d,rfl⟩:=c7.mp (h.mem_iff.mp dB);have c:=List.perm_cons_erase d;have g:(f e::r).Perm (f e::(L.erase e).map f):=h.trans (c.map f);obtain⟨M,i,rfl⟩:=jG f r (L.erase e) ((List.perm_cons _).mp g);exact#[e::M,(i.cons e).trans c.symm,rfl]
section
variable {X:Cx}
theorem FH(I:Inv X d Z H s)(E:p5 H L)(hz:L.length<=1000)
  (col:∀(P:List Value->Shared->Prop),(∀h' tk,s.heap.objs.size<=h'.objs.size->(∀b o,s.heap.get? b\o->h'.get? b\o)->P (L.map λe=>Value.ref e.1) {s with heap:=h',toks:=tk})->wpAny (model X.prog X.w) X.A.in1 (collect v) P X.xe s)
  (q:∀(q:Addr)(M:List (Addr×(Nat×Nat))),H q=none->M.Perm L->(M.map (·.2)).Pairwise Wb.lexLe->Q (.ref q) (upd H q (.lst (M.map λe=>V.ref e.1)))):
  wpAny (model X.prog X.w) X.A (call (.builtin "sorted") [v]) (EP X d Z Q) X.xe s:=by
 have cT:1000<sizeLine:=∅
 refine ach kind_sorted aed aee (aef _) ?_;unfold Builtin.«sorted»;refine wpAny_bind (m:=checkCount "sorted" 1 1 _) (ir (wpAny_bind (col _ λk Mw F Pj=>wpAny_bind (acD ?_ (by rw[aI];lia)))))
 have G:(k.push (seqObj "list" (L.map λe=>Value.ref e.1).toArray 0)).get? k.objs.size\(seqObj "list" (L.map λe=>Value.ref e.1).toArray 0):=GE _ rfl;have xQ:∀b o,s.heap.get? b\o->b<k.objs.size:=λb o e=>Do (Pj b o e)
 have fin:∀(M:List (Addr×(Nat×Nat)))(out:Array Value),M.Perm L->(M.map (·.2)).Pairwise Wb.lexLe->out.toList=M.map (λe=>Value.ref e.1)->EP X d Z Q (.ref k.objs.size) {s with heap:=sortedHeap (k.push (seqObj "list" (L.map λe=>Value.ref e.1).toArray 0)) k.objs.size (L.map λe=>Value.ref e.1) out,toks:=Mw}:=λM out B ms J=>by
  obtain⟨c,N⟩:=sortedHeap_at (out:=out) G;refine#[.ref k.objs.size,_,I.laid (t':=Mw) (λb o e=>?_) F (o:= .lst (M.map λe=>V.ref e.1)) #[by rw[aI,B.length_eq];lia,out.toList,c,?_,by rw[Array.toArray_toList];exact N],rfl,q _ M (I.hok.fresh F) B ms]
  .rw[sortedHeap_old (bE (xQ b o e)) (by rw[adu];exact acv (xQ b o e))]
   exact AC _ (Pj b o e)
  .rw[J,show(λe:Addr×(Nat×Nat)=>V.ref e.1)=V.ref∘(·.1) from rfl,show(λe:Addr×(Nat×Nat)=>Value.ref e.1)=Value.ref∘(·.1) from rfl,<-dX,<-dX]
   exact rg _
 by_cases h2:L.length<2
 .refine wpAny_bind (KB (abD slot_list_sort #[_,G,rfl] entry_list_sort (KS.vq G (by rw[aI];exact h2) #[_,rfl,ir #[_,rfl,fin L _ (.refl _) ?_ rfl]]) (ac7 _)))
  match L,h2 with
  | [],_=>exact .nil
  | [_],_=>exact DM _ _
 .have l:∀e∈L,∀j:Shared,TS.Keeps s j->∃t u,IsTup j.heap e.1 [.int (e.2.1:Nat) t, .int (e.2.2:Nat) u].toArray:=λe he j C=>by
   refine aa λG0 k0=>?_;obtain⟨t,u,o,J,N,n,hd⟩:=LV I (E e he);refine k0 ?_;exact#[t,u,o,C _ _ J,N,n,hd]
  refine wpAny_bind (KB (abD slot_list_sort #[_,G,rfl] entry_list_sort (TS.n5 (s0:=s) (O:=lexOrd) (key:=keyOf L) (S:=λp=>∃e∈L,p=(Value.ref e.1,Value.ref e.1)) (k0:=tuples' true) G (by rw[aI];lia) (by rw[aI];lia) (λ_ _ _ _=>trivial) (λb o e=>#[bE (xQ b o e),AC _ (Pj b o e)]) (λE' j P C hq=>?_) (λE' j C x y st P sx sy hk hq=>?_) (λv r=>?_) λout nX Hm=>#[_,rfl,ir #[_,rfl,?_]]) (ac7 _)))
  .have go:∀(M:List (Addr×(Nat×Nat))),(∀e∈M,e∈L)->∃fs:List Value,PySem.W.KatTups j.heap (M.map λe=>Value.ref e.1) fs/\fs.length=M.length/\∀v∈fs,∃i t,v= .int i t:=by
    intro M
    induction M with
    |nil=>exact λ_=>#[[],PySem.W.KatTups.nil,rfl,λv r=>by cases r]
    |cons e M ih=>
     intro hM;refine aa λG0 k0=>?_;obtain⟨fs,a,b,c⟩:=ih λx hx=>hM x (eW _ hx);obtain⟨t,u,o,J,N,n,hd⟩:=l e (hM e dB) j C;refine k0 ?_;refine#[.int (e.2.1:Nat) t::fs,PySem.W.KatTups.cons J N hd rfl a,by simp[b],λv r=>?_]
     rcases eL.mp r with z|z
     .exact#[_,_,z]
     .exact c v z
   obtain⟨fs,kt,kl,ki⟩:=go L λ_ h=>h;refine PySem.W.kat_kind (T:= .type "int") kt () (λv r=>by obtain⟨i,t,rfl⟩:=ki v r;exact .now) ∅ ?_
   have hb:(Value.type "int" !=Value.type "tuple")=true:=∅
   rw[hb];exact hq
  .obtain⟨f,R,rfl⟩:=sx
   obtain⟨g,Y,rfl⟩:=sy;rw[lt'_eq];refine Fk (ace ?_);rw[hk];refine aa λG0 k0=>?_;obtain⟨t1,t2,k1⟩:=l f R j C;obtain⟨u1,u2,k2⟩:=l g Y j C;refine k0 ?_;refine Fk (acF (acb (RQ k1 k2 #[rfl,?_])))
   have eb:(if ((f.2.1:Nat):Int)=((g.2.1:Nat):Int) then decide (((f.2.2:Nat):Int)<((g.2.2:Nat):Int)) else decide (((f.2.1:Nat):Int)<((g.2.1:Nat):Int)))=lexOrd.blt (keyOf L (.ref f.1, .ref f.1)) (keyOf L (.ref g.1, .ref g.1)):=by
    rw[l9 E R,l9 E Y];show _=j0 f.2 g.2;unfold j0;simp only[Int.ofNat_inj,Int.ofNat_lt]
   rw[eb];exact FB hq
  .obtain⟨e,he,rfl⟩:=c7.mp r
   exact#[e,he,rfl]
  .rw[dX] at nX
   obtain⟨M,B,em⟩:=jG (λe:Addr×(Nat×Nat)=>((Value.ref e.1,Value.ref e.1):Keyed)) out.toList L nX;refine fin M _ B ?_ (by rw[Array.toList_map,em,dX];rfl)
   rw[em,jc] at Hm;rw[jc];refine abW ?_ Hm;intro f g R Y hle;have EN:j0 (keyOf L (.ref g.1, .ref g.1)) (keyOf L (.ref f.1, .ref f.1))=false:=hle;rw[l9 E (B.mem_iff.mp R),l9 E (B.mem_iff.mp Y)] at EN;exact xJ EN
def zq:CallR X (.builtin "sorted") (λc H Q=>∃(p:Addr)(L:List (Addr×(Nat×Nat))),c= [.ref p]/\aG X.K H p (L.map λe=>V.ref e.1)/\p5 H L/\L.length<=1000/\
  ∀(q:Addr)(M:List (Addr×(Nat×Nat))),H q=none->M.Perm L->(M.map (·.2)).Pairwise Wb.lexLe->Q (.ref q) (upd H q (.lst (M.map λe=>V.ref e.1)))):=by
 intro d s n H c us Q I f h;rfl';obtain⟨p,L,rfl,i,j,k,q⟩:=h;obtain⟨u,rfl,l⟩:=f.one;subst l;obtain⟨a,r,pl,_⟩:=I.list i
 have m:a=L.map λe=>Value.ref e.1:=by
  have:=rp (as:=L.map (·.1)) (us:=a) (by rw[dX];exact r)
  rw[this,dX];rfl
 have v:1000<sizeLine:=∅
 ac_rfl;subst m;refine FH I j k (λw h=>aeg pl.isList (h _ _ ?_ λb o e=>?_) (by rw[aI];lia)) q
 .rw[ab9,adu];exact mX _
 .rw[ab1 _ _ _ _ (bE (Do e))];exact AC _ e
end
section
open PySem.SeqAt
open PySem.AutoSeq1 (wpAny_loadPart')
open PySem.MeetsSeq PySem.MeetsSeq2 PySem.MeetsSeq3
def EV{c:List Value}{d:List Int}(h:IntsAre c d){i:Nat}{a:Int}(e:d[i]?\a):∃t,c[i]?\(.int a t):=by
 induction h generalizing i with
 |nil=>simp at e
 |cons b t _ f=>
  cases i with
  |zero=>simp at e;subst e;exact#[t,rfl]
  |succ i=>simp at e;obtain⟨u,g⟩:=f e;exact#[u,by simpa using g]
theorem O1(l b:Addr)(a j:Array Value)(n G:Nat)(H I:Option Addr)(J L:Array (Option Value))(m f:List Int)(C:IntsAre a.toList m)(E:IntsAre j.toList f)(k:Nat):
  ∀i:Nat,a.size-i=k->i<=a.size->i<=j.size->Meets (Builtin.«list.__eq__.loop» #[[.ref l, .ref b,rawInt i,rawInt 0],[]])
   (λA R s=>s.heap.get? l\{cls:= .type "list",dict:=H,data:= .seq a n,slots:=J}/\s.heap.get? b\{cls:= .type "list",dict:=I,data:= .seq j G,slots:=L}/\
    R (.ok (.ret (.bool (HT.lexLt (m.drop i) (f.drop i))))) s):=by
 have z1:a.size=m.length:=by rw[<-C.length];simp
 have z2:j.size=f.length:=by rw[<-E.length];simp
 induction k with
 |zero=>
  intro i M N O prog w A R s h;obtain⟨x,g,d,y,os⟩:=s;obtain⟨o,p,h⟩:=h
  wp_walk using wpAny_loadPart' o,wpAny_loadPart' p
  have r:a[((i:Nat):Int).toNat]? =none:=by simp;lia
  rw[r];have P:m.drop i= []:=yZ ()
  rw[P] at h
  have Q:HT.lexLt [] (f.drop i)=decide (a.size<j.size):=by
   by_cases c:i<f.length
   .rw[tG c,HT.vQ]
    exact(IR ()).symm
   .rw[yZ (),HT.xK]
    exact(GT ()).symm
  rw[Q] at h
  wp_walk using wpAny_loadPart' o,wpAny_loadPart' p
  exact h
 |succ k S=>
  intro i M N O prog w A R s h;obtain⟨x,g,d,y,os⟩:=s;obtain⟨o,p,h⟩:=h
  wp_walk using wpAny_loadPart' o,wpAny_loadPart' p
  have z:i<m.length:=()
  obtain⟨t,T⟩:=EV C (dH z);have r:a[((i:Nat):Int).toNat]?\(.int m[i] t):=by rw[lS,<-fO];exact T
  have X:((i:Int)+1)=((i+1:Nat):Int):=by push_cast;rfl
  rw[r]
  by_cases c:i<f.length
  .obtain⟨u,Y⟩:=EV E (dH c)
   have v:j[((i:Nat):Int).toNat]?\(.int f[i] u):=by rw[lS,<-fO];exact Y
   rw[v];rw[tG z,tG c,HT.gJ] at h;obtain⟨e,Z,F⟩:=HT.KR A.in1 #[x,g,d,y,os] m[i] t f[i] u;refine wpAny_bind (Z prog w _ _ ?_);cases e with
   |true=>
    rw[mo (F.mp rfl)] at h
    wp_walk
    rw[X]
    exact#[acd ado _,ab5 entry_eq_loop (by
     rw[abU ado _];exact S (i+1) () () () prog w A R _ #[o,p,h])]
   |false=>
    rw[tz (λq=>absurd (F.mpr q) dj)] at h
    wp_walk using wpAny_loadPart' o,wpAny_loadPart' p
    rw[r,v];have B:=HT.Mg A.in1 #[x,g,d,y,os] m[i] t f[i] u prog w
    wp_walk using B
    exact h
  .have v:j[((i:Nat):Int).toNat]? =none:=by simp;lia
   rw[v];rw[tG z,yZ (show f.length<=i by lia),HT.vP] at h
   wp_walk using wpAny_loadPart' o,wpAny_loadPart' p
   show R (.ok (.ret (.bool (decide (a.size<j.size))))) _;rw[GT ()]
   exact h
end
section
open PySem.SeqAt
open PySem.AutoSeq1 (wpAny_loadPart')
open PySem.MeetsSeq PySem.MeetsSeq2 PySem.MeetsSeq3
def zK(l b:Addr)(a c:Array Value)(n i:Nat)(j k:Option Addr)(m o:Array (Option Value))(e f:List Int)(r:IntsAre a.toList e)(t:IntsAre c.toList f):
  Meets (Builtin.«list.__lt__» #[[.ref l, .ref b],[]])
   (λ_ R s=>s.heap.get? l\{cls:= .type "list",dict:=j,data:= .seq a n,slots:=m}/\s.heap.get? b\{cls:= .type "list",dict:=k,data:= .seq c i,slots:=o}/\
    R (.ok (.ret (.bool (HT.lexLt e f)))) s):=by
 intro prog w A R s h;obtain⟨u,g,d,v,os⟩:=s;obtain⟨p,q,h⟩:=h;have x:=AutoSeq1.sub_list_list
 wp_walk using wpAny_loadPart' p,wpAny_loadPart' q
 exact#[acd ado _,ab5 entry_eq_loop (by
  rw[abU ado _];exact O1 l b a c n i j k m o e f r t _ 0 rfl (dA _) (dA _) prog w A R _ #[p,q,h])]
end
section
variable {prog:Program} {w:World} {A:Around} {E:Value->Shared->Prop} {s:Shared}
def Fe(o:s.heap.IsList l a)(p:s.heap.IsList b d)(q:IntsAre a.toList e)(r:IntsAre d.toList f)(t:A.units<cLine)
  (h:Q (HT.lexLt e f) s):wpAny (model prog w) A (oneLt' true (.ref l) (.ref b)) Q E s:=by
 rfl';obtain⟨⟨cls,v,i,x⟩,g,j,n,k⟩:=id o;obtain⟨⟨H,y,data2,z⟩,B,m,C,c⟩:=id p;ac_rfl;simp only at j k m c;subst j k m c;rw[oneLt'_eq];simp only[abN];refine wpAny_bind (wpAny_cRoomFor t ?_);refine wpAny_bind (wpAny_callSpecialIfBound?_slot #[_,g,rfl] PySem.F.slot_list_lt (ab8 PySem.F.slot_list_lt #[_,g,rfl] PySem.F.entry_list_lt (PySem.F.args_list_lt_2 _ _) (zK l b a d n C v y x z e f q r) #[g,B,?_]));exact SB h
end
theorem xM:∀a:List Int,HT.lexLt a a=false
 | []=>rfl
 |x::b=>by rw[HT.gJ,mo rfl];exact xM b
theorem Ct:∀a b c:List Int,HT.lexLt a b=true->HT.lexLt b c=true->HT.lexLt a c=true
 | [],[],_,h,_=>by cases h
 | [],_::_,[],_,h=>by cases h
 | [],_::_,_::_,_,_=>rfl
 |_::_,[],_,h,_=>by cases h
 |_::_,_::_,[],_,h=>by cases h
 |x::i,y::j,z::k,g,e=>by
  rw[HT.gJ] at*
  by_cases f:x=y
  .rw[mo f] at g
   by_cases d:y=z
   .rw[mo d] at e
    rw[mo (f.trans d)];exact Ct i j k g e
   .rw[tz d] at e
    rw[tz (by rw[f];exact d),f];exact e
  .rw[tz f] at g
   have l:=M2 g
   by_cases d:y=z
   .rw[tz (by rw[<-d];exact f),<-d];exact g
   .rw[tz d] at e
    have m:=M2 e;rw[tz ()]
    exact IR ()
theorem si:∀a b:List Int,HT.lexLt a b=false->HT.lexLt b a=false->a=b
 | [],[],_,_=>rfl
 | [],_::_,h,_=>by cases h
 |_::_,[],_,h=>by cases h
 |x::f,y::g,c,d=>by
  rw[HT.gJ] at*
  by_cases e:x=y
  .rw[mo e] at c
   rw[mo e.symm] at d;rw[e,si f g c d]
  .rw[tz e] at c
   rw[tz (λz=>e z.symm)] at d
   have:=SC c
   have:=SC d
   lia
def OU(a b c:List Int)(h:HT.lexLt a c=true):HT.lexLt a b=true\/HT.lexLt b c=true:=by
 cases e:HT.lexLt a b with
 |true=>exact .inl rfl
 |false=>
  right
  cases d:HT.lexLt b a with
  |true=>exact Ct _ _ _ d h
  |false=>rw[<-si a b e d];exact h
noncomputable def OY:KeyOrd where
 α:=List Int
 blt:=HT.lexLt
 irrefl:=xM
 trans:=Ct
 negTrans:=OU
 total:=si
noncomputable def jn(r:List Nat):List Int:=r.map λ(n:Nat)=>(n:Int)
def n6(a b:List Nat):Prop:=HT.lexLt (jn b) (jn a)=false
def Gd(H:Hp)(L:List (Addr×List Nat)):Prop:=∀p∈L,H p.1\(.lst ((jn p.2).map V.int))
def FQ(h:(jn a).map V.int=(jn b).map V.int):a=b:=by
 unfold jn at h;rw[dX,dX] at h
 induction a generalizing b with
 |nil=>cases b with
  |nil=>rfl
  |cons y b=>simp at h
 |cons x a d=>
  cases b with
  |nil=>simp at h
  |cons y b=>
   rw[dq,dq] at h
   injection h with e f
   have c:V.int (x:Int)=V.int (y:Int):=e
   injection c with c
   rw[d f,show x=y by lia]
noncomputable def qP(L:List (Addr×List Nat))(v:Keyed):List Int:=match v.1 with
 | .ref a=>((L.find? λe=>e.1==a).map λe=>jn e.2).getD []
 |_=> []
def l8(c:Gd H L)(d:e∈L)(v:Value):qP L (.ref e.1,v)=jn e.2:=by
 unfold qP;dsimp only;cases b:L.find? λx=>x.1==e.1 with
 |none=>exact absurd (adh.mp b e d) (by simp)
 |some x=>
  have f:=adv b;have g:=List.find?_some b;have h:x.1=e.1:=by simpa using g
  have a:=c x f;have i:=c e d;rw[h,i] at a
  injection a with a
  injection a with a
  show jn x.2=jn e.2;rw[FQ a]
section
variable {X:Cx}
theorem wL(hu:X.A.units+64<cLine):CallR X (.builtin "sorted") (λR H Q=>∃(p:Addr)(L:List (Addr×List Nat)),R= [.ref p]/\aG X.K H p (L.map λe=>V.ref e.1)/\Gd H L/\L.length<=1000/\
  ∀(q:Addr)(M:List (Addr×List Nat)),H q=none->M.Perm L->(M.map (·.2)).Pairwise n6->Q (.ref q) (upd H q (.lst (M.map λe=>V.ref e.1)))):=by
 intro Y s σ H R us Q I rv h;refine aa λZ k0=>?_;obtain⟨p,L,rfl,hp,l,hz,q⟩:=h;obtain⟨u,rfl,ru⟩:=rv.one;subst ru;obtain⟨d,r,pl,_⟩:=I.list hp;have hl:=r.length;rw[aI] at hl;have cT:1000<sizeLine:=∅
 refine k0 ?_
 have C:d=L.map λe=>Value.ref e.1:=by
  have:=rp (as:=L.map (·.1)) (us:=d) (by rw[dX];exact r)
  rw[this,dX];rfl
 by_cases h2:L.length<2
 .refine KS.zU pl.isList () ?_
  obtain⟨e,g⟩:=aec s.heap d d.toArray;have E:H (s.heap.objs.size+1)=none:=I.hok.fresh (mX _);refine#[.ref (s.heap.objs.size+1),_,I.laid (t':=s.toks) (λb o F=>ad7 F) (mX _) (o:= .lst (L.map λe=>V.ref e.1)) #[by rw[aI];lia,d,e,r,g],rfl,q _ L E (.refl _) ?_]
  match L,h2 with
  | [],_=>exact .nil
  | [_],_=>exact DM _ _
 .have lst:∀e∈L,∀f:Shared,TS.Keeps s f->∃a:Array Value,f.heap.IsList e.1 a/\IntsAre a.toList (jn e.2):=λe g f k=>by
   refine aa λZ k0=>?_;obtain⟨G,r2,p2,_⟩:=I.list (aG.of (l e g));obtain⟨o,J,m,n,hd⟩:=p2.isList;refine k0 ?_;exact#[G.toArray,#[o,k _ _ J,m,n,hd],by simpa using intsAre_of r2]
  refine TS.FG (O:=OY) (key:=qP L) (S:=λp=>∃e∈L,p=(Value.ref e.1,Value.ref e.1)) (k0:=oneType') pl.isList () () (λE' f Q' k N=>?_) (λE' f k x y st Q' sx sy hk N=>?_) (λv t=>?_) λout nX Hm=>?_
  .refine PySem.W.kas_kind (T:= .type "list") () (λv t=>?_) ∅ ∅ N
   rw[C] at t;obtain⟨e,g,rfl⟩:=c7.mp t;obtain⟨a,⟨o,J,m,_⟩,_⟩:=lst e g f k;rw[<-m];exact(PySem.W.Looks.ld J).andThen .now
  .obtain⟨i,w,rfl⟩:=sx
   obtain⟨j,z,rfl⟩:=sy;rw[lt'_eq];refine Fk (ace ?_);rw[hk,keyLt'_oneType];refine aa λZ k0=>?_;obtain⟨i1,l1,n1⟩:=lst i w f k;obtain⟨i2,l2,n2⟩:=lst j z f k;refine k0 ?_;refine Fk (acF (acb (Fe l1 l2 n1 n2 ?_ #[rfl,?_])))
   .rw[Around.in1_units,Around.in1_units];lia
   .have eb:HT.lexLt (jn i.2) (jn j.2)=OY.blt (qP L (.ref i.1, .ref i.1)) (qP L (.ref j.1, .ref j.1)):=by
     rw[l8 l w,l8 l z];rfl
    rw[eb];exact FB N
  .rw[C] at t
   obtain⟨e,g,rfl⟩:=c7.mp t;exact#[e,g,rfl]
  .rw[C,dX] at nX
   obtain⟨M,B,em⟩:=jG (λe:Addr×List Nat=>((Value.ref e.1,Value.ref e.1):Keyed)) out.toList L nX
   have Z4:(out.map (·.2)).toList=M.map λe=>Value.ref e.1:=by
    rw[Array.toList_map,em,dX];rfl
   obtain⟨c,m⟩:=aec s.heap d (out.map (·.2));have E:H (s.heap.objs.size+1)=none:=I.hok.fresh (mX _);have Hi:=B.length_eq;refine#[.ref (s.heap.objs.size+1),_,I.laid (t':=s.toks) (λb o F=>ad7 F) (mX _) (o:= .lst (M.map λe=>V.ref e.1)) #[by rw[aI];lia,(out.map (·.2)).toList,c,?_,by rw[Array.toArray_toList];exact m],rfl,q _ M E B ?_]
   .rw[Z4,show(λe:Addr×List Nat=>V.ref e.1)=V.ref∘(·.1) from rfl,show(λe:Addr×List Nat=>Value.ref e.1)=Value.ref∘(·.1) from rfl,<-dX,<-dX]
    exact rg _
   .rw[em,jc] at Hm
    rw[jc];refine abW ?_ Hm;intro i j w z P;have EN:HT.lexLt (qP L (.ref j.1, .ref j.1)) (qP L (.ref i.1, .ref i.1))=false:=P;rw[l8 l (B.mem_iff.mp w),l8 l (B.mem_iff.mp z)] at EN;exact EN
end
end L2
namespace PySem.SetTable
def nv(xs:Array Nat):Prop:=∀i j (a:j<xs.size),i<j->xs[i]! <xs[j]!
def NX{a:Array Nat}{i d:Nat}(h:i<a.size):a.getD i d=a[i]! :=by
 simp[Array.getD,h]
theorem xf(R:nv h)(j:Nat):∀(f lo g:Nat),g-lo<=f->lo<=g->g<=h.size->(∀i,i<lo->h[i]! <j)->(∀i,g<=i->i<h.size->j<=h[i]!)->
  lo<=below.go h j f lo g/\below.go h j f lo g<=g/\(∀i,i<below.go h j f lo g->h[i]! <j)/\∀i,below.go h j f lo g<=i->i<h.size->j<=h[i]!
 |0,lo,g,m,n,k,a,b=>by
  have:lo=g:=()
  subst this;rw[below.go];exact#[bq _,bq _,a,b]
 |f+1,lo,g,m,n,k,a,b=>by
  rw[below.go]
  by_cases c:lo<g
  .rw[mo c]
   have l:(lo+g) / 2<h.size:=()
   dsimp only;rw[NX l]
   by_cases d:h[(lo+g) / 2]! <j
   .rw[mo d]
    have:=xf R j f ((lo+g) / 2+1) g () () k (λi p=>by
     by_cases e:i=(lo+g) / 2
     .rw[e];exact d
     .have:=R i ((lo+g) / 2) l ();lia) b
    exact#[(),this.2.1,this.2.2]
   .rw[tz d]
    have:=xf R j f lo ((lo+g) / 2) () () () a (λi q o=>by
     by_cases e:i=(lo+g) / 2
     .rw[e];lia
     .have:=R ((lo+g) / 2) i o ();lia)
    exact#[this.1,(),this.2.2]
  .rw[tz c]
   have:lo=g:=()
   subst this;exact#[bq _,bq _,a,b]
def kE{xs:Array Nat}(R:nv xs)(j:Nat):below xs j<=xs.size/\(∀i,i<below xs j->xs[i]! <j)/\∀i,below xs j<=i->i<xs.size->j<=xs[i]! :=by
 have:=xf R j xs.size 0 xs.size () (dA _) (bq _) (λi h=>by lia) (λi a b=>by lia)
 exact#[this.2.1,this.2.2]
def below_at(R:nv a)(h:a[i]?\j):below a j=i:=by
 obtain⟨b,e⟩:=yV.mp h;have g:a[i]! =j:=by simp[b,e]
 obtain⟨k,d,f⟩:=kE R j;apply Nat.le_antisymm
 .apply FS
  intro c
  have:=d i ()
  lia
 .apply FS
  intro c;have l:=f (below a j) (bq _) ()
  have m:=R (below a j) i b ()
  lia
def rh{t:SetTable}(R:nv t.place)(h:t.place[i]?\j):t.slot j= .live i:=by
 unfold slot;rw[below_at R h];simp[h]
def FF{t:SetTable}(R:nv t.place)(a:t.dummies= #[])(h:∀i:Nat,t.place[i]? ≠some j):t.slot j= .empty:=by
 unfold slot
 have b:(t.place[below t.place j]? ==some j)=false:=by
  rw[abA];exact h _
 dsimp only;rw[tz (by rw[b];exact dj)]
 unfold has;rw[a];rfl
noncomputable def mY(mask:Nat)(p:Probe):Probe:=
 if p.more>0 then {p with j:=p.j+1,more:=p.more-1} else
 let (i,perturb):=leap mask p.i p.perturb
 {p with j:=i,more:=runEnd mask i-i,i,perturb}
noncomputable def bN(mask:Nat)(h:Int):Probe:={j:=bits h%(mask+1),more:=runEnd mask (bits h%(mask+1))-bits h%(mask+1),i:=bits h%(mask+1),perturb:=bits h,dummy:=none}
noncomputable def rj(mask:Nat)(h:Int):Nat->Probe
 |0=>bN mask h
 |k+1=>mY mask (rj mask h k)
noncomputable def bX(mask:Nat)(h:Int)(k:Nat):Nat:=(rj mask h k).j
def M0(h:Int):bits h<2^64:=by
 unfold bits;have a:0<=h%(2^64:Int):=adT _ ∅
 have b:h%(2^64:Int)<2^64:=adi _ ∅
 lia
noncomputable def eH(mask:Nat)(i p:Nat):Nat->Nat×Nat
 |0=>(i,p)
 |r+1=>leap mask (eH mask i p r).1 (eH mask i p r).2
theorem kW(mask i p:Nat):∀r,(eH mask i p r).2=p / 32^r
 |0=>by simp[eH]
 |r+1=>by
  show(eH mask i p r).2 / 32=_;rw[kW mask i p r,Nat.div_div_eq_div_mul,Nat.pow_succ]
noncomputable def RY(mask:Nat)(i:Nat):Nat:=(i*5+1)%(mask+1)
noncomputable def kK(mask:Nat)(i:Nat):Nat->Nat
 |0=>i
 |r+1=>RY mask (kK mask i r)
theorem lD(mask i:Nat)(a:Nat):∀b,kK mask i (a+b)=kK mask (kK mask i a) b
 |0=>rfl
 |b+1=>by
  show RY mask (kK mask i (a+b))=_;rw[lD mask i a b];rfl
theorem uL{mask i p a:Nat}(h:(eH mask i p a).2=0):∀r,eH mask i p (a+r)=(kK mask (eH mask i p a).1 r,0)
 |0=>by rw[Nat.add_zero,kK];exact abJ rfl h
 |r+1=>by
  show leap mask (eH mask i p (a+r)).1 (eH mask i p (a+r)).2=_;rw[uL h r];unfold leap;simp[kK,RY]
def vG(mask:Nat):Prop:=mask=7\/mask=31\/mask=127\/mask=511
noncomputable def Xv(mask:Nat):Nat->Nat->List Nat
 |_,0=> []
 |i,n+1=>i::Xv mask (RY mask i) n
theorem E8{mask s:Nat}:∀{i n:Nat},s∈Xv mask i n->∃r,r<n/\kK mask i r=s
 |i,0,h=>by cases h
 |i,n+1,h=>by
  rcases eL.mp h with rfl|h
  .exact#[0,(),rfl]
  .obtain⟨r,a,e⟩:=E8 h
   refine#[r+1,(),?_]
   have:=lD mask i 1 r
   rw[show 1+r=r+1 by lia] at this
   rw[this];exact e
def Xw{mask:Nat}(h:vG mask):(∀s,s<=mask->∃r,r<=mask/\kK mask 0 r=s)/\kK mask 0 (mask+1)=0:=by
 have key:∀m,(aM (m+1)).all (λs=>(Xv m 0 (m+1)).contains s)=true->∀s,s<=m->∃r,r<=m/\kK m 0 r=s:=λm a s b=>by
  have:=uT.mp a s (fG.mpr ())
  obtain⟨r,c,e⟩:=E8 (List.contains_iff_mem.mp this);exact#[r,(),e]
 rcases h with rfl|rfl|rfl|rfl
 .exact#[key 7 (by decide+kernel),by decide+kernel]
 .exact#[key 31 (by decide+kernel),by decide+kernel]
 .exact#[key 127 (by decide+kernel),by decide+kernel]
 .exact#[key 511 (by decide+kernel),by decide+kernel]
def cover{mask:Nat}(h:vG mask){i s:Nat}(d:i<=mask)(e:s<=mask):∃r,r<=mask/\kK mask i r=s:=by
 obtain⟨o,per⟩:=Xw h;obtain⟨a,f,rfl⟩:=o i d;obtain⟨b,g,rfl⟩:=o s e
 by_cases c:a<=b
 .refine#[b-a,(),?_]
  rw[<-lD,show a+(b-a)=b by lia]
 .refine#[mask+1-a+b,(),?_]
  rw[<-lD,show a+(mask+1-a+b)=mask+1+b by lia,lD,per]
noncomputable def cJ(mask:Nat)(p:Probe):Nat->Probe
 |0=>p
 |k+1=>mY mask (cJ mask p k)
theorem lb(mask:Nat)(p:Probe)(a:Nat):∀b,cJ mask p (a+b)=cJ mask (cJ mask p a) b
 |0=>rfl
 |b+1=>by
  show mY mask (cJ mask p (a+b))=_;rw[lb mask p a b];rfl
theorem mG(mask:Nat)(h:Int):∀k,rj mask h k=cJ mask (bN mask h) k
 |0=>rfl
 |k+1=>by
  show mY mask _=mY mask _;rw[mG mask h k]
theorem tU(mask:Nat)(p:Probe):∀c,c<=p.more->cJ mask p c={p with j:=p.j+c,more:=p.more-c}
 |0,_=>rfl
 |c+1,a=>by
  show mY mask (cJ mask p c)=_;rw[tU mask p c ()]
  unfold mY;rw[mo (by show p.more-c>0;lia)]
  show({p with j:=p.j+c+1,more:=p.more-c-1}:Probe)={p with j:=p.j+(c+1),more:=p.more-(c+1)}
  rw[show p.more-c-1=p.more-(c+1) by lia,show p.j+c+1=p.j+(c+1) by lia]
noncomputable def Ts(mask:Nat)(p:Probe)(a:Nat×Nat):Probe:={p with j:=a.1,more:=runEnd mask a.1-a.1,i:=a.1,perturb:=a.2}
def more_le(mask i:Nat):runEnd mask i-i<=9:=by
 unfold runEnd
 split<;>lia
def qA(mask:Nat)(p:Probe):cJ mask p (p.more+1)=Ts mask p (leap mask p.i p.perturb):=by
 show mY mask (cJ mask p p.more)=_;rw[tU mask p p.more (bq _)];unfold mY;rw[tz (by show ¬p.more-p.more>0;lia)]
 rfl
theorem wF(mask:Nat)(p:Probe):∀r,∃k,k<=p.more+1+10*r/\cJ mask p k=Ts mask p (eH mask p.i p.perturb (r+1))
 |0=>#[p.more+1,(),qA mask p]
 |r+1=>by
  obtain⟨k,a,e⟩:=wF mask p r;have b:=more_le mask (eH mask p.i p.perturb (r+1)).1;refine#[k+((runEnd mask (eH mask p.i p.perturb (r+1)).1-(eH mask p.i p.perturb (r+1)).1)+1),(),?_]
  rw[lb,e];exact qA mask (Ts mask p (eH mask p.i p.perturb (r+1)))
def Fw(mask i p:Nat)(r:Nat):(eH mask i p (r+1)).1<=mask:=by
 show(((eH mask i p r).1*5+1+(eH mask i p r).2 / 32)%(mask+1))<=mask
 have:=aco ((eH mask i p r).1*5+1+(eH mask i p r).2 / 32) (show 0<mask+1 by lia)
 lia
def JZ{mask i:Nat}(h:i<=mask):i+(runEnd mask i-i)<=mask:=by
 unfold runEnd
 split<;>lia
structure tS (mask:Nat) (p:Probe):Prop where
 le:p.j+p.more<=mask
 more:p.more<=9
 per:p.perturb<2^64
 dum:p.dummy=none
theorem tS.mY{mask:Nat}{p:Probe}(o:tS mask p):tS mask (mY mask p):=by
 unfold SetTable.mY
 split
 .next h=>exact#[by show p.j+1+(p.more-1)<=mask;have:=o.le;lia,by show p.more-1<=9;have:=o.more;lia,o.per,o.dum]
 .refine#[JZ (by have:=aco (p.i*5+1+p.perturb / 32) (show 0<mask+1 by lia);show(p.i*5+1+p.perturb / 32)%(mask+1)<=mask;lia),more_le _ _,?_,o.dum]
  show p.perturb / 32<2^64
  have:=o.per
  lia
def tS.start(mask:Nat)(h:Int):tS mask (bN mask h):=#[JZ (mask:=mask) (i:=bits h%(mask+1)) (by have:=aco (bits h) (show 0<mask+1 by lia);lia),more_le _ _,M0 h,rfl]
theorem tS.cJ{mask:Nat}{p:Probe}(o:tS mask p):∀k,tS mask (cJ mask p k)
 |0=>o
 |k+1=>(o.cJ k).mY
def meets{mask:Nat}(f:vG mask){p:Probe}(o:tS mask p){s:Nat}(a:s<=mask):∃k,k<10*turns mask/\(cJ mask p k).j=s:=by
 have z:(eH mask p.i p.perturb 13).2=0:=by
  rw[kW];exact Nat.div_eq_of_lt (cP o.per ∅)
 obtain⟨r,c,e⟩:=cover f (Fw mask p.i p.perturb 12) a;obtain⟨k,d,b⟩:=wF mask p (12+r);refine#[k,?_,?_]
 .have:=o.more
  unfold turns;lia
 .rw[b]
  show(eH mask p.i p.perturb (12+r+1)).1=s;rw[show 12+r+1=13+r by lia,uL z]
  exact e
theorem A5(R:nv t.place)(o:t.dummies= #[])(hashAt:Nat->Int)(h:Int):∀(K d:Nat)(p:Probe),p.dummy=none->K<d->(∀i:Nat,t.place[i]? ≠some (cJ t.mask p K).j)->
  ∃e,e<=K/\(∀f,f<e->∃i:Nat,t.place[i]?\(cJ t.mask p f).j/\hashAt i≠h)/\
   (((∀i:Nat,t.place[i]? ≠some (cJ t.mask p e).j)/\probe.go t hashAt h d p\(.empty (cJ t.mask p e).j none))\/
    (∃i:Nat,t.place[i]?\(cJ t.mask p e).j/\hashAt i=h/\probe.go t hashAt h d p\(.candidate (cJ t.mask p e).j i (cJ t.mask p (e+1)))))
 |K,0,p,_,v,_=>by lia
 |K,d+1,p,q,v,r=>by
  by_cases c:∃i:Nat,t.place[i]?\p.j
  .obtain⟨i,g⟩:=c
   have s:=rh R g
   by_cases l:hashAt i=h
   .refine#[0,dA _,λf u=>by lia, .inr #[i,g,l,?_]]
    rw[probe.go,s];dsimp only;rw[mo (~~~l)]
    rfl
   .cases K with
    |zero=>exact absurd g (r i)
    |succ K=>
     have n:(mY t.mask p).dummy=none:=by
      unfold mY
      split<;>exact q
     have m:∀k,cJ t.mask (mY t.mask p) k=cJ t.mask p (k+1):=λk=>by
      have:=lb t.mask p 1 k
      rw[show 1+k=k+1 by lia] at this
      exact this.symm
     obtain⟨e,x,a,b⟩:=A5 R o hashAt h K d (mY t.mask p) n () (by rw[m];exact r)
     have w:probe.go t hashAt h (d+1) p=probe.go t hashAt h d (mY t.mask p):=by
      rw[probe.go,s];dsimp only;rw[tz (~~~l)]
      rfl
     refine#[e+1,(),λf u=>?_,?_]
     .cases f with
      |zero=>exact#[i,g,l]
      |succ f=>
       have:=a f ()
       rw[m] at this;exact this
     .rw[m,m] at b
      rw[w];exact b
  .have c:∀i:Nat,t.place[i]? ≠some p.j:=λi g=>c #[i,g]
   refine#[0,dA _,λf u=>by lia, .inl #[c,?_]]
   rw[probe.go,FF R o c];dsimp only;rw[q];rfl
structure TOk (t:SetTable) (hs:List Int):Prop where
 few:vG t.mask
 dum:t.dummies= #[]
 rise:nv t.place
 size:t.place.size=hs.length
 le:∀(i j:Nat),t.place[i]?\j->j<=t.mask
 room:t.place.size<=t.mask
 path:∀(i:Nat)(h:Int),hs[i]?\h->∃k,t.place[i]?\(bX t.mask h k)/\∀k',k'<k->∃i':Nat,t.place[i']?\(bX t.mask h k')
def C6(mask:Nat)(h:Int)(k:Nat):bX mask h k<=mask:=by
 unfold bX;rw[mG]
 have:=((tS.start mask h).cJ k).le
 lia
def TOk.empty(T:TOk t a):∃s,s<=t.mask/\∀i:Nat,t.place[i]? ≠some s:=by
 apply FS;intro c
 have all:∀s∈aM (t.mask+1),s∈t.place.toList:=λs a=>by
  apply FS;intro n;refine c #[s,by have:=fG.mp a;lia,λi b=>n ?_]
  rw[<-fO] at b;exact cV b
 have:=Wb.aX acH all
 rw[oY,cO] at this
 have:=T.room
 lia
theorem TOk.probe(T:TOk t g)(hashAt:Nat->Int)(h:Int)(k:Nat):
  ∃d,k<=d/\(∀e,k<=e->e<d->∃i:Nat,t.place[i]?\(bX t.mask h e)/\hashAt i≠h)/\
   (((∀i:Nat,t.place[i]? ≠some (bX t.mask h d))/\t.probe hashAt h (rj t.mask h k)\(.empty (bX t.mask h d) none))\/
    (∃i:Nat,t.place[i]?\(bX t.mask h d)/\hashAt i=h/\t.probe hashAt h (rj t.mask h k)\(.candidate (bX t.mask h d) i (rj t.mask h (d+1))))):=by
 obtain⟨s,j,l⟩:=T.empty;have o:=(tS.start t.mask h).cJ k;rw[<-mG] at o;obtain⟨K,m,n⟩:=meets T.few o j;have f:∀c,cJ t.mask (rj t.mask h k) c=rj t.mask h (k+c):=λc=>by rw[mG,mG,<-lb]
 obtain⟨d,p,a,b⟩:=A5 T.rise T.dum hashAt h K (10*turns t.mask) (rj t.mask h k) o.dum m (by rw[n];exact l)
 refine#[k+d,(),λe q r=>?_,?_]
 .have:=a (e-k) ()
  rw[f,show k+(e-k)=e by lia] at this
  exact this
 .rw[f,f] at b
  exact b
def kT{xs:Array a}(x:a)(e:p<=xs.size)(i:Nat):(insertAt xs p x)[i]? =if i<p then xs[i]? else if i=p then some x else xs[i-1]? :=by
 rw[<-fO,adK];have lt:(xs.toList.take p).length=p:=by rw[gO,cO];lia
 by_cases c:i<p
 .rw[mo c,fY (),DL c,fO]
 .rw[tz c]
  by_cases d:i=p
  .subst d
   rw[mo rfl,iz (),lt,ph];rfl
  .rw[tz d,iz (),lt]
   obtain⟨m,b⟩:∃m,i-p=m+1:=#[i-p-1,()]
   rw[b,vy,Bo,fO]
   congr 1;lia
def hJ(xs:Array a)(p:Nat)(x:a):(insertAt xs p x).size=xs.size+1:=by
 rw[<-cO,(ad1 xs p x).length_eq];simp
def jK{a:Array Nat}{i j:Nat}(h:a[i]?\j):a[i]! =j:=by
 obtain⟨b,e⟩:=yV.mp h;simp[b,e]
def Mh{xs:Array Nat}(R:nv xs){j:Nat}(h:∀i:Nat,xs[i]? ≠some j):nv (insertAt xs (below xs j) j):=by
 obtain⟨t,w,x⟩:=kE R j;have g:=kT (xs:=xs) j t;intro a b y A;rw[hJ] at y
 have m:∀i,i<xs.size+1->∃v,(insertAt xs (below xs j) j)[i]?\v/\((i<below xs j/\xs[i]?\v)\/(i=below xs j/\v=j)\/(below xs j<i/\xs[i-1]?\v)):=λi r=>by
  rw[g i]
  by_cases c:i<below xs j
  .rw[mo c,qq ()]
   exact#[_,rfl, .inl #[c,rfl]]
  .rw[tz c]
   by_cases d:i=below xs j
   .rw[mo d];exact#[j,rfl, .inr (.inl #[d,rfl])]
   .rw[tz d,qq ()]
    exact#[_,rfl, .inr (.inr #[(),rfl])]
 obtain⟨G,B,C⟩:=m a ()
 obtain⟨H,E,s⟩:=m b ()
 rw[jK B,jK E];have lo:∀i v,i<below xs j->xs[i]?\v->v<j:=λi v n f=>by have:=w i n;rw[jK f] at this;exact this
 have r:∀i v,below xs j<=i->xs[i]?\v->j<v:=λi v n f=>by
  have:=x i n (yV.mp f).1
  rw[jK f] at this
  have:v≠j:=λz=>h i (by rw[f,z])
  lia
 have o:∀i k v u,xs[i]?\v->xs[k]?\u->i<k->v<u:=λi k v u n f F=>by
  have:=R i k (yV.mp f).1 F
  rw[jK n,jK f] at this;exact this
 rcases C with ⟨q,p⟩ | ⟨q,rfl⟩ | ⟨q,p⟩
 .rcases s with ⟨l,e⟩ | ⟨l,rfl⟩ | ⟨l,e⟩
  .exact o _ _ _ _ p e A
  .exact lo _ _ q p
  .have:=lo _ _ q p;have:=r (b-1) _ () e;lia
 .rcases s with ⟨l,e⟩ | ⟨l,rfl⟩ | ⟨l,e⟩
  .lia
  .lia
  .exact r (b-1) _ () e
 .rcases s with ⟨l,e⟩ | ⟨l,rfl⟩ | ⟨l,e⟩
  .lia
  .lia
  .exact o _ _ _ _ p e ()
def PF{xs:Array Nat}(R:nv xs){j s:Nat}:(∃i:Nat,(insertAt xs (below xs j) j)[i]?\s)↔s=j\/∃i:Nat,xs[i]?\s:=by
 obtain⟨a,_,_⟩:=kE R j;have g:=kT (xs:=xs) j a
 constructor
 .rintro⟨i,h⟩
  rw[g i] at h
  split at h
  .exact .inr #[i,h]
  .split at h
   .exact .inl (Da h).symm
   .exact .inr #[_,h]
 .rintro(rfl| ⟨i,h⟩)
  .exact#[below xs s,by rw[g,tz (),mo rfl]]
  .by_cases c:i<below xs j
   .exact#[i,by rw[g,mo c];exact h]
   .exact#[i+1,by rw[g,tz (),tz ()];exact h]
theorem TOk.put(T:TOk t l)(v:∀i:Nat,t.place[i]? ≠some (bX t.mask h k))(w:∀a,a<k->∃i:Nat,t.place[i]?\(bX t.mask h a))(room:t.place.size+1<=t.mask):
  (t.put (bX t.mask h k)).2=below t.place (bX t.mask h k)/\below t.place (bX t.mask h k)<=l.length/\
  TOk (t.put (bX t.mask h k)).1 (l.take (below t.place (bX t.mask h k))++h::l.drop (below t.place (bX t.mask h k))):=by
 obtain⟨x,z,A⟩:=kE T.rise (bX t.mask h k);have g:=kT (xs:=t.place) (bX t.mask h k) x;have sz:=T.size;have o:=λs=>PF (s:=s) (j:=bX t.mask h k) T.rise;refine#[rfl,(),T.few,?_,Mh T.rise v,?_,?_,?_,?_]
 .show(if has t.dummies _=true then _ else t.dummies)= #[]
  rw[T.dum];rfl
 .show(insertAt t.place _ _).size=_
  rw[hJ,dh,gO,dG,mV];lia
 .intro i j p
  have p:(insertAt t.place (below t.place (bX t.mask h k)) (bX t.mask h k))[i]?\j:=p
  rcases(o j).mp #[i,p] with rfl| ⟨u,e⟩
  .exact C6 _ _ _
  .exact T.le _ _ e
 .show(insertAt t.place _ _).size<=_
  rw[hJ];exact room
 .intro i e b
  show ∃f,(insertAt t.place (below t.place (bX t.mask h k)) (bX t.mask h k))[i]?\(bX t.mask e f)/\∀a,a<f->∃u:Nat,(insertAt t.place (below t.place (bX t.mask h k)) (bX t.mask h k))[u]?\(bX t.mask e a);have lt:(l.take (below t.place (bX t.mask h k))).length=below t.place (bX t.mask h k):=by rw[gO];lia
  by_cases c:i<below t.place (bX t.mask h k)
  .rw[fY (),DL c] at b
   obtain⟨f,q,r⟩:=T.path i e b;exact#[f,by rw[g,mo c];exact q,λa n=>(o _).mpr (.inr (r a n))]
  .rw[iz (),lt] at b
   by_cases d:i=below t.place (bX t.mask h k)
   .rw[d,ph] at b
    cases(Da b);exact#[k,by rw[d,g,tz (),mo rfl],λa n=>(o _).mpr (.inr (w a n))]
   .obtain⟨m,y⟩:∃m,i-below t.place (bX t.mask h k)=m+1:=#[i-below t.place (bX t.mask h k)-1,()]
    rw[y,vy,Bo] at b;obtain⟨f,q,r⟩:=T.path _ e b;refine#[f,?_,λa n=>(o _).mpr (.inr (r a n))];rw[g,tz c,tz d,show i-1=below t.place (bX t.mask h k)+m by lia]
    exact q
theorem vj(mask i p:Nat):∀r,eH mask i p (r+1)=eH mask (leap mask i p).1 (leap mask i p).2 r
 |0=>rfl
 |r+1=>by
  show leap mask (eH mask i p (r+1)).1 (eH mask i p (r+1)).2=_;rw[vj mask i p r];rfl
def Own(o:Array (Option Nat))(s:Nat):Prop:=(o.getD s (some 0)).isNone=false
theorem w6{mask:Nat}(e:Array (Option Nat)):∀(f:Nat)(p:Probe),p.j=p.i->p.more=runEnd mask p.i-p.i->p.i<=runEnd mask p.i->(∃r,r<f/\¬Own e (eH mask p.i p.perturb r).1)->
  ∃h,layClean.free mask e f p.i p.perturb\(cJ mask p h).j/\¬Own e (cJ mask p h).j/\∀g,g<h->Own e (cJ mask p g).j
 |0,p,_,_,_,#[r,v,_]=>by lia
 |f+1,p,w,E,F,#[r,v,q]=>by
  have run:∀c,c<=p.more->(cJ mask p c).j=p.i+c:=λc t=>by rw[tU mask p c t];show p.j+c=_;rw[w]
  cases l:(aM (runEnd mask p.i+1-p.i)).find? λk=>(e.getD (p.i+k) (some 0)).isNone with
  |some k=>
   obtain⟨x,m,bs,o,y⟩:=List.find?_eq_some_iff_append.mp l;have G:k<runEnd mask p.i+1-p.i:=fG.mp (by rw[o];simp)
   have z:m.length=k:=by
    have A:m.length<(aM (runEnd mask p.i+1-p.i)).length:=by rw[o];simp
    have:=y4 (n:=runEnd mask p.i+1-p.i) (i:=m.length) (~~~A)
    rw[o,iz (bq _),ph] at this;exact(Da this).symm
   refine#[k,?_,?_,λg B=>?_]
   .rw[layClean.free,l,run k ()]
   .rw[run k ()]
    unfold Own;rw[x];exact Bool.noConfusion
   .rw[run g ()]
    have C:g∈m:=by
     have:=y4 (n:=runEnd mask p.i+1-p.i) (i:=g) ()
     rw[o,fY ()] at this
     exact cV this
    have:=y g C
    unfold Own;exact Bool.not_eq_true' _▸this
  |none=>
   have all:=adh.mp l
   have own:∀c,c<=p.more->Own e (p.i+c):=λc t=>by
    have:=all c (fG.mpr ())
    unfold Own;exact vB.mpr this
   cases r with
   |zero=>exact absurd (own 0 (dA _)) q
   |succ r=>
    have u:=qA mask p
    obtain⟨h,a,b,c⟩:=w6 e f (Ts mask p (leap mask p.i p.perturb)) rfl rfl (by
     show(leap mask p.i p.perturb).1<=runEnd mask (leap mask p.i p.perturb).1;unfold runEnd;split<;>lia) #[r,(),by rw[vj] at q;exact q]
    rw[<-u] at a b c;have s:∀k,cJ mask (cJ mask p (p.more+1)) k=cJ mask p (p.more+1+k):=λk=>(lb mask p (p.more+1) k).symm;refine#[p.more+1+h,?_,?_,λg B=>?_]
    .rw[layClean.free,l,<-s,<-a,u];rfl
    .rw[<-s];exact b
    .by_cases d:g<=p.more
     .rw[run g d];exact own g d
     .have:=c (g-(p.more+1)) ()
      rw[s,show p.more+1+(g-(p.more+1))=g by lia] at this
      exact this
structure Laid (mask:Nat) (hs:List Int) (owner:Array (Option Nat)) (ss:List Nat):Prop where
 size:owner.size=mask+1
 len:ss.length=hs.length
 nd:ss.Nodup
 le:∀s∈ss,s<=mask
 get:∀s,s<=mask->∀k,owner.getD s (some 0)\k↔ss[k]?\s
 path:∀(k:Nat)(h:Int),hs[k]?\h->∃c,ss[k]?\(bX mask h c)/\∀c',c'<c->bX mask h c'∈ss
def Laid.own{mask:Nat}{c:List Int}{a:Array (Option Nat)}{b:List Nat}(L:Laid mask c a b){s:Nat}(h:s<=mask):Own a s↔s∈b:=by
 unfold Own
 constructor
 .intro e
  cases o:a.getD s (some 0) with
  |none=>rw[o] at e;cases e
  |some k=>exact cV ((L.get s h k).mp o)
 .intro e
  obtain⟨k,d⟩:=iA e;rw[(L.get s h k).mpr d];rfl
def HB{mask:Nat}(f:vG mask){l:List Int}{g:Array (Option Nat)}{m:List Nat}(L:Laid mask l g m)(room:l.length<=mask)(h:Int):
  ∃j,layClean.free mask g (turns mask) (bits h%(mask+1)) (bits h)\j/\Laid mask (l++ [h]) (g.setIfInBounds j (some l.length)) (m++ [j]):=by
 have o:=tS.start mask h
 obtain⟨s,C,F⟩:∃s,s<=mask/\s∉m:=by
  apply FS;intro c
  have all:∀s∈aM (mask+1),s∈m:=λs l=>by
   apply FS;intro n;exact c #[s,by have:=fG.mp l;lia,n]
  have:=Wb.aX acH all
  rw[oY,L.len] at this;lia
 have z:(eH mask (bN mask h).i (bN mask h).perturb 13).2=0:=by
  rw[kW];exact Nat.div_eq_of_lt (cP o.per ∅)
 obtain⟨r,N,e⟩:=cover f (Fw mask (bN mask h).i (bN mask h).perturb 12) C
 have O:(bN mask h).i<=mask:=by
  have:=aco (bits h) (show 0<mask+1 by lia)
  show bits h%(mask+1)<=mask;lia
 obtain⟨p,a,b,c⟩:=w6 g (turns mask) (bN mask h) rfl rfl (by unfold runEnd;split<;>lia) #[13+r,by unfold turns;lia,by
  rw[uL z];show ¬Own g (kK mask _ r);rw[e,L.own C];exact F]
 have E:∀k,(cJ mask (bN mask h) k).j=bX mask h k:=λk=>by unfold bX;rw[mG]
 rw[E] at a b;have u:=C6 mask h p;rw[L.own u] at b;refine#[bX mask h p,a,?_,?_,?_,?_,?_,?_]
 .rw[acm];exact L.size
 .rw[dh,dh,L.len];rfl
 .exact jx.mpr #[L.nd,by simp,λx t y G z=>b (by rw[<-fZ.mp G,<-z];exact t)]
 .intro x t
  rcases c5.mp t with t|t
  .exact L.le x t
  .rw[fZ.mp t];exact u
 .intro x t k
  have w:(g.setIfInBounds (bX mask h p) (some l.length)).getD x (some 0)=if bX mask h p=x then some l.length else g.getD x (some 0):=by
   rw[F4,F4,ac8]
   by_cases d:bX mask h p=x
   .rw[mo d,mo d,mo (by rw[L.size];lia)];rfl
   .rw[tz d,tz d]
  rw[w]
  by_cases d:bX mask h p=x
  .rw[mo d]
   constructor
   .intro e
    cases(Da e);rw[<-L.len,iz (bq _),ph,<-d];rfl
   .intro e
    by_cases q:k<m.length
    .rw[fY q] at e
     exact absurd (by rw[d];exact cV e) b
    .have:k<(m++ [bX mask h p]).length:=(cw.mp e).1
     rw[dh] at this
     have:k<m.length+1:=this
     rw[show k=m.length by lia,L.len]
  .rw[tz d,L.get x t k]
   constructor
   .intro e
    rw[fY (cw.mp e).1];exact e
   .intro e
    by_cases q:k<m.length
    .rw[fY q] at e;exact e
    .have:k<(m++ [bX mask h p]).length:=(cw.mp e).1
     rw[dh] at this
     have:k<m.length+1:=this
     rw[show k=m.length by lia,iz (bq _),ph] at e
     exact absurd (Da e) d
 .intro k H v
  by_cases q:k<l.length
  .rw[fY q] at v
   obtain⟨I,w,J⟩:=L.path k H v;exact#[I,by rw[fY (by rw[L.len];exact q)];exact w,λA B=>km _ (J A B)]
  .have:k<(l++ [h]).length:=(cw.mp v).1
   rw[dh] at this
   have:k<l.length+1:=this
   have M:k=l.length:=()
   subst M;rw[iz (bq _),ph] at v;cases(Da v);refine#[p,by rw[<-L.len,iz (bq _),ph];rfl,λA B=>km _ ?_]
   have:=c A B
   rw[E] at this;exact(L.own (C6 _ _ _)).mp this
def HC(mask:Nat):Laid mask [] (d7 (mask+1) none) [] where
 size:=by simp
 len:=rfl
 nd:=iB
 le:=λs h=>by cases h
 get:=λs a k=>by
  rw[F4,Array.getElem?_replicate,mo ()]
  simp
 path:=λk h e=>by cases e
noncomputable def AQ(mask:Nat)(acc:Option (Array (Option Nat)×Nat))(h:Int):Option (Array (Option Nat)×Nat):=do
 let (owner,k) <-acc
 let j <-layClean.free mask owner (turns mask) (bits h%(mask+1)) (bits h)
 pure (owner.setIfInBounds j (some k),k+1)
theorem AR{mask:Nat}(f:vG mask):∀(b done:List Int)(a:Array (Option Nat))(d:List Nat),Laid mask done a d->done.length+b.length<=mask+1->
  ∃c i,b.foldl (AQ mask) (some (a,done.length))\(c,done.length+b.length)/\Laid mask (done++b) c i
 | [],done,a,d,L,_=>#[a,d,rfl,by rw[eJ];exact L]
 |h::b,done,a,d,L,l=>by
  rw[dG] at l;obtain⟨j,e,m⟩:=HB f L () h
  have n:AQ mask (some (a,done.length)) h\(a.setIfInBounds j (some done.length),done.length+1):=by
   unfold AQ;simp[e]
  obtain⟨c,i,g,k⟩:=AR f b (done++ [h]) _ _ m (by rw[dh];show done.length+1+b.length<=_;lia)
  refine#[c,i,?_,by rw[kQ] at k;exact k]
  rw[List.foldl_cons,n];rw[dh] at g;have g:b.foldl (AQ mask) (some (a.setIfInBounds j (some done.length),done.length+1))\(c,done.length+1+b.length):=g;rw[g,dG]
  congr 2;lia
def Cr{mask:Nat}(f:vG mask)(b:List Int)(room:b.length<=mask+1):∃a c,layClean mask b.toArray\a/\Laid mask b a c:=by
 rfl';obtain⟨a,c,e,L⟩:=AR f b [] _ _ (HC mask) (~~~room)
 ac_rfl;refine#[a,c,?_,by simpa using L]
 have:layClean mask b.toArray=(b.foldl (AQ mask) (some (d7 (mask+1) none,0))).map (·.1):=by
  unfold layClean;rw[List.foldl_toArray];rfl
 have e:b.foldl (AQ mask) (some (d7 (mask+1) none,0))\(a,[].length+b.length):=e;rw[this,e];rfl
noncomputable def eF(mask:Nat)(a:Array (Option Nat)):List (Nat×Nat):=(aM (mask+1)).filterMap λj=>(a.getD j none).map (j,·)
def LG{mask:Nat}{b:List Int}{a:Array (Option Nat)}{c:List Nat}(L:Laid mask b a c){j k:Nat}:(j,k)∈eF mask a↔c[k]?\j:=by
 unfold eF;rw[adf]
 have dflt:∀s,s<=mask->a.getD s none=a.getD s (some 0):=λs b=>by
  rw[F4,F4,qq (by rw[L.size];lia)];rfl
 constructor
 .rintro⟨s,d,e⟩
  have d:=fG.mp d;rw[dflt s ()] at e
  cases o:a.getD s (some 0) with
  |none=>rw[o] at e;cases e
  |some f=>
   rw[o] at e;have e:=Da e;have h:s=j:=(acf e).1;have i:f=k:=(acf e).2;rw[<-h,<-i];exact(L.get s () f).mp o
 .intro e
  have g:=L.le j (cV e);refine#[j,fG.mpr (),?_]
  rw[dflt j g,(L.get j g k).mpr e];rfl
def HE(mask:Nat)(c:Array (Option Nat)):((eF mask c).map (·.1)).Pairwise (·<·):=by
 unfold eF;rw[jc,List.pairwise_filterMap];refine DQ.imp λ {a b} h x d y e=>?_;cases f:c.getD a none with
 |none=>rw[f] at d;cases d
 |some i=>
  cases g:c.getD b none with
  |none=>rw[g] at e;cases e
  |some j=>
   rw[f] at d;rw[g] at e;cases(Da d);cases(Da e);exact h
theorem OS{mask:Nat}(f:vG mask)(l:List Int)(room:l.length<=mask)(finger moves:Nat)(led plain:Bool):
  ∃t g,laid mask finger moves led plain l.toArray\(t,g)/\t.mask=mask/\t.led=led/\t.plain=plain/\t.moves=moves/\g.toList.Perm (aM l.length)/\TOk t (g.toList.map λk=>l.getD k 0):=by
 rfl';obtain⟨d,u,e,L⟩:=Cr f l ()
 have m:=λ {j k:Nat}=>LG (j:=j) (k:=k) L;have v:=HE mask d;ac_rfl
 have G:((eF mask d).map (·.2)).Nodup:=by
  rw[F5,jc];rw[jc] at v;refine v.imp_of_mem λ {a b} H q r z=>?_;obtain⟨I,J⟩:=a;obtain⟨M,bk⟩:=b;have A:=m.mp H;have N:=m.mp q;have z:J=bk:=z;rw[z,N] at A
  have:=Da A
  have r:I<M:=r;lia
 have perm:((eF mask d).map (·.2)).Perm (aM l.length):=by
  refine(F6 G acH).mpr λk=>?_;rw[c7,fG]
  constructor
  .rintro⟨⟨j,k'⟩,h,rfl⟩
   have:=(cw.mp (m.mp h)).1
   rw[L.len] at this;exact this
  .intro n
   have O:k<u.length:=by rw[L.len];exact n
   exact#[(u[k],k),m.mpr (dH O),rfl]
 have P:(eF mask d).length=l.length:=by
  have:=perm.length_eq
  simpa using this
 refine#[{mask,place:=((eF mask d).map (·.1)).toArray,dummies:= #[],finger,led,moves,plain},((eF mask d).map (·.2)).toArray,?_,rfl,rfl,rfl,rfl,by simpa using perm,?_]
 .unfold laid
  rw[e];rfl
 have w:∀(i j:Nat),((eF mask d).map (·.1)).toArray[i]?\j↔∃k,(eF mask d)[i]?\(j,k):=λi j=>by
  rw[acP,dJ];cases o:(eF mask d)[i]? with
  |none=>simp
  |some x=>
   obtain⟨a,b⟩:=x;simp
 have y:∀s,s∈u->∃i:Nat,((eF mask d).map (·.1)).toArray[i]?\s:=λs Q=>by
  obtain⟨k,n⟩:=iA Q;obtain⟨i,p⟩:=iA (m.mpr n);exact#[i,(w i s).mpr #[k,p]]
 refine#[f,rfl,?_,?_,?_,?_,?_]
 .intro a b q r
  have q:b<((eF mask d).map (·.1)).length:=q
  have:=yW.mp v a b () q r
  simp[show a<(eF mask d).length by simpa using(show a<((eF mask d).map (·.1)).length by lia),show b<(eF mask d).length by simpa using q]
  simpa using this
 .simp
 .intro i j h
  obtain⟨k,n⟩:=(w i j).mp h;exact L.le j (cV (m.mp (cV n)))
 .show((eF mask d).map (·.1)).toArray.size<=mask
  simp[P];exact room
 .intro i B p
  rw[dJ] at p;cases o:(eF mask d)[i]? with
  |none=>
   have:(((eF mask d).map (·.2)).toArray.toList)[i]? =none:=by simp[o]
   rw[this] at p;cases p
  |some x=>
   obtain⟨j,k⟩:=x;have R:(((eF mask d).map (·.2)).toArray.toList)[i]?\k:=by simp[o]
   rw[R] at p;have C:=m.mp (cV o);have n:k<l.length:=by rw[<-L.len];exact(cw.mp C).1
   have S:l[k]?\B:=by
    rw[<-Da p];show _\(l.getD k 0);rw[fq,dH n];rfl
   obtain⟨c,E,T⟩:=L.path k B S;rw[C] at E;refine#[c,(w i _).mpr #[k,by rw[o,Da E]],λX Y=>y _ (T X Y)]
end PySem.SetTable
namespace PySem
open SetTable PyProof.Rows
noncomputable def gy(w:World):Bool:=w.params.followText "set-order"
structure mK (bt:Bool) (o:Obj) (es:Array (Int×Value)) (ep:Nat) (t:SetTable):Prop where
 ex:o.ExactSet
 dat:o.data= .set es ep t
 tok:TOk t (es.toList.map (·.1))
 pl:t.plain=true
 ld:t.led= !bt
 few:5*es.size<3*t.mask
theorem TOk.fits(T:TOk t a):t.fits a.length=true:=by
 simp only[SetTable.fits,SetTable.fill,T.dum,T.size,vC,abI,decide_eq_true_eq,true_and]
 have:=T.room
 rw[T.size] at this;simpa using this
theorem mK.fits(S:mK w o a b t):t.fits a.size=true:=by
 have:=TOk.fits S.tok
 simpa using this
def KU{mask n:Nat}(f:vG mask)(h:5*n<3*mask):n+1<=mask:=by
 rcases f with rfl|rfl|rfl|rfl<;>lia
def GU{mask n:Nat}(f:vG mask)(a:3*mask<=5*n)(b:5*(n-1)<3*mask)(c:n<=306):vG (sizeAbove (grown n)-1)/\5*n<3*(sizeAbove (grown n)-1)/\n<=sizeAbove (grown n)-1/\sizeAbove (grown n)<=512:=by
 rcases f with rfl|rfl|rfl|rfl
 .have:n=5:=()
  subst this;exact#[.inr (.inl rfl),∅,∅,∅]
 .have:n=19:=()
  subst this;exact#[.inr (.inr (.inl rfl)),∅,∅,∅]
 .have:n=77:=()
  subst this;exact#[.inr (.inr (.inr rfl)),∅,∅,∅]
 .lia
theorem Ik{t:SetTable}{c:Array (Int×Value)}(T:TOk t (c.toList.map (·.1)))(d:t.tooFull=true)(near:5*(c.size-1)<3*t.mask)(small:c.size<=306):
  ∃f a,t.relaid (c.map (·.1)) (grown c.size)\(f,a)/\a.toList.Perm (aM c.size)/\(a.filterMap (c[·]?)).toList.Perm c.toList/\(a.filterMap (c[·]?)).size=c.size/\
   TOk f ((a.filterMap (c[·]?)).toList.map (·.1))/\f.plain=t.plain/\f.led=t.led/\5*c.size<3*f.mask/\sizeAbove (grown c.size)<=512:=by
 have sz:t.place.size=c.size:=by rw[T.size];simp
 have m:3*t.mask<=5*c.size:=by
  unfold SetTable.tooFull SetTable.fill at d;rw[T.dum,sz] at d;simp at d;lia
 rfl';obtain⟨o,p,q,r⟩:=GU T.few m near small;obtain⟨f,a,e,em,s,u,_,g,v⟩:=OS o (c.toList.map (·.1)) (~~~q) t.finger (t.movedTo (sizeAbove (grown c.size)-1)) t.led t.plain
 rw[aI,cO] at g;ac_rfl
 have i:(a.filterMap (c[·]?)).toList.Perm c.toList:=by
  rw[ad2];exact(g.filterMap _).trans (by rw[filterMap_getElem?_range])
 have w:(a.filterMap (c[·]?)).size=c.size:=by rw[<-cO,i.length_eq,cO]
 refine#[f,a,?_,g,i,w,?_,u,s,by rw[em];exact p,r]
 .unfold SetTable.relaid
  rw[show c.map (·.1)=(c.toList.map (·.1)).toArray by apply adG.mp;simp]
  exact e
 .have:(a.filterMap (c[·]?)).toList.map (·.1)=a.toList.map λk=>(c.toList.map (·.1)).getD k 0:=by
   rw[ad2];have lt:∀k∈a.toList,k<c.size:=λk h=>fG.mp (g.mem_iff.mp h);generalize a.toList=l at lt
   induction l with
   |nil=>rfl
   |cons k l x=>
    have h:=lt k (dB ..);rw[List.filterMap_cons_some (b:=c[k]) (by simp[h]),dq,dq,x λj y=>lt j (eW _ y)]
    simp[h]
  rw[this];exact v
end PySem
set_option maxHeartbeats 1000000
namespace PySem
open SetTable PyProof.Rows
section
variable {prog:Program} {w:World} {A:Around} {E:Value->Shared->Prop} {s:Shared}
def vo{h:Heap}(g:h.get? a\o)(e:o.data= .set f d t)(b:Array (Int×Value))(c:SetTable):
  (h.update a (Obj.putSet b c)).get? a\{o with data:= .set b (d+1) c}:=by
 have:=P3 (Obj.putSet b c) g (by rw[putSet_of b c e];rfl)
 rw[putSet_of b c e] at this;exact this
def wO{Q₁:Value->Shared->Prop}
  (h:Q₁ (.ref s.heap.objs.size) {s with heap:=s.heap.push {cls:= .type "set",dict:=none,data:= .set #[] 0 (.fresh 0 0 (!gy w))}}):
  codeAny (model prog w) A (.call (.builtin "set.__new__") #[[.type "set"],[]]) (wants Q₁ E) s:=by
 refine acg ?_;refine wpAny_bind (adb F.newCall_set_0 (ir #[acd F.plain_set_new _,ab5 F.entry_set_new ?_]));rw[abU F.plain_set_new _];unfold Builtin.«set.__new__» Builtin.Frozenset.newClass;have a:=sub_set_self;obtain⟨b,g,d,c,os⟩:=s;dsimp only
 wp_walk
 refine adH (ir ?_);dsimp only;simp only[newObj];refine wpAny_bind (wpAny_alloc (ir ?_));exact ir h
theorem BA 
  (h:Q (.ref s.heap.objs.size) {s with heap:=s.heap.push {cls:= .type "set",dict:=none,data:= .set #[] 0 (.fresh 0 0 (!gy w))}}):
  wpAny (model prog w) A (call (.type "set") []) Q E s:=by
 obtain⟨c,t,i⟩:=F.called_set.mro;have j:=F.called_set.made;have u:=F.called_set.sub;refine abT (acg ?_);show wpAny _ _ (callAny (.type "set") _) _ _ _;refine ir #[adg _ (by decide+kernel),ab5 F.entry_type_call ?_]
 rw[Around.under_plain (weight_type_call_type "set" [] []) rfl];have v:=F.called_set.notType;have x:=F.called_set.canCreate;have k:=F.typeCall_set_0
 repeat (any_goals (first|assumption|wp_step))
 refine abP (wO (E:=E) (Q₁:=λobj a=>obj= .ref s.heap.objs.size/\a={s with heap:=s.heap.push {cls:= .type "set",dict:=none,data:= .set #[] 0 (.fresh 0 0 (!gy w))}}) #[rfl,rfl]) λr a b=>?_
 cases r with
 |error e=>exact b
 |ok l=>
  cases l with
  |ret obj=>
   obtain⟨rfl,rfl⟩:=b;have m:(s.heap.push {cls:= .type "set",dict:=none,data:= .set #[] 0 (.fresh 0 0 (!gy w))}).get? s.heap.objs.size\{cls:= .type "set",dict:=none,data:= .set #[] 0 (.fresh 0 0 (!gy w))}:=GE _ rfl;have n:Shared.TypeIs {s with heap:=s.heap.push {cls:= .type "set",dict:=none,data:= .set #[] 0 (.fresh 0 0 (!gy w))}} (.ref s.heap.objs.size) "set":=#[_,m,rfl]
   have o:=F.called_set.init.lookup;have p:=F.called_set.init.bind (.ref s.heap.objs.size)
   repeat (any_goals (first|assumption|wp_step))
   refine abP (aca (R:=wants (λr g=>r= .none/\Q (.ref s.heap.objs.size) g) E) F.called_set.init.plain F.entry_set_init (check_set_init n ?_)) λd g f=>?_
   .unfold Builtin.«set.__init__» noKeywords
    wp_walk
    exact#[rfl,h]
   .cases d with
    |error e=>exact f
    |ok q=>
     cases q with
     |ret r=>
      obtain⟨rfl,y⟩:=f
      repeat (any_goals (first|assumption|wp_step))
     |_=>exact f.elim
  |_=>exact b.elim
def mK.new(w:World):mK (gy w) {cls:= .type "set",dict:=none,data:= .set #[] 0 (.fresh 0 0 (!gy w))} #[] 0 (.fresh 0 0 (!gy w)) where
 ex:=#[rfl,rfl,rfl]
 dat:=rfl
 tok:=#[.inl rfl,rfl,λi j a=>by simp[SetTable.fresh] at a,rfl,λi j h=>by simp[SetTable.fresh] at h,by simp[SetTable.fresh],λi h e=>by simp at e]
 pl:=rfl
 ld:=rfl
 few:=by simp[SetTable.fresh]
end
section
variable {prog:Program} {w:World} {A:Around} {E:Value->Shared->Prop} {s:Shared}
def ItemsAre.ints(h:ItemsAre (intKind prog w) c b):∀v∈b,∃i t,v= .int i t:=by
 induction h with
 |nil=>intro v a;simp at a
 | @cons k f c b d _ e=>
  intro v a
  rcases eL.mp a with rfl|a
  .obtain⟨t,rfl⟩:=Value.isInt_shape d
   exact#[k,t,rfl]
  .exact e v a
def oV(f:IsTupleKey (intKind prog w) s.heap j a)(h:Q false s):wpAny (model prog w) A (ofAClassStatement 8 (.ref a)) Q E s:=by
 have k:=f.typeIs;obtain⟨o,c,n,l,_,m,p⟩:=f;unfold ofAClassStatement;refine wpAny_bind (aea k ?_);dsimp only;simp only[adJ, ↓reduceIte];refine wpAny_bind (ir ?_);simp only[adp,eV, ↓reduceIte];refine wpAny_bind (acq l m ?_);dsimp only;refine wpAny_bind ?_;rw[<-DX];refine adL _ (λb r d=>r.1=none/\d=s/\∀v∈b,∃i t,v=Value.int i t) _ ?_ ?_ _ _ #[rfl,rfl,p.ints]
 .rintro v b r d ⟨e,rfl,g⟩
  obtain⟨i,t,rfl⟩:=g v dB;refine wpAny_bind (adb (show ofAClassStatement 7 (.int i t)=pure false from by unfold ofAClassStatement;rfl) ?_)
  simp only[eV,PP];exact ir #[rfl,rfl,λu q=>g u (eW _ q)]
 .rintro⟨x,y⟩ d ⟨e,rfl,_⟩
  simp only at e;subst e;exact ir h
def FX(j:IsTupleKey (intKind prog w) s.heap n b)(stored:List Value)(o:∀y∈stored,∃f a,y=Value.ref a/\IsTupleKey (intKind prog w) s.heap f a)(h:Q false s):
  wpAny (model prog w) A (searchCouldBeSeen (.ref b) stored) Q E s:=by
 unfold searchCouldBeSeen;refine wpAny_bind ?_;refine adL _ (λd r g=>r.1=none/\g=s/\∀y∈d,∃f a,y=Value.ref a/\IsTupleKey (intKind prog w) s.heap f a) _ ?_ ?_ _ _ #[rfl,rfl,o]
 .rintro y d r g ⟨i,rfl,k⟩
  obtain⟨f,a,rfl,l⟩:=k y dB;have m:∀y∈d,∃f a,y=Value.ref a/\IsTupleKey (intKind prog w) g.heap f a:=λy p=>k y (eW _ p);have e:(carriedByValue (Value.ref b)&&carriedByValue (Value.ref a))=false:=by simp[carriedByValue]
  dsimp only;rw[e,Bool.or_false]
  by_cases c:(b==a)=true
  .rw[mo c]
   exact ir #[rfl,rfl,m]
  .rw[tz c]
   refine wpAny_bind (wpAny_eqIsQuiet_tuple j ?_);simp only[adp,eV,PP];refine wpAny_bind (wpAny_eqIsQuiet_tuple l ?_);simp only[adp,eV,PP];refine wpAny_bind (oV j ?_);simp only[eV,PP];refine wpAny_bind (oV l ?_);simp only[eV,PP];exact ir #[rfl,rfl,m]
 .rintro⟨q,t⟩ g ⟨i,rfl,_⟩
  simp only at i;subst i;exact ir h
def zX(f:IsTupleKey (intKind prog w) s.heap j a)(h:Q true s):wpAny (model prog w) A (hashByValue 8 (.ref a)) Q E s:=by
 rfl';have l:=f.typeIs;obtain⟨o,c,n,m,_,p,q⟩:=f;ac_rfl;unfold hashByValue;refine wpAny_bind (acZ l F.slot_tuple_hash.lookup ?_);dsimp only;refine wpAny_bind (acq m p ?_);refine wpAny_bind ?_;show wpAny _ _ (forIn c _ _) _ _ s;rw[<-DX];refine adL _ (λb r d=>r.1=none/\d=s/\∀v∈b,∃i t,v=Value.int i t) _ ?_ ?_ _ _ #[rfl,rfl,q.ints]
 .rintro v b r d ⟨e,rfl,g⟩
  obtain⟨i,t,rfl⟩:=g v dB;refine wpAny_bind (adb (show hashByValue 7 (.int i t)=pure true from by unfold hashByValue;rfl) ?_)
  simp only[adp,eV,PP];exact ir #[rfl,rfl,λu x=>g u (eW _ x)]
 .rintro⟨z,B⟩ d ⟨e,rfl,_⟩
  simp only at e;subst e;exact ir h
def MT(prog:Program)(w:World)(h:Heap)(b:Array (Int×Value)):Prop:=∀(i:Nat)(e:Int×Value),b[i]?\e->∃k a,e=(tupleKeyHash (intKind prog w) k, .ref a)/\IsTupleKey (intKind prog w) h k a
noncomputable def Qj(a:Array (Int×Value))(i:Nat):Int:=(a[i]?.map (·.1)).getD 0
def NK(h:vG m):m%2=1:=by rcases h with rfl|rfl|rfl|rfl<;>rfl
def A8{a:Array Nat}(R:nv a){i j v:Nat}(b:a[i]?\v)(c:a[j]?\v):i=j:=by
 rw[<-below_at R b,<-below_at R c]
theorem qp(hu:A.units<cLine)(ho:s.heap.get? a\o)(S:mK (gy w) o q M t)(P:MT prog w s.heap q)(hk:IsTupleKey (intKind prog w) s.heap u b)
  (Rv:(∃(i:Nat)(c:Addr),q[i]?\(tupleKeyHash (intKind prog w) u, .ref c)/\IsTupleKey (intKind prog w) s.heap u c)->∀r:Option Nat,(B=false->r.isSome=true)->Q (.there r) s)
  (B3:(∀(i:Nat)(e:Int×Value),q[i]?\e->∀c,e.2= .ref c->¬IsTupleKey (intKind prog w) s.heap u c)->∀g,(∀i:Nat,t.place[i]? ≠some (bX t.mask (tupleKeyHash (intKind prog w) u) g))->(∀j,j<g->∃i:Nat,t.place[i]?\(bX t.mask (tupleKeyHash (intKind prog w) u) j))->
   Q (.free (bX t.mask (tupleKeyHash (intKind prog w) u) g) false) s):
  wpAny (model prog w) A (setSearch a (.ref b) (tupleKeyHash (intKind prog w) u) B) Q E s:=by
 generalize hh:tupleKeyHash (intKind prog w) u=h at*;have T:=S.tok;obtain⟨s0,hs0,Zx⟩:=T.empty;obtain⟨K,hK,eK⟩:=meets T.few (tS.start t.mask h) hs0;have eK:bX t.mask h K=s0:=by unfold bX;rw[mG];exact eK
 have kb:K<6000:=by
  have:10*turns t.mask<=5260:=by
   rcases T.few with e|e|e|e<;>rw[e]<;>decide
  lia
 have sz:t.place.size=q.size:=by rw[T.size];simp
 have hN:(t.mask%2==0)=false:=by rw[NK T.few];rfl
 have N:∀(n:Nat)(k:Nat)(l:Nat)(O:Option Probe),K+1-k<=n->n<l->k<=K->O.getD (t.probeStart h)=rj t.mask h k->(∀j,j<k->∃i:Nat,t.place[i]?\(bX t.mask h j))->
   (∀(i:Nat) c,q[i]?\(h, .ref c)->IsTupleKey (intKind prog w) s.heap u c->∀C,t.place[i]?\(bX t.mask h C)->k<=C)->
   wpAny (model prog w) A (setSearchFrom a (.ref b) h B l O) Q E s:=by
  intro n
  induction n with
  |zero=>intro k l O h1 h2 h3;lia
  |succ n ih=>
   intro k l O h1 h2 h3 h4 h5 h6;obtain⟨f,rfl⟩:∃f,l=f+1:=#[l-1,()]
   unfold setSearchFrom;refine wpAny_bind (abR ho S.dat S.fits ?_);dsimp only;unfold SetTable.gaveWay;rw[hN];simp only[eV,PP]
   have Ze:∀(i:Nat)(e:Int×Value),q[i]?\e->Qj q i=e.1:=λi e d=>by
    show(q[i]?.map (·.1)).getD 0=e.1;rw[d];rfl
   generalize I:t.probe _ h (O.getD (t.probeStart h))=r;have I:t.probe (Qj q) h (rj t.mask h k)=r:=by rw[<-h4];exact I
   generalize Qj q=hA at Ze I;obtain⟨g,vK,hp,alt⟩:=TOk.probe T hA h k
   have k0K:g<=K:=by
    apply FS;intro c;obtain⟨i,d,_⟩:=hp K h3 ()
    rw[eK] at d;exact Zx i d
   have Sm:∀j,j<g->∃i:Nat,t.place[i]?\(bX t.mask h j):=λj h'=>by
    by_cases c:j<k
    .exact h5 j c
    .obtain⟨i,d,_⟩:=hp j () h'
     exact#[i,d]
   have F:∀(i:Nat) c,q[i]?\(h, .ref c)->IsTupleKey (intKind prog w) s.heap u c->∀C,t.place[i]?\(bX t.mask h C)->g<=C:=λi c d hc C R=>by
    have hkx:=h6 i c d hc C R;apply FS;intro z;obtain⟨p,G,fb⟩:=hp C hkx ()
    have:i=p:=A8 T.rise R G
    subst this;exact fb (Ze i _ d)
   rcases alt with ⟨Oi,M⟩ | ⟨i,d,Hd,M⟩
   .rw[M] at I
    subst I;dsimp only;refine ir (B3 (λi e d c hc ZM=>?_) g Oi Sm);obtain⟨j,a',X,Y⟩:=P i e d;subst X;cases hc
    have:j=u:=Y.inj ZM
    subst this;rw[hh] at d;obtain⟨ky,Z,hy2⟩:=T.path i h (by rw[dJ,fO,d];rfl)
    have lt:=F i _ d ZM ky Z
    by_cases c1:g<ky
    .obtain⟨p,G⟩:=hy2 g c1
     exact Oi p G
    .have:ky=g:=()
     subst this;exact Oi i Z
   .rw[M] at I
    subst I;dsimp only
    have Xb:i<q.size:=by
     have:=(yV.mp d).1
     lia
    obtain⟨j,c,X,Y⟩:=P i q[i] (qq Xb);have L:q[i]?\(tupleKeyHash (intKind prog w) j, .ref c):=by rw[qq Xb,X]
    have H:wpAny (model prog w) A (match q[i]? with
      |some (fst,y)=>do
       let m <-holding [y] (eqBool y (Value.ref b))
       let J <-setState a
       if (B&&m)=true then pure (SetFound.there none)
        else
         match J.2.snd.sameMemory t.moves t.mask with
         |some same=>
          match if same=true then J.2.snd.slot (bX t.mask h g) else Slot.empty with
          |Slot.live p=>
           match J.fst[p]? with
           |some (fst,y')=>do
            let v <-isSame y' y
            let yC <-pure (if v=true then some p else none)
            match yC with
             |none=>do
              rule "set.search.anew"
              setSearchFrom a (Value.ref b) h B f none
             |some p=>
              if m=true then pure (SetFound.there (some p))
              else setSearchFrom a (Value.ref b) h B f (some (rj t.mask h (g+1)))
           |none=>do
            let yC <-pure none
            match yC with
             |none=>do
              rule "set.search.anew"
              setSearchFrom a (Value.ref b) h B f none
             |some p=>
              if m=true then pure (SetFound.there (some p))
              else setSearchFrom a (Value.ref b) h B f (some (rj t.mask h (g+1)))
          |x=>do
           let yC <-pure none
           match yC with
            |none=>do
             rule "set.search.anew"
             setSearchFrom a (Value.ref b) h B f none
            |some p=>
             if m=true then pure (SetFound.there (some p))
             else setSearchFrom a (Value.ref b) h B f (some (rj t.mask h (g+1)))
         |x=>unsupported "set.changed-during-lookup:is-the-new-block-at-the-old-address"
      |x=>unsupported "internal:set-entry") Q E s:=by
     rw[L];dsimp only;refine wpAny_bind (KB (wpAny_eqBool_tuple hu Y hk ?_));refine wpAny_bind (abR ho S.dat S.fits ?_);dsimp only;have sm:t.sameMemory t.moves t.mask\true:=by unfold SetTable.sameMemory;simp
     have fb:j≠u->wpAny (model prog w) A (setSearchFrom a (Value.ref b) h B f (some (rj t.mask h (g+1)))) Q E s:=λne=>by
      by_cases kk:g=K
      .subst kk
       rw[eK] at d;exact absurd d (Zx i)
      refine ih (g+1) f _ () () () rfl (λRM h''=>?_) λp c' G m6 C R=>?_
      .by_cases z:RM=g
       .subst z;exact#[i,d]
       .exact Sm RM ()
      .have l1:=F p c' G m6 C R
       have:C≠g:=λz=>by
        subst z
        have:p=i:=A8 T.rise R d
        subst this;rw[L] at G;cases G;exact ne (Y.inj m6)
       lia
     have there:j=u->∀r:Option Nat,(B=false->r.isSome=true)->Q (.there r) s:=λe=>by
      subst e;rw[hh] at L;exact Rv #[i,c,L,Y]
     by_cases e:j=u
     .rw[IR e,Bool.and_true]
      cases B with
      |true=>exact ir (there e none λz=>absurd z ∅)
      |false=>
       simp only[eV,PP];rw[sm];dsimp only;rw[mo rfl,rh T.rise d];dsimp only;rw[L];dsimp only;refine wpAny_bind (wpAny_isSame_ref_self ?_);refine wpAny_bind (ir ?_);simp only[abN];exact ir (there e (some i) λ_=>rfl)
     .rw[GT e,ac6]
      simp only[eV,PP];rw[sm];dsimp only;rw[mo rfl,rh T.rise d];dsimp only;rw[L];dsimp only;refine wpAny_bind (wpAny_isSame_ref_self ?_);refine wpAny_bind (ir ?_);simp only[abN];exact fb e
    by_cases led:(!t.led)=true
    .rw[mo led]
     refine wpAny_bind (FX hk _ (λy hy=>?_) ?_)
     .obtain⟨e,he,rfl⟩:=c7.mp hy
      have he:=(Array.mem_filter.mp (Array.mem_toList_iff.mp he)).1;obtain⟨p,G,rfl⟩:=Array.mem_iff_getElem.mp he;obtain⟨RM,c',X,ZL⟩:=P p q[p] (qq G);exact#[RM,c',by rw[X],ZL]
     .simp only[eV,PP]
      exact H
    .rw[tz led]
     exact H
 refine N (K+1) 0 100000 none (bq _) () (dA _) rfl (λj h'=>by lia) λi c d hc C _=>dA _
end
section
variable {prog:Program} {w:World} {A:Around} {E:Value->Shared->Prop} {s:Shared}
def uW(b:Addr)(a:Array (Int×Value)):byScan (.ref b) a=false:=rfl
def zW(k:A.units<cLine)(g:s.heap.get? a\o)(S:mK (gy w) o f j t)(P:MT prog w s.heap f)(l:IsTupleKey (intKind prog w) s.heap d b)
  (m:(∃(i:Nat)(c:Addr),f[i]?\(tupleKeyHash (intKind prog w) d, .ref c)/\IsTupleKey (intKind prog w) s.heap d c)->∀r:Option Nat,r.isSome=true->Q r s)
  (n:(∀(i:Nat)(e:Int×Value),f[i]?\e->∀c,e.2= .ref c->¬IsTupleKey (intKind prog w) s.heap d c)->Q none s):
  wpAny (model prog w) A (setFind a (.ref b) (tupleKeyHash (intKind prog w) d)) Q E s:=by
 unfold setFind setFindIn;refine wpAny_bind (abR g S.dat S.fits ?_);dsimp only;rw[uW];simp only[eV,PP];refine wpAny_bind (qp k g S P l (λh r p=>?_) λh q _ _=>?_)
 .exact ir (m h r (p rfl))
 .exact ir (n h)
def Du(hu:A.units<cLine)(n:s.heap.get? a\o)(S:mK (gy w) o d ep t)(P:MT prog w s.heap d)(M:IsTupleKey (intKind prog w) s.heap g b)(room:d.size<=305)
  (hy:(∃(i:Nat)(c:Addr),d[i]?\(tupleKeyHash (intKind prog w) g, .ref c)/\IsTupleKey (intKind prog w) s.heap g c)->Q false s)
  (N:(∀(i:Nat)(e:Int×Value),d[i]?\e->∀c,e.2= .ref c->¬IsTupleKey (intKind prog w) s.heap g c)->∀C O R w4 t',Heap.SameBut a s.heap C->C.get? a\O->mK (gy w) O R w4 t'->R.toList.Perm (d.toList++ [(tupleKeyHash (intKind prog w) g, .ref b)])->Q true {s with heap:=C}):
  wpAny (model prog w) A (setAddHashed a (.ref b) (tupleKeyHash (intKind prog w) g)) Q E s:=by
 have y:=S.dat;have X:=S.fits;have T:=S.tok;have sz:t.place.size=d.size:=by rw[T.size];simp
 unfold setAddHashed setAddHashedIn;refine KB (wpAny_bind (abR n y X ?_));dsimp only;rw[uW];simp only[eV,PP];refine wpAny_bind (qp hu n S P M (λh r hr=>?_) λh k F Sm=>?_)
 .exact ir (hy h)
 .dsimp only
  refine wpAny_bind (abR n y X ?_);dsimp only;obtain⟨p1,p2,l⟩:=TOk.put T F Sm (by rw[sz];exact KU T.few S.few)
  rw[p1]
  have e:(SetTable.insertAt d (below t.place (bX t.mask (tupleKeyHash (intKind prog w) g) k)) (tupleKeyHash (intKind prog w) g,Value.ref b)).toList.map (·.1)=(d.toList.map (·.1)).take (below t.place (bX t.mask (tupleKeyHash (intKind prog w) g) k))++tupleKeyHash (intKind prog w) g::(d.toList.map (·.1)).drop (below t.place (bX t.mask (tupleKeyHash (intKind prog w) g) k)):=by
   rw[adK];simp
  rw[<-e] at l;have pl:(t.put (bX t.mask (tupleKeyHash (intKind prog w) g) k)).1.plain=true:=S.pl;have ld:(t.put (bX t.mask (tupleKeyHash (intKind prog w) g) k)).1.led= !gy w:=S.ld;have mk:(t.put (bX t.mask (tupleKeyHash (intKind prog w) g) k)).1.mask=t.mask:=rfl;generalize hx:((tupleKeyHash (intKind prog w) g,Value.ref b):Int×Value)=x at*;generalize hp:below t.place (bX t.mask (tupleKeyHash (intKind prog w) g) k)=p at*;generalize (t.put (bX t.mask (tupleKeyHash (intKind prog w) g) k)).1=m at*;rw[mo pl];refine wpAny_bind (zX M ?_);simp only[abN,Bool.not_false,Bool.true_and];have q:(SetTable.insertAt d p x).size=d.size+1:=SetTable.hJ ..;have G:=ad1 d p x;rw[y6] at G;refine wpAny_bind (wpAny_storeSet_of n y ?_ (by rw[q];refine fits_of_scanBound ?_;show d.size+1<4096;lia))
  have z:=vo n y (SetTable.insertAt d p x) m;have u:=Heap.SameBut.update s.heap a (Obj.putSet (SetTable.insertAt d p x) m)
  have H:m.fits (SetTable.insertAt d p x).size=true:=by
   have:=TOk.fits l
   rw[aI,cO] at this;exact this
  by_cases j:m.tooFull=true
  .rw[mo j]
   refine aa λG0 k=>?_;obtain⟨B,f,Y,_,pf,Z,T2,I,l2,f2,J⟩:=Ik l j (by rw[q,mk];have:=S.few;lia) (by rw[q];lia)
   refine k ?_;rw[q] at Y f2 J;refine wpAny_bind ?_;unfold setRelay;refine wpAny_bind (abR z rfl H ?_);dsimp only;have big:512<=sizeLine:=∅
   rw[tz (),Y]
   have v:(f.filterMap ((SetTable.insertAt d p x)[·]?)).size=d.size+1:=by rw[Z,q]
   refine wpAny_bind (adb (a:=(f.filterMap ((SetTable.insertAt d p x)[·]?),B)) ?_ ?_)
   .show(if ((f.filterMap ((SetTable.insertAt d p x)[·]?)).size !=(SetTable.insertAt d p x).size)=true then _ else pure (f.filterMap ((SetTable.insertAt d p x)[·]?),B))=_
    rw[tz (by rw[Z];simp)]
   .dsimp only
    refine wpAny_storeSet_of z rfl ?_ (by rw[v];refine fits_of_scanBound ?_;show d.size+1<4096;lia)
    have ER:=vo z rfl (f.filterMap ((SetTable.insertAt d p x)[·]?)) B;exact ir (N h _ _ _ _ B (u.trans (Heap.SameBut.update _ a _)) ER #[S.ex,rfl,T2,by rw[I];exact pl,by rw[l2];exact ld,by rw[v];exact f2] (pf.trans G))
  .rw[tz j]
   refine ir (N h _ _ _ _ m u z #[S.ex,rfl,l,pl,ld,?_] G);have L:m.tooFull=false:=by simpa using j
   unfold SetTable.tooFull SetTable.fill at L;rw[l.dum,l.size] at L;simp at L;lia
variable {a b:Addr} {o:Obj} {es:Array (Int×Value)} {ep:Nat} {t:SetTable} {ks:List Int}
open Classical in
noncomputable def nU(prog:Program)(w:World)(h:Heap)(es:Array (Int×Value))(ks:List Int):Bool:=decide (∃(i:Nat)(c:Addr),es[i]?\(tupleKeyHash (intKind prog w) ks, .ref c)/\IsTupleKey (intKind prog w) h ks c)
def Oc(h:∀(i:Nat)(e:Int×Value),es[i]?\e->∀c,e.2= .ref c->¬IsTupleKey (intKind prog w) s.heap ks c):nU prog w s.heap es ks=false:=by
 classical
 unfold nU;exact GT λ#[i,c,d,f]=>h i _ d c rfl f
def Ld(h:∃(i:Nat)(c:Addr),es[i]?\(tupleKeyHash (intKind prog w) ks, .ref c)/\IsTupleKey (intKind prog w) s.heap ks c):nU prog w s.heap es ks=true:=by
 classical
 unfold nU;exact IR h
def tw(k:A.units+64<cLine)(d:s.heap.get? a\o)(S:mK (gy w) o es ep t)(P:MT prog w s.heap es)(e:IsTupleKey (intKind prog w) s.heap ks b)
  (h:∀f,Q (nU prog w s.heap es ks) {s with toks:=f}):wpAny (model prog w) A (contains (.ref a) (.ref b)) Q E s:=by
 have c:s.TypeIs (.ref a) "set":=#[o,d,S.ex.1];unfold contains
 try with_reducible refine KB ?_
 refine wpAny_bind (acZ c F.slot_set_contains.lookup ?_);show wpAny _ _ (if (some (Value.builtin "set.__contains__")==some Value.none)=true then _ else _) _ E s;rw[tz (by rw[beq_builtin_none];exact dj)]
 refine wpAny_bind (wpAny_callSpecialUnlessNone?_slot (name:=Str.ofString "__contains__") c F.slot_set_contains
  (abD F.slot_set_contains c entry_set_contains ?_ (F.args_set_contains_2 _ _)))
 unfold Builtin.«frozenset.__contains__» Builtin.Frozenset.oneOther;simp only[List.isEmpty_nil,bind_assoc];unfold Builtin.Frozenset.addrOf Builtin.Frozenset.withSetAsKey setContains;refine wpAny_bind (ir ?_)
 try dsimp only
 refine wpAny_bind (ir ?_)
 try dsimp only
 refine wpAny_bind (wpAny_tryCatch ?_);refine KB ?_;refine wpAny_bind (wpAny_pyHash_tuple ?_ e ?_)
 .show A.units+1<cLine;lia
 refine wpAny_bind (zW (s:={s with toks:=s.toks+(ks.length+1)}) ?_ d S P e (λg r i=>?_) λj=>?_)
 .show A.units+1<cLine;lia
 .refine ir ?_
  show wpAny _ _ (ret (Value.bool r.isSome)) _ _ _;rw[i]
  have:=h (s.toks+(ks.length+1))
  rw[Ld g] at this;exact ir #[_,rfl,SB this]
 .refine ir ?_
  have:=h (s.toks+(ks.length+1))
  rw[Oc j] at this;exact ir #[_,rfl,SB this]
end
end PySem
set_option maxHeartbeats 4000000
namespace L2
open PySem PySem.Spec PyProof.Rows
inductive FV where
 |int (i:Int) |bl (b:Bool)
inductive XD where
 |sF (b:Bool) (ps:List (Int×Int)) |eG (ks:List (Int×Int)) (vs:List FV)
inductive D where
 |aL|bl (b:Bool) |int (i:Int) |str (x:Str) |lst (l:List D) |tup (l:List D) |oP (ns:List Int) |rng (lo hi:Int) |obj (a:Addr) |ik (w:List (List Nat)) |set (b:Bool) (l:List Int) |x (k:XD) |err (C:Addr) (ks:List Str) (l:List D)
structure DC where
 K:ad
 C:Addr
def aA(n:Nat):D:= .int n
noncomputable def aF(r:List Nat):D:= .lst (r.map aA)
noncomputable def bH(w:List (List Nat)):D:= .lst (w.map aF)
def Yh(a:Array (Int×Value))(b:List Int):Prop:=(∀e∈a.toList,∃k t,e=(hashInt k,Value.int k t))/\b.Nodup/\∃c,IntsAre (a.toList.map (·.2)) c/\c.Perm b
def TZ(b:Bool)(a:Addr)(d:List Int)(h:Heap):Prop:=∃o c e t,h.get? a\o/\mK b o c e t/\Yh c d
noncomputable def bI(p:Int×Int):Int:=reduceHash (Builtin.Tuple.tupleHashOf [hashInt p.1,hashInt p.2])
inductive f6 (H:Hp):List (Int×Addr)->List (Int×Int)->Prop
 |nil:f6 H [] []
 |cons {a:Addr} {p:Int×Int} {es:List (Int×Addr)} {ps:List (Int×Int)}:H a\(.tup [.int p.1, .int p.2])->f6 H es ps->f6 H ((bI p,a)::es) (p::ps)
theorem f6.mono{H a:Hp}(s:aB H a):∀{b:List (Int×Addr)}{c:List (Int×Int)},f6 H b c->f6 a b c
 |_,_, .nil=> .nil
 |_,_, .cons h t=> .cons (s _ _ h) (t.mono s)
def fH(b:Bool)(a:Addr)(d:List (Int×Addr))(h:Heap):Prop:=∃o c f t,h.get? a\o/\mK b o c f t/\c.toList.Perm (d.map λe=>(e.1,Value.ref e.2))
def Kk:FV->Value->Prop
 | .int i,v=>∃t,v= .int i t
 | .bl b,v=>v= .bool b
inductive Kh:List DictEntry->List (Int×Addr)->List FV->Prop
 |nil:Kh [] [] []
 |cons {e:DictEntry} {l:List DictEntry} {h:Int} {a:Addr} {v:FV} {es:List (Int×Addr)} {vs:List FV}:e.hash=h->e.key= .ref a->Kk v e.val->Kh l es vs->Kh (e::l) ((h,a)::es) (v::vs)
def bY(a:Addr)(c:List (Int×Addr))(d:List FV)(h:Heap):Prop:=(a==sysModules)=false/\∃o b e,h.get? a\o/\o.ExactDict/\o.data= .dict b e/\Kh b.toList c d
def Kq(H:Hp)(a:Addr)(d:Heap->Prop):XD->Prop
 | .sF b e=>e.Nodup/\∃c,d=fH b a c/\f6 H c e
 | .eG ks f=>ks.Nodup/\∃c,d=bY a c f/\f6 H c ks
theorem Kq.mono{H c:Hp}(s:aB H c):∀{k:XD},Kq H a d k->Kq c a d k
 | .sF _ _,#[n,b,e,p]=>#[n,b,e,p.mono s]
 | .eG _ _,#[n,b,e,p]=>#[n,b,e,p.mono s]
def Gb(H:Hp)(d:Option Addr)(a:List Str)(b:List V):Prop:=(d=none/\a= []/\b= [])\/∃c,d\c/\H c\(zk c (a.zip b))/\a.length=b.length
def Gb.mono{H d:Hp}(s:aB H d)(h:Gb H e f g):Gb d e f g:=h.imp id λ#[i,a,b,c]=>#[i,a,s _ _ b,c]
mutual
inductive Dv (Z:DC) (H:Hp):V->D->Prop
 |aL:Dv Z H .aL .aL
 |bl (b:Bool):Dv Z H (.bl b) (.bl b)
 |int (i:Int):Dv Z H (.int i) (.int i)
 |str (x:Str) (h:PyData.strOk x=true):Dv Z H (.str x) (.str x)
 |lst {a:Addr} {xs:List V} {ds:List D}:H a\(.lst xs)->DvAll Z H xs ds->Dv Z H (.ref a) (.lst ds)
 |tup {a:Addr} {xs:List V} {ds:List D}:H a\(.tup xs)->DvAll Z H xs ds->Dv Z H (.ref a) (.tup ds)
 |obj (a:Addr):Dv Z H (.ref a) (.obj a)
 |rng {a:Addr} {lo hi:Int}:H a\(.rng lo hi)->Dv Z H (.ref a) (.rng lo hi)
 |oP {a:Addr} {ns:List Int}:aG Z.K H a (ns.map V.int)->ns.length<=63->Dv Z H (.ref a) (.oP ns)
 |ik {p dx R:Addr} {w:List (List Nat)}:H p\(.ins Z.C dx [("rows", .ref R)])->Dv Z H (.ref R) (bH w)->Wb.Good w->1<=w.length->w.length<=14->Dv Z H (.ref p) (.ik w)
 |set {a:Addr} {b:Bool} {ns:List Int}:H a\(.ext (TZ b a ns))->Dv Z H (.ref a) (.set b ns)
 |x {a:Addr} {φ:Heap->Prop} {k:XD}:H a\(.ext φ)->Kq H a φ k->Dv Z H (.ref a) (.x k)
 |err {a C:Addr} {od:Option Addr} {ks:List Str} {xs:List V} {ds:List D}:H a\(lV C a od)->Gb H od ks xs->DvAll Z H xs ds->Dv Z H (.ref a) (.err C ks ds)
inductive DvAll (Z:DC) (H:Hp):List V->List D->Prop
 |nil:DvAll Z H [] []
 |cons {v:V} {vs:List V} {d:D} {ds:List D}:Dv Z H v d->DvAll Z H vs ds->DvAll Z H (v::vs) (d::ds)
end
def aG.mono{K:ad}{H b:Hp}(s:aB H b)(h:aG K H a xs):aG K b a xs:=by
 rcases h with (h| ⟨o,h⟩) |h
 .exact .inl (.inl (s _ _ h))
 .exact .inl (.inr #[o,s _ _ h])
 .exact .inr h
section
variable {Z:DC} {H H' G G':Hp}
def Dv.ofInt(h:Dv Z H v (.int i)):v= .int i:=by cases h;rfl
def Dv.xW(h:Dv Z H v (.bl b)):v= .bl b:=by cases h;rfl
def Dv.kU(h:Dv Z H v (.lst b)):∃a xs,v= .ref a/\H a\(.lst xs)/\DvAll Z H xs b:=by cases h with|lst h e=>exact#[_,_,rfl,h,e]
def Dv.uB{v:V}{ds:List D}(h:Dv Z H v (.tup ds)):∃a xs,v= .ref a/\H a\(.tup xs)/\DvAll Z H xs ds:=by cases h with|tup h e=>exact#[_,_,rfl,h,e]
def Dv.xX{v:V}{ns:List Int}(h:Dv Z H v (.oP ns)):∃a,v= .ref a/\aG Z.K H a (ns.map V.int)/\ns.length<=63:=by cases h with|oP h z=>exact#[_,rfl,h,z]
def DvAll.Xp(h:DvAll Z H a []):a= []:=by cases h;rfl
def DvAll.CL(h:DvAll Z H c (d::e)):∃v f,c=v::f/\Dv Z H v d/\DvAll Z H f e:=by cases h with|cons a b=>exact#[_,_,rfl,a,b]
def DvAll.ofOne(h:DvAll Z H c [d]):∃v,c= [v]/\Dv Z H v d:=by
 obtain⟨v,e,rfl,a,b⟩:=h.CL;rw[b.Xp];exact#[v,rfl,a]
def DvAll.qX(h:DvAll Z H f [d,e]):∃v u,f= [v,u]/\Dv Z H v d/\Dv Z H u e:=by
 obtain⟨v,g,rfl,a,b⟩:=h.CL;obtain⟨u,rfl,c⟩:=b.ofOne;exact#[v,u,rfl,a,c]
theorem Dv.mono(s:aB H H'){v:V}(h:Dv Z H v d):Dv Z H' v d:=
 Dv.rec (motive_1:=λv d _=>Dv Z H' v d) (motive_2:=λc e _=>DvAll Z H' c e) .aL .bl .int .str (λh _ a=> .lst (s _ _ h) a) (λh _ a=> .tup (s _ _ h) a) .obj (λh=> .rng (s _ _ h)) (λh z=> .oP (h.mono s) z) (λh _ g a b r=> .ik (s _ _ h) r g a b) (λh=> .set (s _ _ h)) (λh k=> .x (s _ _ h) (k.mono s)) (λh k _ a=> .err (s _ _ h) (k.mono s) a) .nil (λ_ _ a b=> .cons a b) h
def DvAll.ind{p:List V->List D->Prop}(n:p [] [])(c:∀{v:V}{e:List V}{d:D}{f:List D},Dv Z H v d->DvAll Z H e f->p e f->p (v::e) (d::f)){f:List D}(h:DvAll Z H e f):p e f:=
 DvAll.rec (motive_1:=λ_ _ _=>True) (motive_2:=λe f _=>p e f) trivial (λ_=>trivial) (λ_=>trivial) (λ_ _=>trivial) (λ_ _ _=>trivial) (λ_ _ _=>trivial) (λ_=>trivial) (λ_=>trivial) (λ_ _=>trivial) (λ_ _ _ _ _ _=>trivial) (λ_=>trivial) (λ_ _=>trivial) (λ_ _ _ _=>trivial) n (λa b _ q=>c a b q) h
theorem DvAll.mono(s:aB H H')(h:DvAll Z H c d):DvAll Z H' c d:=h.ind .nil λa _ b=> .cons (a.mono s) b
theorem DvAll.length{a:List V}(h:DvAll Z H a b):a.length=b.length:=h.ind (p:=λa b=>a.length=b.length) rfl λ_ _ e=>On (·+1) e
def DvAll.get{i:Nat}{d:D}(h:DvAll Z H b c)(e:c[i]?\d):∃v,b[i]?\v/\Dv Z H v d:=by
 revert i
 refine h.ind (p:=λb c=>∀{i:Nat},c[i]?\d->∃v,b[i]?\v/\Dv Z H v d) (λe=>by cases e) λa _ f i e=>?_
 cases i with
 |zero=>cases e;exact#[_,rfl,a]
 |succ i=>exact f e
def DvAll.NY{b:List V}{c:List D}{i:Nat}{v:V}(h:DvAll Z H b c)(e:b[i]?\v):∃d,c[i]?\d/\Dv Z H v d:=by
 revert i
 refine h.ind (p:=λb c=>∀{i:Nat},b[i]?\v->∃d,c[i]?\d/\Dv Z H v d) (λe=>by cases e) λa _ f i e=>?_
 cases i with
 |zero=>cases e;exact#[_,rfl,a]
 |succ i=>exact f e
def DvAll.append(h:DvAll Z H c d)(k:DvAll Z H e f):DvAll Z H (c++e) (d++f):=h.ind (p:=λc d=>DvAll Z H (c++e) (d++f)) k λa _ b=> .cons a b
theorem DvAll.take:∀{b:List V}{c:List D}(n:Nat),DvAll Z H b c->DvAll Z H (b.take n) (c.take n)
 |_,_,0,_=>DvAll.nil
 |_,_,n+1, .nil=>DvAll.nil
 |_,_,n+1, .cons a d=>DvAll.cons a (d.take n)
theorem DvAll.drop:∀{b:List V}{c:List D}(n:Nat),DvAll Z H b c->DvAll Z H (b.drop n) (c.drop n)
 |_,_,0,h=>h
 |_,_,n+1, .nil=>by simpa using DvAll.nil
 |_,_,n+1, .cons a d=>by simpa using d.drop n
theorem DvAll.set{v:V}(h:Dv Z H v d):∀{c:List V}{e:List D}(n:Nat),DvAll Z H c e->DvAll Z H (c.set n v) (e.set n d)
 |_,_,_, .nil=> .nil
 |_,_,0, .cons a b=> .cons h b
 |_,_,n+1, .cons a b=> .cons a (DvAll.set h n b)
theorem DvAll.rev:∀{b:List V}{c:List D},DvAll Z H b c->DvAll Z H b.reverse c.reverse
 |_,_, .nil=> .nil
 |_,_, .cons a d=>by
  rw[acs,acs];exact d.rev.append (.cons a .nil)
theorem DvAll.ints:∀(a:List Int),DvAll Z H (a.map V.int) (a.map D.int)
 | []=> .nil
 |n::a=> .cons (.int n) (DvAll.ints a)
def DvAll.snoc{e:List D}(a:DvAll Z H c e)(b:Dv Z H v d):DvAll Z H (c++ [v]) (e++ [d]):=a.append (.cons b .nil)
structure Ext (G H G' H':Hp):Prop where
 gg:aB G G'
 sub:aB G' H'
 hh:aB H H'
 off:∀b,H b≠none->G b=none->G' b=none
theorem Ext.refl(s:aB G H):Ext G H G H:=#[.refl _,s, .refl _,λ_ _ h=>h]
theorem Ext.trans{c d f i:Hp}(a:Ext G H c d)(b:Ext c d f i):Ext G H f i:=
 #[a.gg.trans b.gg,b.sub,a.hh.trans b.hh,λx h g=>b.off x (λz=>by
  cases e:H x with
  |none=>exact h e
  |some o=>rw[a.hh x o e] at z;cases z) (a.off x h g)]
def Ext.new{o:HO}(s:aB G H)(h:H p=none):Ext G H (upd G p o) (upd H p o):=by
 have a:G p=none:=s.free h;refine#[ay a o,λb u e=>?_,ay h o,λb c a=>?_]
 .by_cases z:b=p
  .subst z;rw[af] at e ⊢;exact e
  .rw[ag z] at e ⊢;exact s b u e
 .have:b≠p:=λz=>c (by rw[z];exact h)
  rw[ag this];exact a
end
abbrev DN:=List (Option D)
structure dD (Z:DC) (G:Hp) (σ:St) (ρ:DN):Prop where
 len:ρ.length=σ.length
 at_:∀(i:Nat)(d:D),ρ[i]?\(some d)->∃v,σ[i]?\(some v)/\Dv Z G v d
section
variable {Z:DC} {G G' H H':Hp} {σ:St} {ρ:DN}
theorem dD.mono(e:dD Z G σ ρ)(s:aB G G'):dD Z G' σ ρ:=#[e.len,λi d h=>let #[v,a,b]:=e.at_ i d h;#[v,a,b.mono s]]
theorem dD.set{v:V}(e:dD Z G σ ρ)(h:Dv Z G v d):dD Z G (σ.set i (some v)) (ρ.set i (some d)):=by
 refine#[by rw[gP,gP];exact e.len,λj c a=>?_]
 by_cases z:i=j
 .subst z
  by_cases b:i<ρ.length
  .rw[kO b] at a
   cases Da a;exact#[v,by rw[kO (e.len▸b)],h]
  .rw[Bn (jd b)] at a
   rw[il (jd b)] at a;cases a
 .rw[jb z] at a ⊢
  exact e.at_ j c a
end
abbrev aQ:=DN->(D->Prop)->Prop
abbrev c9:=DN->(Bool->Prop)->Prop
abbrev gS:=DN->(List D->Prop)->Prop
abbrev iu:=D->D->(D->Prop)->Prop
abbrev dZ:=D->DN->(DN->Prop)->Prop
abbrev iU:=DN->(List D->Prop)->Prop
def dF(Z:DC)(t:aQ):TE:=λe H Q=>∃(G:Hp)(a:DN)(P:D->Prop),aB G H/\dD Z G e a/\t a P/\∀d,P d->∀v b c,Ext G H b c->Dv Z b v d->Q v c
def liftT(Z:DC)(t:c9):TT:=λd H Q=>∃(G:Hp)(a:DN)(P:Bool->Prop),aB G H/\dD Z G d a/\t a P/\∀b,P b->∀e c,Ext G H e c->Q b c
def Cu(Z:DC)(t:gS):TA:=λf H Q=>∃(G:Hp)(a:DN)(P:List D->Prop),aB G H/\dD Z G f a/\t a P/\∀b,P b->∀c d e,Ext G H d e->DvAll Z d c b->Q c e
def cc(Z:DC)(r:iu):R2:=λx y H Q=>∃(G:Hp)(a b:D)(P:D->Prop),aB G H/\Dv Z G x a/\Dv Z G y b/\r a b P/\∀d,P d->∀v c e,Ext G H c e->Dv Z c v d->Q v e
def j3(Z:DC)(r:List D->(D->Prop)->Prop):List V->Hp->VK->Prop:=λe H Q=>∃(G:Hp)(a:List D)(P:D->Prop),aB G H/\DvAll Z G e a/\r a P/\∀d,P d->∀v b c,Ext G H b c->Dv Z b v d->Q v c
abbrev c8:=List D->(D->Prop)->Prop
def aY(Z:DC)(a:c8):Sp:=λb H Q _=>j3 Z a b H Q
def DE(Z:DC)(X:Cx)(e:Expr)(t:aQ):Prop:=PE X e (dF Z t)
def DT(Z:DC)(X:Cx)(e:Expr)(t:c9):Prop:=PT X e (liftT Z t)
def DA(Z:DC)(X:Cx)(a:List Expr)(t:gS):Prop:=PA X a (Cu Z t)
def PE.imp{X:Cx}{t t':TE}(h:PE X e t)(f:∀b H Q,t' b H Q->t b H Q):PE X e t':=λa s b H Q I q=>h a s b H Q I (f _ _ _ q)
def PT.imp{X:Cx}{t t':TT}(h:PT X e t)(f:∀b H Q,t' b H Q->t b H Q):PT X e t':=λa s b H Q I q=>h a s b H Q I (f _ _ _ q)
def PW.imp{X:Cx}{t t':TT}(h:PW X e t)(f:∀b H Q,t' b H Q->t b H Q):PW X e t':=λc a s b H Q I q=>h c a s b H Q I (f _ _ _ q)
def PA.imp{X:Cx}{d:List Expr}{t t':TA}(h:PA X d t)(f:∀b H Q,t' b H Q->t b H Q):PA X d t':=λc a s b H Q I q=>h c a s b H Q I (f _ _ _ q)
def OpR.imp{X:Cx}{f:Value->Value->Sem Value}{r d:R2}(h:OpR X f r)(g:∀x y H Q,d x y H Q->r x y H Q):OpR X f d:=λc s e H x y v u Q I a b q=>h c s e H x y v u Q I a b (g _ _ _ _ q)
def CallR.imp{X:Cx}{f:Value}{r d:List V->Hp->VK->Prop}(h:CallR X f r)(g:∀c H Q,d c H Q->r c H Q):CallR X f d:=λb s e H c i Q I a q=>h b s e H c i Q I a (g _ _ _ q)
def wU(i:Nat):aQ:=λa P=>∃d,a[i]?\(some d)/\P d
def dC(d:D):aQ:=λ_ P=>P d
section
variable {Z:DC} {X:Cx}
def U(i:Nat)(f:X.N[i]?\x:=by rfl)(b:nz X.env.scope x:=by subst_eqs)(c:(x==("__debug__":Str))=false:=by decide)
  (g:(x==("__classdict__":Str))=false:=by decide):DE Z X (.Name x a) (wU i):=by
 refine(CW f b c g).imp λk H Q h=>?_;rfl';obtain⟨G,m,P,s,e,⟨d,c,p⟩,q⟩:=h;ac_rfl;exact let #[v,b,dv]:=e.at_ i d c;#[v,b,q d p v G H (.refl s) dv]
def bh{i j pos}:DE Z X (.Constant (.int i) j pos) (dC (.int i)):=by
 refine aS.imp λc H Q a=>?_;rfl';obtain⟨G,f,P,s,e,p,q⟩:=a;ac_rfl;exact q _ p _ G H (.refl s) (.int i)
def lY{b j pos}:DE Z X (.Constant (.bool b) j pos) (dC (.bl b)):=by
 refine Xz.imp λd H Q a=>?_;rfl';obtain⟨G,g,P,s,e,p,q⟩:=a;ac_rfl;exact q _ p _ G H (.refl s) (.bl b)
def gW{j pos}:DE Z X (.Constant .none j pos) (dC .aL):=by
 refine SE.imp λc H Q a=>?_;rfl';obtain⟨G,f,P,s,e,p,q⟩:=a;ac_rfl;exact q _ p _ G H (.refl s) .aL
def rH{x j pos}(h:PyData.strOk x=true:=by decide+kernel):DE Z X (.Constant (.str x) j pos) (dC (.str x)):=by
 refine JQ.imp λc H Q a=>?_;rfl';obtain⟨G,f,P,s,e,p,q⟩:=a;ac_rfl;exact q _ p _ G H (.refl s) (.str x h)
def KI(d:Gl X x)(b:∃c,X.mg x\(.int i c))(f:(x==("__debug__":Str))=false:=by decide):DE Z X (.Name x a) (dC (.int i)):=by
 obtain⟨c,b⟩:=b;exact(Fj d b (v:= .int i) #[c,rfl] f).imp λg H Q #[G,h,P,s,e,p,q]=>q _ p _ G H (.refl s) (.int i)
def KD(r:iu)(d e:aQ):aQ:=λc P=>d c λa=>e c λb=>r a b P
variable {a b c:Expr} {ta tb tc:aQ} {pos:Pos}
def xN:∀f H Q,dF Z (KD r ta tb) f H Q->Dl (cc Z r) (dF Z ta) (dF Z tb) f H Q:=by
 intro f H Q k;rfl';obtain⟨G,j,P,s,e,h,q⟩:=k;ac_rfl;refine#[G,j,_,s,e,h,λa m v n E g dv=>?_];refine#[n,j,_,g.sub,e.mono g.gg,m,λb o u p F i t=>?_];exact#[p,a,b,P,i.sub,dv.mono i.gg,t,o,λd w x y z A B=>q d w x y z ((g.trans i).trans A) B]
def kR(e:OpR X (binaryOp d) (cc Z r))(f:DE Z X a ta)(g:DE Z X b tb):DE Z X (.BinOp a d b pos) (KD r ta tb):=(cM e f g).imp xN
def v7(e:OpR X (compareOp d) (cc Z r))(f:DE Z X a ta)(g:DE Z X b tb)(h:behindInMarks d b=false):DE Z X (.Compare a [d] [b] pos) (KD r ta tb):=(Fi e f g h).imp xN
def Gx(t:aQ):c9:=λe P=>t e λd=>∃k,d= .bl k/\P k
def AX:∀d H Q,liftT Z (Gx t) d H Q->IH (dF Z t) d H Q:=by
 intro d H Q f;rfl';obtain⟨G,i,P,s,e,h,q⟩:=f;ac_rfl;exists G,i,_,s,e,h;rintro _ ⟨k,rfl,p⟩ v j l m dv;cases dv.xW;exact#[k,rfl,q k p j l m]
def bU(f:OpR X (compareOp d) (cc Z r))(g:DE Z X a ta)(i:DE Z X b tb)(j:behindInMarks d b=false):DT Z X (.Compare a [d] [b] pos) (Gx (KD r ta tb)):=
 (hZ f g i j).imp λe H Q h=>by
  obtain h:=AX e H Q h;exact xN e H _ h
def BH(r e:iu)(f g h:aQ):aQ:=λd P=>f d λx=>g d λy=>r x y λz=>∃k,z= .bl k/\(if k=true then h d λi=>e y i P else P (.bl false))
def xO:∀f H Q,dF Z (BH r o ta tb tc) f H Q->Dj (cc Z r) (cc Z o) (dF Z ta) (dF Z tb) (dF Z tc) f H Q:=by
 intro f H Q y;rfl';obtain⟨G,g,P,s,e,h,q⟩:=y;ac_rfl;refine#[G,g,_,s,e,h,λa A v B X i dv=>?_];refine#[B,g,_,i.sub,e.mono i.gg,A,λb C u E H2 j p=>?_];exists E,a,b,_,j.sub,dv.mono j.gg,p,C;rintro _ ⟨k,rfl,t⟩ v' w F l I;cases I.xW;exists k,rfl;have x:=(i.trans j).trans l;cases k with
 |false=>exact dS (q _ t _ w F x (.bl false))
 |true=>
  refine dU #[w,g,_,l.sub,e.mono x.gg,t,λc J w' L H4 m M=>?_];exact#[L,b,c,P,m.sub,(p.mono l.gg).mono m.gg,M,J,λd N n O R S T=>q d N n O R ((x.trans m).trans S) T]
def KH(g:OpR X (compareOp d) (cc Z r))(h:OpR X (compareOp e) (cc Z f))(i:DE Z X a ta)(j:DE Z X b tb)(k:DE Z X c tc)
  (l:lastMarks [d,e] [b,c]=false:=by with_unfolding_all rfl):DE Z X (.Compare a [d,e] [b,c] pos) (BH r f ta tb tc):=(LX g h i j k l).imp xO
def KQ(i:OpR X (compareOp d) (cc Z r))(j:OpR X (compareOp e) (cc Z f))(k:DE Z X a ta)(l:DE Z X b tb)(m:DE Z X c tc)
  (n:lastMarks [d,e] [b,c]=false:=by with_unfolding_all rfl):DT Z X (.Compare a [d,e] [b,c] pos) (Gx (BH r f ta tb tc)):=
 (Md i j k l m n).imp λg H Q h=>by
  obtain h:=AX g H Q h;exact xO g H _ h
noncomputable def Bj:D->Bool
 | .aL=>false
 | .bl b=>b
 | .int i=>i !=0
 | .str x=>x.length !=0
 | .lst l=>!l.isEmpty
 | .tup l=>!l.isEmpty
 | .oP l=>!l.isEmpty
 | .rng lo d=>decide (lo<d)
 | .obj _=>true
 | .ik _=>true
 | .set _ l=>!l.isEmpty
 | .x _=>true
 | .err _ _ _=>true
noncomputable def aac:D->Bool
 | .bl _=>true
 | .int _=>true
 | .lst _=>true
 | .tup _=>true
 | .aL=>true
 |_=>false
def YS(t:aQ):c9:=λe P=>t e λd=>aac d=true/\P (Bj d)
def u9(h:DvAll Z G d e):d.isEmpty=e.isEmpty:=by cases h<;>rfl
def pA(ha:DE Z X a ta)(he:∀whole,isTrue a X.env whole=(do let v <-whole;standAt a.pos;holding [v] (truthy v)):=by intro _;rfl):DT Z X a (YS ta):=by
 refine(Me ha he).imp ?_;intro σ H Q aJ;rfl';obtain⟨G,ρ,P,s,e,h,q⟩:=aJ;ac_rfl;exists G,ρ,_,s,e,h;rintro d ⟨hd,p⟩ v G1 H1 x1 dv;refine#[Bj d,?_,q _ p G1 H1 x1];cases dv with
 |aL=>rfl
 |bl b=>rfl
 |int i=>rfl
 |lst h a=>exact .inl #[_,aG.of (x1.sub _ _ h),by rw[u9 a];rfl]
 |tup h a=>exact .inr (.inl #[_,fe.of (x1.sub _ _ h),by rw[u9 a];rfl])
 |_=>cases hd
def dOr(t u:c9):c9:=λd P=>t d λc=>if c=true then P true else u d P
def YM(t:c9):c9:=λd P=>t d λc=>P (!c)
variable {tA IF:c9} {rest:List Expr}
def DW(Z:DC)(X:Cx)(e:Expr)(t:c9):Prop:=PW X e (liftT Z t)
def DW.dt(h:DW Z X e t):DT Z X e t:=PW.pt h
def Rc(d:DT Z X a tA):DW Z X (.BoolOp .Or [a] pos) tA:=JU d
def Ny(k:DT Z X a tA)(f:DW Z X (.BoolOp .Or (b::rest) pos) IF):DW Z X (.BoolOp .Or (a::b::rest) pos) (dOr tA IF):=by
 refine(PK k f).imp ?_;intro t H Q l;rfl';obtain⟨G,g,P,s,e,h,q⟩:=l;ac_rfl;refine#[G,g,_,s,e,h,λc i j n d=>?_];cases c with
 |false=>exact dS #[j,g,P,d.sub,e.mono d.gg,i,λb f o p r=>q b f o p (d.trans r)]
 |true=>exact dU (q _ i j n d)
def rL(d:DT Z X a tA):DT Z X (.UnaryOp .Not a pos) (YM tA):=by
 refine(JR d).imp ?_;rintro l H Q ⟨G,f,P,s,e,h,q⟩;exact#[G,f,_,s,e,h,λc g i j k=>q _ g i j k]
def Vi(e f:aQ):aQ:=λd P=>e d λx=>∃c,x= .bl c/\if c=true then f d P else P (.bl false)
def Vt(d:aQ):aQ:=λe P=>d e λx=>∃c,x= .bl c/\P (.bl (!c))
def Jt{op}(h:DE Z X a ta):DE Z X (.BoolOp op [a] pos) ta:=SH h
def BK(k:DE Z X a ta)(f:DE Z X (.BoolOp .And (b::rest) pos) tb):DE Z X (.BoolOp .And (a::b::rest) pos) (Vi ta tb):=by
 refine(Sx k f).imp ?_;intro u H Q l;rfl';obtain⟨G,g,P,s,e,h,q⟩:=l;ac_rfl;exists G,g,_,s,e,h;rintro _ ⟨c,rfl,i⟩ v j n d dv;cases dv.xW;exists c,rfl;cases c with
 |true=>exact dU #[j,g,P,d.sub,e.mono d.gg,i,λb f v o p r t=>q b f v o p (d.trans r) t]
 |false=>exact dS (q _ i _ j n d (.bl false))
def Q2(d:DE Z X a ta):DE Z X (.UnaryOp .Not a pos) (Vt ta):=by
 refine(SG d).imp ?_;intro n H Q f;rfl';obtain⟨G,i,P,s,e,h,q⟩:=f;ac_rfl;exists G,i,_,s,e,h;rintro _ ⟨c,rfl,j⟩ v k l m dv;cases dv.xW;exact#[c,rfl,q _ j _ k l m (.bl _)]
def dIf(t:c9)(e f:aQ):aQ:=λd P=>t d λc=>if c=true then e d P else f d P
def VA{c:Expr}(g:DT Z X c tA)(o:DE Z X a ta)(f:DE Z X b tb):DE Z X (.IfExp c a b pos) (dIf tA ta tb):=by
 refine(LY g o f).imp ?_;intro t H Q p;rfl';obtain⟨G,i,P,s,e,h,q⟩:=p;ac_rfl;refine#[G,i,_,s,e,h,λc g n w d=>?_];cases c with
 |true=>exact dU #[n,i,P,d.sub,e.mono d.gg,g,λb f v j k l m=>q b f v j k (d.trans l) m]
 |false=>exact dS #[n,i,P,d.sub,e.mono d.gg,g,λb f v j k l m=>q b f v j k (d.trans l) m]
def uY:gS:=λ_ P=>P []
def Gv(e:aQ)(t:gS):gS:=λd P=>e d λx=>t d λf=>P (x::f)
variable {es:List Expr} {t:gS} {e:Expr}
def au:DA Z X [] uY:=by
 refine az.imp λg H Q d=>?_;rfl';obtain⟨G,i,P,s,e,p,q⟩:=d;ac_rfl;exact q _ p _ G H (.refl s) .nil
def ae(d:DE Z X e ta)(j:DA Z X es t)(k:starEach (e::es) X.env=(false,eval e X.env)::starEach es X.env:=by rfl):DA Z X (e::es) (Gv ta t):=by
 refine(ah d j k).imp ?_;intro w H Q l;rfl';obtain⟨G,g,P,s,e,h,q⟩:=l;ac_rfl;refine#[G,g,_,s,e,h,λa d v n y f dv=>?_];exact#[n,g,_,f.sub,e.mono f.gg,d,λz o A p r i u=>q _ o _ p r (f.trans i) (.cons (dv.mono i.gg) u)]
def YU(t:gS):aQ:=λf P=>t f λd=>d.length<=sizeLine/\P (.tup d)
def YJ(t:gS):aQ:=λf P=>t f λd=>d.length<=sizeLine/\P (.lst d)
def cF{d}(h:DA Z X es t):DE Z X (.Tuple es d pos) (YU t):=by
 refine(sD h).imp ?_;intro n H Q i;rfl';obtain⟨G,k,P,s,e,h,q⟩:=i;ac_rfl;exists G,k,_,s,e,h;rintro r ⟨l,m⟩ u v w d f;exact#[by rw[f.length];exact l,λp g=>q _ m _ _ _ (d.trans (.new d.sub g)) (.tup af (f.mono (ay (d.sub.free g) _)))]
def kH(h:DA Z X es t):DE Z X (.List es pos) (YJ t):=by
 refine(fC h).imp ?_;intro n H Q i;rfl';obtain⟨G,k,P,s,e,h,q⟩:=i;ac_rfl;exists G,k,_,s,e,h;rintro r ⟨l,m⟩ u v w d f;exact#[by rw[f.length];exact l,λp g=>q _ m _ _ _ (d.trans (.new d.sub g)) (.lst af (f.mono (ay (d.sub.free g) _)))]
def qD(r:List D->(D->Prop)->Prop)(t:gS):aQ:=λd P=>t d λf=>r f P
def uy:∀f H Q,dF Z (qD r t) f H Q->Cu Z t f H λg i=>j3 Z r g i Q:=by
 intro f H Q k;rfl';obtain⟨G,m,P,s,e,h,q⟩:=k;ac_rfl;exact#[G,m,_,s,e,h,λn o g p i j u=>#[p,n,P,j.sub,u,o,λd w v x y z dv=>q d w v x y (j.trans z) dv]]
def Nc(F:FnOk X.prog X.w X.K X.mg X.base bQ k f g i (aY Z d))(m:bJ k X.A)(n:Gl X x)(o:X.mg x\(.ref f))(r:am X.K (.ref f)=true)(u:Binds X.K g i [])
  (v:DA Z X (e::es) t) (y:(x==("__debug__":Str))=false:=by decide) (z:starEach (e::es) X.env=(false,eval e X.env)::starEach es X.env:=by rfl) (B:(backTo pos (starEach es X.env)).any (·.1)=false:=by rfl):
  DE Z X (.Call (.Name x p) (e::es) [] pos) (qD d t):=
 (bb F m n o r u .nil bT v y z B).imp λC H Q h=>by
  rfl';have h:=uy C H Q h;obtain⟨G,I,P,s,e,h,q⟩:=h;ac_rfl;exact#[G,I,P,s,e,h,λJ L j M l N O=>by show aY Z d (j++ []) l Q E0;rw[eJ];exact q J L j M l N O]
def cz{id:String}{x:Str}{p:Pos}{r:List D->(D->Prop)->Prop}(d:CallR X (.builtin id) (j3 Z r))(f:Gl X x)(g:X.mg x=none)(h:bootBuiltins x\(.builtin id))(i:DA Z X (e::es) t)(j:x≠"__name__":=by decide)(k:(x==("__debug__":Str))=false:=by decide)
  (l:starEach (e::es) X.env=(false,eval e X.env)::starEach es X.env:=by rfl) (m:(backTo pos (starEach es X.env)).any (·.1)=false:=by rfl):
  DE Z X (.Call (.Name x p) (e::es) [] pos) (qD r t):=(cR d f g h i j k l m).imp uy
def qE(d:CallR X (.type T) (j3 Z r))(f:Gl X x)(g:X.mg x=none)(h:bootBuiltins x\(.type T))(i:DA Z X (e::es) t)(j:x≠"__name__":=by decide)(k:(x==("__debug__":Str))=false:=by decide)
  (l:starEach (e::es) X.env=(false,eval e X.env)::starEach es X.env:=by rfl) (m:(backTo pos (starEach es X.env)).any (·.1)=false:=by rfl):
  DE Z X (.Call (.Name x p) (e::es) [] pos) (qD r t):=(ye d f g h i j k l m).imp uy
end
end L2
namespace L2
open PySem PySem.Spec PyProof.Rows
section
variable {Z:DC} {X:Cx}
def T7:iu:=λx y P=>match x,y with
 | .int i, .int j=>P (.int (i+j))
 | .lst a, .lst b=>a.length+b.length<=sizeLine/\P (.lst (a++b))
 | .tup a, .tup b=>a≠ []/\a.length+b.length<=sizeLine/\b≠ []/\P (.tup (a++b))
 |_,_=>False
def dI(c:Int->Int->Prop)(g:Int->Int->Int):iu:=λx y P=>match x,y with
 | .int i, .int j=>c i j/\P (.int (g i j))
 |_,_=>False
def Vo(g:Int->Int->Int):iu:=λx y P=>match x,y with
 | .int i, .int j=>P (.int (g i j))
 |_,_=>False
def YK:iu:=dI (λ_ j=>0<j) λi j=>i%j
def YV:iu:=Vo Builtin.bitXor
def Sa(h:OpR X f (rI c λi j=> .int (g i j))):OpR X f (cc Z (dI c g)):=by
 refine h.imp ?_;intro x y H Q e;rfl';obtain⟨G,a,b,P,s,l,m,d,q⟩:=e;ac_rfl;unfold dI at d
 split at d
 .exact#[_,_,l.ofInt,m.ofInt,d.1,q _ d.2 _ G H (.refl s) (.int _)]
 .exact d.elim
def R0(h:OpR X f (C1 λi j=> .int (g i j))):OpR X f (cc Z (Vo g)):=by
 refine h.imp ?_;intro x y H Q d;rfl';obtain⟨G,a,b,P,s,k,l,c,q⟩:=d;ac_rfl;unfold Vo at c
 split at c
 .exact#[_,_,k.ofInt,l.ofInt,q _ c _ G H (.refl s) (.int _)]
 .exact c.elim
def CJ:OpR X (binaryOp .Mod) (cc Z YK):=Sa pK
def CK:OpR X (binaryOp .BitXor) (cc Z YV):=R0 Sw
def we(e:X.K=Z.K:=by rfl):OpR X (binaryOp .Add) (cc Z T7):=by
 refine(hU.or (CQ.or (Pl))).imp ?_;rintro x y H Q ⟨G,a,b,P,s,h,i,c,q⟩;unfold T7 at c
 split at c
 .exact .inl #[_,_,h.ofInt,i.ofInt,q _ c _ G H (.refl s) (.int _)]
 .obtain⟨r,j,rfl,k,d⟩:=h.kU
  obtain⟨t,l,rfl,m,f⟩:=i.kU;obtain⟨n,o⟩:=c;refine .inr (.inl #[_,_,_,_,rfl,rfl,s _ _ k,s _ _ m,by rw[d.length,f.length];exact n,λp g=>?_])
  exact q _ o _ _ _ (.new s g) (.lst af ((d.append f).mono (ay (s.free g) _)))
 .obtain⟨r,j,rfl,k,d⟩:=h.uB
  obtain⟨t,l,rfl,m,f⟩:=i.uB;obtain⟨u,n,v,o⟩:=c;refine .inr (.inr #[_,_,_,_,rfl,rfl,fe.of (s _ _ k),fe.of (s _ _ m),?_,by rw[d.length,f.length];exact n,?_])
  .rintro rfl;cases d;exact u rfl
  .refine#[?_,λ_ p g=>q _ o _ _ _ (.new s g) (.tup af ((d.append f).mono (ay (s.free g) _)))]
   rintro rfl;cases f;exact(v rfl).elim
 .exact c.elim
mutual
noncomputable def D.py:D->Option PyData
 | .aL=>some .none
 | .bl b=>some (.bool b)
 | .int i=>some (.int i)
 | .str x=>some (.str x)
 | .lst l=>(gG l).map PyData.list
 | .tup l=>(gG l).map PyData.tuple
 | .oP _=>none
 | .rng _ _=>none
 | .obj _=>none
 | .ik _=>none
 | .set _ _=>none
 | .x _=>none
 | .err _ _ _=>none
noncomputable def gG:List D->Option (List PyData)
 | []=>some []
 |d::ds=>(D.py d).bind λa=>(gG ds).map λas=>a::as
end
def Dv.dp{K:ad}{G:Hp}{v:V}{d:D}(h:Dv Z G v d):∀{e:PyData},d.py\e->Dp K G v e:=by
 refine Dv.rec (motive_1:=λv d _=>∀{e:PyData},d.py\e->Dp K G v e) (motive_2:=λn f _=>∀{g:List PyData},gG f\g->iD K G n g) ?_ ?_ ?_ ?_ ?_ ?_ ?_ ?_ ?_ ?_ ?_ ?_ ?_ ?_ ?_ h
 .intro e h;rw[D.py] at h;cases h;exact .aL
 .intro b e h;rw[D.py] at h;cases h;exact .bl b
 .intro i e h;rw[D.py] at h;cases h;exact .int i
 .intro x k e h;rw[D.py] at h;cases h;exact .str x k
 .intro a o f q _ j e h
  rw[D.py] at h;cases c:gG f with
  |none=>rw[c] at h;cases h
  |some l=>rw[c] at h;cases h;exact .lst (aG.of q) (j c)
 .intro a o f q _ j e h
  rw[D.py] at h;cases c:gG f with
  |none=>rw[c] at h;cases h
  |some l=>rw[c] at h;cases h;exact .tup (fe.of q) (j c)
 .intro a e h;simp[D.py] at h
 .intro a lo u _ e h;simp[D.py] at h
 .intro a r _ _ e h;simp[D.py] at h
 .intro p z R w _ _ _ _ _ _ e h;simp[D.py] at h
 .intro a b r _ e h;simp[D.py] at h
 .intro a A k _ _ e h;simp[D.py] at h
 .intro a C B E o f _ _ _ _ e h;simp[D.py] at h
 .intro g h;rw[gG] at h;cases h;exact .nil
 .intro v n d f _ _ s t g h
  rw[gG] at h;cases c:d.py with
  |none=>rw[c] at h;cases h
  |some x=>
   rw[c] at h;cases m:gG f with
   |none=>rw[m] at h;cases h
   |some y=>rw[m] at h;cases h;exact .cons (s c) (t m)
def fe.mono{K:ad}{H b:Hp}(s:aB H b)(h:fe K H a c):fe K b a c:=by
 rcases h with (h| ⟨o,h⟩) |h
 .exact .inl (.inl (s _ _ h))
 .exact .inl (.inr #[o,s _ _ h])
 .exact .inr h
theorem Dp.mono{K:ad}{G H:Hp}(s:aB G H){v:V}(h:Dp K G v d):Dp K H v d:=
 Dp.rec (motive_1:=λv d _=>Dp K H v d) (motive_2:=λc e _=>iD K H c e) .aL .bl .int .str (λh _ a=> .lst (h.mono s) a) (λh _ a=> .tup (h.mono s) a) .nil (λ_ _ a b=> .cons a b) h
def T9(c:Bool):iu:=λx y P=>∃a b,x.py\a/\y.py\b/\a.depth<=64/\P (.bl (if c then !PyData.eqv a b else PyData.eqv a b))
abbrev Eh:iu:=T9 false
abbrev M8:iu:=T9 true
def j5(e:X.A.units+64<cLine):OpR X (compareOp .Eq) (cc Z Eh):=by
 refine(Ss e).imp ?_;intro x y H Q f;rfl';obtain⟨G,a,b,P,s,h,i,⟨c,d,j,k,l,m⟩,q⟩:=f;ac_rfl;exact#[c,d,(h.dp j).mono s,(i.dp k).mono s,l,q _ m _ G H (.refl s) (.bl _)]
def HN(e:X.A.units+64<cLine):OpR X (compareOp .NotEq) (cc Z M8):=by
 refine(CT e).imp ?_;intro x y H Q f;rfl';obtain⟨G,a,b,P,s,h,i,⟨c,d,j,k,l,m⟩,q⟩:=f;ac_rfl;exact#[c,d,(h.dp j).mono s,(i.dp k).mono s,l,q _ m _ G H (.refl s) (.bl _)]
def Ei{P:D->Prop}(h:P (.bl (decide (i=j)))):Eh (.int i) (.int j) P:=#[.int i, .int j,rfl,rfl,by simp[PyData.depth],by
 have:PyData.eqv (.int i) (.int j)=decide (i=j):=by
  rw[PyData.eqv]
  by_cases z:i=j<;>simp[z]
 simpa [this] using h]
def Eg(p:Int->Int->Bool):iu:=λx y P=>match x,y with
 | .int i, .int j=>P (.bl (p i j))
 |_,_=>False
def xP(h:OpR X f (C1 λi j=> .bl (p i j))):OpR X f (cc Z (Eg p)):=by
 refine h.imp ?_;intro x y H Q d;rfl';obtain⟨G,a,b,P,s,g,k,c,q⟩:=d;ac_rfl;unfold Eg at c
 split at c
 .exact#[_,_,g.ofInt,k.ofInt,q _ c _ G H (.refl s) (.bl _)]
 .exact c.elim
end
end L2
namespace L2
open PySem PySem.Spec PyProof.Rows
section
variable {Z:DC} {X:Cx}
abbrev dLt:iu:=Eg λi j=>decide (i<j)
abbrev dLe:iu:=Eg λi j=>decide (i<=j)
abbrev dGt:iu:=Eg λi j=>decide (j<i)
def CI:OpR X (compareOp .Lt) (cc Z dLt):=xP HW
def HM:OpR X (compareOp .LtE) (cc Z dLe):=xP Xt
def Xo:OpR X (compareOp .Gt) (cc Z dGt):=xP HU
noncomputable def Hy:D->Bool
 | .aL=>true
 |_=>false
def Ub(a:Bool):iu:=λx y P=>match y with
 | .aL=>P (.bl (if a then !Hy x else Hy x))
 |_=>False
def AF(h:Dv Z G v d):decide (v= .aL)=Hy d:=by cases h<;>rfl
def CH:OpR X (compareOp .Is) (cc Z (Ub false)):=by
 refine Su.imp ?_;rintro x y H Q ⟨G,a,b,P,s,d,e,c,q⟩;cases e<;>first|exact c.elim|skip
 exact#[rfl,by rw[AF d];exact q _ c _ G H (.refl s) (.bl _)]
def LO:OpR X (compareOp .IsNot) (cc Z (Ub true)):=by
 refine Pn.imp ?_;rintro x y H Q ⟨G,a,b,P,s,d,e,c,q⟩;cases e<;>first|exact c.elim|skip
 exact#[rfl,by rw[AF d];exact q _ c _ G H (.refl s) (.bl _)]
noncomputable def fw:D->Bool
 | .aL=>true
 | .bl _=>true
 | .int _=>true
 | .str _=>true
 |_=>false
noncomputable def iY:D->D->Bool
 | .aL, .aL=>true
 | .bl a, .bl b=>a==b
 | .bl a, .int b=>(if a then 1 else 0)==b
 | .int a, .bl b=>a==(if b then 1 else 0)
 | .int a, .int b=>a==b
 | .str a, .str b=>a==b
 |_,_=>false
noncomputable def inD(x:D)(l:List D):Bool:=l.any λy=>iY y x
def rP(h:Dv Z G v d):gz v=fw d:=by cases h<;>rfl
def nO(h:DvAll Z G b c):b.all gz=c.all fw:=h.ind (p:=λb c=>b.all gz=c.all fw) rfl λa _ e=>by rw[acB,acB,rP a,e]
def BN(h:Dv Z G v d)(k:Dv Z G u e):qF v u=iY d e:=by cases h<;>first|rfl| (cases k<;>rfl)
theorem Hv(h:Dv Z G v d):∀{b:List V}{c:List D},DvAll Z G b c->Hu v b=inD d c
 |_,_, .nil=>rfl
 |_,_, .cons a e=>by
  unfold Hu inD;rw[adk,adk,BN a h];exact On _ (Hv h e)
def QU(a:Bool):iu:=λx y P=>match y with
 | .lst l=>fw x=true/\l.all fw=true/\P (.bl (if a then !inD x l else inD x l))
 | .tup l=>fw x=true/\l.all fw=true/\P (.bl (if a then !inD x l else inD x l))
 |_=>False
def PX:∀x y H Q,cc Z (QU c) x y H Q->SS X.K c x y H Q:=by
 rintro x y H Q ⟨G,a,b,P,s,d,l,f,q⟩;cases l<;>first|exact f.elim|skip
 .rename_i p g m h e
  obtain⟨i,j,k⟩:=f;refine#[p,g,rfl, .inl (aG.of (s _ _ h)),by rw[rP d];exact i,by rw[nO e];exact j,?_]
  rw[Hv d e];exact q _ k _ G H (.refl s) (.bl _)
 .rename_i p g m h e
  obtain⟨i,j,k⟩:=f;refine#[p,g,rfl, .inr (fe.of (s _ _ h)),by rw[rP d];exact i,by rw[nO e];exact j,?_]
  rw[Hv d e];exact q _ k _ G H (.refl s) (.bl _)
def HL:OpR X (compareOp .In) (cc Z (QU false)):=HV.imp PX
def A2:OpR X (compareOp .NotIn) (cc Z (QU true)):=qh.imp PX
def YI:iu:=λx y P=>match x,y with
 | .lst l, .int i=>∃d,f7 l i\d/\P d
 | .tup l, .int i=>∃d,f7 l i\d/\P d
 | .oP l, .int i=>∃n,f7 l i\n/\P (.int n)
 |_,_=>False
def v5(h:DvAll Z G b a)(e:f7 a i\d):∃v,f7 b i\v/\Dv Z G v d:=by
 unfold f7 at e ⊢;rw[h.length];cases z:m8 a.length i with
 |none=>rw[z] at e;cases e
 |some j=>rw[z] at e;exact h.get e
def MV(f:a->b)(l:List a)(i:Int):f7 (l.map f) i=(f7 l i).map f:=by
 unfold f7;rw[aI];cases m8 l.length i with
 |none=>rfl
 |some j=>show(l.map f)[j]? =_;rw[dJ];rfl
variable {a b c e:Expr} {ta tb tc te:aQ} {pos:Pos}
def fJ(p:DE Z X a ta)(r:DE Z X b tb)(t:X.K=Z.K:=by rfl)(u:nu b:=by exact λ_ _=>rfl):DE Z X (.Subscript a b pos) (KD YI ta tb):=by
 refine(cC (bG.or JK) p r u).imp λw H Q h=>?_;rfl';obtain⟨G,x,P,s,e,h,q⟩:=xN w H Q h;ac_rfl;refine#[G,x,P,s,e,h,λd y v z A B dv=>?_];rfl';obtain⟨C,E,F,I,J,L,M⟩:=q d y v z A B dv;ac_rfl;refine#[C,E,F,I,J,L,λN k O R S T Y=>?_];obtain⟨G,a,b,P,s,l,m,f,q⟩:=M N k O R S T Y;unfold YI at f
 split at f
 .obtain⟨d,i,j⟩:=f
  obtain⟨_,_,rfl,h,e⟩:=l.kU;obtain⟨v,n,dv⟩:=v5 e i;exact .inl #[_,_,_,v,rfl,m.ofInt,aG.of (s _ _ h),n,q _ j _ G _ (.refl s) dv]
 .obtain⟨d,i,j⟩:=f
  obtain⟨_,_,rfl,h,e⟩:=l.uB;obtain⟨v,n,dv⟩:=v5 e i;exact .inr #[_,_,_,v,rfl,m.ofInt,fe.of (s _ _ h),n,q _ j _ G _ (.refl s) dv]
 rotate_left
 .exact f.elim
 .obtain⟨d,i,j⟩:=f
  rfl';obtain⟨_,rfl,h,_⟩:=l.xX;ac_rfl;refine .inl #[_,_,_, .int d,rfl,m.ofInt,by rw[t];exact h.mono s,by rw[MV,i];rfl,q _ j _ G _ (.refl s) (.int d)]
noncomputable def cutD{f:Type}(d:List f)(lo g:Option Int):List f:=(d.drop (HT.bW d.length 0 lo)).take (HT.bW d.length d.length g-HT.bW d.length 0 lo)
def Jr(h:DvAll Z G d f)(lo g:Option Int):DvAll Z G (ix d lo g) (cutD f lo g):=by
 unfold ix cutD;rw[h.length];exact(h.drop _).take _
def Ky(f:d->h)(l:List d)(lo g:Option Int):cutD (l.map f) lo g=(cutD l lo g).map f:=by
 unfold cutD;rw[aI,acC,adl]
abbrev Ki:=DN->(Option Int->Prop)->Prop
def M9:Ki:=λ_ P=>P none
def Vu(t:aQ):Ki:=λf P=>t f λd=>match d with
 | .int i=>P (some i)
 |_=>False
def Xe(Z:DC)(t:Ki):TO:=λg H Q=>∃(G:Hp)(d:DN)(P:Option Int->Prop),aB G H/\dD Z G g d/\t d P/\∀o,P o->∀h f,Ext G H h f->Q o f
def DO(Z:DC)(X:Cx)(e:Option Expr)(t:Ki):Prop:=PO X e (Xe Z t)
def PO.imp{e:Option Expr}{t t':TO}(h:PO X e t)(f:∀g H Q,t' g H Q->t g H Q):PO X e t':=λd s g H Q I q=>h d s g H Q I (f _ _ _ q)
def wY:DO Z X none M9:=by
 refine yg.imp λg H Q d=>?_;rfl';obtain⟨G,i,P,s,e,p,q⟩:=d;ac_rfl;exact q _ p G H (.refl s)
def wZ(h:DE Z X e te):DO Z X (some e) (Vu te):=by
 refine(oq h).imp ?_;intro n H Q g;rfl';obtain⟨G,j,P,s,e,h,q⟩:=g;ac_rfl;refine#[G,j,_,s,e,h,λd f v k l m dv=>?_];cases dv<;>first|exact f.elim|skip
 exact#[_,rfl,q _ f k l m]
def dSl(g:aQ)(h i:Ki):aQ:=λf P=>g f λx=>h f λlo=>i f λd=>match x with
 | .lst l=>P (.lst (cutD l lo d))
 | .tup l=>¬(HT.bW l.length 0 lo=0/\HT.bW l.length l.length d=l.length)/\P (.tup (cutD l lo d))
 | .oP l=>P (.lst ((cutD l lo d).map D.int))
 |_=>False
variable {lo hi:Option Expr} {tl th:Ki} {p2:Pos}
def tZ(r:DE Z X e te)(m:DO Z X lo tl)(g:DO Z X hi th)(t:X.K=Z.K:=by rfl):DE Z X (.Subscript e (.Slice lo hi none p2) pos) (dSl te tl th):=by
 refine(pO (sW.or Ta) r m g).imp ?_;intro C H Q w;rfl';obtain⟨G,n,P,s,o,h,q⟩:=w;ac_rfl;refine#[G,n,_,s,o,h,λd z v A F j dv=>?_];refine#[A,n,_,j.sub,o.mono j.gg,z,λl m B I k=>?_];refine#[B,n,_,k.sub,(o.mono j.gg).mono k.gg,m,λu g J L f=>?_];have x:=(j.trans k).trans f;have dv:=(dv.mono k.gg).mono f.gg;cases dv<;>first|exact g.elim|skip
 .rename_i h e
  exact .inl #[_,_,rfl,aG.of (f.sub _ _ h),λp i=>q _ g _ _ _ (x.trans (.new f.sub i)) (.lst af ((Jr e l u).mono (ay (f.sub.free i) _)))]
 .rename_i h e
  refine .inr #[_,_,rfl,fe.of (f.sub _ _ h),by rw[e.length];exact g.1,λp i=>q _ g.2 _ _ _ (x.trans (.new f.sub i)) (.tup af ((Jr e l u).mono (ay (f.sub.free i) _)))]
 .rename_i h _
  refine .inl #[_,_,rfl,by rw[t];exact h.mono f.sub,λp i=>q _ g _ _ _ (x.trans (.new f.sub i)) (.lst af ?_)]
  show DvAll Z _ (cutD _ l u) _;rw[Ky];exact .ints _
def Jo:c8:=λd P=>match d with
 | [.lst l]=>P (.int l.length)
 | [.tup l]=>P (.int l.length)
 | [.oP l]=>P (.int l.length)
 |_=>False
def kF(f:X.K=Z.K:=by rfl):CallR X (.builtin "len") (j3 Z Jo):=by
 refine cE.imp ?_;rintro g H Q ⟨G,i,P,s,dv,d,q⟩;unfold Jo at d
 split at d
 .obtain⟨_,rfl,a⟩:=dv.ofOne
  obtain⟨_,_,rfl,h,e⟩:=a.kU;exact#[_,_,rfl, .inl (aG.of (s _ _ h)),by rw[e.length];exact q _ d _ G H (.refl s) (.int _)]
 .obtain⟨_,rfl,a⟩:=dv.ofOne
  obtain⟨_,_,rfl,h,e⟩:=a.uB;exact#[_,_,rfl, .inr (fe.of (s _ _ h)),by rw[e.length];exact q _ d _ G H (.refl s) (.int _)]
 .obtain⟨_,rfl,a⟩:=dv.ofOne
  obtain⟨_,rfl,h,_⟩:=a.xX;exact#[_,_,rfl, .inl (by rw[f];exact h.mono s),by rw[aI];exact q _ d _ G H (.refl s) (.int _)]
 .exact d.elim
def MW:c8:=λd P=>match d with
 | [.lst l]=>P (.lst l)
 | [.tup l]=>P (.lst l)
 |_=>False
def wM:CallR X (.type "list") (j3 Z MW):=by
 refine zo.imp ?_;rintro g H Q ⟨G,i,P,s,dv,d,q⟩;unfold MW at d
 split at d
 .obtain⟨_,rfl,a⟩:=dv.ofOne
  obtain⟨_,_,rfl,h,e⟩:=a.kU;exact#[_,_,rfl, .inl (aG.of (s _ _ h)),λp f=>q _ d _ _ _ (.new s f) (.lst af (e.mono (ay (s.free f) _)))]
 .obtain⟨_,rfl,a⟩:=dv.ofOne
  obtain⟨_,_,rfl,h,e⟩:=a.uB;exact#[_,_,rfl, .inr (fe.of (s _ _ h)),λp f=>q _ d _ _ _ (.new s f) (.lst af (e.mono (ay (s.free f) _)))]
 .exact d.elim
noncomputable def isI:String->D->Bool
 |"int", .int _=>true
 |"int", .bl _=>true
 |"bool", .bl _=>true
 |"list", .lst _=>true
 |"tuple", .tup _=>true
 |_,_=>false
noncomputable def Xq(n:String):Bool:=n=="int"||n=="bool"||n=="list"||n=="tuple"
noncomputable def UO:D->Bool
 | .aL=>true
 | .bl _=>true
 | .int _=>true
 | .str _=>true
 | .lst _=>true
 | .tup _=>true
 |_=>false
def YH(n:String)(t:aQ):aQ:=λf P=>t f λd=>UO d=true/\P (.bl (isI n d))
def RV{K:ad}{H:Hp}{v:V}{d:D}{n:String}(hn:Xq n=true)(hd:UO d=true)(h:Dv Z H v d):∃t,kA K H v t/\aj K t (.type n)\(isI n d):=by
 unfold Xq at hn;rw[Bool.or_eq_true,Bool.or_eq_true,Bool.or_eq_true,beq_iff_eq,beq_iff_eq,beq_iff_eq,beq_iff_eq] at hn;cases h with
 |aL=>exists _, .aL;rcases hn with ((rfl|rfl) |rfl) |rfl<;>kernel_rfl
 |bl b=>exists _, .bl b;rcases hn with ((rfl|rfl) |rfl) |rfl<;>kernel_rfl
 |int b=>exists _, .int b;rcases hn with ((rfl|rfl) |rfl) |rfl<;>kernel_rfl
 |str b=>exists _, .str b;rcases hn with ((rfl|rfl) |rfl) |rfl<;>kernel_rfl
 |lst h a=>exists _, .lst h;rcases hn with ((rfl|rfl) |rfl) |rfl<;>kernel_rfl
 |tup h a=>exists _, .tup h;rcases hn with ((rfl|rfl) |rfl) |rfl<;>kernel_rfl
 |_=>cases hd
end
section
variable {Z:DC} {X:Cx} {a b c e:Expr} {ta tb tc te:aQ} {pos:Pos}
def v8(n:String)(l:DE Z X a ta)(m:Gl X "isinstance")(o:X.mg "isinstance"=none)(g:Gl X x)(r:X.mg x=none)(u:bootBuiltins x\(.type n))(ok:Xq n=true:=by decide)
  (w:x≠"__name__":=by decide) (y:(x==("__debug__":Str))=false:=by decide) (i:starEach [a, .Name x f] X.env=(false,eval a X.env)::starEach [.Name x f] X.env:=by rfl)
  (z:(backTo pos (starEach [.Name x f] X.env)).any (·.1)=false:=by rfl) (A:starEach [.Name x f] X.env=(false,eval (.Name x f) X.env)::starEach [] X.env:=by rfl):
  DE Z X (.Call (.Name "isinstance" p) [a, .Name x f] [] pos) (YH n ta):=by
 have B:PE X (.Name x f) (tC (.ty n)):=Fh g r u rfl w y;refine(cR Bz m o (by decide+kernel) (ah l (ah B az A) i) ∅ ∅ i z).imp ?_
 intro O H Q C;rfl';obtain⟨G,F,P,s,e,h,q⟩:=C;ac_rfl;exists G,F,_,s,e,h;rintro d ⟨I,J⟩ v L j k dv;obtain⟨t,M,N⟩:=RV (K:=X.K) (H:=j) ok I (dv.mono k.sub);exact#[v,n,t,_,rfl,M,N,q _ J _ L j k (.bl _)]
def n4(Z:DC)(g:dZ):TG:=λv j H Q=>∃(G:Hp)(f:DN)(d:D)(P:DN->Prop),aB G H/\dD Z G j f/\Dv Z G v d/\g d f P/\∀h,P h->∀i,dD Z G i h->Q i H
def DG(Z:DC)(X:Cx)(e:Expr)(g:dZ):Prop:=PG X e (n4 Z g)
def PG.imp{e:Expr}{t t':TG}(h:PG X e t)(f:∀v g H Q,t' v g H Q->t v g H Q):PG X e t':=λd s g H v u Q I r q=>h d s g H v u Q I r (f _ _ _ _ q)
def jB(i:Nat):dZ:=λd f P=>P (f.set i (some d))
def bK(i:Nat)(f:X.N.Nodup)(g:X.N[i]?\x:=by rfl)(j:Loc X.env.scope x:=by exact Or.inl rfl)(k:X.fn x=true\/X.env.scope.names.lookup x\.local:=by subst_eqs):DG Z X (.Name x l) (jB i):=by
 refine(cn f g j k).imp λv o H Q m=>?_;rfl';obtain⟨G,r,d,P,s,e,dv,h,q⟩:=m;ac_rfl;exact q _ h _ (e.set dv)
abbrev mJ:=List D->DN->(DN->Prop)->Prop
def RZ(Z:DC)(g:mJ):zj:=λj k H Q=>∃(G:Hp)(d:DN)(f:List D)(P:DN->Prop),aB G H/\dD Z G k d/\DvAll Z G j f/\g f d P/\∀h,P h->∀i,dD Z G i h->Q i H
def QG(Z:DC)(X:Cx)(d:List Expr)(g:mJ):Prop:=Bv X d (RZ Z g)
def Bv.imp{i:List Expr}{t t':zj}(h:Bv X i t)(f:∀v g H Q,t' v g H Q->t v g H Q):Bv X i t':=λd s g H v u Q I r q=>h d s g H v u Q I r (f _ _ _ _ q)
def Gy:mJ:=λd f P=>d= []/\P f
def v9(g:dZ)(f:mJ):mJ:=λh i P=>match h with
 |d::r=>g d i λj=>f r j P
 | []=>False
def lh:QG Z X [] Gy:=by
 refine lM.imp λv g H Q d=>?_;rfl';obtain⟨G,j,k,P,s,e,dv,⟨h,p⟩,q⟩:=d;subst h;cases dv;ac_rfl;exact#[rfl,q _ p _ e]
def dP(i:DG Z X e g)(j:QG Z X d f)(k:(assignEach (e::d) X.env).map (·.2)=assign e X.env::(assignEach d X.env).map (·.2):=by rfl):QG Z X (e::d) (v9 g f):=by
 refine(ft i j k).imp ?_;intro v u H Q l;rfl';obtain⟨G,n,x,P,s,e,dv,h,q⟩:=l;ac_rfl;cases dv with
 |nil=>exact h.elim
 |cons a o=>
  refine#[_,_,rfl,G,n,_,_,s,e,a,h,λp r y t=>?_];exact#[G,p,_,P,s,t,o,r,q]
def Gz(n:Nat)(f:mJ):dZ:=λd g P=>match d with
 | .tup l=>l.length=n/\f l g P
 |_=>False
def pq(n:Nat)(i:X.calm=true)(h:QG Z X f g)(j:(assignEach f X.env).length=n:=by rfl)(l:(assignEach f X.env).findIdx? (·.1)=none:=by rfl):DG Z X (.Tuple f k pos) (Gz n g):=by
 refine(pP i h j l).imp ?_;rintro v r H Q ⟨G,m,d,P,s,e,dv,h,q⟩;cases dv<;>first|exact h.elim|skip
 rename_i a o t p f
 exact#[a,o,rfl,fe.of (s _ _ p),by rw[f.length];exact h.1,G,m,_,P,s,e,f,h.2,q]
def wz(Z:DC)(G:Hp)(J:It)(g:List D):Prop:=∀h f,aB G h->aB h f->∀i:Nat,(i<g.length->J.go i f)/\(g.length<=i->J.stop i f)/\
 ∀x j,i<g.length->J.yld i f x j->∃k d,Ext h f k j/\g[i]?\d/\Dv Z k x d
def qS(Z:DC)(i:iU):TI:=λj H R=>∃(G:Hp)(d:DN)(P:List D->Prop),aB G H/\dD Z G j d/\i d P/\∀f,P f->∀J g h,Ext G H g h->wz Z g J f->R J h
def DI(Z:DC)(X:Cx)(d e:Expr)(f:iU):Prop:=PI X d e (qS Z f)
def PI.imp{i e:Expr}{t t':TI}(h:PI X i e t)(f:∀g H Q,t' g H Q->t g H Q):PI X i e t':=λd s g H Q I q=>h d s g H Q I (f _ _ _ q)
def Nl(t:aQ):iU:=λf P=>t f λd=>match d with
 | .lst l=>P l
 |_=>False
def EY{K:ad}{a:Addr}(h:G a\(.lst f))(e:DvAll Z G f j):wz Z G (Kn K a) j:=by
 intro o r k m i;have g:=aG.of (K:=K) (m _ _ (k _ _ h));have l:=e.length;refine#[λn=>#[f,f[i],g,dH ()],λn=>#[f,g,()],?_]
 rintro x s n ⟨rfl,p⟩;obtain⟨d,q,dv⟩:=e.NY (p _ g);exact#[o,d, .refl m,q,dv.mono k]
def bL(h:DE Z X e te):DI Z X j e (Nl te):=by
 refine(j7 h).imp ?_;intro r H Q k;rfl';obtain⟨G,m,P,s,n,h,q⟩:=k;ac_rfl;refine#[G,m,_,s,n,h,λd f v o p g dv=>?_];cases dv<;>first|exact f.elim|skip
 rename_i i e
 exact#[_,rfl,#[_,aG.of (g.sub _ _ i)],q _ f _ o p g (EY i e)]
noncomputable def pS(lo:Int)(n:Nat):List D:=(aM n).map λ(k:Nat)=>D.int (lo+(k:Int))
def Ft{lo:Int}{n i:Nat}(h:i<n):(pS lo n)[i]?\(.int (lo+i)):=by
 unfold pS;rw[dJ,y4 h];rfl
def AG(lo:Int)(n:Nat):wz Z G (DZ lo n) (pS lo n):=by
 intro f h j g i;have l:(pS lo n).length=n:=by unfold pS;simp
 rw[l];refine#[λd=>d,λd=>d,?_];rintro x k d ⟨rfl,rfl⟩;exact#[f,_, .refl g,Ft d, .int _]
def Ug(t:gS):iU:=λd P=>t d λf=>match f with
 | [.int j]=>(-(2^62)<=j/\j<2^62)/\P (pS 0 j.toNat)
 |_=>False
variable {t:gS}
def GA(g:Gl X "range")(i:X.mg "range"=none)(j:DA Z X [a] t)(k:starEach [a] X.env= [(false,eval a X.env)]:=by rfl):DI Z X f (.Call (.Name "range" p) [a] [] pos) (Ug t):=by
 refine(j8 g i j k).imp ?_;intro w H Q l;rfl';obtain⟨G,n,P,s,o,h,q⟩:=l;ac_rfl;refine#[G,n,_,s,o,h,λy d z r u v dv=>?_]
 split at d
 .obtain⟨_,rfl,a⟩:=dv.ofOne
  exact#[_,by rw[a.ofInt],d.1.1,d.1.2,q _ d.2 _ r u v (AG 0 _)]
 .exact d.elim
noncomputable def eD(l:List D):List D:=l.mapIdx λi x=> .tup [.int (i:Int),x]
def Q6(t:gS):iU:=λd P=>t d λf=>match f with
 | [.lst l]=>P (eD l)
 |_=>False
def OM{K:ad}{a:Addr}(h:G a\(.lst f))(e:DvAll Z G f g):wz Z G (Km K a) (eD g):=by
 intro r s m j i;have k:=aG.of (K:=K) (j _ _ (m _ _ h));have l:=e.length;rw[show(eD g).length=g.length by unfold eD;simp]
 refine#[λn=>#[f,f[i],k,dH ()],λn=>#[f,k,()],?_]
 rintro x u n ⟨t,y,rfl,o,rfl,p⟩;obtain⟨d,q,dv⟩:=e.NY (p _ k);refine#[_,_, .new j o,by unfold eD;rw[List.getElem?_mapIdx,q];rfl,?_]
 exact .tup af (.cons (.int _) (.cons ((dv.mono m).mono (ay (j.free o) _)) .nil))
def fg{k1}(j:Gl X "enumerate")(k:X.mg "enumerate"=none)(l:DA Z X [a] t)(m:starEach [a] X.env= [(false,eval a X.env)]:=by rfl):DI Z X (.Tuple g k1 i) (.Call (.Name "enumerate" p) [a] [] pos) (Q6 t):=by
 refine(yf j k l m).imp ?_;intro x H Q n;rfl';obtain⟨G,r,P,s,u,h,q⟩:=n;ac_rfl;refine#[G,r,_,s,u,h,λz d A v w f dv=>?_]
 split at d
 .obtain⟨_,rfl,a⟩:=dv.ofOne
  obtain⟨_,_,rfl,h,e⟩:=a.kU;exact#[_,rfl,#[_,f.sub _ _ h],q _ d _ v w f (OM h e)]
 .exact d.elim
noncomputable def yy(src:List (Option Nat))(d:DN):DN:=src.map λo=>o.bind λi=>(d[i]?).bind id
theorem dD.src(e:dD Z G l f)(src:List (Option Nat)):dD Z G (kj src l) (yy src f):=by
 refine#[by unfold kj yy;simp,λi d h=>?_]
 unfold yy at h;unfold kj;rw[dJ] at h ⊢;cases k:src[i]? with
 |none=>rw[k] at h;cases h
 |some o=>
  rw[k] at h;cases o with
  |none=>cases h
  |some j=>
   have g:(f[j]?).bind id\d:=Da h;cases m:f[j]? with
   |none=>rw[m] at g;cases g
   |some z=>
    rw[m] at g;rfl';have p:z\d:=g;subst p;obtain⟨v,q,dv⟩:=e.at_ j d m;ac_rfl;exact#[v,by show some ((l[j]?).bind id)=_;rw[q];rfl,dv]
def lcW(g:dZ)(h:c9)(i:aQ):List D->DN->List D->(DN->List D->Prop)->Prop
 | [],j,acc,N=>N j acc
 |x::k,j,acc,N=>g x j λf=>h f λb=>if b=true then i f λd=>acc.length<sizeLine/\lcW g h i k f (acc++ [d]) N else lcW g h i k f acc N
def Vp(f:iU)(g:dZ)(h:c9)(i:aQ)(src:List (Option Nat)):aQ:=λd P=>f d λj=>lcW g h i j (yy src d) [] λ_ out=>P (.lst out)
def qf(g:dZ)(f:c9)(h:iU)(i:dZ)(j:c9)(k:aQ):List D->DN->List D->(List D->Prop)->Prop
 | [],_,acc,P=>P acc
 |x::l,m,acc,P=>g x m λd=>f d λb=>if b=true then h d λn=>lcW i j k n d acc λo p=>qf g f h i j k l o p P else qf g f h i j k l d acc P
def Uc(f:iU)(g:dZ)(h:c9)(i:iU)(j:dZ)(k:c9)(l:aQ)(src:List (Option Nat)):aQ:=λd P=>f d λm=>qf g h i j k l m (yy src d) [] λout=>P (.lst out)
def mL:c9:=λ_ P=>P true
def zh(Z:DC)(X:Cx)(d:List Expr)(t:c9):Prop:=jR X d (liftT Z t)
def jR.imp{d:List Expr}{t t':TT}(h:jR X d t)(f:∀i H Q,t' i H Q->t i H Q):jR X d t':=λg s i H Q I q=>h g s i H Q I (f _ _ _ q)
def fh:zh Z X [] mL:=by
 refine sH.imp λg H Q d=>?_;rfl';obtain⟨G,i,P,s,e,p,q⟩:=d;ac_rfl;exact q _ p G H (.refl s)
def rM(h:DT Z X c d):zh Z X [c] d:=Fo h
def CS(Z:DC)(d f:Hp)(g:Addr)(i:DN)(acc:List D)(j:St)(H:Hp):Prop:=
 ∃(G:Hp)(h:List V),aB d G/\aB G H/\aB f H/\(∀b,f b≠none->d b=none->G b=none)/\G g=none/\H g\(.lst h)/\DvAll Z G h acc/\dD Z G j i
def fM(s:aB H d){b:Addr}(h:H b≠none):d b≠none:=λz=>by
 cases e:H b with
 |none=>exact h e
 |some o=>rw[s b o e] at z;cases z
def lq{d:Type}{l:List d}{i:Nat}{x:d}(h:l[i]?\x):l.drop i=x::l.drop (i+1):=by
 obtain⟨f,e⟩:=cw.mp h;rw[tG f,e]
theorem AS(hA:m f=none)(A:Hp)(it:wz Z A J n)(i:Nat)(L:DN)(acc:List D)(σ:St)(H:Hp)
  (c:CS Z l m f L acc σ H) (hG:∀G,aB l G->aB A G) (hi:i<n.length) (h:lcW g u w (n.drop i) L acc N):
  J.go i H/\∀x B,J.yld i H x B->n4 Z g x σ B λp H4=>liftT Z u p H4 λb M=>
   if b=true then dF Z w p M λv O=>∃k,O f\(.lst k)/\k.length<sizeLine/\(∃q r,CS Z l m f q r p (upd O f (.lst (k++ [v])))/\lcW g u w (n.drop (i+1)) q r N)
   else ∃q r,CS Z l m f q r p M/\lcW g u w (n.drop (i+1)) q r N:=by
 rfl';obtain⟨Q,k,R,s2,S,off,gA,T,Y,en⟩:=c;obtain⟨go,_,yld⟩:=it Q H (hG _ R) s2 i;ac_rfl;refine#[go hi,λx B y=>?_];rfl';obtain⟨G3,d,C,hd,dv⟩:=yld x B hi y;rw[lq hd] at h;ac_rfl;refine#[G3,L,d,_,C.sub,en.mono C.gg,dv,h,λE F p I=>?_];refine#[G3,E,_,C.sub,I,F,λb hb G5 M s=>?_];have j:=C.trans s;have a:∀{G t:Hp},Ext Q H G t->G f=none:=λx=>x.off f (by rw[T];exact λz=>nomatch z) gA
 have vg:∀{G t:Hp},Ext Q H G t->∀b,m b≠none->l b=none->G b=none:=λx b F h2=>x.off b (fM S F) (off b F h2);cases b with
 |false=>
  refine dS #[E,acc,#[G5,k,R.trans j.gg,j.sub,S.trans j.hh,vg j,a j,j.hh _ _ T,Y.mono j.gg,I.mono s.gg],?_];simpa using hb
 |true=>
  refine dU #[G5,E,_,s.sub,I.mono s.gg,(~~~hb),λd' f9 v G6 O x6 X=>?_]
  have x:=j.trans x6;refine#[k,x.hh _ _ T,by rw[Y.length];exact f9.1,E,_,#[G6,k++ [v],R.trans x.gg,λb o e=>?_,λb o e=>?_,vg x,a x,af,(Y.mono x.gg).snoc X,(I.mono s.gg).mono x6.gg],f9.2]
  .rw[ag (ao e (a x))];exact x.sub _ _ e
  .rw[ag (ao e hA)];exact(S.trans x.hh) _ _ e
def CS.done(c:CS Z h g d n acc p i)(f:Ext G H h g)(q:g d=none):∃j,Ext G H j i/\Dv Z j (.ref d) (.lst acc):=by
 rfl';obtain⟨s,u,v,w,x,off,k,y,A,E⟩:=c;ac_rfl;refine#[upd s d (.lst u),#[(f.gg.trans v).trans (ay k _),λb o e=>?_,f.hh.trans x,λb l B=>?_], .lst af (A.mono (ay k _))]
 .by_cases z:b=d
  .subst z;rw[af] at e;cases e;exact y
  .rw[ag z] at e;exact w _ _ e
 .have m:=fM f.hh l
  rw[ag (λz=>m (by rw[z];exact q))]
  exact off b m (f.off b l B)
def CS.begin(s:aB d f)(i:f g=none)(l:dD Z d k j):CS Z d f g j [] k (upd f g (.lst [])):=
 #[d,[], .refl _,λb o e=>by rw[ag (ao e (s.free i))];exact s _ _ e,ay i _,λ_ _ h=>h,s.free i,af, .nil,l]
variable {tg iter elt:Expr} {ifs:List Expr} {scope:Scope} {NC:List Str} {src:List (Option Nat)} {wi:iU} {g:dZ} {tt:c9}
def JM:∀o H Q,dF Z (Vp wi g tt te src) o H Q->Tu (qS Z wi) (n4 Z g) (liftT Z tt) (dF Z te) src o H Q:=by
 intro o H Q C;rfl';obtain⟨G,E,P,s,y,h,q⟩:=C;ac_rfl;refine#[G,E,_,s,y,h,λd F J z I p A L r=>?_];refine#[λi m u j=>m=d.length-i/\i<=d.length/\∃l acc,CS Z z I L l acc u j/\lcW g tt te (d.drop i) l acc λ_ out=>P (.lst out),#[_,rfl,dA _,_,[], .begin p.sub r ((y.mono p.gg).src src),F],?_];intro i m u j M;rfl';obtain⟨rfl,Y,l,acc,c,v⟩:=M;ac_rfl
 by_cases B:i<d.length
 .obtain⟨N,k⟩:=AS r z A i l acc u j c (λ_ s=>s) B v
  exact .inr #[N,_,λa b n=>#[d.length-(i+1),(),rfl,B,n],k]
 .have e:d.drop i= []:=y0 ()
  rfl';rw[e] at v;obtain⟨O,x,dv⟩:=c.done p r;obtain⟨R,t,S,T,_⟩:=c;ac_rfl;exact .inl #[(A R j S T i).2.1 (),q _ v _ O j x dv]
def nG(f:X.calm=true)(c:br X scope)(h:cS scope X.N src NC)(i:DI Z X tg iter wi)
  (j:∀d s H,DG Z (bA X scope NC d s H) tg g) (k:∀d s H,zh Z (bA X scope NC d s H) ifs tt) (l:∀d s H,DE Z (bA X scope NC d s H) elt te)
  (m:∀x,foldedSetIterable iter X.env x=pure x:=by intro _;rfl):DE Z X (.ListComp elt [#[tg,iter,ifs,0]] scope pos) (Vp wi g tt te src):=(Pw f c h i j k l m).imp JM
variable {t0 i0 t1 i1:Expr} {f0 f1:List Expr} {cx:iU} {g1:dZ} {bO:c9}
def OX:∀σ H Q,dF Z (Uc wi g tt cx g1 bO te src) σ H Q->UY (qS Z wi) (n4 Z g) (liftT Z tt) (qS Z cx) (n4 Z g1) (liftT Z bO) (dF Z te) src σ H Q:=by
 intro σ H Q aJ;rfl';obtain⟨G,ρ,P,s,en,h,q⟩:=aJ;ac_rfl;refine#[G,ρ,_,s,en,h,λl hd J E r x1 it j hA=>?_];refine#[λi m di F=>m=l.length-i/\i<=l.length/\∃u acc,CS Z E r j u acc di F/\qf g tt cx g1 bO te (l.drop i) u acc λout=>P (.lst out),#[_,rfl,dA _,_,[], .begin x1.sub hA ((en.mono x1.gg).src src),hd],?_];intro i m di F iN;rfl';obtain⟨rfl,hi,u,acc,c,hl⟩:=iN;ac_rfl
 by_cases bV:i<l.length
 .have c0:=c
  rfl';obtain⟨R,p,S,s2,s3,off,gA,mZ,bx,VR⟩:=c;obtain⟨go,_,yld⟩:=it R F S s2 i;ac_rfl;refine .inr #[go bV,λT I=>∃Y a,CS Z E r j Y a T I/\qf g tt cx g1 bO te (l.drop (i+1)) Y a λout=>P (.lst out),λT I n=>#[l.length-(i+1),(),rfl,bV,n],λx H3 y=>?_]
  rfl';obtain⟨G3,d,x3,GY,dv⟩:=yld x H3 bV y;rw[lq GY] at hl;ac_rfl;refine#[G3,u,d,_,x3.sub,VR.mono x3.gg,dv,hl,λt L dY rN=>?_];refine#[G3,t,_,x3.sub,rN,L,λb X G5 H5 x5=>?_];have w:=x3.trans x5;have sA:∀{G M:Hp},Ext R F G M->G j=none:=λx=>x.off j (by rw[mZ];exact λz=>nomatch z) gA
  have vg:∀{G M:Hp},Ext R F G M->∀b,r b≠none->E b=none->G b=none:=λx b L h2=>x.off b (fM s3 L) (off b L h2);cases b with
  |false=>exact dS #[t,acc,#[G5,p,S.trans w.gg,w.sub,s3.trans w.hh,vg w,sA w,w.hh _ _ mZ,bx.mono w.gg,rN.mono x5.gg],by simpa using X]
  |true=>
   refine dU #[G5,t,_,x5.sub,rN.mono x5.gg,(~~~X),λN Wz J1 G6 H6 x6 EX=>?_]
   have x:=w.trans x6;have c6:CS Z G6 H6 j t acc dY H6->True:=λ_=>trivial
   refine#[λk m pj A=>m=N.length-k/\k<=N.length/\∃(ze:DN)(D2:List D),(∃(G:Hp)(p:List V),aB G6 G/\aB G A/\aB r A/\(∀b,r b≠none->E b=none->G b=none)/\G j=none/\A j\(.lst p)/\DvAll Z G p D2/\dD Z G pj ze)/\
    lcW g1 bO te (N.drop k) ze D2 λu wD=>qf g tt cx g1 bO te (l.drop (i+1)) u wD λout=>P (.lst out),
    #[_,rfl,dA _,t,acc,#[G6,p, .refl _,x.sub,s3.trans x.hh,vg x,sA x,x.hh _ _ mZ,bx.mono x.gg,(rN.mono x5.gg).mono x6.gg],Wz],?_]
   intro k m pj A iN;rfl';obtain⟨rfl,hk,ze,D2,⟨G7,TN,a1,a2,a3,a4,a5,a6,a7,a8⟩,p9⟩:=iN;ac_rfl;have VV:aB E G6:=S.trans x.gg
   by_cases xq:k<N.length
   .obtain⟨VZ,_,Qy⟩:=EX G7 A a1 a2 k
    refine .inr #[VZ xq,λT I=>∃(Y:DN)(a:List D),(∃(G:Hp)(p:List V),aB G6 G/\aB G I/\aB r I/\(∀b,r b≠none->E b=none->G b=none)/\G j=none/\I j\(.lst p)/\DvAll Z G p a/\dD Z G T Y)/\
     lcW g1 bO te (N.drop (k+1)) Y a λu wD=>qf g tt cx g1 bO te (l.drop (i+1)) u wD λout=>P (.lst out),λT I n=>#[N.length-(k+1),(),rfl,xq,n],λy H8 hy=>?_]
    rfl';obtain⟨G8,d8,x8,Wt,VJ⟩:=Qy y H8 xq hy;rw[lq Wt] at p9;ac_rfl;refine#[G8,ze,d8,_,x8.sub,a8.mono x8.gg,VJ,p9,λz3 h9 σ9 zw=>?_];refine#[G8,z3,_,x8.sub,zw,h9,λb X MK vH vY=>?_];have B:=x8.trans vY;have oA:∀{G M:Hp},Ext G7 A G M->G j=none:=λx=>x.off j (by rw[a6];exact λz=>nomatch z) a5
    have oB:∀{G M:Hp},Ext G7 A G M->∀b,r b≠none->E b=none->G b=none:=λx b L h2=>x.off b (fM a3 L) (a4 b L h2);cases b with
    |false=>exact dS #[z3,D2,#[MK,TN,a1.trans B.gg,B.sub,a3.trans B.hh,oB B,oA B,B.hh _ _ a6,a7.mono B.gg,zw.mono vY.gg],by simpa using X]
    |true=>
     refine dU #[MK,z3,_,vY.sub,zw.mono vY.gg,(~~~X),λd' f9 v U4 zi Ja Nv=>?_]
     have C:=B.trans Ja;refine#[TN,C.hh _ _ a6,by rw[a7.length];exact f9.1,z3,_,#[U4,TN++ [v],a1.trans C.gg,λb o e=>?_,λb o e=>?_,oB C,oA C,af,(a7.mono C.gg).snoc Nv,(zw.mono vY.gg).mono Ja.gg],f9.2]
     .rw[ag (ao e (oA C))];exact C.sub _ _ e
     .rw[ag (ao e hA)];exact(a3.trans C.hh) _ _ e
   .have e:N.drop k= []:=y0 ()
    rw[e] at p9;exact .inl #[(EX G7 A a1 a2 k).2.1 (),ze,D2,#[G7,TN,VV.trans a1,a2,a3,a4,a5,a6,a7,a8],p9]
 .have e:l.drop i= []:=y0 ()
  rfl';rw[e] at hl;obtain⟨G',x,dv⟩:=c.done x1 hA;obtain⟨R,p,S,s2,_⟩:=c;ac_rfl;exact .inl #[(it R F S s2 i).2.1 (),q _ hl _ G' F x dv]
def Q0(f:X.calm=true)(c:br X scope)(h:cS scope X.N src NC)(i:DI Z X t0 i0 wi)
  (j:∀d s H,DG Z (bA X scope NC d s H) t0 g) (k:∀d s H,zh Z (bA X scope NC d s H) f0 tt) (l:∀d s H,DI Z (bA X scope NC d s H) t1 i1 cx) (m:∀d s H,DG Z (bA X scope NC d s H) t1 g1)
  (n:∀d s H,zh Z (bA X scope NC d s H) f1 bO) (o:∀d s H,DE Z (bA X scope NC d s H) elt te)
  (p:∀x,foldedSetIterable i0 X.env x=pure x:=by intro _;rfl) (q:∀env x,foldedSetIterable i1 env x=pure x:=by intro _ _;rfl):
  DE Z X (.ListComp elt [#[t0,i0,f0,0],#[t1,i1,f1,0]] scope pos) (Uc wi g tt cx g1 bO te src):=(SD f c h i j k l m n o p q).imp OX
end
inductive jr (R:V->D->List Addr->Prop):List V->List D->List Addr->Prop
 |nil:jr R [] [] []
 |cons {v:V} {vs:List V} {d:D} {ds:List D} {f fs:List Addr}:R v d f->jr R vs ds fs->jr R (v::vs) (d::ds) (f++fs)
noncomputable def isL:D->Bool
 | .lst _=>true
 |_=>false
def Own(Z:DC)(G H:Hp):Nat->V->D->List Addr->Prop
 |0,v,d,c=>Dv Z G v d/\c= []
 |n+1,v,d,c=>(∃a e g i,v= .ref a/\d= .lst g/\H a\(.lst e)/\c=a::i/\jr (Own Z G H n) e g i)\/(1<=n/\∃a e g,v= .ref a/\d= .tup g/\G a\(.tup e)/\jr (λv d f=>(isL d=true/\Own Z G H n v d f)\/(isL d=false/\Dv Z G v d/\f= [])) e g c)\/(∃a h,v= .ref a/\H a\(.ext h)/\c= [a]/\((n=98/\∃b j,d= .set b j/\h=TZ b a j)\/(n=97/\∃k,d= .x k/\Kq G a h k)))
theorem Own.lst{Z:DC}{G H:Hp}{n:Nat}{v:V}{c:List D}{d:List Addr}(o:Own Z G H (n+1) v (.lst c) d):∃a xs f g,v= .ref a/\D.lst c= .lst f/\H a\(.lst xs)/\d=a::g/\jr (Own Z G H n) xs f g:=by
 rcases o with o| ⟨_,a,xs,c,_,e,_⟩ | ⟨a,h,_,_,_,⟨_,b,i,e,_⟩ | ⟨_,k,e,_⟩⟩
 .exact o
 .cases e
 .cases e
 .cases e
def Own.xA(o:Own Z G H 98 v (.x k) d):∃a c,v= .ref a/\H a\(.ext c)/\d= [a]/\Kq G a c k:=by
 rcases o with ⟨_,_,_,_,_,e,_⟩ | ⟨_,a,j,l,_,e,_⟩ | ⟨a,c,f,g,h,⟨_,b,m,e,n⟩ | ⟨_,k,e,i⟩⟩
 .cases e
 .cases e
 .cases e
 .cases e;exact#[a,c,f,g,h,i]
def Own.one{d:D}(o:Own Z G H 1 v d b):∃a c e f,v= .ref a/\d= .lst e/\H a\(.lst c)/\b=a::f/\jr (Own Z G H 0) c e f:=by
 rcases o with o| ⟨z,_⟩ | ⟨_,_,_,_,_,⟨z,_⟩ | ⟨z,_⟩⟩
 .exact o
 .exact absurd z ∅
 .exact absurd z ∅
 .exact absurd z ∅
def jr.imp{i:List V}(o:jr R i j c)(h:∀v d f,(∀b∈f,b∈c)->R v d f->g v d f):jr g i j c:=by
 induction o with
 |nil=>exact .nil
 |cons a _ k=>exact .cons (h _ _ _ (λb e=>km _ e) a) (k λv d f l r=>h v d f (λb e=>fF _ (l b e)) r)
section
variable {Z:DC} {G G' H H':Hp}
def Own.keep:∀{v:V}{d:D}{g:List Addr},Own Z G H n v d g->aB G G'->(∀b∈g,H' b=H b)->Own Z G' H' n v d g:=by
 induction n with
 |zero=>exact λh s _=>#[h.1.mono s,h.2]
 |succ n u=>
  intro v d g h s k
  rcases h with ⟨a,j,l,w,c,m,e,i,o⟩ | ⟨p,a,j,l,c,m,e,o⟩ | ⟨a,x,c,e,i,y⟩
  .subst i
   exact .inl #[a,j,l,w,c,m,by rw[k a (dB ..)];exact e,rfl,o.imp λv d f t r=>u r s λb q=>k b (eW _ (t b q))]
  .exact .inr (.inl #[p,a,j,l,c,m,s _ _ e,o.imp λv d f t r=>r.imp (λr=>#[r.1,u r.2 s λb q=>k b (t b q)]) λr=>#[r.1,r.2.1.mono s,r.2.2]])
  .exact .inr (.inr #[a,x,c,by rw[k a (by rw[i];exact dB ..)];exact e,i,y.imp id λ#[p,k,z,A]=>#[p,k,z,A.mono s]])
def jr.Uj(o:jr R e g h)(k:∀v d f,(∀b∈f,b∈h)->R v d f->Dv Z G' v d):DvAll Z G' e g:=by
 induction o with
 |nil=>exact .nil
 |cons a _ i=>exact .cons (k _ _ _ (λb c=>km _ c) a) (i λv d f j r=>k v d f (λb c=>fF _ (j b c)) r)
def Own.Ui(o:HO->Prop)(y:∀j,o (.lst j))(t:∀u,o (.ext u)):∀{v:V}{d:D}{l:List Addr},Own Z G H n v d l->aB G G'->(∀b∈l,∀x,o x->H b\x->G' b\x)->Dv Z G' v d:=by
 induction n with
 |zero=>exact λh s _=>h.1.mono s
 |succ n w=>
  intro v d l h s k
  rcases h with ⟨a,j,z,B,i,c,g,e,m⟩ | ⟨_,a,j,z,i,c,g,m⟩ | ⟨a,u,i,g,e,A⟩
  .subst e i c
   exact .lst (k a (dB ..) _ (y _) g) (m.Uj λv d f e r=>w r s λb p=>k b (eW _ (e b p)))
  .subst i c
   exact .tup (s _ _ g) (m.Uj λv d f e r=>r.elim (λr=>w r.2 s λb p=>k b (e b p)) λr=>r.2.1.mono s)
  .subst i e
   rcases A with ⟨_,b,C,c,q⟩ | ⟨_,E,c,q⟩
   .subst c q
    exact .set (k a (dB ..) _ (t _) g)
   .subst c
    exact .x (k a (dB ..) _ (t _) g) (q.mono s)
def Own.dv{d:D}(h:Own Z G H n v d a)(s:aB G G')(k:∀b∈a,∀o,H b\o->G' b\o):Dv Z G' v d:=h.Ui (λ_=>True) (λ_=>trivial) (λ_=>trivial) s λb c x _ e=>k b c x e
def jr.flat(o:jr (Own Z G H 0) b c d):DvAll Z G b c/\d= []:=by
 induction o with
 |nil=>exact#[.nil,rfl]
 |cons a _ e=>exact#[.cons a.1 e.1,by rw[a.2,e.2];rfl]
def DvAll.own(h:DvAll Z G c d):jr (Own Z G H 0) c d []:=h.ind (p:=λc d=>jr (Own Z G H 0) c d []) .nil λa _ b=> .cons (f:= []) (fs:= []) #[a,rfl] b
def Dv.flat{v:V}{d:D}(h:Dv Z G v d)(f:fw d=true):Dv Z G' v d:=by
 cases h with
 |aL=>exact .aL
 |bl b=>exact .bl b
 |int i=>exact .int i
 |str x k=>exact .str x k
 |_=>cases f
end
mutual
noncomputable def oh:D->Bool
 | .aL=>true
 | .bl _=>true
 | .int _=>true
 | .str _=>true
 | .tup l=>JN l
 |_=>false
noncomputable def JN:List D->Bool
 | []=>true
 |d::ds=>oh d&&JN ds
end
theorem Dv.oh(k:∀b xs,G b\(.tup xs)->e b\(.tup xs))(h:Dv Z G v d):L2.oh d=true->Dv Z e v d:=by
 have c:∀{p:Prop}{d:D},L2.oh d=false->L2.oh d=true->p:=λa b=>by rw[a] at b;cases b
 refine Dv.rec (motive_1:=λv d _=>L2.oh d=true->Dv Z e v d) (motive_2:=λj g _=>JN g=true->DvAll Z e j g) (λ_=> .aL) (λb _=> .bl b) (λi _=> .int i) (λx h _=> .str x h) (λ_ _ _=>c (by rw[L2.oh]<;>simp)) (λh _ l f=> .tup (k _ _ h) (l (by rw[L2.oh] at f;exact f))) (λ_=>c (by rw[L2.oh]<;>simp)) (λ_=>c (by rw[L2.oh]<;>simp)) (λ_ _=>c (by rw[L2.oh]<;>simp)) (λ_ _ _ _ _ _=>c (by rw[L2.oh]<;>simp)) (λ_=>c (by rw[L2.oh]<;>simp)) (λ_ _=>c (by rw[L2.oh]<;>simp)) (λ_ _ _ _=>c (by rw[L2.oh]<;>simp)) (λ_=> .nil) (λ_ _ m n f=>?_) h
 rw[JN,vC] at f;exact .cons (m f.1) (n f.2)
noncomputable def Po:HO->Bool
 | .lst _=>true
 | .ext _=>true
 |_=>false
def Own.dvL(h:Own Z G H n v d c)(s:aB G a)(k:∀b∈c,∀o,Po o=true->H b\o->a b\o):Dv Z a v d:=h.Ui (λo=>Po o=true) (λ_=>rfl) (λ_=>rfl) s k
structure Bs where
 G₀:Hp
 H₀:Hp
 Gf:Hp
structure SIx (Z:DC) (B:Bs) (md:List Nat) (ρ:DN) (σ:St) (H G:Hp) (fp:Nat->List Addr):Prop where
 ex:Ext B.G₀ B.H₀ G H
 fl:aB B.Gf G
 len:ρ.length=σ.length
 at_:∀(i:Nat)(d:D),ρ[i]?\(some d)->∃v,σ[i]?\(some v)/\Own Z G H (md.getD i 0) v d (fp i)
 nd:∀i,(fp i).Nodup
 ap:∀i j b,i≠j->b∈fp i->b∉fp j
 nw:∀i b,b∈fp i->B.H₀ b=none/\H b≠none/\G b=none
def SI(Z:DC)(B:Bs)(a:List Nat)(b:DN)(c:St)(H:Hp):Prop:=∃G d,SIx Z B a b c H G d
noncomputable def cf:List Nat->DN->DN
 |_,[]=> []
 | [],o::a=>o::a
 |0::b,o::a=>o::cf b a
 | (_+1)::b,_::a=>none::cf b a
theorem q0:∀(a:List Nat)(b:DN),(cf a b).length=b.length
 |a,[]=>by cases a<;>rfl
 | [],o::b=>rfl
 |0::a,o::b=>by rw[cf,dG,q0 a b,dG]
 | (_+1)::a,_::b=>by rw[cf,dG,q0 a b,dG]
theorem uF:∀(c:List Nat)(e:DN)(i:Nat),(cf c e)[i]?\(some d)->c.getD i 0=0/\e[i]?\(some d)
 |c,[],i,h=>by cases c<;>simp[cf] at h
 | [],o::e,i,h=>#[by simp,h]
 |0::c,o::e,0,h=>#[rfl,by simpa [cf] using h]
 |0::c,o::e,i+1,h=>by
  rw[cf,vy] at h;obtain⟨a,b⟩:=uF c e i h;exact#[by rw[List.getD_cons_succ];exact a,by rw[vy];exact b]
 | (_+1)::c,_::e,0,h=>by simp[cf] at h
 | (_+1)::c,_::e,i+1,h=>by
  rw[cf,vy] at h;obtain⟨a,b⟩:=uF c e i h;exact#[by rw[List.getD_cons_succ];exact a,by rw[vy];exact b]
noncomputable def Ds(b:List Nat):Bool->DN->DN
 |true,a=>a
 |false,a=>cf b a
def wb:Bool->D->Prop
 |true,d=>oh d=true
 |false,_=>True
section
variable {Z:DC} {B:Bs} {md:List Nat} {ρ:DN} {σ:St} {H G:Hp} {fp:Nat->List Addr}
def Ih(h:(cf md ρ)[i]?\(some d)):md.getD i 0=0/\ρ[i]?\(some d):=uF md ρ i h
def SIx.rO(S:SIx Z B md ρ σ H G fp):dD Z G σ (cf md ρ):=by
 refine#[by rw[q0];exact S.len,λi d h=>?_]
 obtain⟨z,h⟩:=Ih h;obtain⟨v,a,o⟩:=S.at_ i d h;rw[z] at o;exact#[v,a,o.1]
def SIx.ND(S:SIx Z B md ρ σ H G fp):dD Z H σ ρ:=by
 refine#[S.len,λi d h=>?_];obtain⟨v,a,o⟩:=S.at_ i d h;exact#[v,a,o.dv S.ex.sub λb _ u e=>e]
theorem SIx.grow{c f:Hp}(S:SIx Z B md ρ σ H G fp)(x:Ext G H c f):SIx Z B md ρ σ f c fp where
 ex:=S.ex.trans x
 fl:=S.fl.trans x.gg
 len:=S.len
 at_:=λi d h=>by
  obtain⟨v,j,o⟩:=S.at_ i d h;refine#[v,j,o.keep x.gg λb a=>?_];cases e:H b with
  |none=>exact absurd e (S.nw i b a).2.1
  |some u=>exact x.hh _ _ e
 nd:=S.nd
 ap:=S.ap
 nw:=λi b a=>let #[k,g,l]:=S.nw i b a;#[k,fM x.hh g,x.off b g l]
def Ext.all(s:aB G H)(x:Ext H H b a):Ext G H G a:=#[.refl _,s.trans x.hh,x.hh,λ_ _ h=>h]
open Classical in
noncomputable def jo(G H:Hp)(fp:Nat->List Addr):Hp:=λb=>if ∃i,b∈fp i then(match H b with|some (.lst xs)=>some (.lst xs) |some (.ext φ)=>some (.ext φ) |_=>none) else G b
open Classical in
noncomputable def uw(G:Hp)(fp:Nat->List Addr):Hp:=λb=>if ∃i,b∈fp i then none else G b
def MD(i:Nat)(h:b∈fp i)(a:Po o=true)(e:H b\o):jo G H fp b\o:=by
 unfold jo;rw[mo #[i,h],e];cases o<;>first|rfl|cases a
def rA(h:¬∃i,b∈fp i):jo G H fp b=G b:=tz h
def SIx.Uk(S:SIx Z B md ρ σ H G fp):aB G (jo G H fp)/\aB (jo G H fp) H/\dD Z (jo G H fp) σ ρ:=by
 have c:aB G (jo G H fp):=λb o e=>by
  by_cases h:∃i,b∈fp i
  .obtain⟨i,f⟩:=h
   rw[(S.nw i b f).2.2] at e;cases e
  .rw[rA h];exact e
 refine#[c,λb o e=>?_,S.len,λi d h=>?_]
 .by_cases h:∃i,b∈fp i
  .unfold jo at e
   rw[mo h] at e
   split at e
   .next l a=>rw[a];exact e
   .next m a=>rw[a];exact e
   .cases e
  .rw[rA h] at e;exact S.ex.sub _ _ e
 .obtain⟨v,g,o⟩:=S.at_ i d h
  exact#[v,g,o.dvL c λb j u k a=>MD i j k a]
def SIx.aau(S:SIx Z B md ρ σ H G fp)(x:Ext (jo G H fp) H a g):Ext G H (uw a fp) g/\∀b d,a b\(.tup d)->uw a fp b\(.tup d):=by
 obtain⟨j,l,_⟩:=S.Uk;refine#[#[λb o e=>?_,λb o e=>?_,x.hh,λb f k=>?_],λb d e=>?_]
 .have h:¬∃i,b∈fp i:=by
   rintro⟨i,c⟩;rw[(S.nw i b c).2.2] at e;cases e
  unfold uw;rw[tz h];exact x.gg _ _ (j _ _ e)
 .unfold uw at e
  split at e
  .cases e
  .exact x.sub _ _ e
 .unfold uw
  split
  .rfl
  .next h=>exact x.off b f (by rw[rA h];exact k)
 .have h:¬∃i,b∈fp i:=by
   rintro⟨i,c⟩;have f:=(S.nw i b c).2.1;cases hw:jo G H fp b with
   |none=>rw[x.off b f hw] at e;cases e
   |some o=>
    have:=x.gg _ _ hw
    rw[e] at this;cases Da this;unfold jo at hw;rw[mo #[i,c]] at hw
    split at hw<;>cases hw
  unfold uw;rw[tz h];exact e
theorem SIx.ev{t:aQ}{P:D->Prop}(S:SIx Z B md ρ σ H G fp)(m:Bool)(h:t (Ds md m ρ) P)
  (f:∀d,P d->wb m d/\∀v b a,SIx Z B md ρ σ a b fp->Ext G H b a->Dv Z b v d->Q v a):dF Z t σ H Q:=by
 cases m with
 |false=>exact#[G,_,P,S.ex.sub,S.rO,h,λd c v b a x dv=>(f d c).2 v b a (S.grow x) x dv]
 |true=>
  obtain⟨j,i,e⟩:=S.Uk;refine#[jo G H fp,_,P,i,e,h,λd c v b a x dv=>?_];obtain⟨g,k⟩:=S.aau x;exact(f d c).2 v _ a (S.grow g) g (dv.oh k (f d c).1)
def SIx.VS(S:SIx Z B md ρ σ H G fp)(h:t ρ P)(c:∀b,P b->∀a,SIx Z B md ρ σ a G fp->Q b a):liftT Z t σ H Q:=
 #[H,ρ,P, .refl _,S.ND,h,λb d e a x=>c b d a (S.grow (Ext.all S.ex.sub x))]
def SIx.mS(S:SIx Z B md ρ σ H G fp)(l:md.getD i 0=0)(dv:Dv Z G v d):SIx Z B md (ρ.set i (some d)) (σ.set i (some v)) H G (λj=>if j=i then[] else fp j) where
 ex:=S.ex
 fl:=S.fl
 len:=by rw[gP,gP];exact S.len
 at_:=λj c h=>by
  by_cases z:i=j
  .subst z
   by_cases a:i<ρ.length
   .rw[kO a] at h
    cases Da h;exact#[v,kO (by rw[<-S.len];exact a),by rw[l,mo rfl];exact#[dv,rfl]]
   .rw[Bn (jd a),il (jd a)] at h;cases h
  .rw[jb z] at h ⊢
   rw[tz (Ne.symm z)];exact S.at_ j c h
 nd:=λj=>by split;exact iB;exact S.nd j
 ap:=λj k b ne e f=>by
  split at e
  .cases e
  .split at f
   .cases f
   .exact S.ap j k b ne e f
 nw:=λj b g=>by
  split at g
  .cases g
  .exact S.nw j b g
def SIx.FC{f:List Addr}(S:SIx Z B md ρ σ H G fp)(m:md.getD i 0=n)(o:Own Z G H n v d f)(nd:f.Nodup)(nw:∀b∈f,B.H₀ b=none/\H b≠none/\G b=none)(ap:∀b∈f,∀j,j≠i->b∉fp j):
  SIx Z B md (ρ.set i (some d)) (σ.set i (some v)) H G (λj=>if j=i then f else fp j) where
 ex:=S.ex
 fl:=S.fl
 len:=by rw[gP,gP];exact S.len
 at_:=λj c h=>by
  by_cases z:i=j
  .subst z
   by_cases e:i<ρ.length
   .rw[kO e] at h
    cases Da h;exact#[v,kO (by rw[<-S.len];exact e),by rw[m,mo rfl];exact o]
   .rw[Bn (jd e),il (jd e)] at h;cases h
  .rw[jb z] at h ⊢
   rw[tz (Ne.symm z)];exact S.at_ j c h
 nd:=λj=>by split;exact nd;exact S.nd j
 ap:=λj k b ne g a=>by
  split at g
  .next z=>
   rw[tz (λw=>ne (z.trans w.symm))] at a;exact ap b g k (λw=>ne (z.trans w.symm)) a
  .next z=>
   split at a
   .exact ap b a j z g
   .exact S.ap j k b ne g a
 nw:=λj b l=>by
  split at l
  .exact nw b l
  .exact S.nw j b l
noncomputable def plus(G H:Hp)(F:Addr->Prop):Hp:=λb=>open Classical in if F b then H b else G b
def i6(h:F b):plus G H F b=H b:=by unfold plus;rw[mo h]
def fW(h:¬F b):plus G H F b=G b:=by unfold plus;rw[tz h]
def pQ(s:aB G H):aB (plus G H F) H:=λb o e=>by
 by_cases h:F b
 .rw[i6 h] at e;exact e
 .rw[fW h] at e;exact s _ _ e
def gK(s:aB G H):aB G (plus G H F):=λb o e=>by
 by_cases h:F b
 .rw[i6 h];exact s _ _ e
 .rw[fW h];exact e
def SIx.evR(S:SIx Z B md ρ σ H G fp)(h:t ρ P)(g:∀d,P d->∀v a c,Ext B.G₀ B.H₀ a c->Dv Z a v d->Q v c):dF Z t σ H Q:=by
 let F:Addr->Prop:=λb=>∃i,b∈fp i
 have s:=S.ex.sub
 have j:Ext B.G₀ B.H₀ (plus G H F) H:=#[S.ex.gg.trans (gK s),pQ s,S.ex.hh,λb f k=>by
  rw[fW (λ#[i,l]=>f (S.nw i b l).1)];exact S.ex.off b f k]
 refine#[plus G H F,ρ,P,pQ s,#[S.len,λi d h=>?_],h,λd m v a c x dv=>g d m v a c (j.trans x) dv];obtain⟨v,n,o⟩:=S.at_ i d h;exact#[v,n,o.dv (gK s) λb f u e=>by rw[i6 #[i,f]];exact e]
end
structure fu where
 nx:DN->Prop
 rt:D->Prop
 bk:DN->Prop:=λ_=>False
 ct:DN->Prop:=λ_=>False
 xc:DN->D->Prop:=λ_ _=>False
abbrev cy:=fu->DN->Prop
structure Meets (Z:DC) (X:Cx) (B:Bs) (md:List Nat) (rn:Nat) (E:fu) (Dn:Ends):Prop where
 nx:∀ρ,E.nx ρ->∀σ H,SI Z B md ρ σ H->Dn.nx σ H
 rt:∀d,E.rt d->∀v f G' H',Ext B.G₀ B.H₀ G' H'->Own Z G' H' rn v d f->f.Nodup->(∀b∈f,B.H₀ b=none/\H' b≠none/\G' b=none)->Dn.rt v H'
 bk:∀ρ,E.bk ρ->∀σ H,SI Z B md ρ σ H->Dn.bk σ H
 ct:∀ρ,E.ct ρ->∀σ H,SI Z B md ρ σ H->Dn.ct σ H
 xc:∀ρ d,E.xc ρ d->∀σ H G fp a,SIx Z B md ρ σ H G fp->Dv Z G (.ref a) d->Jn X σ H a
def mj(Z:DC)(X:Cx)(a:List Nat)(c:Nat)(t:cy):TS:=λd e H=>∃(B:Bs)(b:DN)(E:fu),SI Z B a b e H/\t E b/\Meets Z X B a c E d
def DSt(Z:DC)(X:Cx)(a:List Nat)(b:Nat)(st:Stmt)(t:cy):Prop:=PS X st (mj Z X a b t)
def ko(Z:DC)(X:Cx)(a:List Nat)(b:Nat)(c:List Stmt)(t:cy):Prop:=jz X c (mj Z X a b t)
def PS.imp{X:Cx}{st:Stmt}{t t':TS}(h:PS X st t)(f:∀D b H,t' D b H->t D b H):PS X st t':=λa s b H D I q=>h a s b H D I (f _ _ _ q)
def jz.imp{X:Cx}{st:List Stmt}{t t':TS}(h:jz X st t)(f:∀D b H,t' D b H->t D b H):jz X st t':=λa s b H D I q=>h a s b H D I (f _ _ _ q)
section
variable {Z:DC} {X:Cx} {md:List Nat} {rn:Nat} {st:Stmt} {FN:List Stmt} {t u:cy} {e:Expr} {te:aQ} {pos:Pos}
def Vs:cy:=λE a=>E.nx a
def YR(t u:cy):cy:=λE a=>t {E with nx:=u E} a
def bM:ko Z X md rn [] Vs:=by
 refine lN.imp λD b H a=>?_;obtain⟨B,c,E,S,h,M⟩:=a;exact M.nx _ h _ _ S
def av(a:DSt Z X md rn st t)(b:ko Z X md rn FN u):ko Z X md rn (st::FN) (YR t u):=by
 refine(aC a b).imp λD k H c=>?_;rfl';obtain⟨B,f,E,S,h,M⟩:=c;ac_rfl;exact#[B,f,_,S,h,#[λg i m n j=>#[B,g,E,j,i,M],M.rt,M.bk,M.ct,M.xc]]
def aw(a:DSt Z X md rn st t):ko Z X md rn [st] t:=bB a
def t8:DSt Z X md rn st (λ_ _=>False):=by
 refine Mb.imp λD b H a=>?_;obtain⟨B,c,E,S,h,M⟩:=a;exact h
def YQ(a:aQ):cy:=λE b=>a b E.rt
def ba(a:DE Z X e te):DSt Z X md 0 (.Return (some e) pos) (YQ te):=by
 refine(gr a).imp λD l H c=>?_;rfl';obtain⟨B,n,E,⟨G,o,S⟩,h,M⟩:=c;ac_rfl;exact S.evR h λd g v i j x dv=>M.rt d g v [] i j x #[dv,rfl] iB (λb k=>by cases k)
def Vv(i:Nat):cy:=λE a=>∃d,a[i]?\(some d)/\E.rt d
def Nt(i:Nat)(f:md.getD i 0=rn:=by rfl)(g:X.N[i]?\x:=by rfl)(a:nz X.env.scope x:=by subst_eqs)(b:(x==("__debug__":Str))=false:=by decide)(j:(x==("__classdict__":Str))=false:=by decide):
  DSt Z X md rn (.Return (some (.Name x c)) pos) (Vv i):=by
 refine(gr (CW g a b j)).imp λD n H k=>?_;rfl';obtain⟨B,q,E,⟨G,m,S⟩,⟨d,b,h⟩,M⟩:=k;obtain⟨v,a,o⟩:=S.at_ i d b;rw[f] at o;ac_rfl;exact#[v,a,M.rt d h v (m i) G H S.ex o (S.nd i) (S.nw i)]
def YE(c:c9)(t u:cy):cy:=λE a=>c a λb=>if b=true then t E a else u E a
def eB(k:DT Z X c f)(l:ko Z X md rn a t)(d:ko Z X md rn b u):DSt Z X md rn (.If c a b pos) (YE f t u):=by
 refine(uE k l d).imp ?_;intro D o H m;rfl';obtain⟨B,g,E,⟨G,i,S⟩,h,M⟩:=m;ac_rfl;refine S.VS h λb d q j=>?_;cases b with
 |true=>exact dU #[B,g,E,#[G,i,j],(d),M]
 |false=>exact dS #[B,g,E,#[G,i,j],(d),M]
def Ue(b:List Nat)(m:Bool)(i:Nat)(c:aQ):cy:=λE a=>c (Ds b m a) λd=>wb m d/\E.nx (a.set i (some d))
def b8(m:Bool)(i:Nat)(g:X.N.Nodup)(j:DE Z X e k)(l:c.getD i 0=0:=by rfl)(n:X.N[i]?\x:=by rfl)(o:Loc X.env.scope x:=by subst_eqs)(p:swapsWith e (some (.Name x a)) b.line X.env=pure false:=by rfl)
  (q:X.fn x=true\/X.env.scope.names.lookup x\.local:=by subst_eqs):DSt Z X c z (.Assign [.Name x a] e b) (Ue c m i k):=by
 refine(bP g n o j p q).imp ?_;intro D A H r;rfl';obtain⟨B,F,E,⟨G,I,S⟩,h,M⟩:=r;ac_rfl;exact S.ev m h λd f=>#[f.1,λv w J y x dv=>M.nx _ f.2 _ _ #[w,_,y.mS l dv]]
def Ak(i:Nat){NC:List Str}{src:List (Option Nat)}(q:X.calm=true)(r:X.N.Nodup)(c:br X a)(w:cS a X.N src NC)(y:DI Z X k iter n)
  (z:∀j s H,DG Z (bA X a NC j s H) k g) (A:∀j s H,zh Z (bA X a NC j s H) f o) (C:∀j s H,DE Z (bA X a NC j s H) b te)
  (F:swapsWith (.ListComp b [#[k,iter,f,0]] a pos) (some (.Name x l)) m.line X.env=pure true:=by rfl) (I:md.getD i 0=0:=by rfl) (J:X.N[i]?\x:=by rfl) (L:Loc X.env.scope x:=by subst_eqs)
  (O:X.fn x=true\/X.env.scope.names.lookup x\.local:=by subst_eqs)
  (P:∀x,foldedSetIterable iter X.env x=pure x:=by intro _;rfl):DSt Z X md rn (.Assign [.Name x l] (.ListComp b [#[k,iter,f,0]] a pos) m) (Ue md false i (Vp n g o te src)):=by
 refine(jN q r J L c w y z A C F O P).imp ?_;intro D Q H R;rfl';obtain⟨B,u,E,⟨G,fp,S⟩,h,M⟩:=R;ac_rfl;refine JM Q H _ (S.ev false h λd p=>#[p.1,λv Y H' e x dv=>M.nx _ p.2 _ _ #[Y,_,e.mS I dv]])
end
end L2
namespace L2
open PySem PySem.Spec PyProof.Rows
section
variable {Z:DC} {X:Cx} {B:Bs} {md:List Nat} {rn:Nat} {ρ:DN} {σ:St} {H G:Hp} {fp:Nat->List Addr}
def JL(Z:DC)(a:List Nat)(g:dZ):TG:=λv f H Q=>∃(B:Bs)(b:DN)(d:D)(P:DN->Prop)(G:Hp)(h:Nat->List Addr),SIx Z B a b f H G h/\Dv Z G v d/\g d b P/\∀c,P c->∀e i,SIx Z B a c e H G i->Q e H
def OW(Z:DC)(a:List Nat)(g:mJ):zj:=λf h H Q=>∃(B:Bs)(b:DN)(c:List D)(P:DN->Prop)(G:Hp)(i:Nat->List Addr),SIx Z B a b h H G i/\DvAll Z G f c/\g c b P/\∀d,P d->∀e j,SIx Z B a d e H G j->Q e H
def F8(Z:DC)(X:Cx)(a:List Nat)(e:Expr)(g:dZ):Prop:=PG X e (JL Z a g)
def Jl(Z:DC)(X:Cx)(a:List Nat)(b:List Expr)(g:mJ):Prop:=Bv X b (OW Z a g)
def aK(i:Nat)(b:X.N.Nodup)(c:e.getD i 0=0:=by rfl)(f:X.N[i]?\x:=by rfl)(g:Loc X.env.scope x:=by subst_eqs)(j:X.fn x=true\/X.env.scope.names.lookup x\.local:=by subst_eqs):F8 Z X e (.Name x a) (jB i):=by
 refine(cn b f g j).imp λv m H Q k=>?_;rfl';obtain⟨B,o,d,P,G,p,S,dv,h,q⟩:=k;ac_rfl;exact q _ h _ _ (S.mS c dv)
def cQ:Jl Z X md [] Gy:=by
 refine lM.imp λv c H Q a=>?_;rfl';obtain⟨B,e,f,P,G,g,S,dv,⟨h,p⟩,q⟩:=a;subst h;cases dv;ac_rfl;exact#[rfl,q _ p _ _ S]
def aP(d:F8 Z X md e g)(f:Jl Z X md b c)(i:(assignEach (e::b) X.env).map (·.2)=assign e X.env::(assignEach b X.env).map (·.2):=by rfl):Jl Z X md (e::b) (v9 g c):=by
 refine(ft d f i).imp ?_;intro v t H Q j;rfl';obtain⟨B,l,w,P,G,m,S,dv,h,q⟩:=j;ac_rfl;cases dv with
 |nil=>exact h.elim
 |cons a n=>exact#[_,_,rfl,B,l,_,_,G,m,S,a,h,λo p x r s=>#[B,o,_,P,G,r,s,n,p,q]]
def fA(n:Nat)(f:X.calm=true)(h:Jl Z X md b e)(g:(assignEach b X.env).length=n:=by rfl)(i:(assignEach b X.env).findIdx? (·.1)=none:=by rfl):F8 Z X md (.Tuple b k c) (Gz n e):=by
 refine(pP f h g i).imp ?_;rintro v p H Q ⟨B,j,d,P,G,l,S,dv,h,q⟩;cases dv<;>first|exact h.elim|skip
 rename_i a m r o b
 exact#[a,m,rfl,fe.of (S.ex.sub _ _ o),by rw[b.length];exact h.1,B,j,_,P,G,l,S,b,h.2,q]
def YC(b:List Nat)(c:aQ)(g:dZ):cy:=λE a=>c (cf b a) λd=>g d a E.nx
def Jw(i:DE Z X e c)(j:F8 Z X md a g)(k:swapsWithSole [a] e b.line X.env=pure false:=by rfl)(hw:swappedStores [a] e X.env=pure none:=by rfl)
  (l:(assignEach [a] X.env).map (·.2)= [assign a X.env]:=by rfl):DSt Z X md rn (.Assign [a] e b) (YC md c g):=by
 refine(pR i j k hw l).imp ?_;intro D w H m;rfl';obtain⟨B,o,E,⟨G,p,S⟩,h,M⟩:=m;ac_rfl;exact S.ev false h λd q=>#[trivial,λv f z r x dv=>#[B,o,d,E.nx,f,p,r,dv,q,λA s C t u=>M.nx _ s _ _ #[f,t,u]]]
def ju(g:dZ)(a:cy)(E:fu):List D->DN->Prop
 | [],b=>E.nx b
 |x::c,b=>g x b λd=>a {nx:=ju g a E c,ct:=ju g a E c,bk:=E.nx,rt:=E.rt,xc:=E.xc} d
def Ua(b:List Nat)(m:Bool)(c:iU)(g:dZ)(d:cy):cy:=λE a=>c (Ds b m a) λe=>ju g d E e a
def ub(S:SIx Z B md h c H G fp)(O:wz Z G J k)(P:ju g r E k h)(M:Meets Z X B md rn E q):
  ∃W:Nat->Nat->St->Hp->Prop,(∃m,W 0 m c H)/\∀i m c H,W i m c H->
   (J.stop i H/\q.nx c H)\/(J.go i H/\∃N:St->Hp->Prop,(∀j a,N j a->∃F,F<m/\W (i+1) F j a)/\∀x a,J.yld i H x a->JL Z md g x c a λI v=>mj Z X md rn r {q with nx:=N,ct:=N,bk:=q.nx} I v):=by
 let p:Bs:={B with Gf:=G}
 have back:∀h c H,SI Z p md h c H->SI Z B md h c H:=λh c H #[s,t,f]=>#[s,t,#[f.ex,S.fl.trans f.fl,f.len,f.at_,f.nd,f.ap,f.nw]];have Q:SIx Z p md h c H G fp:=#[S.ex, .refl _,S.len,S.at_,S.nd,S.ap,S.nw];refine#[λi m c H=>m=k.length-i/\i<=k.length/\∃h,SI Z p md h c H/\ju g r E (k.drop i) h,#[_,rfl,dA _,h,#[G,fp,Q],P],?_];intro i m I v R;rfl';obtain⟨rfl,hi,Y,⟨s,t,f⟩,u⟩:=R;obtain⟨go,stop,yld⟩:=O s v f.fl f.ex.sub i;ac_rfl
 by_cases z:i<k.length
 .refine .inr #[go z,λj a=>∃l,SI Z p md l j a/\ju g r E (k.drop (i+1)) l,λj a n=>#[k.length-(i+1),(),rfl,z,n],λx a y=>?_]
  rfl';obtain⟨L,d,x3,GY,dv⟩:=yld x a z y;rw[lq GY] at u;ac_rfl;refine#[p,Y,d,_,L,t,f.grow x3,dv,u,λA h4 dY C S4=>?_];exact#[p,A,_,#[L,C,S4],h4,#[λl o j a b=>#[l,b,o],M.rt,λl o j a b=>M.nx _ o _ _ (back _ _ _ b),λl o j a b=>#[l,b,o],λl d o j a G' qH a' b nJ=>M.xc l d o j a G' qH a' #[b.ex,S.fl.trans b.fl,b.len,b.at_,b.nd,b.ap,b.nw] nJ]]
 .have e:k.drop i= []:=y0 ()
  rw[e] at u;exact .inl #[stop (),M.nx _ u _ _ (back _ _ _ #[s,t,f])]
variable {tg iter:Expr} {body:List Stmt} {wi:iU} {g:dZ} {tb:cy} {pos:Pos}
def df(a:X.calm=true)(b:PassesOwn (model X.prog X.w) X.A X.env X.xe)(c:DI Z X tg iter wi)(d:F8 Z X md tg g)(e:ko Z X md rn body tb)
  (f:∀x,foldedSetIterable iter X.env x=pure x:=by intro _;rfl):DSt Z X md rn (.For tg iter body [] pos) (Ua md false wi g tb):=by
 refine(iR b a c d e f).imp ?_;intro D n H i;rfl';obtain⟨B,p,E,⟨G,q,S⟩,h,M⟩:=i;ac_rfl;exact#[G,_,_,S.ex.sub,S.rO,h,λr k J s t l m=>ub (S.grow l) m k M]
def Sb(Z:DC)(d:iU):TI:=λe H R=>∃(G:Hp)(a:DN)(P:List D->Prop),aB G H/\dD Z G e a/\d a P/\∀b,P b->∀J f c,Ext G H f c->(∀h,wz Z h J b)->R J c
def Yf(Z:DC)(X:Cx)(a e:Expr)(b:iU):Prop:=PI X a e (Sb Z b)
def Nr(a:X.calm=true)(b:PassesOwn (model X.prog X.w) X.A X.env X.xe)(c:Yf Z X tg iter wi)(d:F8 Z X md tg g)(e:ko Z X md rn body tb)
  (f:∀x,foldedSetIterable iter X.env x=pure x:=by intro _;rfl):DSt Z X md rn (.For tg iter body [] pos) (Ua md true wi g tb):=by
 refine(iR b a c d e f).imp ?_;intro D o H i;rfl';obtain⟨B,k,E,⟨G,q,S⟩,h,M⟩:=i;ac_rfl;exact#[H,k,_, .refl _,S.ND,h,λr l J s t m n=>ub (S.grow (Ext.all S.ex.sub m)) (n _) l M]
variable {a b e:Expr} {ta te:aQ} {t:gS}
def GB(d:Gl X "range")(f:X.mg "range"=none)(i:DA Z X [a] t)(j:starEach [a] X.env= [(false,eval a X.env)]:=by rfl):Yf Z X tg (.Call (.Name "range" p) [a] [] pos) (Ug t):=by
 refine(j8 d f i j).imp ?_;intro v H Q k;rfl';obtain⟨G,m,P,s,n,h,q⟩:=k;ac_rfl;refine#[G,m,_,s,n,h,λx c y o r u dv=>?_]
 split at c
 .obtain⟨_,rfl,a⟩:=dv.ofOne
  exact#[_,by rw[a.ofInt],c.1.1,c.1.2,q _ c.2 _ o r u λ_=>AG 0 _]
 .exact c.elim
def Js(c:c9)(i:cy):cy:=λE d=>∃W:Nat->DN->Prop,(∃m,W m d)/\∀m d,W m d->c d λb=>if b=true then i {nx:=λh=>∃f,f<m/\W f h,ct:=λh=>∃f,f<m/\W f h,bk:=E.nx,rt:=E.rt,xc:=E.xc} d else E.nx d
def t9(C:PassesOwn (model X.prog X.w) X.A X.env X.xe)(F:DT Z X c s)(l:ko Z X md rn body tb):DSt Z X md rn (.While c body [] pos) (Js s tb):=by
 refine(A6 C F l).imp ?_;intro D u H p;rfl';obtain⟨B,n,E,S,⟨W,⟨J,L⟩,h⟩,M⟩:=p;ac_rfl;refine#[λm u H=>∃n,SI Z B md n u H/\W m n,#[J,n,S,L],?_];intro m Q R p;rfl';obtain⟨v,⟨x,y,N⟩,O⟩:=p;ac_rfl;refine N.VS (h m v O) λb l i z=>?_;cases b with
 |false=>exact dS (M.nx _ (l) _ _ #[x,y,z])
 |true=>
  refine dU #[λo i=>∃d f,f<m/\SI Z B md d o i/\W f d,λo i #[d,f,j,k,P]=>#[f,j,d,k,P],B,v,_,#[x,y,z],(l),?_];exact#[λd #[f,j,k] o i r=>#[d,f,j,r,k],M.rt,M.nx,λd #[f,j,k] o i r=>#[d,f,j,r,k],M.xc]
abbrev pY:=DN->(List D->Prop)->Prop
def Cv(Z:DC)(n:Nat)(t:pY):TE:=λj H Q=>∃(G:Hp)(h:DN)(P:List D->Prop),aB G H/\dD Z G j h/\t h P/\∀i,P i->∀v f d c,Ext G H d c->Own Z d c n v (.lst i) f->f.Nodup->(∀b∈f,H b=none/\c b≠none/\d b=none)->Q v c
def DF(Z:DC)(X:Cx)(n:Nat)(e:Expr)(t:pY):Prop:=PE X e (Cv Z n t)
def Ext.side(x:Ext G H d c)(f:c p=none):Ext G H d (upd c p o):=
 #[x.gg,λb u e=>by rw[ag (ao e (x.sub.free f))];exact x.sub _ _ e,x.hh.trans (ay f _),x.off]
def Pp(x:Ext G H d f)(i:f p=none)(dv:DvAll Z d c h):
  Own Z d (upd f p (.lst c)) 1 (.ref p) (.lst h) [p]/\([p]:List Addr).Nodup/\∀b∈([p]:List Addr),H b=none/\(upd f p (.lst c)) b≠none/\d b=none:=by
 refine#[.inl #[p,c,h,[],rfl,rfl,af,rfl,dv.own],by simp,λb j=>?_]
 have:b=p:=by simpa using j
 subst this;exact#[x.hh.free i,(af▸λz=>nomatch z),x.sub.free i]
def Y8(t:gS):pY:=λd P=>t d λc=>c.length<=sizeLine/\P c
def gY(h:DA Z X c t):DF Z X 1 (.List c pos) (Y8 t):=by
 refine(fC h).imp ?_;intro v H Q j;rfl';obtain⟨G,l,P,s,e,h,q⟩:=j;ac_rfl;exists G,l,_,s,e,h;rintro x ⟨m,n⟩ y z A d f;refine#[by rw[f.length];exact m,λp i=>?_]
 obtain⟨o,r,u⟩:=Pp d i f;exact q _ n _ _ _ _ (d.side i) o r u
def VT(d:iU)(g:dZ)(f:c9)(h:aQ)(src:List (Option Nat)):pY:=λc P=>d c λi=>lcW g f h i (yy src c) [] λ_ out=>P out
def E4:∀u H Q,Cv Z 1 (VT wi g r te src) u H Q->Tu (qS Z wi) (n4 Z g) (liftT Z r) (dF Z te) src u H Q:=by
 intro u H Q O;rfl';obtain⟨G,S,P,s,w,h,q⟩:=O;ac_rfl;refine#[G,S,_,s,w,h,λf T J C Y d E j x=>?_];refine#[λi m y k=>m=f.length-i/\i<=f.length/\∃o acc,CS Z C Y j o acc y k/\lcW g r te (f.drop i) o acc λ_ out=>P out,#[_,rfl,dA _,_,[], .begin d.sub x ((w.mono d.gg).src src),T],?_];rintro i m y k ⟨rfl,hi,o,acc,c,A⟩
 by_cases F:i<f.length
 .obtain⟨a,l⟩:=AS x C E i o acc y k c (λ_ s=>s) F A
  exact .inr #[a,_,λax H' n=>#[f.length-(i+1),(),rfl,F,n],l]
 .have e:f.drop i= []:=y0 ()
  rfl';rw[e] at A;obtain⟨I,t,L,M,B,off,X,N,bx,w⟩:=c;ac_rfl;refine .inl #[(E I k L M i).2.1 (),q _ A (.ref j) [j] I k #[d.gg.trans L,M,d.hh.trans B,λb p hg=>off b (fM d.hh p) (d.off b p hg)] (.inl #[j,t,acc,[],rfl,rfl,N,rfl,bx.own]) (by simp) λb p=>?_]
  have:b=j:=by simpa using p
  subst this;exact#[d.hh.free x,(by rw[N];exact λz=>nomatch z),X]
variable {elt:Expr} {ifs:List Expr} {scope:Scope} {NC:List Str} {src:List (Option Nat)} {tt:c9}
def Ud(d:List Nat)(i:Nat)(t:pY):cy:=λE c=>t (cf d c) λf=>E.nx (c.set i (some (.lst f)))
def A1{t:pY}(p:md.getD i 0=n)(S:SIx Z B md ρ σ H G fp)(h:t (cf md ρ) λl=>E.nx (ρ.set i (some (.lst l))))(M:Meets Z X B md rn E k):Cv Z n t σ H λv m=>k.nx (σ.set i (some v)) m:=by
 refine#[G,_,_,S.ex.sub,S.rO,h,λl q v f r m x o s d=>?_];refine M.nx _ q _ _ #[r,_,(S.grow x).FC p o s (λb c=>#[S.ex.hh.free (d b c).1,(d b c).2]) λb c j _ u=>(S.nw j b u).2.1 (d b c).1]
def gZ(i:Nat){t:pY}(j:X.N.Nodup)(k:DF Z X n e t)(l:f.getD i 0=n:=by rfl)(m:X.N[i]?\x:=by rfl)(o:Loc X.env.scope x:=by subst_eqs)(p:swapsWith e (some (.Name x c)) d.line X.env=pure false:=by rfl)
  (q:X.fn x=true\/X.env.scope.names.lookup x\.local:=by subst_eqs):DSt Z X f u (.Assign [.Name x c] e d) (Ud f i t):=by
 refine(bP j m o k p q).imp ?_;intro D v H r;rfl';obtain⟨B,y,E,⟨G,z,S⟩,h,M⟩:=r;ac_rfl;exact A1 l S h M
def KO(i:Nat)(k:X.calm=true)(l:X.N.Nodup)(c:br X scope)(m:cS scope X.N src NC)(n:DI Z X tg iter wi)
  (o:∀d s H,DG Z (bA X scope NC d s H) tg g) (p:∀d s H,zh Z (bA X scope NC d s H) ifs tt) (q:∀d s H,DE Z (bA X scope NC d s H) elt te)
  (r:swapsWith (.ListComp elt [#[tg,iter,ifs,0]] scope pos) (some (.Name x f)) j.line X.env=pure true:=by rfl) (u:md.getD i 0=1:=by rfl) (v:X.N[i]?\x:=by rfl) (w:Loc X.env.scope x:=by subst_eqs)
  (y:X.fn x=true\/X.env.scope.names.lookup x\.local:=by subst_eqs)
  (z:∀x,foldedSetIterable iter X.env x=pure x:=by intro _;rfl):DSt Z X md rn (.Assign [.Name x f] (.ListComp elt [#[tg,iter,ifs,0]] scope pos) j) (Ud md i (VT wi g tt te src)):=by
 refine(jN k l v w c m n o p q r y z).imp ?_;intro D A H C;rfl';obtain⟨B,J,E,⟨G,L,S⟩,h,M⟩:=C;ac_rfl;exact E4 A H _ (A1 u S h M)
end
section
variable {Z:DC} {X:Cx} {B:Bs} {md:List Nat} {rn:Nat} {ρ:DN} {σ:St} {H G:Hp} {fp:Nat->List Addr} {a e k o:Expr} {ta te tk tp:aQ} {pos apos aN p2:Pos}
def SIx.mut{b:Addr}(S:SIx Z B md ρ σ H G fp)(r:σ[i]?\(some v))(n:b∈fp i)(o:Own Z G (upd H b c) (md.getD i 0) v m (fp i)):SIx Z B md (ρ.set i (some m)) σ (upd H b c) G fp where
 ex:=by
  obtain⟨d,p,f⟩:=S.nw i b n;exact#[S.ex.gg,λx u e=>by rw[ag (ao e f)];exact S.ex.sub _ _ e,λx u e=>by rw[ag (ao e d)];exact S.ex.hh _ _ e,S.ex.off]
 fl:=S.fl
 len:=by rw[gP];exact S.len
 at_:=λj w h=>by
  by_cases z:i=j
  .subst z
   by_cases g:i<ρ.length
   .rw[kO g] at h
    cases Da h;exact#[v,r,o]
   .rw[Bn (jd g),il (jd g)] at h;cases h
  .rw[jb z] at h
   obtain⟨u,s,t⟩:=S.at_ j w h;exact#[u,s,t.keep (.refl _) λx l=>ag λq=>S.ap i j b z n (q▸l)]
 nd:=S.nd
 ap:=S.ap
 nw:=λj x l=>by
  obtain⟨d,p,f⟩:=S.nw j x l;refine#[d,?_,f]
  by_cases z:x=b
  .rw[z,af];exact λq=>nomatch q
  .rw[ag z];exact p
theorem SIx.one{i:Nat}{d:D}(S:SIx Z B md ρ σ H G fp)(j:md.getD i 0=1)(h:ρ[i]?\(some d)):∃l b c,d= .lst c/\σ[i]?\(some (.ref l))/\H l\(.lst b)/\DvAll Z G b c/\
  ∀f g,DvAll Z G f g->SIx Z B md (ρ.set i (some (.lst g))) σ (upd H l (.lst f)) G fp:=by
 rfl';obtain⟨v,m,o⟩:=S.at_ i d h;rw[j] at o;obtain⟨l,b,c,u,rfl,rfl,q,n,r⟩:=o.one;obtain⟨dv,rfl⟩:=r.flat;ac_rfl;refine#[l,b,c,rfl,m,q,dv,λf g s=>S.mut m (by rw[n];simp) ?_]
 rw[j,n];exact .inl #[l,f,g,[],rfl,rfl,af,rfl,s.own]
def ty_list{K:ad}{l:Addr}{b:List V}(h:H l\(.lst b)):TJ K "list" (.ref l) H:= .inl #[rfl,_,aG.of h]
def YB(f:List Nat)(m:Bool)(i:Nat)(g:aQ):cy:=λE b=>∃c,b[i]?\(some (.lst c))/\g (Ds f m b) λd=>wb m d/\c.length<sizeLine/\E.nx (b.set i (some (.lst (c++ [d]))))
def iP(m:Bool)(i:Nat)(t:DE Z X e te)(g:md.getD i 0=1:=by rfl)(u:X.N[i]?\x:=by rfl)(w:nz X.env.scope x:=by subst_eqs)(f:(x==("__debug__":Str))=false:=by decide)(y:(x==("__classdict__":Str))=false:=by decide)
  (z:attributeBase (.Name x b) "append" X.env (eval (.Name x b) X.env)=eval (.Name x b) X.env:=by rfl)
  (A:((backTo aN (starEach [e] X.env)).all (λx=>!x.1)&&(backToKw aN (keywordEach [] X.env)).all (λx=>x.1.isSome)&&decide (([e]:List Expr).length+([]:List Keyword).length+(if ([]:List Keyword).isEmpty then 0 else 1)<30))=true:=by rfl)
  (C:(apos.endLine==aN.line)=true:=by rfl) (j:starEach [e] X.env=(false,eval e X.env)::starEach [] X.env:=by rfl) (F:(backTo aN (starEach [] X.env)).any (·.1)=false:=by rfl)
  (I:swapsWith (.Call (.Attribute (.Name x b) "append" apos) [e] [] aN) none pos.line X.env=pure false:=by rfl):
  DSt Z X md rn (.Expr (.Call (.Attribute (.Name x b) "append" apos) [e] [] aN) pos) (YB md m i te):=by
 refine(cY (gF GM abX abY iJ (pv i u w f y) (ah t az j) z A C j F) I).imp ?_;intro D o H J;rfl';obtain⟨B,ρ,E,⟨G,L,S⟩,⟨ds,p,h⟩,M⟩:=J;ac_rfl;rfl';obtain⟨l,xs,_,_,q,O,_⟩:=S.one g p;ac_rfl;refine#[_,q,ty_list O,S.ev m h λd f=>#[f.1,λv P H' Q x dv=>?_]];rfl';obtain⟨_,R,T⟩:=f;obtain⟨l',Y,rK,a,r,k,s,put⟩:=Q.one g p;cases a;ac_rfl;rw[q] at r;cases r;exact#[l,Y,v,rfl,rfl,k,by rw[s.length];exact R,M.nx _ T _ _ #[P,L,put _ _ (s.snoc dv)]]
def QX(f:List Nat)(m:Bool)(i:Nat)(g h:aQ):cy:=λE b=>h (Ds f m b) λd=>wb m d/\∃c,b[i]?\(some (.lst c))/\g b λl=>∃k j,l= .int k/\m8 c.length k\j/\E.nx (b.set i (some (.lst (c.set j d))))
def Aj(m:Bool)(i:Nat)(z:DE Z X k tk)(A:DE Z X e te)(r:md.getD i 0=1:=by rfl)(C:X.N[i]?\x:=by rfl)(F:nz X.env.scope x:=by subst_eqs)(g:(x==("__debug__":Str))=false:=by decide)(I:(x==("__classdict__":Str))=false:=by decide)
  (J:∀v,assign (.Subscript (.Name x b) k c) X.env v=(do
   let n <-holding [v] (eval (.Name x b) X.env)
   let q <-holding [v,n] (eval k X.env)
   standAt c
   holding [v,n,q] (setItem n q v)
   release [v,n,q] []):=by intro _;rfl)
  (L:swapsWithSole [.Subscript (.Name x b) k c] e pos.line X.env=pure false:=by rfl) (hw:swappedStores [.Subscript (.Name x b) k c] e X.env=pure none:=by rfl)
  (p:(assignEach [.Subscript (.Name x b) k c] X.env).map (·.2)= [assign (.Subscript (.Name x b) k c) X.env]:=by rfl):DSt Z X md rn (.Assign [.Subscript (.Name x b) k c] e pos) (QX md m i tk te):=by
 refine(pR A (CY (pv i C F g I) z set_list J) L hw p).imp ?_;intro D σ H O;rfl';obtain⟨B,ρ,E,⟨G,P,S⟩,h,M⟩:=O;ac_rfl;refine S.ev m h λd g=>#[g.1,λv G' H' t x dv=>?_];rfl';obtain⟨_,ds,p,h⟩:=g;obtain⟨l,xs,_,_,u,e3,_⟩:=t.one r p;ac_rfl;refine#[_,u,t.ev true h ?_];rintro _ ⟨k,j,rfl,Q,R⟩;refine#[rfl,λv1 T H1 Y a o=>?_];rfl';cases o.ofInt;obtain⟨l',tF,rK,e1,w,Nz,y,put⟩:=Y.one r p;cases e1;ac_rfl;rw[u] at w;cases w;exact#[l,tF,k,j,rfl,rfl,Nz,by rw[y.length];exact Q,M.nx _ R _ _ #[T,P,put _ _ (y.set (dv.mono a.gg) j)]]
def YO(f:List Nat)(i j:Nat):cy:=λE b=>∃c d,b[j]?\(some (.lst (c++ [d])))/\E.nx ((b.set j (some (.lst c))).set i (some d))
def Q9(i j:Nat)(u:X.N.Nodup)(w:f.getD i 0=0:=by rfl)(z:f.getD j 0=1:=by rfl)(A:X.N[i]?\x:=by rfl)(C:Loc X.env.scope x:=by subst_eqs)
  (I:X.N[j]?\y:=by rfl) (J:nz X.env.scope y:=by subst_eqs) (L:(y==("__debug__":Str))=false:=by decide) (O:(y==("__classdict__":Str))=false:=by decide)
  (P:attributeBase (.Name y py) "pop" X.env (eval (.Name y py) X.env)=eval (.Name y py) X.env:=by rfl) (Q:(b.endLine==r.line)=true:=by rfl)
  (R:swapsWith (.Call (.Attribute (.Name y py) "pop" b) [] [] r) (some (.Name x q)) g.line X.env=pure false:=by rfl)
  (T:X.fn x=true\/X.env.scope.names.lookup x\.local:=by subst_eqs):DSt Z X f rn (.Assign [.Name x q] (.Call (.Attribute (.Name y py) "pop" b) [] [] r) g) (YO f i j):=by
 refine(bP u A C (JP GM PySem.F.slot_list_pop PySem.F.type_list_pop Sf (pv j I J L O) P Q) R T).imp ?_;intro D σ H Y;rfl';obtain⟨B,ρ,E,⟨G,fp,S⟩,⟨n,d,e,h⟩,M⟩:=Y;ac_rfl;rfl';obtain⟨l,c,rK,k,o,s,p,put⟩:=S.one z e;cases k;have t:c.length=n.length+1:=by rw[p.length];simp
 obtain⟨v,uo,dv⟩:=p.get (i:=c.length-1) (d:=d) (by rw[t];simp)
 ac_rfl;refine#[_,o,ty_list s,l,c,v,rfl,rfl,s,uo,M.nx _ h _ _ #[G,_,(put c.dropLast n ?_).mS w dv]]
 have:=p.take n.length
 rw[List.take_left'] at this
 .rw[List.dropLast_eq_take,t];exact this
 .rfl
def SIx.JX(S:SIx Z B md ρ σ H G fp)(h:ρ[j]?\(some d)):∃v,σ[j]?\(some v)/\Dv Z (plus G H λb=>b∈fp j) v d/\SIx Z B md (ρ.set j none) σ H (plus G H λb=>b∈fp j) (λk=>if k=j then[] else fp k):=by
 have s:=S.ex.sub;obtain⟨v,m,o⟩:=S.at_ j d h;refine#[v,m,o.dv (gK s) λb g u e=>by rw[i6 g];exact e,?_]
 refine#[#[S.ex.gg.trans (gK s),pQ s,S.ex.hh,λb g n=>?_],S.fl.trans (gK s),by rw[gP];exact S.len,λk c f=>?_,λk=>by split;exact iB;exact S.nd k,λk p b ne f i=>?_,λk b g=>?_]
 .rw[fW (λz=>g (S.nw j b z).1)];exact S.ex.off b g n
 .by_cases z:j=k
  .subst z
   by_cases l:j<ρ.length
   .rw[kO l] at f;cases f
   .rw[Bn (jd l),il (jd l)] at f;cases f
  .rw[jb z] at f
   obtain⟨u,q,r⟩:=S.at_ k c f;exact#[u,q,by rw[tz (Ne.symm z)];exact r.keep (gK s) λ_ _=>rfl]
 .split at f
  .cases f
  .split at i
   .cases i
   .exact S.ap k p b ne f i
 .split at g
  .cases g
  .next z=>
   obtain⟨t,x,y⟩:=S.nw k b g;exact#[t,x,by rw[fW (λw=>S.ap k j b z g w)];exact y]
end
structure Yd (mg:Str->Option Value):Prop where
 len:mg "len"=none
 range:mg "range"=none
 max:mg "max"=none
 min:mg "min"=none
 enumerate:mg "enumerate"=none
 zip:mg "zip"=none
 sorted:mg "sorted"=none
 all:mg "all"=none
 isinstance:mg "isinstance"=none
 int:mg "int"=none
 bool:mg "bool"=none
 list:mg "list"=none
 tuple:mg "tuple"=none
 sum:mg "sum"=none
 reversed:mg "reversed"=none
def D8:bootBuiltins "bool"\(.type "bool"):=by decide+kernel
def QM:bootBuiltins "int"\(.type "int"):=by decide+kernel
def nE:bootBuiltins "list"\(.type "list"):=by decide+kernel
def QK:bootBuiltins "all"\(.builtin "all"):=by decide+kernel
def jT:bootBuiltins "sorted"\(.builtin "sorted"):=by decide+kernel
def kD:bootBuiltins "len"\(.builtin "len"):=by decide+kernel
section
variable {P:Program} {w:World} {K:ad} {mg:Str->Option Value} {base:Heap} {Z:DC}
noncomputable def iT(N:List Str)(a:List D):DN:=a.map some++bu (N.length-a.length) none
def j4(Z:DC)(n:Nat)(g:c8):Sp:=λh H Q _=>∃(G:Hp)(e:List D)(P:D->Prop),aB G H/\DvAll Z G h e/\g e P/\∀d,P d->∀v f c a,Ext G H c a->Own Z c a n v d f->f.Nodup->(∀b∈f,H b=none/\a b≠none/\c b=none)->Q v a
def Own.pure(x:Ext G H c a)(o:Own Z c a n v d f)(i:∀b∈f,H b=none/\a b≠none/\c b=none):∃h,Ext G H h a/\Dv Z h v d:=by
 refine#[plus c a λb=>b∈f,#[x.gg.trans (gK x.sub),pQ x.sub,x.hh,λb g j=>?_],o.dv (gK x.sub) λb g u e=>by rw[i6 g];exact e]
 rw[fW (λz=>g (i b z).1)];exact x.off b g j
def spF:∀a H Q E,aY Z b a H Q E->j4 Z n b a H Q E:=by
 intro a H Q E c;rfl';obtain⟨G,g,P,s,dv,h,q⟩:=c;ac_rfl;exact#[G,g,P,s,dv,h,λd i v f t j x o u k=>let #[l,m,p]:=o.pure x k;q d i v l j m p]
theorem Au(l:Nat){x a:Str}{st:Stmt}{f:Addr}{n:FuncData}{N g:List Str}{k:Nat}{m:c8}(F:qy K x a st f n)(S:aE N g (aq st))(o:List Nat)(u:∀i,i<g.length->o.getD i 0=0)(len:∀c P,m c P->c.length=g.length)
  (y:∀(j:Value)(A:Around)(outer:List Env)(s:Shared)(H:Hp)(E:XK)(c:List D)(R:D->Prop),bJ k (A.deeper (envOfC a (aq st) s.heap.objs.size f j))->m c R->
   ∃t,ko Z (jt bQ P w K mg base N a (aq st) f j A outer s H E).ku o l (cW st) t/\t {nx:=λ_=>l=0/\R .aL,rt:=R} (iT N c)):FnOk P w K mg base bQ (k+1) f n g (j4 Z l m):=by
 refine F.ok S (λB H Q E h=>?_) (λj A outer s H B Q E C h=>?_)
 .obtain⟨G,c,R,s,dv,h,q⟩:=h
  rw[dv.length];exact len _ _ h
 rfl';obtain⟨G,c,R,J,dv,h,q⟩:=h;have L:=q;obtain⟨t,M,O⟩:=y j A outer s H E c R C h;have hl:=len _ _ h;ac_rfl;refine#[_,M,#[G,H,G],_,_,#[G,λ_=> [],?_],O,#[λρ p ax T #[X,fp,Y]=>q _ p.2 _ [] X T Y.ex (by rw[p.1];exact#[.aL,rfl]) iB (λb hb=>by cases hb),L,λ_ z=>z.elim,λ_ z=>z.elim,λ_ _ z=>z.elim]]
 refine#[.refl J, .refl _,by unfold iT start;simp[dv.length],λi d e=>?_,λ_=>iB,(λ_ _ _ _ z=>by cases z),(λ_ _ z=>by cases z)]
 unfold iT at e
 have r:i<c.length:=by
  apply FS;intro z;rw[iz (~~~jd z),tH] at e
  split at e<;>cases e
 rw[fY (~~~r),dJ] at e
 have f9:c[i]?\d:=by
  cases z:c[i]? with
  |none=>rw[z] at e;cases e
  |some d'=>rw[z] at e;cases e;rfl
 obtain⟨v,hv,nJ⟩:=dv.get f9;refine#[v,?_,by rw[u i ()];exact#[nJ,rfl]]
 unfold start;rw[fY (by simpa [dv.length] using r),dJ,hv];rfl
def bF{x c:Str}{st:Stmt}{f:Addr}{m:FuncData}{N e:List Str}{k:Nat}{j:c8}(F:qy K x c st f m)(S:aE N e (aq st))(l:List Nat)(n:∀i,i<e.length->l.getD i 0=0)(len:∀d P,j d P->d.length=e.length)
  (o:∀(g:Value)(A:Around)(outer:List Env)(s:Shared)(H:Hp)(E:XK)(d:List D)(R:D->Prop),bJ k (A.deeper (envOfC c (aq st) s.heap.objs.size f g))->j d R->
   ∃t,ko Z (jt bQ P w K mg base N c (aq st) f g A outer s H E).ku l 0 (cW st) t/\t {nx:=λ_=>0=0/\R .aL,rt:=R} (iT N d)):FnOk P w K mg base bQ (k+1) f m e (aY Z j):=
 (Au 0 F S l n len λg A outer s H E d R p h=>let #[t,a,b]:=o g A outer s H E d R p h;#[t,a,b]).imp spF
end
section
variable {Z:DC} {X:Cx} {a b c e o:Expr} {ta tb te:aQ} {t:gS} {es:List Expr} {pos apos:Pos}
def YL(f:aQ):aQ:=λg P=>f g λd=>match d with
 | .int i=>P (.int (-i))
 |_=>False
def Q1(g:DE Z X a ta):DE Z X (.UnaryOp .USub a pos) (YL ta):=by
 refine(XA TK g).imp ?_;intro r H Q i;rfl';obtain⟨G,k,P,s,l,h,q⟩:=i;ac_rfl;refine#[G,k,_,s,l,h,λd f v m n p dv=>?_];cases dv<;>first|exact f.elim|skip
 exact#[_,rfl,q _ f _ m n p (.int _)]
def Yu:c8:=λd P=>∃bs:List Bool,d= [.lst (bs.map D.bl)]/\P (.bl (bs.all id))
theorem BM:∀{d:List V}{bs:List Bool},DvAll Z G d (bs.map D.bl)->d=bs.map V.bl
 |d,[],h=>by cases h;rfl
 |d,b::bs,h=>by
  cases h with
  |cons a f=>cases a;rw[BM f];rfl
theorem nK:∀{d:List V}{f:List Int},DvAll Z G d (f.map D.int)->d=f.map V.int
 |d,[],h=>by cases h;rfl
 |d,b::bs,h=>by
  cases h with
  |cons a g=>cases a;rw[nK g];rfl
def QN(d:X.calm=true):CallR X (.builtin "all") (j3 Z Yu):=by
 refine(Kw d).imp ?_;rintro i H Q ⟨G,j,P,s,dv,⟨bs,rfl,f⟩,q⟩;cases dv with
 |cons a g=>
  cases g;cases a with
  |lst h e=>exact#[_,bs,rfl,BM e▸s _ _ h,q _ f _ G H (.refl s) (.bl _)]
def Jp:c8:=λg P=>∃d:List Int,g= [.lst (d.map D.int)]/\d.length<64/\∀f:List Int,f.Perm d->f.Pairwise (·<=·)->P (.lst (f.map D.int))
def z8:CallR X (.builtin "sorted") (j3 Z Jp):=by
 refine zp.imp ?_;rintro n H Q ⟨G,r,P,s,dv,⟨f,rfl,g,i⟩,q⟩;cases dv with
 |cons a j=>
  cases j;cases a with
  |lst h e=>
   refine#[_,f,rfl,aG.of (nK e▸s _ _ h),g,λp d k l m=>?_];exact q _ (i d l m) _ _ _ (.new s k) (.lst af (.ints d))
noncomputable def pairD(k:Nat×Nat):D:= .tup [.int (k.1:Nat), .int (k.2:Nat)]
def QJ:c8:=λg P=>∃d:List (Nat×Nat),g= [.lst (d.map pairD)]/\d.length<=1000/\∀f:List (Nat×Nat),f.Perm d->f.Pairwise Wb.lexLe->P (.lst (f.map pairD))
theorem Am:∀{d:List V}{f:List (Nat×Nat)},DvAll Z G d (f.map pairD)->∃L:List (Addr×(Nat×Nat)),d=L.map (λe=>V.ref e.1)/\L.map (·.2)=f/\p5 G L
 |d,[],h=>by cases h;exact#[[],rfl,rfl,λp g=>by cases g]
 |d,n::f,h=>by
  cases h with
  |cons a j=>
   obtain⟨L,k,l,m⟩:=Am j;unfold pairD at a;cases a with
   | @tup p r x g e=>
    refine#[(p,n)::L,by rw[k];rfl,by rw[<-l];rfl,λq i=>?_]
    rcases eL.mp i with rfl|i
    .have:r=hV n:=by
      cases e with
      |cons s u=>
       cases u with
       |cons v w=>cases s;cases v;cases w;rfl
     rw[<-this];exact g
    .exact m q i
theorem p5.dv:∀{L:List (Addr×(Nat×Nat))},p5 G L->DvAll Z G (L.map λe=>V.ref e.1) ((L.map (·.2)).map pairD)
 | [],_=> .nil
 |x::L,h=> .cons (.tup (h x (dB ..)) (.cons (.int _) (.cons (.int _) .nil))) (p5.dv λp d=>h p (eW _ d))
def z9:CallR X (.builtin "sorted") (j3 Z QJ):=by
 refine zq.imp ?_;rintro w H Q ⟨G,l,P,s,dv,⟨f,rfl,y,d⟩,q⟩;cases dv with
 |cons a m=>
  cases m;cases a with
  | @lst p z l h e=>
   obtain⟨L,rfl,g,i⟩:=Am e;have A:L.length=f.length:=by rw[<-g];simp
   refine#[_,L,rfl,aG.of (s _ _ h),λp d=>s _ _ (i p d),(),λp M j k n=>?_]
   have r:(M.map (·.2)).Perm f:=by rw[<-g];exact k.map _
   have u:p5 (upd G p (.lst (M.map λe=>V.ref e.1))) M:=λx v=>ay (s.free j) _ _ _ (i x (k.mem_iff.mp v));exact q _ (d _ r n) _ _ _ (.new s j) (.lst af u.dv)
def QV(g h:aQ):aQ:=λf P=>g f λd=>∃l,d= .lst l/\h f λy=>fw y=true/\l.all fw=true/\∃(j:Nat)(z:D),l[j]?\z/\iY z y=true/\(∀(m:Nat) z,m<j->l[m]?\z->iY z y=false)/\P (.int (j:Nat))
theorem tY(E:DE Z X o ta)(F:DE Z X e tb)
  (I:attributeBase o "index" X.env (eval o X.env)=eval o X.env:=by rfl)
  (J:((backTo d (starEach [e] X.env)).all (λx=>!x.1)&&(backToKw d (keywordEach [] X.env)).all (λx=>x.1.isSome)&&decide (([e]:List Expr).length+([]:List Keyword).length+(if ([]:List Keyword).isEmpty then 0 else 1)<30))=true:=by rfl)
  (L:(apos.endLine==d.line)=true:=by rfl) (r:starEach [e] X.env=(false,eval e X.env)::starEach [] X.env:=by rfl) (M:(backTo d (starEach [] X.env)).any (·.1)=false:=by rfl):
  DE Z X (.Call (.Attribute o "index" apos) [e] [] d) (QV ta tb):=by
 refine(gF GM ab2 ab3 pI E (ah F az r) I J L r M).imp ?_;intro σ H Q N;rfl';obtain⟨G,A,P,s,B,h,q⟩:=N;ac_rfl;exists G,A,_,s,B,h;rintro _ ⟨l,rfl,R⟩ v S H1 f dv;cases dv with
 | @lst p T ds C e=>
  refine#[ty_list (f.sub _ _ C),S,A,_,f.sub,B.mono f.gg,R,λy Y u a b i k=>?_];rfl';obtain⟨c,t,j,z,h3,h4,h5,h6⟩:=Y;have n:=e.mono i.gg;obtain⟨w,hw,dw⟩:=n.get h3;ac_rfl;refine#[p,T,u,j,w,rfl,rfl,i.hh _ _ (f.sub _ _ C),by rw[rP k];exact c,by rw[nO n];exact t,hw,by rw[BN dw k];exact h4,λm z' hm hz=>?_,q _ h6 _ a b (f.trans i) (.int _)]
  obtain⟨d',f9,nJ⟩:=n.NY hz;rw[BN nJ k];exact h5 m d' hm f9
end
structure Jm (Z:DC):Prop where
 cl:wu Z.K Z.C
 nR:fP Z.K Z.C "rows"
section
variable {Z:DC} {X:Cx} {a b c e o:Expr} {ta tb te:aQ} {t:gS} {es:List Expr} {pos apos:Pos}
def Vx(f:aQ):aQ:=λg P=>f g λd=>∃w,d= .ik w/\P (bH w)
def wX(T:Jm Z)(i:DE Z X o ta)(d:X.K=Z.K:=by rfl)(j:attributeBase o "rows" X.env (eval o X.env)=eval o X.env:=by rfl):DE Z X (.Attribute o "rows" apos) (Vx ta):=by
 refine(SA i j).imp ?_;intro B H Q k;rfl';obtain⟨G,m,P,s,n,h,q⟩:=k;ac_rfl;exists G,m,_,s,n,h;rintro _ ⟨w,rfl,r⟩ v u x f dv;cases dv with
 | @ik p y R w z A g F I=>exact#[p,Z.C,y,_, .ref R,rfl,f.sub _ _ z,by rw[d];exact T.cl,by rw[d];exact T.nR,rfl,q _ r _ u x f A]
def Gw(g:c8)(h:aQ)(t:gS):aQ:=λf P=>h f λd=>∃w,d= .ik w/\t f λi=>g (.ik w::i) P
def AW(x:([("rows",V.ref 0)]:List (Str×V)).lookup m=none):∀j H Q,dF Z (Gw i ta t) j H Q->IG Z.C m (aY Z i) [] E0 (dF Z ta) (Cu Z t) j H Q:=by
 intro j H Q y;rfl';obtain⟨G,r,P,s,u,h,q⟩:=y;ac_rfl;exists G,r,_,s,u,h;rintro _ ⟨w,rfl,k⟩ v B c f dv;have l:=dv;cases dv with
 | @ik p E R w F e g o X=>
  refine#[p,E,_,rfl,f.sub _ _ F,?_,B,r,_,f.sub,u.mono f.gg,k,λds I J L M n N=>?_]
  .have O:(m==("rows":Str))=false:=by
    cases z:(m==("rows":Str)) with
    |false=>rfl
    |true=>simp[bf,z] at x
   simp[bf,O]
  .show aY Z i (V.ref p::(J++ [])) M Q E0
   rw[eJ];exact#[L,_,P,n.sub, .cons (l.mono n.gg) N,I,λd k v S T Y a=>q d k v S T ((f.trans n).trans Y) a]
variable {sd:c8} {k:Nat} {f:Addr} {fd:FuncData} {ps:List Str} {m:Str}
def El(T:Jm Z)(h:DE Z X o ta)(i:Meth Z.K Z.C m f)(F:FnOk X.prog X.w X.K X.mg X.base bQ k f fd ps (aY Z sd))(j:bJ k X.A)(l:Binds X.K fd ps [])(n:DA Z X (e::es) t)(d:X.K=Z.K:=by rfl)
  (p:([("rows",V.ref 0)]:List (Str×V)).lookup m=none:=by decide) (q:starEach (e::es) X.env=(false,eval e X.env)::starEach es X.env:=by rfl) (r:(backTo pos (starEach es X.env)).any (·.1)=false:=by rfl)
  (s:eval (.Call (.Attribute o m apos) (e::es) [] pos) X.env=(do
   let g <-eval o X.env
   standAt apos.atName
   let (f,first) <-holding [g] (getMethod g m pl)
   callWith pos f first (backTo pos (starEach (e::es) X.env)) (backToKw pos (keywordEach [] X.env))):=by rfl):DE Z X (.Call (.Attribute o m apos) (e::es) [] pos) (Gw sd ta t):=
 (Py (pl:=pl) h (by rw[d];exact T.cl) (by rw[d];exact i) F j l .nil bT n q r s).imp (AW p)
def lg(T:Jm Z)(l:DE Z X o ta)(n:Meth Z.K Z.C m f)(F:FnOk X.prog X.w X.K X.mg X.base bQ k f fd ps (aY Z sd))(r:bJ k X.A)(u:Binds X.K fd ps [])(i:X.K=Z.K:=by rfl)
  (x:([("rows",V.ref 0)]:List (Str×V)).lookup m=none:=by decide)
  (y:eval (.Call (.Attribute o m apos) [] [] pos) X.env=(do
   let j <-eval o X.env
   standAt apos.atName
   let (f,first) <-holding [j] (getMethod j m pl)
   callWith pos f first (backTo pos (starEach [] X.env)) (backToKw pos (keywordEach [] X.env))):=by rfl):DE Z X (.Call (.Attribute o m apos) [] [] pos) (Gw sd ta uY):=
 (LZ (pl:=pl) l (by rw[i];exact T.cl) (by rw[i];exact n) F r u .nil bT y).imp λz H Q h=>by
  rfl';obtain⟨G,E,P,s,I,h,q⟩:=AW x z H Q h;ac_rfl;refine#[G,E,P,s,I,h,λd J v L M N dv=>?_];rfl';obtain⟨p,O,fs,R,S,Y,a,aD,P',b,c,e,t⟩:=q d J v L M N dv;ac_rfl;exact#[p,O,fs,R,S,Y,t _ e _ a _ (.refl b) .nil]
def FJ(Z:DC):Sp:=λi H Q _=>∃(p h:Addr)(v:V)(G:Hp)(w:List (List Nat)),i= [.ref p,v]/\H p\(.ins Z.C h [])/\aB G H/\G p=none/\Dv Z G v (bH w)/\Wb.Good w/\1<=w.length/\w.length<=14/\
 ∀(R:Addr)(d g:Hp),aB G d->aB d g->(∀b o,H b\o->b≠p->g b\o)->(∀b,H b≠none->G b=none->d b=none)->g p\(.ins Z.C h [("rows", .ref R)])->Dv Z d (.ref R) (bH w)->Q .aL g
def Vq(t:gS):aQ:=λd P=>t d λg=>∃w,g= [bH w]/\Wb.Good w/\1<=w.length/\w.length<=14/\P (.ik w)
theorem Nd(M:Mk Z.K Z.C f)(F:FnOk X.prog X.w X.K X.mg X.base bQ k f fd ps (FJ Z))(L:bJ (k+1) X.A)(n:Gl X x)(N:X.mg x\(.ref Z.C))(j:Binds X.K fd ps [])
  (O:DA Z X (e::es) t) (S:X.K=Z.K:=by rfl) (T:(x==("__debug__":Str))=false:=by decide) (Y:starEach (e::es) X.env=(false,eval e X.env)::starEach es X.env:=by rfl) (a:(backTo pos (starEach es X.env)).any (·.1)=false:=by rfl):
  DE Z X (.Call (.Name x p) (e::es) [] pos) (Vq t):=by
 refine(Px (by rw[S];exact M) F L n N j .nil bT O T Y a).imp ?_
 intro σ H Q c;rfl';obtain⟨G,ρ,P,s,en,h,q⟩:=c;ac_rfl;exists G,ρ,_,s,en,h;rintro _ ⟨w,rfl,g,y,h14,hp⟩ vs G1 H1 d r p l i zC ne;cases r with
 | @cons v _ _ _ dv r=>
  cases r;have vO:upd H1 l (.own p) p=none:=by rw[ag (Ne.symm ne)];exact i
  have u:=(ay zC (.own p)).trans (ay vO (.ins Z.C l []));refine#[p,l,v,G1,w,rfl,af,d.sub.trans u,d.sub.free i,dv,g,y,h14,λR B H2 g1 g2 kp off RD GH=>#[rfl,?_]];have E:B p=none:=off p (by rw[af];exact λz=>nomatch z) (d.sub.free i)
  refine q _ hp _ (upd B p (.ins Z.C l [("rows", .ref R)])) H2 #[(d.gg.trans g1).trans (ay E _),λb o e=>?_,λb o e=>?_,λb j n=>?_] (.ik af (GH.mono (ay E _)) g y h14)
  .by_cases z:b=p
   .subst z;rw[af] at e;cases e;exact RD
   .rw[ag z] at e;exact g2 _ _ e
  .have I:=d.hh _ _ e
   exact kp b o (u _ _ I) (ao I i)
  .have J:=fM d.hh j
   have nb:b≠p:=λz=>J (by rw[z];exact i)
   rw[ag nb];exact off b (fM u J) (d.off b j n)
end
section
variable {Z:DC} {X:Cx} {pos:Pos}
variable {tg iter elt:Expr} {scope:Scope} {NC:List Str} {src:List (Option Nat)} {wi:iU} {g:dZ} {tf:pY} {md:List Nat} {rn:Nat}
end
abbrev iH:=inClass
structure Bu (Z:DC) (m qual:Str) (st:Stmt) (ps:List Str) where
 f:Addr
 fd:FuncData
 F:qy Z.K m qual st f fd
 b:Binds Z.K fd ps []
 m:Meth Z.K Z.C m f
def sY(K:ad):Sp:=λc H Q _=>∃(a:Addr)(b:List Int),c= [.ref a]/\aG K H a (b.map V.int)/\b.length<=63/\∀d,Q (.bl true) d
def C8:c8:=λb P=>∃a:List Int,b= [.oP a]/\a.length<=63/\P (.bl true)
def RX{Z:DC}:∀b H Q E,sY Z.K b H Q E->aY Z C8 b H Q E:=by
 rintro b H Q E ⟨a,c,rfl,f,e,q⟩;exact#[H,[.oP c],λd=>d= .bl true, .refl _, .cons (.oP f e) .nil,#[c,rfl,e,rfl],λd g v i h x dv=>by subst g;cases dv;exact q h]
def X5(k:Nat){l:cZ}{q:Program}{e:List Str}{o:(Str->Option Value)->Heap->Prop}{m:World->Heap->Prop}{d:DefRec}{K:Params->ad}(H:3*k<150)(p:l.most\63)(r:d.params.defaults= [])
  (t:∀(w:World)(h:Heap),m w h->(K w.params).In h)
  (F:∀(w:World)(g:Str->Option Value)(i:Addr)(h:Heap),(K w.params).In h->h.Ns mainGlobals g->g d.name\(.ref i)->
   ∃j:FuncData,(∀(s:Shared)(u:Value),BindsTo s j #[[u],[]] [("_law_script",u)])/\∀base:Heap,(K w.params).In base->base.Ns mainGlobals g->FnOk l.prog w (K w.params) g base bQ k i j ["_law_script"] (sY (K w.params))):
  eh q e o m l.row.toRowW d [] (λf v=>ee f v):=
 L2.Qu (n:=63) (k:=50) (x:="_law_script") (CX:=λ_=>bQ) (sp:=λw=>sY (K w.params)) p ∅ r #[rfl,∅,∅] t (λw g i h a b c=>by
  obtain⟨j,A,B⟩:=F w g i h a b c;exact#[j,A,λbase x y=>(B base x y).mono ()]) (λ_ _ a C E _ G=>#[a,C,rfl,G,E,λ_=>rfl]) λ_ _ _ _ _ z=>z
def eM{c:Bool}{A B:Prop}(a:c=true->A)(b:c=false->B):if c=true then A else B:=by
 cases c with
 |true=>exact dU (a rfl)
 |false=>exact dS (b rfl)
theorem xH{ρ:DN}(a:g->D)(p:g->Bool)(f:g->D):∀(d:List g)(c:DN)(acc:List D)(N:DN->List D->Prop),(∀y∈d,∀(Y:D->Prop)(q:Prop),(p y=true->Y (f y))->(p y=false->q)->j (ρ.set i (some (a y))) λb=>if b=true then n (ρ.set i (some (a y))) Y else q)->
  (∃o,c=ρ.set i o)->acc.length+d.length<=sizeLine->(∀c,N c (acc++(d.filter p).map f))->lcW (jB i) j n (d.map a) c acc N
 | [],c,acc,N,_,_,_,h=>by
  show N c acc;simpa using h c
 |y::d,c,acc,N,k,#[o,r],e,h=>by
  show j (c.set i (some (a y))) _;rw[r,List.set_set];rw[dG] at e;refine k y (dB ..) _ _ (λl=>#[(),?_]) (λl=>?_)
  .refine xH a p f d _ (acc++ [f y]) N (λz e=>k z (eW _ e)) #[_,rfl] (by simp;lia) λm=>?_
   have:=h m
   rw[acI,l] at this;simpa using this
  .refine xH a p f d _ acc N (λz e=>k z (eW _ e)) #[_,rfl] () λm=>?_
   have:=h m
   rw[acI,l] at this;simpa using this
def sh{ρ:DN}(a:c->D)(f:c->D)(b:List c)(N:DN->List D->Prop)(j:∀y∈b,∀(Y:D->Prop),Y (f y)->g (ρ.set i (some (a y))) Y)(k:ρ[i]?\none)(l:b.length<=sizeLine)(h:∀d,N d (b.map f)):lcW (jB i) mL g (b.map a) ρ [] N:=by
 refine xH (ρ:=ρ) a (λ_=>true) f b ρ [] N (λy m Y o n _=>?_) #[none,?_] (~~~l) λd=>by rw[List.filter_eq_self.mpr (λ_ _=>rfl),qt];exact h d
 .unfold mL
  dsimp only;rw[mo rfl];exact j y m Y (n rfl)
 .obtain⟨p,e⟩:=cw.mp k
  rw[<-e,List.set_getElem_self]
theorem Av(I:Nat->DN->Prop):∀(b:List D)(k:Nat)(a:DN),I k a->(∀(j:Nat)(d:D)(a:DN),b[j]?\d->I (k+j) a->∀A:DN->Prop,(∀a,I (k+j+1) a->A a)->g d a λn=>m {nx:=A,ct:=A,bk:=E.nx,rt:=E.rt,xc:=E.xc} n)->
  (∀a,I (k+b.length) a->E.nx a)->ju g m E b a
 | [],k,a,c,e,f=>f a c
 |d::b,k,a,c,e,f=>by
  refine e 0 d a rfl c _ λo p=>?_
  exact Av I b (k+1) o p (λj q h r i A s=>by
   refine e (j+1) q h (~~~r) (by rw[show k+(j+1)=k+1+j by lia];exact i) A λl t=>s l ?_
   rw[show k+1+j+1=k+(j+1)+1 by lia];exact t) (λh i=>f h (by rw[dG,show k+(b.length+1)=k+1+b.length by lia];exact i))
def bS(I:Nat->DN->Prop)(e:I 0 a)(f:∀(j:Nat)(d:D)(a:DN),b[j]?\d->I j a->∀A:DN->Prop,(∀a,I (j+1) a->A a)->g d a λi=>c {nx:=A,ct:=A,bk:=E.nx,rt:=E.rt,xc:=E.xc} i)
  (k:∀a,I b.length a->E.nx a):ju g c E b a:=Av I b 0 a e (λj d a l h A m=>f j d a l (~~~h) A λn o=>m n (~~~o)) (λa h=>k a (~~~h))
def rz(I:Nat->DN->Prop)(g:Nat)(h:I g a)(i:∀m a,I m a->c a λb=>if b=true then f {nx:=λe=>∃d,d<m/\I d e,ct:=λe=>∃d,d<m/\I d e,bk:=E.nx,rt:=E.rt,xc:=E.xc} a else E.nx a):Js c f E a:=#[I,#[g,h],i]
section
variable {Z:DC} {X:Cx} {a b c e:Expr} {ta tb te:aQ} {t:gS} {pos:Pos}
variable {md:List Nat} {rn:Nat} {k:Expr} {tk:aQ}
variable {apos aN:Pos}
variable {es:List Expr}
def NJ(g:c8)(t:gS):pY:=λh P=>t h λi=>g i λd=>∃f,d= .lst f/\P f
def Nk{k:Nat}(F:FnOk X.prog X.w X.K X.mg X.base bQ k f m r (j4 Z n g))(y:bJ k X.A)(z:Gl X x)(B:X.mg x\(.ref f))(C:am X.K (.ref f)=true)(d:Binds X.K m r [])
  (E:DA Z X (e::es) t) (I:(x==("__debug__":Str))=false:=by decide) (J:starEach (e::es) X.env=(false,eval e X.env)::starEach es X.env:=by rfl) (L:(backTo pos (starEach es X.env)).any (·.1)=false:=by rfl):
  DF Z X n (.Call (.Name x p) (e::es) [] pos) (NJ g t):=by
 refine(bb F y z B C d .nil bT E I J L).imp ?_;intro σ H Q M;rfl';obtain⟨G,O,P,s,R,h,q⟩:=M;ac_rfl;refine#[G,O,_,s,R,h,λS T Y a c j bx=>?_];show j4 Z n g (Y++ []) c Q E0;rw[eJ];exists a,S,_,j.sub,bx,T;intro _ l v f G2 H2 x2 o nd u;rfl';obtain⟨rK,rfl,hp⟩:=l;ac_rfl;exact q _ hp v f G2 H2 (j.trans x2) o nd λb d=>#[j.hh.free (u b d).1,(u b d).2]
end
section
variable {X:Cx} {elt t0 i0 t1 i1:Expr} {f0 f1:List Expr} {scope:Scope} {pos:Pos} {wi cx:TI} {g g1:TG} {tt bO:TT} {te:TE} {src:List (Option Nat)} {NC:List Str}
end
section
variable {Z:DC} {X:Cx} {md:List Nat} {rn:Nat} {elt t0 i0 t1 i1:Expr} {f0 f1:List Expr} {scope:Scope} {pos:Pos} {wi cx:iU} {g g1:dZ} {tt bO:c9} {te:aQ} {src:List (Option Nat)} {NC:List Str}
end
section
variable {Z:DC} {X:Cx} {md:List Nat} {rn:Nat} {e:Expr} {pos:Pos}
def Vr(i:Nat)(t:pY):cy:=λE a=>t a λb=>b.all fw=true/\E.nx (a.set i (some (.lst b)))
theorem DvAll.flat:∀{c:List V}{b:List D},DvAll Z G c b->b.all fw=true->DvAll Z d c b
 |_,_, .nil,_=> .nil
 |_,_, .cons a f,h=>by
  rw[acB,vC] at h;exact .cons (a.flat h.1) (f.flat h.2)
end
def jV{l:List D}{j:Nat}{d:D}(h:(eD l)[j]?\d):∃x,l[j]?\x/\d= .tup [.int (j:Int),x]:=by
 unfold eD at h;rw[List.getElem?_mapIdx] at h;cases e:l[j]? with
 |none=>rw[e] at h;cases h
 |some x=>rw[e] at h;cases h;exact#[x,rfl,rfl]
def iF(l:List D):(eD l).length=l.length:=by unfold eD;simp
def cL{a b:Type}{f:a->b}{l:List a}{j:Nat}{y:b}(h:(l.map f)[j]?\y):∃x,l[j]?\x/\y=f x:=by
 rw[dJ] at h;cases e:l[j]? with
 |none=>rw[e] at h;cases h
 |some x=>rw[e] at h;cases h;exact#[x,rfl,rfl]
def gH(r:List Nat):(r.map aA).all fw=true:=by simp[aA,fw]
def xB{r:List Nat}{p:Nat}:inD (aA p) (r.map aA)=decide (p∈r):=by
 unfold inD;rw[aeh]
 have:((λy=>iY y (aA p))∘aA)=λq:Nat=>decide (q=p):=by
  funext q
  simp[aA,iY,Function.comp]
  by_cases z:q=p
  .simp[z]
  .have:¬(q:Int)=(p:Int):=()
   simp[z,this]
 rw[this]
 by_cases h:p∈r
 .rw[IR h,uS];exact#[p,h,by simp]
 .rw[GT h]
  apply vB.mpr;intro z;rw[uS] at z;obtain⟨q,a,e⟩:=z
  exact h (by have:q=p:=by simpa using e
              rw[<-this];exact a)
def jJ{l:List D}{p:Nat}{d:D}(h:l[p]?\d):f7 l (p:Int)\d:=cK h
def yJ(h:p<w.length):(w.map aF)[p]?\(aF (Wb.row w p)):=by
 rw[dJ,Wb.Fv h];rfl
section
variable {Z:DC} {X:Cx} {md:List Nat} {rn:Nat} {e:Expr} {te:aQ} {pos:Pos}
end
def Kd(h:A):mL a (λb=>if b=true then A else B):=by
 unfold mL;dsimp only;rw[mo rfl];exact h
theorem iQ(I:DN->Prop)(c:m->D)(p:m->Bool)(f:m->D):∀(i:List m)(e:DN)(acc:List D)(N:DN->List D->Prop),(∀y∈i,∀e,I e->∀(Y:DN->D->Prop)(u:DN->Prop),(∀a,I a->p y=true->Y a (f y))->(∀a,I a->p y=false->u a)->g (c y) e λa=>k a λb=>if b=true then l a (Y a) else u a)->
  I e->acc.length+i.length<=sizeLine->(∀e,I e->N e (acc++(i.filter p).map f))->lcW g k l (i.map c) e acc N
 | [],e,acc,N,_,n,_,h=>by
  show N e acc;simpa using h e n
 |y::i,e,acc,N,o,n,j,h=>by
  rw[dG] at j;refine o y (dB ..) e n (λa d=>acc.length<sizeLine/\lcW g k l (i.map c) a (acc++ [d]) N) (λa=>lcW g k l (i.map c) a acc N) (λa q r=>#[(),?_]) (λa q r=>?_)
  .refine iQ I c p f i _ (acc++ [f y]) N (λz j=>o z (eW _ j)) q (by simp;lia) λs t=>?_
   have:=h s t
   rw[acI,r] at this;simpa using this
  .refine iQ I c p f i _ acc N (λz j=>o z (eW _ j)) q () λs t=>?_
   have:=h s t
   rw[acI,r] at this;simpa using this
def Uv(h:b.length=1):∃d,b= [d]:=by
 cases b with
 |nil=>cases h
 |cons a l=>
  cases l with
  |nil=>exact#[a,rfl]
  |cons _ _=>cases h
def Uw(h:b.length=2):∃e c,b= [e,c]:=by
 cases b with
 |nil=>cases h
 |cons a l=>
  obtain⟨c,rfl⟩:=Uv (Nat.succ.inj h);exact#[a,c,rfl]
def aag(h:b.length=3):∃f c d,b= [f,c,d]:=by
 cases b with
 |nil=>cases h
 |cons a l=>
  obtain⟨c,d,rfl⟩:=Uw (Nat.succ.inj h);exact#[a,c,d,rfl]
section
variable {Z:DC} {X:Cx}
end
def br.nest(k:f.kind= .function)(a:∀x∈f.names,x.2= .local->f.names.lookup x.1\.local)(b:∀x∈f.names,x.2≠ .cell)
  (d:∀x∈f.names,x.2= .free->c.names.lookup x.1\.free):br (bA X c NC g s H) f where
 kind:=k
 names:=a
 nocell:=b
 free:=λx i e=>by
  have h:(bA X c NC g s H).env.kindOf x.1=(c.names.lookup x.1).map λk=>if (k==NameKind.free&&X.env.scope.kind== .function&&X.env.kindOf x.1==some .cell) then NameKind.cell else k:=gu c.names x.1;rw[h,d x i e,yU]
  split
  .exact .inl rfl
  .exact .inr rfl
section
variable {Z:DC} {X:Cx} {e:Expr} {es:List Expr} {t:gS} {pos:Pos}
def aU{a:c8}{k j:Nat}{x:Str}{st:Stmt}{c:List Str}{p:Pos}(d:bR X.K X.mg x st c)(F:FnOk X.prog X.w X.K X.mg X.base bQ k d.f d.fd c (aY Z a))(g:bJ j X.A)(h:DA Z X (e::es) t)(i:Gl X x:=by rfl)(l:k<=j:=by first|decide|lia)
  (n:(x==("__debug__":Str))=false:=by decide) (o:starEach (e::es) X.env=(false,eval e X.env)::starEach es X.env:=by rfl) (q:(backTo pos (starEach es X.env)).any (·.1)=false:=by rfl):
  DE Z X (.Call (.Name x p) (e::es) [] pos) (qD a t):=Nc F (g.mono l) i d.m d.F.kp d.b h n o q
def t5{n:Nat}{a:c8}{k j:Nat}{x:Str}{st:Stmt}{c:List Str}{p:Pos}(d:bR X.K X.mg x st c)(F:FnOk X.prog X.w X.K X.mg X.base bQ k d.f d.fd c (j4 Z n a))(g:bJ j X.A)(h:DA Z X (e::es) t)(i:Gl X x:=by rfl)(l:k<=j:=by first|decide|lia)
  (o:(x==("__debug__":Str))=false:=by decide) (q:starEach (e::es) X.env=(false,eval e X.env)::starEach es X.env:=by rfl) (r:(backTo pos (starEach es X.env)).any (·.1)=false:=by rfl):
  DF Z X n (.Call (.Name x p) (e::es) [] pos) (NJ a t):=Nk F (g.mono l) i d.m d.F.kp d.b h o q r
def tX(f:Scope)(e:X.env.scope=f:=by rfl)(k:d.kind= .function:=by rfl)(a:∀x∈d.names,x.2= .local->d.names.lookup x.1\.local:=by decide+kernel)(b:∀x∈d.names,x.2≠ .cell:=by decide+kernel)
  (c:∀x∈d.names,x.2= .free->f.names.lookup x.1\.cell\/f.names.lookup x.1\.free:=by decide+kernel):br X d:=br.of f e k a b c
def Yy{NC:List Str}(k:f.kind= .function:=by rfl)(a:∀x∈f.names,x.2= .local->f.names.lookup x.1\.local:=by decide+kernel)(b:∀x∈f.names,x.2≠ .cell:=by decide+kernel)
  (d:∀x∈f.names,x.2= .free->c.names.lookup x.1\.free:=by decide+kernel):br (bA X c NC g s H) f:=br.nest k a b d
end
section
variable {K:ad} {h:Heap} {mg:Str->Option Value}
abbrev QI(K:ad)(x:Str)(d:Addr):Prop:=aR K mainGlobals x\(some (.ref d))
abbrev Bt(K:ad)(x a:Str)(st:Stmt)(d:Addr)(b c:Option Addr)(e:Array (Option Value))(f kV g i j k:Value):Prop:=K.lookup d\#[f,b, .func (cb x a (gX st) (cW st) (aq st) .none kV g i c j k),e]
noncomputable def bR.of{x:Str}{st:Stmt}{ps:List Str}{d:Addr}{n e:Option Addr}{o:Array (Option Value)}{p kV q f m g:Value}(X:K.In h)(G:h.Ns mainGlobals mg)(a:QI K x d)(l:Bt K x x st d n e o p kV q f m g)(c:bd K m x=true)(k:am K (.ref d)=true)
  (b:∀(kV i f:Value)(e:Option Addr)(r g:Value)(j:List Value),j.length=ps.length->bindArgs (cb x x (gX st) (cW st) (aq st) .none kV i f e r g) #[j,[]]=pure (ps.zip j)):bR K mg x st ps:=
 #[d,_,l7 l c k,(l7 l c k).binds b,Os X G a]
noncomputable def Bu.of{Z:DC}{m e:Str}{st:Stmt}{ps:List Str}{d:Addr}{q g:Option Addr}{r:Array (Option Value)}{s kV t i p j:Value}(a:ak Z.K (.ref Z.C) m\(some (.ref d)))(f:b5 Z.K (.ref d)=true)(l:Bt Z.K m e st d q g r s kV t i p j)(c:bd Z.K p e=true)(k:am Z.K (.ref d)=true)
  (b:∀(kV n i:Value)(g:Option Addr)(u j:Value)(o:List Value),o.length=ps.length->bindArgs (cb m e (gX st) (cW st) (aq st) .none kV n i g u j) #[o,[]]=pure (ps.zip o)):Bu Z m e st ps:=
 #[d,_,l7 l c k,(l7 l c k).binds b,#[a,f,k]]
end
end L2
namespace Wb
noncomputable def iE(w:W):Nat:=(w.map db).sum
theorem rJ{r:List Nat}:∀{w:W}{p:Nat},p<w.length->iE (w.set p r)+(row w p).length=iE w+r.length
 | [],_,h=>by simp at h
 |a::w,0,_=>by simp[iE,row];lia
 |a::w,p+1,h=>by
  have b:=rJ (r:=r) (w:=w) (p:=p) (~~~h)
  have e:row (a::w) (p+1)=row w p:=by simp[row]
  rw[e];simp only[iE,List.set_cons_succ,dq,List.sum_cons] at b ⊢;lia
def KL(w:W)(r:List Nat):iE (w++ [r])=iE w+r.length:=by simp[iE]
def KJ(h:p<w.length):iE (leaf w p i)=iE w+2:=by
 unfold leaf
 have:=rJ (r:=ins (row w p) i w.length) h
 rw[xC] at this;rw[KL];simp;lia
def Nj{w:W}{p i u j:Nat}(a:p<w.length)(c:u<w.length)(ne:u≠p):iE (Dm w p i u j)=iE w+2:=by
 unfold Dm;have d:=rJ (r:=ins (row w p) i u) a;have b:=rJ (w:=w.set p (ins (row w p) i u)) (r:=ins (row w u) j p) (p:=u) (~~~c)
 rw[i8 a,tz (Ne.symm ne)] at b;rw[xC] at d b;lia
def L7{l c:List Nat}(h:l.Perm c):l.sum=c.sum:=by
 induction h with
 |nil=>rfl
 |cons x _ d=>simp[d]
 |swap x y l=>simp;lia
 |trans _ _ a b=>exact a.trans b
def t4(w:W):iE w=((aM w.length).map λp=>(row w p).length).sum:=by
 unfold iE
 congr 1
 refine List.ext_getElem (by simp) λi b c=>?_
 rw[acJ,acJ,List.getElem_range];have a:i<w.length:=by simpa using b
 have:=Fv a
 rw[dH a] at this;rw[Da this]
def Ni{ord:List Nat}(f:a.length=w.length)(d:ord.Perm (aM w.length))(g:∀p,p<w.length->(row a (ord.getD p 0)).Perm ((row w p).map λx=>ord.getD x 0)):iE a=iE w:=by
 rw[t4 a,f,t4 w,<-L7 (d.map λp=>(row a p).length)]
 congr 1
 have b:ord.length=w.length:=by rw[d.length_eq,oY]
 refine List.ext_getElem (by simp[b]) λi j h=>?_
 rw[acJ,acJ,List.getElem_range];have c:i<w.length:=by simpa using h
 have e:ord.getD i 0=ord[i]'(by rw[b];exact c):=by rw[fq,dH (by rw[b];exact c)];rfl
 have:=(g i c).length_eq
 rw[aI,e] at this;exact this
def wV(w:W):(aW w).length=iE w:=by
 rw[t4];unfold aW;rw[List.length_flatMap]
 congr 1
 apply ac4;intro p _;rw[aI]
def fT(g:Good w):(aW w).Nodup:=by
 unfold aW dL;refine j6 (λp _=>?_) ?_
 .rw[jc]
  exact(g.nod p).imp λne e=>ne (On Prod.snd e)
 .refine List.Pairwise.imp ?_ DQ
  intro a b lt x c y d e;obtain⟨_,_,rfl⟩:=c7.mp c;obtain⟨_,_,rfl⟩:=c7.mp d
  have:=On Prod.fst e
  simp at this;lia
def ig(w:W):cH (row w) w.length=(aW w).filter λd=>decide (d.1<d.2):=by
 unfold cH aW;rw[List.filter_flatMap]
 congr 1
 funext p
 rw[List.filter_map];rfl
def IJ(g:Good w):2*(cH (row w) w.length).length<=iE w:=by
 rw[ig,<-wV];have f:=List.length_eq_countP_add_countP (λd:Nat×Nat=>decide (d.1<d.2)) (l:=aW w)
 have p:((aW w).filter λd=>decide (d.1<d.2)).length<=((aW w).filter λd=>decide (d.2<d.1)).length:=by
  have:=aX (l:=((aW w).filter λd=>decide (d.1<d.2)).map λd=>(d.2,d.1)) (m:=(aW w).filter λd=>decide (d.2<d.1)) ?_ ?_
  .rwa [aI] at this
  .unfold dL
   rw[jc];refine List.Pairwise.imp ?_ ((fT g).filter _);intro a b ne e;have i:=On Prod.fst e;have j:=On Prod.snd e;exact ne (abJ j i)
  .intro x k
   obtain⟨d,n,rfl⟩:=c7.mp k;obtain⟨o,c⟩:=zb.mp n;refine zb.mpr #[bz.mpr (g.sym _ _ (bz.mp o)),?_];simpa using c
 have q:((aW w).filter λd=>decide (d.2<d.1)).length<=(aW w).countP λd=>!decide (d.1<d.2):=by
  rw[<-ac9];apply List.countP_mono_left;intro d _ h;simp at h ⊢;lia
 rw[ac9] at f
 have r:(aW w).countP (λd=>!decide (d.1<d.2))=List.countP (λa=>decide ¬(decide (a.1<a.2)=true)) (aW w):=by
  congr 1
  funext d
  by_cases h:d.1<d.2<;>simp[h]
 lia
structure RI (w:W) (bs:List Bool) (ws ex:List Nat) (c:Nat):Prop where
 len:bs.length=w.length
 z:bs[0]?\true
 wt:∀x∈ws,bs[x]?\true
 cl:∀x,bs[x]?\true->x∈ws\/x∈ex\/∀q∈row w x,bs[q]?\true
 cnt:bs.count false+ws.length<=c
def RI.pop(h:RI w bs (b++ [p]) [] (c+1)):RI w bs b [p] c:=
 #[h.len,h.z,λx a=>h.wt x (km _ a),λx a=>by
  rcases h.cl x a with q|q|q
  .rcases c5.mp q with q|q
   .exact .inl q
   .exact .inr (.inl q)
  .cases q
  .exact .inr (.inr q),by have:=h.cnt;rw[dh] at this;simp at this;lia]
def RI.push(h:RI w bs f g c)(j:bs[q]?\false):RI w (bs.set q true) (f++ [q]) g c:=by
 obtain⟨b,i⟩:=cw.mp j
 have d:∀x,bs[x]?\true->(bs.set q true)[x]?\true:=λx a=>by
  rw[lT]
  by_cases e:q=x
  .rw[mo e,mo b]
  .rw[tz e];exact a
 refine#[by rw[gP];exact h.len,d _ h.z,λx a=>?_,λx a=>?_,?_]
 .rcases c5.mp a with z|z
  .exact d _ (h.wt x z)
  .have:x=q:=by simpa using z
   rw[this,lT,mo rfl,mo b]
 .by_cases e:q=x
  .exact .inl (by rw[e];simp)
  .rw[lT,tz e] at a
   rcases h.cl x a with z|z|z
   .exact .inl (km _ z)
   .exact .inr (.inl z)
   .exact .inr (.inr λy k=>d _ (z y k))
 .have l:=h.cnt
  have:0<bs.count false:=List.count_pos_iff.mpr (by rw[<-i];exact mW b)
  rw[ada b,i,dh];simp;lia
def RI.close(h:RI w bs a [p] c)(b:∀q∈row w p,bs[q]?\true):RI w bs a [] c:=
 #[h.len,h.z,h.wt,λx d=>by
  rcases h.cl x d with q|q|q
  .exact .inl q
  .have:x=p:=by simpa using q
   rw[this];exact .inr (.inr b)
  .exact .inr (.inr q),h.cnt]
def RI.all(g:Good w)(h:RI w bs [] [] c):bs=bu w.length true:=by
 have:=Ef g (S:=λx=>bs[x]?\true) h.z λp q b d=>by
  rcases h.cl p b with z|z|z
  .cases z
  .cases z
  .exact z q d
 refine y8 λi=>?_
 by_cases a:i<w.length
 .rw[this i a,tH,mo a]
 .rw[il (by rw[h.len];lia),il (by simp;lia)]
structure z4 (w:W):Prop where
 rng:∀p q,q∈row w p->q<w.length
 irr:∀p,p∉row w p
 nod:∀p,(row w p).Nodup
 sym:∀p q,q∈row w p->p∈row w q
def Good.near(g:Good w):z4 w:=#[g.rng,g.irr,g.nod,g.sym]
def z4.good(n:z4 w)(h:∀p,p<w.length->Reach w 0 p):Good w:=#[n.rng,n.irr,n.nod,n.sym,h]
end Wb
namespace L2
open PySem PySem.Spec PySem.Calls PyProof.Rows PySem.W
section
variable {X:Cx} {C:Addr} {x:Str} {p pos:Pos} {e:Expr} {es:List Expr} {te:TE} {t:TA}
def Tx(X:Cx)(f:TE):TS:=λ_ b H=>f b H λv c=>∃a C d,v= .ref a/\c a\(tT C a d)/\qc X.K C/\mroIn X.K C (.type "BaseException")\true/\Jn X b (upd c a (lV C a d)) a
def Mc(y:X.calm=true)(z:PE X e te):PS X (.Raise (some e) none pos) (Tx X te):=by
 intro c s l H D I h;rw[arm_exec_Raise];refine wpAny_bind (wpAny_standAt ?_);simp only[evalOpt,Option.map];unfold raiseStmt;refine wpAny_bind (wpAny_bind (thn (z c s l H _ I h) λu f #[v,B,k,E,a,C,d,ev,m,F,i,q]=>wpAny_bind (wpAny_standAt (wpAny_pure ?_))));subst ev;obtain rfl:u=Value.ref a:=E;obtain⟨t,j⟩:=wo k.hok m;obtain⟨Y,Z,N,bs,G,p,sn,sub,ab,J,dd,n,k1,k2,k3,k5,r,cB,cA,cN⟩:=F.obj;have w:=k.dW _ _ r
 have L:(Value.ref C::G).contains (.type "BaseException")=true:=by
  unfold mroIn clsIn at i;rw[r] at i;simpa using i
 have M:Inv X c l (upd B a (lV C a d)) f:=by
  refine aa λG0 n=>?_;have O:=k.write (x:=a) (e:=a) (o:=lV C a d) (h':=f.heap) (t':=f.toks) (by rw[m];exact True.intro) (.inl rfl) (λb u i q=>q) #[_,j] (NM (tb:= .none) j)
  obtain⟨P,g,Q,R,os⟩:=f;refine n ?_;exact O
 have S:X.xe (.ref a) f:=q f M.MY #[C,t, .none,d,af,j, .inl rfl];have T:X.A.handled=none:=I.ok.hd y;obtain⟨P,g,Q,R,os⟩:=f
 repeat (first|with_reducible refine wpAny_loadPart_at j ?_|with_reducible refine wpAny_loadPart_at w ?_| (with_reducible refine wpAny_isSubtype_exc w ?_;rw[L]) |wp_step)
 exact wpAny_raiseNew_none T S
end
section
variable {X:Cx} {k:Nat} {f C:Addr} {fd:FuncData} {ps:List Str} {sp:Sp} {x m:Str} {p pos apos:Pos} {e o:Expr} {es:List Expr} {ta:TE} {t:TA}
def Ve(X:Cx)(b:St):XK:=λe _ c=>∃a,e= .ref a/\Jn X b c a
theorem P4{pins:List (Addr×Obj)}{σ:St}{H:Hp}{s:Shared}{Q:VK}{us:List Value}{vs:List V}(F:FnOk X.prog X.w X.K X.mg X.base (zg X.prog X.w) k f fd ps sp)(hr:bJ k X.A)(hb:Binds X.K fd ps [])
  (I:Inv X pins σ H s) (r:Vals vs us) (h:sp vs H Q (Ve X σ)):wpAny (model X.prog X.w) X.A (call (.ref f) us) (EP X pins σ Q) X.xe s:=by
 have hl:(us++ []).length=ps.length:=by rw[eJ,<-r.length];exact F.len _ _ _ _ h
 have GX:=hb s us I.dW hl;rw[eJ] at GX;refine wpAny_call (codeAny_mono (F.run X.A X.stack s H #[us,[]] us vs Q (Ve X σ) hr I.Jz GX r h) λr s' hq=>?_);cases r with
 |error e=>
  rfl';obtain⟨a,H',rfl,fl,a',ea,q⟩:=hq;cases ea;obtain⟨I2,f2⟩:=Rk I fl;ac_rfl;exact q s' I2 f2
 |ok fl=>
  cases fl with
  |ret u=>exact I.after hq
  |next=>exact False.elim hq
  |brk=>exact False.elim hq
  |cont=>exact False.elim hq
def Ka(X:Cx)(b:Sp)(t:TA):TE:=λa H Q=>t a H λc d=>b c d Q (Ve X a)
def LW(F:FnOk X.prog X.w X.K X.mg X.base (zg X.prog X.w) k f fd ps sp)(c:bJ k X.A)(d:Gl X x)(g:X.mg x\(.ref f))(i:am X.K (.ref f)=true)(j:Binds X.K fd ps [])
  (l:PA X (e::es) t) (n:(x==("__debug__":Str))=false:=by decide) (u:starEach (e::es) X.env=(false,eval e X.env)::starEach es X.env:=by rfl) (v:(backTo pos (starEach es X.env)).any (·.1)=false:=by rfl):
  PE X (.Call (.Name x p) (e::es) [] pos) (Ka X sp t):=by
 intro a s y H Q I h;refine abC (jZ I d g ?_ n);refine ab4 (h₀:=X.base) I.ok.mod.kin i (thn (l pos a s y H _ I h) λz B #[E,G,b,r,q]=>#[b.dW,?_]) u v;exact P4 F c j b r q
end
section
variable {X:Cx} {pins:List (Addr×Obj)} {σ:St} {H:Hp} {s:Shared}
def rT(I:Inv X pins σ H s)(O:X.N.Nodup)(F:X.N[i]?\x)(P:X.env.scope.names.lookup x\.local)
  (h:∀G,Inv X pins (σ.set i none) H G->Q ⟨⟩ G):wpAny M A (do bindName X.env x .none;unbindBehindTheSuite X.env x u) Q E s:=by
 obtain⟨m,J,R⟩:=id I.loc;have S:(X.env.scope.kind== .class|| (X.env.scope.kind== .module&&X.env.locals !=X.env.globals))=false:=by rw[I.ok.kind];rfl
 have T:i<σ.length:=by rw[I.len];exact(cw.mp F).1
 have wN:=I.wN;refine wpAny_nameGoes_keeps P J S λY v Z f=>?_;rfl';obtain⟨oL,_,_,xu,_⟩:=id J;ac_rfl
 have a:gx X.prog X.w H Y:=λb ob e=>by
  refine(I.hok b ob e).mT (λc L r q=>(f.2 c ?_).trans q) (λ_ q=>q) λ_ _ q=>q;rintro rfl
  rcases r with rfl|r
  .rw[I.free] at e;cases e
  .rw[I.free] at r;cases r
 refine h _ #[I.ok,I.os,I.bare,#[λb o e n B l=>?_,λb o e n B l=>?_,I.base.free,λb o e l=>?_,I.base.tups,I.base.frzs,I.base.tbls],#[_,Z,λj y v' g t e3=>?_],λy c e=>?_,I.free,I.freeC,λp hp=>?_,a,by simpa using I.len]
 .exact(f.2 b (bE (cP (Do e) I.ok.above))).trans (I.base.keep b o e n B l)
 .obtain⟨sl,g⟩:=I.base.slot b o e n B l
  exact#[sl,(f.2 b (bE (cP (Do e) I.ok.above))).trans g]
 .obtain⟨o',g⟩:=I.base.there b o e l
  exact#[o',(f.2 b (bE (cP (Do e) I.ok.above))).trans g]
 .by_cases C:j=i
  .subst C
   rw[kO T] at t;cases Da t
  .rw[jb (Ne.symm C)] at t
   obtain⟨u',r',q⟩:=R j y v' g t e3;exists u',r'
   rcases q with ⟨k,e⟩ | ⟨k,c,e,z⟩
   .refine .inl #[k,?_]
    have:y≠x:=λe=>C (uA O g (e▸F))
    simp[this,e]
   .exact .inr #[k,c,e,z.sameBut f (wN y c e)]
 .obtain⟨L,z⟩:=I.cell y c e
  exact#[L,z.sameBut f (wN y c e)]
 .obtain⟨e,n,ne,nf,d⟩:=I.pin p hp
  exact#[(f.2 p.1 ne).trans e,n,ne,nf,d]
def EG{K:ad}{C:Addr}{b:Value}{r:Bool}{f q:Str}{N:Addr}{bs e:List Value}{g:Bool}{h:List Str}{sub:List Value}{i:Bool}{c:Option Bool}{j:Option Addr}{k l m n o:Option Value}{a:String}
  (p:K.lookup C\(excClassObj f q C N bs e g h sub i c j k l m n o a)) (d:mroIn K C b\r):(Value.ref C::e).contains b=r:=by
 unfold mroIn clsIn at d;rw[p] at d;simpa using d
def NI{M:Model}{A:Around}{E:Value->Shared->Prop}{Q:Bool->Shared->Prop}{K:ad}{a C e t:Addr}{j:Value}{d:Option Addr}{b:Bool}(X:K.In s.heap)(k:s.heap.get? a\(iZ C t j d))(l:qc K C)(m:qc K e)(n:mroIn K e (.type "BaseException")\true)(o:mroIn K C (.ref e)\b)
  (h:Q b s):wpAny M A (excMatches (.ref a) (.ref e)) Q E s:=by
 obtain⟨S,T,N,bs,Y,Z,H,sub,ab,p,dd,k0,k1,k2,k3,k5,i,_⟩:=l.obj;obtain⟨q,r,N',u,v,w,x,y,z,B,F,G,I,J,L,O,c,_⟩:=m.obj;have P:=EG i o;have R:=EG c n
 replace i:=X _ _ i
 replace c:=X _ _ c
 have f:=tc_notTuple;obtain⟨hp,g,dr,tk,os⟩:=s;unfold excMatches
 repeat (first|with_reducible refine wpAny_loadPart_at k ?_|with_reducible refine wpAny_loadPart_at c ?_| (with_reducible refine wpAny_isSubtype_exc c ?_;rw[R]) | (with_reducible refine wpAny_isSubtype_exc i ?_;rw[P]) |wp_step)
 cases b<;>(wp_walk;exact h)
end
abbrev Cx.rZ(X:Cx)(a:Addr):Cx:={X with A:=X.A.mark (some (.ref a)),calm:=false,xe:=λ_ _=>False}
abbrev Cx.tr(X:Cx)(pn:List (Addr×Obj))(E:Value->Shared->Prop):Cx:={X with pn:=pn,xe:=E}
section
variable {X:Cx} {pins pn:List (Addr×Obj)} {σ:St} {H:Hp} {s:Shared} {E:Value->Shared->Prop} {a:Addr}
theorem Inv.rZ(I:Inv X pins σ H s)(a:Addr):Inv (X.rZ a) pins σ H s:=
 #[#[I.ok.mod,I.ok.kind,I.ok.glob,I.ok.blt,I.ok.above,I.ok.inj,I.ok.has,I.ok.cab,(λz=>nomatch z),I.ok.frames,I.ok.stk,I.ok.exf,I.ok.bs,I.ok.bsz,I.ok.noex,I.ok.exfs,I.ok.funs,I.ok.frf],I.os,I.bare,I.base,I.loc,I.cell,I.free,I.freeC,I.pin,I.hok,I.len]
def Inv.Dr(ok:X.Ok)(I:Inv (X.rZ a) pins σ H s):Inv X pins σ H s:=#[ok,I.os,I.bare,I.base,I.loc,I.cell,I.free,I.freeC,I.pin,I.hok,I.len]
theorem Inv.tr(I:Inv X pins σ H s)(E:Value->Shared->Prop):Inv (X.tr (X.pn++pins) E) [] σ H s:=
 #[#[I.ok.mod,I.ok.kind,I.ok.glob,I.ok.blt,I.ok.above,I.ok.inj,I.ok.has,I.ok.cab,I.ok.hd,I.ok.frames,I.ok.stk,I.ok.exf,I.ok.bs,I.ok.bsz,I.ok.noex,I.ok.exfs,I.ok.funs,I.ok.frf],I.os,I.bare,I.base,I.loc,I.cell,I.free,I.freeC,λp b=>I.pin p (by rw[eJ] at b;exact b),I.hok,I.len]
def Inv.FW(ok:X.Ok)(I:Inv (X.tr (X.pn++pins) E) [] σ H s):Inv X pins σ H s:=#[ok,I.os,I.bare,I.base,I.loc,I.cell,I.free,I.freeC,λp b=>I.pin p (by rw[eJ];exact b),I.hok,I.len]
def BO{X:Cx}(f:wy X H s a)(h:Q ⟨⟩ s):wpAny M A (setFlight (.ref a) none) Q E s:=by
 rfl';obtain⟨C,t,l,d,_,c,b⟩:=f;ac_rfl
 rcases b with rfl| ⟨T,rfl,_,_,_,_,_,o,j,e,g,b⟩
 .unfold setFlight
  refine wpAny_bind (abE (x:= .none) c rfl rfl ?_);rw[tz ∅]
  exact ir h
 .refine wpAny_setFlight_none c rfl rfl e g (yV.mp b).1 ?_
  rw[Heap.update_setField_same _ _ o j 3 .none e g b];exact h
end
noncomputable def Y5:Option Nat->Ends->Ends
 |none,D=>D
 |some i,D=>{nx:=λa H=>D.nx (a.set i none) H,rt:=D.rt,bk:=λa H=>D.bk (a.set i none) H,ct:=λa H=>D.ct (a.set i none) H}
noncomputable def aaJ:Option Nat->Addr->St->St
 |none,_,b=>b
 |some i,a,b=>b.set i (some (.ref a))
abbrev ML:=List (Addr×Option Nat×(Addr->TS))
def Dk(K:ad):ML->Ends->St->Hp->Addr->Addr->Prop
 | [],_,_,_,_,_=>False
 | (d,n,e)::r,D,c,H,a,C=>∃b,mroIn K C (.ref d)\b/\if b=true then e a (Y5 n D) (aaJ n a c) H else Dk K r D c H a C
def PH(X:Cx)(e:List ExceptHandler)(l:ML):Prop:=
 ∀(b:List (Addr×Obj))(c:St)(H:Hp)(s:Shared)(a C:Addr)(d:Option Addr)(D:Ends),Inv X b c H s->wy X H s a->H a\(lV C a d)->qc X.K C->Dk X.K l D c H a C->wpAny (model X.prog X.w) X.A (handleBy (.ref a) X.env e) (SP X b D) X.xe s
section
variable {X:Cx} {pos p:Pos} {c n:Str} {Cm:Addr} {Ec:Stmt} {yE:List Stmt} {rest:List ExceptHandler} {l:ML} {th:Addr->TS}
def SK:PH X [] []:=λ_ _ _ _ _ _ _ _ _ _ _ _ h=>h.elim
def NL{h:Heap}(e:lV C a d=lV f a i)(g:h.get? a\(iZ C t b d)):C=f:=by
 have:=On (λo=>match o with|HO.ext k=>k h|_=>True) e
 have m:∃t b,h.get? a\(iZ f t b i):=by
  have:(∃t b,h.get? a\(iZ C t b d))=(∃t b,h.get? a\(iZ f t b i)):=this
  rw[<-this];exact#[t,b,g]
 obtain⟨r,q,j⟩:=m;rw[g] at j;cases j;rfl
def XB(i:Nat)(hN:X.N.Nodup)(hi:X.N[i]?\n)(hk:X.env.scope.names.lookup n\.local)(hg:Gl X c)(hm:X.mg c\(.ref Cm))(xm:qc X.K Cm)(qM:mroIn X.K Cm (.type "BaseException")\true)(hs:∀a,jz (X.rZ a) (Ec::yE) (th a))(hr:PH X rest l)(eQ:(c==("__debug__":Str))=false:=by decide):
  PH X (.ExceptHandler (some (.Name c p)) (some n) (Ec::yE) pos::rest) ((Cm,some i,th)::l):=by
 intro pins σ H s a C d D I fl ha xc h;rfl';obtain⟨C',t,tb,d',h1,h2,h3⟩:=id fl;have eC:C'=C:=NL (Option.some.inj (h1.symm.trans ha)) h2;subst eC;obtain⟨b,hb,h⟩:=h;ac_rfl;refine wpAny_handleBy_cons (codeAny_handlers_test (wpAny_mono (jZ (I.rZ a) hg hm ?_ eQ) (λ_ _ x=>x) λ_ _ z=>z)) (by intro q;cases q)
 refine NI I.dW h2 xc xm qM hb ?_;cases b with
 |false=>exact hr pins σ H s a C' d D I fl ha xc h
 |true=>
  refine codeAny_handlers_suite_as (BO fl ?_);refine jO (X:=X.rZ a) (v:= .ref a) (I.rZ a) hN hi (.inl hk) rfl (λs1 I1=>?_) (.inr hk);refine wpAny_mono (hs a pins s1 _ H _ I1 h) (λf s2 q=>?_) λ_ _ z=>z.elim;cases f with
  |next=>obtain⟨ax,H',I',q⟩:=q;exact rT (I'.Dr I.ok) hN hi hk λs3 I3=>#[_,H',I3,q]
  |brk=>obtain⟨ax,H',I',q⟩:=q;exact rT (I'.Dr I.ok) hN hi hk λs3 I3=>#[_,H',I3,q]
  |cont=>obtain⟨ax,H',I',q⟩:=q;exact rT (I'.Dr I.ok) hN hi hk λs3 I3=>#[_,H',I3,q]
  |ret u=>obtain⟨v,ax,H',I',r,q⟩:=q;exact rT (I'.Dr I.ok) hN hi hk λs3 I3=>#[v,_,H',I3,r,q]
def aaX(X:Cx)(g:List (Addr×Obj)->(Value->Shared->Prop)->TS)(h:TS)(l:ML):TS:=λD i H=>∀e E,(∀f b a C d,b a\(lV C a d)->qc X.K C->Dk X.K l D f b a C->Jn (X.tr e E) f b a)->g e E {D with nx:=h D} i H
theorem SQ{body orelse:List Stmt}{h₀:ExceptHandler}{hs:List ExceptHandler}{tb:List (Addr×Obj)->(Value->Shared->Prop)->TS}{to:TS}(kr:X.stack=X.env::X.outer)(Om:X.env.frame\X.env.locals)
  (hb:∀pn E,jz (X.tr pn E) body (tb pn E)) (ho:jz X orelse to) (hh:PH X (h₀::hs) l):PS X (.Try body (h₀::hs) orelse [] pos) (aaX X tb to l):=by
 intro pins s σ H D I h;refine wpAny_Try_except ?_
 let E':Value->Shared->Prop:=λe s₁=>wpAny (model X.prog X.w) X.A (noteFrame e X.env) (λ_ Bh=>wpAny (model X.prog X.w) X.A (setFlight e none) (λ_ sZ=>wpAny (model X.prog X.w) X.A (handleBy e X.env (h₀::hs)) (SP X pins D) X.xe sZ) X.xe Bh) X.xe s₁
 have hw:=h (X.pn++pins) E' λax H' a C d h1 h2 h3=>by
  intro s1 I1 f1;refine AU (X:=X.tr (X.pn++pins) E') kr Om I1 f1 λs2 I2 f2=>?_;rfl';have I2':=I2.FW I.ok;obtain⟨C',t,tb,d',g1,g2,g3⟩:=f2;ac_rfl;refine hh pins ax H' s2 a C d D I2' #[C',t,tb,d',g1,g2,g3.imp id λ#[T,e1,e2,e3,e4,e5,e6]=>#[T,e1,e2,e3,e4,λp hp=>e5 p (km _ hp),e6]] h1 h2 h3
 refine wpAny_mono (hb _ E' [] s σ H _ (I.tr E') hw) (λf s1 q=>?_) λ_ _ z=>z;cases f with
 |next=>obtain⟨ax,H',I',q⟩:=q;exact ho pins s1 ax H' D (I'.FW I.ok) q
 |brk=>obtain⟨ax,H',I',q⟩:=q;exact#[ax,H',I'.FW I.ok,q]
 |cont=>obtain⟨ax,H',I',q⟩:=q;exact#[ax,H',I'.FW I.ok,q]
 |ret u=>obtain⟨v,ax,H',I',r,q⟩:=q;exact#[v,ax,H',I'.FW I.ok,r,q]
end
abbrev MH:=List D->(D->Prop)->(D->Prop)->Prop
def sq(Z:DC)(f:MH):Sp:=λg H Q E=>∃(G:Hp)(e:List D)(P R:D->Prop),aB G H/\DvAll Z G g e/\f e P R/\(∀d,P d->∀v b c,Ext G H b c->Dv Z b v d->Q v c)/\∀d,R d->∀a b c,Ext G H b c->Dv Z b (.ref a) d->E (.ref a) none c
section
variable {P:Program} {w:World} {K:ad} {mg:Str->Option Value} {base:Heap} {Z:DC}
def qy.okX{x a:Str}{st:Stmt}{f:Addr}{g:FuncData}{N d:List Str}{k:Nat}{e:Sp}{h:pX}(F:qy K x a st f g)(S:aE N d (aq st))(len:∀b H Q E,e b H Q E->b.length=d.length)
  (i:∀(c:Value)(A:Around)(outer:List Env)(s:Shared)(H:Hp)(b:List V)(Q:VK)(E:XK),bJ k (A.deeper (envOfC a (aq st) s.heap.objs.size f c))->e b H Q E->
   ∃t,jz (jt h P w K mg base N a (aq st) f c A outer s H E) (cW st) t/\t {nx:=λ_ j=>Q .aL j,rt:=Q} (start N b) H):FnOk P w K mg base h (k+1) f g d e:=by
 rfl';obtain⟨u,v,kV,m,y,z,c,B,C,rfl,n,o⟩:=F.ex;ac_rfl;exact NO n o S len λA outer s H b Q E p q=>i c A outer s H b Q E p q
theorem KZ{x b:Str}{st:Stmt}{f:Addr}{B:FuncData}{N m:List Str}{k:Nat}{p:MH}(F:qy K x b st f B)(S:aE N m (aq st))(C:List Nat)(J:∀i,i<m.length->C.getD i 0=0)(len:∀c P R,p c P R->c.length=m.length)
  (L:∀(n:Value)(A:Around)(outer:List Env)(s:Shared)(H:Hp)(E:XK)(c:List D)(R g:D->Prop),bJ k (A.deeper (envOfC b (aq st) s.heap.objs.size f n))->p c R g->
   ∃t,ko Z (jt (zg P w) P w K mg base N b (aq st) f n A outer s H E) C 0 (cW st) t/\t {nx:=λ_=>R .aL,rt:=R,xc:=λ_ d=>g d} (iT N c)):FnOk P w K mg base (zg P w) (k+1) f B m (sq Z p):=by
 refine F.okX S (λM H Q E h=>?_) (λn A outer s H M Q E O h=>?_)
 .obtain⟨G,c,R,g,s,dv,h,q⟩:=h
  rw[dv.length];exact len _ _ _ h
 rfl';obtain⟨G,c,R,g,X,dv,h,q,Y⟩:=h;obtain⟨t,ht,hq⟩:=L n A outer s H E c R g O h;have hl:=len _ _ _ h;ac_rfl;refine#[_,ht,#[G,H,G],_,_,#[G,λ_=> [],?_],hq,#[λρ Ht ax j #[l,fp,r]=>q _ Ht _ l j r.ex .aL,λd u v f l j x o nd nw=>q d u v l j x o.1,λ_ z=>z.elim,λ_ z=>z.elim,λρ d u ax j l fp a r y s2 I2 f2=>NN I2 f2 (Y d u a l j r.ex y)]];refine#[.refl X, .refl _,by unfold iT start;simp[dv.length],λi d e=>?_,λ_=>iB,(λ_ _ _ _ z=>by cases z),(λ_ _ z=>by cases z)]
 unfold iT at e
 have I:i<c.length:=by
  apply FS;intro z;rw[iz (~~~jd z),tH] at e
  split at e<;>cases e
 rw[fY (~~~I),dJ] at e
 have f9:c[i]?\d:=by
  cases z:c[i]? with
  |none=>rw[z] at e;cases e
  |some d'=>rw[z] at e;cases e;rfl
 obtain⟨v,hv,y⟩:=dv.get f9;refine#[v,?_,by rw[J i ()];exact#[y,rfl]]
 unfold start;rw[fY (by simpa [dv.length] using I),dJ,hv];rfl
end
section
variable {Z:DC} {X:Cx} {md:List Nat} {rn:Nat} {st:Stmt} {FN:List Stmt} {t:gS} {e x1 y1:Expr} {es:List Expr} {tx ty:aQ} {sd:MH} {k j:Nat} {x:Str} {ps:List Str} {p pos aN:Pos}
def QT(b:List Nat)(c:MH)(t:gS)(K:fu->DN->D->Prop):cy:=λE a=>t (cf b a) λd=>c d (K E a) (E.xc a)
def Ed{B:Bs}{b:DN}{g:St}{H G:Hp}{i:Nat->List Addr}{E:fu}{r:Ends}{K:D->Prop}{Q:VK}(S:SIx Z B md b g H G i)(h:t (cf md b) λl=>sd l K (E.xc b))(M:Meets Z X B md rn E r)
  (q:∀d,K d->∀v c f,SIx Z B md b g f c i->Dv Z c v d->Q v f):Ka X (sq Z sd) (Cu Z t) g H Q:=by
 refine#[G,_,_,S.ex.sub,S.rO,h,λl s y u z n w=>?_];have o:=S.grow n;exact#[u,l,K,E.xc b,n.sub,w,s,λd m v c f x dv=>q d m v c f (o.grow x) dv,λd m a c f x dv=>#[a,rfl,M.xc b d m g f c i a (o.grow x) dv]]
def KN(d:bR X.K X.mg x st ps)(F:FnOk X.prog X.w X.K X.mg X.base (zg X.prog X.w) k d.f d.fd ps (sq Z sd))(c:bJ j X.A)(g:DA Z X (e::es) t)(i:Gl X x:=by rfl)(l:k<=j:=by first|decide|lia)
  (n:(x==("__debug__":Str))=false:=by decide) (o:starEach (e::es) X.env=(false,eval e X.env)::starEach es X.env:=by rfl) (q:(backTo aN (starEach es X.env)).any (·.1)=false:=by rfl) (r:swapsWith (.Call (.Name x p) (e::es) [] aN) none pos.line X.env=pure false:=by rfl):
  DSt Z X md rn (.Expr (.Call (.Name x p) (e::es) [] aN) pos) (QT md sd t λE a _=>E.nx a):=by
 refine(cY (LW F (c.mono l) i d.m d.F.kp d.b g n o q) r).imp ?_;intro D J H s;rfl';obtain⟨B,a,E,⟨G,y,S⟩,h,M⟩:=s;ac_rfl;exact Ed S h M λd z v C N I dv=>M.nx _ z _ _ #[C,y,I]
structure XE (K:ad) (C:Addr):Prop where
 cls:js K C
 obj:qc K C
noncomputable def NB:Option Nat->fu->fu
 |none,E=>{E with xc:=λ_ _=>False}
 |some i,E=>{nx:=λa=>E.nx (a.set i none),rt:=E.rt,bk:=λa=>E.bk (a.set i none),ct:=λa=>E.ct (a.set i none)}
noncomputable def P8:Option Nat->D->DN->DN
 |none,_,a=>a
 |some i,d,a=>a.set i (some d)
abbrev Bq:=List (Addr×Option Nat×cy)
def Vn(K:ad)(C:Addr):Bq->fu->DN->D->Prop
 | [],_,_,_=>False
 | (c,n,f)::r,E,a,d=>∃b,cv K C (.ref c)\b/\if b=true then f (NB n E) (P8 n d a) else Vn K C r E a d
def Vm(K:ad)(l:Bq)(E:fu)(a:DN):D->Prop
 | .err C b c=>qc K C/\Vn K C l E a (.err C b c)
 |_=>False
def YT(K:ad)(tb a:cy)(l:Bq):cy:=λE b=>tb {E with nx:=a E,xc:=Vm K l E} b
def SIx.drop{i:Nat}(S:SIx Z B md a d H G f):SIx Z B md (a.set i none) (d.set i none) H G f where
 ex:=S.ex
 fl:=S.fl
 len:=by rw[gP,gP];exact S.len
 at_:=λj c h=>by
  by_cases z:i=j
  .subst z
   by_cases b:i<a.length
   .rw[kO b] at h;cases h
   .rw[Bn (jd b),il (jd b)] at h;cases h
  .rw[jb z] at h ⊢
   exact S.at_ j c h
 nd:=S.nd
 ap:=S.ap
 nw:=S.nw
noncomputable def Uy(Z:DC)(X:Cx)(b:List Nat)(d:Nat)(l:Bq):ML:=l.map λc=>(c.1,c.2.1,λa=>mj Z (X.rZ a) b d c.2.2)
def okH(a:List Nat)(l:Bq):Prop:=∀c∈l,∀i,c.2.1\i->a.getD i 0=0
def DHs(Z:DC)(X:Cx)(a:List Nat)(b:Nat)(c:List ExceptHandler)(l:Bq):Prop:=PH X c (Uy Z X a b l)/\okH a l
theorem AA{B:Bs}{E:fu}{s:Ends}(M:Meets Z X B md rn E s){q:DN}{u:St}{H G:Hp}{v:Nat->List Addr}(S:SIx Z B md q u H G v){a C:Addr}{d:D}(dv:Dv Z G (.ref a) d){K:ad}:∀(l:Bq),okH md l->Vn K C l E q d->Dk K (Uy Z X md rn l) s u H a C
 | [],_,h=>h
 | (L,n,F)::r,ok,#[b,I,h]=>by
  exists b,I;cases b with
  |false=>exact dS (AA M S dv r (λc J=>ok c (eW _ J)) (h))
  |true=>
   have h:F (NB n E) (P8 n d q):=h;refine dU ?_;cases n with
   |none=>exact#[B,q,_,#[G,v,S],h,#[M.nx,M.rt,M.bk,M.ct,λ_ _ z=>z.elim]]
   |some i=>
    refine#[B,_,_,#[G,_,S.mS (ok _ (dB ..) i rfl) dv],h,#[λw f y A #[g,m,o]=>M.nx _ f _ _ #[g,m,o.drop],M.rt,λw f y A #[g,m,o]=>M.bk _ f _ _ #[g,m,o.drop],λw f y A #[g,m,o]=>M.ct _ f _ _ #[g,m,o.drop],λ_ _ z=>z.elim]]
def Ra(v:∀g E,ko Z (X.tr g E) md rn c tb)(w:ko Z X md rn b o)(q:DHs Z X md rn (f::n) l)(y:X.stack=X.env::X.outer:=by rfl)(z:X.env.frame\X.env.locals:=by rfl):
  DSt Z X md rn (.Try c (f::n) b [] pos) (YT X.K tb o l):=by
 refine(SQ (tb:=λg E=>mj Z (X.tr g E) md rn tb) y z v w q.1).imp ?_;intro P Q H A g R F;rfl';obtain⟨B,J,E,S,h,M⟩:=A;ac_rfl;refine#[B,J,_,S,h,#[λr L s u i=>#[B,r,E,i,L,M],M.rt,M.bk,M.ct,λr d m s u G Y a i dv=>?_]];cases d<;>first|exact False.elim m|skip
 rename_i C e j
 have N:=dv;cases dv with
 |err O k p=>exact F s u a C _ (i.ex.sub _ _ O) m.1 (AA M i N l q.2 m.2)
def Q4:DHs Z X md rn [] []:=#[SK,λc a=>by cases a]
variable {c n:Str} {Cm:Addr} {Ec:Stmt} {yE:List Stmt} {rest:List ExceptHandler} {l:Bq} {th:cy}
def VB(i:Nat)(g:X.N.Nodup)(h:X.mg c\(.ref Cm))(d:XE X.K Cm)(m:∀a,ko Z (X.rZ a) md rn (o::yE) th)(f:DHs Z X md rn rest l)(q:Gl X c:=by rfl)(r:(c==("__debug__":Str))=false:=by decide)(s:X.N[i]?\n:=by rfl)(u:X.env.scope.names.lookup n\.local:=by rfl)(v:md.getD i 0=0:=by rfl):
  DHs Z X md rn (.ExceptHandler (some (.Name c p)) (some n) (o::yE) pos::rest) ((Cm,some i,th)::l):=
 #[XB i g s u q h d.obj d.cls.be m f.1 r,λc b=>by
  rcases eL.mp b with rfl|b
  .intro i z;cases z;exact v
  .exact f.2 c b]
end
section
variable {X:Cx}
def Ez(hok:gx P w H h)(e:H a\(lV C a b))(k:Gb H b c d):∃f b,PySem.W.InstAt h a f C b:=by
 obtain⟨t,j,e⟩:=JB hok e
 rcases k with ⟨rfl,_,_⟩ | ⟨l,rfl,g,_⟩
 .exact#[_,none,e,rfl,rfl,trivial]
 .obtain⟨_,m,⟨o,_,_,i,_⟩,_⟩:=DD hok g
  exact#[_,some o,e,rfl,rfl,i]
structure Kl (K:ad):Prop where
 hn:bv K (.builtin "object.__class__") "__get__"\(some (.builtin "getset_descriptor.__get__"))
 htk:dM K (.builtin "object.__class__")\true
theorem zl(i:Kl X.K):
  CallR X (.builtin "isinstance") (λg H Q=>∃(a C:Addr)(f:Option Addr)(j:List Str)(k:List V)(c:V)(d:Value)(b:Bool),g= [.ref a,c]/\H a\(lV C a f)/\Gb H f j k/\js X.K C/\DY c d/\aj X.K (.ref C) d\b/\Q (.bl b) H):=by
 intro l s B H g E Q I o h;rfl';obtain⟨a,C,f,j,k,c,d,b,rfl,r,t,u,v,e,q⟩:=h;obtain⟨G,w,rfl,x,m⟩:=o.two;subst x;obtain⟨L,y,J⟩:=Ez I.hok r t;ac_rfl
 have A:w=d:=by
  cases v with
  |own D=>exact m
  |blt n=>exact m
 subst A;exact UV (AN u i.hn i.htk) I.dW J e (λz=>nomatch z) λM=>#[.bl b,H,I.tok _,rfl,q]
inductive qu:List V->List Value->Prop where
 |nil:qu [] []
 |cons {c:V} {cu:Value} {cs:List V} {qC:List Value}:DY c cu->qu cs qC->qu (c::cs) (cu::qC)
theorem qu.vals:∀{c:List V}{d e:List Value},qu c d->Vals c e->e=d
 |_,_,_, .nil, .nil=>rfl
 |_,_,_, .cons a b, .cons r t=>by
  rw[b.vals t];cases a with
  |own D=>rw[show _=Value.ref D from r]
  |blt n=>rw[show _=Value.type n from r]
def wK(i:Kl X.K):
  CallR X (.builtin "isinstance") (λk H Q=>∃(a C c:Addr)(d:Option Addr)(l:List Str)(m f:List V)(g:List Value)(b:Bool),k= [.ref a, .ref c]/\H a\(lV C a d)/\Gb H d l m/\js X.K C/\H c\(.tup f)/\qu f g/\cI X.K (.ref C) g\b/\Q (.bl b) H):=by
 intro p s O H k P Q I j h;rfl';obtain⟨a,C,c,d,l,m,f,g,b,rfl,v,x,y,A,B,e,q⟩:=h;obtain⟨S,T,rfl,E,F⟩:=j.two;subst E;subst F;obtain⟨Y,G,J⟩:=Ez I.hok v x;obtain⟨_,L,j,o,M,r,n,t⟩:=(show cg X.prog X.w H s.heap c (.tup f) from I.hok c _ A);have N:=B.vals j;subst N;obtain⟨Z,d,da,sl⟩:=o;ac_rfl;dsimp only at r t;subst r t;exact PySem.W.kia_tup (AN y i.hn i.htk) I.dW J M e (λz=>nomatch z) λtk=>#[.bl b,H,I.tok _,rfl,q]
end
section
variable {Z:DC} {X:Cx} {a c:Expr} {cs:List Expr} {ta:aQ} {p pos:Pos}
def QW(K:ad)(e:Value)(t:aQ):aQ:=λf P=>t f λd=>match d with
 | .err C _ _=>js K C/\∃b,aj K (.ref C) e\b/\P (.bl b)
 |_=>False
def Ai{K:ad}{f:V}{g:Value}(i:Kl K)(n:DY f g)(o:PE X c (tC f))(r:DE Z X a ta)(t:Gl X "isinstance")(u:X.mg "isinstance"=none)(l:starEach [a,c] X.env=(false,eval a X.env)::starEach [c] X.env:=by rfl)
  (w:(backTo pos (starEach [c] X.env)).any (·.1)=false:=by rfl) (x:starEach [c] X.env=(false,eval c X.env)::starEach [] X.env:=by rfl) (y:X.K=K:=by rfl):
  DE Z X (.Call (.Name "isinstance" p) [a,c] [] pos) (QW K g ta):=by
 subst y;refine(cR (zl i) t u (by decide+kernel) (ah r (ah o az x) l) ∅ ∅ l w).imp ?_
 intro T H Q z;rfl';obtain⟨G,B,P,s,e,h,q⟩:=z;ac_rfl;refine#[G,B,_,s,e,h,λd m v E F k dv=>?_];cases dv<;>first|exact m.elim|skip
 rename_i a C I J L Y M N h3
 rfl';obtain⟨O,b,R,S⟩:=m;ac_rfl;exact#[a,C,I,J,L,f,g,b,rfl,k.sub _ _ M,N.mono k.sub,O,n,R,q _ S _ E F k (.bl _)]
def fD(b:X.mg x\(.ref C))(d:Gl X x:=by rfl)(e:(x==("__debug__":Str))=false:=by decide):PE X (.Name x pos) (tC (.ref C)):=Fj d b (v:= .ref C) rfl e
def Xy(b:X.mg "ValueError"=none)(d:Gl X "ValueError":=by rfl):PE X (.Name "ValueError" pos) (tC (.ty "ValueError")):=Fh d b (by decide+kernel) rfl ∅ ∅
def U9(X:Cx):List Expr->List V->Prop
 | [],[]=>True
 |e::b,v::d=>PE X e (tC v)/\starEach (e::b) X.env=(false,eval e X.env)::starEach b X.env/\U9 X b d
 |_,_=>False
theorem Pq:∀{b:List Expr}{d:List V},U9 X b d->PA X b (λj H Q=>Q d H)
 | [],[],_=>az
 |e::b,v::d,#[f,g,i]=>ah f (Pq i) g
 | [],_::_,h=>h.elim
 |_::_,[],h=>h.elim
def M6(K:ad)(e:List Value)(t:aQ):aQ:=λf P=>t f λd=>match d with
 | .err C _ _=>js K C/\∃b,cI K (.ref C) e\b/\P (.bl b)
 |_=>False
def wW{K:ad}{f:Nat}{g:Pos}{j:List V}{k:List Value}(i:Kl K)(r:qu j k)(t:U9 X cs j)(Y:j.length<=1000)(u:DE Z X a ta)(w:Gl X "isinstance")(x:X.mg "isinstance"=none)(n:starEach [a, .Tuple cs f g] X.env=(false,eval a X.env)::starEach [.Tuple cs f g] X.env:=by rfl)
  (y:(backTo pos (starEach [.Tuple cs f g] X.env)).any (·.1)=false:=by rfl) (z:starEach [.Tuple cs f g] X.env=(false,eval (.Tuple cs f g) X.env)::starEach [] X.env:=by rfl) (A:X.K=K:=by rfl):
  DE Z X (.Call (.Name "isinstance" p) [a, .Tuple cs f g] [] pos) (M6 K k ta):=by
 subst A;refine(cR (wK i) w x (by decide+kernel) (ah u (ah (sD (Pq t)) az z) n) ∅ ∅ n y).imp ?_
 intro c H Q B;rfl';obtain⟨G,F,P,s,e,h,q⟩:=B;ac_rfl;refine#[G,F,_,s,e,h,λd o v G1 H1 f dv=>?_];cases dv<;>first|exact o.elim|skip
 rename_i a C I J L ds M N h3
 rfl';obtain⟨O,b,R,S⟩:=o;ac_rfl;refine#[by rw[ab6];lia,λT m=>?_]
 exact#[a,C,T,I,J,L,j,k,b,rfl,(ay m _) _ _ (f.sub _ _ M),(N.mono f.sub).mono (ay m _),O,af,r,R,q _ S _ _ _ (f.trans (.new f.sub m)) (.bl _)]
def Vk(K:ad)(f:Str)(t:aQ):aQ:=λb P=>t b λd=>match d with
 | .err C e g=>js K C/\fP K C f/\∃y,(e.zip g).lookup f\y/\P y
 |_=>False
theorem Ke:∀{b:List Str}{d:List V}{e:List D},DvAll Z G d e->(b.zip e).lookup f\y->∃v,(b.zip d).lookup f\v/\Dv Z G v y
 | [],_,_,_,h=>by cases h
 |k::b,_,_, .nil,h=>by cases h
 |k::b,_,_, .cons a g,h=>by
  rw[List.zip_cons_cons] at h ⊢
  by_cases z:(f==k)=true
  .rw[bf,z] at h
   cases Da h;exact#[_,by rw[bf,z],a]
  .have z:(f==k)=false:=by simpa using z
   rw[bf,z] at h;obtain⟨v,i,j⟩:=Ke g h;exact#[v,by rw[bf,z];exact i,j]
def XY(K:ad)(e:TE)(f:Str):TE:=λg H Q=>e g H λx b=>∃a C d fs v,x= .ref a/\b a\(lV C a (some d))/\b d\(zk d fs)/\js K C/\fP K C f/\fs.lookup f\v/\Q v b
def Pu(k:PE X e i)(m:attributeBase e f X.env (eval e X.env)=eval e X.env):PE X (.Attribute e f pos) (XY X.K i f):=by
 intro b s w H Q I h;refine D6 m (thn (k b s w H _ I h) λu P y=>?_);rfl';obtain⟨x,A,d,B,a,C,R,fs,v,E,F,G,c,n,l,q⟩:=y;ac_rfl;subst E;obtain rfl:u=Value.ref a:=B;rfl';obtain⟨t,S,e⟩:=JB d.hok F;obtain⟨_,J,L,r,_⟩:=DD d.hok G;obtain⟨u,M,j⟩:=kz.some_of (v:=v) (o:=J f) (by rw[<-l];exact r f)
 obtain⟨od,N,O⟩:=qU L;ac_rfl;exact FZ d.dW (od:=some od) #[e,rfl,rfl,N] c (PySem.W.findObj_own c.hd n rfl (by rw[O,M])) (xg j) #[v,A,d.tok _,j,q]
def Ej{K:ad}{f:Str}(i:Kl K)(l:DE Z X a ta)(m:attributeBase a f X.env (eval a X.env)=eval a X.env:=by rfl)(n:X.K=K:=by rfl):DE Z X (.Attribute a f pos) (Vk K f ta):=by
 subst n;refine(Pu l m).imp ?_;intro O H Q o;rfl';obtain⟨G,t,P,s,e,h,q⟩:=o;ac_rfl;refine#[G,t,_,s,e,h,λd j v w x g dv=>?_];cases dv<;>first|exact j.elim|skip
 rename_i a C R S T Y z A B
 rfl';obtain⟨E,F,y,k,I⟩:=j;obtain⟨u,J,L⟩:=Ke B k;ac_rfl
 rcases A with ⟨_,rfl,_⟩ | ⟨M,rfl,N,_⟩
 .cases k
 .exact#[a,C,M,_,u,rfl,g.sub _ _ z,g.sub _ _ N,E,F,J,q _ I _ w x g L]
end
section
variable {P:Program} {w:World} {K:ad} {mg:Str->Option Value} {base:Heap} {Z:DC}
end
section
variable {Z:DC} {X:Cx} {e:Expr} {es:List Expr} {t:gS} {pos:Pos}
end
noncomputable def Qq:List Value->Bool
 | []=>false
 |v::r=>if isRef v then JJ r else JJ (v::r)
def Mx(h:Qq a=true):a= [.type "ValueError", .type "Exception", .type "BaseException", .type "object"]\/∃M,a= [.ref M, .type "ValueError", .type "Exception", .type "BaseException", .type "object"]:=by
 cases a with
 |nil=>cases h
 |cons v r=>
  rw[Qq] at h;cases b:isRef v with
  |true=>
   rw[mo b] at h;cases v with
   |ref M=>rw[xD h];exact .inr #[M,rfl]
   |_=>cases b
  |false=>
   rw[tz (by rw[b];exact dj)] at h
   exact .inl (xD h)
def Jc{K:ad}{C N:Addr}{d:ClassData}{e:List Value}{f q:Str}{bs s:List Value}{g:Bool}{h:List Str}{sub:List Value}{i:Bool}{c:Option Bool}{j:Option Addr}{k l m n o:Option Value}
  (t:cm K C=true) (u:ak K (.ref C) "__getattribute__"\(some (.builtin "BaseException.__getattribute__"))) (v:ak K (.ref C) "__getattr__"\none)
  (w:ak K (.ref C) "__setattr__"\(some (.builtin "object.__setattr__"))) (x:ak K (.ref C) "__class__"\(some (.builtin "object.__class__")))
  (p:eg K C\d) (r:d.mro= .ref C::e) (lo:K.lookup C\(excClassObj f q C N bs s g h sub i c j k l m n o "ValueError.__new__")) (y:s=e) (z:Qq e=true):XE K C:=by
 have a:∀b,cv K C b\((Value.ref C::e).contains b):=λb=>by
  unfold cv;rw[p,acE,r];rfl
 subst y
 rcases Mx z with rfl| ⟨M,rfl⟩
 .refine#[#[t,u,v,w,?_,x,?_,?_],#[f,q,N,bs,_,g,h,sub,i,c,j,k,l,m,n,o,lo,rfl,rfl,rfl]]
  .unfold CV
   rw[p];show pM d.mro=true;rw[r];rfl
  .rw[a];rfl
  .rw[a];rfl
 .refine#[#[t,u,v,w,?_,x,?_,?_],#[f,q,N,bs,_,g,h,sub,i,c,j,k,l,m,n,o,lo,rfl,rfl,rfl]]
  .unfold CV
   rw[p];show pM d.mro=true;rw[r];rfl
  .rw[a];rfl
  .rw[a];rfl
structure Yo (K:ad) (C:Addr) (qual:Str) (st:Stmt) (ps:List Str) where
 f:Addr
 fd:FuncData
 F:qy K "__init__" qual st f fd
 b:Binds K fd ps []
 made:Vd K C (.ref f)
 fn:b5 K (.ref f)=true
structure XBs (K:ad) (mg:Str->Option Value) (M:Addr):Prop where
 m:mg "MapError"\(.ref M)
 sg:bv K (.ref M) "__getattribute__"\(some (.builtin "type.__getattribute__"))
 rd:d3 K M (.type "type")=true
 fc:d6 K (.ref M) (.type "type") "__init__"\(.val (.builtin "ValueError.__init__"))
def Qe(Z:DC)(C:Addr)(g:List Str)(ok:List D->Prop):Sp:=λj H Q _=>∃(a:Addr)(h:List V)(G:Hp)(f:List D),j= .ref a::h/\H a\(tT C a none)/\G a=none/\aB G H/\DvAll Z G h f/\ok f/\f.length=g.length/\
 ∀c i d e,aB G d->aB d e->(∀b o,b≠a->H b\o->e b\o)->(∀b,H b≠none->G b=none->d b=none)->e a\(tT C a (some c))->H c=none->e c\(zk c (g.zip i))->d c=none->DvAll Z d i f->Q .aL e
section
variable {Z:DC} {X:Cx} {md:List Nat} {rn:Nat} {st:Stmt} {t:gS} {e:Expr} {es:List Expr} {k j:Nat} {x qual:Str} {ps:List Str} {p pos aN:Pos}
def Na(d:List Nat)(C:Addr)(b:List Str)(ok:List D->Prop)(t:gS):cy:=λE c=>t (cf d c) λa=>ok a/\a.length=b.length/\E.xc c (.err C b a)
def GF(hc:X.calm=true)(I:Yo X.K C qual st T)(F:FnOk X.prog X.w X.K X.mg X.base bQ k I.f I.fd T (Qe Z C m ok))(hr:bJ j X.A)(Y:XE X.K C)(hm:X.mg x\(.ref C))(g:DA Z X (e::es) t)(s:Gl X x:=by rfl)(hk:k+1<=j:=by first|decide|lia)(OC:T.length<=1000:=by decide)
  (eQ:(x==("__debug__":Str))=false:=by decide) (he:starEach (e::es) X.env=(false,eval e X.env)::starEach es X.env:=by rfl) (b9:(backTo aN (starEach es X.env)).any (·.1)=false:=by rfl):
  DSt Z X md rn (.Raise (some (.Call (.Name x p) (e::es) [] aN)) none pos) (Na md C m ok t):=by
 refine(Mc hc (L6 I.made I.fn F (hr.mono hk) s hm I.b OC bT g eQ he b9)).imp ?_;intro D σ H aJ;rfl';obtain⟨B,ρ,E,⟨G,fp,S⟩,h,M⟩:=aJ;ac_rfl;refine#[G,_,_,S.ex.sub,S.rO,h,λds v vs n H1 y bx a g=>?_];rfl';obtain⟨ok,hl,hx⟩:=v;ac_rfl;have S1:=S.grow y;have J:n a=none:=y.sub.free g;refine#[a,vs,n,ds,rfl,af,J,y.sub.trans (ay g _),bx,ok,hl,λd zs q H' g1 g2 g3 g4 g5 r g7 g8 g9=>#[rfl,a,C,some d,rfl,g5,Y.obj,Y.cls.be,?_]];have l:d≠a:=λz=>by rw[z,af] at r;cases r
 have L:H1 d=none:=by rw[ag l] at r;exact r
 have N:n d=none:=g1.free g8;have O:q a=none:=g4 a (by rw[af];exact λz=>nomatch z) J
 have x2:Ext n H1 (upd (upd q d (zk d (m.zip zs))) a (lV C a (some d))) (upd H' a (lV C a (some d))):=by
  refine#[λb o c=>?_,λb o c=>?_,λb o c=>?_,λb P s=>?_]
  .rw[ag (ao c J),ag (ao c N)];exact g1 _ _ c
  .by_cases z:b=a
   .rw[z,af] at c ⊢;exact c
   .rw[ag z] at c ⊢
    by_cases Q:b=d
    .rw[Q,af] at c;cases c;rw[Q];exact g7
    .rw[ag Q] at c;exact g2 _ _ c
  .have i:b≠a:=ao c g
   rw[ag i];exact g3 b o i (by rw[ag i];exact c)
  .have i:b≠a:=λz=>P (by rw[z];exact g)
   have R:b≠d:=λz=>P (by rw[z];exact L)
   rw[ag i,ag R];exact g4 b (by rw[ag i];exact P) s
 have s2:aB q (upd (upd q d (zk d (m.zip zs))) a (lV C a (some d))):=λb o c=>by rw[ag (ao c O),ag (ao c g8)];exact c
 exact M.xc ρ _ hx σ _ _ fp a (S1.grow x2) (.err af (.inr #[d,rfl,by rw[ag l,af],by rw[g9.length];exact hl.symm]) (g9.mono s2))
end
section
variable {Z:DC} {X:Cx} {a:Expr} {ta:aQ} {p p1 p2 p3 p4 pos:Pos}
end
end L2
namespace wB
open PySem L2 Wb
noncomputable def top(i:Nat):Stmt:=PySem.Challenge.pw_mapdye_k71_ties_dyes.main.body.getD i (.Pass #[0,0,0,0])
abbrev k6:Stmt:=top 21
abbrev oE:Stmt:=top 22
abbrev oz:Stmt:=top 25
abbrev j9:Stmt:=top 26
abbrev k7:Stmt:=top 27
abbrev kg:Stmt:=top 28
abbrev k4:Stmt:=top 29
abbrev dN:Stmt:=top 30
abbrev kc:Stmt:=top 31
abbrev ke:Stmt:=top 32
abbrev oF:Stmt:=top 35
abbrev gv:Stmt:=top 36
abbrev oG:Stmt:=top 37
abbrev sN:Stmt:=top 39
abbrev qj:Stmt:=top 40
abbrev ou:Stmt:=top 41
abbrev sO:Stmt:=top 42
abbrev sP:Stmt:=top 43
abbrev mE:Stmt:=top 44
abbrev kZ:Stmt:=top 45
abbrev vm:Stmt:=top 46
abbrev mN:Stmt:=top 47
abbrev vn:Stmt:=top 48
abbrev kY:Stmt:=top 49
abbrev jh:Stmt:=top 50
abbrev jH:Stmt:=top 51
abbrev ic:Stmt:=top 53
abbrev ji:Stmt:=top 54
abbrev gq:Stmt:=top 55
abbrev yq:Stmt:=top 56
abbrev fm:Stmt:=L2.iH (top 33) 0
abbrev ot:Stmt:=L2.iH (top 33) 1
abbrev sM:Stmt:=L2.iH (top 33) 2
abbrev kL:Stmt:=L2.iH (top 33) 3
abbrev vk:Stmt:=L2.iH (top 33) 4
abbrev kX:Stmt:=L2.iH (top 33) 5
abbrev h8:Stmt:=L2.iH (top 13) 0
def kh:aE ["self","one","other"] ["self","one","other"] (aq h8):=by bv_omega
def oN:aE ["web","side","sides","p","q"] ["web","side"] (aq k6):=by bv_omega
def Bf:aE ["web","walked","told","side","sides","step"] ["web"] (aq oE):=by bv_omega
def sS:aE ["thing","many"] ["thing","many"] (aq oz):=by bv_omega
def mO:aE ["rows","p","row","q"] ["rows"] (aq j9):=by bv_omega
def oO:aE ["rows","p","row"] ["rows"] (aq k7):=by bv_omega
def mR:aE ["rows","p","row","place","q"] ["rows"] (aq kg):=by bv_omega
def oM:aE ["rows","p","row","q"] ["rows"] (aq k4):=by bv_omega
def ie:aE ["rows","reached","waiting","p","q"] ["rows"] (aq dN):=by bv_omega
def mP:aE ["rows","q","reached"] ["rows"] (aq kc):=by bv_omega
def mQ:aE ["rows","fault"] ["rows"] (aq ke):=by bv_omega
def sT:aE ["land"] ["land"] (aq oF):=by bv_omega
def lR:aE ["web"] ["web"] (aq gv):=by bv_omega
def jI:aE ["web","dyes","number_of","told","a","b","dye"] ["web","dyes"] (aq oG):=by bv_omega
def ql:aE ["_law_turns","_law_side","_law_p","_law_q"] ["_law_turns","_law_side"] (aq mE):=by bv_omega
def oK:aE ["_law_turns","_law_side","_law_found","_law_here"] ["_law_turns","_law_side"] (aq kZ):=by bv_omega
def oI:aE ["_law_turns","_law_found","_law_seen","_law_p","_law_turn","_law_q","_law_side"] ["_law_turns"] (aq kY):=by bv_omega
def lP:aE ["_law_turns","_law_found","_law_number","_law_sides","_law_side"] ["_law_turns"] (aq jh):=by bv_omega
def qm:aE ["_law_turns","_law_ties_here","_law_a","_law_turn"] ["_law_turns"] (aq jH):=by bv_omega
def qk:aE ["_law_turns","_law_left","_law_by_side_here","_law_dyes_here","_law_number","_law_sides","_law_near","_law_some"] ["_law_turns","_law_left"] (aq ic):=by bv_omega
def lQ:aE ["_law_web_here","_law_dyes_here","_law_told","e","_law_kinds"] ["_law_web_here","_law_dyes_here"] (aq ji):=by bv_omega
def oJ:aE ["_law_web_here","_law_turns","_law_dyes_here","_law_by_side_here","_law_ties_here","_law_due","_law_handed","_law_found","_law_again"] ["_law_web_here","_law_turns","_law_dyes_here"] (aq gq):=by bv_omega
def J7:aE ["_law_script","_law_turns","_law_dyes_here","_law_others","_law_web_here"] ["_law_script"] (aq yq):=by bv_omega
def lO:aE ["self","turns","rows","fault"] ["self","turns"] (aq fm):=by bv_omega
def sQ:aE ["self"] ["self"] (aq ot):=by bv_omega
def sR:aE ["self"] ["self"] (aq kL):=by bv_omega
def oH:aE ["self","p","q","row"] ["self","p","q"] (aq kX):=by bv_omega
set_option genInjectivity false in
structure Txt (Z:DC) (mg:Str->Option Value) where
 B:Yd mg
 x_set:mg "set"=none
 x_any:mg "any"=none
 d_round_from:bR Z.K mg "round_from" k6 ["web","side"]
 d_lands:bR Z.K mg "lands" oE ["web"]
 d_is_among:bR Z.K mg "is_among" oz ["thing","many"]
 d_alien_fault:bR Z.K mg "alien_fault" j9 ["rows"]
 d_self_fault:bR Z.K mg "self_fault" k7 ["rows"]
 d_twice_fault:bR Z.K mg "twice_fault" kg ["rows"]
 d_lone_fault:bR Z.K mg "lone_fault" k4 ["rows"]
 d_reached_from_first:bR Z.K mg "reached_from_first" dN ["rows"]
 d_apart_fault:bR Z.K mg "apart_fault" kc ["rows"]
 d_first_fault:bR Z.K mg "first_fault" ke ["rows"]
 d_sides_of:bR Z.K mg "sides_of" oF ["land"]
 d_land_numbers:bR Z.K mg "land_numbers" gv ["web"]
 d_tie_dyes:bR Z.K mg "tie_dyes" oG ["web","dyes"]
 d__law_cell:bR Z.K mg "_law_cell" sN ["_law_script","_law_k"]
 d__law_mixed:bR Z.K mg "_law_mixed" qj ["_law_script","_law_turn"]
 d__law_digits:bR Z.K mg "_law_digits" ou ["_law_script","_law_at"]
 d__law_take:bR Z.K mg "_law_take" sO ["_law_left","_law_many"]
 d__law_tree:bR Z.K mg "_law_tree" sP ["_law_many","_law_left"]
 d__law_next:bR Z.K mg "_law_next" mE ["_law_turns","_law_side"]
 d__law_round:bR Z.K mg "_law_round" kZ ["_law_turns","_law_side"]
 d__law_tie:bR Z.K mg "_law_tie" vm ["_law_turns","_law_left","_law_plane_here"]
 d__law_renamed:bR Z.K mg "_law_renamed" mN ["_law_turns","_law_order","_law_left"]
 d__law_web:bR Z.K mg "_law_web" vn ["_law_script","_law_most","_law_plane_here"]
 d__law_lands:bR Z.K mg "_law_lands" kY ["_law_turns"]
 d__law_by_side:bR Z.K mg "_law_by_side" jh ["_law_turns"]
 d__law_ties:bR Z.K mg "_law_ties" jH ["_law_turns"]
 d__law_dyes:bR Z.K mg "_law_dyes" ic ["_law_turns","_law_left"]
 d__law_refused:bR Z.K mg "_law_refused" ji ["_law_web_here","_law_dyes_here"]
 d__law_right:bR Z.K mg "_law_right" gq ["_law_web_here","_law_turns","_law_dyes_here"]
 d_law:bR Z.K mg "law" yq ["_law_script"]
 W:Jm Z
 mC:mg "Web"\(.ref Z.C)
 i_f:Addr
 i_fd:FuncData
 i_F:qy Z.K "__init__" "Web.__init__" fm i_f i_fd
 mkW:Mk Z.K Z.C i_f
 m___init__b:Binds Z.K i_fd ["self","turns"] []
 m_many:Bu Z "many" "Web.many" ot ["self"]
 m_turns:Bu Z "turns" "Web.turns" sM ["self"]
 m_ties:Bu Z "ties" "Web.ties" kL ["self"]
 m_tied:Bu Z "tied" "Web.tied" vk ["self","a","b"]
 m_behind:Bu Z "behind" "Web.behind" kX ["self","p","q"]
 iX:Kl Z.K
 x_ValueError:mg "ValueError"=none
 e_MapError:Addr
 g_MapError:mg "MapError"\(.ref e_MapError)
 e_TooMany:Addr
 g_TooMany:mg "TooMany"\(.ref e_TooMany)
 e_TooSmall:Addr
 g_TooSmall:mg "TooSmall"\(.ref e_TooSmall)
 e_NoWeb:Addr
 g_NoWeb:mg "NoWeb"\(.ref e_NoWeb)
 e_NotPlane:Addr
 g_NotPlane:mg "NotPlane"\(.ref e_NotPlane)
 e_NoText:Addr
 g_NoText:mg "NoText"\(.ref e_NoText)
 e_NoCorner:Addr
 g_NoCorner:mg "NoCorner"\(.ref e_NoCorner)
 e_NoRing:Addr
 g_NoRing:mg "NoRing"\(.ref e_NoRing)
 e_Alike:Addr
 g_Alike:mg "Alike"\(.ref e_Alike)
 e_TooFew:Addr
 g_TooFew:mg "TooFew"\(.ref e_TooFew)
 e_NotFree:Addr
 g_NotFree:mg "NotFree"\(.ref e_NotFree)
 e_NotFilled:Addr
 g_NotFilled:mg "NotFilled"\(.ref e_NotFilled)
 e_Odd:Addr
 g_Odd:mg "Odd"\(.ref e_Odd)
 e_Bridge:Addr
 g_Bridge:mg "Bridge"\(.ref e_Bridge)
 e_Shared:Addr
 g_Shared:mg "Shared"\(.ref e_Shared)
 q_MapError:XE Z.K e_MapError
 q_Alike:XE Z.K e_Alike
 xb:XBs Z.K mg e_MapError
 j_Alike:Yo Z.K e_Alike "Alike.__init__" h8 ["self","one","other"]
 n_Alike_one:fP Z.K e_Alike "one"
 n_Alike_other:fP Z.K e_Alike "other"
 z_Alike_TooMany:aj Z.K (.ref e_Alike) (.ref e_TooMany)\false
 z_Alike_TooSmall:aj Z.K (.ref e_Alike) (.ref e_TooSmall)\false
 z_Alike_NoWeb:aj Z.K (.ref e_Alike) (.ref e_NoWeb)\false
 z_Alike_NotPlane:aj Z.K (.ref e_Alike) (.ref e_NotPlane)\false
 z_Alike_NoText:aj Z.K (.ref e_Alike) (.ref e_NoText)\false
 z_Alike_NoCorner:aj Z.K (.ref e_Alike) (.ref e_NoCorner)\false
 z_Alike_NoRing:aj Z.K (.ref e_Alike) (.ref e_NoRing)\false
 z_Alike_Alike:aj Z.K (.ref e_Alike) (.ref e_Alike)\true
 z_Alike_TooFew:aj Z.K (.ref e_Alike) (.ref e_TooFew)\false
 z_Alike_NotFree:aj Z.K (.ref e_Alike) (.ref e_NotFree)\false
 z_Alike_NotFilled:aj Z.K (.ref e_Alike) (.ref e_NotFilled)\false
 z_Alike_Odd:aj Z.K (.ref e_Alike) (.ref e_Odd)\false
 z_Alike_Bridge:aj Z.K (.ref e_Alike) (.ref e_Bridge)\false
 z_Alike_Shared:aj Z.K (.ref e_Alike) (.ref e_Shared)\false
 z_Alike_ValueError:aj Z.K (.ref e_Alike) (.type "ValueError")\true
 m_Alike_MapError:cv Z.K e_Alike (.ref e_MapError)\true
 t___name__:∃tk,mg "__name__"\(.str "law_mapdye_k71_ties_dyes" tk)
 c_MOST_POINTS:∃tk,mg "MOST_POINTS"\(.int 14 tk)
variable {P:Program} {w:World} {mg:Str->Option Value} {base:Heap} {Z:DC} (T:Txt Z mg)
def Qc:c8:=λa P=>∃(i n:Int),a= [.int i, .int n]/\P (.bl (decide (0<=i/\i<n)))
def CO:FnOk P w Z.K mg base bQ 1 T.d_is_among.f T.d_is_among.fd ["thing","many"] (aY Z Qc):=by
 have d:=sS.nd;refine bF T.d_is_among.F sS [0,0] ∅ (λb R h=>by obtain⟨_,_,rfl,_⟩:=h;rfl) (λe A outer s H E b R c h=>?_)
 have g:=c.units;exists _,(aw (ba (BK (v8 "int" (U 0) rfl T.B.isinstance rfl T.B.int QM) (BK (Q2 (v8 "bool" (U 0) rfl T.B.isinstance rfl T.B.bool D8)) (Jt (KH HM CI bh (U 0) (U 1)))))));obtain⟨i,n,rfl,q⟩:=h;refine#[_,rfl,rfl,true,rfl,dU #[_,rfl,rfl,false,rfl,true,rfl,dU #[_,rfl,?_]]];refine#[_,rfl,eM (λa=>#[_,rfl,?_]) (λa=>?_)]
 .have a:0<=i:=M2 a
  show R (.bl (decide (i<n)));rw[show decide (i<n)=decide (0<=i/\i<n) by simp[a]]
  exact q
 .have a:¬0<=i:=SC a
  rw[show decide (0<=i/\i<n)=false by simp[a]] at q
  exact q
def wk:c8:=λa P=>∃(w:W),a= [bH w]/\z4 w/\1<=w.length/\w.length<=14/\P .aL
def yI{w:W}(h:(eD (w.map aF))[j]?\d):j<w.length/\d= .tup [.int (j:Int),aF (row w j)]:=by
 obtain⟨x,b,rfl⟩:=jV h;obtain⟨r,a,rfl⟩:=cL b;have c:j<w.length:=(cw.mp a).1;exists c;rw[S0 a]
def vT:FnOk P w Z.K mg base bQ 2 T.d_alien_fault.f T.d_alien_fault.fd ["rows"] (aY Z wk):=by
 have c:=mO.nd;refine bF T.d_alien_fault.F mO [0,0,0,0] ∅ (λn R h=>by obtain⟨_,rfl,_⟩:=h;rfl) (λy A outer s H E n R m h=>?_)
 have z:=m.units
 refine#[_,(av (df rfl FM (fg rfl T.B.enumerate (ae (U 0) au)) (fA 2 rfl (aP (aK 1 c) (aP (aK 2 c) cQ))) (aw (df rfl FM (bL (U 2)) (aK 3 c) (aw (eB (rL (pA (aU T.d_is_among (CO T) m (ae (U 3) (ae (cz kF rfl T.B.len kD (ae (U 0) au)) au))))) (aw (ba (cF (ae rH (ae (U 1) (ae (U 3) au)))))) bM)))))
   (aw (ba gW))),?_]
 obtain⟨a,rfl,g,C,h14,q⟩:=h;refine#[_,rfl,bS (λ_ e=>∃i l b,e= [some (bH a),i,l,b]) #[_,_,_,rfl] ?_ ?_]
 .rintro j d _ o ⟨i,l,b,rfl⟩ A p
  obtain⟨G,rfl⟩:=yI o;exists rfl,rfl;refine#[_,rfl,bS (λ_ e=>∃b,e= [some (bH a),some (.int (j:Int)),some (aF (row a j)),b]) #[_,rfl] ?_ ?_]
  .rintro k I _ r ⟨t,rfl⟩ J u
   obtain⟨x,v,rfl⟩:=cL r;refine#[_,rfl,_,rfl,_,_,rfl,#[rfl,?_]];have L:x<a.length:=g.rng _ _ (cV v);rw[show decide ((0:Int)<=(x:Int)/\(x:Int)<((a.map aF).length:Int))=true by simp;lia]
   exact dS (u _ #[_,rfl])
  .rintro _ ⟨t,rfl⟩
   exact p _ #[_,_,_,rfl]
 .rintro _ ⟨i,l,b,rfl⟩
  exact q
def yd:FnOk P w Z.K mg base bQ 1 T.d_self_fault.f T.d_self_fault.fd ["rows"] (aY Z wk):=by
 have i:=oO.nd;refine bF T.d_self_fault.F oO [0,0,0] ∅ (λk R h=>by obtain⟨_,rfl,_⟩:=h;rfl) (λt A outer s H E k R l h=>?_)
 have u:=l.units
 refine#[_,(av (df rfl FM (fg rfl T.B.enumerate (ae (U 0) au)) (fA 2 rfl (aP (aK 1 i) (aP (aK 2 i) cQ))) (aw (eB (bU HL (U 1) (U 2) (by with_unfolding_all rfl)) (aw (ba (cF (ae rH (ae (U 1) (ae (U 1) au)))))) bM)))
   (aw (ba gW))),?_]
 obtain⟨a,rfl,g,v,h14,q⟩:=h;refine#[_,rfl,bS (λ_ m=>∃b c,m= [some (bH a),b,c]) #[_,_,rfl] ?_ ?_]
 .rintro j d _ n ⟨b,c,rfl⟩ A o
  obtain⟨x,rfl⟩:=yI n;exists rfl,rfl;exists _,rfl,_,rfl,rfl,gH _,_,rfl
  have e:inD (.int (j:Int)) ((row a j).map aA)=false:=by
   have:=xB (r:=row a j) (p:=j)
   rw[GT (g.irr j)] at this;exact this
  rw[tz dj,e];exact dS (o _ #[_,_,rfl])
 .rintro _ ⟨b,c,rfl⟩
  exact q
def wQ(l:List a)(k:Nat)(h:k<=l.length):cutD l none (some (k:Int))=l.take k:=by
 unfold cutD;have b:HT.bW l.length 0 none=0:=rfl
 have c:HT.bW l.length l.length (some (k:Int))=k:=by
  simp only[HT.bW]
  split<;>lia
 rw[b,c];simp
def vV:FnOk P w Z.K mg base bQ 1 T.d_twice_fault.f T.d_twice_fault.fd ["rows"] (aY Z wk):=by
 have i:=mR.nd;refine bF T.d_twice_fault.F mR [0,0,0,0,0] ∅ (λt R h=>by obtain⟨_,rfl,_⟩:=h;rfl) (λQ A outer s H E t R u h=>?_)
 have S:=u.units
 refine#[_,(av (df rfl FM (fg rfl T.B.enumerate (ae (U 0) au)) (fA 2 rfl (aP (aK 1 i) (aP (aK 2 i) cQ))) (aw (df rfl FM (fg rfl T.B.enumerate (ae (U 2) au)) (fA 2 rfl (aP (aK 3 i) (aP (aK 4 i) cQ))) (aw (eB (bU HL (U 4) (tZ (U 2) wY (wZ (U 3))) (by with_unfolding_all rfl)) (aw (ba (cF (ae rH (ae (U 1) (ae (U 4) au)))))) bM)))))
   (aw (ba gW))),?_]
 obtain⟨a,rfl,g,X,h14,q⟩:=h;refine#[_,rfl,bS (λ_ l=>∃n o b c,l= [some (bH a),n,o,b,c]) #[_,_,_,_,rfl] ?_ ?_]
 .rintro j d _ v ⟨n,o,b,c,rfl⟩ A C
  obtain⟨Y,rfl⟩:=yI v;exists rfl,rfl;refine#[_,rfl,bS (λ_ l=>∃b c,l= [some (bH a),some (.int (j:Int)),some (aF (row a j)),b,c]) #[_,_,rfl] ?_ ?_]
  .rintro k d' _ G ⟨I,J,rfl⟩ A' L
   obtain⟨y,M,rfl⟩:=jV G;obtain⟨x,r,rfl⟩:=cL M;have gb:k<(row a j).length:=(cw.mp r).1;exists rfl,rfl;exists _,rfl,_,rfl,_,rfl;have N:cutD ((row a j).map aA) none (some (k:Int))=((row a j).take k).map aA:=by rw[wQ _ _ (by simp;lia),acC]
   refine(?_:QU false (aA x) (.lst (cutD ((row a j).map aA) none (some (k:Int)))) _);rw[N];exists rfl,gH _,_,rfl
   have e:inD (aA x) (((row a j).take k).map aA)=false:=by
    rw[xB,GT];intro z;obtain⟨m,p⟩:=iA z
    have O:m<k:=by
     have:=(cw.mp p).1
     rw[gO] at this;lia
    rw[DL O] at p;exact absurd ((List.getElem?_inj () (g.nod j)).mp (p.trans r.symm)) ()
   rw[tz dj,e];exact dS (L _ #[_,_,rfl])
  .rintro _ ⟨I,J,rfl⟩
   exact C _ #[_,_,_,_,rfl]
 .rintro _ ⟨n,o,b,c,rfl⟩
  exact q
def yb:FnOk P w Z.K mg base bQ 1 T.d_lone_fault.f T.d_lone_fault.fd ["rows"] (aY Z wk):=by
 have i:=oM.nd;refine bF T.d_lone_fault.F oM [0,0,0,0] ∅ (λo R h=>by obtain⟨_,rfl,_⟩:=h;rfl) (λJ A outer s H E o R t h=>?_)
 have L:=t.units
 refine#[_,(av (df rfl FM (fg rfl T.B.enumerate (ae (U 0) au)) (fA 2 rfl (aP (aK 1 i) (aP (aK 2 i) cQ))) (aw (df rfl FM (bL (U 2)) (aK 3 i) (aw (eB (bU A2 (U 1) (fJ (U 0) (U 3)) (by with_unfolding_all rfl)) (aw (ba (cF (ae rH (ae (U 1) (ae (U 3) au)))))) bM)))))
   (aw (ba gW))),?_]
 obtain⟨a,rfl,g,M,h14,q⟩:=h;refine#[_,rfl,bS (λ_ l=>∃m n b,l= [some (bH a),m,n,b]) #[_,_,_,rfl] ?_ ?_]
 .rintro j d _ u ⟨m,n,b,rfl⟩ A v
  obtain⟨N,rfl⟩:=yI u;exists rfl,rfl;refine#[_,rfl,bS (λ_ l=>∃b,l= [some (bH a),some (.int (j:Int)),some (aF (row a j)),b]) #[_,rfl] ?_ ?_]
  .rintro k O _ y ⟨z,rfl⟩ Q C
   obtain⟨x,G,rfl⟩:=cL y;have c:=cV G;have I:x<a.length:=g.rng _ _ c;exists _,rfl,_,rfl,_,rfl,_,jJ (yJ I),rfl,gH _,_,rfl
   have e:inD (.int (j:Int)) ((row a x).map aA)=true:=by
    have:=xB (r:=row a x) (p:=j)
    rw[IR (g.sym _ _ c)] at this;exact this
   rw[mo rfl,e];exact dS (C _ #[_,rfl])
  .rintro _ ⟨z,rfl⟩
   exact v _ #[_,_,_,rfl]
 .rintro _ ⟨m,n,b,rfl⟩
  exact q
noncomputable def vI(bs:List Bool):List D:=bs.map D.bl
def M1{bs:List Bool}{i:Nat}{b:Bool}(h:bs[i]?\b):(vI bs)[i]?\(.bl b):=by unfold vI;rw[dJ,h];rfl
def Eb(bs:List Bool)(i:Nat)(b:Bool):(vI bs).set i (.bl b)=vI (bs.set i b):=by unfold vI;rw[List.map_set]
def Ea(bs:List Bool):(vI bs).length=bs.length:=aI _
def AH{n k:Nat}(h:k<n):m8 n (k:Int)\k:=by unfold m8;rw[mo (),mo ()];simp
def Iz:c8:=λa P=>∃(w:W),a= [bH w]/\z4 w/\1<=w.length/\w.length<=14/\∀bs m,RI w bs [] [] m->(∀x,bs[x]?\true->Reach w 0 x)->P (.lst (vI bs))
def Met(w:W)(bs:List Bool):Prop:=∀x,bs[x]?\true->Reach w 0 x
def mw:FnOk P w Z.K mg base bQ 1 T.d_reached_from_first.f T.d_reached_from_first.fd ["rows"] (aY Z Iz):=by
 have v:=ie.nd;refine bF T.d_reached_from_first.F ie [0,1,1,0,0] ∅ (λds R h=>by obtain⟨_,rfl,_⟩:=h;rfl) (λaT A outer s H E ds R hr h=>?_)
 have hu:=hr.units
 refine#[_,(av (KO 1 (NC:= ["row"]) (src:= [none]) rfl v (tX (aq dN)) trivial (bL (U 0)) (λ_ _ _=>(bK 0 (show(["row"]:List Str).Nodup from by decide+kernel))) (λ_ _ _=>fh) (λ_ _ _=>lY))
   (av (Aj false 1 bh lY)
   (av (gZ 2 v (gY (ae bh au)))
   (av (t9 FM (pA (U 2)) (av (Q9 3 2 v)
   (aw (df rfl FM (bL (fJ (U 0) (U 3))) (aK 4 v) (aw (eB (rL (pA (fJ (U 1) (U 4)))) (av (Aj false 1 (U 4) lY)
   (aw (iP false 2 (U 4)))) bM))))))
   (aw (ba (U 1))))))),?_]
 obtain⟨c,rfl,g,h1,h14,q⟩:=h;refine#[_,rfl,sh (ρ:= [none]) aF (λ_=> .bl false) c _ (λy b Y h=>h) rfl (small ()) λaD=>?_]
 have e0:c.map (λ_=>D.bl false)=vI (bu c.length false):=by unfold vI;rw[List.map_replicate,List.map_const']
 rw[e0];refine#[trivial,_,rfl,0,0,rfl,by rw[Ea,vz];exact AH (k:=0) (),?_]
 rw[Eb];refine#[by show 1<=sizeLine;decide,?_]
 refine rz (λm ρ=>∃(bs:List Bool)(l:List Nat)(S B:Option D),ρ= [some (bH c),some (.lst (vI bs)),some (.lst (l.map aA)),S,B]/\RI c bs l [] m/\Met c bs/\m<=14/\bs.count false+l.length=m) c.length ?_ ?_
 .refine#[_,[0],none,none,rfl,#[by simp,?_,?_,λx d=>?_,?_],λx d=>?_,h14,?_]
  .rw[lT,mo rfl,mo (by rw[vz];lia)]
  .intro x d
   have:x=0:=by simpa using d
   rw[this,lT,mo rfl,mo (by rw[vz];lia)]
  .by_cases e:0=x
   .exact .inl (by rw[<-e];simp)
   .rw[lT,tz e,tH] at d
    split at d<;>cases d
  .rw[ada (by rw[vz];lia),adw,ad3]
   simp;lia
  .by_cases e:0=x
   .rw[<-e];exact .refl _
   .rw[lT,tz e,tH] at d
    split at d<;>cases d
  .rw[ada (by rw[vz];lia),adw,ad3]
   simp;lia
 .rintro m _ ⟨bs,l,S,B,rfl,C,mt,hc,X⟩
  exists _,rfl,rfl
  rcases List.eq_nil_or_concat l with rfl| ⟨M,p,e⟩
  .exact dS #[_,rfl,q bs m C mt]
  .rw[List.concat_eq_append] at e
   subst e;rw[show Bj (.lst ((M++ [p]).map aA))=true by simp[Bj]]
   refine dU ?_;rw[dh] at X;simp only[DR] at X;obtain⟨o,rfl⟩:∃o,m=o+1:=#[m-1,()]
   have N:=C.pop;have hp:bs[p]?\true:=C.wt p (by simp)
   have Hm:p<c.length:=by rw[<-C.len];exact(cw.mp hp).1
   refine#[M.map aA,aA p,by rw[cD];rfl,?_]
   refine#[_,rfl,_,rfl,_,jJ (yJ Hm),bS (λj ρ=>∃(a:List Bool)(i:List Nat)(B:Option D),ρ= [some (bH c),some (.lst (vI a)),some (.lst (i.map aA)),some (aA p),B]/\RI c a i [p] o/\Met c a/\(∀k y,k<j->(row c p)[k]?\y->a[y]?\true)/\a.count false+i.length=o) ?_ ?_ ?_]
   .exact#[bs,M,_,rfl,N,mt,(λk n r=>by lia),()]
   .rintro j x _ d ⟨a,i,o5,rfl,t,G,I,O⟩ A hA
    obtain⟨n,J,rfl⟩:=cL d;have WN:=g.rng _ _ (cV J);have Q:n<a.length:=by rw[t.len];exact WN
    have u:a[n]?\(a[n]):=dH Q;exists _,rfl,_,rfl,_,jJ (M1 u),rfl;generalize a[n]=bn at u;cases bn with
    |true=>
     refine dS (hA _ #[a,i,_,rfl,t,G,λk y r b=>?_,O])
     by_cases e:k=j
     .rw[e,J] at b;cases b;exact u
     .exact I k y () b
    |false=>
     refine dU ?_;refine#[trivial,_,rfl,_,rfl,_,n,rfl,by rw[Ea];exact AH Q,?_]
     rw[Eb];have L:=t.push u;have abi:=L.cnt;refine#[_,rfl,_,rfl,trivial,aZ (by rw[aI];lia),?_]
     have er:i.map aA++ [aA n]=(i++ [n]).map aA:=by rw[cD];rfl
     rw[er];refine hA _ #[a.set n true,i++ [n],_,rfl,L,λy b=>?_,λk y r b=>?_,?_]
     .by_cases e:n=y
      .rw[<-e];exact .step (mt p hp) (cV J)
      .rw[lT,tz e] at b;exact G y b
     .rw[lT]
      by_cases e:n=y
      .rw[mo e,mo Q]
      .rw[tz e]
       refine I k y ?_ b;apply FS;intro z
       have:k=j:=()
       rw[this,J] at b;cases b;exact e rfl
     .obtain⟨hl,he⟩:=cw.mp u
      have:0<a.count false:=List.count_pos_iff.mpr (by rw[<-he];exact mW hl)
      rw[ada hl,he,dh];simp;lia
   .rintro _ ⟨a,i,o5,rfl,t,G,I,O⟩
    have L:=t.close λy b=>by
     obtain⟨k,r⟩:=iA b;exact I k y (by rw[aI];exact(cw.mp r).1) r
    exact#[o,(),a,i,_,_,rfl,L,G,(),O]
def FI:c8:=λa P=>∃(w:W),a= [bH w]/\z4 w/\1<=w.length/\w.length<=14/\(Good w->P .aL)/\(¬Good w->∀q,P (.tup [.str "apart", .int 0,aA q]))
def vU:FnOk P w Z.K mg base bQ 2 T.d_apart_fault.f T.d_apart_fault.fd ["rows"] (aY Z FI):=by
 have n:=mP.nd;refine bF T.d_apart_fault.F mP [0,0,0] ∅ (λu R h=>by obtain⟨_,rfl,_⟩:=h;rfl) (λN A outer s H E u R o h=>?_)
 have O:=o.units
 refine#[_,(av (df rfl FM (fg rfl T.B.enumerate (ae (aU T.d_reached_from_first (mw T) o (ae (U 0) au)) au)) (fA 2 rfl (aP (aK 1 n) (aP (aK 2 n) cQ))) (aw (eB (rL (pA (U 2))) (aw (ba (cF (ae rH (ae bh (ae (U 1) au)))))) bM)))
   (aw (ba gW))),?_]
 obtain⟨q,rfl,g,v,h14,z,C⟩:=h;refine#[_,rfl,q,rfl,g,v,h14,λbs m r mt=>bS (λk G=>(∀x,x<k->bs[x]?\true)/\∃c i,G= [some (bH q),c,i]) #[λx t=>absurd t (Nat.not_lt_zero x),_,_,rfl] ?_ ?_]
 .rintro j d _ I ⟨l,c,i,rfl⟩ A J
  obtain⟨y,L,rfl⟩:=jV I;obtain⟨b,a,rfl⟩:=cL L;exists rfl,rfl;cases b with
  |true=>
   refine#[_,rfl,rfl,dS (J _ #[λx t=>?_,_,_,rfl])]
   by_cases e:x=j
   .rw[e];exact a
   .exact l x ()
  |false=>
   refine#[_,rfl,rfl,dU #[_,rfl,by show 3<=sizeLine;decide,C (λM=>?_) j]]
   have:=r.all M
   rw[this,tH] at a
   split at a<;>cases a
 .rintro _ ⟨l,c,i,rfl⟩
  refine z (g.good λp Q=>mt p (l p ?_))
  have:=r.len
  unfold vI eD;simp;lia
def mM:FnOk P w Z.K mg base bQ 3 T.d_first_fault.f T.d_first_fault.fd ["rows"] (aY Z FI):=by
 have b:=mQ.nd;refine bF T.d_first_fault.F mQ [0,0] ∅ (λi R h=>by obtain⟨_,rfl,_⟩:=h;rfl) (λl A outer s H E i R a h=>?_)
 have m:=a.units
 refine#[_,(av (b8 false 1 b (aU T.d_alien_fault (vT T) a (ae (U 0) au)))
   (av (eB (bU CH (U 1) gW (bD _)) (aw (b8 false 1 b (aU T.d_self_fault (yd T) a (ae (U 0) au)))) bM)
   (av (eB (bU CH (U 1) gW (bD _)) (aw (b8 false 1 b (aU T.d_twice_fault (vV T) a (ae (U 0) au)))) bM)
   (av (eB (bU CH (U 1) gW (bD _)) (aw (b8 false 1 b (aU T.d_lone_fault (yb T) a (ae (U 0) au)))) bM)
   (av (eB (bU CH (U 1) gW (bD _)) (aw (b8 false 1 b (aU T.d_apart_fault (vU T) a (ae (U 0) au)))) bM)
   (aw (ba (U 1)))))))),?_]
 obtain⟨c,rfl,g,d,h14,j,k⟩:=h;exists _,rfl,c,rfl,g,d,h14,trivial;refine#[_,rfl,_,rfl,dU #[_,rfl,c,rfl,g,d,h14,trivial,?_]];refine#[_,rfl,_,rfl,dU #[_,rfl,c,rfl,g,d,h14,trivial,?_]];refine#[_,rfl,_,rfl,dU #[_,rfl,c,rfl,g,d,h14,trivial,?_]];refine#[_,rfl,_,rfl,dU #[_,rfl,c,rfl,g,d,h14,λe=>#[trivial,_,rfl,j e],λe q=>#[trivial,_,rfl,k e q]]]
def uC{P:Program}{w:World}{base:Heap}{Z:DC}(T:Txt Z n):FnOk P w Z.K n base bQ 4 T.i_f T.i_fd ["self","turns"] (FJ Z):=by
 have NW:=mM (P:=P) (w:=w) (base:=base) T;have r:=lO.nd;refine T.i_F.ok lO (λM H Q E h=>?_) (λaT A outer s H M Q E u h=>?_)
 .obtain⟨p,x,v,G,a,rfl,_⟩:=h;rfl
 obtain⟨p,x,v,G,a,rfl,F,N,O,dv,g,S,h14,q⟩:=h;have hu:=u.units
 refine#[_,aC (t:=mj Z _ [0,0,0,0] 0 _)
   (eB (rL (KQ HM HM bh (cz kF rfl T.B.len kD (ae (U 1) au)) (KI rfl T.c_MOST_POINTS))) (aw t8) bM)
  (aC (t:=mj Z _ [0,0,0,0] 0 _)
   (Ak 2 (NC:= ["row"]) (src:= [none]) rfl r (tX (aq fm)) trivial (bL (U 1)) (λ_ _ _=>(bK 0 (show(["row"]:List Str).Nodup from by decide+kernel))) (λ_ _ _=>fh) (λ_ _ _=>(qE wM rfl T.B.list nE (ae (U 0) au))))
  (aC (t:=mj Z _ [0,0,0,0] 0 _)
   (b8 false 3 r (aU T.d_first_fault (mM T) u (ae (U 2) au)))
  (aC (t:=mj Z _ [0,0,0,0] 0 _)
   (eB (bU LO (U 3) gW (bD _)) (aw t8) bM)
  (bB (SN (pv 0) (pv 2) rfl))))),?_]
 have I:(a.map aF).length=a.length:=aI _;refine#[#[G,H,G],[some (.obj p),some (bH a),none,none],{nx:=λρ=>ρ= [some (.obj p),some (bH a),none,none],rt:=λ_=>False},#[G,λ_=> [],?_],?_,#[?_,λ_ z=>z.elim,λ_ z=>z.elim,λ_ z=>z.elim,λ_ _ z=>z.elim]]
 .refine#[.refl N, .refl _,rfl,λi d c=>?_,λ_=>iB,(λ_ _ _ _ z=>by cases z),(λ_ _ z=>by cases z)]
  match i,c with
  |0,c=>cases c;exact#[_,rfl, .obj p,rfl]
  |1,c=>cases c;exact#[_,rfl,dv,rfl]
  |2,c=>cases c
  |3,c=>cases c
  |i+4,c=>cases c
 .have X:D.bl (decide ((1:Int)<=((a.map aF).length:Int)))= .bl true:=On D.bl (IR (by rw[I];lia))
  have e2:D.bl (decide (((a.map aF).length:Int)<=14))= .bl true:=On D.bl (IR (by rw[I];lia))
  exact#[_,rfl,true,X,dU #[true,e2,dS rfl]]
 rintro _ rfl Jk H1 S1;refine#[#[G,H,G],_,{nx:=λρ=>ρ= [some (.obj p),some (bH a),some (bH a),none],rt:=λ_=>False},S1,?_,#[?_,λ_ z=>z.elim,λ_ z=>z.elim,λ_ z=>z.elim,λ_ _ z=>z.elim]]
 .exact#[_,rfl,sh (ρ:= [none]) aF aF a _ (λy hy Y h=>#[_,rfl,h]) rfl (small ()) λaD=>#[trivial,rfl]]
 rintro _ rfl di H2 S2;refine#[#[G,H,G],_,{nx:=λρ=>ρ= [some (.obj p),some (bH a),some (bH a),some .aL],rt:=λ_=>False},S2,?_,#[?_,λ_ z=>z.elim,λ_ z=>z.elim,λ_ z=>z.elim,λ_ _ z=>z.elim]]
 .exact#[_,rfl,a,rfl,g.near,S,h14,λ_=>#[trivial,rfl],λz=>absurd g z]
 rintro _ rfl vZ H3 S3;refine#[#[G,H,G],_,{nx:=λρ=>ρ= [some (.obj p),some (bH a),some (bH a),some .aL],rt:=λ_=>False},S3,?_,#[?_,λ_ z=>z.elim,λ_ z=>z.elim,λ_ z=>z.elim,λ_ _ z=>z.elim]]
 .exact#[_,rfl,_,rfl,dS rfl]
 rintro _ rfl dY H4 ⟨J,fp,f⟩;obtain⟨v0,vN,o0⟩:=f.at_ 0 _ rfl;obtain⟨v2,k,o2⟩:=f.at_ 2 _ rfl;obtain⟨d0,_⟩:=o0;obtain⟨L,_⟩:=o2;cases d0;have l:=L;cases L with
 | @lst R xs ds hR e=>
  have m:=f.ex.hh _ _ F;refine#[_,k,_,vN,p,Z.C,x,[],rfl,m,T.W.cl,T.W.nR,∅,?_]
  have g4:J p=none:=f.ex.off p (by show H p≠none;rw[F];exact λz=>nomatch z) O
  refine q R J _ f.ex.gg (λb o j=>?_) (λb o j nb=>?_) f.ex.off af l
  .rw[ag (ao j g4)];exact f.ex.sub _ _ j
  .rw[ag nb];exact f.ex.hh _ _ j
def Tf:c8:=λa P=>∃(w:W),a= [.ik w]/\P (.int (w.length:Int))
def CM:FnOk P w Z.K mg base bQ 1 T.m_many.f T.m_many.fd ["self"] (aY Z Tf):=by
 have d:=sQ.nd;refine bF T.m_many.F sQ [0] ∅ (λb R h=>by obtain⟨_,rfl,_⟩:=h;rfl) (λe A outer s H E b R c h=>?_)
 have g:=c.units;exists _,(aw (ba (cz kF rfl T.B.len kD (ae (wX T.W (U 0)) au))));obtain⟨a,rfl,q⟩:=h;exists _,rfl,a,rfl;refine(?_:R (.int ((a.map aF).length:Int)));rw[aI];exact q
end wB
namespace L2
open PySem PySem.Spec PyProof.Rows
section
variable {X:Cx}
variable {o e:Expr} {es:List Expr} {to:TE} {t:TA} {name:Str} {apos aN:Pos} {id:String} {r:V->List V->Hp->VK->Prop}
end
section
variable {Z:DC} {X:Cx} {B:Bs} {md:List Nat} {rn:Nat} {ρ:DN} {σ:St} {H G:Hp} {fp:Nat->List Addr} {a e k o:Expr} {ta te tk tp:aQ} {pos apos aN p2:Pos}
def YD(g:List Nat)(i:Nat)(h:aQ):cy:=λE b=>∃c,b[i]?\(some (.lst c))/\h (cf g b) λd=>∃f,d= .lst f/\c.length+f.length<=sizeLine/\E.nx (b.set i (some (.lst (c++f))))
def Q8(i:Nat)(t:DE Z X e te)(g:md.getD i 0=1:=by rfl)(u:X.N[i]?\x:=by rfl)(w:nz X.env.scope x:=by subst_eqs)(f:(x==("__debug__":Str))=false:=by decide)(y:(x==("__classdict__":Str))=false:=by decide)
  (z:attributeBase (.Name x c) "extend" X.env (eval (.Name x c) X.env)=eval (.Name x c) X.env:=by rfl)
  (A:((backTo aN (starEach [e] X.env)).all (λx=>!x.1)&&(backToKw aN (keywordEach [] X.env)).all (λx=>x.1.isSome)&&decide (([e]:List Expr).length+([]:List Keyword).length+(if ([]:List Keyword).isEmpty then 0 else 1)<30))=true:=by rfl)
  (C:(apos.endLine==aN.line)=true:=by rfl) (j:starEach [e] X.env=(false,eval e X.env)::starEach [] X.env:=by rfl) (F:(backTo aN (starEach [] X.env)).any (·.1)=false:=by rfl)
  (I:swapsWith (.Call (.Attribute (.Name x c) "extend" apos) [e] [] aN) none pos.line X.env=pure false:=by rfl):
  DSt Z X md rn (.Expr (.Call (.Attribute (.Name x c) "extend" apos) [e] [] aN) pos) (YD md i te):=by
 refine(cY (gF GM adM adN xS (pv i u w f y) (ah t az j) z A C j F) I).imp ?_;rintro D o H ⟨B,ρ,E,⟨G,J,S⟩,⟨ds,m,h⟩,M⟩;obtain⟨l,xs,_,_,n,L,_⟩:=S.one g m;refine#[_,n,ty_list L,S.ev false h λd f=>#[trivial,λv O H' p x dv=>?_]];obtain⟨zs,rfl,P,Q⟩:=f;obtain⟨l',R,rK,T,q,Y,r,put⟩:=p.one g m;cases T;rw[n] at q;cases q;cases dv with
 | @lst b a _ k s=>
  exact#[l,b,R,a,rfl,rfl,Y,p.ex.sub _ _ k,by rw[r.length,s.length];exact P,M.nx _ Q _ _ #[O,J,put _ _ (r.append s)]]
end
def fH.ok{P:Program}{w:World}{H:Hp}{a:Addr}(x:fH b a d h):cg P w H h a (.ext (fH b a d)):=by
 refine#[x,let #[o,_,_,_,c,_]:=x;#[o,c],λg i p k=>?_];obtain⟨o,e,f,t,c,r⟩:=p;exact#[o,e,f,t,k o c,r]
theorem f6.mem:∀{b:List (Int×Addr)}{c:List (Int×Int)},f6 H b c->∀e∈b,∃p∈c,e.1=bI p/\H e.2\(.tup [.int p.1, .int p.2])
 |_,_, .nil,e,a=>nomatch a
 |_,_, .cons (p:=p) h t,e,a=>by
  rcases eL.mp a with rfl|a
  .exact#[p,dB ..,rfl,h]
  .obtain⟨q,d,f⟩:=t.mem e a
   exact#[q,eW _ d,f]
theorem f6.UA:∀{c:List (Int×Addr)}{d:List (Int×Int)},f6 H c d->∀p∈d,∃a,(bI p,a)∈c/\H a\(.tup [.int p.1, .int p.2])
 |_,_, .nil,p,b=>nomatch b
 |_,_, .cons (a:=a) h t,p,b=>by
  rcases eL.mp b with rfl|b
  .exact#[a,dB ..,h]
  .obtain⟨e,f,g⟩:=t.UA p b
   exact#[e,eW _ f,g]
theorem f6.len:∀{a:List (Int×Addr)}{b:List (Int×Int)},f6 H a b->a.length=b.length
 |_,_, .nil=>rfl
 |_,_, .cons _ t=>On (·+1) t.len
theorem f6.snoc(h:H a\(.tup [.int p.1, .int p.2])):∀{b:List (Int×Addr)}{c:List (Int×Int)},f6 H b c->f6 H (b++ [(bI p,a)]) (c++ [p])
 |_,_, .nil=> .cons h .nil
 |_,_, .cons h' t=> .cons h' (f6.snoc h t)
section
variable {X:Cx} {pins:List (Addr×Obj)} {σ:St} {H:Hp} {s:Shared}
def Inv.qi{p:Int×Int}(I:Inv X pins σ H s)(h:H a\(.tup [.int p.1, .int p.2])):IsTupleKey (intKind X.prog X.w) s.heap [p.1,p.2] a:=by
 rfl';obtain⟨c,r,⟨o,d,e,n,f⟩,_⟩:=I.tuple (fe.of h);obtain⟨i,j,rfl,⟨t,rfl⟩,⟨u,rfl⟩⟩:=Vals.two r;ac_rfl;exact#[o,_,n,d,e,f, .cons (by simp[intKind,Value.isInt]) (.cons (by simp[intKind,Value.isInt]) .nil)]
def Inv.mS(I:Inv X pins σ H s)(h:H a\(.ext (fH b a c))):fH b a c s.heap:=(I.hok a _ h).1
def mz(P:Program)(w:World)(p:Int×Int):tupleKeyHash (intKind P w) [p.1,p.2]=bI p:=rfl
def Inv.pes(I:Inv X pins σ H s)(g:f6 H b f)(h:a.toList.Perm (b.map λe=>(e.1,Value.ref e.2))):MT X.prog X.w s.heap a:=λi e c=>by
 rfl';have k:e∈a.toList:=by rw[<-fO] at c;exact cV c
 obtain⟨d,l,rfl⟩:=c7.mp (h.mem_iff.mp k);obtain⟨p,_,m,n⟩:=g.mem d l;ac_rfl;exact#[[p.1,p.2],d.2,by rw[mz,m],I.qi n]
def Inv.nU{h:List (Int×Addr)}{j:List (Int×Int)}{b:Array (Int×Value)}(I:Inv X pins σ H s)(k:f6 H h j)(l:b.toList.Perm (h.map λe=>(e.1,Value.ref e.2)))(p:Int×Int):
  (∃(i:Nat)(c:Addr),b[i]?\(tupleKeyHash (intKind X.prog X.w) [p.1,p.2], .ref c)/\IsTupleKey (intKind X.prog X.w) s.heap [p.1,p.2] c)↔p∈j:=by
 constructor
 .rintro⟨i,c,d,f⟩
  have g:(tupleKeyHash (intKind X.prog X.w) [p.1,p.2],Value.ref c)∈b.toList:=by rw[<-fO] at d;exact cV d
  obtain⟨m,r,t⟩:=c7.mp (l.mem_iff.mp g);obtain⟨q,u,x,n⟩:=k.mem m r
  have:m.2=c:=by have:=(acf t).2;injection this
  rw[this] at n
  have:=(I.qi n).inj f
  simp at this
  have:q=p:=abJ this.1 this.2
  rw[<-this];exact u
 .intro v
  obtain⟨a,d,f⟩:=k.UA p v;have g:(bI p,Value.ref a)∈b.toList:=l.mem_iff.mpr (c7.mpr #[_,d,rfl]);obtain⟨i,o⟩:=DS.mp g;rw[fO] at o;exact#[i,a,by rw[mz];exact o,I.qi f]
def L4(d:Gl X "set")(f:X.mg "set"=none):PE X (.Call (.Name "set" p) [] [] a) (λg H Q=>∀q,H q=none->Q (.ref q) (upd H q (.ext (fH (gy X.w) q [])))):=by
 intro c s g H Q I h;refine abC (jE I d f (u:= .type "set") (by decide+kernel) ?_ ∅ ∅)
 refine PyProof.Rows.callWith_type rfl (PyProof.Rows.evalArgs_nil3 (BA ?_));have i:=I.hok.fresh (bq _);exact#[.ref s.heap.objs.size,_,I.laid (t':=s.toks) (λb o e=>AC _ e) (bq _) (o:= .ext (fH (gy X.w) s.heap.objs.size [])) (fH.ok #[_,_,_,_,GE _ rfl,mK.new X.w, .refl _]),rfl,h _ i]
def aab(i:X.A.units+64<cLine)(I:Inv X pins σ H s)(j:H c\(.tup [.int p.1, .int p.2]))(k:H a\(.ext (fH (gy X.w) a e)))(f:f6 H e b)
  (h:∀d,Q (decide (p∈b)) {s with toks:=d}):wpAny (model X.prog X.w) X.A (contains (.ref a) (.ref c)) Q E s:=by
 refine aa λq l=>?_;obtain⟨o,m,r,t,n,S,g⟩:=I.mS k;refine l ?_;refine tw i n S (I.pes f g) (I.qi j) λd=>?_
 have:PySem.nU X.prog X.w s.heap m [p.1,p.2]=decide (p∈b):=by
  classical
  unfold PySem.nU;exact acK.mpr (I.nU f g p)
 rw[this];exact h d
def HY(f:X.A.units+64<cLine):OpR X (compareOp .NotIn) (λx y H Q=>∃c a b d p,x= .ref c/\y= .ref a/\H c\(.tup [.int p.1, .int p.2])/\H a\(.ext (fH (gy X.w) a b))/\f6 H b d/\Q (.bl (!decide (p∈d))) H):=by
 intro e s n H x y v u Q I g i h;rfl';obtain⟨c,a,b,d,p,rfl,rfl,k,l,m,q⟩:=h;ac_rfl;cases g;cases i;exact wpAny_bind (aab f I k l m λr=>ir #[.bl _,H,I.tok _,rfl,q])
def O3(hu:X.A.units+64<cLine):QH X "set.add" (λx j H Q=>∃l c d a p,x= .ref l/\j= [.ref c]/\H c\(.tup [.int p.1, .int p.2])/\H l\(.ext (fH (gy X.w) l d))/\f6 H d a/\a.length<=300/\
  (p∈a->Q .aL H)/\(p∉a->Q .aL (upd H l (.ext (fH (gy X.w) l (d++ [(bI p,c)])))))):=by
 intro k s σ H x j v us Q I B C h;rfl';obtain⟨l,c,d,a,p,rfl,rfl,G,m,g,hz,J,L⟩:=h;subst B;obtain⟨u,rfl,M⟩:=C.one;subst M;obtain⟨o,N,ep,t,n,S,f⟩:=I.mS m;have O:s.TypeIs (.ref l) "set":=#[o,n,S.ex.1];ac_rfl;refine abD F.slot_set_add O F.entry_set_add ?_ (F.args_set_add_2 _ _);unfold Builtin.«set.add» Builtin.Frozenset.oneOther;simp only[List.isEmpty_nil,bind_assoc];unfold Builtin.Frozenset.addrOf setAdd;refine wpAny_bind (ir ?_)
 try dsimp only
 refine wpAny_bind (ir ?_)
 try dsimp only
 refine wpAny_bind ?_;refine KB ?_;have q:=I.qi G;refine wpAny_bind (wpAny_pyHash_tuple ?_ q ?_)
 .show X.A.units+1<cLine;lia
 have sz:N.size=a.length:=by
  have:=f.length_eq
  rw[cO,aI,g.len] at this;exact this
 refine Du (s:={s with toks:=s.toks+([p.1,p.2].length+1)}) (by show X.A.units+1<cLine;lia) n S (I.pes g f) q () (λP=>?_) λR h' r T Y t' Z y S' Ib=>?_
 .show wpAny _ _ (ret Value.none) _ _ _
  exact ir #[_,rfl, .aL,H,I.tok _,rfl,J ((I.nU g f p).mp P)]
 .show wpAny _ _ (ret Value.none) _ _ _
  have ZR:p∉a:=λz=>by
   obtain⟨i,c',h1,h2⟩:=(I.nU g f p).mpr z;exact R i _ h1 c' rfl h2
  have I':=I.write (h':=h') (t':=s.toks+([p.1,p.2].length+1)) (x:=l) (e:=l) (o:= .ext (fH (gy X.w) l (d++ [(bI p,c)]))) (by rw[m];trivial) (.inl rfl) (λb u hb e=>Z.extBut b u hb e) #[r,y] (fH.ok #[r,T,Y,t',y,S',by
   rw[cD];exact Ib.trans (f.append_right _)])
  exact ir #[_,rfl, .aL,_,I',rfl,L ZR]
def aaQ(b:Bool)(r:V->List V->Hp->VK->Prop)(d:TE)(t:TA):TE:=λa H Q=>d a H λx c=>(∃p e,x= .ref p/\c p\(.ext (fH b p e)))/\t a c λf g=>r x f g Q
variable {o e:Expr} {es:List Expr} {to:TE} {t:TA} {name:Str} {apos aN:Pos} {id:String} {r:V->List V->Hp->VK->Prop}
def Sy{b:Bool}(n:PlainAttrs "set")(slot:Slot "set" name id)(q:typeOf (.builtin id)=pure (.type "method_descriptor"))(u:QH X id r)(w:PE X o to)(y:PA X (e::d) t)
  (z:attributeBase o name X.env (eval o X.env)=eval o X.env:=by rfl)
  (A:((backTo f (starEach (e::d) X.env)).all (λx=>!x.1)&&(backToKw f (keywordEach [] X.env)).all (λx=>x.1.isSome)
   &&decide ((e::d).length+([]:List Keyword).length+(if ([]:List Keyword).isEmpty then 0 else 1)<30))=true:=by rfl)
  (B:(apos.endLine==f.line)=true:=by rfl) (C:starEach (e::d) X.env=(false,eval e X.env)::starEach d X.env:=by rfl) (E:(backTo f (starEach d X.env)).any (·.1)=false:=by rfl):
  PE X (.Call (.Attribute o name apos) (e::d) [] f) (aaQ b r to t):=by
 intro c s g H Q I h;refine adY z A B rfl (thn (w c s g H _ I h) λv F G=>?_);rfl';obtain⟨x,L,j,M,N,O⟩:=G;ac_rfl;rfl';obtain⟨p,l5,rfl,P⟩:=N;subst M;obtain⟨k,_,_,_,l,S,_⟩:=j.mS P;ac_rfl;refine#["set",id,n,slot,q,#[k,l,S.ex.1],λa R=>?_,?_]
 .cases R;exact#[k,l,S.ex.2.1]
 have m:=y f c F g L _ j O;rw[C] at m ⊢;refine acx (by show(false|| (backTo f (starEach d X.env)).any (·.1))=false;rw[E]<;>rfl) (Calls.evalArgs_plain ?_)
 exact thn m λT Y #[Z,H2,I2,r2,q2]=>u c Y g H2 (.ref p) Z (.ref p) T Q I2 rfl r2 q2
end
noncomputable def EU(a:List (Int×Int))(p:Int×Int):List (Int×Int):=if p∈a then a else a++ [p]
section
variable {Z:DC} {X:Cx} {B:Bs} {md:List Nat} {rn:Nat} {ρ:DN} {σ:St} {H G:Hp} {fp:Nat->List Addr} {a e k o:Expr} {ta te tk tp:aQ} {pos apos aN p2:Pos}
noncomputable def Ie(p:Int×Int):D:= .tup [.int p.1, .int p.2]
def Dv.A4(h:Dv Z G v (Ie p)):∃c,v= .ref c/\G c\(.tup [.int p.1, .int p.2]):=by
 rfl';obtain⟨c,l,rfl,b,f⟩:=Dv.uB h;obtain⟨m,n,rfl,g,i⟩:=f.qX;rw[g.ofInt,i.ofInt] at b;ac_rfl;exact#[c,rfl,b]
def YG(w:World)(c:Bool):iu:=λa b P=>∃p d,a=Ie p/\b= .x (.sF (gy w) d)/\P (.bl (if c=true then !decide (p∈d) else decide (p∈d)))
def HQ(d:X.A.units+64<cLine):OpR X (compareOp .NotIn) (cc Z (YG X.w true)):=by
 refine(HY d).imp ?_;rintro x y H Q ⟨G,a,b,P,s,f,g,⟨p,i,rfl,rfl,h⟩,q⟩;obtain⟨c,rfl,j⟩:=f.A4;cases g with
 |x l ok=>
  rfl';obtain⟨_,n,rfl,r⟩:=ok;ac_rfl;exact#[c,_,n,i,p,rfl,rfl,s _ _ j,s _ _ l,r.mono s,q _ h _ G H (.refl s) (.bl _)]
def QY(w:World)(i:Nat):cy:=λE b=>E.nx (b.set i (some (.x (.sF (gy w) []))))
def KP(i:Nat)(n:X.N.Nodup)(q:Gl X "set")(r:X.mg "set"=none)(s:t.getD i 0=98:=by rfl)(u:X.N[i]?\x:=by rfl)(v:Loc X.env.scope x:=by subst_eqs)(y:swapsWith (.Call (.Name "set" p) [] [] A) (some (.Name x d)) m.line X.env=pure false:=by rfl)
  (C:X.fn x=true\/X.env.scope.names.lookup x\.local:=by subst_eqs):DSt Z X t O (.Assign [.Name x d] (.Call (.Name "set" p) [] [] A) m) (QY X.w i):=by
 refine(bP n u v (L4 q r) y C).imp ?_;intro D P H F;rfl';obtain⟨B,R,E,⟨G,T,S⟩,h,M⟩:=F;ac_rfl;intro c g;have J:G c=none:=S.ex.sub.free g;have x:Ext G H G (upd H c (.ext (fH (gy X.w) c []))):=#[.refl _,S.ex.sub.trans (ay g _),ay g _,λ_ _ z=>z];refine M.nx _ h _ _ #[G,_,(S.grow x).FC s (f:= [c]) (.inr (.inr #[c,_,rfl,af,rfl, .inr #[rfl,_,rfl,iB,[],rfl, .nil]])) (by simp) (λb l=>?_) λb l j _ L=>?_]
 .rw[fZ] at l;subst l
  exact#[S.ex.hh.free g,(by rw[af];exact λz=>nomatch z),J]
 .rw[fZ] at l;subst l
  exact(S.nw j _ L).2.1 g
def Vh(w:World)(f:List Nat)(m:Bool)(i:Nat)(g:aQ):cy:=λE b=>∃c,b[i]?\(some (.x (.sF (gy w) c)))/\g (Ds f m b) λd=>∃p,d=Ie p/\c.length<=300/\E.nx (b.set i (some (.x (.sF (gy w) (EU c p)))))
def Np(m:Bool)(i:Nat)(hu:X.A.units+64<cLine)(he:DE Z X e te)(s:md.getD i 0=98:=by rfl)(hi:X.N[i]?\x:=by rfl)(hv:nz X.env.scope x:=by subst_eqs)(t:(x==("__debug__":Str))=false:=by decide)(fK:(x==("__classdict__":Str))=false:=by decide)
  (e8:attributeBase (.Name x g) "add" X.env (eval (.Name x g) X.env)=eval (.Name x g) X.env:=by rfl)
  (lB:((backTo aN (starEach [e] X.env)).all (λx=>!x.1)&&(backToKw aN (keywordEach [] X.env)).all (λx=>x.1.isSome)&&decide (([e]:List Expr).length+([]:List Keyword).length+(if ([]:List Keyword).isEmpty then 0 else 1)<30))=true:=by rfl)
  (cT:(apos.endLine==aN.line)=true:=by rfl) (I:starEach [e] X.env=(false,eval e X.env)::starEach [] X.env:=by rfl) (fU:(backTo aN (starEach [] X.env)).any (·.1)=false:=by rfl)
  (n0:swapsWith (.Call (.Attribute (.Name x g) "add" apos) [e] [] aN) none pos.line X.env=pure false:=by rfl):
  DSt Z X md rn (.Expr (.Call (.Attribute (.Name x g) "add" apos) [e] [] aN) pos) (Vh X.w md m i te):=by
 refine(cY (Sy (b:=gy X.w) PySem.F.plainAttrs_set PySem.F.slot_set_add PySem.F.type_set_add (O3 hu) (pv i hi hv t fK) (ah he az I) e8 lB cT I fU) n0).imp ?_;intro D σ H aJ;rfl';obtain⟨B,J,E,⟨G,L,S⟩,⟨O,n,h⟩,M⟩:=aJ;ac_rfl;rfl';obtain⟨v0,y,P⟩:=S.at_ i _ n;rw[s] at P;obtain⟨l,φ,rfl,hl,_,nd,es,rfl,pe⟩:=P.xA;ac_rfl;refine#[_,y,#[l,_,rfl,hl],S.ev m h λd t=>?_];obtain⟨p,rfl,hz,q⟩:=t;refine#[by cases m<;>trivial,λv Q H' C x dv=>?_]
 rfl';obtain⟨c,rfl,R⟩:=dv.A4;obtain⟨v1,T,Y⟩:=C.at_ i _ n;rw[y] at T;ac_rfl;cases Da T;rfl';rw[s] at Y;obtain⟨l',φ',e',zD,k,zN,l5,rfl,o⟩:=Y.xA;cases e';ac_rfl;refine#[l,c,l5,O,p,rfl,rfl,x.sub _ _ R,zD,o.mono x.sub,hz,λr=>?_,λr=>?_]
 .rw[EU,mo r] at q
  refine M.nx _ q _ _ #[Q,L,?_]
  have e:J.set i (some (.x (.sF (gy X.w) O)))=J:=by
   refine y8 λj=>?_
   by_cases z:i=j
   .subst z
    have bV:=(cw.mp n).1;rw[kO bV,n]
   .rw[jb z]
  rw[e];exact C
 .rw[EU,tz r] at q
  refine M.nx _ q _ _ #[Q,L,C.mut y (b:=l) (by rw[k];simp) ?_]
  rw[s,k];refine .inr (.inr #[l,_,rfl,af,rfl, .inr #[rfl,_,rfl,?_,_,rfl,o.snoc R]]);rw[jx];refine#[zN,by simp,λa ha b hb z=>r ?_]
  rw[fZ] at hb;rw[<-hb,<-z];exact ha
end
section
variable {Z:DC} {X:Cx}
def MX:c8:=λa P=>∃L:List (List Nat),a= [.lst (L.map aF)]/\L.length<=1000/\∀M:List (List Nat),M.Perm L->M.Pairwise n6->P (.lst (M.map aF))
def Rb(h:Dv Z G v (aF r)):∃a,v= .ref a/\G a\(.lst ((jn r).map V.int)):=by
 obtain⟨a,d,rfl,b,c⟩:=Dv.kU h
 have:d=(jn r).map V.int:=by
  have e:r.map aA=(jn r).map D.int:=by unfold jn;rw[dX];rfl
  rw[e] at c;exact nK c
 rw[this] at b;exact#[a,rfl,b]
def SX(h:G a\(.lst ((jn r).map V.int))):Dv Z G (.ref a) (aF r):=by
 have e:aF r= .lst ((jn r).map D.int):=by unfold aF jn;rw[dX];rfl
 rw[e];exact .lst h (.ints _)
theorem Al:∀{b:List V}{L:List (List Nat)},DvAll Z G b (L.map aF)->∃A:List (Addr×List Nat),b=A.map (λe=>V.ref e.1)/\A.map (·.2)=L/\Gd G A
 |b,[],h=>by cases h;exact#[[],rfl,rfl,λp c=>by cases c]
 |b,r::L,h=>by
  cases h with
  |cons a f=>
   obtain⟨A,g,i,j⟩:=Al f;obtain⟨p,rfl,c⟩:=Rb a;refine#[(p,r)::A,by rw[g];rfl,by rw[<-i];rfl,λq d=>?_]
   rcases eL.mp d with rfl|d
   .exact c
   .exact j q d
theorem Gd.dv:∀{L:List (Addr×List Nat)},Gd G L->DvAll Z G (L.map λe=>V.ref e.1) ((L.map (·.2)).map aF)
 | [],_=> .nil
 |x::L,h=> .cons (SX (h x (dB ..))) (Gd.dv λp a=>h p (eW _ a))
def Gr(j:X.A.units+64<cLine):CallR X (.builtin "sorted") (j3 Z MX):=by
 refine(wL j).imp ?_;rintro t H Q ⟨G,k,P,s,dv,⟨c,rfl,u,b⟩,q⟩;cases dv with
 |cons a l=>
  cases l;cases a with
  | @lst p v k h e=>
   obtain⟨L,rfl,d,f⟩:=Al e;have w:L.length=c.length:=by rw[<-d];simp
   refine#[_,L,rfl,aG.of (s _ _ h),λp b=>s _ _ (f p b),(),λp M g i m=>?_]
   have n:(M.map (·.2)).Perm c:=by rw[<-d];exact i.map _
   have o:Gd (upd G p (.lst (M.map λe=>V.ref e.1))) M:=λx r=>ay (s.free g) _ _ _ (f x (i.mem_iff.mp r));exact q _ (b _ n m) _ _ _ (.new s g) (.lst af o.dv)
end
section
variable {Z:DC} {X:Cx} {md:List Nat} {rn:Nat} {a b:Expr} {pos:Pos} {ta:gS}
def YN(d:List Nat)(i j:Nat)(e:gS):cy:=λE c=>e (cf d c) λf=>∃a b,f= [a,b]/\E.nx ((c.set i (some a)).set j (some b))
def Jx(i j:Nat){kt k2 Ig}(d:X.calm=true)(e:X.N.Nodup)(f:DA Z X [a,b] ta)(g:X.N[i]?\x:=by rfl)(k:X.N[j]?\y:=by rfl)(l:i≠j:=by decide)(m:md.getD i 0=0:=by rfl)(n:md.getD j 0=0:=by rfl)
  (o:X.env.scope.names.lookup x\.local:=by rfl) (p:X.env.scope.names.lookup y\.local:=by rfl)
  (hw:swappedStores [.Tuple [.Name x c, .Name y py] kt pt] (.Tuple [a,b] k2 Ig) X.env=pure (some [x,y]):=by rfl)
  (q:swapsWithSole [.Tuple [.Name x c, .Name y py] kt pt] (.Tuple [a,b] k2 Ig) pos.line X.env=pure false:=by rfl):
  DSt Z X md rn (.Assign [.Tuple [.Name x c, .Name y py] kt pt] (.Tuple [a,b] k2 Ig) pos) (YN md i j ta):=by
 refine(SO d e g k l o p f hw q).imp ?_;intro D I H r;rfl';obtain⟨B,t,E,⟨G,L,S⟩,h,M⟩:=r;ac_rfl;exists G,cf md t,_,S.ex.sub,S.rO,h;rintro _ ⟨a,b,rfl,w⟩ O z P x A;obtain⟨v,u,rfl,C,F⟩:=A.qX;exact#[v,u,rfl,M.nx _ w _ _ #[z,_,((S.grow x).mS m C).mS n F]]
end
def bY.ok{P:Program}{w:World}{H:Hp}{a:Addr}{vs:List FV}(x:bY a c vs h):cg P w H h a (.ext (bY a c vs)):=by
 refine#[x,let #[_,o,_,_,b,_]:=x;#[o,b],λf g p k=>?_];obtain⟨z,o,d,e,b,r⟩:=p;exact#[z,o,d,e,k o b,r]
inductive k8 (H:Hp):List (Int×Addr)->List (Int×Int)->List FV->List (List Int×Addr×Value)->Prop
 |nil:k8 H [] [] [] []
 |cons {a:Addr} {p:Int×Int} {v:FV} {u:Value} {es:List (Int×Addr)} {ks:List (Int×Int)} {vs:List FV} {xs:List (List Int×Addr×Value)}:H a\(.tup [.int p.1, .int p.2])->Kk v u->k8 H es ks vs xs->k8 H ((bI p,a)::es) (p::ks) (v::vs) (([p.1,p.2],a,u)::xs)
theorem k8.keys:∀{c:List (Int×Addr)}{a:List (Int×Int)}{d:List FV}{b:List (List Int×Addr×Value)},k8 H c a d b->b.map (·.1)=a.map λp=> [p.1,p.2]
 |_,_,_,_, .nil=>rfl
 |_,_,_,_, .cons _ _ t=>by rw[dq,dq,t.keys]
theorem k8.len:∀{b:List (Int×Addr)}{a:List (Int×Int)}{c:List FV}{xs:List (List Int×Addr×Value)},k8 H b a c xs->xs.length=a.length
 |_,_,_,_, .nil=>rfl
 |_,_,_,_, .cons _ _ t=>On (·+1) t.len
theorem k8.snoc(b:H a\(.tup [.int p.1, .int p.2]))(h:Kk v u):∀{c:List (Int×Addr)}{d:List (Int×Int)}{e:List FV}{f:List (List Int×Addr×Value)},k8 H c d e f->k8 H (c++ [(bI p,a)]) (d++ [p]) (e++ [v]) (f++ [([p.1,p.2],a,u)])
 |_,_,_,_, .nil=> .cons b h .nil
 |_,_,_,_, .cons k' g t=> .cons k' g (k8.snoc b h t)
def u0(P:Program)(w:World)(p:Int×Int)(a:Addr)(u:Value):entryOfKey (tupleKind (intKind P w)) ([p.1,p.2],a,u)=#[bI p, .ref a,u]:=by
 unfold entryOfKey;rw[show(tupleKind (intKind P w)).hash [p.1,p.2]=bI p from mz P w p]
def VM(d:Kh l b g):∀{c:List (Int×Int)},f6 H b c->∃f,k8 H b c g f/\∀(P:Program)(w:World),l=f.map (entryOfKey (tupleKind (intKind P w))):=by
 induction d with
 |nil=>intro c i;cases i;exact#[[], .nil,λ_ _=>rfl]
 | @cons e l h a v b g j k m d n=>
  intro c i;cases i with
  | @cons _ p _ r h t=>
   obtain⟨f,o,q⟩:=n t;refine#[([p.1,p.2],a,e.val)::f, .cons h m o,λP w=>?_];rw[dq,<-q P w,u0];obtain⟨s,u,ev⟩:=e;simp only at j k ⊢;rw[j,k]
def NH{e:List (Int×Int)}(d:k8 H a e b c):Kh (c.map (entryOfKey (tupleKind (intKind P w)))) a b:=by
 induction d with
 |nil=>exact .nil
 |cons _ h t f=>
  rw[dq,u0];exact .cons rfl rfl h f
def k8.isKey(I:Inv X a e H s)(d:k8 H f g i c):∀x∈c,IsTupleKey (intKind X.prog X.w) s.heap x.1 x.2.1:=by
 induction d with
 |nil=>intro x b;cases b
 |cons h _ _ j=>
  intro x b
  rcases eL.mp b with rfl|b
  .exact I.qi h
  .exact j x b
def kC{K:Type} [DecidableEq K] {b:List (K×Addr×Value)} {k:K}:(atKey b k).isSome=true↔k∈b.map (·.1):=by
 unfold atKey;rw[Option.isSome_map,List.find?_isSome,c7]
 constructor
 .rintro⟨x,a,e⟩;exact#[x,a,M2 e]
 .rintro⟨x,a,e⟩;exact#[x,a,IR e]
def pN{p:Int×Int}{a:List (Int×Int)}: [p.1,p.2]∈a.map (λp=> [p.1,p.2])↔p∈a:=by
 rw[c7]
 constructor
 .rintro⟨q,b,e⟩
  simp at e;rw[<-show q=p from abJ e.1 e.2];exact b
 .intro h;exact#[p,h,rfl]
def Fg{c:List (Int×Int)}(h:c.Nodup):(c.map λp=> [p.1,p.2]).Nodup:=by
 rw[F5,jc];rw[F5] at h;exact h.imp λ {a b} n e=>n (by simp at e;exact abJ e.1 e.2)
section
variable {X:Cx} {pins:List (Addr×Obj)} {σ:St} {H:Hp} {s:Shared}
def Inv.Q7(I:Inv X pins σ H s)(h:H a\(.ext (bY a b e)))(f:f6 H b c)(g:c.Nodup):
  (a==sysModules)=false/\∃xs,k8 H b c e xs/\s.heap.DictOfH (tupleKind (intKind X.prog X.w)) a xs:=by
 rfl';obtain⟨z,o,j,k,l,m,n,p⟩:=(I.hok a _ h).1;obtain⟨xs,d,q⟩:=VM p f;ac_rfl;exact#[z,xs,d,o,j,k,l,m,n,q _ _,d.isKey I,by rw[d.keys];exact Fg g]
def Pt:PE X (.Dict [] [] b) (λd H Q=>∀q,H q=none->Q (.ref q) (upd H q (.ext (bY q [] [])))):=by
 intro c s d H Q I h;have e:=I.hok.fresh (bq s.heap.objs.size);refine wpAny_Dict_empty #[.ref s.heap.objs.size,_,I.laid (a:=s.heap.objs.size) (t':=s.toks) (λ_ _ q=>AC _ q) (bq _) (o:= .ext (bY s.heap.objs.size [] [])) (bY.ok #[?_,_, #[],0,GE _ rfl,#[rfl,rfl,rfl],rfl, .nil]),rfl,h _ e];have f:mainGlobals<s.heap.objs.size:=(I.mod.glob.keeps I.bk).lt;have g:sysModules<s.heap.objs.size:=Nat.lt_trans ∅ f
 exact abA.mpr (Ne.symm (bE g))
def Ff(F:X.A.units+64<cLine):OpR X (compareOp .NotIn) (λx y H Q=>∃c a d b g p,x= .ref c/\y= .ref a/\H c\(.tup [.int p.1, .int p.2])/\H a\(.ext (bY a d g))/\f6 H d b/\b.Nodup/\Q (.bl (!decide (p∈b))) H):=by
 intro i s G H x y v u Q I l m h;rfl';obtain⟨c,a,d,b,g,p,rfl,rfl,o,r,t,B,q⟩:=h;ac_rfl;cases l;cases m;rfl';obtain⟨z,C,j,E⟩:=I.Q7 r t B;ac_rfl
 have:(atKey C [p.1,p.2]).isSome=decide (p∈b):=by
  by_cases e:p∈b
  .rw[IR e];exact kC.mpr (by rw[j.keys];exact pN.mpr e)
  .rw[GT e]
   apply vB.mpr;exact λz=>e (pN.mp (by rw[<-j.keys];exact kC.mp z))
 exact PyProof.Rows.wpAny_notIn_heap (knd:=tupleKind (intKind X.prog X.w)) (k:= [p.1,p.2]) (by show X.A.units+1<cLine;lia) (I.qi o) z E (by rw[this];exact#[.bl _,H,I.tok _,rfl,q])
noncomputable def vF:FV->V
 | .int i=> .int i
 | .bl b=> .bl b
def JC(h:RelV (vF f) u):Kk f u:=by
 cases f with
 |int i=>exact h
 |bl b=>exact h
variable {o i value:Expr} {td ti tv:TE} {pos pos':Pos}
def X3(h j k:TE):TS:=λD b H=>k b H λv l=>h b l λx m=>j b m λy d=>∃a c f e g p fv,x= .ref a/\y= .ref c/\v=vF fv/\d a\(.ext (bY a f g))/\d c\(.tup [.int p.1, .int p.2])/\f6 d f e/\e.Nodup/\p∉e/\e.length<=300/\D.nx b (upd d a (.ext (bY a (f++ [(bI p,c)]) (g++ [fv]))))
def PD(hu:X.A.units+64<cLine)(G:PE X o td)(J:PE X i ti)(L:PE X value tv)(M:swapsWith value (some (.Subscript o i pos')) pos.line X.env=pure false:=by rfl):PS X (.Assign [.Subscript o i pos'] value pos) (X3 td ti tv):=by
 intro d s f H D I h;refine wpAny_Assign_Subscript (thn (L d s f H _ I h) λr N #[v,O,P,Q,R]=>thn (G d N f O _ P R) λu S #[x,T,Y,Z,q2]=>thn (J d S f T _ Y q2) λiv s3 #[y,H3,g,ry,a,c,m,ks,n,p,fv,e1,e2,e3,t,B,pe,nd,np,hz,q3]=>?_) M;subst e1 e2 e3;cases Z;cases ry;obtain⟨z,j,l,hm⟩:=g.Q7 t pe nd;refine wpAny_setItem_heap (knd:=tupleKind (intKind X.prog X.w)) (k:= [p.1,p.2]) (by show X.A.units+1<cLine;lia) (g.qi B) hm (λh' C sb=>?_) (small (by rw[l.len];lia))
 have na:atKey j [p.1,p.2]=none:=by
  cases e:atKey j [p.1,p.2] with
  |none=>rfl
  |some q=>exact absurd (pN.mp (by rw[<-l.keys];exact kC.mp (by rw[e];rfl))) np
 rw[storedH_new na] at C;rfl';have x2:k8 H3 (m++ [(bI p,c)]) (ks++ [p]) (n++ [fv]) (j++ [([p.1,p.2],c,r)]):=l.snoc B (JC Q);obtain⟨E,VO,w4,F,vO,f9,ud,_,_⟩:=C;have I':=g.write (h':=h') (t':=s3.toks+(tupleKind (intKind X.prog X.w)).draws [p.1,p.2]) (x:=a) (e:=a) (o:= .ext (bY a (m++ [(bI p,c)]) (n++ [fv]))) (by rw[t];trivial) (.inl rfl) (λb u hb e=>sb.extBut b u hb e) #[E,F] (bY.ok #[z,E,VO,w4,F,vO,f9,by rw[ud];exact NH x2])
 ac_rfl;exact#[f,_,I',q3]
end
section
variable {Z:DC} {X:Cx} {B:Bs} {md:List Nat} {rn:Nat} {ρ:DN} {σ:St} {H G:Hp} {fp:Nat->List Addr} {a e k o:Expr} {ta te tk tp:aQ} {pos apos aN p2:Pos}
def YF(c:Bool):iu:=λa b P=>∃p d f,a=Ie p/\b= .x (.eG d f)/\P (.bl (if c=true then !decide (p∈d) else decide (p∈d)))
def HP(d:X.A.units+64<cLine):OpR X (compareOp .NotIn) (cc Z (YF true)):=by
 refine(Ff d).imp ?_;rintro x y H Q ⟨G,a,b,P,s,f,g,⟨p,i,j,rfl,rfl,h⟩,q⟩;obtain⟨c,rfl,l⟩:=f.A4;cases g with
 |x m ok=>
  rfl';obtain⟨r,t,rfl,u⟩:=ok;ac_rfl;exact#[c,_,t,i,j,p,rfl,rfl,s _ _ l,s _ _ m,u.mono s,r,q _ h _ G H (.refl s) (.bl _)]
def Vj(i:Nat):cy:=λE b=>E.nx (b.set i (some (.x (.eG [] []))))
def Es(i:Nat)(n:X.N.Nodup)(p:q.getD i 0=98:=by rfl)(r:X.N[i]?\x:=by rfl)(s:Loc X.env.scope x:=by subst_eqs)(t:swapsWith (.Dict [] [] u) (some (.Name x d)) m.line X.env=pure false:=by rfl)
  (v:X.fn x=true\/X.env.scope.names.lookup x\.local:=by subst_eqs):DSt Z X q F (.Assign [.Name x d] (.Dict [] [] u) m) (Vj i):=by
 refine(bP n r s Pt t v).imp ?_;intro D I H w;rfl';obtain⟨B,L,E,⟨G,O,S⟩,h,M⟩:=w;ac_rfl;intro c g;have A:G c=none:=S.ex.sub.free g;have x:Ext G H G (upd H c (.ext (bY c [] []))):=#[.refl _,S.ex.sub.trans (ay g _),ay g _,λ_ _ z=>z];refine M.nx _ h _ _ #[G,_,(S.grow x).FC p (f:= [c]) (.inr (.inr #[c,_,rfl,af,rfl, .inr #[rfl,_,rfl,iB,[],rfl, .nil]])) (by simp) (λb l=>?_) λb l j _ C=>?_]
 .rw[fZ] at l;subst l
  exact#[S.ex.hh.free g,(by rw[af];exact λz=>nomatch z),A]
 .rw[fZ] at l;subst l
  exact(S.nw j _ C).2.1 g
noncomputable def NS:FV->D
 | .int i=> .int i
 | .bl b=> .bl b
def Dv.UK(h:Dv Z G v (NS f)):v=vF f:=by
 cases f with
 |int i=>exact h.ofInt
 |bl b=>exact h.xW
def Vy(f:List Nat)(i:Nat)(h j:aQ):cy:=λE b=>j (cf f b) λd=>∃fv c g,d=NS fv/\b[i]?\(some (.x (.eG c g)))/\h (cf f b) λl=>∃p,l=Ie p/\p∉c/\c.length<=300/\E.nx (b.set i (some (.x (.eG (c++ [p]) (g++ [fv])))))
def Et(i:Nat)(T:X.A.units+64<cLine)(Y:DE Z X k tk)(o:DE Z X e te)(m:md.getD i 0=98:=by rfl)(hi:X.N[i]?\x:=by rfl)(hv:nz X.env.scope x:=by subst_eqs)(n:(x==("__debug__":Str))=false:=by decide)(fK:(x==("__classdict__":Str))=false:=by decide)
  (hs:swapsWith e (some (.Subscript (.Name x r) k g)) pos.line X.env=pure false:=by rfl):DSt Z X md rn (.Assign [.Subscript (.Name x r) k g] e pos) (Vy md i tk te):=by
 refine(PD T (pv i hi hv n fK) Y o hs).imp ?_;intro D σ H aJ;rfl';obtain⟨B,ρ,E,⟨G,fp,S⟩,h,M⟩:=aJ;ac_rfl;refine S.ev false h λd n=>#[trivial,λv G1 H1 s x1 dv=>?_];rfl';obtain⟨fv,ks,vs,rfl,t,h2⟩:=n;ac_rfl;obtain rfl:=dv.UK;rfl';obtain⟨v0,q,w⟩:=s.at_ i _ t;rw[m] at w;obtain⟨l,φ,rfl,hl,_,nd,es,rfl,pe⟩:=w.xA;ac_rfl;refine#[_,q,s.ev false h2 λkd Rz=>#[trivial,λu G2 H2 y C du=>?_]];rfl';obtain⟨p,rfl,F,hz,hn⟩:=Rz;obtain⟨c,rfl,I⟩:=du.A4;obtain⟨v1,J,L⟩:=y.at_ i _ t;rw[q] at J;ac_rfl;cases Da J;rfl';rw[m] at L;obtain⟨l',φ',e',zD,O,P,l5,rfl,Q⟩:=L.xA;cases e';ac_rfl;refine#[l,c,l5,ks,vs,p,fv,rfl,rfl,rfl,zD,C.sub _ _ I,Q.mono C.sub,P,F,hz,M.nx _ hn _ _ #[G2,fp,y.mut q (b:=l) (by rw[O];simp) ?_]]
 rw[m,O];refine .inr (.inr #[l,_,rfl,af,rfl, .inr #[rfl,_,rfl,?_,_,rfl,Q.snoc I]]);rw[jx];refine#[P,by simp,λa ha b R z=>F ?_]
 rw[fZ] at R;rw[<-R,<-z];exact ha
end
section
variable {Z:DC} {X:Cx} {B:Bs} {md:List Nat} {rn:Nat} {ρ:DN} {σ:St} {H G:Hp} {fp:Nat->List Addr} {k c e k1 k2 et:Expr} {tk te tt Mw TC:aQ} {tc:c9} {pos:Pos}
variable {elt tg iter:Expr} {ifs:List Expr} {scope:Scope} {NC:List Str} {src:List (Option Nat)} {tt':c9} {wi:iU} {g:dZ}
def HI(s:md.getD i 0=1)(S:SIx Z B md ρ σ H G fp)(h:t ρ λd=>d.all fw=true/\E.nx (ρ.set i (some (.lst d))))(M:Meets Z X B md rn E n):Cv Z 1 t σ H λv p=>n.nx (σ.set i (some v)) p:=by
 exists H,ρ,_, .refl _,S.ND,h;rintro d ⟨u,w⟩ v f J p x o L q;have y:=S.grow (Ext.all S.ex.sub x);obtain⟨a,z,N,O,rfl,A,C,r,F⟩:=o.lst;cases A;obtain⟨dv,rfl⟩:=F.flat;have l:H a=none:=(q a (by rw[r];simp)).1
 refine M.nx _ w _ _ #[G,_,y.FC (f:= [a]) s (.inl #[a,z,d,[],rfl,rfl,C,rfl,(dv.flat u).own]) (by simp) (λb m=>?_) λb m j _ I=>?_]
 .have:b=a:=by simpa using m
  subst this;exact#[S.ex.hh.free l,(q b (by rw[r];simp)).2.1,S.ex.sub.free l]
 .have:b=a:=by simpa using m
  subst this;exact(S.nw j b I).2.1 l
def GD(i:Nat)(f:X.calm=true)(j:X.N.Nodup)(c:br X scope)(l:cS scope X.N src NC)(m:DI Z X tg iter wi)
  (n:∀a s H,DG Z (bA X scope NC a s H) tg g) (o:∀a s H,zh Z (bA X scope NC a s H) ifs tt') (p:∀a s H,DE Z (bA X scope NC a s H) elt te)
  (q:swapsWith (.ListComp elt [#[tg,iter,ifs,0]] scope pos) (some (.Name x b)) d.line X.env=pure true:=by rfl) (r:md.getD i 0=1:=by rfl) (t:X.N[i]?\x:=by rfl) (u:Loc X.env.scope x:=by subst_eqs)
  (v:X.fn x=true\/X.env.scope.names.lookup x\.local:=by subst_eqs)
  (w:∀x,foldedSetIterable iter X.env x=pure x:=by intro _;rfl):DSt Z X md rn (.Assign [.Name x b] (.ListComp elt [#[tg,iter,ifs,0]] scope pos) d) (Vr i (VT wi g tt' te src)):=by
 refine(jN f j t u c l m n o p q v w).imp ?_;intro C y H z;rfl';obtain⟨B,I,E,⟨G,J,S⟩,h,M⟩:=z;ac_rfl;exact E4 y H _ (HI r S h M)
end
end L2
namespace Wb
def gf(w:W)(d:Nat×Nat)(r:List (Nat×Nat)):Prop:=∃k,0<k/\cU w k d=d/\(∀j,0<j->j<k->cU w j d≠d)/\r=walk w d k
def lG:e∈walk w d k↔∃i,i<k/\e=cU w i d:=by
 unfold walk;rw[c7]
 constructor
 .rintro⟨i,a,rfl⟩;exact#[i,fG.mp a,rfl]
 .rintro⟨i,a,rfl⟩;exact#[i,fG.mpr a,rfl]
def gf.first(h:gf w d r):d∈r:=by
 obtain⟨k,a,_,_,rfl⟩:=h;exact lG.mpr #[0,a,rfl]
def gf.next(h:gf w d r)(a:e∈r):vS w e∈r:=by
 obtain⟨k,b,f,_,rfl⟩:=h;obtain⟨i,g,rfl⟩:=lG.mp a
 by_cases c:i+1<k
 .exact lG.mpr #[i+1,c,rfl]
 .have:i+1=k:=()
  refine lG.mpr #[0,b,?_];show cU w (i+1) d=d;rw[this];exact f
theorem gf.iter(h:gf w d r)(a:e∈r):∀n,cU w n e∈r
 |0=>a
 |n+1=>h.next (h.iter a n)
def gf.back(h:gf w d r)(a:e∈r):∃n,cU w n e=d:=by
 obtain⟨k,c,b,_,rfl⟩:=h;obtain⟨i,f,rfl⟩:=lG.mp a;exists k-i;rw[<-xE i (k-i),show k-i+i=k by lia]
 exact b
def gf.nodup(g:Good w)(h:gf w d r)(a:aV w d):r.Nodup:=by
 obtain⟨k,c,e,b,rfl⟩:=h;exact oU g a b
def gf.aW(g:Good w)(h:gf w d r)(a:aV w d):∀e∈r,aV w e:=by
 obtain⟨k,b,c,f,rfl⟩:=h;exact mI g a
structure Wk (w:W) (ds:List (Nat×Nat)) (i:Nat) (rs:List (List (Nat×Nat))):Prop where
 rnd:∀r∈rs,∃d,gf w d r/\aV w d/\∀e∈r,lexLe d e
 nod:rs.flatten.Nodup
 met:∀j e,j<i->ds[j]?\e->e∈rs.flatten
def Wk.zero(w:W)(a:List (Nat×Nat)):Wk w a 0 []:=#[(λr h=>by cases h),iB,(λj e h=>by lia)]
def Wk.skip(h:Wk w a i b)(g:a[i]?\d)(k:d∈b.flatten):Wk w a (i+1) b:=
 #[h.rnd,h.nod,λj e l f=>by
  by_cases c:j=i
  .subst c;rw[g] at f;cases f;exact k
  .exact h.met j e () f]
def Wk.take(g:Good w){k:List (Nat×Nat)}(all:∀e,aV w e->e∈k)(dart:∀e∈k,aV w e)(srt:k.Pairwise lexLe){i:Nat}{o:List (List (Nat×Nat))}(h:Wk w k i o)(p:k[i]?\d)(u:d∉o.flatten)(l:gf w d r):Wk w k (i+1) (o++ [r]):=by
 have s:aV w d:=dart d (cV p)
 have off:∀e∈r,e∉o.flatten:=λe f v=>by
  obtain⟨q,t,x⟩:=oZ.mp v;obtain⟨L,y,_,_⟩:=h.rnd q t;obtain⟨n,A⟩:=l.back f;exact u (oZ.mpr #[q,t,by rw[<-A];exact y.iter x n])
 refine#[λq B=>?_,?_,λj e m f=>?_]
 .rcases c5.mp B with z|z
  .exact h.rnd q z
  .rw[fZ.mp z]
   refine#[d,l,s,λe f=>?_];obtain⟨j,m⟩:=iA (all e (l.aW g s e f))
   by_cases c:j<i
   .exact absurd (h.met j e c m) (off e f)
   .by_cases C:j=i
    .subst C;rw[p] at m;cases m
     exact .inr #[rfl,bq _]
    .obtain⟨E,F⟩:=cw.mp p
     obtain⟨G,H⟩:=cw.mp m;rw[<-F,<-H];exact yW.mp srt i j E G ()
 .rw[tJ,jx]
  refine#[h.nod,by simpa using l.nodup g s,λa I b J e=>?_]
  subst e;exact off a (~~~J) I
 .rw[tJ,c5]
  by_cases c:j=i
  .subst c;rw[p] at f;cases f
   exact .inr (~~~l.first)
  .exact .inl (h.met j e () f)
def Wk.fin(g:Good w)(all:∀e,aV w e->e∈a)(h:Wk w a a.length b):b.flatten.Perm (aW w):=by
 have sub:∀e,e∈b.flatten↔e∈aW w:=λe=>by
  rw[bz]
  constructor
  .intro c
   obtain⟨r,i,k⟩:=oZ.mp c;obtain⟨d,R,l,_⟩:=h.rnd r i;exact R.aW g l e k
  .intro c
   obtain⟨j,f⟩:=iA (all e c);exact h.met j e (cw.mp f).1 f
 exact(F6 h.nod (fT g)).mpr sub
structure ck (w:W) (rs:List (List (Nat×Nat))):Prop where
 rnd:∀r∈rs,∃d,gf w d r/\aV w d/\∀e∈r,lexLe d e
 perm:rs.flatten.Perm (aW w)
def ck.Pc(R:ck w a)(p:b.Perm a):ck w b:=
 #[λr c=>R.rnd r (p.mem_iff.mp c),(p.flatten).trans R.perm]
def rG(g:Good w)(h:aV w d):d.1≠d.2:=λe=>g.irr d.1 (by have:d.2∈row w d.1:=h;rw[<-e] at this;exact this)
def Gk{w:W}(g:Good w){f:List (Nat×Nat)}(l:f.Perm (cH (row w) w.length)):(f++f.map λt=>(t.2,t.1)).Perm (aW w):=by
 have e:=ig w;have n:=fT g
 have m:∀t,t∈f↔aV w t/\t.1<t.2:=λt=>by
  rw[l.mem_iff,e,zb,bz,decide_eq_true_eq]
 have i:f.Nodup:=l.nodup_iff.mpr (by rw[e];exact n.filter _)
 refine(F6 ?_ n).mpr λd=>?_
 .rw[jx]
  refine#[i,?_,λa o b p z=>?_]
  .rw[F5,jc]
   rw[F5] at i;exact i.imp λ {a b} h z=>h (abJ (acf z).2 (acf z).1)
  .obtain⟨c,j,rfl⟩:=c7.mp p
   have k:=((m a).mp o).2;have q:=((m c).mp j).2;rw[z] at k;have k:c.2<c.1:=k;lia
 .rw[c5,c7,bz]
  constructor
  .rintro(h| ⟨c,j,rfl⟩)
   .exact((m d).mp h).1
   .exact g.sym _ _ ((m c).mp j).1
  .intro h
   rcases Nat.lt_or_gt_of_ne (rG g h) with c|c
   .exact .inl ((m d).mpr #[h,c])
   .exact .inr #[(d.2,d.1),(m _).mpr #[g.sym _ _ h,c],rfl]
def gf.uniq(h:gf w d r)(b:gf w d a):r=a:=by
 obtain⟨k,e,f,g,rfl⟩:=h;obtain⟨m,i,j,l,rfl⟩:=b
 rcases Nat.lt_trichotomy k m with c|c|c
 .exact absurd f (l k e c)
 .rw[c]
 .exact absurd j (g m i c)
def ck.sub(R:ck w c)(f:ck w a):∀r∈c,r∈a:=λr j=>by
 obtain⟨d,b,k,l⟩:=R.rnd r j;have m:d∈a.flatten:=f.perm.mem_iff.mpr (bz.mpr k);obtain⟨o,g,h⟩:=oZ.mp m;obtain⟨p,i,u,q⟩:=f.rnd o g;obtain⟨n,s⟩:=i.back h;have t:lexLe d p:=by rw[<-s];exact l _ (b.iter b.first n)
 have e:=jL t (q d h);subst e;rw[b.uniq i];exact g
def ck.ne{w:W}{a:List (List (Nat×Nat))}(R:ck w a):∀r∈a,r≠ []:=λr b z=>by
 obtain⟨d,c,_⟩:=R.rnd r b
 have:=c.first
 rw[z] at this;cases this
theorem u3:∀{l:List (List c)},l.flatten.Nodup->(∀r∈l,r≠ [])->l.Nodup
 | [],_,_=>iB
 |a::l,h,b=>by
  rw[y9,jx] at h;refine vE.mpr #[λd=>?_,u3 h.2.1 λr e=>b r (eW _ e)];cases a with
  |nil=>exact b [] (dB ..) rfl
  |cons x a=>exact h.2.2 x (dB ..) x (oZ.mpr #[_,d,dB ..]) rfl
def ck.nodup(g:Good w)(R:ck w a):a.Nodup:=u3 (R.perm.nodup_iff.mpr (fT g)) R.ne
abbrev i3(a:List (List (Nat×Nat))):List (List Nat):=a.map λr=>r.map (·.1)
def HF(h:L2.n6 a b)(c:L2.n6 b a):a=b:=by
 have:=L2.si (L2.jn a) (L2.jn b) c h
 exact L2.FQ (by rw[this])
def ck.uniq(g:Good w)(R:ck w a)(c:ck w b)(s:(i3 a).Pairwise L2.n6)(d:(i3 b).Pairwise L2.n6):i3 a=i3 b:=by
 have e:a.Perm b:=(F6 (R.nodup g) (c.nodup g)).mpr λr=>#[R.sub c r,c.sub R r];exact abL (λ_ _ _ _=>HF) s d (e.map _)
open Classical in
noncomputable def ur(w:W):List (List Nat):=if h:∃rs,ck w rs/\(i3 rs).Pairwise L2.n6 then i3 h.choose else[]
def AO(g:Good w)(R:ck w a)(s:(i3 a).Pairwise L2.n6):ur w=i3 a:=by
 have h:∃a,ck w a/\(i3 a).Pairwise L2.n6:=#[a,R,s];unfold ur;rw[dif_pos h];exact h.choose_spec.1.uniq g R h.choose_spec.2 s
def PZ(h:gf w d r)(a:i<r.length):r.getD ((i+1)%r.length) (0,0)=vS w (r.getD i (0,0)):=by
 obtain⟨k,b,f,l,rfl⟩:=h;rw[iM] at a ⊢
 have at_:∀j,j<k->(walk w d k).getD j (0,0)=cU w j d:=λj g=>by
  unfold walk;rw[fq,dJ,y4 g];rfl
 rw[at_ i a]
 by_cases c:i+1<k
 .rw[uR c,at_ _ c];rfl
 .have e:i+1=k:=()
  rw[e,adF,at_ 0 b];show d=cU w (i+1) d;rw[e,f]
def Ax(r:List (Nat×Nat))(i:Nat):(r.map (·.1)).getD i 0=(r.getD i (0,0)).1:=by
 rw[fq,fq,dJ];cases r[i]? <;>rfl
end Wb
namespace PySem
abbrev lW(h:Heap)(z TI TO a:Addr)(f:Bool):Prop:=
 h.get? z\{cls:= .type "zip",dict:=none,data:= .fields [rawInt a, .bool f, .bool false, .ref TI, .ref TO].toArray,slots:= #[]}
section
variable {prog:Program} {w:World} {A:Around} {E:Value->Shared->Prop} {s:Shared}
theorem Bm(b:lW s.heap z TI TO a f)(g:s.heap.get? a\e)
  (d:∀c,lW c z TI TO a true->Heap.SameBut z s.heap c->Q false {s with heap:=c}):wpAny (model prog w) A (Builtin.SmallTypes.ownedTupleIsFree (.ref z)) Q E s:=by
 unfold Builtin.SmallTypes.ownedTupleIsFree;refine wpAny_bind (abE b rfl (x:=rawInt a) rfl ?_);show wpAny _ _ (loadIfAlive ((a:Int).toNat)>>=_) _ _ _;rw[lS];refine wpAny_bind (PySem.W.kdx_alive g ?_);simp only[Option.isNone_some,eV,PP];refine wpAny_bind (abE b rfl (x:= .bool f) rfl ?_);cases f with
 |true=>
  rw[tz (show ¬((Value.bool true !=Value.bool true)=true) from dj)];exact ir (d _ b (Heap.SameBut.refl _ _))
 |false=>
  rw[mo (show(Value.bool false !=Value.bool true)=true from rfl)];exact wpAny_bind (wpAny_setField_rec b (by simp) λh i j=>ir (d _ i j))
def zZ{z TI TO b d j k a:Addr}{f:Bool}{H:Obj}{n p:Nat}{C F:Array Value}{x y:Value}{Q:Value->Shared->Prop}(D:ZipApart z TI TO b d j k)
  (q:lW s.heap z TI TO a f) (I:s.heap.get? a\H) (J:IsPair s.heap TI (.ref b) (.ref d))
  (L:s.heap.IsListIter b j n) (M:s.heap.IsListIter d k p) (N:s.heap.IsList j C) (O:s.heap.IsList k F) (P:C[n]?\x) (R:F[p]?\y)
  (S:∀g,lW g z TI TO a true->g.IsListIter b j (n+1)->g.IsListIter d k (p+1)->IsPair g s.heap.objs.size x y->g.objs.size=s.heap.objs.size+1->
   (∀c o,c≠z->c≠b->c≠d->s.heap.get? c\o->g.get? c\o)->Q (.ref s.heap.objs.size) {s with heap:=g}):
  wpAny (model prog w) A (Builtin.«zip.__next__» #[[.ref z],[]]) (λfin T=>∃v,fin= .done (.ret v)/\Q v T) E s:=by
 show wpAny _ _ (field (.ref z) 2>>=_) _ _ _;refine wpAny_bind (abE q rfl (x:= .bool false) rfl ?_);refine wpAny_bind (abE q rfl (x:= .ref TI) rfl ?_);refine wpAny_bind (acq J rfl ?_);refine wpAny_bind (Bm q I λG X h=>?_);simp only[eV,PP];refine wpAny_bind ?_;simp only[<-DX,adS,List.forIn_nil];refine wpAny_bind (wpAny_bind (KB ?_));show wpAny _ _ (Builtin.SmallTypes.nextOf (.ref b)>>=_) _ _ _;refine wpAny_bind (acz (L.extBut h.extBut D.i1z) (N.extBut h.extBut D.l1z) P λOL Y i=>ir ?_);refine ir ?_;refine wpAny_bind (wpAny_bind (KB ?_));show wpAny _ _ (Builtin.SmallTypes.nextOf (.ref d)>>=_) _ _ _
 refine wpAny_bind (acz ((M.extBut h.extBut D.i2z).extBut i.extBut D.i12.symm)
  ((O.extBut h.extBut D.l2z).extBut i.extBut D.l2i1) R λl Z m=>ir ?_)
 refine ir (ir ?_);refine wpAny_bind (ad5 ?_ (by show 2<=sizeLine;decide))
 have r:l.objs.size=s.heap.objs.size:=by rw[m.1,i.1,h.1]
 have W6:lW l z TI TO a true:=m.extBut _ _ D.i2z.symm (i.extBut _ _ D.i1z.symm X);refine ir #[_,rfl,?_];show Q (.ref l.objs.size) _;rw[r];have WG:∀c o,c≠z->c≠b->c≠d->s.heap.get? c\o->l.get? c\o:=λc o t u B e=>m.extBut _ _ B (i.extBut _ _ u (h.extBut _ _ t e));exact S _ (AC _ W6) ((Y.extBut m.extBut D.i12).at λo e=>AC _ e) (Z.at λo e=>AC _ e) (r▸GE _ rfl) (by rw[acn,r]) λc o t u B e=>AC _ (WG c o t u B e)
theorem DJ(B:A.handled=none)(D:ZipApart z TI TO d g j k)
  (q:lW s.heap z TI TO a f) (L:s.heap.get? a\J) (M:IsPair s.heap TI (.ref d) (.ref g))
  (C:s.heap.IsListIter d j l) (N:s.heap.IsListIter g k m) (F:s.heap.IsList j n) (O:s.heap.IsList k p) (P:n[l]? =none\/p[m]? =none)
  (G:∀r e,(∀c o,c≠z->c≠d->c≠g->s.heap.get? c\o->r.get? c\o)->(∃o,r.get? e\o/\o.cls= .type "StopIteration")->E (.ref e) {s with heap:=r}):
  wpAny (model prog w) A (Builtin.«zip.__next__» #[[.ref z],[]]) Q E s:=by
 show wpAny _ _ (field (.ref z) 2>>=_) _ _ _;refine wpAny_bind (abE q rfl (x:= .bool false) rfl ?_);refine wpAny_bind (abE q rfl (x:= .ref TI) rfl ?_);refine wpAny_bind (acq M rfl ?_);refine wpAny_bind (Bm q L λH Y b=>?_);simp only[eV,PP];refine wpAny_bind ?_;simp only[<-DX,adS,List.forIn_nil];refine wpAny_bind (wpAny_bind (KB ?_));show wpAny _ _ (Builtin.SmallTypes.nextOf (.ref d)>>=_) _ _ _;cases t:n[l]? with
 |none=>
  exact wpAny_bind (wpAny_nextOf_list_end B (C.extBut b.extBut D.i1z) (F.extBut b.extBut D.l1z) t λI e i u=>G I e (λc o v y _ x=>i _ _ y (b.extBut _ _ v x)) u)
 |some x=>
  have R:p[m]? =none:=by rcases P with h|h;rw[t] at h;cases h;exact h
  refine wpAny_bind (acz (C.extBut b.extBut D.i1z) (F.extBut b.extBut D.l1z) t λI Z i=>ir ?_);refine ir ?_;refine wpAny_bind (wpAny_bind (KB ?_));show wpAny _ _ (Builtin.SmallTypes.nextOf (.ref g)>>=_) _ _ _
  exact wpAny_bind (wpAny_nextOf_list_end B ((N.extBut b.extBut D.i2z).extBut i.extBut D.i12.symm)
   ((O.extBut b.extBut D.l2z).extBut i.extBut D.l2i1) R λS e T u=>G S e (λc o v y X x=>T _ _ X (i.extBut _ _ y (b.extBut _ _ v x))) u)
end
namespace F
def HK:typeLookup (.type "zip") "__len__"=pure none:=by rw[typeLookup_type,builtinLookup_eq_fast];kernel_rfl
def Fb:typeLookup (.type "zip") "__length_hint__"=pure none:=by rw[typeLookup_type,builtinLookup_eq_fast];kernel_rfl
end F
structure ZS (z TI TO i1 i2 l1 l2 S:Addr) (xs ys:Array Value) (k:Nat) (h:Heap):Prop where
 ti:IsPair h TI (.ref i1) (.ref i2)
 s1:h.IsListIter i1 l1 k
 s2:h.IsListIter i2 l2 k
 m1:h.IsList l1 xs
 m2:h.IsList l2 ys
 zz:(IsZip h z TI TO .none/\∃a b,IsPair h TO a b)\/∃a f oa,lW h z TI TO a f/\h.get? a\oa/\a≠z/\a≠i1/\a≠i2/\a≠S
section
variable {prog:Program} {w:World} {A:Around} {E:Value->Shared->Prop} {s:Shared} {z TI TO i1 i2 l1 l2 S:Addr} {xs ys:Array Value} {k:Nat}
def ZS.keep(x:ZS z TI TO i1 i2 l1 l2 S xs ys k h)(i:∀b o,b≠S->h.get? b\o->g.get? b\o)(l:∀b∈ [z,TI,TO,i1,i2,l1,l2],b<S):ZS z TI TO i1 i2 l1 l2 S xs ys k g:=by
 have n:∀b∈ [z,TI,TO,i1,i2,l1,l2],∀o,h.get? b\o->g.get? b\o:=λb m o e=>i b o (bE (l b m)) e;refine#[n TI (by simp) _ x.ti,x.s1.at λo e=>n i1 (by simp) o e,x.s2.at λo e=>n i2 (by simp) o e,x.m1.at λo e=>n l1 (by simp) o e,x.m2.at λo e=>n l2 (by simp) o e,?_]
 rcases x.zz with ⟨a,b,c,d⟩ | ⟨a,f,p,q,r,t,u,v,j⟩
 .exact .inl #[n z (by simp) _ a,b,c,n TO (by simp) _ d]
 .exact .inr #[a,f,p,n z (by simp) _ q,i _ _ j r,t,u,v,j]
def QD{x y:Value}(D:ZipApart z TI TO i1 i2 l1 l2)(st:ZS z TI TO i1 i2 l1 l2 S xs ys k s.heap)(M:S<s.heap.objs.size)(v:xs[k]?\x)(B:ys[k]?\y)
  (C:∀g,ZS z TI TO i1 i2 l1 l2 S xs ys (k+1) g->IsPair g s.heap.objs.size x y->g.objs.size=s.heap.objs.size+1->
   (∀c o,c≠z->c≠TO->c≠i1->c≠i2->s.heap.get? c\o->g.get? c\o)->Q (some (.ref s.heap.objs.size)) {s with heap:=g}):
  wpAny (model prog w) A (pyNext (.ref z)) Q E s:=by
 obtain⟨i,n,p,j,l,zz⟩:=st;have lt:∀{c o},s.heap.get? c\o->s.heap.objs.size≠c:=λe=>je (Do e);have N:s.heap.objs.size≠i1:=by obtain⟨_,e,_⟩:=n;exact lt e
 have O:s.heap.objs.size≠i2:=by obtain⟨_,e,_⟩:=p;exact lt e
 rcases zz with ⟨h,a,b,P⟩ | ⟨a,f,R,h,G,H,I,J,T⟩
 .refine wpAny_pyNext_zip_item D h i P n p j l v B λg q b2 r t m u d=>?_
  exact C g #[d _ _ D.TIz D.TITO D.TIi1 D.TIi2 i,r,t,j.at λo e=>d _ o D.l1z D.l1TO D.l1i1 D.l1i2 e,l.at λo e=>d _ o D.l2z D.l2TO D.l2i1 D.l2i2 e, .inr #[_,false,_,q,m,lt h,N,O,je M]] m u d
 .have L:s.TypeIs (.ref z) "zip":=#[_,h,rfl]
  unfold pyNext
  refine wpAny_bind (acb (acr (name:=Str.ofString "__next__") L ac0
   (abD ac0 L F.entry_zip_next
    (zZ D h G i n p j l v B λg q r t m u d=>ir ?_) (F.args_zip_next_1 _))))
  exact C g #[d _ _ D.TIz D.TIi1 D.TIi2 i,r,t,j.at λo e=>d _ o D.l1z D.l1i1 D.l1i2 e,l.at λo e=>d _ o D.l2z D.l2i1 D.l2i2 e, .inr #[a,true,R,q,d _ _ H I J G,H,I,J,T]] m u λc o X _ Y Z e=>d c o X Y Z e
def QB(h:A.handled=none)(D:ZipApart z TI TO i1 i2 l1 l2)(st:ZS z TI TO i1 i2 l1 l2 S xs ys k s.heap)(i:xs[k]? =none\/ys[k]? =none)
  (j:∀g,(∀c o,c≠z->c≠TO->c≠i1->c≠i2->s.heap.get? c\o->g.get? c\o)->Q none {s with heap:=g}):wpAny (model prog w) A (pyNext (.ref z)) Q E s:=by
 obtain⟨l,m,n,p,q,zz⟩:=st
 rcases zz with ⟨d,a,b,t⟩ | ⟨a,f,I,d,u,J,L,M,N⟩
 .exact wpAny_pyNext_zip_end h D d l t m n p q i j
 .have r:s.TypeIs (.ref z) "zip":=#[_,d,rfl]
  unfold pyNext
  refine wpAny_bind (acb (acr (name:=Str.ofString "__next__") r ac0
   (abD ac0 r F.entry_zip_next (DJ h D d u l m n p q i λg e v x=>?_) (F.args_zip_next_1 _))))
  obtain⟨o,y,B⟩:=x;refine wpAny_bind (wpAny_isInstance (T:="StopIteration") (b:=true) #[o,y,B] isSubtype_stop ?_);exact ir (j _ λc o C _ G H e=>v c o C G H e)
structure ZG (xs ys:Array Value) (lo:Addr) (h:Heap) (as:List Addr):Prop where
 rise:as.Pairwise (·<·)
 above:∀a∈as,lo<a
 pairs:∀(j:Nat)(a:Addr),as[j]?\a->∃x y,xs[j]?\x/\ys[j]?\y/\IsPair h a x y
theorem QE(hh:A.handled=none)(D:ZipApart z TI TO i1 i2 l1 l2)(m:∀b∈ [z,TI,TO,i1,i2,l1,l2],b<S)(hn:min xs.size ys.size<=sizeLine)(v:Value){h₁:Heap}
  (hR:∀g r acc c f,(∀b o,b≠S->b≠z->b≠TO->b≠i1->b≠i2->h₁.get? b\o->g.get? b\o)->g.get? S\{cls:= .type "list",dict:=none,data:= .seq acc c,slots:= #[]}->f.length=min xs.size ys.size->ZG xs ys S g f->
   acc.toList=f.map Value.ref->R (.ok (.ret v)) {s with heap:=g,toks:=r}):
  ∀(n i:Nat)(h:Heap)(r c:Nat)(acc:Array Value)(f:List Addr),min xs.size ys.size-i=n->i<=min xs.size ys.size->ZS z TI TO i1 i2 l1 l2 S xs ys i h->
   (∀b o,b≠S->b≠z->b≠TO->b≠i1->b≠i2->h₁.get? b\o->h.get? b\o)->
   h.get? S\{cls:= .type "list",dict:=none,data:= .seq acc c,slots:= #[]}->acc.toList=f.map Value.ref->f.length=i->ZG xs ys S h f->
   codeAny (model prog w) A (.builtin "list.extend.loop" #[[.ref S, .ref z,v],[]]) R {s with heap:=h,toks:=r}:=by
 have nS:∀b∈ [z,TI,TO,i1,i2,l1,l2],b≠S:=λb d=>bE (m b d);intro n
 induction n with
 |zero=>
  intro i h r c acc f hk hi M N I J B p;have ZH:i=min xs.size ys.size:=()
  refine ab5 adx ?_;rw[abU abK _];show wpAny _ A.in1 (pyNext (.ref z)>>=_) _ _ _;refine wpAny_bind (QB (s:={s with heap:=h,toks:=r}) (A:=A.in1) hh D M (by simp only[Array.getElem?_eq_none_iff];lia) λg he=>?_)
  have O:∀b,S<=b->b≠z/\b≠TO/\b≠i1/\b≠i2:=λb d=>#[je (cP (m z (by simp)) d),je (cP (m TO (by simp)) d),je (cP (m i1 (by simp)) d),je (cP (m i2 (by simp)) d)]
  have t:∀b o,S<=b->h.get? b\o->g.get? b\o:=λb o d e=>let #[P,Q,T,X]:=O b d;he b o P Q T X e;refine ir (hR g r acc c f (λb o L q C F G e=>he b o q C F G (N b o L q C F G e)) (t S _ (bq _) I) () #[p.rise,p.above,λj a l=>?_] J)
  obtain⟨x,y,Y,Z,k⟩:=p.pairs j a l;exact#[x,y,Y,Z,t a _ (pb (p.above a (cV l))) k]
 |succ n ih=>
  intro i h r c acc f hk hi M N I J B p;have bV:i<min xs.size ys.size:=()
  have Ry:i<xs.size:=()
  have ZJ:i<ys.size:=()
  have dR:acc.size=i:=by rw[<-cO,J,aI,B]
  have E:S<h.objs.size:=Do I;refine ab5 adx ?_;rw[abU abK _];show wpAny _ A.in1 (pyNext (.ref z)>>=_) _ _ _;refine wpAny_bind (QD (s:={s with heap:=h,toks:=r}) (x:=xs[i]) (y:=ys[i]) D M E (qq Ry) (qq ZJ) λg Z8 ht hz hkp=>?_)
  dsimp only at ht hz hkp ⊢;have O:∀b,S<=b->b≠z/\b≠TO/\b≠i1/\b≠i2:=λb d=>#[je (cP (m z (by simp)) d),je (cP (m TO (by simp)) d),je (cP (m i1 (by simp)) d),je (cP (m i2 (by simp)) d)]
  have H:∀b o,S<=b->h.get? b\o->g.get? b\o:=λb o d e=>let #[P,Q,T,X]:=O b d;hkp b o P Q T X e;have Ro:=H S _ (bq _) I;have t:∀b o,b≠S->g.get? b\o->(g.update S (Obj.mapSeq (·.push (Value.ref h.objs.size)))).get? b\o:=λb o d e=>(Pi _ _ (Ne.symm d)).trans e;show wpAny _ A.in1 (updateSeq S (·.push (Value.ref h.objs.size))>>=_) _ _ _;refine wpAny_bind ?_
  refine ac1 Ro rfl (ir #[acd abK _,ih (i+1) _ r _ (acc.push (Value.ref h.objs.size)) (f++ [h.objs.size]) () bV (Z8.keep t m)
   (λb o L q C F G e=>t b o L (hkp b o q C F G (N b o L q C F G e))) (P3 _ Ro rfl) (by rw[y6,J,cD];rfl) (by rw[dh,B];rfl) #[?_,?_,?_]]) (by rw[dR];lia) (by show(acc.push (Value.ref h.objs.size)).size<=sizeLine+1;rw[Array.size_push,dR];lia)
  .refine qs.mpr #[p.rise,DM _ _,λa u b d=>?_]
   rw[fZ.mp d];obtain⟨j,l⟩:=DS.mp u;obtain⟨_,_,_,_,e⟩:=p.pairs j a l;exact Do e
  .intro a u
   rcases c5.mp u with u|u
   .exact p.above a u
   .rw[fZ.mp u];exact E
  .intro j b l
   rcases Nat.lt_trichotomy j f.length with q|q|q
   .rw[fY q] at l
    obtain⟨x',y',Y,Z,k⟩:=p.pairs j b l;have d:=p.above b (cV l);exact#[x',y',Y,Z,t b _ (je d) (H b _ (pb d) k)]
   .subst q
    have d:h.objs.size=b:=by simpa using l
    subst d;exact#[_,_,by rw[B];exact qq Ry,by rw[B];exact qq ZJ,t _ _ (je E) ht]
   .have WM:(f++ [h.objs.size])[j]? =none:=il (by rw[dh,DR];lia)
    rw[WM] at l;cases l
def QC(a:s.TypeIs (.ref z) "zip")(h:Q true s):wpAny (model prog w) A (Builtin.List.listLengthHint (.ref z)) Q E s:=by
 unfold Builtin.List.listLengthHint;refine wpAny_bind (acZ a F.HK ?_);refine wpAny_bind (acZ a F.Fb ?_);exact ir h
def Jh(C:A.handled=none)(D:ZipApart z TI TO i1 i2 l1 l2)(n:∀b∈ [z,TI,TO,i1,i2,l1,l2],b<S)(st:ZS z TI TO i1 i2 l1 l2 S xs ys 0 s.heap)(t:s.TypeIs (.ref z) "zip")(F:min xs.size ys.size<=sizeLine)(g:Value)(c₀:Nat)
  (hz:∃u,IsZip s.heap z TI TO u) (p:s.heap.get? S\{cls:= .type "list",data:= .seq #[] c₀})
  (G:∀l i acc c q,(∀b o,b≠S->b≠z->b≠TO->b≠i1->b≠i2->s.heap.get? b\o->l.get? b\o)->l.get? S\{cls:= .type "list",dict:=none,data:= .seq acc c,slots:= #[]}->q.length=min xs.size ys.size->ZG xs ys S l q->
   acc.toList=q.map Value.ref->R (.ok (.ret g)) {s with heap:=l,toks:=i}):
  wpAny (model prog w) A.in1 (Builtin.List.listExtendWith (.ref S) (.ref z) g)
   (λfin m=>match fin with| .done f=>R (.ok f) m| .again v=>v.quiet=true/\codeAny (model prog w) A v R m) (λe m=>R (.error e) m) s:=by
 have r:S≠z:=je (n z (by simp))
 obtain⟨u,hz⟩:=hz
 have key:∀(h:Heap)(d i:Nat),(∀b o,b≠S->s.heap.get? b\o->h.get? b\o)->
   h.get? S\{cls:= .type "list",data:= .seq #[] d}->codeAny (model prog w) A (.builtin "list.extend.loop" #[[.ref S, .ref z,g],[]]) R {s with heap:=h,toks:=i}:=by
  intro h d i x H;exact QE (s:=s) (h₁:=s.heap) C D n F g G _ 0 h i d #[] [] rfl (dA _) (st.keep x n) (λb o I _ _ _ _ e=>x b o I e) H rfl rfl #[List.Pairwise.nil,(λ_ J=>nomatch J),(λj a L=>by simp at L)]
 unfold Builtin.List.listExtendWith;refine wpAny_bind (aea (T:="zip") t ?_);have M:Builtin.List.listSameRef (.ref S) (.ref z)=false:=by simp[Builtin.List.listSameRef,r]
 have N:(Value.type "zip"==Value.type "list")=false:=∅
 have O:(Value.type "zip"==Value.type "tuple")=false:=∅
 simp only[M,N,O,Bool.or_false,eV,PP];refine wpAny_bind (wpAny_pyIter_zip hz ?_);refine wpAny_bind (KB (QC t ?_));refine wpAny_ite_split (λ_=>?_) (λ_=>ir #[acd abK _,key _ c₀ _ (λb o _ e=>e) p]);refine wpAny_bind (abS ?_);refine wpAny_bind ?_;show wpAny _ _ (updateSeq S (·.push .none)>>=λ_=>updateSeq S (·.pop)) _ _ _;refine wpAny_bind (ac1 p rfl ?_);have y:=P3 (Obj.mapSeq (·.push Value.none)) p rfl;refine ac1 (hz:=by seq_fits) y rfl ?_
 have P:=P3 (Obj.mapSeq (·.pop)) y rfl;refine ir #[acd abK _,key _ _ _ (λb o B e=>?_) P];exact(Pi _ _ (Ne.symm B)).trans ((Pi _ _ (Ne.symm B)).trans e)
def QA(t:A.handled=none)(D:ZipApart z TI TO i1 i2 l1 l2)(st:∀S,ZS z TI TO i1 i2 l1 l2 S xs ys 0 s.heap)(u:IsZip s.heap z TI TO .none)(h:∀b∈ [z,TI,TO,i1,i2,l1,l2],b<s.heap.objs.size)(v:min xs.size ys.size<=sizeLine)
  (q:∀d j acc c f,(∀b o,b≠z->b≠TO->b≠i1->b≠i2->s.heap.get? b\o->d.get? b\o)->d.get? s.heap.objs.size\{cls:= .type "list",dict:=none,data:= .seq acc c,slots:= #[]}->f.length=min xs.size ys.size->ZG xs ys s.heap.objs.size d f->
   acc.toList=f.map Value.ref->Q (.ref s.heap.objs.size) {s with heap:=d,toks:=j}):
  wpAny (model prog w) A (call (.type "list") [.ref z]) Q E s:=by
 refine callType_codes (Q₁:=λobj a=>obj= .ref s.heap.objs.size/\a={s with heap:=s.heap.push {cls:= .type "list",data:= .seq #[]}}) PySem.F.called_list (PySem.F.typeCall_list_1 _) PySem.F.entry_list_init
  (code_list_new _ #[rfl,rfl]) λobj a g=>?_
 obtain⟨rfl,rfl⟩:=g;generalize l:s.heap.objs.size=S at h q ⊢;have i:(s.heap.push {cls:= .type "list",data:= .seq #[]}).get? S\{cls:= .type "list",data:= .seq #[]}:=by rw[<-l];exact GE _ rfl
 have m:∀b o,s.heap.get? b\o->(s.heap.push {cls:= .type "list",data:= .seq #[]}).get? b\o:=λb o e=>AC _ e;exists #[_,i,rfl],PySem.F.args_list_init_2 _ _;show wpAny _ A.in1.in1 (do let n <-Builtin.List.listItems (.ref S);Builtin.List.listUpdate (.ref S) (λ_=> #[]);letGo n.toList.reverse;Builtin.List.listExtendWith (.ref S) (.ref z) .none) _ _ _
 refine wpAny_bind ?_;unfold Builtin.List.listItems;refine wpAny_bind (acq i rfl (ir ?_));show wpAny _ _ (updateSeq S (λ_=> #[])>>=λ_=>letGo (#[]:Array Value).toList.reverse>>=λ_=>Builtin.List.listExtendWith (.ref S) (.ref z) .none) _ _ _;refine wpAny_bind (ac1 i rfl ?_);have y:=P3 (Obj.mapSeq (λ_=>(#[]:Array Value))) i rfl
 have p:∀b o,b≠S->s.heap.get? b\o->((s.heap.push {cls:= .type "list",data:= .seq #[]}).update S (Obj.mapSeq (λ_=>(#[]:Array Value)))).get? b\o:=
  λb o B e=>(Pi _ _ (Ne.symm B)).trans (m b o e)
 refine wpAny_bind (wpAny_letGo ?_);have r:=p z _ (bE (h z (by simp))) u
 refine Jh (A:=A.in1) (c₀:=0) t D h ((st S).keep p h) #[_,r,rfl] v .none #[_,r] y (λd j acc c f C G H I J=>?_);exact#[rfl,q d j acc c f (λb o L M N O e=>C b o (λx=>jy S (by have:=Do e;rw[l,x] at this;exact this)) L M N O (p b o (λx=>jy S (by have:=Do e;rw[l,x] at this;exact this)) e)) G H I J]
end
end PySem
namespace L2
open PySem PySem.Spec PyProof.Rows
noncomputable def zH(H:Hp)(q:Addr)(a:List Addr)(xs c:List V):Hp:=λb=>if b=q then some (.lst (a.map V.ref)) else if b∈a then some (.tup [xs.getD (a.idxOf b) .aL,c.getD (a.idxOf b) .aL]) else H b
section
variable {X:Cx} {Z:DC} {G H H':Hp} {q:Addr} {as:List Addr} {xs ys:List V} {pins:List (Addr×Obj)} {σ:St} {s:Shared} {h':Heap}
def wq(c:H q=none)(d:∀a∈as,H a=none)(e:H b\o):zH H q as xs ys b\o:=by
 unfold zH;rw[tz (λz=>by rw[z,c] at e;cases e),tz (λz=>by rw[d b z] at e;cases e)];exact e
def X9{a:Addr}{j:Nat}{x y:V}(c:as.Nodup)(d:q∉as)(e:as[j]?\a)(f:xs[j]?\x)(g:ys[j]?\y):zH H q as xs ys a\(.tup [x,y]):=by
 obtain⟨h,rfl⟩:=cw.mp e;have b:as[j]∈as:=mW h;unfold zH;rw[tz (λz:as[j]=q=>d (by rw[<-z];exact b)),mo b,c.idxOf_getElem,fq,f,fq,g];rfl
theorem Inv.aaf{t':Nat}(I:Inv X pins σ H s)(k:∀b u,s.heap.get? b\u->h'.get? b\u)(a:∀b o,H b\o->H' b\o)
  (d:∀b o,H b=none->H' b\o->s.heap.objs.size<=b/\cg X.prog X.w H' h' b o):Inv X pins σ H' {s with heap:=h',toks:=t'}:=by
 refine I.un #[λb o e _ _ _=>k b o e,λb o e _ _ _=>#[o.slots,k b o e],λb o e n _=>?_,λb o e _=>#[o,k b o e],λb f e=>a b _ e,λb o u e=>a b _ e,λb g e=>#[#[],by rw[a b _ e];simp]] λb o e=>?_
 .cases z:H' b with
  |none=>rfl
  |some u=>exact absurd (d b u n z).1 (Nat.not_le.mpr (Do e))
 .cases z:H b with
  |none=>exact(d b o z e).2
  |some u=>
   rw[a b u z] at e;cases Da e;exact(I.hok b o z).mT (λc v _ q=>k c v q) (λc q=>a c _ q) λc f q=>a c _ q
def Jf(n a b:Nat)(c:a<n)(d:b<n):ZipApart (n+4) (n+2) (n+3) n (n+1) a b:=
 #[show n+2≠n+4 by lia,show n+3≠n+4 by lia,show n≠n+4 by lia,show n+1≠n+4 by lia,show n+2≠n+3 by lia,show n+2≠n by lia,show n+2≠n+1 by lia,show n+3≠n by lia,show n+3≠n+1 by lia,show n≠n+1 by lia,
  show a≠n+4 by lia,show a≠n+3 by lia,show a≠n by lia,show a≠n+1 by lia,show b≠n+4 by lia,show b≠n+3 by lia,show b≠n by lia,show b≠n+1 by lia]
theorem DvAll.of_get:∀{a:List V}{b:List D},a.length=b.length->(∀(k:Nat) x d,a[k]?\x->b[k]?\d->Dv Z G x d)->DvAll Z G a b
 | [],[],_,_=> .nil
 | [],_::_,h,_=>by simp at h
 |_::_,[],h,_=>by simp at h
 |x::a,u::f,h,r=> .cons (r 0 x u rfl rfl) (DvAll.of_get (~~~h) λk y w c e=>r (k+1) y w (~~~c) (~~~e))
def Mv(K:ad)(h:TA):TE:=λi H Q=>h i H λj b=>∃f g d e,j= [.ref f, .ref g]/\aG K b f d/\aG K b g e/\
 ∀q c,c.length=min d.length e.length->c.Nodup->q∉c->b q=none->(∀a∈c,b a=none)->Q (.ref q) (zH b q c d e)
theorem Fl(hc:X.calm=true)(WC:Gl X "list")(Hi:X.mg "list"=none)(WD:Gl X "zip")(Hj:X.mg "zip"=none)(N:PA X [a,b] ta)
  (hs:starEach [.Call (.Name "zip" l) [a,b] [] F] X.env=(false,eval (.Call (.Name "zip" l) [a,b] [] F) X.env)::starEach [] X.env:=by rfl) (b9:(backTo m (starEach [] X.env)).any (·.1)=false:=by rfl)
  (jW:starEach [a,b] X.env= [(false,eval a X.env),(false,eval b X.env)]:=by rfl) (zF:starEach [b] X.env= [(false,eval b X.env)]:=by rfl):
  PE X (.Call (.Name "list" p) [.Call (.Name "zip" l) [a,b] [] F] [] m) (Mv X.K ta):=by
 intro t s σ H Q I h;refine abC (jE I WC Hi nE ?_);refine Wp ?_ hs b9;rw[hs];show wpAny _ _ (spliced ((false,eval _ X.env)::backTo m (starEach [] X.env))) _ _ s;refine Calls.spliced_cons ?_;refine Call_ (jE I WD Hj (show bootBuiltins "zip"\(.type "zip") by decide+kernel) (Wp (thn (N F t s σ H _ I h) λus f #[vs,O,y,r1,q1]=>?_) (by rw[jW,zF]) (by rw[zF];rfl)))
 rfl';obtain⟨J,L,P,R,e,ug,rY,q⟩:=q1;subst e;obtain⟨u1,u2,rfl,T,Y⟩:=r1.two;subst T;subst Y;obtain⟨abq,A,G,Lj⟩:=y.list ug;obtain⟨r9,B,l,OJ⟩:=y.list rY;have e1:=A.length;have e2:=B.length;have Z:J<f.heap.objs.size:=by obtain⟨o,ho,_⟩:=G.isList;exact Do ho
 have HG:L<f.heap.objs.size:=by obtain⟨o,ho,_⟩:=l.isList;exact Do ho
 ac_rfl;refine call_zip_2 G.isList l.isList λg hz N6 N7 h1 h2 dR kk=>?_;refine Calls.spliced_nil ?_;have D:=Jf f.heap.objs.size J L Z HG;have m1:=G.isList.at λo e=>kk J o e;have m2:=l.isList.at λo e=>kk L o e;refine QA (s:={f with heap:=g}) (I.ok.hd hc) D (λS=>#[N6,h1,h2,m1,m2, .inl #[hz,_,_,N7]]) hz (λb d=>?_) (by simp only[b7];lia) λh3 tk acc c i hk hS hl C u6=>?_
 .show b<g.objs.size
  rw[dR];generalize f.heap.objs.size=n at d Z HG;simp only[eL,List.not_mem_nil,or_false] at d;show b<n+5
  rcases d with z|z|z|z|z|z|z<;>rw[z]
  .show n+4<n+5;lia
  .show n+2<n+5;lia
  .show n+3<n+5;lia
  .show n<n+5;lia
  .show n+1<n+5;lia
  .show J<n+5;exact cP Z ()
  .show L<n+5;exact cP HG ()
 .have vL:∀b o,f.heap.get? b\o->h3.get? b\o:=λb o e=>by
   have d:=Do e;refine hk b o ?_ ?_ ?_ ?_ (kk b o e)<;>(intro z;rw[z] at d;revert d;generalize f.heap.objs.size=n;intro d;exact absurd d (by show ¬(_<n);lia))
  have M:f.heap.objs.size<=g.objs.size:=by rw[dR];exact Nat.le_add_right _ _
  have kS:h3.get? g.objs.size\{cls:= .type "list",dict:=none,data:= .seq acc c,slots:= #[]}:=hS;have rZ:i.Nodup:=C.rise.imp λh=>bE h;have hqa:g.objs.size∉i:=λr=>jy _ (C.above _ r);have Z6:O g.objs.size=none:=y.hok.fresh M;have Zo:∀a∈i,O a=none:=λa N=>y.hok.fresh (iq M (pb (C.above a N)));have zD:i.length=min P.length R.length:=by rw[hl,b7,b7];lia
  refine#[.ref g.objs.size,zH O g.objs.size i P R,Inv.aaf (s:=f) (t':=tk) y vL (λb o e=>wq Z6 Zo e) (λb o n e=>?_),rfl,q _ i zD rZ hqa Z6 Zo];unfold zH at e
  by_cases d:b=g.objs.size
  .rw[mo d] at e
   obtain rfl:=Da e;subst d;refine#[M,by rw[aI,zD];lia,acc.toList,c,?_,by simpa using kS]
   rw[u6]
   exact Vals.of_get (by simp) λk x w E hw=>by
    rw[dJ] at E hw;cases z:i[k]? with
    |none=>rw[z] at E;cases E
    |some a=>rw[z] at E hw;cases E;cases hw;rfl
  .rw[tz d] at e
   by_cases r:b∈i
   .obtain⟨j,hj⟩:=DS.mp r
    obtain⟨hjl,hjb⟩:=cw.mp hj;obtain⟨u,v,e3,e4,e5⟩:=C.pairs j b hj;have EM:j<P.length:=()
    have ZK:j<R.length:=()
    obtain⟨u',OH,ru⟩:=A.get (dH EM);obtain⟨v',uo,rv⟩:=B.get (dH ZK);have eu:u'=u:=by rw[acP,OH] at e3;exact Da e3
    have ev:v'=v:=by rw[acP,uo] at e4;exact Da e4
    subst eu ev;rw[mo r] at e;have ez:i.idxOf b=j:=by rw[<-hjb];exact rZ.idxOf_getElem j hjl
    rw[ez,fq,fq,dH EM,dH ZK] at e;cases Da e;exact#[iq M (pb (C.above _ r)),by show 2<=sizeLine;decide,[u',v'], .cons ru (.cons rv .nil),ve e5]
   .rw[tz r,n] at e;cases e
def TQ{G H:Hp}(s:aB G H)(c:H q=none)(d:∀a∈as,H a=none):Ext G H (zH G q as xs ys) (zH H q as xs ys):=by
 refine#[λb o e=>wq (s.free c) (λa m=>s.free (d a m)) e,λb o e=>?_,λb o e=>wq c d e,λb f g=>?_]
 .unfold zH at e ⊢
  by_cases h:b=q
  .rw[mo h] at e ⊢;exact e
  .rw[tz h] at e ⊢
   by_cases i:b∈as
   .rw[mo i] at e ⊢;exact e
   .rw[tz i] at e ⊢;exact s b o e
 .unfold zH
  rw[tz (λz=>f (by rw[z];exact c)),tz (λz=>f (d b z))];exact g
def Kz(t:gS):aQ:=λa P=>t a λb=>match b with
 | [.lst l, .lst m]=>P (.lst ((l.zip m).map λp=> .tup [p.1,p.2]))
 |_=>False
theorem Ek(J:X.calm=true)(L:Gl X "list")(M:X.mg "list"=none)(N:Gl X "zip")(O:X.mg "zip"=none)(R:DA Z X [a,b] t)
  (S:starEach [.Call (.Name "zip" r) [a,b] [] u] X.env=(false,eval (.Call (.Name "zip" r) [a,b] [] u) X.env)::starEach [] X.env:=by rfl) (T:(backTo g (starEach [] X.env)).any (·.1)=false:=by rfl)
  (Y:starEach [a,b] X.env= [(false,eval a X.env),(false,eval b X.env)]:=by rfl) (zF:starEach [b] X.env= [(false,eval b X.env)]:=by rfl):
  DE Z X (.Call (.Name "list" p) [.Call (.Name "zip" r) [a,b] [] u] [] g) (Kz t):=by
 refine(Fl J L M N O R S T Y zF).imp ?_;rintro σ H Q ⟨G,ρ,P,s,en,h,q⟩;refine#[G,ρ,_,s,en,h,λds c vs j H1 f dv=>?_]
 have EJ:∃l m,ds= [.lst l, .lst m]/\P (.lst ((l.zip m).map λp=> .tup [p.1,p.2])):=by
  split at c
  .exact#[_,_,rfl,c]
  .exact c.elim
 rfl';obtain⟨l,m,rfl,c⟩:=EJ;obtain⟨v1,v2,rfl,d1,d2⟩:=dv.qX;obtain⟨a1,xs,rfl,k1,B⟩:=d1.kU;obtain⟨a2,C,rfl,k2,E⟩:=d2.kU;ac_rfl;refine#[a1,a2,xs,C,rfl,aG.of (f.sub _ _ k1),aG.of (f.sub _ _ k2),λp n hl hn w F has=>?_];have gp:j p=none:=f.sub.free F;have ga:∀a∈n,j a=none:=λa m=>f.sub.free (has a m);have I:aB j (zH j p n xs C):=λb o e=>wq gp ga e;have g1:=B.length;have g2:=E.length;refine q _ c _ _ _ (f.trans (TQ f.sub F has)) (.lst (xs:=n.map V.ref) (by unfold zH;rw[mo rfl]) ?_)
 refine DvAll.of_get (by rw[aI,aI,List.length_zip,hl,g1,g2]) λk v d i c=>?_
 rw[dJ] at i c;cases z:n[k]? with
 |none=>rw[z] at i;cases i
 |some b=>
  rw[z] at i;obtain rfl:=Da i;cases A:(l.zip m)[k]? with
  |none=>rw[A] at c;cases c
  |some pr=>
   rw[A] at c;obtain rfl:=Da c;obtain⟨c1,c2⟩:=ady.mp A;obtain⟨x,hx,dx⟩:=B.get c1;obtain⟨y,hy,dy⟩:=E.get c2;exact .tup (X9 hn w z hx hy) (.cons (dx.mono I) (.cons (dy.mono I) .nil))
end
theorem k8.at{H:Hp}{i:List (Int×Addr)}{b:List (Int×Int)}{xs:List (List Int×Addr×Value)}(d:k8 H i b c xs):∀{j:Nat}{p:Int×Int}{fv:FV},b.Nodup->b[j]?\p->c[j]?\fv->∃a u,atKey xs [p.1,p.2]\(a,u)/\Kk fv u:=by
 induction d with
 |nil=>intro j p fv _ h;cases h
 | @cons a q v u i b c xs x m t n=>
  intro j p fv o g k;have l:=vE.mp o;cases j with
  |zero=>
   cases g;cases k;exact#[a,u,by simp[atKey],m]
  |succ j=>
   obtain⟨r,s,e,f⟩:=n l.2 g k;refine#[r,s,?_,f]
   have w:¬([q.1,q.2]= [p.1,p.2]):=λz=>l.1 (by
    simp at z;rw[show q=p from abJ z.1 z.2];exact cV g)
   unfold atKey at e ⊢;rw[List.find?_cons_of_neg (~~~w)];exact e
section
variable {X:Cx} {Z:DC} {a b:Expr} {ta tb:aQ} {pos:Pos}
def NT(h:Kk f u):RelV (vF f) u:=by
 cases f with
 |int i=>exact h
 |bl b=>exact h
def UR:R2:=λx y H Q=>∃(c a:Addr)(e:List (Int×Addr))(d:List (Int×Int))(f:List FV)(p:Int×Int)(j:Nat)(fv:FV),x= .ref a/\y= .ref c/\H c\(.tup [.int p.1, .int p.2])/\H a\(.ext (bY a e f))/\f6 H e d/\d.Nodup/\d[j]?\p/\f[j]?\fv/\Q (vF fv) H
def RK(O:X.A.units+64<cLine):wA X UR:=by
 intro e f d s l H x y v u Q I m n h o;rfl';obtain⟨c,a,R,S,T,p,j,fv,rfl,rfl,B,C,E,g,F,G,q⟩:=h;subst m;subst n;obtain⟨z,Y,J,i⟩:=I.Q7 C E g;obtain⟨b,u,L,M⟩:=J.at g F G;ac_rfl
 exact acw (x:=u) i.typeIs slot_dict_getitem.lookup
  (wpAny_getItem_heap (knd:=tupleKind (intKind X.prog X.w)) (k:= [p.1,p.2]) (p:=(b,u)) (Q:=λr N=>r=u/\EP X d l Q r N) (tupleKind_room_in1 ()) (I.qi B) i L #[rfl,vF fv,H,I.tok _,NT M,q]) o
def M7:iu:=λa b P=>∃(p:Int×Int)(c:List (Int×Int))(d:List FV)(j:Nat)(fv:FV),a= .x (.eG c d)/\b=Ie p/\c[j]?\p/\d[j]?\fv/\P (NS fv)
def Dv.fv(f:FV):Dv Z G (vF f) (NS f):=by
 cases f with
 |int i=>exact .int i
 |bl b=>exact .bl b
def OO(h:cc Z M7 x y H Q):UR x y H Q:=by
 revert h
 rintro⟨G,a,b,P,s,d,e,⟨p,f,g,j,fv,rfl,rfl,i,k,h⟩,q⟩;obtain⟨c,rfl,l⟩:=e.A4;cases d with
 |x m ok=>
  rfl';obtain⟨o,r,rfl,t⟩:=ok;ac_rfl;exact#[c,_,r,f,g,p,j,fv,rfl,rfl,s _ _ l,s _ _ m,t.mono s,o,i,k,q _ h _ G H (.refl s) (.fv fv)]
def lZ(g:X.A.units+64<cLine)(i:DE Z X a ta)(j:DE Z X b tb)(f:nu b:=by exact λ_ _=>rfl):DE Z X (.Subscript a b pos) (KD M7 ta tb):=by
 have k:wA X (cc Z M7):=λc d e s l H x y v u Q I m n h f=>RK g c d e s l H x y v u Q I m n (OO h) f;exact(cC k i j f).imp xN
end
def StK(D:Addr)(v e:V)(H:Hp)(N:Hp->Prop):Prop:=∃c b a d p fv,v= .ref c/\e=vF fv/\H D\(.ext (bY D b d))/\H c\(.tup [.int p.1, .int p.2])/\f6 H b a/\a.Nodup/\p∉a/\a.length<=300/\N (upd H D (.ext (bY D (b++ [(bI p,c)]) (d++ [fv]))))
theorem P9(hu:X.A.units+64<cLine)(j:Inv X d n H s)(t:H c\(.tup [.int p.1, .int p.2]))(v:H a\(.ext (bY a f i)))(G:f6 H f g)(I:g.Nodup)(J:p∉g)(hz:g.length<=300)(L:RelV (vF fv) r)
  (h:∀y h',Inv X d n (upd H a (.ext (bY a (f++ [(bI p,c)]) (i++ [fv])))) {s with heap:=h',toks:=y}->Q ⟨⟩ {s with heap:=h',toks:=y}):wpAny (model X.prog X.w) X.A (dictSet a (.ref c) r) Q E s:=by
 obtain⟨z,l,m,M⟩:=j.Q7 v G I;refine wpAny_dictSet_heap (knd:=tupleKind (intKind X.prog X.w)) (k:= [p.1,p.2]) (by show X.A.units<cLine;lia) (j.qi t) M (λh' B N=>?_) (small (by rw[m.len];lia))
 have O:atKey l [p.1,p.2]=none:=by
  cases e:atKey l [p.1,p.2] with
  |none=>rfl
  |some q=>exact absurd (pN.mp (by rw[<-m.keys];exact kC.mp (by rw[e];rfl))) J
 rw[storedH_new O] at B;rfl';have R:k8 H (f++ [(bI p,c)]) (g++ [p]) (i++ [fv]) (l++ [([p.1,p.2],c,r)]):=m.snoc t (JC L);obtain⟨C,S,T,F,Y,Z,ud,_,_⟩:=B;ac_rfl;exact h _ _ (j.write (h':=h') (t':=s.toks+(tupleKind (intKind X.prog X.w)).draws [p.1,p.2]) (x:=a) (e:=a) (o:= .ext (bY a (f++ [(bI p,c)]) (i++ [fv]))) (by rw[v];trivial) (.inl rfl) (λb u hb e=>N.extBut b u hb e) #[C,F] (bY.ok #[z,C,S,T,F,Y,Z,by rw[ud];exact NH R]))
section
variable {X XC:Cx} {kx vx i0 t0 i1 t1:Expr} {f0 f1:List Expr} {scope:Scope} {pos:Pos} {wi cx:TI} {g g1:TG} {tt bO:TT} {tk tv:TE} {src:List (Option Nat)} {NC:List Str}
theorem My:jS (.DictComp kx vx [#[t0,i0,f0,0],#[t1,i1,f1,0]] scope pos) t0 i0 t1 i1 f0 f1 (λD env=>do
  let b <-eval kx env
  let d <-holding [b] (eval vx env)
  standAt {kx.pos with endLine:=vx.pos.endLine,endCol:=vx.pos.endCol}
  holding [b,d] (dictSet D b d)) where
 u:=λ_ _ _ _ _=>rfl
 z0:=λ_ _ _ _ _=>rfl
 z1:=λ_ _ _ _ _=>rfl
 b0:=λa c=>codeAny_compStart_dict a (c _ _ a)
 b1:=λa c=>by
  refine codeAny_of_tree ?_;refine wpAny_notedAt ?_;unfold compStart;refine wpAny_bind (wpAny_askSetting (wpAny_ite ?_))
  split
  .first
    |exact wpAny_bind (wpAny_pure (wpAny_pure #[rfl,a]))
    |exact wpAny_pure #[rfl,a]
  .refine wpAny_bind (wpAny_rule ?_)
   exact wpAny_bind (wpAny_standAt (wpAny_bind (c _ _ (wpAny_pure #[rfl,a]))))
def Yr(b c:TE):Ko:=λD a H N=>b a H λv d=>c a d λe f=>StK D v e f N
def LS(l:X.A.units+64<cLine)(m:PE X kx i)(n:PE X vx tv):MS X (λD env=>do
  let b <-eval kx env
  let j <-holding [b] (eval vx env)
  standAt {kx.pos with endLine:=vx.pos.endLine,endCol:=vx.pos.endCol}
  holding [b,j] (dictSet D b j)) (Yr i tv):=λD a s k H N I h=>
 wpAny_bind (thn (m a s k H _ I h) λy o d=>by
  rfl';obtain⟨v,r,t,u,w⟩:=d;ac_rfl;refine wpAny_bind (KB (thn (n a o k r _ t w) λP Q d=>?_));rfl';obtain⟨R,S,x,f,c,T,Y,Z,p,fv,z,B,C,E,F,G,J,L,M⟩:=d;ac_rfl;subst z B;subst u;exact wpAny_bind (W1 (KB (P9 l x E C F G J L f λi g O=>#[_,O,M]))))
def Qn(g:TG)(a:TT)(b:TI)(c:TG)(d:TT)(e f:TE)(D:Addr)(J:It)(Q:VK)(h:St)(H:Hp):Prop:=NU g a b c d (Yr e f) D J Q h H
def UX(c:TI)(g:TG)(d:TT)(e:TI)(f:TG)(h:TT)(i j:TE)(src:List (Option Nat)):TE:=λa H Q=>c a H λJ b=>∀D,b D=none->Qn g d e f h i j D J Q (kj src a) (upd b D (.ext (bY D [] [])))
def zu{f:List (Addr×Obj)}{l:St}{h:Shared}{i:Hp}{t:Addr}{j:List Addr}{u:Nat->Heap->Prop}{J:It}{v:Value->Addr->Result->Shared->Prop}{E:Value->Shared->Prop}{Q:VK}
  (C:X.A.units+64<cLine) (F:X.calm=true) (c:br X scope) (G:cS scope X.N src NC) (k:Inv X f l i h) (T:Turn X.prog X.w X.K t0 J j t u) (I:u 0 h.heap) (L:∀b∈j,eY X f i b)
  (m:∀d s H,PG (bA X scope NC d s H) t0 g) (M:∀d s H,jR (bA X scope NC d s H) f0 tt) (O:∀d s H,PI (bA X scope NC d s H) t1 i1 cx) (P:∀d s H,PG (bA X scope NC d s H) t1 g1)
  (R:∀d s H,jR (bA X scope NC d s H) f1 bO) (S:∀d s H,PE (bA X scope NC d s H) kx tk) (Y:∀d s H,PE (bA X scope NC d s H) vx tv) (Z:∀env x,foldedSetIterable i1 env x=pure x)
  (hW:∀D,i D=none->Qn g tt cx g1 bO tk tv D J Q (kj src l) (upd i D (.ext (bY D [] []))))
  (GW:∀D n p ax y z,Inv X f l p n->(∀b∈j,eY X f p b)->Inv (bA X scope NC j n p) [] ax y z->Q (.ref D) y->v (.ref D) n.heap.objs.size (.ok .next) z):
  wpAny (model X.prog X.w) X.A newDict (λacc sZ=>wpAny (model X.prog X.w) X.A (newFunctionEnv scope X.env.globals (iV X.env scope.names []) [] X.env.qual none .none (some X.env)) (λB tj=>
   codeAny (model X.prog X.w) X.A (.compStart (.DictComp kx vx [#[t0,i0,f0,0],#[t1,i1,f1,0]] scope pos) 0 (.ref t) acc {B with scope:=relabel scope X.env}) (v acc B.locals) tj) E sZ) E h:=by
 have r:(h.heap.objs.size==sysModules)=false:=by
  have m:mainGlobals<h.heap.objs.size:=(k.mod.glob.keeps k.bk).lt;have hs:sysModules<h.heap.objs.size:=Nat.lt_trans ∅ m
  exact abA.mpr (Ne.symm (bE hs))
 refine yH (o0:=λD=> .ext (bY D [] [])) My F c G k T I L m M O P R (λd s H=>LS C (S d s H) (Y d s H)) Z (λQ' E' q=>?_) hW GW;simp only[newDict,newObj];exact wpAny_bind (wpAny_alloc (ir (q _ (k.laid (a:=h.heap.objs.size) (t':=h.toks) (λ_ _ q=>AC _ q) (bq _) (o:= .ext (bY h.heap.objs.size [] [])) (bY.ok #[r,_, #[],0,GE _ rfl,#[rfl,rfl,rfl],rfl, .nil])) λb o e=>AC _ e)))
def Sz(e:X.A.units+64<cLine)(f:X.calm=true)(c:br X scope)(i:cS scope X.N src NC)(j:PI X t0 i0 wi)
  (k:∀a s H,PG (bA X scope NC a s H) t0 g) (l:∀a s H,jR (bA X scope NC a s H) f0 tt) (n:∀a s H,PI (bA X scope NC a s H) t1 i1 cx) (o:∀a s H,PG (bA X scope NC a s H) t1 g1)
  (p:∀a s H,jR (bA X scope NC a s H) f1 bO) (q:∀a s H,PE (bA X scope NC a s H) kx tk) (r:∀a s H,PE (bA X scope NC a s H) vx tv)
  (t:∀x,foldedSetIterable i0 X.env x=pure x:=by intro _;rfl) (u:∀env x,foldedSetIterable i1 env x=pure x:=by intro _ _;rfl):
  PE X (.DictComp kx vx [#[t0,i0,f0,0],#[t1,i1,f1,0]] scope pos) (UX wi g tt cx g1 bO tk tv src):=by
 intro b s w H Q I h;rw[arm_eval_DictComp];refine abV (use:=none) rfl t (fS (c.cells I.ok)) c.kind c.names (thn (j b s w H _ I h) λv Y y=>thn y λZ s2 z=>?_);rfl';obtain⟨it,fp,tn,J,H2,rfl,C,T,E,F,G⟩:=z;ac_rfl
 exact zu e f c i C T E F k l n o p q r u G λD s3 H3 ax L s' M O d P=>by
  obtain⟨m,R,_⟩:=d.loc;exact#[m,R,λh' S=>#[.ref D,L,comp_back M O d S,rfl,P]]
end
section
variable {Z:DC} {X:Cx} {kx vx:Expr} {tk tv:aQ} {scope:Scope} {NC:List Str} {src:List (Option Nat)} {wi:iU} {g:dZ} {tt:c9} {pos:Pos}
def lcWK(g:dZ)(e:c9)(f h:aQ):List D->DN->List (Int×Int)->List FV->(DN->List (Int×Int)->List FV->Prop)->Prop
 | [],i,a,d,N=>N i a d
 |x::j,i,a,d,N=>g x i λc=>e c λb=>if b=true then f c λk=>h c λl=>∃p fv,k=Ie p/\l=NS fv/\p∉a/\a.length<=300/\lcWK g e f h j c (a++ [p]) (d++ [fv]) N else lcWK g e f h j c a d N
def lcWK2(g:dZ)(e:c9)(f:iU)(h:dZ)(i:c9)(j k:aQ):List D->DN->List (Int×Int)->List FV->(List (Int×Int)->List FV->Prop)->Prop
 | [],_,a,c,P=>P a c
 |x::l,m,a,c,P=>g x m λd=>e d λb=>if b=true then f d λn=>lcWK h i j k n d a c λo p q=>lcWK2 g e f h i j k l o p q P else lcWK2 g e f h i j k l d a c P
def T8(b:iU)(g:dZ)(c:c9)(d:iU)(e:dZ)(f:c9)(h i:aQ)(src:List (Option Nat)):aQ:=λa P=>b a λj=>lcWK2 g c d e f h i j (yy src a) [] [] λk l=>P (.x (.eG k l))
def Kg(Z:DC)(c d:Hp)(a:Addr)(h:DN)(e:List (Int×Int))(i:List FV)(j:St)(H:Hp):Prop:=
 ∃(G:Hp)(f:List (Int×Addr)),aB c G/\aB G H/\aB d H/\(∀b,d b≠none->c b=none->G b=none)/\G a=none/\H a\(.ext (bY a f i))/\f6 G f e/\e.Nodup/\dD Z G j h
def Kg.done{s:St}(c:Kg Z i f a r k h s j)(d:Ext G H i f)(t:f a=none):∃l,Ext G H l j/\Dv Z l (.ref a) (.x (.eG k h)):=by
 rfl';obtain⟨v,m,w,y,A,off,n,B,C,E,J⟩:=c;ac_rfl;refine#[upd v a (.ext (bY a m h)),#[(d.gg.trans w).trans (ay n _),λb o e=>?_,d.hh.trans A,λb p F=>?_], .x af #[E,m,rfl,C.mono (ay n _)]]
 .by_cases z:b=a
  .subst z;rw[af] at e;cases e;exact B
  .rw[ag z] at e;exact y _ _ e
 .have q:=fM d.hh p
  rw[ag (λz=>q (by rw[z];exact t))]
  exact off b q (d.off b p F)
def Kg.begin(s:aB a c)(f:c d=none)(k:dD Z a j i):Kg Z a c d i [] [] j (upd c d (.ext (bY d [] []))):=
 #[a,[], .refl _,λb o e=>by rw[ag (ao e (s.free f))];exact s _ _ e,ay f _,λ_ _ h=>h,s.free f,af, .nil,iB,k]
variable {t0 i0 t1 i1:Expr} {f0 f1:List Expr} {cx:iU} {g1:dZ} {bO:c9}
def OV:∀σ H Q,dF Z (T8 wi g tt cx g1 bO tk tv src) σ H Q->UX (qS Z wi) (n4 Z g) (liftT Z tt) (qS Z cx) (n4 Z g1) (liftT Z bO) (dF Z tk) (dF Z tv) src σ H Q:=by
 intro σ H Q aJ;rfl';obtain⟨G,ρ,P,s,en,h,q⟩:=aJ;ac_rfl;refine#[G,ρ,_,s,en,h,λt hd J M B x1 it r hA=>?_];refine#[λi m di N=>m=t.length-i/\i<=t.length/\∃C j l,Kg Z M B r C j l di N/\lcWK2 g tt cx g1 bO tk tv (t.drop i) C j l λj l=>P (.x (.eG j l)),#[_,rfl,dA _,_,[],[], .begin x1.sub hA ((en.mono x1.gg).src src),hd],?_];intro i m di N iN;rfl';obtain⟨rfl,hi,C,j,l,c,hl⟩:=iN;ac_rfl
 by_cases bV:i<t.length
 .have c0:=c
  rfl';obtain⟨G2,u,s1,s2,s3,off,gA,mZ,SJ,nd,VR⟩:=c;obtain⟨go,_,yld⟩:=it G2 N s1 s2 i;ac_rfl;refine .inr #[go bV,λax O=>∃aD X Qs,Kg Z M B r aD X Qs ax O/\lcWK2 g tt cx g1 bO tk tv (t.drop (i+1)) aD X Qs λj l=>P (.x (.eG j l)),λax O n=>#[t.length-(i+1),(),rfl,bV,n],λx H3 y=>?_]
  rfl';obtain⟨G3,d,x3,GY,dv⟩:=yld x H3 bV y;rw[lq GY] at hl;ac_rfl;refine#[G3,C,d,_,x3.sub,VR.mono x3.gg,dv,hl,λbw R dY rN=>?_];refine#[G3,bw,_,x3.sub,rN,R,λb w G5 H5 x5=>?_];have E:=x3.trans x5;have sA:∀{G S:Hp},Ext G2 N G S->G r=none:=λx=>x.off r (by rw[mZ];exact λz=>nomatch z) gA
  have vg:∀{G S:Hp},Ext G2 N G S->∀b,B b≠none->M b=none->G b=none:=λx b R h2=>x.off b (fM s3 R) (off b R h2);cases b with
  |false=>exact dS #[bw,j,l,#[G5,u,s1.trans E.gg,E.sub,s3.trans E.hh,vg E,sA E,E.hh _ _ mZ,SJ.mono E.gg,nd,rN.mono x5.gg],by simpa using w]
  |true=>
   refine dU #[G5,bw,_,x5.sub,rN.mono x5.gg,(~~~w),λT Wz J1 G6 H6 x6 EX=>?_]
   have x:=E.trans x6
   refine#[λk m pj F=>m=T.length-k/\k<=T.length/\∃(ze:DN)(Y:List (Int×Int))(MB:List FV),(∃(G:Hp)(u:List (Int×Addr)),aB G6 G/\aB G F/\aB B F/\(∀b,B b≠none->M b=none->G b=none)/\G r=none/\F r\(.ext (bY r u MB))/\f6 G u Y/\Y.Nodup/\dD Z G pj ze)/\
    lcWK g1 bO tk tv (T.drop k) ze Y MB λC OR Qt=>lcWK2 g tt cx g1 bO tk tv (t.drop (i+1)) C OR Qt λj l=>P (.x (.eG j l)),
    #[_,rfl,dA _,bw,j,l,#[G6,u, .refl _,x.sub,s3.trans x.hh,vg x,sA x,x.hh _ _ mZ,SJ.mono x.gg,nd,(rN.mono x5.gg).mono x6.gg],Wz],?_]
   intro k m pj F iN;rfl';obtain⟨rfl,hk,ze,Y,MB,⟨G7,VQ,a1,a2,a3,a4,a5,a6,a7,Si,a8⟩,p9⟩:=iN;ac_rfl;have VV:aB M G6:=s1.trans x.gg
   by_cases xq:k<T.length
   .obtain⟨VZ,_,Qy⟩:=EX G7 F a1 a2 k
    refine .inr #[VZ xq,λax O=>∃(aD:DN)(X:List (Int×Int))(Qs:List FV),(∃(G:Hp)(u:List (Int×Addr)),aB G6 G/\aB G O/\aB B O/\(∀b,B b≠none->M b=none->G b=none)/\G r=none/\O r\(.ext (bY r u Qs))/\f6 G u X/\X.Nodup/\dD Z G ax aD)/\
     lcWK g1 bO tk tv (T.drop (k+1)) aD X Qs λC OR Qt=>lcWK2 g tt cx g1 bO tk tv (t.drop (i+1)) C OR Qt λj l=>P (.x (.eG j l)),λax O n=>#[T.length-(k+1),(),rfl,xq,n],λy H8 hy=>?_]
    rfl';obtain⟨G8,d8,x8,Wt,VJ⟩:=Qy y H8 xq hy;rw[lq Wt] at p9;ac_rfl;refine#[G8,ze,d8,_,x8.sub,a8.mono x8.gg,VJ,p9,λz3 h9 σ9 zw=>?_];refine#[G8,z3,_,x8.sub,zw,h9,λb w MK vH vY=>?_];have I:=x8.trans vY;have oA:∀{G S:Hp},Ext G7 F G S->G r=none:=λx=>x.off r (by rw[a6];exact λz=>nomatch z) a5
    have oB:∀{G S:Hp},Ext G7 F G S->∀b,B b≠none->M b=none->G b=none:=λx b R h2=>x.off b (fM a3 R) (a4 b R h2);cases b with
    |false=>exact dS #[z3,Y,MB,#[MK,VQ,a1.trans I.gg,I.sub,a3.trans I.hh,oB I,oA I,I.hh _ _ a6,a7.mono I.gg,Si,zw.mono vY.gg],by simpa using w]
    |true=>
     refine dU #[MK,z3,_,vY.sub,zw.mono vY.gg,(by rw[mo rfl] at w;exact w),λkd Rz v U4 zi Ja Nv=>?_]
     refine#[U4,z3,_,Ja.sub,(zw.mono vY.gg).mono Ja.gg,Rz,λvd hvd v2 G12 H12 Qw Y0=>?_];rfl';obtain⟨p,fv,rfl,rfl,np,hz,hn⟩:=hvd;obtain⟨c,rfl,m6⟩:=Nv.A4;obtain rfl:=Y0.UK;ac_rfl;have A:=(I.trans Ja).trans Qw;have zy:=Qw.gg _ _ m6;refine#[c,VQ,Y,MB,p,fv,rfl,rfl,A.hh _ _ a6,Qw.sub _ _ zy,(a7.mono A.gg).mono Qw.sub,Si,np,hz,z3,_,_,#[G12,_,a1.trans A.gg,λb o e=>?_,λb o e=>?_,oB A,oA A,af,(a7.mono A.gg).snoc zy,?_,((zw.mono vY.gg).mono Ja.gg).mono Qw.gg],hn]
     .rw[ag (ao e (oA A))];exact A.sub _ _ e
     .rw[ag (ao e hA)];exact(a3.trans A.hh) _ _ e
     .rw[jx]
      refine#[Si,by simp,λa ha b w z=>np ?_]
      rw[fZ] at w;rw[<-w,<-z];exact ha
   .have e:T.drop k= []:=y0 ()
    rw[e] at p9;exact .inl #[(EX G7 F a1 a2 k).2.1 (),ze,Y,MB,#[G7,VQ,VV.trans a1,a2,a3,a4,a5,a6,a7,Si,a8],p9]
 .have e:t.drop i= []:=y0 ()
  rfl';rw[e] at hl;obtain⟨G',x,dv⟩:=c.done x1 hA;obtain⟨G2,u,s1,s2,_⟩:=c;ac_rfl;exact .inl #[(it G2 N s1 s2 i).2.1 (),q _ hl _ G' N x dv]
def QZ(b:X.A.units+64<cLine)(d:X.calm=true)(c:br X scope)(e:cS scope X.N src NC)(f:DI Z X t0 i0 wi)
  (h:∀a s H,DG Z (bA X scope NC a s H) t0 g) (i:∀a s H,zh Z (bA X scope NC a s H) f0 tt) (j:∀a s H,DI Z (bA X scope NC a s H) t1 i1 cx) (k:∀a s H,DG Z (bA X scope NC a s H) t1 g1)
  (l:∀a s H,zh Z (bA X scope NC a s H) f1 bO) (m:∀a s H,DE Z (bA X scope NC a s H) kx tk) (n:∀a s H,DE Z (bA X scope NC a s H) vx tv)
  (o:∀x,foldedSetIterable i0 X.env x=pure x:=by intro _;rfl) (p:∀env x,foldedSetIterable i1 env x=pure x:=by intro _ _;rfl):
  DE Z X (.DictComp kx vx [#[t0,i0,f0,0],#[t1,i1,f1,0]] scope pos) (T8 wi g tt cx g1 bO tk tv src):=(Sz b d c e f h i j k l m n o p).imp OV
end
end L2
namespace Wb
abbrev Dt:=Nat×Nat
def qb(w:W)(a:List (List Dt)):Prop:=∀r∈a,∃d,gf w d r/\aV w d
def qb.dart(g:Good w)(h:qb w a):∀e∈a.flatten,aV w e:=λe b=>by
 obtain⟨r,c,f⟩:=oZ.mp b;obtain⟨d,R,i⟩:=h r c;exact R.aW g i e f
end Wb
namespace L2
open PySem PySem.Spec PyProof.Rows
section
variable {Z:DC} {X:Cx} {md:List Nat} {rn:Nat} {k tg:Expr} {tk:aQ} {g:dZ} {pos:Pos}
def Vl(d:List Nat)(j:Nat)(e:aQ)(g:dZ)(f:cy):cy:=λE a=>∃b,a[j]?\(some (.lst b))/\e (Ds d true a) λh=>∃(n:Int)(c:List D),h= .int n/\f7 b n\(.lst c)/\ju g f E c a
def Nq(j:Nat)(z:X.calm=true)(C:PassesOwn (model X.prog X.w) X.A X.env X.xe)(F:DE Z X k tk)(I:F8 Z X md tg g)(J:ko Z X md rn c l)(L:md.getD j 0=1:=by rfl)
  (O:X.N[j]?\y:=by rfl) (P:nz X.env.scope y:=by subst_eqs) (Q:(y==("__debug__":Str))=false:=by decide) (R:(y==("__classdict__":Str))=false:=by decide)
  (T:nu k:=by exact λ_ _=>rfl) (Y:∀x,foldedSetIterable (.Subscript (.Name y py) k i) X.env x=pure x:=by intro _;rfl):DSt Z X md rn (.For tg (.Subscript (.Name y py) k i) c [] pos) (Vl md j tk g l):=by
 refine(iR C z (j7 (cC bG (pv j O P Q R) F T)) I J Y).imp ?_;intro Dn σ H aJ;rfl';obtain⟨B,ρ,E,⟨G,fp,S⟩,⟨VG,p,h⟩,M⟩:=aJ;ac_rfl;rfl';obtain⟨v0,q,o⟩:=S.at_ j _ p;ac_rfl;refine#[_,q,S.ev true h ?_];rintro _ ⟨n,ds,rfl,BY,hf⟩;refine#[rfl,λv G1 H1 e x1 VI=>?_];rfl';cases VI.ofInt;obtain⟨v1,r,s⟩:=e.at_ j _ p;rw[q] at r;cases r;rw[L] at s;obtain⟨a,xs,nI,qI,rfl,e1,ha,_,ol⟩:=s.one;cases e1;obtain⟨RH,_⟩:=ol.flat;obtain⟨u,hu,du⟩:=v5 RH BY;obtain⟨b,ys,rfl,t,f⟩:=du.kU;ac_rfl;exact#[a,xs,n, .ref b,rfl,rfl,aG.of ha,hu,b,rfl,#[_,aG.of (e.ex.sub _ _ t)],ub e (EY t f) hf M]
end
end L2
namespace wB
open PySem L2 Wb
variable {P:Program} {w:World} {mg:Str->Option Value} {base:Heap} {Z:DC} (T:Txt Z mg)
def NF{P:D->Prop}(h:P (.bl (decide (i=j)))):dC (.int j) a (λb=>Eh (.int i) b P):=Ei h
def Gu(l:List a)(k:Nat)(h:k<=l.length):cutD l (some (k:Int)) none=l.drop k:=by
 unfold cutD
 have b:HT.bW l.length 0 (some (k:Int))=k:=by
  simp only[HT.bW]
  split<;>lia
 have c:HT.bW l.length l.length none=l.length:=rfl;rw[b,c];exact qr (by simp)
def sL{w:W}(h:p<w.length):f7 (w.map aF) (p:Int)\(aF (row w p)):=jJ (yJ h)
def gn{a:List Nat}(h:p<a.length):f7 (a.map aA) (p:Int)\(aA (a.getD p 0)):=jJ (by rw[dJ,fq,dH h];rfl)
theorem CB:∀(b:List Nat)(m:Nat),m<b.idxOf x->b[m]? ≠some x
 | [],m,h=>by simp at h
 |a::b,m,h=>by
  rw[List.idxOf_cons] at h
  by_cases e:(a==x)=true
  .rw[e] at h;simp at h
  .rw[vB.mpr e] at h
   cases m with
   |zero=>intro z;simp at z;exact e (by simp[z])
   |succ m=>rw[vy];exact CB b m (~~~h)
def Hw{a:List Nat}{x:Nat}{P:D->Prop}(h:x∈a)(q:P (aA (a.idxOf x))):fw (aA x)=true/\(a.map aA).all fw=true/\∃(j:Nat)(z:D),(a.map aA)[j]?\z/\iY z (aA x)=true/\(∀(m:Nat) z,m<j->(a.map aA)[m]?\z->iY z (aA x)=false)/\P (.int (j:Nat)):=by
 have b:=yX.mpr h;have e:a[a.idxOf x]?\x:=by rw[dH b];exact On some (yT b)
 refine#[rfl,gH _,a.idxOf x,aA x,by rw[dJ,e];rfl,by simp[iY,aA],λm z c d=>?_,q]
 obtain⟨y,f,rfl⟩:=cL d
 have:y≠x:=by
  rintro rfl;exact CB _ _ c f
 have:¬((y:Int)=(x:Int)):=()
 simpa [iY,aA] using this
def jD{a:List Nat}{x:Nat}(h:x∈a):(a.map aA)[a.idxOf x]?\(aA x)/\iY (aA x) (aA x)=true/\∀(m:Nat) z,m<a.idxOf x->(a.map aA)[m]?\z->iY z (aA x)=false:=by
 have:=Hw (P:=λd=>d=aA (a.idxOf x)) h rfl
 obtain⟨_,_,j,z,i,k,l,n⟩:=this;have b:=yX.mpr h;have e:a[a.idxOf x]?\x:=by rw[dH b];exact On some (yT b)
 refine#[by rw[dJ,e];rfl,by simp[iY,aA],λm z c f=>?_]
 obtain⟨y,g,rfl⟩:=cL f
 have:y≠x:=by
  rintro rfl;exact CB _ _ c g
 have:¬((y:Int)=(x:Int)):=()
 simpa [iY,aA] using this
theorem rf{f:b->D}{g:b->PyData}(h:∀a,(f a).py\(g a)):∀l:List b,gG (l.map f)\(l.map g)
 | []=>rfl
 |a::l=>by
  have:=rf h l
  rw[dq,gG,h a,this];rfl
def JV(r:List Nat):(aF r).py\(sI r):=by
 unfold aF sI;rw[D.py,rf (g:=nD) (λn=>rfl)];rfl
def NG(a b:List Nat):PyData.eqv (sI a) (sI b)=decide (a=b):=by
 by_cases e:a=b
 .rw[IR e];exact(Ap a b).mpr e
 .rw[GT e]
  apply vB.mpr;exact λz=>e ((Ap a b).mp z)
def wR{v w:List Nat}{P:D->Prop}(h:P (.bl (decide (v=w)))):Eh (aF v) (aF w) P:=by
 refine#[_,_,JV v,JV w,by have:=En v;lia,?_]
 rw[tz dj,NG];exact h
variable {P:Program} {w:World} {mg:Str->Option Value} {base:Heap} {Z:DC} (T:Txt Z mg)
def Bg{P:D->Prop}(g:L.length<64)(h:∀M:List Nat,M.Perm L->M.Pairwise (·<=·)->P (aF M)):Jp [aF L] P:=by
 refine#[L.map λ(n:Nat)=>(n:Int),by unfold aF;rw[dX];rfl,by rw[aI];exact g,λc f srt=>?_]
 have e:∀m∈c,((m.toNat:Nat):Int)=m:=λm d=>by
  obtain⟨n,_,rfl⟩:=c7.mp (f.mem_iff.mp d);simp
 have i:(c.map Int.toNat).Perm L:=by
  have:=f.map Int.toNat
  rw[dX] at this;rw[show(Int.toNat∘λ(n:Nat)=>(n:Int))=id from by funext n;simp] at this
  simpa using this
 have:=h (c.map Int.toNat) i (by
  rw[jc];exact srt.imp λ {a b} j=>Int.toNat_le_toNat j)
 unfold aF at this;rw[dX] at this;rw[show c.map D.int=c.map (aA∘Int.toNat) from ac4 λm d=>by show D.int m=aA m.toNat;unfold aA;rw[e m d]]
 exact this
noncomputable def qZ(k:Nat×Nat):PyData:= .tuple [nD k.1,nD k.2]
def PL(k:Nat×Nat):(pairD k).py\(qZ k):=by
 unfold pairD;rw[D.py,gG,gG,gG];rfl
def Ao(a b:Nat×Nat):PyData.eqv (qZ a) (qZ b)=true↔a=b:=by
 unfold qZ nD;simp[PyData.eqv,PyData.eqvAll]
 constructor
 .rintro⟨c,d⟩;exact abJ () ()
 .rintro rfl;exact#[rfl,rfl]
variable {P:Program} {w:World} {mg:Str->Option Value} {base:Heap} {Z:DC} (T:Txt Z mg)
noncomputable def zz(d:Nat×Nat):Int×Int:=(d.1,d.2)
def TV(h:zz a=zz b):a=b:=abJ (by have:=(acf h).1;lia) (by have:=(acf h).2;lia)
def pW{d:Nat×Nat}{l:List (Nat×Nat)}:zz d∈l.map zz↔d∈l:=by
 rw[c7];exact#[λ#[a,b,e]=>by rw[<-TV e];exact b,λh=>#[d,h,rfl]]
def Tj:c8:=λb P=>∃(w:W),b= [.ik w]/\Good w/\w.length<=14/\∀a:List (Nat×Nat),a.Perm (cH (row w) w.length)->a.Pairwise lexLe->P (.lst (a.map pairD))
theorem Uu(I:DN->Prop)(J:n->DN->Prop)(l:n->D)(f:n->List t)(u:t->D)(p:n->t->Bool)(k:n->t->A)(d:A->D)(F:∀y G,J y G->I G):∀(j:List n)(i:DN)(acc:List A)(P:List D->Prop),
  (∀y∈j,∀i,I i->∀(Y:DN->List D->Prop),(∀a,J y a->Y a ((f y).map u))->g (l y) i λa=>x a (Y a))->
  (∀y∈j,∀b∈f y,∀i,J y i->∀(Y:DN->D->Prop)(v:DN->Prop),(∀a,J y a->p y b=true->Y a (d (k y b)))->(∀a,J y a->p y b=false->v a)->q (u b) i λa=>r a λc=>if c=true then s a (Y a) else v a)->
  I i->acc.length+(j.flatMap λy=>((f y).filter (p y)).map (k y)).length<=sizeLine->(∀y∈j,acc.length+(j.flatMap λy=>((f y).filter (p y)).map (k y)).length+(f y).length<=sizeLine)->P ((acc++j.flatMap λy=>((f y).filter (p y)).map (k y)).map d)->qf g mL x q r s (j.map l) i (acc.map d) P
 | [],i,acc,P,_,_,H,_,_,h=>by
  show P (acc.map d);simpa using h
 |y::j,i,acc,P,L,M,H,m,N,h=>by
  have B:=N y (dB ..);rw[vA,dh] at m B;refine L y (dB ..) i H (λa O=>lcW q r s O a (acc.map d) λo Q=>qf g mL x q r s (j.map l) o Q P) λa C=>?_;refine iQ (J y) u (p y) (λb=>d (k y b)) (f y) a (acc.map d) _ (λb R o E Y v S X=>?_) C (by rw[aI];lia) λo E=>?_
  .exact M y (dB ..) b R o E Y v S X
  .have e:acc.map d++((f y).filter (p y)).map (λb=>d (k y b))=(acc++((f y).filter (p y)).map (k y)).map d:=by rw[cD,dX];rfl
   rw[e];refine Uu I J l f u p k d F j o (acc++((f y).filter (p y)).map (k y)) P (λz m=>L z (eW _ m)) (λz m=>M z (eW _ m)) (F y o E) (by rw[dh];lia) (λz m=>?_) ?_
   .have:=N z (eW _ m)
    rw[vA,dh] at this;rw[dh];lia
   .rw[vA] at h
    rw[kQ];exact h
def jF:FnOk P w Z.K mg base bQ 1 T.m_ties.f T.m_ties.fd ["self"] (aY Z Tj):=by
 have L:=sR.nd;refine bF T.m_ties.F sR [0] ∅ (λu R h=>by obtain⟨_,rfl,_⟩:=h;rfl) (λM A outer s H E u R v h=>?_)
 have N:=v.units;refine#[_,(aw (ba (cz z9 rfl T.B.sorted jT (ae (Q0 (NC:= ["p","row","q"]) (src:= [none,none,none]) rfl (tX (aq kL)) trivial (fg rfl T.B.enumerate (ae (wX T.W (U 0)) au)) (λ_ _ _=>(pq 2 rfl (dP (bK 0 (show(["p","row","q"]:List Str).Nodup from by decide+kernel)) (dP (bK 1 (show(["p","row","q"]:List Str).Nodup from by decide+kernel)) lh)))) (λ_ _ _=>fh) (λ_ _ _=>(bL (U 1))) (λ_ _ _=>(bK 2 (show(["p","row","q"]:List Str).Nodup from by decide+kernel))) (λ_ _ _=>(rM (bU CI (U 0) (U 2) (bD _)))) (λ_ _ _=>(cF (ae (U 0) (ae (U 2) au))))) au)))),?_]
 obtain⟨a,rfl,g,h14,q⟩:=h
 have x:eD (a.map aF)=(aM a.length).map λ(j:Nat)=>D.tup [.int (j:Int),aF (row a j)]:=by
  refine y8 λj=>?_;rw[dJ]
  by_cases lt:j<a.length
  .rw[y4 lt]
   cases e:(eD (a.map aF))[j]? with
   |none=>
    have:=List.getElem?_eq_none_iff.mp e
    rw[iF,aI] at this;lia
   |some d=>rw[(yI e).2];rfl
  .rw[il (by rw[iF,aI];lia),il (by rw[oY];lia)];rfl
 have k:((aM a.length).flatMap λp=>((row a p).filter λq=>decide (p<q)).map λq=>(p,q))=cH (row a) a.length:=rfl
 have z:∀n,n<=a.length->(cH (row a) n).length<=n*14:=λn=>by
  induction n with
  |zero=>intro _;exact bq _
  |succ n C=>
   intro h
   have:=C ()
   have O:=fk g n;have Q:=DU (λq=>decide (n<q)) (row a n);unfold cH at this ⊢;rw[acW,List.flatMap_append,dh];simp only[vA,List.flatMap_nil,eJ,aI];lia
 have G:=z a.length (bq _);exists _,rfl,a,rfl;refine(?_:qf _ _ _ _ _ _ (eD (a.map aF)) _ _ _);rw[x];refine Uu (λi=>∃o r c,i= [o,r,c]) (λp i=>∃c,i= [some (aA p),some (aF (row a p)),c]) _ (λp=>row a p) aA (λp q=>decide (p<q)) (λp q=>(p,q)) pairD (λy i #[c,e]=>#[_,_,_,e]) (aM a.length) _ [] _ (λp t I l Y m=>?_) (λp t b S I l Y X m J=>?_) #[none,none,none,rfl] ?_ (λp t=>?_) ?_
 .obtain⟨o,r,c,rfl⟩:=l
  exact#[rfl,rfl,_,rfl,m _ #[_,rfl]]
 .obtain⟨c,rfl⟩:=l
  exists _,rfl,_,rfl,_,rfl;refine(?_:if decide ((p:Int)<(b:Int))=true then _ else _);rw[show decide ((p:Int)<(b:Int))=decide (p<b) from acK.mpr ()]
  exact eM (λe=>#[_,rfl,_,rfl,by show 2<=sizeLine;decide,m _ #[_,rfl] e]) (λe=>J _ #[_,rfl] e)
 .rw[k,o9,iC];exact small ()
 .have:=fk g p
  rw[k,o9,iC];exact small ()
 .rw[k,qt]
  exact#[_,rfl,(),q]
def Mr:c8:=λa P=>∃(w:W)(p q:Nat),a= [.ik w,aA p,aA q]/\Good w/\q∈row w p/\P (aA (jm (row w p) q))
def oj:FnOk P w Z.K mg base bQ 1 T.m_behind.f T.m_behind.fd ["self","p","q"] (aY Z Mr):=by
 have k:=oH.nd;refine bF T.m_behind.F oH [0,0,0,0] ∅ (λl R h=>by obtain⟨_,_,_,rfl,_⟩:=h;rfl) (λu A outer s H E l R m h=>?_)
 have v:=m.units
 refine#[_,(av (b8 false 3 k (fJ (wX T.W (U 0)) (U 1)))
   (aw (ba (fJ (U 3) (kR CJ (kR we (tY (U 3) (U 2)) bh) (cz kF rfl T.B.len kD (ae (U 3) au))))))),?_]
 rfl';obtain⟨a,p,b,rfl,g,c,q⟩:=h;have o:=iS c;have y:=fk g p;have e:((row a p).map aA).length=(row a p).length:=aI _;have d:0<(row a p).length:=yY c;have r:(0:Int)<(((row a p).map aA).length:Int):=by rw[e];lia
 ac_rfl;exists _,rfl,a,rfl,_,rfl,_,sL o,trivial;exists _,rfl,_,rfl,_,rfl,_,rfl,rfl,gH _,_,_,(jD c).1,(jD c).2.1,(jD c).2.2;exists _,rfl,r;have em:(((row a p).idxOf b:Nat):Int)+1=(((row a p).idxOf b+1:Nat):Int):=()
 have t:((((row a p).idxOf b:Nat):Int)+1)%(((row a p).map aA).length:Int)=((((row a p).idxOf b+1)%(row a p).length:Nat):Int):=by rw[e,em,adO]
 refine#[aA (jm (row a p) b),?_,q];show f7 ((row a p).map aA) ((λi j=>i%j) _ _)=_;dsimp only;rw[t];exact gn (aco _ d)
def Ah{P:D->Prop}(h:P (.bl (!decide (a=b)))):M8 (pairD a) (pairD b) P:=by
 refine#[_,_,PL a,PL b,by unfold qZ nD;simp[PyData.depth,PyData.depthAll],?_]
 have:PyData.eqv (qZ a) (qZ b)=decide (a=b):=by
  by_cases e:a=b
  .rw[IR e];exact(Ao a b).mpr e
  .rw[GT e]
   apply vB.mpr;exact λz=>e ((Ao a b).mp z)
 rw[mo rfl,this];exact h
def yw:c8:=λa P=>∃(w:W)(d:Nat×Nat),a= [.ik w,pairD d]/\Good w/\w.length<=14/\aV w d/\∀r,gf w d r->P (.lst (r.map pairD))
def yc:FnOk P w Z.K mg base bQ 2 T.d_round_from.f T.d_round_from.fd ["web","side"] (aY Z yw):=by
 have i:=oN.nd;refine bF T.d_round_from.F oN [0,0,1,0,0] ∅ (λt R h=>by obtain⟨_,_,rfl,_⟩:=h;rfl) (λz A outer s H E t R n h=>?_)
 have u:=n.units
 refine#[_,(av (gZ 2 i (gY (ae (U 1) au)))
   (av (Jw (U 1) (fA 2 rfl (aP (aK 3 i) (aP (aK 4 i) cQ))))
   (av (Jx 3 4 rfl i (ae (U 4) (ae (El T.W (U 0) T.m_behind.m (oj T) (n.mono ∅) T.m_behind.b (ae (U 4) (ae (U 3) au))) au)))
   (av (t9 FM (bU (HN u) (cF (ae (U 3) (ae (U 4) au))) (U 1) (bD _)) (av (iP false 2 (cF (ae (U 3) (ae (U 4) au))))
   (aw (Jx 3 4 rfl i (ae (U 4) (ae (El T.W (U 0) T.m_behind.m (oj T) (n.mono ∅) T.m_behind.b (ae (U 4) (ae (U 3) au))) au))))))
   (aw (ba (U 2))))))),?_]
 obtain⟨a,d,rfl,g,h14,o,q⟩:=h;have B:=fI g;have C:a.length*a.length<=14*14:=tL h14 h14;refine#[_,rfl,by show 1<=sizeLine;decide,?_]
 exists _,rfl,rfl,rfl;exists _,rfl,_,rfl,a,rfl,_,rfl,_,rfl,a,d.2,d.1,rfl,g,g.sym _ _ o,_,_,rfl;refine rz (λm v=>∃k,0<k/\m+k=(aW a).length+1/\(∀j,0<j->j<k->cU a j d≠d)/\v= [some (.ik a),some (pairD d),some (.lst ((walk a d k).map pairD)),some (aA (cU a k d).1),some (aA (cU a k d).2)]) (aW a).length #[1,(),rfl,λj l r=>by lia,rfl] ?_
 rintro m _ ⟨k,x,G,p,rfl⟩;have y:=gI g o k;refine#[_,rfl,_,rfl,by show 2<=sizeLine;decide,_,rfl,?_]
 refine(?_:M8 (pairD (cU a k d)) (pairD d) _);refine Ah #[_,rfl,eM (λe=>?_) (λe=>?_)]
 .have ne:cU a k d≠d:=by simpa using e
  have lt:k<(aW a).length:=by
   have:=tu g o (k:=k+1) λj l r=>by
    by_cases c:j=k
    .subst c;exact ne
    .exact p j l ()
   lia
  refine#[_,rfl,_,rfl,_,rfl,by show 2<=sizeLine;decide,trivial,aZ (by rw[aI,iM];lia),?_]
  exists _,rfl,_,rfl,a,rfl,_,rfl,_,rfl,a,(cU a k d).2,(cU a k d).1,rfl,g,g.sym _ _ y,_,_,rfl;refine#[m-1,(),k+1,(),(),λj l r=>?_,?_]
  .by_cases c:j=k
   .subst c;exact ne
   .exact p j l ()
  .rw[rq,cD];rfl
 .have e:cU a k d=d:=by simpa using e
  exact#[_,rfl,q _ #[k,x,e,p,rfl]]
noncomputable def wd(a:List (List (Nat×Nat))):D:= .lst ((a.map λr=>r.map (·.1)).map aF)
def Qf:c8:=λb P=>∃(w:W),b= [.ik w]/\Good w/\1<=w.length/\w.length<=14/\(w.length=1->P (.lst [aF [0]]))/\(2<=w.length->∀a,ck w a->ur w=i3 a->P (.lst ((ur w).map aF)))
def Ll(h:d∉l):EU (l.map zz) (zz d)=(l++ [d]).map zz:=by
 unfold EU;rw[tz (λz=>h (pW.mp z)),cD];rfl
def LP:FnOk P w Z.K mg base bQ 3 T.d_lands.f T.d_lands.fd ["web"] (aY Z Qf):=by
 have I:=Bf.nd;refine bF T.d_lands.F Bf [0,98,1,0,0,0] ∅ (λv R h=>by obtain⟨_,rfl,_⟩:=h;rfl) (λaT A outer s H E v R o h=>?_)
 have S:=o.units
 refine#[_,(av (eB (bU (j5 S) (lg T.W (U 0) T.m_many.m (CM T) (o.mono ∅) T.m_many.b) bh (bD _)) (aw (ba (kH (ae (kH (ae bh au)) au)))) bM)
   (av (KP 1 I rfl T.x_set)
   (av (gZ 2 I (gY au))
   (av (df rfl FM (bL (cz z9 rfl T.B.sorted jT (ae (kR we (lg T.W (U 0) T.m_ties.m (jF T) (o.mono ∅) T.m_ties.b) (nG (NC:= ["a","b"]) (src:= [none,none]) rfl (tX (aq oE)) trivial (bL (lg T.W (U 0) T.m_ties.m (jF T) (o.mono ∅) T.m_ties.b)) (λ_ _ _=>(pq 2 rfl (dP (bK 0 (show(["a","b"]:List Str).Nodup from by decide+kernel)) (dP (bK 1 (show(["a","b"]:List Str).Nodup from by decide+kernel)) lh)))) (λ_ _ _=>fh) (λ_ _ _=>(cF (ae (U 1) (ae (U 0) au)))))) au))) (aK 3 I) (aw (eB (bU (HQ S) (U 3) (U 1) (by with_unfolding_all rfl)) (av (b8 false 4 I (aU T.d_round_from (yc T) o (ae (U 0) (ae (U 3) au))))
   (av (df rfl FM (bL (U 4)) (aK 5 I) (aw (Np false 1 S (U 5))))
   (aw (iP false 2 (nG (NC:= ["p","q"]) (src:= [none,none]) rfl (tX (aq oE)) trivial (bL (U 4)) (λ_ _ _=>(pq 2 rfl (dP (bK 0 (show(["p","q"]:List Str).Nodup from by decide+kernel)) (dP (bK 1 (show(["p","q"]:List Str).Nodup from by decide+kernel)) lh)))) (λ_ _ _=>fh) (λ_ _ _=>(U 0))))))) bM)))
   (aw (ba (cz (Gr S) rfl T.B.sorted jT (ae (U 2) au)))))))),?_]
 rfl';obtain⟨n,rfl,g,h1,h14,q1,q2⟩:=h;have c1:=fI g;have c2:n.length*n.length<=14*14:=tL h14 h14;have lw:(n.map aF).length=n.length:=aI _;ac_rfl;exists _,rfl,n,rfl,n,rfl;refine NF #[_,rfl,eM (λe=>?_) (λe=>?_)]
 .have e:n.length=1:=by have:=M2 e;lia
  exact#[by show 1<=sizeLine;decide,by show 1<=sizeLine;decide,q1 e]
 have n2:2<=n.length:=by have:=SC e;lia
 refine#[by show 0<=sizeLine;decide,?_]
 refine#[_,rfl,n,rfl,n,rfl,g,h14,λts G srt=>?_];have tl:=IJ g;rw[<-wV] at tl;have tl2:=G.length_eq;refine#[_,rfl,n,rfl,n,rfl,g,h14,λy J UU=>?_];have e2:y=ts:=abL (λ_ _ _ _=>jL) UU srt (J.trans G.symm);subst e2;refine iQ (λC=>∃L N,C= [L,N]) pairD (λ_=>true) (λt=>pairD (t.2,t.1)) y _ [] _ (λt ht aD O Y Nn hY hN=>?_) #[none,none,rfl] (by rw[o9,iC];exact small ()) λaD O=>?_
 .obtain⟨L,N,rfl⟩:=O
  exact#[rfl,rfl,Kd #[_,rfl,_,rfl,by show 2<=sizeLine;decide,hY _ #[_,_,rfl] rfl]]
 have pd:=Gk g G;have pl:=pd.length_eq;rw[dh,aI] at pl;have ef:y.filter (λ_=>true)=y:=by simp
 rw[qt,ef];refine#[by rw[aI,aI];exact small (),?_]
 have ej:(.lst (y.map pairD++y.map λt=>pairD (t.2,t.1)):D)= .lst ((y++y.map λt=>(t.2,t.1)).map pairD):=by rw[cD,dX];rfl
 dsimp only[uY];rw[ej];refine#[_,rfl,by rw[dh,aI];lia,λv X aaL=>?_]
 have X:=X.trans pd;have all:∀e,aV n e->e∈v:=λe h=>X.mem_iff.mpr (bz.mpr h);have dart:∀e∈v,aV n e:=λe h=>bz.mp (X.mem_iff.mp h);clear G J srt UU ej pd ef;refine bS (λi C=>∃(j:List (List (Nat×Nat)))(o3 o4 q:Option D),C= [some (.ik n),some (.x (.sF (gy w) (j.flatten.map zz))),some (wd j),o3,o4,q]/\Wk n v i j) #[[],none,none,none,rfl,Wk.zero n v] ?_ ?_
 .rintro i d _ hd ⟨j,o3,o4,q,rfl,hw⟩ A hA
  obtain⟨e,he,rfl⟩:=cL hd;have de:=dart e (cV he);exists _,rfl,_,rfl,zz e,j.flatten.map zz,rfl,rfl,_,rfl;refine(?_:if (if true=true then !decide (zz e∈j.flatten.map zz) else _)=true then _ else _);rw[mo rfl,show decide (zz e∈j.flatten.map zz)=decide (e∈j.flatten) from acK.mpr pW]
  have sub:∀x∈j.flatten,x∈aW n:=λx u=>by
   obtain⟨r,o,W4⟩:=oZ.mp u;obtain⟨d,R,dd,_⟩:=hw.rnd r o;exact bz.mpr (R.aW g dd x W4)
  have fl:=aX hw.nod sub;refine eM (λc=>?_) (λc=>?_)
  .have c:e∉j.flatten:=by simpa using c
   refine#[_,rfl,_,rfl,n,e,rfl,g,h14,de,λr R=>#[trivial,?_]];have Q:=hw.take g all dart aaL he c R;have rd:∀x∈r,x∈aW n:=λx u=>bz.mpr (R.aW g de x u);have rl:=aX (R.nodup g de) rd;have Xf:(j.flatten++r).Nodup:=by have:=Q.nod;rw[tJ] at this;simpa using this
   have Rj:(j.flatten++r).length<=(aW n).length:=aX Xf λx u=>(c5.mp u).elim (sub x) (rd x);rw[dh] at Rj;exists _,rfl;refine bS (λk C=>∃q,C= [some (.ik n),some (.x (.sF (gy w) ((j.flatten++r.take k).map zz))),some (wd j),some (pairD e),some (.lst (r.map pairD)),q]) #[q,by rw[zc,eJ];rfl] ?_ ?_
   .rintro k d _ hd ⟨q,rfl⟩ A hA
    obtain⟨x,u,rfl⟩:=cL hd;have hk:=(cw.mp u).1;have tk:r.take (k+1)=r.take k++ [x]:=by rw[zd,u];rfl
    have nx:x∉j.flatten++r.take k:=λz=>by
     have sp:j.flatten++r=(j.flatten++r.take k)++(x::r.drop (k+1)):=by
      rw[kQ,<-cw.mp u|>.2,acA,kP]
     rw[sp] at Xf;exact(jx.mp Xf).2.2 x z x (dB ..) rfl
    refine#[_,rfl,_,rfl,zz x,rfl,by rw[aI,dh,gO];lia,?_]
    rw[Ll nx,kQ,<-tk];exact hA _ #[_,rfl]
   .rintro _ ⟨q,rfl⟩
    rw[aI,za]
    have dl:j.length<=300:=by
     have h:∀p:List (List (Nat×Nat)),(∀r∈p,r≠ [])->p.length<=p.flatten.length:=λp=>by
      induction p with
      |nil=>intro _;exact bq _
      |cons a l ih=>
       intro h;have h1:=DV.mpr (h a (dB ..));have h2:=ih λr o=>h r (eW _ o);rw[y9,dh,dG];lia
     have:=h j λr o z=>by
      obtain⟨d,R,_,_⟩:=hw.rnd r o
      have:=R.first
      rw[z] at this;cases this
     lia
    exists _,rfl,_,rfl;refine iQ (λC=>∃L N,C= [L,N]) pairD (λ_=>true) (λt=>aA t.1) r _ [] _ (λt ht aD O Y Nn hY hN=>?_) #[none,none,rfl] (by rw[o9,iC];exact small ()) λaD O=>?_
    .obtain⟨L,N,rfl⟩:=O
     exact#[rfl,rfl,Kd #[_,rfl,hY _ #[_,_,rfl] rfl]]
    rw[qt,show r.filter (λ_=>true)=r by simp]
    refine#[trivial,aZ (by rw[aI,aI];lia),?_]
    refine hA _ #[j++ [r],some (pairD e),some (.lst (r.map pairD)),q,?_,Q]
    have e1:wd (j++ [r])= .lst ((j.map λr=>r.map (·.1)).map aF++ [.lst (r.map λt=>aA t.1)]):=by
     unfold wd aF;rw[cD,cD];simp only[dq,uV,dX];rfl
    rw[e1,tJ,show[r].flatten=r by simp];rfl
  .have c:e∈j.flatten:=by simpa using c
   exact hA _ #[j,_,_,_,rfl,hw.skip he c]
 .rintro _ ⟨j,o3,o4,q,rfl,hw⟩
  have hw:Wk n v v.length j:=by rw[aI] at hw;exact hw
  have fin:=hw.fin g all;have R:ck n j:=#[hw.rnd,fin]
  have dl:j.length<=300:=by
   have h:∀p:List (List (Nat×Nat)),(∀r∈p,r≠ [])->p.length<=p.flatten.length:=λp=>by
    induction p with
    |nil=>intro _;exact bq _
    |cons a l ih=>
     intro h;have h1:=DV.mpr (h a (dB ..));have h2:=ih λr o=>h r (eW _ o);rw[y9,dh,dG];lia
   have:=h j λr o z=>by
    obtain⟨d,R,_,_⟩:=hw.rnd r o
    have:=R.first
    rw[z] at this;cases this
   have:=fin.length_eq
   lia
  refine#[_,rfl,j.map (λr=>r.map (·.1)),rfl,by rw[aI];lia,λM G srt=>?_]
  obtain⟨p,p',rfl⟩:=L2.jG (λr:List (Nat×Nat)=>r.map (·.1)) M j G;have R':=R.Pc p';have e:=AO g R' srt
  have:=q2 n2 p R' e
  rw[e] at this;exact this
variable {P:Program} {w:World} {mg:Str->Option Value} {base:Heap} {Z:DC} (T:Txt Z mg)
noncomputable def sV(l:List Nat):List (Nat×Nat):=(aM l.length).map λk=>(l.getD k 0,l.getD ((k+1)%l.length) 0)
def Jg(l:List Nat):l.zip (l.drop 1++l.take 1)=sV l:=by
 refine y8 λi=>?_;unfold sV;rw[dJ]
 by_cases h:i<l.length
 .rw[y4 h,yU]
  refine ady.mpr #[by rw[fq,dH h];rfl,?_]
  by_cases c:i+1<l.length
  .rw[fY (by rw[mV];lia),Bo,uR c,show 1+i=i+1 by lia,dH c];show _\(l.getD (i+1) 0);rw[fq,dH c];rfl
  .have e:i+1=l.length:=()
   rw[iz (by rw[mV];lia),mV,e,adF,show i-(l.length-1)=0 by lia]
   cases l with
   |nil=>simp at h
   |cons a l=>rfl
 .rw[il (by rw[List.length_zip,dh,mV,gO];lia),il (by rw[oY];lia)];rfl
noncomputable def yr(l:List Nat):List (Nat×Nat):=if 1<l.length then sV l else[]
def yx:c8:=λa P=>∃(l:List Nat),a= [aF l]/\l.length<=300/\P (.lst ((yr l).map pairD))
def CP:FnOk P w Z.K mg base bQ 1 T.d_sides_of.f T.d_sides_of.fd ["land"] (aY Z yx):=by
 have g:=sT.nd;refine bF T.d_sides_of.F sT [0] ∅ (λd R h=>by obtain⟨_,rfl,_⟩:=h;rfl) (λi A outer s H E d R e h=>?_)
 have j:=e.units;exists _,(aw (ba (VA (bU Xo (cz kF rfl T.B.len kD (ae (U 0) au)) bh (bD _)) (Ek rfl rfl T.B.list rfl T.B.zip (ae (U 0) (ae (kR we (tZ (U 0) (wZ bh) wY) (tZ (U 0) wY (wZ bh))) au))) (kH au))));obtain⟨l,rfl,k,q⟩:=h;have m:(l.map aA).length=l.length:=aI _;unfold yr at q;exists _,rfl,_,rfl;refine(?_:if decide ((1:Int)<((l.map aA).length:Int))=true then _ else _);refine eM (λc=>?_) (λc=>?_)
 .have c:1<l.length:=by have:=M2 c;lia
  rw[mo c] at q;exists _,rfl,_,rfl,_,rfl;have a:cutD (l.map aA) (some ((1:Nat):Int)) none=(l.drop 1).map aA:=by rw[Gu _ _ (),adl]
  have b:cutD (l.map aA) none (some ((1:Nat):Int))=(l.take 1).map aA:=by rw[wQ _ _ (),acC]
  refine#[small (by rw[show cutD (l.map aA) (some 1) none=_ from a,show cutD (l.map aA) none (some 1)=_ from b,aI,aI,mV,gO];lia),?_]
  refine(?_:R (.lst (((l.map aA).zip (cutD (l.map aA) (some ((1:Nat):Int)) none++cutD (l.map aA) none (some ((1:Nat):Int)))).map λp=> .tup [p.1,p.2])));rw[a,b,<-cD,List.zip_map,Jg,dX];exact q
 .have c:¬1<l.length:=by have:=SC c;lia
  rw[tz c] at q;exact#[by show 0<=sizeLine;decide,q]
noncomputable def m9(a:List (List (Nat×Nat))):List (Int×Int):=a.flatten.map zz
noncomputable def h7(n:Nat):List (List (Nat×Nat))->List FV
 | []=> []
 |r::a=>r.map (λ_=>FV.int (n:Int))++h7 (n+1) a
def RS(w:W)(a:List (List (Nat×Nat))):Prop:=(w.length=1/\a= [[]])\/(2<=w.length/\ck w a/\ur w=i3 a)
noncomputable def ua:Nat->List D->List D
 |_,[]=> []
 |n,x::l=> .tup [.int (n:Int),x]::ua (n+1) l
theorem An:∀(l:List D)(n:Nat),ua n l=l.mapIdx λi x=> .tup [.int ((n+i:Nat):Int),x]
 | [],n=>rfl
 |x::l,n=>by
  rw[List.mapIdx_cons];show _::ua (n+1) l=_;rw[An l (n+1)]
  congr 1
  congr 1
  funext i x
  rw[show n+1+i=n+(i+1) by lia]
def Ex(l:List D):eD l=ua 0 l:=by
 rw[An];unfold eD
 congr 1
 funext i x
 rw[iC]
theorem FE:∀(c:List (Nat×Nat))(o:Option D)(b:List (Nat×Nat))(d:List FV),(b++c).Nodup->(b++c).length<=300->(∀o,N [some (aA n),x,o] ((b++c).map zz) (d++c.map λ_=>FV.int (n:Int)))->
  lcWK (jB 2) mL (wU 2) (wU 0) (c.map pairD) [some (aA n),x,o] (b.map zz) d N
 | [],o,b,d,_,_,h=>by
  have:=h o
  rw[eJ,uV,eJ] at this;exact this
 |s::c,o,b,d,f,g,h=>by
  have e:b++s::c=(b++ [s])++c:=by simp
  have i:s∉b:=λm=>by
   rw[jx] at f;exact f.2.2 s m s (dB ..) rfl
  simp only[dq,lcWK,jB,mL, ↓reduceIte];refine#[_,rfl,_,rfl,zz s,FV.int (n:Int),rfl,rfl,(λz=>i (pW.mp z)),by rw[aI];rw[dh] at g;lia,?_]
  have:=FE c (some (pairD s)) (b++ [s]) (d++ [FV.int (n:Int)]) (e▸f) (e▸g) λo=>by
   have:=h o
   rw[e,dq,show ∀(a:FV)(l:List FV),d++a::l=d++ [a]++l from λa l=>by simp] at this;exact this
  rw[cD] at this;exact this
theorem xV{N:List (Int×Int)->List FV->Prop}:∀(a:List (List Nat))(n:Nat)(e f d:Option D)(b:List (Nat×Nat))(c:List FV),(∀r∈a,r.length<=300)->(b++(a.map yr).flatten).Nodup->(b++(a.map yr).flatten).length<=300->
  N ((b++(a.map yr).flatten).map zz) (c++h7 n (a.map yr))->
  lcWK2 (Gz 2 (v9 (jB 0) (v9 (jB 1) Gy))) mL (Nl (qD yx (Gv (wU 1) uY))) (jB 2) mL (wU 2) (wU 0) (ua n (a.map aF)) [e,f,d] (b.map zz) c N
 | [],n,e,f,d,b,c,_,_,_,h=>by
  rw[uV,List.flatten_nil,eJ] at h;unfold h7 at h;rw[eJ] at h;exact h
 |r::a,n,e,f,d,b,c,j,g,i,h=>by
  rw[dq,y9,<-kQ] at g i h;simp only[dq,ua,lcWK2,mL, ↓reduceIte];exists rfl,rfl;exists _,rfl,r,rfl,j r (dB ..);refine FE (yr r) d b c (jx.mp g).1 (by rw[dh] at i;lia) λo=>?_
  refine xV a (n+1) _ _ _ (b++yr r) _ (λx k=>j x (eW _ k)) g i ?_;unfold h7 at h;rw[<-kQ] at h;exact h
def Ir{w:W}(h:gf w d r):sV (r.map (·.1))=r:=by
 refine y8 λi=>?_;unfold sV;rw[dJ,aI]
 by_cases a:i<r.length
 .have b:r.getD i (0,0)=r[i]:=by rw[fq,dH a];rfl
  rw[y4 a,dH a,yU,Ax,Ax,PZ h a,b];rfl
 .rw[il (by rw[oY];lia),il ()];rfl
def P0{w:W}(g:Good w)(h:gf w d r)(b:aV w d):1<r.length:=by
 obtain⟨k,c,a,_,rfl⟩:=h;rw[iM];apply FS;intro z;obtain rfl:k=1:=()
 have a:vS w d=d:=a;exact rG g b (On Prod.fst a).symm
def uK{w:W}(g:Good w)(R:ck w a):(i3 a).map yr=a:=by
 unfold i3;rw[dX];refine(ac4 (g:=id) λr c=>?_).trans (List.map_id _);obtain⟨d,b,e,_⟩:=R.rnd r c;show yr (r.map (·.1))=r;unfold yr;rw[mo (by rw[aI];exact P0 g b e),Ir b]
def Bc{w:W}(g:Good w)(h14:w.length<=14)(R:ck w a):a.flatten.Nodup/\a.flatten.length<=196/\∀r∈a,r.length<=196:=by
 have c:=fI g;have d:w.length*w.length<=14*14:=tL h14 h14;have e:=R.perm.length_eq;refine#[R.perm.nodup_iff.mpr (fT g),(),λr b=>?_]
 have:=(Ji b).length_le
 lia
def Iy:c8:=λb P=>∃(w:W),b= [.ik w]/\Good w/\1<=w.length/\w.length<=14/\∀a,RS w a->P (.x (.eG (m9 a) (h7 0 a)))
def lJ:FnOk P w Z.K mg base bQ 4 T.d_land_numbers.f T.d_land_numbers.fd ["web"] (aY Z Iy):=by
 have z:=lR.nd;refine bF T.d_land_numbers.F lR [0] ∅ (λl R h=>by obtain⟨_,rfl,_⟩:=h;rfl) (λC A outer s H E l R i h=>?_)
 have m:=i.units;refine#[_,(aw (ba (QZ (NC:= ["number","land","side"]) (src:= [none,none,none]) m rfl (tX (aq gv)) trivial (fg rfl T.B.enumerate (ae (aU T.d_lands (LP T) i (ae (U 0) au)) au)) (λ_ _ _=>(pq 2 rfl (dP (bK 0 (show(["number","land","side"]:List Str).Nodup from by decide+kernel)) (dP (bK 1 (show(["number","land","side"]:List Str).Nodup from by decide+kernel)) lh)))) (λ_ _ _=>fh) (λ_ _ _=>(bL (aU T.d_sides_of (CP T) i (ae (U 1) au)))) (λ_ _ _=>(bK 2 (show(["number","land","side"]:List Str).Nodup from by decide+kernel))) (λ_ _ _=>fh) (λ_ _ _=>(U 2)) (λ_ _ _=>(U 0))))),?_]
 obtain⟨n,rfl,g,o,h14,q⟩:=h;refine#[_,rfl,n,rfl,g,o,h14,λp=>?_,λt d R e=>?_]
 .have:=xV (N:=λu v=>R (.x (.eG u v))) [[0]] 0 none none none [] [] (λr i=>by rw[fZ] at i;subst i;decide) ∅ ∅ (q [[]] (.inl #[p,rfl]))
  rw[<-Ex] at this;exact this
 .obtain⟨a,b,c⟩:=Bc g h14 R
  have j:=uK g R;rw[e];refine(?_:lcWK2 _ _ _ _ _ _ _ (eD ((i3 d).map aF)) _ _ _ _);rw[Ex];refine xV (i3 d) 0 none none none [] [] (λr i=>?_) (by rw[j];exact a) (by rw[j];show d.flatten.length<=300;lia) (by rw[j];exact q d (.inr #[t,R,e]))
  obtain⟨k,y,rfl⟩:=c7.mp i
  have:=c k y
  show(k.map (·.1)).length<=300;rw[aI];lia
end wB
namespace rB
open PySem L2
noncomputable def top(i:Nat):Stmt:=PySem.Challenge.pw_mapdye_k71_ties_dyes.main.body.getD i (.Pass #[0,0,0,0])
abbrev ym:Stmt:=top 39
abbrev wg:Stmt:=top 40
abbrev yn:Stmt:=top 41
abbrev uN:Stmt:=top 42
def Tc(K:ad):Sp:=λd H Q _=>∃(a:Addr)(b:List Int)(k:Int),d= [.ref a, .int k]/\aG K H a (b.map V.int)/\b.length<=63/\0<=k/\k<=100/\∀(v:Int)(c:Hp),aB H c->Q (.int v) c
section
variable {P:Program} {w:World} {K:ad} {mg:Str->Option Value} {base:Heap}
def S9:aE ["_law_script","_law_k"] ["_law_script","_law_k"] (aq ym):=by bv_omega
def x9(D:bR K mg "_law_cell" ym ["_law_script","_law_k"]):FnOk P w K mg base bQ 1 D.f D.fd ["_law_script","_law_k"] (Tc K):=by
 refine D.F.ok S9 (λn H Q E h=>?_) (λC A outer s H n Q E G h=>?_)
 .obtain⟨a,b,k,rfl,_⟩:=h
  rfl
 obtain⟨a,b,k,rfl,o,I,J,L,q⟩:=h;refine#[_,bB (gr (cC bG (cM CQ (pO sW (pv 0) (oq (pv 1)) (oq (cM hU (pv 1) aS))) (fC (ah aS az))) aS (λ_ _=>rfl))),?_];refine#[_,rfl,_,rfl,k,rfl,_,rfl,_,_,rfl,rfl,_,rfl,a,_,rfl,o,λp t=>?_];refine#[by show 1<=sizeLine;decide,λg l=>?_]
 have ne:p≠g:=ao (af (H:=H) (a:=p)) l;have c:=lX (b.map V.int) (some k) (some (k+1));rw[aI] at c;refine#[p,g,_,_,rfl,rfl,by rw[ag ne];exact af,af,small (by show _+1<=1000;lia),λm i=>?_]
 have u:aB H (upd (upd (upd H p (.lst (ix (b.map V.int) (some k) (some (k+1))))) g (.lst [.int 0])) m (.lst (ix (b.map V.int) (some k) (some (k+1))++ [.int 0]))):=
  (ay t _).trans ((ay l _).trans (ay i _))
 have d:∃v:Int,f7 (ix (b.map V.int) (some k) (some (k+1))++ [V.int 0]) 0\(.int v):=by
  have:∀x∈ix (b.map V.int) (some k) (some (k+1))++ [V.int 0],∃v,x=V.int v:=λx y=>by
   rcases c5.mp y with z|z
   .unfold ix at z
    obtain⟨v,_,rfl⟩:=c7.mp (List.mem_of_mem_drop (acY z));exact#[v,rfl]
   .exact#[0,by simpa using z]
  cases e:ix (b.map V.int) (some k) (some (k+1))++ [V.int 0] with
  |nil=>simp at e
  |cons x r=>
   obtain⟨v,rfl⟩:=this x (by rw[e];exact dB)
   exact#[v,cK (j:=0) rfl]
 obtain⟨v,B⟩:=d;exact#[m,_,0, .int v,rfl,rfl,aG.of af,B,q v _ u]
end
def boot_max:bootBuiltins "max"\(.builtin "max"):=by decide+kernel
def boot_min:bootBuiltins "min"\(.builtin "min"):=by decide+kernel
def Qg(K:ad):Sp:=λd H Q _=>∃(a:Addr)(b:List Int)(k:Int),d= [.ref a, .int k]/\aG K H a (b.map V.int)/\b.length<=63/\∀(v:Int)(c:Hp),aB H c->Q (.int v) c
structure zf (mg:Str->Option Value):Prop where
 len:mg "len"=none
 range:mg "range"=none
 max:mg "max"=none
 min:mg "min"=none
 enumerate:mg "enumerate"=none
 zip:mg "zip"=none
 sorted:mg "sorted"=none
 all:mg "all"=none
 isinstance:mg "isinstance"=none
 int:mg "int"=none
 bool:mg "bool"=none
 list:mg "list"=none
 tuple:mg "tuple"=none
section
variable {P:Program} {w:World} {K:ad} {mg:Str->Option Value} {base:Heap}
def Fz:aE ["_law_script","_law_turn","_law_number","_law_k","_law_part"] ["_law_script","_law_turn"] (aq wg):=by bv_omega
def LQ(B:zf mg)(C:bR K mg "_law_cell" ym ["_law_script","_law_k"])(D:bR K mg "_law_mixed" wg ["_law_script","_law_turn"]):FnOk P w K mg base bQ 2 D.f D.fd ["_law_script","_law_turn"] (Qg K):=by
 refine D.F.ok Fz (λx H Q E h=>?_) (λL A outer s H x Q E y h=>?_)
 .obtain⟨a,c,k,rfl,_⟩:=h
  rfl
 obtain⟨a,c,k,rfl,t,z,q⟩:=h;have e:=Fz.nd
 refine#[_,aC (bP (i:=2) e rfl (Or.inl rfl) aS)
  (aC (iR FM rfl (j8 rfl B.range (ah (cR (Gp rfl) rfl B.max boot_max (ah aS (ah (cR (Gq rfl) rfl B.min boot_min (ah aS (ah (cR cE rfl B.len abO (ah (pv 0) az)) az))) az))) az)) (cn (i:=3) e rfl (Or.inl rfl))
   (aC (bP (i:=4) e rfl (Or.inl rfl) (cM pK (cM pL (cM hU (cM hU (cM hU (cM pK (bb (x9 C) y rfl C.m C.F.kp C.b .nil bT (ah (pv 0) (ah (pv 3) az))) aS) (cM pL aS (pv 3))) (cM pL aS (pv 1))) aS) aS) aS))
    (bB (bP (i:=2) e rfl (Or.inl rfl) (cM hU (cM pL (pv 2) aS) (cM pK (cM pL (pv 4) (pv 4)) aS))))))
  (bB (gr (pv 2)))),?_]
 exists _,rfl,a,_,rfl, .inl t,_,_,rfl,_,_,rfl,_,rfl;have G:(c.map V.int).length=c.length:=aI _;rw[G]
 have I:(if (if (c.length:Int)<63 then(c.length:Int) else 63)>12 then(if (c.length:Int)<63 then(c.length:Int) else 63) else 12)<=63/\0<=(if (if (c.length:Int)<63 then(c.length:Int) else 63)>12 then(if (c.length:Int)<63 then(c.length:Int) else 63) else(12:Int)):=by
  repeat' split
  all_goals lia
 generalize (if (if (c.length:Int)<63 then(c.length:Int) else 63)>12 then(if (c.length:Int)<63 then(c.length:Int) else 63) else(12:Int))=n at I;refine#[(),(),l6 (λi j l=>∃d o p,j= [some (.ref a),some (.int k),some (.int d),o,p]/\aB H l) #[_,_,_,rfl,aB.refl _] (λi j l M r=>?_) (λj l r=>?_)]
 .obtain⟨d,o,p,rfl,g⟩:=r
  have N:(0:Int)+(i:Int)=(i:Int):=()
  refine#[_,rfl,_,rfl,a,c,_,rfl,g.seq t,z,(),(),λv O J=>?_]
  refine#[_,_,rfl,rfl,(by show(0:Int)<2147483647;decide),?_]
  refine#[_,rfl,_,_,rfl,rfl, .inl #[∅,∅],_,_,rfl,rfl,?_]
  refine#[_,rfl,_,_,rfl,rfl, .inl #[∅,∅],_,_,rfl,rfl,_,_,rfl,rfl,?_]
  refine#[_,_,rfl,rfl, .inr #[∅,∅],_,_,rfl,rfl,(by show(0:Int)<2147483647;decide),?_]
  generalize u:((v%2147483647+40692*(0+(i:Int))+7*k+1)*48271)%2147483647=part;have R:0<=part:=by rw[<-u];exact adT _ ∅
  have S:part<2147483647:=by rw[<-u];exact adi _ ∅
  refine#[_,rfl,_,_,rfl,rfl, .inr #[∅,∅],?_]
  refine#[_,rfl,_,rfl,_,_,rfl,rfl, .inl #[(),()],_,_,rfl,rfl,(by show(0:Int)<2147483629;decide),_,_,rfl,rfl,?_]
  exact#[_,_,_,rfl,g.trans J]
 .obtain⟨d,o,p,rfl,g⟩:=r
  exact#[_,rfl,q _ _ g]
def Mt(K:ad):Sp:=λe H Q _=>∃(a:Addr)(d:List Int)(k:Int),e= [.ref a, .int k]/\aG K H a (d.map V.int)/\d.length<=63/\0<=k/\k<=100/\
 ∀(r:Addr)(b:List Int)(c:Hp),aB H c->H r=none->c r\(.lst (b.map V.int))->b≠ []->b.length<=2->Q (.ref r) c
def Mo:aE ["_law_script","_law_at"] ["_law_script","_law_at"] (aq yn):=by bv_omega
def ya(B:zf mg)(C:bR K mg "_law_cell" ym ["_law_script","_law_k"])(M:bR K mg "_law_mixed" wg ["_law_script","_law_turn"])(D:bR K mg "_law_digits" yn ["_law_script","_law_at"]):FnOk P w K mg base bQ 3 D.f D.fd ["_law_script","_law_at"] (Mt K):=by
 refine D.F.ok Mo (λz H Q E h=>?_) (λN A outer s H z Q E j h=>?_)
 .obtain⟨a,c,k,rfl,_⟩:=h
  rfl
 rfl';obtain⟨a,c,k,rfl,l,n,t,u,q⟩:=h;have x:=(x9 (P:=P) (w:=w) (base:=base) C).mono (show 1<=2 by decide)
 have y:=LQ (P:=P) (w:=w) (base:=base) B C M;ac_rfl
 refine#[_,aC (uE (hZ HW (bb x j rfl C.m C.F.kp C.b .nil bT (ah (pv 0) (ah (pv 1) az))) (cM Sv aS aS) (bD _))
   (bB (gr (fC (ah (bb y j rfl M.m M.F.kp M.b .nil bT (ah (pv 0) (ah (pv 1) az))) az)))) lN)
  (bB (gr (fC (ah (bb x j rfl C.m C.F.kp C.b .nil bT (ah (pv 0) (ah (pv 1) az))) (ah (bb y j rfl M.m M.F.kp M.b .nil bT (ah (pv 0) (ah (pv 1) az))) az))))),?_]
 refine#[_,rfl,_,rfl,a,c,k,rfl,l,n,t,u,λv R d=>?_];refine#[_,_,rfl,rfl,#[∅,∅,∅],_,_,rfl,rfl,_,rfl,?_]
 refine vf (λ_=>?_) (λ_=>?_)
 .refine#[_,rfl,_,rfl,a,c,k,rfl,d.seq l,n,λp I o=>?_]
  refine#[by show 1<=sizeLine;decide,λr e=>?_]
  have g:=d.trans o;exact q r [p] _ (g.trans (ay e _)) (g.free e) af (by simp) (by simp)
 .refine#[_,rfl,_,rfl,a,c,k,rfl,d.seq l,n,t,u,λp I o=>?_]
  refine#[_,rfl,_,rfl,a,c,k,rfl,(d.trans o).seq l,n,λJ S L=>?_];refine#[by show 2<=sizeLine;decide,λr e=>?_]
  have i:=(d.trans o).trans L;exact q r [p,J] _ (i.trans (ay e _)) (i.free e) af (by simp) (by simp)
def Dc:Sp:=λc H Q _=>∃(l:Addr)(a:List Int)(m:Int),c= [.ref l, .int m]/\H l\(.lst (a.map V.int))/\a≠ []/\a.length<=1000/\0<m/\m<1073741824/\
 ∀(d:Int)(b:List Int),0<=d->d<m->b≠ []->b.length<=a.length->Q (.int d) (upd H l (.lst (b.map V.int)))
def J4:aE ["_law_left","_law_many","_law_digit"] ["_law_left","_law_many"] (aq uN):=by bv_omega
def lK(B:zf mg)(D:bR K mg "_law_take" uN ["_law_left","_law_many"]):FnOk P w K mg base bQ 1 D.f D.fd ["_law_left","_law_many"] Dc:=by
 refine D.F.ok J4 (λy H Q E h=>?_) (λR A outer s H y Q E S h=>?_)
 .obtain⟨a,g,k,rfl,_⟩:=h
  rfl
 rfl';obtain⟨l,g,m,rfl,d,G,X,o,I,q⟩:=h;have J:=J4.nd;ac_rfl
 refine#[_,aC (uE (PW.pt (JT (hZ HW (cC bG (pv 0) aS (λ_ _=>rfl)) aS (bD _)) (Fs (hZ HU (cR cE rfl B.len abO (ah (pv 0) az)) aS (bD _)))))
   (bB (cY (gF GM PySem.F.slot_list_pop PySem.F.type_list_pop LI (pv 0) (ah aS az)))) lN)
  (aC (bP (i:=2) J rfl (Or.inl rfl) (cM pK (cC bG (pv 0) aS (λ_ _=>rfl)) (pv 1)))
  (aC (pR (cM Pm (cC bG (pv 0) aS (λ_ _=>rfl)) (pv 1)) (CY (pv 0) aS set_list))
  (bB (gr (pv 2))))),?_]
 have fin:∀(b:List Int),b≠ []->b.length<=g.length->∀e,e=H\/e=upd H l (.lst (b.map V.int))->e l\(.lst (b.map V.int))->
   (Qo (J9 (Dl (rI (λ_ j=>0<j) λi j=>V.int (i%j)) (Dl (JW K) (vt 0) (tC (.int 0))) (vt 1)) (w9 2)) (Qo (J9 (Dl (rI TX λi j=>V.int (i / j)) (Dl (JW K) (vt 0) (tC (.int 0))) (vt 1)) (Ul (vt 0) (tC (.int 0)) PV)) (U2 (vt 2))))
    {nx:=λ_ L=>Q .aL L,rt:=Q} (start ["_law_left","_law_many","_law_digit"] [.ref l, .int m]) e:=by
  intro b p M e t u
  obtain⟨x,r,rfl⟩:∃x r,b=x::r:=by
   cases b with
   |nil=>exact absurd rfl p
   |cons x r=>exact#[x,r,rfl]
  exists _,rfl,l,_,0, .int x,rfl,rfl,aG.of u,cK (j:=0) rfl,_,rfl,_,_,rfl,rfl,o;exists _,rfl,l,_,0, .int x,rfl,rfl,aG.of u,cK (j:=0) rfl,_,rfl,_,_,rfl,rfl,#[o,I];refine#[_,rfl,l,_,0,0,rfl,rfl,u,?_,?_]
  .show m8 (r.length+1|>λn=>((x::r).map V.int).length) 0\0
   unfold m8;rw[mo ∅,mo (by simp)]
   rfl
  .refine#[_,rfl,?_]
   have N:upd e l (.lst (((x::r).map V.int).set 0 (.int (x / m))))=upd H l (.lst (((x / m)::r).map V.int)):=by
    rcases t with z|z
    .rw[z];rfl
    .rw[z,tq];rfl
   rw[N];exact q (x%m) ((x / m)::r) (adT _ ()) (adi _ o) (by simp) (~~~M)
 obtain⟨x,r,rfl⟩:∃x r,g=x::r:=by
  cases g with
  |nil=>exact absurd rfl G
  |cons x r=>exact#[x,r,rfl]
 exists _,rfl,l,_,0, .int x,rfl,rfl,aG.of d,cK (j:=0) rfl,_,_,rfl,rfl,_,rfl;refine vf (λ_=>?_) (λ_=>?_)
 .refine#[_,rfl,l,_,rfl, .inl (aG.of d),_,_,rfl,rfl,_,rfl,?_]
  refine vf (λc=>?_) (λ_=>?_)
  .have O:=M2 c
   have v:r≠ []:=by
    intro z;subst z;simp at O
   refine#[_,rfl, .inl #[rfl,_,aG.of d],l,_,0,0, .int x,rfl,rfl,d,∅,∅,?_,rfl,?_]
   .simp[seqIndex?]
   .exact fin r v (by simp) _ (.inr rfl) af
  .exact fin (x::r) (by simp) (bq _) _ (.inl rfl) d
 .exact dS (fin (x::r) (by simp) (bq _) _ (.inl rfl) d)
end
open Wb
abbrev Ip:Stmt:=top 43
noncomputable def bg(r:List Nat):List V:=r.map λ(n:Nat)=>V.int (n:Int)
def Off(S:List Addr)(H a:Hp):Prop:=∀b o,b∉S->H b\o->a b\o
def Off.trans{S:List Addr}{H d e:Hp}(a:Off S H d)(b:Off S d e):Off S H e:=λc o f h=>b c o f (a c o f h)
def Off.of_same{S:List Addr}{H a:Hp}(h:aB H a):Off S H a:=λb o _ e=>h b o e
def Off.put{S:List Addr}(h:a∈S\/H a=none):Off S H (upd H a o):=λb u c e=>by
 rw[ag (λz=>?_)]
 .exact e
 .rcases h with h|h
  .rw[z] at c;exact c h
  .rw[z,h] at e;cases e
structure aH (H:Hp) (T:Addr) (as:List Addr) (w:W):Prop where
 top:H T\(.lst (as.map V.ref))
 nod:as.Nodup
 nT:T∉as
 len:as.length=w.length
 row:∀(i:Nat) a,as[i]?\a->H a\(.lst (bg (Wb.row w i)))
def aH.keep{T:Addr}(R:aH H T c w)(h:∀b,b=T\/b∈c->d b=H b):aH d T c w:=
 #[by rw[h T (.inl rfl)];exact R.top,R.nod,R.nT,R.len,λi a e=>by rw[h a (.inr (cV e))];exact R.row i a e]
def aH.off{S:List Addr}(R:aH H T b w)(h:Off S H c)(d:T∉S)(f:∀a∈b,a∉S):aH c T b w:=
 #[h _ _ d R.top,R.nod,R.nT,R.len,λi a e=>h _ _ (f a (cV e)) (R.row i a e)]
def aH.at{H:Hp}{T:Addr}{b:List Addr}{w:W}(R:aH H T b w)(c:p<w.length):∃a,b[p]?\a/\H a\(.lst (bg (Wb.row w p))):=by
 have:p<b.length:=by rw[R.len];exact c
 exact#[_,dH this,R.row p _ (dH this)]
def get_inj{b:Type}{l:List b}(h:l.Nodup){i j:Nat}{a:b}(c:l[i]?\a)(d:l[j]?\a):i=j:=by
 obtain⟨g,e⟩:=cw.mp c;obtain⟨k,f⟩:=cw.mp d;exact(adA h).mp (e.trans f.symm)
def aH.put{d:List Addr}(R:aH H T d w)(f:d[p]?\a)(h:∀b,b=T\/b∈d->b≠a->g b=H b)(e:g a\(.lst (bg r))):aH g T d (w.set p r):=by
 have k:p<w.length:=by rw[<-R.len];exact(cw.mp f).1
 have l:=cV f;refine#[by rw[h T (.inl rfl) (λz=>R.nT (by rw[z];exact l))];exact R.top,R.nod,R.nT,by rw[R.len,gP],λi b c=>?_]
 rw[i8 k]
 by_cases j:p=i
 .subst j
  rw[f] at c;cases c;rw[mo rfl];exact e
 .rw[tz j,h b (.inr (cV c)) (λz=>j (get_inj R.nod f (z▸c)))]
  exact R.row i b c
def aH.snoc(R:aH H T c w){r:List Nat}(j:a∉c)(k:a≠T)(h:∀b,b∈c->f b=H b)(l:f T\(.lst ((c++ [a]).map V.ref)))(e:f a\(.lst (bg r))):aH f T (c++ [a]) (w++ [r]):=by
 refine#[l,?_,λz=>?_,by simp[R.len],λi b d=>?_]
 .rw[jx]
  exact#[R.nod,by simp,λx g y m z=>by
   have:y=a:=by simpa using m
   rw[this] at z;rw[z] at g;exact j g]
 .rcases c5.mp z with z|z
  .exact R.nT z
  .have n:T=a:=by simpa using z
   exact k n.symm
 .rw[Ba]
  by_cases o:i<c.length
  .rw[fY o] at d
   rw[tz (by rw[<-R.len];lia),h b (cV d)]
   exact R.row i b d
  .have p:i=c.length:=by
    have:=(cw.mp d).1
    simp at this;lia
   subst p;rw[iz (bq _)] at d;simp at d;rw[mo R.len,<-d];exact e
def bZ(r:List Nat):(bg r).length=r.length:=aI _
def pT(r:List Nat)(i n:Nat):bg (ins r i n)=ins (bg r) i (.int (n:Int)):=ins_map _ _ _ _
def Tn:Sp:=λf H Q _=>∃(l:Addr)(c:List Int)(m:Nat),f= [.int (m:Int), .ref l]/\H l\(.lst (c.map V.int))/\c≠ []/\c.length<=2/\1<=m/\m<=14/\
 ∀(T:Addr)(e:List Addr)(w:W)(d:List Int)(b:Hp),Off [l] H b->H T=none->(∀a∈e,H a=none)->aH b T e w->Good w->w.length=m->b l\(.lst (d.map V.int))->d≠ []->d.length<=2->iE w+2=2*m->Q (.ref T) b
section
variable {P:Program} {w:World} {K:ad} {mg:Str->Option Value} {base:Heap}
def J5:aE ["_law_many","_law_left","_law_turns","_law_new","_law_p"] ["_law_many","_law_left"] (aq Ip):=by bv_omega
def Pg(B:zf mg)(x:bR K mg "_law_take" uN ["_law_left","_law_many"])(D:bR K mg "_law_tree" Ip ["_law_many","_law_left"]):FnOk P w K mg base bQ 2 D.f D.fd ["_law_many","_law_left"] Tn:=by
 refine D.F.ok J5 (λvs H Q E h=>?_) (λaT A outer s H vs Q E hr h=>?_)
 .obtain⟨a,ns,k,rfl,_⟩:=h
  rfl
 rfl';obtain⟨l,ns,m,rfl,N,fb,hz,h1,h14,q⟩:=h;have S:=J5.nd;have gT:=lK (P:=P) (w:=w) (base:=base) B x;ac_rfl
 refine#[_,aC (bP (i:=2) S rfl (Or.inl rfl) (fC (ah (fC az) az)))
  (aC (iR FM rfl (H0 rfl B.range (ah aS (ah (pv 0) az))) (cn (i:=3) S rfl (Or.inl rfl))
   (aC (bP (i:=4) S rfl (Or.inl rfl) (bb gT hr rfl x.m x.F.kp x.b .nil bT (ah (pv 1) (ah (pv 3) az))))
   (aC (cY (gF GM abZ ab0 mv (cC bG (pv 2) (pv 4) (λ_ _=>rfl))
     (ah (bb gT hr rfl x.m x.F.kp x.b .nil bT (ah (pv 1) (ah (cM hU (cR cE rfl B.len abO (ah (cC bG (pv 2) (pv 4) (λ_ _=>rfl)) az)) aS) az))) (ah (pv 3) az))))
   (bB (cY (gF GM abX abY iJ (pv 2) (ah (fC (ah (pv 4) az)) az)))))))
  (bB (gr (pv 2)))),?_]
 refine#[by show 0<=sizeLine;decide,λI X=>#[by show 1<=sizeLine;decide,λT J=>?_]]
 have Y:T≠I:=λz=>by rw[z,af] at J;cases J
 have Z:H T=none:=by rw[ag Y] at J;exact J
 have O:l≠T:=ao N Z;have nl0:l≠I:=ao N X;refine#[_,rfl,1,(m:Int),rfl,#[∅,∅,(),()],?_]
 refine l6 (λi σ u=>∃n w y o3 o4,σ= [some (.int (m:Int)),some (.ref l),some (.ref T),o3,o4]/\Off [l] H u/\(∀a∈n,H a=none)/\aH u T n w/\Good w/\w.length=i+1/\u l\(.lst (y.map V.int))/\y≠ []/\y.length<=2/\iE w=2*i) ?_ (λi σ u hi hP=>?_) (λσ u hP=>?_)
 .refine#[[I],[[]],ns,_,_,rfl,(Off.put (.inr X)).trans (Off.put (.inr J)),λa v=>?_,#[af,by simp,by simpa using Y,rfl,λi a e=>?_],K4,rfl,?_,fb,hz,rfl]
  .have:a=I:=by simpa using v
   rw[this];exact X
  .cases i with
   |zero=>
    have:a=I:=by simpa using e.symm
    rw[this,ag (Ne.symm Y),af];rfl
   |succ i=>simp at e
  .rw[ag O,ag nl0];exact N
 .obtain⟨n,t,y,o3,o4,rfl,off,L,R,g,M,zD,Ou,Hs,hdg⟩:=hP
  have lC:l∉n:=λz=>by have:=L l z;rw[N] at this;cases this
  refine#[_,rfl,_,rfl,l,y,_,rfl,zD,Ou,(),(),(),λd nI d0 d1 qe Lj=>?_]
  have R1:aH (upd u l (.lst (nI.map V.int))) T n t:=R.keep λb c=>by
   refine ag λz=>?_
   rcases c with c|c
   .exact O (z.symm.trans c)
   .rw[z] at c;exact lC c
  obtain⟨p,rfl⟩:=tI d0;have hp:p<t.length:=()
  obtain⟨a,v,i5⟩:=R1.at hp;have Sk:l≠a:=λz=>lC (by rw[z];exact cV v)
  have tW:f7 (n.map V.ref) ((p:Nat):Int)\(.ref a):=cK (by rw[dJ,v];rfl)
  exists _,rfl,_,rfl,T,_,_,_,rfl,rfl,aG.of R1.top,tW, .inl #[rfl,_,aG.of i5];exists _,rfl,_,rfl,_,rfl,T,_,_,_,rfl,rfl,aG.of R1.top,tW,a,_,rfl, .inl (aG.of i5),_,_,rfl,rfl;have rl:=fk g p;rw[bZ];refine#[l,nI,_,rfl,af,qe,(),(),(),λd2 l0 e0 e1 u7 OJ=>?_]
  rw[tq]
  have R2:aH (upd u l (.lst (l0.map V.int))) T n t:=R.keep λb c=>by
   refine ag λz=>?_
   rcases c with c|c
   .exact O (z.symm.trans c)
   .rw[z] at c;exact lC c
  have Ho:=R2.row p a v;refine#[_,rfl,a,_,d2,_,rfl,rfl,Ho,e0,by rw[bZ];lia,oX (by rw[bZ];exact rl) (aZ ()),?_]
  obtain⟨j,rfl⟩:=tI e0;have ew:(1:Int)+(i:Int)=((t.length:Nat):Int):=()
  rw[ew,lS,<-pT];have C:aH (upd (upd u l (.lst (l0.map V.int))) a (.lst (bg (ins (row t p) j t.length)))) T n (t.set p (ins (row t p) j t.length)):=R2.put v (λb _ c=>ag c) af;refine#[_,rfl, .inl #[rfl,_,aG.of C.top],_,rfl,by show 1<=sizeLine;decide,λr G=>?_]
  have Xm:r≠T:=Ne.symm (ao C.top G)
  have O7:r∉n:=λz=>by
   obtain⟨k,hk⟩:=iA z
   have:=C.row k r hk
   rw[G] at this;cases this
  have Xn:r≠l:=λz=>by
   rw[z,ag Sk,af] at G;cases G
  refine#[T,_, .ref r,rfl,rfl,by rw[ag (Ne.symm Xm)];exact C.top,oX (by rw[aI,C.len,gP];exact bq _) (aZ ()),?_]
  have Z7:H r=none:=by
   cases e:H r with
   |none=>rfl
   |some o=>
    have:=off r o (~~~Xn) e
    rw[ag (λz=>O7 (by rw[z];exact cV v)),ag Xn] at G
    rw[G] at this;cases this
  have Wj:H a=none:=L a (cV v);refine#[n++ [r],leaf t p j,l0,_,_,rfl,?_,λb c=>?_,?_,GR g hp,by rw[uu];lia,?_,u7,(),by rw[KJ hp];lia]
  .intro b o c e
   have hbl:b≠l:=by simpa using c
   rw[ag (λz=>by rw[z,Z] at e;cases e),ag (λz=>by rw[z,Z7] at e;cases e),ag (λz=>by rw[z,Wj] at e;cases e),ag hbl]
   exact off b o c e
  .rcases c5.mp c with z|z
   .exact L b z
   .have:b=r:=by simpa using z
    rw[this];exact Z7
  .refine C.snoc (r:= [p]) O7 Xm (λb c=>?_) ?_ ?_
   .rw[ag (λz=>C.nT (by rw[<-z];exact c)),ag (λz=>O7 (by rw[<-z];exact c))]
   .rw[af,cD];rfl
   .rw[ag Xm,af];rfl
  .rw[ag O,ag (Ne.symm Xn),ag Sk,af]
 .obtain⟨n,t,y,o3,o4,rfl,off,L,R,g,M,zD,Ou,Hs,hdg⟩:=hP
  exact#[_,rfl,q T n t y u off Z L R g () zD Ou Hs ()]
end
abbrev yo:Stmt:=top 44
abbrev wj:Stmt:=top 45
def iK{r:List Nat}{i n:Nat}(h:r[i]?\n):(bg r)[i]?\(.int (n:Int)):=by unfold bg;rw[dJ,h];rfl
def mD(r:List Nat):(bg r).all gz=true:=by
 rw[uT];intro x a;obtain⟨n,_,rfl⟩:=c7.mp a;rfl
def uJ{r:List Nat}{i:Nat}{z:V}(h:(bg r)[i]?\z):∃n,r[i]?\n/\z= .int (n:Int):=by
 unfold bg at h;rw[dJ] at h;cases e:r[i]? with
 |none=>rw[e] at h;cases h
 |some n=>rw[e] at h;cases h;exact#[n,rfl,rfl]
def r6{r:List Nat}{p:Nat}(h:p∈r):r[r.idxOf p]?\p:=by
 have lt:=yX.mpr h;rw[dH lt,yT lt]
def RJ{r:List Nat}(a:r.Nodup){p m n:Nat}(h:p∈r)(b:m<r.idxOf p)(e:r[m]?\n):n≠p:=λz=>by
 rw[z] at e
 have:=get_inj a e (r6 h)
 lia
def pB(p:Nat):qF (.int (p:Int)) (.int (p:Int))=true:=by simp[qF]
def qV{r:List Nat}(a:r.Nodup){p:Nat}(h:p∈r)(m:Nat)(z:V)(b:m<r.idxOf p)(c:(bg r)[m]?\z):qF z (.int (p:Int))=false:=by
 obtain⟨n,d,rfl⟩:=uJ c
 have:=RJ a h b d
 simp[qF];lia
def C9:Sp:=λb H Q _=>∃(T a:Addr)(c:List Addr)(w:W)(d:Nat×Nat),b= [.ref T, .ref a]/\aH H T c w/\Good w/\w.length<=14/\H a\(.tup (hV d))/\aV w d/\
 ∀t,H t=none->Q (.ref t) (upd H t (.tup (hV (vS w d))))
section
variable {P:Program} {w:World} {K:ad} {mg:Str->Option Value} {base:Heap}
def J3:aE ["_law_turns","_law_side","_law_p","_law_q"] ["_law_turns","_law_side"] (aq yo):=by bv_omega
def Pf(B:zf mg)(D:bR K mg "_law_next" yo ["_law_turns","_law_side"]):FnOk P w K mg base bQ 1 D.f D.fd ["_law_turns","_law_side"] C9:=by
 refine D.F.ok J3 (λv H Q E h=>?_) (λJ A outer s H v Q E L h=>?_)
 .obtain⟨T,m,n,w,d,rfl,_⟩:=h
  rfl
 rfl';obtain⟨T,m,n,c,⟨p,b⟩,rfl,R,g,h14,y,o,q⟩:=h;have r:=J3.nd;ac_rfl
 refine#[_,aC (pR (pv 1) (pP rfl (ft (cn (i:=2) r rfl (Or.inl rfl)) (ft (cn (i:=3) r rfl (Or.inl rfl)) lM))))
  (bB (gr (sD (ah (pv 3) (ah (cC bG (cC bG (pv 0) (pv 3) (λ_ _=>rfl))
   (cM pK (cM hU (gF GM ab2 ab3 pI (cC bG (pv 0) (pv 3) (λ_ _=>rfl)) (ah (pv 2) az)) aS)
    (cR cE rfl B.len abO (ah (cC bG (pv 0) (pv 3) (λ_ _=>rfl)) az))) (λ_ _=>rfl)) az))))),?_]
 rfl';have e:p∈row c b:=g.sym _ _ o;have z:b<c.length:=g.rng _ _ o;obtain⟨a,C,j⟩:=R.at z;have l:f7 (n.map V.ref) ((b:Nat):Int)\(.ref a):=cK (by rw[dJ,C];rfl)
 have u:0<(row c b).length:=yY e;ac_rfl;exists _,rfl,m,_,rfl,fe.of y,rfl,_,_,rfl,_,_,rfl,rfl;exists _,rfl,_,rfl,_,rfl,T,_,_,_,rfl,rfl,aG.of R.top,l;exists _,rfl,_,rfl,T,_,_,_,rfl,rfl,aG.of R.top,l, .inl #[rfl,_,aG.of j],_,rfl;exists a,_,_,(row c b).idxOf p,_,rfl,rfl,j,rfl,mD _,iK (r6 e),pB p,qV (g.nod _) e;exists _,_,rfl,rfl,_,rfl,_,rfl,T,_,_,_,rfl,rfl,aG.of R.top,l,a,_,rfl, .inl (aG.of j),_,_,rfl,rfl;rw[bZ];refine#[(),?_]
 have em:((((row c b).idxOf p:Nat):Int)+1)%((row c b).length:Int)=((((row c b).idxOf p+1)%(row c b).length:Nat):Int):=by rw[adO,Int.natCast_add];rfl
 have G:f7 (bg (row c b)) (((((row c b).idxOf p:Nat):Int)+1)%((row c b).length:Int))\(.int (jm (row c b) p:Nat)):=by
  rw[em];exact cK (iK (mH e))
 refine#[a,_,_,_,rfl,rfl,aG.of j,G,by show 2<=sizeLine;decide,λt I=>?_]
 exact q t I
def yw:Sp:=λc H Q _=>∃(T b:Addr)(f:List Addr)(w:W)(d:Nat×Nat),c= [.ref T, .ref b]/\aH H T f w/\Good w/\w.length<=14/\H b\(.tup (hV d))/\aV w d/\
 ∀(F:Addr)(L:List (Addr×(Nat×Nat)))(k:Nat)(a:Hp),aB H a->H F=none->a F\(.lst (L.map λe=>V.ref e.1))->p5 a L->L.map (·.2)=walk w d k->0<k->cU w k d=d->(∀j,0<j->j<k->cU w j d≠d)->Q (.ref F) a
def FA:aE ["_law_turns","_law_side","_law_found","_law_here"] ["_law_turns","_law_side"] (aq wj):=by bv_omega
def Eo{K:ad}(h:H a\(.tup (hV d))):Dp K H (.ref a) (mU d):= .tup (fe.of h) (.cons (.int _) (.cons (.int _) .nil))
def LR(B:zf mg)(r:bR K mg "_law_next" yo ["_law_turns","_law_side"])(D:bR K mg "_law_round" wj ["_law_turns","_law_side"]):FnOk P w K mg base bQ 2 D.f D.fd ["_law_turns","_law_side"] yw:=by
 refine D.F.ok FA (λvs H Q E h=>?_) (λaT A outer s H vs Q E hr h=>?_)
 .obtain⟨T,p,x,w,d,rfl,_⟩:=h
  rfl
 rfl';obtain⟨T,p,x,l,d,rfl,R,g,h14,M,hd,q⟩:=h;have nd:=FA.nd;have gN:=Pf (P:=P) (w:=w) (base:=base) B r;ac_rfl
 refine#[_,aC (bP (i:=2) nd rfl (Or.inl rfl) (fC (ah (pv 1) az)))
  (aC (bP (i:=3) nd rfl (Or.inl rfl) (bb gN hr rfl r.m r.F.kp r.b .nil bT (ah (pv 0) (ah (pv 1) az))))
  (aC (A6 FM (hZ (CT hr.units) (pv 3) (pv 1) (bD _))
   (aC (cY (gF GM abX abY iJ (pv 2) (ah (pv 3) az)))
    (bB (bP (i:=3) nd rfl (Or.inl rfl) (bb gN hr rfl r.m r.F.kp r.b .nil bT (ah (pv 0) (ah (pv 3) az)))))))
  (bB (gr (pv 2))))),?_]
 refine#[_,rfl,by show 1<=sizeLine;decide,λF C=>?_]
 have N:aB H (upd H F (.lst [.ref p])):=ay C _;have R1:aH (upd H F (.lst [.ref p])) T x l:=R.off (S:= []) (Off.of_same N) (by simp) (by simp)
 refine#[_,rfl,_,rfl,T,p,x,l,d,rfl,R1,g,h14,N _ _ M,hd,λt O=>?_];have dl:=fI g;have hw:l.length*l.length<=196:=tL h14 h14
 refine MC (λX n=>∃(k:Nat)(L:List (Addr×(Nat×Nat)))(t:Addr),X= [some (.ref T),some (.ref p),some (.ref F),some (.ref t)]/\0<k/\L.map (·.2)=walk l d k/\(∀j,0<j->j<k->cU l j d≠d)/\aB H n/\n F\(.lst (L.map λe=>V.ref e.1))/\p5 n L/\n t\(.tup (hV (cU l k d))))
  (λX n=>(aW l).length+1-(match n F with|some (.lst xs)=>xs.length|_=>0)) ?_ (λX n hP=>?_) (λX H Q Q' hq h=>?_)
 .have nFt:F≠t:=λz=>by rw[<-z,af] at O;cases O
  have nsF:p≠F:=ao M C;refine#[1,[(p,d)],t,rfl,(),rfl,λj h1 h2=>by lia,N.trans (ay O _),by rw[ag nFt];exact af,λe he=>?_,af]
  have ud:e=(p,d):=by simpa using he
  rw[ud];exact(N.trans (ay O _)) _ _ M
 .obtain⟨k,L,t,rfl,hk,hL,vM,sm,u,JH,v⟩:=hP
  refine#[_,rfl,_,rfl,_,_,Eo v,Eo (sm _ _ M),by have:=uZ (cU l k d);lia,_,rfl,?_]
  refine vf (λc=>?_) (λc=>?_)
  .have fb:cU l k d≠d:=λz=>by
    rw[(Aq _ _).mpr z] at c;cases c
   have Us:∀j,0<j->j<k+1->cU l j d≠d:=λj h1 h2=>by
    by_cases hj:j=k
    .rw[hj];exact fb
    .exact vM j h1 ()
   have Rz:=tu g hd Us;have lL:L.length=k:=by have:=On db hL;rw[aI,iM] at this;exact this
   refine#[_,rfl, .inl #[rfl,_,aG.of u],_,rfl,F,_, .ref t,rfl,rfl,u,oX (by rw[aI,lL];exact bq _) (aZ ()),?_]
   have nFH:H F=none:=C;have Tb:aB H (upd n F (.lst ((L.map λe=>V.ref e.1)++ [.ref t]))):=λb o e=>by rw[ag (ao e C)];exact sm b o e
   have R2:aH (upd n F (.lst ((L.map λe=>V.ref e.1)++ [.ref t]))) T x l:=R.off (S:= []) (Off.of_same Tb) (by simp) (by simp)
   have G:t≠F:=λz=>by rw[z,u] at v;cases v
   refine#[_,rfl,_,rfl,T,t,x,l,cU l k d,rfl,R2,g,h14,by rw[ag G];exact v,gI g hd k,λY I=>?_]
   have O9:Y≠F:=λz=>by rw[z,af] at I;cases I
   have J:n Y=none:=by rw[ag O9] at I;exact I
   refine#[#[k+1,L++ [(t,cU l k d)],Y,rfl,(),?_,Us,Tb.trans (ay I _),?_,λe he=>?_,af],?_]
   .rw[cD,hL,rq];rfl
   .rw[ag (Ne.symm O9),af,cD];rfl
   .rcases c5.mp he with z|z
    .have Z:=JH e z
     rw[ag (ao Z J),ag (λy=>by rw[y,u] at Z;cases Z)]
     exact Z
    .have z':e=(t,cU l k d):=by simpa using z
     rw[z'];show upd _ Y _ t=_;rw[ag (ao v J),ag G];exact v
   .show(aW l).length+1-_<(aW l).length+1-_
    rw[ag (Ne.symm O9),af,u];simp only[dh,aI,DR];lia
  .have heq:cU l k d=d:=by
    apply FS;intro z;apply c
    have:PyData.eqv (mU (cU l k d)) (mU d)=false:=by
     cases y:PyData.eqv (mU (cU l k d)) (mU d) with
     |false=>rfl
     |true=>exact absurd ((Aq _ _).mp y) z
    rw[this];rfl
   exact#[_,rfl,q F L k n sm C u JH hL hk heq vM]
 .obtain⟨v1,e1,v2,e2,d',e',a,b,c,k,ek,q⟩:=h
  exact#[v1,e1,v2,e2,d',e',a,b,c,k,ek,hq _ _ q]
end
end rB
namespace L2
open PySem
theorem Jv:∀{M:List (Addr×(Nat×Nat))},p5 H M->iD K H (M.map λe=>V.ref e.1) (M.map λe=>mU e.2)
 | [],_=> .nil
 |e::M,h=> .cons (.tup (fe.of (h e dB)) (.cons (.int _) (.cons (.int _) .nil))) (Jv λx a=>h x (eW _ a))
end L2
namespace rB
open PySem L2 Wb
def NV{i:Nat}{x:V}{a:St}{H:Hp}{P R:St->Hp->Prop}(h:P (a.set i (some x)) H):w9 i x a H (λc e=>U3 c e (λb d=>if b=true then P c d else R c d)):=by
 show(if true=true then P (a.set i (some x)) H else R (a.set i (some x)) H);rw[mo rfl];exact h
abbrev yp:Stmt:=top 46
def SY(g:Good w)(j:2<=w.length)(f:p<w.length):row w p≠ []:=by
 intro z
 have c:∃q,q<w.length/\q≠p:=by
  by_cases h:p=0
  .exact#[1,(),()]
  .exact#[0,(),λy=>h y.symm]
 obtain⟨q,c,ne⟩:=c;have r:=((g.con p f).symm g.sym).trans (g.con q c)
 have:∀{a b},Reach w a b->a=p->b=p:=λ {a b} h=>by
  induction h with
  |refl=>exact id
  |step _ d i=>
   intro e
   have:=i e
   rw[this,z] at d;cases d
 exact ne (this r rfl)
structure Vc (H:Hp) (w:W) (S:Addr) (L:List (Addr×(Nat×Nat))):Prop where
 at':H S\(.lst (L.map λe=>V.ref e.1))
 prs:p5 H L
 dart:∀e∈L,aV w e.2
 few:L.length<=196
def XR:Sp:=λg H Q _=>∃(T l:Addr)(b:Bool)(a:List Addr)(w:W)(e:List Int),g= [.ref T, .ref l, .bl b]/\aH H T a w/\Good w/\2<=w.length/\w.length<=14/\H l\(.lst (e.map V.int))/\e≠ []/\e.length<=2/\l≠T/\l∉a/\
 ∀(c:W)(f:List Int)(d:Hp),Off (l::a) H d->aH d T a c->Good c->c.length=w.length->d l\(.lst (f.map V.int))->f≠ []->f.length<=2->iE c<=iE w+2->Q .aL d
section
variable {P:Program} {w:World} {K:ad} {mg:Str->Option Value} {base:Heap}
def P7:aE ["_law_turns","_law_left","_law_plane_here","_law_p","_law_r","_law_sides","_law_q","_law_turn","_law_u","_law_v"] ["_law_turns","_law_left","_law_plane_here"] (aq yp):=by bv_omega
theorem Sq(B:zf mg)(Tk:bR K mg "_law_take" uN ["_law_left","_law_many"])(Nx:bR K mg "_law_next" yo ["_law_turns","_law_side"])(Rd:bR K mg "_law_round" wj ["_law_turns","_law_side"])
  (D:bR K mg "_law_tie" yp ["_law_turns","_law_left","_law_plane_here"]):FnOk P w K mg base bQ 3 D.f D.fd ["_law_turns","_law_left","_law_plane_here"] XR:=by
 refine D.F.ok P7 (λvs H Q E h=>?_) (λaT A outer s H vs Q E hr h=>?_)
 .obtain⟨T,l,b,J,w,ns,rfl,_⟩:=h
  rfl
 obtain⟨T,l,b,J,C,ns,rfl,R,g,h2,h14,hl,fb,hz,vR,lC,q⟩:=h;have nd:=P7.nd;have gT:=(lK (P:=P) (w:=w) (base:=base) B Tk).mono (show 1<=2 by decide)
 have gR:=LR (P:=P) (w:=w) (base:=base) B Nx Rd;have abg:C.length*C.length<=196:=tL h14 h14;have O5:(["_law_side","_law_p","_law_turns"]:List Str).Nodup:=by decide+kernel
 obtain⟨tE,pE,rE⟩:∃t,jz (jt bQ P w K mg base ["_law_turns","_law_left","_law_plane_here","_law_p","_law_r","_law_sides","_law_q","_law_turn","_law_u","_law_v"] "_law_tie" (aq yp) D.f aT A outer s H E).ku ((cW yp).drop 4) t/\
   ∀(p r:Nat)(S:Addr)(L:List (Addr×(Nat×Nat)))(ds:List Int)(o6 o7:Option V)(N:Hp),Off (l::J) H N->aH N T J C->p<C.length->r∈row C p->Vc N C S L->N l\(.lst (ds.map V.int))->ds≠ []->ds.length<=2->S≠l->S≠T->S∉J->
    t {nx:=λ_ H'=>Q .aL H',rt:=Q} [some (.ref T),some (.ref l),some (.bl b),some (.int (p:Int)),some (.int (r:Int)),some (.ref S),o6,o7,none,none] N:=by
  refine#[_,aC (jN (i:=5) (NC:= ["_law_side","_law_p","_law_turns"]) (src:= [none,some 3,some 0]) rfl nd rfl (Or.inl rfl) (br.of (aq yp) rfl rfl (by decide+kernel) (by decide+kernel) (by decide+kernel)) #[rfl,rfl,rfl,rfl,trivial] (j7 (pv 5))
    (λ_ _ _=>cn (i:=0) O5 rfl (Or.inl rfl)) (λ_ _ _=>Fo (PW.pt (JT (hZ Xu (cC (E2 (K:=K)) (pv 0) aS (λ_ _=>rfl)) (pv 1) (bD _)) (Fs (hZ (HX (K:=K)) (cC (E2 (K:=K)) (pv 0) aS (λ_ _=>rfl)) (cC (AI (K:=K)) (pv 2) (pv 1) (λ_ _=>rfl)) rfl))))) (λ_ _ _=>pv 0) rfl)
   (bB (uE (hZ (CT hr.units) (pv 5) (fC az) (bD _))
    (aC (pR (cC bG (pv 5) (bb gT hr rfl Tk.m Tk.F.kp Tk.b .nil bT (ah (pv 1) (ah (cR cE rfl B.len abO (ah (pv 5) az)) az))) (λ_ _=>rfl)) (pP rfl (ft (cn (i:=8) nd rfl (Or.inl rfl)) (ft (cn (i:=9) nd rfl (Or.inl rfl)) lM))))
    (aC (cY (gF GM abZ ab0 mv (cC bG (pv 0) (pv 3) (λ_ _=>rfl)) (ah (gF GM ab2 ab3 pI (cC bG (pv 0) (pv 3) (λ_ _=>rfl)) (ah (pv 4) az)) (ah (pv 8) az))))
    (bB (cY (gF GM abZ ab0 mv (cC bG (pv 0) (pv 8) (λ_ _=>rfl)) (ah (gF GM ab2 ab3 pI (cC bG (pv 0) (pv 8) (λ_ _=>rfl)) (ah (pv 9) az)) (ah (pv 3) az))))))) lN)),?_]
  intro p r S L ds o6 o7 N off R1 hp Cf Z ug qe Lj nSl nST UE;obtain⟨a,ha,i5⟩:=R1.at hp;have tW:f7 (J.map V.ref) ((p:Nat):Int)\(.ref a):=cK (by rw[dJ,ha];rfl)
  refine#[_,rfl,S,rfl,#[_,aG.of Z.at'],λG hD=>?_];have Sg:S≠G:=ao Z.at' hD;refine Cs (L.map λe=>V.ref e.1).length (λi kn Y=>∃(M:List (Addr×(Nat×Nat)))(o:Option V),kn= [o,some (.int (p:Int)),some (.ref T)]/\Y=upd N G (.lst (M.map λe=>V.ref e.1))/\(∀e∈M,e∈L/\e.2.1≠p/\e.2.1∉row C p)/\M.length<=i) ?_ ?_ ?_ ?_ ?_
  .exact#[[],none,rfl,rfl,(λe I=>by cases I),bq _]
  .rintro i kn Y hi ⟨M,o,rfl,rfl,_,_⟩
   exact#[_,_,aG.of (by rw[ag Sg];exact Z.at'),dH hi]
  .rintro i kn Y hi ⟨M,o,rfl,rfl,_,_⟩
   exact#[_,aG.of (by rw[ag Sg];exact Z.at'),hi]
  .rintro i x kn Y H3 hi ⟨M,o,rfl,rfl,hM,V9⟩ ⟨rfl,hx⟩
   have vO:=hx _ (aG.of (by rw[ag Sg];exact Z.at'))
   have eX:i<L.length:=by simpa using hi
   rw[dJ,dH eX] at vO;have ex:x= .ref (L[i]).1:=(Da vO).symm;subst ex;have hm:L[i]∈L:=mW eX
   have AD:upd N G (.lst (M.map λe=>V.ref e.1)) (L[i]).1\(.tup (hV (L[i]).2)):=by
    have:=Z.prs _ hm
    rw[ag (ao this hD)];exact this
   have nDT:T≠G:=ao R1.top hD;have nDa:a≠G:=ao i5 hD;exists _,rfl,(L[i]).1,_,0,_,rfl,rfl,fe.of AD,cK (j:=0) rfl,_,rfl,rfl,_,rfl;refine vf (λc=>?_) (λc=>?_)
   .refine#[_,rfl,(L[i]).1,_,0,_,rfl,rfl,fe.of AD,cK (j:=0) rfl,?_]
    refine#[_,rfl,_,rfl,T,_,_,_,rfl,rfl,aG.of (by rw[ag nDT];exact R1.top),tW,a,_,rfl, .inl (aG.of (by rw[ag nDa];exact i5)),rfl,mD _,_,rfl,?_]
    refine vf (λc2=>?_) (λc2=>?_)
    .refine#[_,rfl,_,af,oX (by rw[aI];exact V9) (aZ (by have:=Z.few;lia)),M++ [L[i]],_,rfl,?_,λe I=>?_,by simp;lia]
     .rw[tq,cD];rfl
     .rcases c5.mp I with z|z
      .exact hM e z
      .have z':e=L[i]:=by simpa using z
       rw[z'];refine#[hm,λy=>?_,λy=>?_]
       .rw[show V.int ((L[i]).2.1:Int)=V.int (p:Int) by rw[y]] at c
        simp at c
       .have:Hu (V.int ((L[i]).2.1:Int)) (bg (row C p))=true:=by
         unfold Hu;rw[uS];exact#[_,c7.mpr #[_,y,rfl],pB _]
        have c3:(!Hu (V.int ((L[i]).2.1:Int)) (bg (row C p)))=true:=c2;rw[this] at c3;cases c3
    .exact#[M,_,rfl,rfl,hM,()]
   .exact dS #[M,_,rfl,rfl,hM,()]
  .rintro kn Y ⟨M,o,rfl,rfl,hM,V9⟩
   have nDl:l≠G:=ao ug hD;have nDT:T≠G:=ao R1.top hD;have few:=Z.few;rw[aI] at V9
   have aax:p5 (upd N G (.lst (M.map λe=>V.ref e.1))) M:=λe I=>by
    have:=Z.prs e (hM e I).1
    rw[ag (ao this hD)];exact this
   refine#[_,rfl,by show 0<=sizeLine;decide,λe1 B0=>?_]
   have n1D:e1≠G:=λz=>by rw[z,af] at B0;cases B0
   have Iu:aB (upd N G (.lst (M.map λe=>V.ref e.1))) (upd (upd N G (.lst (M.map λe=>V.ref e.1))) e1 (.lst [])):=ay B0 _;have UQ:p5 (upd (upd N G (.lst (M.map λe=>V.ref e.1))) e1 (.lst [])) M:=λe I=>Iu _ _ (aax e I);have V5:upd (upd N G (.lst (M.map λe=>V.ref e.1))) e1 (.lst []) G\(.lst (M.map λe=>V.ref e.1)):=Iu _ _ af;have UM:Off (l::J) H (upd (upd N G (.lst (M.map λe=>V.ref e.1))) e1 (.lst [])):=off.trans ((Off.put (.inr hD)).trans (Off.put (.inr B0)));have OE:aB N (upd (upd N G (.lst (M.map λe=>V.ref e.1))) e1 (.lst [])):=(ay hD _).trans Iu;have R3:aH (upd (upd N G (.lst (M.map λe=>V.ref e.1))) e1 (.lst [])) T J C:=R1.off (S:= []) (Off.of_same OE) (by simp) (by simp)
   have Lh:=OE _ _ ug;refine#[_,_, .lst (aG.of V5) (Jv UQ), .lst (aG.of af) .nil,?_,_,rfl,?_]
   .rw[PyData.depth]
    have:=iO (f:=λe:Addr×(Nat×Nat)=>mU e.2) (k:=2) (λe=>uZ e.2) M
    lia
   generalize Zh:upd (upd N G (.lst (M.map λe=>V.ref e.1))) e1 (.lst [])=H3 at*;refine vf (λc=>?_) (λc=>?_)
   .have hM0:0<M.length:=by
     cases M with
     |nil=>simp[PyData.eqv,PyData.eqvAll] at c
     |cons _ _=>simp
    exists _,rfl,_,rfl,_,rfl,G,_,rfl, .inl (aG.of V5);rw[aI];refine#[l,ds,_,rfl,Lh,qe,(),(),(),λdI l0 d0 d1 u7 OJ=>?_]
    obtain⟨d,rfl⟩:=tI d0;have hd:d<M.length:=()
    have nlD:G≠l:=λz=>nDl z.symm;have Zg:upd H3 l (.lst (l0.map V.int)) G\(.lst (M.map λe=>V.ref e.1)):=by rw[ag nlD];exact V5
    obtain⟨hmL,Hr,hun⟩:=hM _ (mW hd);have qN:=Z.dart _ hmL;have AD:=UQ _ (mW hd);have ntl:(M[d]).1≠l:=λz=>by rw[z,Lh] at AD;cases AD
    refine#[G,_,_, .ref (M[d]).1,rfl,rfl,aG.of Zg,cK (by rw[dJ,dH hd];rfl),?_]
    refine#[(M[d]).1,_,rfl,fe.of (by rw[ag ntl];exact AD),rfl,_,_,rfl,_,_,rfl,rfl,?_]
    generalize M[d]=me at*;obtain⟨at0,u,v⟩:=me;dsimp only at*;have hu:u<C.length:=iS qN
    have X:aH (upd H3 l (.lst (l0.map V.int))) T J C:=R3.keep λb O=>by
     refine ag λz=>?_
     rcases O with O|O
     .exact vR (z.symm.trans O)
     .rw[z] at O;exact lC O
    have Cc:=X.row p a ha;have rlp:=fk g p;have rlu:=fk g u;have Xb:=yX.mpr Cf;have jlt:(row C u).idxOf v<(row C u).length:=yX.mpr qN;exists _,rfl,_,rfl,T,_,_,_,rfl,rfl,aG.of X.top,tW, .inl #[rfl,_,aG.of Cc];exists _,rfl,_,rfl,T,_,_,_,rfl,rfl,aG.of X.top,tW, .inl #[rfl,_,aG.of Cc],_,rfl;exists a,_,_,(row C p).idxOf r,_,rfl,rfl,Cc,rfl,mD _,iK (r6 Cf),pB r,qV (g.nod _) Cf;refine#[_,rfl,a,_,_,_,rfl,rfl,Cc,(),by rw[bZ];lia,oX (by rw[bZ];exact rlp) (aZ ()),?_]
    rw[lS,<-pT];have R5:aH (upd (upd H3 l (.lst (l0.map V.int))) a (.lst (bg (ins (row C p) ((row C p).idxOf r) u)))) T J (C.set p (ins (row C p) ((row C p).idxOf r) u)):=X.put ha (λb _ O=>ag O) af;obtain⟨a2,N9,_⟩:=X.at hu;have nZ:=R5.row u a2 N9;rw[i8 hp,tz (Ne.symm Hr)] at nZ;have at2:f7 (J.map V.ref) ((u:Nat):Int)\(.ref a2):=cK (by rw[dJ,N9];rfl)
    exists _,rfl,_,rfl,T,_,_,_,rfl,rfl,aG.of R5.top,at2, .inl #[rfl,_,aG.of nZ];exists _,rfl,_,rfl,T,_,_,_,rfl,rfl,aG.of R5.top,at2, .inl #[rfl,_,aG.of nZ],_,rfl;exists a2,_,_,(row C u).idxOf v,_,rfl,rfl,nZ,rfl,mD _,iK (r6 qN),pB v,qV (g.nod _) qN;refine#[_,rfl,a2,_,_,_,rfl,rfl,nZ,(),by rw[bZ];lia,oX (by rw[bZ];exact rlu) (aZ ()),?_]
    rw[lS,<-pT];have R6:aH (upd (upd (upd H3 l (.lst (l0.map V.int))) a (.lst (bg (ins (row C p) ((row C p).idxOf r) u)))) a2 (.lst (bg (ins (row C u) ((row C u).idxOf v) p)))) T J (Dm C p ((row C p).idxOf r) u ((row C u).idxOf v)):=R5.put N9 (λb _ O=>ag O) af;have Sk:l≠a:=λz=>lC (by rw[z];exact cV ha)
    have aao:l≠a2:=λz=>lC (by rw[z];exact cV N9)
    refine q _ l0 _ ?_ R6 (K6 g hp hu Hr hun) (yF _ _ _ _ _) ?_ u7 () (by rw[Nj hp hu Hr];exact bq _)
    .exact UM.trans ((Off.put (.inl dB)).trans ((Off.put (.inl (eW _ (cV ha)))).trans (Off.put (.inl (eW _ (cV N9))))))
    .rw[ag aao,ag Sk,af]
   .exact q C ds _ UM R3 g rfl Lh qe Lj ()
 have nd3:(["_law_s","_law_q"]:List Str).Nodup:=by decide+kernel
 refine#[_,aC (bP (i:=3) nd rfl (Or.inr rfl) (bb gT hr rfl Tk.m Tk.F.kp Tk.b .nil bT (ah (pv 1) (ah (cR cE rfl B.len abO (ah (pv 0) az)) az))))
  (aC (bP (i:=4) nd rfl (Or.inl rfl) (cC bG (cC bG (pv 0) (pv 3) (λ_ _=>rfl)) (bb gT hr rfl Tk.m Tk.F.kp Tk.b .nil bT (ah (pv 1) (ah (cR cE rfl B.len abO (ah (cC bG (pv 0) (pv 3) (λ_ _=>rfl)) az)) az))) (λ_ _=>rfl)))
  (aC (bP (i:=5) nd rfl (Or.inl rfl) (bb gR hr rfl Rd.m Rd.F.kp Rd.b .nil bT (ah (pv 0) (ah (sD (ah (pv 3) (ah (pv 4) az))) az))))
  (aC (uE (JR (SR (pv 2)))
   (aC (bP (i:=5) nd rfl (Or.inl rfl) (fC az))
   (bB (iR FM rfl (yf rfl B.enumerate (ah (pv 0) az)) (pP rfl (ft (cn (i:=6) nd rfl (Or.inr rfl)) (ft (cn (i:=7) nd rfl (Or.inl rfl)) lM)))
    (bB (cY (gF GM adM adN xS (pv 5) (ah (Pw (NC:= ["_law_s","_law_q"]) (src:= [none,some 6]) rfl (br.of (aq yp) rfl rfl (by decide+kernel) (by decide+kernel) (by decide+kernel)) #[rfl,rfl,trivial] (j7 (pv 7))
     (λ_ _ _=>cn (i:=0) nd3 rfl (Or.inl rfl)) (λ_ _ _=>sH) (λ_ _ _=>sD (ah (pv 1) (ah (pv 0) az)))) az))))))) lN) pE))),?_]
 have N5:H T=_:=R.top;have lmap:(J.map V.ref).length=C.length:=by rw[aI,R.len]
 refine#[_,rfl,_,rfl,T,_,rfl, .inl (aG.of R.top),l,ns,_,rfl,hl,fb,(),(),(),λdI nI d0 d1 qe Lj=>?_]
 obtain⟨p,rfl⟩:=tI d0;have hp:p<C.length:=()
 have keep:∀(o:HO),aH (upd H l o) T J C:=λo=>R.keep λb O=>by
  refine ag λz=>?_
  rcases O with O|O
  .exact vR (z.symm.trans O)
  .rw[z] at O;exact lC O
 have R1:=keep (.lst (nI.map V.int));obtain⟨a,ha,i5⟩:=R1.at hp;have tW:f7 (J.map V.ref) ((p:Nat):Int)\(.ref a):=cK (by rw[dJ,ha];rfl)
 have rne:=SY g h2 hp;have abx:0<(row C p).length:=DV.mpr rne;have rl:=fk g p;have rvl:=bZ (row C p);exists _,rfl,_,rfl,T,_,_,_,rfl,rfl,aG.of R1.top,tW;refine#[_,rfl,_,rfl,_,rfl,T,_,_,_,rfl,rfl,aG.of R1.top,tW,a,_,rfl, .inl (aG.of i5),l,nI,_,rfl,af,qe,(),(),(),λdI2 l0 e0 e1 u7 OJ=>?_]
 rw[tq];obtain⟨j,rfl⟩:=tI e0;have hj:j<(row C p).length:=()
 have R2:=keep (.lst (l0.map V.int));have Ho:=R2.row p a ha;exists a,_,_,_,rfl,rfl,aG.of Ho,cK (iK (dH hj));have Cf:(row C p)[j]∈row C p:=mW hj;generalize (row C p)[j]=r at Cf;have UL:Off (l::J) H (upd H l (.lst (l0.map V.int))):=Off.put (.inl dB);have rY:upd H l (.lst (l0.map V.int)) l\(.lst (l0.map V.int)):=af;generalize upd H l (.lst (l0.map V.int))=H2 at R2 UL rY;refine#[_,rfl,_,rfl,_,rfl,by show 2<=sizeLine;decide,λZ ES=>?_]
 have ss:=ay ES (.tup [V.int (p:Int),V.int (r:Int)]);have R3:aH (upd H2 Z (.tup [V.int (p:Int),V.int (r:Int)])) T J C:=R2.off (S:= []) (Off.of_same ss) (by simp) (by simp)
 refine#[T,Z,J,C,(p,r),rfl,R3,g,h14,af,Cf,λF L k H4 sm4 K8 hF JH hL hk hit vM=>?_];have Qb:aB H2 H4:=ss.trans sm4;have X:aH H4 T J C:=R2.off (S:= []) (Off.of_same Qb) (by simp) (by simp)
 have WH:=Qb _ _ rY;have UN:Off (l::J) H H4:=UL.trans (Off.of_same Qb);have qN:aV C (p,r):=Cf;have kd:=tu g qN vM;have dl:=fI g;have U8:∀e∈L,aV C e.2:=λe I=>mI g qN (k:=k) e.2 (by rw[<-hL];exact c7.mpr #[e,I,rfl])
 have abh:L.length=k:=by have:=On db hL;rw[aI,iM] at this;exact this
 have nFl:F≠l:=λz=>by rw[z,ss _ _ rY] at K8;cases K8
 have nFT:F≠T:=λz=>by rw[z,R3.top] at K8;cases K8
 have aaj:F∉J:=λz=>by
  obtain⟨i,hi⟩:=iA z;rw[R3.row i F hi] at K8;cases K8
 refine#[_,rfl,_,rfl,vf (λ_=>?_) (λ_=>?_)]
 .
  refine#[by show 0<=sizeLine;decide,λS hS=>?_]
  have nSl:S≠l:=λz=>by rw[z,WH] at hS;cases hS
  have nST:S≠T:=λz=>by rw[z,X.top] at hS;cases hS
  have UE:S∉J:=λz=>by
   obtain⟨i,hi⟩:=iA z;rw[X.row i S hi] at hS;cases hS
  refine#[_,rfl,T,rfl,#[_,(ay hS _) _ _ X.top],Aw (xs:=J.map V.ref) (λi σ H'=>∃(o6 o7:Option V)(L:List (Addr×(Nat×Nat))),σ= [some (.ref T),some (.ref l),some (.bl b),some (.int (p:Int)),some (.int (r:Int)),some (.ref S),o6,o7,none,none]/\aB H4 H'/\H' S\(.lst (L.map λe=>V.ref e.1))/\p5 H' L/\(∀e∈L,aV C e.2)/\L.length<=i*14) ?_ ?_ ?_ ?_]
  .exact#[_,_,[],rfl,ay hS _,af,(λe I=>by cases I),(λe I=>by cases I),dA _]
  .rintro i σ H' _ ⟨o6,o7,L,rfl,sm,_⟩
   exact aG.of (sm _ _ X.top)
  .rintro i x t σ H5 hx ht ⟨o6,o7,L,rfl,Mp,Wc,Hk,Ws,Oq⟩
   rw[dJ] at hx;obtain⟨ai,Lc,rfl⟩:=acy.mp hx;have hi:i<C.length:=by rw[<-X.len];exact(cw.mp Lc).1
   exists t,_,rfl,fe.of af,rfl,_,_,rfl,_,_,rfl,rfl;have s6:=ay ht (.tup [V.int (i:Int),V.ref ai]);generalize upd H5 t (.tup [V.int (i:Int),V.ref ai])=H6 at s6;have Cd:=s6 _ _ (Mp _ _ (X.row i ai Lc));have Wd:=s6 _ _ Wc;have rli:=fk g i;refine#[_,rfl, .inl #[rfl,_,aG.of Wd],_,rfl,ai,rfl,#[_,aG.of Cd],λG hD=>?_];have Sg:S≠G:=ao Wd hD;refine Cs (bg (row C i)).length (λj kn Y=>∃(o:Option V)(M:List (Addr×(Nat×Nat))),kn= [o,some (.int (i:Int))]/\aB H6 Y/\Y G\(.lst (M.map λe=>V.ref e.1))/\p5 Y M/\(∀e∈M,aV C e.2)/\M.length<=j) ?_ ?_ ?_ ?_ ?_
   .exact#[none,[],rfl,ay hD _,af,(λe I=>by cases I),(λe I=>by cases I),bq _]
   .rintro j kn Y hj ⟨o,M,rfl,zT,_⟩
    exact#[_,_,aG.of (zT _ _ Cd),dH hj]
   .rintro j kn Y hj ⟨o,M,rfl,zT,_⟩
    exact#[_,aG.of (zT _ _ Cd),hj]
   .rintro j x kn Y H7 hj ⟨o,M,rfl,zT,hM,Hl,Wu,WJ⟩ ⟨rfl,hx⟩
    obtain⟨n,hn,rfl⟩:=uJ (hx _ (aG.of (zT _ _ Cd)));refine NV ?_;refine#[_,rfl,_,rfl,by show 2<=sizeLine;decide,λtt zI=>?_]
    have s8:=ay zI (.tup [V.int (i:Int),V.int (n:Int)]);have Ut:upd H7 tt (.tup [V.int (i:Int),V.int (n:Int)]) tt\(.tup (hV (i,n))):=af;generalize upd H7 tt (.tup [V.int (i:Int),V.int (n:Int)])=H8 at s8 Ut;have ntD:tt≠G:=λz=>by rw[z,hM] at zI;cases zI
    refine#[_,s8 _ _ hM,oX (by rw[aI];exact WJ) (aZ (by rw[bZ] at hj;lia)),_,M++ [(tt,(i,n))],rfl,λb u eb=>?_,?_,λe I=>?_,λe I=>?_,by simp;lia]
    .rw[ag (ao eb hD)];exact s8 _ _ (zT _ _ eb)
    .rw[af,cD];rfl
    .rcases c5.mp I with z|z
     .have:=Hl e z
      rw[ag (λy=>by rw[y,hM] at this;cases this)]
      exact s8 _ _ this
     .have z':e=(tt,(i,n)):=by simpa using z
      rw[z',ag ntD];exact Ut
    .rcases c5.mp I with z|z
     .exact Wu e z
     .have z':e=(tt,(i,n)):=by simpa using z
      rw[z'];exact cV hn
   .rintro kn Y ⟨o,M,rfl,zT,hM,Hl,Wu,WJ⟩
    rw[bZ] at WJ;have Zn:=zT _ _ Wd;refine#[S,G,_,_,rfl,rfl,Zn,hM,small (by simp;lia),?_]
    refine#[_,_,L++M,rfl,λb u eb=>?_,?_,λe I=>?_,λe I=>?_,by simp;lia]
    .rw[ag (ao eb hS)];exact zT _ _ (s6 _ _ (Mp _ _ eb))
    .rw[af,cD]
    .have hh:Y e.1\(.tup (hV e.2)):=by
      rcases c5.mp I with z|z
      .exact zT _ _ (s6 _ _ (Hk e z))
      .exact Hl e z
     rw[ag (λy=>by rw[y,Zn] at hh;cases hh)];exact hh
    .rcases c5.mp I with z|z
     .exact Ws e z
     .exact Wu e z
  .rintro σ H5 ⟨o6,o7,L,rfl,Mp,Wc,Hk,Ws,Oq⟩
   rw[aI,X.len] at Oq;exact rE p r S L l0 o6 o7 H5 (UN.trans (Off.of_same Mp)) (X.off (S:= []) (Off.of_same Mp) (by simp) (by simp)) hp Cf #[Wc,Hk,Ws,()] (Mp _ _ WH) u7 () nSl nST UE
 .exact rE p r F L l0 none none H4 UN X hp Cf #[hF,JH,U8,()] WH u7 () nFl nFT aaj
end
abbrev Fy:Stmt:=top 47
def aH.aaE(R:aH H T d w)(n:k<w.length)(o:a∉d)(l:a≠T)(h:∀b,b∈d->g b=H b)(p:g T\(.lst ((d.set k a).map V.ref)))
  (e:g a\(.lst (bg r))):aH g T (d.set k a) (w.set k r):=by
 have q:k<d.length:=by rw[R.len];exact n
 refine#[p,?_,λz=>?_,by rw[gP,gP];exact R.len,λi b f=>?_]
 .unfold dL
  rw[yW];intro i j c m lt;rw[gP] at c m;rw[List.getElem_set,List.getElem_set];have s:=yW.mp R.nod
  split
  .split
   .lia
   .intro z;exact o (by rw[z];exact mW m)
  .split
   .intro z;exact o (by rw[<-z];exact mW c)
   .exact s i j c m lt
 .rcases adz z with z|z
  .exact R.nT z
  .exact l z.symm
 .rw[i8 n]
  rw[lT] at f
  by_cases c:k=i
  .rw[mo c,mo q] at f
   cases Da f;rw[mo c];exact e
  .rw[tz c] at f
   rw[tz c,h b (cV f)];exact R.row i b f
def OP(h:k<n):m8 n (k:Int)\k:=by
 unfold m8;rw[mo (),mo (),lS]
def QQ(a:List V)(b:Nat):ix a (some (b:Int)) none=a.drop b:=by
 unfold ix;rw[HT.Fx,HT.Bd]
 by_cases h:b<=a.length
 .rw[adV h,qr (by rw[mV];exact bq _)]
 .rw[Nat.min_eq_right (),yZ (bq _),yZ ()];simp
def QP(a:List V)(b:Nat):ix a none (some (b:Int))=a.take b:=by
 unfold ix;rw[HT.Fx,HT.Bd,List.drop_zero,Nat.sub_zero]
 by_cases h:b<=a.length
 .rw[adV h]
 .rw[Nat.min_eq_right (),qr (bq _),qr ()]
def Im(r:List Nat)(b:Nat):(bg r).take b=bg (r.take b):=by unfold bg;rw[acC]
def Il(r:List Nat)(b:Nat):(bg r).drop b=bg (r.drop b):=by unfold bg;rw[adl]
def Ml(r s:List Nat):bg r++bg s=bg (r++s):=by unfold bg;rw[cD]
def Mj(l:List a)(b:Nat):(l.drop b++l.take b).Perm l:=by
 have:=(List.perm_append_comm (l₁:=l.drop b) (l₂:=l.take b))
 rwa [kP] at this
structure Ord (ord:List Nat) (n:Nat):Prop where
 pm:ord.Perm (aM n)
def Ord.len(o:Ord ord n):ord.length=n:=by rw[o.pm.length_eq,oY]
def Ord.get(o:Ord ord n)(h:p<n):ord[p]?\(ord.getD p 0):=by
 rw[fq,dH (by rw[o.len];exact h)];rfl
def Ord.into(o:Ord ord n)(h:p<n):ord.getD p 0<n:=fG.mp (o.pm.mem_iff.mp (cV (o.get h)))
def Ord.inj(o:Ord ord n)(b:p<n)(c:q<n)(e:ord.getD p 0=ord.getD q 0):p=q:=by
 have d:ord.Nodup:=o.pm.nodup_iff.mpr acH;have a:=o.get b;rw[e] at a;exact get_inj d a (o.get c)
def Ord.FO(o:Ord ord n)(h:y<n):∃p,p<n/\ord.getD p 0=y:=by
 have:=o.pm.mem_iff.mpr (fG.mpr h)
 obtain⟨p,a⟩:=iA this;have lt:=(cw.mp a).1;rw[o.len] at lt
 have:=o.get lt
 rw[a] at this;exact#[p,lt,(Da this).symm]
structure Vb (H:Hp) (T:Addr) (as:List Addr) (w:W):Prop where
 top:H T\(.lst (as.map V.ref))
 len:as.length=w.length
 row:∀(i:Nat) a,as[i]?\a->H a\(.lst (bg (Wb.row w i)))
def XQ:Sp:=λg H Q _=>∃(T O l:Addr)(f:List Addr)(w:W)(ord:List Nat)(d:List Int),g= [.ref T, .ref O, .ref l]/\Vb H T f w/\Good w/\w.length<=14/\H O\(.lst (bg ord))/\Ord ord w.length/\H l\(.lst (d.map V.int))/\d≠ []/\d.length<=2/\l≠T/\l∉f/\l≠O/\
 ∀(F:Addr)(fs:List Addr)(c:W)(e:Hp),Off [l] H e->H F=none->(∀a∈fs,H a=none)->aH e F fs c->Good c->c.length=w.length->iE c=iE w->(∀p,p<w.length->∃b,row c (ord.getD p 0)=((row w p).map λx=>ord.getD x 0).drop b++((row w p).map λx=>ord.getD x 0).take b)->Q (.ref F) e
section
variable {P:Program} {w:World} {K:ad} {mg:Str->Option Value} {base:Heap}
def P6:aE ["_law_turns","_law_order","_law_left","_law_found","_law_p","_law_turn","_law_begin","_law_names"] ["_law_turns","_law_order","_law_left"] (aq Fy):=by bv_omega
def So(B:zf mg)(Tk:bR K mg "_law_take" uN ["_law_left","_law_many"])(D:bR K mg "_law_renamed" Fy ["_law_turns","_law_order","_law_left"]):FnOk P w K mg base bQ 2 D.f D.fd ["_law_turns","_law_order","_law_left"] XQ:=by
 refine D.F.ok P6 (λvs H Q E h=>?_) (λaT A outer s H vs Q E hr h=>?_)
 .obtain⟨T,O,l,as,w,ord,ns,rfl,_⟩:=h
  rfl
 rfl';obtain⟨T,O,l,as,c,ord,ns,rfl,R,g,h14,hO,Y,hl,fb,hz,vR,lC,nlO,q⟩:=h;have nd:=P6.nd;have nd1:(["_law_turn"]:List Str).Nodup:=by decide+kernel
 have O5:(["_law_q","_law_order"]:List Str).Nodup:=by decide+kernel
 have gT:=lK (P:=P) (w:=w) (base:=base) B Tk;ac_rfl
 refine#[_,aC (jN (i:=3) (NC:= ["_law_turn"]) (src:= [none]) rfl nd rfl (Or.inl rfl) (br.of (aq Fy) rfl rfl (by decide+kernel) (by decide+kernel) (by decide+kernel)) trivial (j7 (pv 0))
    (λ_ _ _=>cn (i:=0) nd1 rfl (Or.inl rfl)) (λ_ _ _=>sH) (λ_ _ _=>fC az) rfl)
  (aC (iR FM rfl (yf rfl B.enumerate (ah (pv 0) az)) (pP rfl (ft (cn (i:=4) nd rfl (Or.inl rfl)) (ft (cn (i:=5) nd rfl (Or.inl rfl)) lM)))
   (aC (bP (i:=6) nd rfl (Or.inl rfl) (bb gT hr rfl Tk.m Tk.F.kp Tk.b .nil bT (ah (pv 2) (ah (cM hU (cR cE rfl B.len abO (ah (pv 5) az)) aS) az))))
   (aC (jN (i:=7) (NC:= ["_law_q","_law_order"]) (src:= [none,some 1]) rfl nd rfl (Or.inl rfl) (br.of (aq Fy) rfl rfl (by decide+kernel) (by decide+kernel) (by decide+kernel)) #[rfl,rfl,trivial] (j7 (pv 5))
    (λ_ _ _=>cn (i:=0) O5 rfl (Or.inl rfl)) (λ_ _ _=>sH) (λ_ _ _=>cC (AI (K:=K)) (pv 1) (pv 0) (λ_ _=>rfl)) rfl)
   (bB (pR (cM CQ (pO sW (pv 7) (oq (pv 6)) yg) (pO sW (pv 7) yg (oq (pv 6)))) (CY (pv 3) (cC bG (pv 1) (pv 4) (λ_ _=>rfl)) set_list))))))
  (bB (gr (pv 3)))),?_]
 refine#[_,rfl,T,rfl,#[_,aG.of R.top],λF hF=>?_];refine Cs (as.map V.ref).length (λi G C=>∃(o:Option V)(fs:List Addr),G= [o]/\aB H C/\C F\(.lst (fs.map V.ref))/\fs.Nodup/\F∉fs/\(∀a∈fs,H a=none/\C a\(.lst []))/\fs.length=i) ?_ ?_ ?_ ?_ ?_
 .exact#[none,[],rfl,ay hF _,af,iB,(by simp),(λa ha=>by cases ha),rfl]
 .rintro i G C N ⟨o,fs,rfl,d,_⟩
  exact#[_,_,aG.of (d _ _ R.top),dH N]
 .rintro i G C N ⟨o,fs,rfl,d,_⟩
  exact#[_,aG.of (d _ _ R.top),N]
 .rintro i x G C H3 N ⟨o,fs,rfl,d,hf,nf,nF,fr,hl⟩ ⟨rfl,Z⟩
  rw[aI,R.len] at N;refine NV ?_;refine#[by show 0<=sizeLine;decide,λr gk=>?_]
  have Xl:r≠F:=λz=>by rw[z,hf] at gk;cases gk
  have UJ:r∉fs:=λz=>by rw[(fr r z).2] at gk;cases gk
  refine#[_,by rw[ag (Ne.symm Xl)];exact hf,aZ (by simp;lia),_,fs++ [r],rfl,λb u X=>?_,?_,?_,?_,λa ha=>?_,by simp[hl]]
  .rw[ag (ao X hF),ag (ao (d _ _ X) gk)];exact d _ _ X
  .rw[af,cD];rfl
  .rw[jx]
   exact#[nf,by simp,λx Z y hy z=>by
    have:y=r:=by simpa using hy
    rw[this] at z;rw[z] at Z;exact UJ Z]
  .intro z
   rcases c5.mp z with z|z
   .exact nF z
   .have:F=r:=by simpa using z
    exact Xl this.symm
  .rcases c5.mp ha with z|z
   .refine#[(fr a z).1,?_]
    rw[ag (λy=>nF (by rw[<-y];exact z)),ag (λy=>UJ (by rw[<-y];exact z))]
    exact(fr a z).2
   .have:a=r:=by simpa using z
    rw[this];exact#[d.free gk,by rw[ag Xl,af]]
 intro G H1 Qz;rfl';obtain⟨o,Za,rfl,Iu,hF1,nf0,nF0,NQ,Lg⟩:=Qz;ac_rfl;rw[aI,R.len] at Lg;have ug:=Iu _ _ hl;have Xk:l≠F:=λz=>by rw[z,hF] at hl;cases hl
 have R1:aH H1 F Za (bu c.length []):=by
  refine#[hF1,nf0,nF0,by rw[Lg,vz],λi a e=>?_]
  have hz:row (bu c.length []) i= []:=by
   unfold row;rw[fq,tH]
   split<;>rfl
  rw[hz];exact(NQ a (cV e)).2
 refine#[_,rfl,T,rfl,#[_,Iu _ _ R.top],Aw (xs:=as.map V.ref) (λi σ H'=>∃(o4 o5 o6 o7:Option V)(fs:List Addr)(I:W)(ds:List Int),σ= [some (.ref T),some (.ref O),some (.ref l),some (.ref F),o4,o5,o6,o7]/\Off [l] H H'/\aH H' F fs I/\(∀a∈fs,H a=none)/\I.length=c.length/\
   (∀p,p<i->∃b,row I (ord.getD p 0)=((row c p).map λx=>ord.getD x 0).drop b++((row c p).map λx=>ord.getD x 0).take b)/\H' l\(.lst (ds.map V.int))/\ds≠ []/\ds.length<=2) ?_ ?_ ?_ ?_]
 .exact#[_,_,_,_,Za,_,ns,rfl,Off.of_same Iu,R1,λa ha=>(NQ a ha).1,vz,(λp J=>by lia),ug,fb,hz]
 .rintro i σ H' _ ⟨o4,o5,o6,o7,fs,I,ds,rfl,off,_⟩
  exact aG.of (off _ _ (~~~Ne.symm vR) R.top)
 .rintro i x t σ H5 Z ht ⟨o4,o5,o6,o7,fs,I,ds,rfl,off,R5,qJ,lE,yk,Oq,Uq,hz5⟩
  rw[dJ] at Z;obtain⟨ai,Lc,rfl⟩:=acy.mp Z;have N:i<c.length:=by rw[<-R.len];exact(cw.mp Lc).1
  have UH:l≠ai:=λz=>lC (by rw[z];exact cV Lc)
  have nZ:H5 ai=_:=off _ _ (~~~Ne.symm UH) (R.row i ai Lc)
  have GV:H5 O=_:=off _ _ (~~~Ne.symm nlO) hO
  exists t,_,rfl,fe.of af,rfl,_,_,rfl,_,_,rfl,rfl;have s6:=ay ht (.tup [V.int (i:Int),V.ref ai]);generalize upd H5 t (.tup [V.int (i:Int),V.ref ai])=H6 at s6;have rli:=fk g i;have rvl:=bZ (row c i);refine#[_,rfl,_,rfl,ai,_,rfl, .inl (aG.of (s6 _ _ nZ)),_,_,rfl,rfl,l,ds,_,rfl,s6 _ _ Oq,Uq,(),(),(),λdI nI d0 d1 qe Lj=>?_]
  obtain⟨b,rfl⟩:=tI d0;have Pd:Off [l] H (upd H6 l (.lst (nI.map V.int))):=(off.trans (Off.of_same s6)).trans (Off.put (.inl dB));have p9:upd H6 l (.lst (nI.map V.int)) l\(.lst (nI.map V.int)):=af;have aap:l∉fs:=λz=>by rw[qJ l z] at hl;cases hl
  have R7:aH (upd H6 l (.lst (nI.map V.int))) F fs I:=(R5.off (S:= []) (Off.of_same s6) (by simp) (by simp)).keep λb M=>by
   refine ag λz=>?_
   rcases M with M|M
   .exact Xk (z.symm.trans M)
   .rw[z] at M;exact aap M
  have xy:upd H6 l (.lst (nI.map V.int)) ai\(.lst (bg (row c i))):=by rw[ag (Ne.symm UH)];exact s6 _ _ nZ
  have La:upd H6 l (.lst (nI.map V.int)) O\(.lst (bg ord)):=by rw[ag (Ne.symm nlO)];exact s6 _ _ GV
  generalize upd H6 l (.lst (nI.map V.int))=H7 at Pd p9 R7 xy La;refine#[_,rfl,ai,rfl,#[_,aG.of xy],λNm Zm=>?_];refine Cs (bg (row c i)).length (λj G C=>∃(o:Option V),G= [o,some (.ref O)]/\aB H7 C/\C Nm\(.lst (bg (((row c i).take j).map λx=>ord.getD x 0)))) ?_ ?_ ?_ ?_ ?_
  .exact#[none,rfl,ay Zm _,af]
  .rintro j G C hj ⟨o,rfl,d,_⟩
   exact#[_,_,aG.of (d _ _ xy),dH hj]
  .rintro j G C hj ⟨o,rfl,d,_⟩
   exact#[_,aG.of (d _ _ xy),hj]
  .rintro j x G C H8 hj ⟨o,rfl,d,hN⟩ ⟨rfl,Z⟩
   obtain⟨n,hn,rfl⟩:=uJ (Z _ (aG.of (d _ _ xy)));have WN:n<c.length:=g.rng _ _ (cV hn);refine NV ?_;exists _,rfl,_,rfl,O,_,_,_,rfl,rfl,aG.of (d _ _ La),cK (iK (Y.get WN));refine#[_,hN,oX (by rw[bZ,aI,gO];exact Nat.min_le_right _ _) (aZ ()),_,rfl,λb u X=>?_,?_]
   .rw[ag (ao X Zm)];exact d _ _ X
   .obtain⟨bV,hg⟩:=cw.mp hn
    rw[af,acG bV,hg,cD];unfold bg;rw[cD];rfl
  rintro G H8 ⟨o,rfl,sm8,Rn⟩;rw[rvl,za] at Rn;generalize ZY:((row c i).map λx=>ord.getD x 0)=v at Rn;have nml:v.length<=14:=by rw[<-ZY,aI];lia
  refine#[_,rfl,_,rfl,_,rfl,Nm,_,rfl,aG.of Rn,λc1 hc1=>?_];rw[QQ,Il];have s9:=ay hc1 (.lst (bg (v.drop b)));have e9:upd H8 c1 (.lst (bg (v.drop b))) c1=_:=af;generalize upd H8 c1 (.lst (bg (v.drop b)))=H9 at s9 e9;refine#[_,rfl,_,rfl,_,rfl,Nm,_,rfl,aG.of (s9 _ _ Rn),λc2 zy=>?_];rw[QP,Im];have yl:=ay zy (.lst (bg (v.take b)));have Y1:upd H9 c2 (.lst (bg (v.take b))) c2=_:=af;generalize upd H9 c2 (.lst (bg (v.take b)))=vH at yl Y1;refine#[c1,c2,_,_,rfl,rfl,yl _ _ e9,Y1,small (by rw[bZ,bZ,mV,gO];lia),λL Zr=>?_]
  rw[Ml];have C3:=ay Zr (.lst (bg (v.drop b++v.take b)));have Y2:upd vH L (.lst (bg (v.drop b++v.take b))) L=_:=af;have u4:vH L=none:=Zr;generalize upd vH L (.lst (bg (v.drop b++v.take b)))=zi at C3 Y2;have J2:aB H7 zi:=sm8.trans (s9.trans (yl.trans C3));have J0:aB H7 vH:=sm8.trans (s9.trans yl);have Va:aH zi F fs I:=R7.off (S:= []) (Off.of_same J2) (by simp) (by simp)
  have WO:=Y.into N;have lfs:(fs.map V.ref).length=c.length:=by rw[aI,R7.len,lE]
  refine#[_,rfl,_,rfl,_,rfl,O,_,_,_,rfl,rfl,aG.of (J2 _ _ La),cK (iK (Y.get N)),F,_,_,ord.getD i 0,rfl,rfl,Va.top,by rw[lfs];exact OP WO,?_]
  have UG:L≠F:=λz=>by rw[z,J0 _ _ R7.top] at u4;cases u4
  have Xi:L∉fs:=λz=>by
   obtain⟨k,hk⟩:=iA z;rw[J0 _ _ (R7.row k L hk)] at u4;cases u4
  have Zs:H L=none:=by
   cases e:H L with
   |none=>rfl
   |some u=>
    by_cases z:L=l
    .rw[z,J0 _ _ p9] at u4;cases u4
    .rw[J0 _ _ (Pd _ _ (~~~z) e)] at u4;cases u4
  have abw:l≠F:=Xk;refine#[_,_,_,_,fs.set (ord.getD i 0) L,I.set (ord.getD i 0) (v.drop b++v.take b),nI,rfl,?_,?_,λa ha=>?_,by rw[gP];exact lE,λp J=>?_,?_,qe,()]
  .exact λb u M X=>by rw[ag (ao X hF)];exact J2 _ _ (Pd b u M X)
  .refine Va.aaE (by rw[lE];exact WO) Xi UG (λb M=>ag λz=>Va.nT (by rw[<-z];exact M)) ?_ ?_
   .rw[af,List.map_set]
   .rw[ag UG];exact Y2
  .rcases adz ha with z|z
   .exact qJ a z
   .rw[z];exact Zs
  .rw[i8 (by rw[lE];exact WO)]
   by_cases e:p=i
   .subst e
    rw[mo rfl,ZY];exact#[b,rfl]
   .rw[tz (λz=>e (Y.inj () N z.symm))]
    exact yk p ()
  .rw[ag Xk];exact J2 _ _ p9
 .rintro σ H5 ⟨o4,o5,o6,o7,fs,I,ds,rfl,off,R5,qJ,lE,yk,Oq,Uq,hz5⟩
  rw[aI,R.len] at yk
  have pm5:∀p,p<c.length->(row I (ord.getD p 0)).Perm ((row c p).map λx=>ord.getD x 0):=λp J=>by
   obtain⟨b,e⟩:=yk p J;rw[e];exact Mj _ b
  exact#[_,rfl,q F fs I H5 off hF qJ R5 (K5 g lE (λp J=>Y.into J) (λp q J hq e=>Y.inj J hq e) (λy hy=>Y.FO hy) λp J=>pm5 p J) lE (Ni lE Y.pm λp J=>pm5 p J) yk]
end
abbrev P5:Stmt:=top 48
def boot_int:bootBuiltins "int"\(.type "int"):=by decide+kernel
def Tp(K:ad):Sp:=λf H Q _=>∃(a:Addr)(e:List Int)(m:Int)(b:Bool),f= [.ref a, .int m, .bl b]/\aG K H a (e.map V.int)/\e.length<=63/\1<=m/\m<=14/\
 ∀(F:Addr)(fs:List Addr)(c:W)(d:Hp),aB H d->H F=none->(∀a∈fs,H a=none)->aH d F fs c->Good c->1<=c.length->(c.length:Int)<=m->iE c<=102->Q (.ref F) d
section
variable {P:Program} {w:World} {K:ad} {mg:Str->Option Value} {base:Heap}
def J6:aE ["_law_script","_law_most","_law_plane_here","_law_left","_law_many","_law_turns","_law_order","_law_k","_law_at"] ["_law_script","_law_most","_law_plane_here"] (aq P5):=by bv_omega
theorem Ph(B:zf mg)(Ce:bR K mg "_law_cell" ym ["_law_script","_law_k"])(Mi:bR K mg "_law_mixed" wg ["_law_script","_law_turn"])(M:bR K mg "_law_digits" yn ["_law_script","_law_at"])(C:bR K mg "_law_take" uN ["_law_left","_law_many"])
  (Tr:bR K mg "_law_tree" Ip ["_law_many","_law_left"]) (Nx:bR K mg "_law_next" yo ["_law_turns","_law_side"]) (Rd:bR K mg "_law_round" wj ["_law_turns","_law_side"]) (Ti:bR K mg "_law_tie" yp ["_law_turns","_law_left","_law_plane_here"]) (Re:bR K mg "_law_renamed" Fy ["_law_turns","_law_order","_law_left"])
  (D:bR K mg "_law_web" P5 ["_law_script","_law_most","_law_plane_here"]):FnOk P w K mg base bQ 4 D.f D.fd ["_law_script","_law_most","_law_plane_here"] (Tp K):=by
 refine D.F.ok J6 (λvs H Q E h=>?_) (λaT A outer s H vs Q E R h=>?_)
 .obtain⟨a,ns,m,b,rfl,_⟩:=h
  rfl
 obtain⟨a,ns,m,b,rfl,hS,nQ,m1,m14,q⟩:=h;have Z:=J6.nd;have gD:=ya (P:=P) (w:=w) (base:=base) B Ce Mi M;have gT:=(lK (P:=P) (w:=w) (base:=base) B C).mono (show 1<=3 by decide)
 have gTr:=(Pg (P:=P) (w:=w) (base:=base) B C Tr).mono (show 2<=3 by decide)
 have gTi:=Sq (P:=P) (w:=w) (base:=base) B C Nx Rd Ti;have gRe:=(So (P:=P) (w:=w) (base:=base) B C Re).mono (show 2<=3 by decide)
 refine#[_,aC (bP (i:=3) Z rfl (Or.inl rfl) (bb gD R rfl M.m M.F.kp M.b .nil bT (ah (pv 0) (ah aS az))))
  (aC (bP (i:=4) Z rfl (Or.inl rfl) (cM hU aS (bb gT R rfl C.m C.F.kp C.b .nil bT (ah (pv 3) (ah (pv 1) az)))))
  (aC (bP (i:=5) Z rfl (Or.inl rfl) (bb gTr R rfl Tr.m Tr.F.kp Tr.b .nil bT (ah (pv 4) (ah (pv 3) az))))
  (aC (bP (i:=6) Z rfl (Or.inl rfl) (fC az))
  (aC (iR FM rfl (j8 rfl B.range (ah (pv 4) az)) (cn (i:=7) Z rfl (Or.inl rfl))
   (bB (cY (gF GM abZ ab0 mv (pv 6) (ah (bb gT R rfl C.m C.F.kp C.b .nil bT (ah (pv 3) (ah (cM hU (pv 7) aS) az))) (ah (pv 7) az))))))
  (aC (iR FM rfl (j7 (fC (ah aS (ah aS az)))) (cn (i:=8) Z rfl (Or.inl rfl))
   (aC (bP (i:=3) Z rfl (Or.inl rfl) (bb gD R rfl M.m M.F.kp M.b .nil bT (ah (pv 0) (ah (pv 8) az))))
   (bB (iR FM rfl (j8 rfl B.range (ah (cM pL (bb gT R rfl C.m C.F.kp C.b .nil bT (ah (pv 3) (ah aS az))) (ye Gn rfl B.int boot_int (ah (Fi HU (pv 4) aS (bD _)) az))) az)) (cn (i:=7) Z rfl (Or.inl rfl))
    (bB (cY (bb gTi R rfl Ti.m Ti.F.kp Ti.b .nil bT (ah (pv 5) (ah (pv 3) (ah (pv 2) az))))))))))
  (bB (gr (bb gRe R rfl Re.m Re.F.kp Re.b .nil bT (ah (pv 5) (ah (pv 6) (ah (bb gD R rfl M.m M.F.kp M.b .nil bT (ah (pv 0) (ah aS az))) az))))))))))),?_]
 refine#[_,rfl,a,ns,1,rfl,hS,nQ,∅,∅,λl X H1 s1 Lg ug fb hz=>?_]
 refine#[_,rfl,_,rfl,l,X,m,rfl,ug,fb,(),(),(),λdI nI d0 d1 qe Lj=>?_]
 exists _,_,rfl,rfl;obtain⟨d,rfl⟩:=tI d0;have em:(1:Int)+(d:Int)=((d+1:Nat):Int):=()
 show w9 4 (V.int (1+(d:Int))) _ _ _;rw[em];have hm:((d+1:Nat):Int)<=m:=()
 generalize d+1=n at hm em;have RB:1<=n:=()
 refine#[_,rfl,_,rfl,l,nI,n,rfl,af,qe,(),RB,(),λT G w0 l0 H2 off N5 NQ R2 g0 len0 rY u7 OJ dg0=>?_]
 have vR:l≠T:=λz=>by rw[<-z,af] at N5;cases N5
 have lC:l∉G:=λz=>by have:=NQ l z;rw[af] at this;cases this
 have s2:aB H H2:=λb u g=>off b u (~~~ao g Lg) (by rw[ag (ao g Lg)];exact s1 b u g)
 have hTH:H T=none:=by
  cases e:H T with
  |none=>rfl
  |some u=>rw[ag (Ne.symm vR),s1 _ _ e] at N5;cases N5
 have frH:∀x∈G,H x=none:=λx I=>by
  cases e:H x with
  |none=>rfl
  |some u=>
   have:=NQ x I
   rw[ag (λz=>lC (by rw[<-z];exact I)),s1 _ _ e] at this;cases this
 refine#[by show 0<=sizeLine;decide,λO hO=>?_]
 have Xg:l≠O:=ao rY hO;have nOT:T≠O:=ao R2.top hO
 have UD:O∉G:=λz=>by
  obtain⟨k,hk⟩:=iA z;rw[R2.row k O hk] at hO;cases hO
 have hOH:H O=none:=s2.free hO;refine#[_,rfl,(n:Int),rfl,(),(),l6 (n:=((n:Int)).toNat) (λi J p=>∃(ord:List Nat)(X:List Int)(v:Option V),J= [some (.ref a),some (.int m),some (.bl b),some (.ref l),some (.int (n:Int)),some (.ref T),some (.ref O),v,none]/\aB H p/\aH p T G w0/\p O\(.lst (bg ord))/\ord.Perm (aM i)/\p l\(.lst (X.map V.int))/\X≠ []/\X.length<=2) ?_ ?_ ?_]
 .refine#[[],l0,none,rfl,s2.trans (ay hO _),R2.off (S:= []) (Off.of_same (ay hO _)) (by simp) (by simp),af,List.Perm.refl _,?_,u7,OJ]
  rw[ag Xg];exact rY
 .rintro i J H3 hi ⟨ord,VD,v,rfl,s3,R3,N4,PC,Lh,Up,hz3⟩
  rw[lS] at hi;have lo:ord.length=i:=by rw[PC.length_eq,oY]
  have Hs:(0:Int)+(i:Int)=(i:Int):=()
  refine#[_,rfl, .inl #[rfl,_,aG.of N4],_,rfl,_,rfl,_,_,rfl,rfl,l,VD,_,rfl,Lh,Up,(),(),(),λeI VE e0 e1 ZV hz4=>?_]
  obtain⟨e,rfl⟩:=tI e0;have hO4:upd H3 l (.lst (VE.map V.int)) O\(.lst (bg ord)):=by rw[ag (Ne.symm Xg)];exact N4
  refine#[_,rfl,O,_,_,_,rfl,rfl,hO4,(),by rw[bZ];lia,oX (by rw[bZ];exact ad9 lo) (aZ ()),?_]
  rw[Hs,lS,<-pT];refine#[ins ord e i,VE,_,rfl,λb u g=>?_,?_,af,?_,?_,ZV,()]
  .rw[ag (ao g hOH),ag (ao g Lg)];exact s3 b u g
  .refine R3.keep λb o=>?_
   rw[ag (λz=>?_),ag (λz=>?_)]
   .rcases o with o|o
    .exact vR (z.symm.trans o)
    .rw[z] at o;exact lC o
   .rcases o with o|o
    .exact nOT (o.symm.trans z)
    .rw[z] at o;exact UD o
  .refine(pF ord e i).trans ?_
   rw[acW];refine(List.Perm.cons i PC).trans ?_;exact(List.perm_append_singleton i (aM i)).symm
  .rw[ag Xg,af]
 rintro J H3 ⟨ord,VD,v,rfl,s3,R3,N4,PC,Lh,Up,hz3⟩;rw[lS] at PC;have od:Ord ord n:=#[PC];refine#[by show 2<=sizeLine;decide,λy K9=>?_]
 have s4:=ay K9 (.lst [V.int 2,V.int 3]);have e4:upd H3 y (.lst [V.int 2,V.int 3]) y\(.lst [V.int 2,V.int 3]):=af;have nLT:y≠T:=Ne.symm (ao R3.top K9);have nLO:y≠O:=Ne.symm (ao N4 K9)
 have aak:y∉G:=λz=>by
  obtain⟨k,hk⟩:=iA z;rw[R3.row k y hk] at K9;cases K9
 have hLH:H y=none:=s3.free K9;generalize upd H3 y (.lst [V.int 2,V.int 3])=H4 at s4 e4;have R4:aH H4 T G w0:=R3.off (S:= []) (Off.of_same s4) (by simp) (by simp)
 refine#[y,rfl,#[_,aG.of e4],K0 (K:=K) (a:=y) (xs:= [V.int 2,V.int 3]) (λi J p=>∃(l':Addr)(L:W)(v Y:Option V),J= [some (.ref a),some (.int m),some (.bl b),some (.ref l'),some (.int (n:Int)),some (.ref T),some (.ref O),v,Y]/\aB H p/\aH p T G L/\Good L/\L.length=n/\p O\(.lst (bg ord))/\p y\(.lst [V.int 2,V.int 3])/\iE L<=26+38*i) ?_ ?_ ?_ ?_]
 .exact#[l,w0,v,none,rfl,s3.trans s4,R4,g0,len0,s4 _ _ N4,e4,()]
 .rintro i J p _ ⟨l',L,v,Y,rfl,_,_,_,_,_,hL,_⟩
  exact aG.of hL
 .rintro i x J H5 I ⟨l',L,v,Y,rfl,s5,R5,g5,lE,GV,V7,YX⟩
  obtain⟨k,vK,vL,rfl⟩:∃k:Int,0<=k/\k<=100/\x= .int k:=by
   match i,I with
   |0,I=>cases I;exact#[2,∅,∅,rfl]
   |1,I=>cases I;exact#[3,∅,∅,rfl]
   |n+2,I=>simp at I
  refine#[_,rfl,_,rfl,a,ns,k,rfl,s5.seq hS,nQ,vK,vL,λr VF H6 s6 t WI Ov hz6=>?_];have n2T:r≠T:=λz=>by rw[z,R5.top] at t;cases t
  have UC:r∉G:=λz=>by
   obtain⟨k,hk⟩:=iA z;rw[R5.row k r hk] at t;cases t
  have n2O:r≠O:=λz=>by rw[z,GV] at t;cases t
  have n2L:r≠y:=λz=>by rw[z,V7] at t;cases t
  have Zd:H r=none:=s5.free t;refine#[_,rfl,r,VF,20,rfl,WI,Ov,(),∅,∅,λcI Ep c0 c1 ZW hz7=>?_]
  refine#[_,rfl,_,_,rfl,rfl, .inr #[_,rfl,?_]];obtain⟨c,rfl⟩:=tI c0
  have R7:aH (upd H6 r (.lst (Ep.map V.int))) T G L:=(R5.off (S:= []) (Off.of_same s6) (by simp) (by simp)).keep λb o=>by
   refine ag λz=>?_
   rcases o with o|o
   .exact n2T (z.symm.trans o)
   .rw[z] at o;exact UC o
  have s7:aB H (upd H6 r (.lst (Ep.map V.int))):=λb u g=>by rw[ag (ao g Zd)];exact s6 _ _ (s5 b u g)
  have La:upd H6 r (.lst (Ep.map V.int)) O\(.lst (bg ord)):=by rw[ag (Ne.symm n2O)];exact s6 _ _ GV
  have Zl:upd H6 r (.lst (Ep.map V.int)) y\(.lst [V.int 2,V.int 3]):=by rw[ag (Ne.symm n2L)];exact s6 _ _ V7
  have p9:upd H6 r (.lst (Ep.map V.int)) r\(.lst (Ep.map V.int)):=af;generalize upd H6 r (.lst (Ep.map V.int))=H7 at R7 s7 La Zl p9;refine#[_,_,rfl,rfl, .inl #[(),()],?_]
  have Zu:∃N:Nat,(c:Int)*(if decide ((1:Int)<(n:Int))=true then 1 else 0)=(N:Int)/\N<20/\(0<N->2<=n):=by
   by_cases hn:(1:Int)<(n:Int)
   .rw[IR hn,mo rfl]
    exact#[c,(),(),λ_=>by lia]
   .rw[GT hn,tz ∅]
    exact#[0,(),(),λh=>by lia]
  obtain⟨N,eN,N20,N2⟩:=Zu;refine#[(N:Int),On (λz=> [V.int z]) eN,(),(),l6 (n:=((N:Int)).toNat) (λj J p=>∃(w2:W)(X:List Int)(v Y:Option V),J= [some (.ref a),some (.int m),some (.bl b),some (.ref r),some (.int (n:Int)),some (.ref T),some (.ref O),v,Y]/\aB H p/\aH p T G w2/\Good w2/\w2.length=n/\p O\(.lst (bg ord))/\p y\(.lst [V.int 2,V.int 3])/\p r\(.lst (X.map V.int))/\X≠ []/\X.length<=2/\iE w2<=iE L+2*j) ?_ ?_ ?_]
  .exact#[L,Ep,_,_,rfl,s7,R7,g5,lE,La,Zl,p9,ZW,(),()]
  .rintro j J H8 hj ⟨w2,YZ,v,Y,rfl,s8,R8,g8,Ux,Wa,V8,ZO,Ur,hz8,YY⟩
   rw[lS] at hj;have n2:=N2 ()
   refine#[_,rfl,_,rfl,_,rfl,T,r,b,G,w2,YZ,rfl,R8,g8,(),(),ZO,Ur,hz8,n2T,UC,λw3 ds9 H9 Pe R9 g9 abv hl9 ZX hz9 dg9=>?_]
   refine#[w3,ds9,_,_,rfl,λb u g=>Pe b u (λz=>?_) (s8 b u g),R9,g9,(),Pe _ _ (λz=>?_) Wa,Pe _ _ (λz=>?_) V8,hl9,ZX,hz9,()]
   .rcases eL.mp z with z|z
    .rw[z,Zd] at g;cases g
    .rw[frH b z] at g;cases g
   .rcases eL.mp z with z|z
    .exact n2O z.symm
    .exact UD z
   .rcases eL.mp z with z|z
    .exact n2L z.symm
    .exact aak z
  .rintro J H8 ⟨w2,YZ,v,Y,rfl,s8,R8,g8,Ux,Wa,V8,ZO,Ur,hz8,YY⟩
   rw[lS] at YY;exact#[r,w2,v,Y,rfl,s8,R8,g8,Ux,Wa,V8,()]
 .rintro J H5 ⟨l',L,v,Y,rfl,s5,R5,g5,lE,GV,V7,YX⟩
  refine#[_,rfl,_,rfl,_,rfl,a,ns,4,rfl,s5.seq hS,nQ,∅,∅,λl4 VF H6 s6 t WI Ov hz6=>?_]
  have n4T:l4≠T:=λz=>by rw[z,R5.top] at t;cases t
  have aai:l4∉G:=λz=>by
   obtain⟨k,hk⟩:=iA z;rw[R5.row k l4 hk] at t;cases t
  have n4O:l4≠O:=λz=>by rw[z,GV] at t;cases t
  have h4H:H l4=none:=s5.free t;have XI:=s5.trans s6;refine#[T,O,l4,G,L,ord,VF,rfl,(let Q5:=R5.off (S:= []) (Off.of_same s6) (by simp) (by simp);#[Q5.top,Q5.len,Q5.row]),g5,(),s6 _ _ GV,by rw[lE];exact od,WI,Ov,hz6,n4T,aai,n4O,λF fs w' p off hF fr R' g' abt dg' _=>?_]
  refine q F fs w' p (λb u g=>off b u (~~~ao g h4H) (XI b u g)) (XI.free hF) (λx I=>XI.free (fr x I)) R' g' () () (by rw[dg'];simp at YX;lia)
end
end rB
namespace wB
open PySem L2 Wb
variable {P:Program} {w:World} {mg:Str->Option Value} {base:Heap} {Z:DC} (T:Txt Z mg)
theorem JY{Z:DC}:∀(fs:List Addr)(w:W),fs.length=w.length->(∀(i:Nat) a,fs[i]?\a->G a\(.lst (rB.bg (row w i))))->DvAll Z G (fs.map V.ref) (w.map aF)
 | [],[],_,_=> .nil
 | [],_::_,h,_=>by cases h
 |_::_,[],h,_=>by cases h
 |a::fs,r::w,h,k=>by
  refine .cons ?_ (JY fs w (~~~h) λi b d=>k (i+1) b (~~~d))
  have c:G a\(.lst (rB.bg r)):=k 0 a rfl;refine Dv.lst c ?_;unfold rB.bg;clear c k h
  induction r with
  |nil=>exact .nil
  |cons x r e=>exact .cons (.int _) e
def To:c8:=λa P=>∃(c:List Int)(m:Nat)(b:Bool),a= [.oP c,aA m, .bl b]/\1<=m/\m<=14/\∀w,Good w->1<=w.length->w.length<=m->P (bH w)
def Jq{Z:DC}(T:Txt Z a):rB.zf a:=#[T.B.len,T.B.range,T.B.max,T.B.min,T.B.enumerate,T.B.zip,T.B.sorted,T.B.all,T.B.isinstance,T.B.int,T.B.bool,T.B.list,T.B.tuple]
def CN:FnOk P w Z.K mg base bQ 4 T.d__law_web.f T.d__law_web.fd ["_law_script","_law_most","_law_plane_here"] (aY Z To):=by
 refine(rB.Ph (Jq T) T.d__law_cell T.d__law_mixed T.d__law_digits T.d__law_take T.d__law_tree T.d__law_next T.d__law_round T.d__law_tie T.d__law_renamed T.d__law_web).imp ?_;rintro N H Q E ⟨G,O,P,s,dv,⟨r,m,b,rfl,S,t,u⟩,q⟩;obtain⟨X,Y,rfl,v,dv⟩:=dv.CL;obtain⟨v2,v3,rfl,x,y⟩:=dv.qX;obtain⟨a,rfl,A,B⟩:=v.xX;obtain rfl:=x.ofInt;obtain rfl:=y.xW;refine#[a,r,m,b,rfl,A.mono s,B,(),(),λF fs j k l C h R g I lm _=>?_]
 let d:Addr->Prop:=λb=>b=F\/b∈fs
 have n:∀b,d b->H b=none:=λb c=>by
  rcases c with rfl|c
  .exact C
  .exact h b c
 have J:∀b o,H b\o->¬d b:=λb o e z=>by rw[n b z] at e;cases e
 have L:Ext G H (plus G k d) k:=#[λb o e=>by rw[fW (J b o (s _ _ e))];exact e,λb o e=>by
  by_cases z:d b
  .rw[i6 z] at e;exact e
  .rw[fW z] at e;exact l _ _ (s _ _ e),l,λb c M=>by
  rw[fW (λz=>c (n b z))];exact M]
 refine q _ (u j g I ()) _ _ _ L (Dv.lst (xs:=fs.map V.ref) (by rw[i6 (.inl rfl)];exact R.top) (JY fs j R.len λi a p=>?_))
 rw[i6 (.inr (cV p))];exact R.row i a p
def Qd:c8:=λa P=>∃(b:List Int)(k:Nat),a= [.oP b,aA k]/\k<=100/\∀v:Int,P (.int v)
def zQ:FnOk P w Z.K mg base bQ 1 T.d__law_cell.f T.d__law_cell.fd ["_law_script","_law_k"] (aY Z Qd):=by
 refine(rB.x9 T.d__law_cell).imp ?_;rintro l H Q E ⟨G,m,P,s,dv,⟨c,k,rfl,n,d⟩,q⟩;obtain⟨o,p,rfl,e,g⟩:=dv.qX;obtain⟨a,rfl,h,i⟩:=e.xX;obtain rfl:=g.ofInt;refine#[a,c,k,rfl,h.mono s,i,(),(),λv j b=>?_]
 exact q _ (d v) _ G j #[.refl _,s.trans b,b,λ_ _ z=>z] (.int v)
variable {P:Program} {w:World} {mg:Str->Option Value} {base:Heap} {Z:DC} (T:Txt Z mg)
noncomputable def gd(l:List Int):List D:=l.map D.int
def Td:c8:=λb P=>∃(c:List Int)(k:Nat),b= [.oP c,aA k]/\k<=100/\∀a:List Int,a≠ []->a.length<=2->P (.lst (gd a))
def lH:FnOk P w Z.K mg base bQ 3 T.d__law_digits.f T.d__law_digits.fd ["_law_script","_law_at"] (j4 Z 1 Td):=by
 refine(rB.ya (Jq T) T.d__law_cell T.d__law_mixed T.d__law_digits).imp ?_;rintro v H Q E ⟨G,x,P,s,dv,⟨h,k,rfl,y,i⟩,q⟩;obtain⟨A,B,rfl,j,l⟩:=dv.qX;obtain⟨a,rfl,m,n⟩:=j.xX;obtain rfl:=l.ofInt;refine#[a,h,k,rfl,m.mono s,n,(),(),λr c o d e g p t=>?_]
 refine q _ (i c p t) (.ref r) [r] G o #[.refl _,s.trans d,d,λ_ _ z=>z] (.inl #[r,_,_,[],rfl,rfl,g,rfl,(DvAll.ints c).own]) (by simp) λb u=>?_
 have:b=r:=by simpa using u
 subst this;exact#[e,(by rw[g];exact λz=>nomatch z),s.free e]
section
variable {X:Cx} {md:List Nat}
def Nb(i:Nat)(t:cy):cy:=λE a=>(∃d,a[i]?\(some d))/\t {nx:=λ_=>False,rt:=E.rt} a
def iW(i:Nat)(h:ko Z X (md.set i 0) 0 f t):ko Z X md 0 f (Nb i t):=by
 refine jz.imp h ?_;rintro p q H ⟨B,k,E,⟨G,r,S⟩,⟨⟨d,g⟩,l⟩,M⟩;obtain⟨v,m,dv,a⟩:=S.JX g;refine#[B,k,_,#[_,_,#[a.ex,a.fl,S.len,λj c b=>?_,a.nd,a.ap,a.nw]],l,#[λ_ z=>z.elim,M.rt,λ_ z=>z.elim,λ_ z=>z.elim,λ_ _ z=>z.elim]]
 by_cases e:j=i
 .subst e
  rw[g] at b;cases b;exists v,m
  have:(md.set j 0).getD j 0=0:=by
   rw[fq,lT]
   split<;>first| (split<;>rfl) |exact absurd rfl ‹_›
  rw[this,mo rfl];exact#[dv,rfl]
 .obtain⟨u,n,o⟩:=a.at_ j c (by rw[jb (Ne.symm e)];exact b)
  exists u,n
  have:(md.set i 0).getD j 0=md.getD j 0:=by rw[fq,fq,jb (Ne.symm e)]
  rw[this];exact o
end
variable {P:Program} {w:World} {mg:Str->Option Value} {base:Heap} {Z:DC} (T:Txt Z mg)
section
variable {X:Cx} {md:List Nat}
def Ag(g:List Nat)(i n j:Nat)(h:aQ):cy:=λE a=>∃(c f:List D)(b:List Int),a[i]?\(some (.lst c))/\a[n]?\(some (.lst f))/\a[j]?\(some (.lst (gd b)))/\b≠ []/\b.length<=1000/\c.length<sizeLine/\h (Ds g true a) λk=>∃m:Int,k= .int m/\0<m/\m<1073741824/\
 ∀(d:Int)(e:List Int),0<=d->d<m->e≠ []->e.length<=b.length->∃v,f7 f d\v/\E.nx ((a.set j (some (.lst (gd e)))).set i (some (.lst (c++ [v]))))
def Er(i n j:Nat){P:List Str}(F:FnOk X.prog X.w X.K X.mg X.base bQ k s Y P rB.Dc)(hr:bJ k X.A)(hg:Gl X f)(ui:X.mg f\(.ref s))(hk:am X.K (.ref s)=true)(hb:Binds X.K Y P [])
  (hm:DE Z X em R) (ij:i≠j:=by decide) (nj:n≠j:=by decide) (T:md.getD i 0=1:=by rfl) (xr:md.getD j 0=1:=by rfl) (ZT:md.getD n 0=1:=by rfl) (hi:X.N[i]?\x:=by rfl) (hj:X.N[j]?\y:=by rfl) (t:X.N[n]?\z:=by rfl)
  (hv:nz X.env.scope x:=by subst_eqs) (W0:nz X.env.scope y:=by subst_eqs) (C:nz X.env.scope z:=by subst_eqs)
  (hd:(x==("__debug__":Str))=false:=by decide) (fK:(x==("__classdict__":Str))=false:=by decide) (Ww:(y==("__debug__":Str))=false:=by decide) (Wo:(y==("__classdict__":Str))=false:=by decide) (I:(z==("__debug__":Str))=false:=by decide) (Rq:(z==("__classdict__":Str))=false:=by decide) (eQ:(f==("__debug__":Str))=false:=by decide)
  (e8:attributeBase (.Name x q) "append" X.env (eval (.Name x q) X.env)=eval (.Name x q) X.env:=by rfl)
  (lB:((backTo e (starEach [.Subscript (.Name z c) (.Call (.Name f p) [.Name y py,em] [] b) g] X.env)).all (λx=>!x.1)&&(backToKw e (keywordEach [] X.env)).all (λx=>x.1.isSome)&&decide (([.Subscript (.Name z c) (.Call (.Name f p) [.Name y py,em] [] b) g]:List Expr).length+([]:List Keyword).length+(if ([]:List Keyword).isEmpty then 0 else 1)<30))=true:=by rfl)
  (cT:(a.endLine==e.line)=true:=by rfl) (hs:starEach [.Subscript (.Name z c) (.Call (.Name f p) [.Name y py,em] [] b) g] X.env=(false,eval (.Subscript (.Name z c) (.Call (.Name f p) [.Name y py,em] [] b) g) X.env)::starEach [] X.env:=by rfl) (fU:(backTo e (starEach [] X.env)).any (·.1)=false:=by rfl)
  (zF:starEach [.Name y py,em] X.env=(false,eval (.Name y py) X.env)::starEach [em] X.env:=by rfl) (WU:starEach [em] X.env=(false,eval em X.env)::starEach [] X.env:=by rfl) (b9:(backTo b (starEach [em] X.env)).any (·.1)=false:=by rfl) (Cb:nu (.Call (.Name f p) [.Name y py,em] [] b):=by exact λ_ _=>rfl)
  (n0:swapsWith (.Call (.Attribute (.Name x q) "append" a) [.Subscript (.Name z c) (.Call (.Name f p) [.Name y py,em] [] b) g] [] e) none r.line X.env=pure false:=by rfl):
  DSt Z X md rn (.Expr (.Call (.Attribute (.Name x q) "append" a) [.Subscript (.Name z c) (.Call (.Name f p) [.Name y py,em] [] b) g] [] e) r) (Ag md i n j R):=by
 refine(cY (gF GM abX abY iJ (pv i hi hv hd fK) (ah (cC bG (pv n t C I Rq) (bb F hr hg ui hk hb .nil bT (ah (pv j hj W0 Ww Wo) (ah hm az WU) zF) eQ zF b9) Cb) az hs) e8 lB cT hs fU) n0).imp ?_;rintro Dn σ H ⟨B,ρ,E,⟨G,fp,S⟩,⟨xs,ss,ns,h1,h0,h2,fb,hz,J,h⟩,M⟩;obtain⟨l,xs0,_,_,e2,e3,_⟩:=S.one T h1;obtain⟨lj,xsj,dsj,ej1,NA,ej3,_⟩:=S.one xr h2;obtain⟨an,xn0,_,_,en,_,_⟩:=S.one ZT h0;refine#[_,e2,ty_list e3,_,en,_,NA,S.ev true h λm' qO=>#[(by obtain⟨m,rfl,_⟩:=qO;rfl),λv G1 H1 S1 x1 dv=>?_]]
 obtain⟨m,rfl,m0,m1,h⟩:=qO;cases dv;obtain⟨lk,xk,dk,L,k2,k3,VL,PJ⟩:=S1.one xr h2;have L:ns.map D.int=dk:=by cases L;rfl
 subst L;rw[NA] at k2;cases k2;obtain rfl:=nK VL;refine#[lj,ns,m,rfl,k3,fb,hz,m0,m1,λd o d0 dm O l'=>?_];have S2:=PJ (o.map V.int) (o.map D.int) (.ints o);obtain⟨v,BY,t⟩:=h d o d0 dm O l';have V0:(ρ.set j (some (.lst (o.map D.int))))[n]?\(some (.lst ss)):=by rw[jb (Ne.symm nj)];exact h0
 obtain⟨l4,xn,VE,r1,r2,r3,W3,_⟩:=S2.one ZT V0;cases r1;rw[en] at r2;cases r2;obtain⟨u,hu,du⟩:=v5 W3 BY;have Rm:(ρ.set j (some (.lst (o.map D.int))))[i]?\(some (.lst xs)):=by rw[jb (Ne.symm ij)];exact h1
 obtain⟨l3,Q,VD,q1,q2,q3,bx,put⟩:=S2.one T Rm;cases q1;rw[e2] at q2;cases q2;exists an,xn,d,u,rfl,rfl,aG.of r3,hu;exact#[l,Q,u,rfl,rfl,q3,by rw[bx.length];exact J,M.nx _ t _ _ #[_,fp,put _ _ (bx.snoc du)]]
def M5(h:List Nat)(j:Nat)(i:c9)(k:aQ)(f:Int)(g:cy):cy:=λE a=>i a λb=>if b=true then g E a else ∃c:List Int,a[j]?\(some (.lst (gd c)))/\c≠ []/\c.length<=1000/\k (Ds h false a) λl=>∃m:Int,l= .int m/\0<m/\m<1073741824/\
 ∀(d:Int)(e:List Int),0<=d->d<m->e≠ []->e.length<=c.length->(d=f->g E (a.set j (some (.lst (gd e)))))/\(d≠f->E.nx (a.set j (some (.lst (gd e)))))
theorem GC(j:Nat){T:cy}(hu:X.A.units+64<cLine)(F:FnOk X.prog X.w X.K X.mg X.base bQ k q fd ps rB.Dc)(hr:bJ k X.A)(hg:Gl X f)(ui:X.mg f\(.ref q))(hk:am X.K (.ref q)=true)(i:Binds X.K fd ps [])
  (ha:DT Z X a R) (hm:DE Z X em Y) (r:DE Z X o (dC (.int g))) (s:ko Z X md rn e T) (xr:md.getD j 0=1:=by rfl) (hj:X.N[j]?\y:=by rfl) (W0:nz X.env.scope y:=by subst_eqs)
  (Ww:(y==("__debug__":Str))=false:=by decide) (Wo:(y==("__classdict__":Str))=false:=by decide) (eQ:(f==("__debug__":Str))=false:=by decide)
  (zF:starEach [.Name y py,em] X.env=(false,eval (.Name y py) X.env)::starEach [em] X.env:=by rfl) (WU:starEach [em] X.env=(false,eval em X.env)::starEach [] X.env:=by rfl) (b9:(backTo Q (starEach [em] X.env)).any (·.1)=false:=by rfl) (WL:behindInMarks .Eq o=false:=by exact bD _):
  DSt Z X md rn (.If (.BoolOp .Or [a, .Compare (.Call (.Name f p) [.Name y py,em] [] Q) [.Eq] [o] cp] bp) e [] n) (M5 md j R Y g T):=by
 refine(uE (PW.pt (PK ha (JU (hZ (j5 (Z:=Z) hu) (bb F hr hg ui hk i .nil bT (ah (pv j hj W0 Ww Wo) (ah hm az WU) zF) eQ zF b9) r WL)))) s lN).imp ?_;rintro Dn σ H ⟨B,ρ,E,⟨G,z,S⟩,h,M⟩;refine S.VS h λb i H' C=>?_;cases b with
 |true=>exact dU (dU #[B,ρ,E,#[G,z,C],i,M])
 |false=>
  obtain⟨I,h2,fb,hz,h⟩:=(show ∃I:List Int,_ from i);obtain⟨lj,xsj,dsj,ej1,NA,ej3,_⟩:=C.one xr h2;refine dS #[_,NA,C.ev false h λm' qO=>#[trivial,λv G1 H1 S1 x1 dv=>?_]];obtain⟨m,rfl,m0,m1,h⟩:=qO;cases dv;obtain⟨lk,xk,dk,J,k2,k3,VL,PJ⟩:=S1.one xr h2;have J:I.map D.int=dk:=by cases J;rfl
  subst J;rw[NA] at k2;cases k2;obtain rfl:=nK VL;refine#[lj,I,m,rfl,k3,fb,hz,m0,m1,λd l d0 dm L l'=>?_];have S2:=PJ (l.map V.int) (l.map D.int) (.ints l);obtain⟨hy,vM⟩:=h d l d0 dm L l';refine S2.ev (t:=dC (.int g)) (P:=λx=>x= .int g) false rfl λx hx=>#[trivial,λu G3 H3 S3 x3 du=>?_];subst hx;cases du.ofInt;refine#[G3, .int d, .int g,λx=>x= .bl (decide (d=g)),S3.ex.sub, .int d, .int g,Ei rfl,?_];rintro _ rfl v G4 H4 x4 O;cases O.xW;have S4:=S3.grow x4;exists _,rfl
  by_cases c:d=g
  .rw[IR c]
   exact dU #[B,_,E,#[_,z,S4],hy c,M]
  .rw[GT c]
   exact dS (M.nx _ (vM c) _ _ #[_,z,S4])
end
variable {P:Program} {w:World} {mg:Str->Option Value} {base:Heap} {Z:DC} (T:Txt Z mg)
def C9:c8:=λa P=>∃(w:W)(d:Nat×Nat),a= [bH w,pairD d]/\Good w/\aV w d/\P (pairD (vS w d))
def qg:FnOk P w Z.K mg base bQ 1 T.d__law_next.f T.d__law_next.fd ["_law_turns","_law_side"] (aY Z C9):=by
 have i:=ql.nd;refine bF T.d__law_next.F ql [0,0,0,0] ∅ (λm R h=>by obtain⟨_,_,rfl,_⟩:=h;rfl) (λr A outer s H E m R n h=>?_)
 have t:=n.units
 refine#[_,(av (Jw (U 1) (fA 2 rfl (aP (aK 2 i) (aP (aK 3 i) cQ))))
   (aw (ba (cF (ae (U 3) (ae (fJ (fJ (U 0) (U 3)) (kR CJ (kR we (tY (fJ (U 0) (U 3)) (U 2)) bh) (cz kF rfl T.B.len kD (ae (fJ (U 0) (U 3)) au)))) au)))))),?_]
 obtain⟨a,d,rfl,g,j,q⟩:=h;have b:=g.rng _ _ j;have k:d.1∈row a d.2:=g.sym _ _ j;have l:((row a d.2).map aA).length=(row a d.2).length:=aI _;have c:0<(row a d.2).length:=yY k;have o:(0:Int)<(((row a d.2).map aA).length:Int):=by rw[l];lia
 have e:=jD k;exists _,rfl,rfl,rfl;have em:(((row a d.2).idxOf d.1:Nat):Int)+1=(((row a d.2).idxOf d.1+1:Nat):Int):=()
 have p:((((row a d.2).idxOf d.1:Nat):Int)+1)%(((row a d.2).map aA).length:Int)=((((row a d.2).idxOf d.1+1)%(row a d.2).length:Nat):Int):=by rw[l,em,adO]
 have at_:f7 ((row a d.2).map aA) (((((row a d.2).idxOf d.1:Nat):Int)+1)%(((row a d.2).map aA).length:Int))\(aA (jm (row a d.2) d.1)):=by
  rw[p];exact gn (aco _ c)
 exists _,rfl,_,rfl,_,rfl,_,sL b,_,rfl,_,rfl,_,sL b;exact#[_,rfl,_,rfl,rfl,gH _,_,_,e.1,e.2.1,e.2.2,_,rfl,_,rfl,_,sL b,o,_,at_,by show 2<=sizeLine;decide,q]
def Mu:c8:=λa P=>∃(w:W)(d:Nat×Nat),a= [bH w,pairD d]/\Good w/\w.length<=14/\aV w d/\∀r,gf w d r->P (.lst (r.map pairD))
def xZ:FnOk P w Z.K mg base bQ 2 T.d__law_round.f T.d__law_round.fd ["_law_turns","_law_side"] (aY Z Mu):=by
 have i:=oK.nd;refine bF T.d__law_round.F oK [0,0,1,0] ∅ (λr R h=>by obtain⟨_,_,rfl,_⟩:=h;rfl) (λy A outer s H E r R l h=>?_)
 have t:=l.units
 refine#[_,(av (gZ 2 i (gY (ae (U 1) au)))
   (av (b8 false 3 i (aU T.d__law_next (qg T) l (ae (U 0) (ae (U 1) au))))
   (av (t9 FM (bU (HN t) (U 3) (U 1) (bD _)) (av (iP false 2 (U 3))
   (aw (b8 false 3 i (aU T.d__law_next (qg T) l (ae (U 0) (ae (U 3) au)))))))
   (aw (ba (U 2)))))),?_]
 obtain⟨a,d,rfl,g,h14,n,q⟩:=h;have z:=fI g;have B:a.length*a.length<=14*14:=tL h14 h14;refine#[_,rfl,by show 1<=sizeLine;decide,?_]
 exists _,rfl,_,rfl,a,d,rfl,g,n,trivial;refine rz (λm u=>∃k,0<k/\m+k=(aW a).length+1/\(∀j,0<j->j<k->cU a j d≠d)/\u= [some (bH a),some (pairD d),some (.lst ((walk a d k).map pairD)),some (pairD (cU a k d))]) (aW a).length #[1,(),rfl,λj b p=>by lia,rfl] ?_
 rintro m _ ⟨k,v,C,o,rfl⟩;have x:=gI g n k;exists _,rfl,_,rfl;refine Ah #[_,rfl,eM (λe=>?_) (λe=>?_)]
 .have ne:cU a k d≠d:=by simpa using e
  have lt:k<(aW a).length:=by
   have:=tu g n (k:=k+1) λj b p=>by
    by_cases c:j=k
    .subst c;exact ne
    .exact o j b ()
   lia
  refine#[_,rfl,_,rfl,trivial,aZ (by rw[aI,iM];lia),?_]
  exists _,rfl,_,rfl,a,cU a k d,rfl,g,x,trivial;refine#[m-1,(),k+1,(),(),λj b p=>?_,?_]
  .by_cases c:j=k
   .subst c;exact ne
   .exact o j b ()
  .rw[rq,cD];rfl
 .have e:cU a k d=d:=by simpa using e
  exact#[_,rfl,q _ #[k,v,e,o,rfl]]
def qb.off{w:W}{a:List (List (Nat×Nat))}(h:qb w a)(R:gf w d r)(f:d∉a.flatten):∀x∈r,x∉a.flatten:=λx g z=>by
 obtain⟨b,c,i⟩:=oZ.mp z;obtain⟨e,j,_⟩:=h b c;obtain⟨n,k⟩:=R.back g;exact f (oZ.mpr #[b,c,k▸j.iter i n])
def A9{w:W}(h:gf w d r)(c:gf w e r):d=e:=by
 obtain⟨k,g,_,_,rfl⟩:=h;obtain⟨m,i,_,_,f⟩:=c
 have:=On List.head? f
 obtain⟨a,rfl⟩:∃a,k=a+1:=#[k-1,()]
 obtain⟨b,rfl⟩:∃b,m=b+1:=#[m-1,()]
 unfold walk at this;rw[DP,DP] at this;exact Da this
def Fu{w:W}(g:Good w)(h:gf w d r)(b:aV w d):∃t,r.map (·.1)=d.1::d.2::t:=by
 obtain⟨k,c,a,_,rfl⟩:=h
 obtain⟨m,rfl⟩:∃m,k=m+2:=by
  exists k-2;apply FS;intro z;obtain rfl:k=1:=()
  have a:vS w d=d:=a;exact rG g b (On Prod.fst a).symm
 unfold walk;rw[DP,dq,dq,DP,dq,dq,dq];exact#[_,rfl]
theorem tV{w:W}:∀{rss:List (List (Nat×Nat))},qb w rss->rss.length<=rss.flatten.length
 | [],_=>bq _
 |r::rss,h=>by
  obtain⟨d,R,_⟩:=h r (dB ..)
  have:=yY R.first
  have:=tV (rss:=rss) λr a=>h r (eW _ a)
  rw[y9,dh,dG];lia
structure RL (w:W) (rss:List (List (Nat×Nat))) (c:Nat×Nat->Prop):Prop where
 rnd:∀r∈rss,∃d,gf w d r/\aV w d/\(∀e∈r,lexLe d e)/\c d
 ord:rss.Pairwise λr r'=>∀d e,gf w d r->gf w e r'->lexLe d e
 nd:rss.flatten.Nodup
 all:∀d,aV w d->c d->d∈rss.flatten
def RL.imp{w:W}{c i:Nat×Nat->Prop}(h:RL w g c)(k:∀d,aV w d->i d->c d\/d∈g.flatten)(l:∀d,c d->i d):RL w g i:=
 #[λr m=>let #[d,a,b,e,f]:=h.rnd r m;#[d,a,b,e,l d f],h.ord,h.nd,λd j n=>(k d j n).elim (h.all d j) id]
def RL.allR{w:W}(h:RL w e c):qb w e:=λr f=>let #[d,a,b,_]:=h.rnd r f;#[d,a,b]
def RL.add{w:W}(g:Good w)(h:RL w f c)(m:aV w d)(R:gf w d r)(A:d∉f.flatten)(lo:∀e,aV w e->¬c e->lexLe d e)(B:∀e,c e->lexLe e d)
  (C:∀e,c e->l e) (E:l d) (F:∀e,aV w e->l e->c e\/e=d):RL w (f++ [r]) l:=by
 have off:=qb.off h.allR R A
 have p:∀e∈r,aV w e:=λe i=>by
  obtain⟨k,_,_,_,rfl⟩:=R;exact mI g m e i
 have q:(f++ [r]).flatten=f.flatten++r:=by rw[tJ];simp
 refine#[λs j=>?_,?_,?_,λe i G=>?_]
 .rcases c5.mp j with j|j
  .obtain⟨e,n,t,u,o⟩:=h.rnd s j
   exact#[e,n,t,u,C e o]
  .rw[fZ] at j
   subst j;exact#[d,R,m,λe i=>lo e (p e i) λz=>off e i (h.all e (p e i) z),E]
 .refine qs.mpr #[h.ord,DM _ _,λs j L v x y X Y=>?_]
  rw[fZ] at v;subst v;obtain rfl:=A9 Y R;obtain⟨e,n,t,u,o⟩:=h.rnd s j;obtain rfl:=A9 X n;exact B _ o
 .rw[q,jx]
  refine#[h.nd,?_,λa H b I z=>off b I (z▸H)];obtain⟨k,_,_,J,rfl⟩:=R;exact oU g m J
 .rw[q]
  rcases F e i G with z|z
  .exact km _ (h.all e i z)
  .rw[z];exact fF _ R.first
def RL.lands{w:W}(g:Good w)(h:RL w f c)(all:∀d,aV w d->c d):ck w f/\ur w=i3 f:=by
 have p:f.flatten.Perm (aW w):=(F6 h.nd (fT g)).mpr λd=>#[λi=>bz.mpr (qb.dart g h.allR d i),λi=>h.all d (bz.mp i) (all d (bz.mp i))];have R:ck w f:=#[λr j=>let #[d,a,b,e,_]:=h.rnd r j;#[d,a,b,e],p];have o:=h.rnd;have q:=h.ord;refine#[R,AO g R ?_];unfold i3;rw[jc];refine q.imp_of_mem λ {r k} j s l=>?_;obtain⟨d,a,b,_,_⟩:=o r j;obtain⟨e,m,v,_,_⟩:=o k s;have le:=l d e a m;obtain⟨t,x⟩:=Fu g a b;obtain⟨B,n⟩:=Fu g m v
 by_cases z:d=e
 .subst z
  rw[a.uniq m];unfold n6;cases y:HT.lexLt (jn (k.map (·.1))) (jn (k.map (·.1))) with
  |false=>rfl
  |true=>exact absurd y (by rw[xM];simp)
 .have A:d.1<e.1\/(d.1=e.1/\d.2<e.2):=by
   unfold lexLe at le
   by_cases y:d.1=e.1
   .have:d.2≠e.2:=λu=>z (abJ y u)
    lia
   .lia
  rw[x,n];unfold n6 jn;rw[dq,dq,dq,dq,HT.gJ]
  split
  .rw[HT.gJ]
   split
   .lia
   .exact GT ()
  .exact GT ()
noncomputable def oQ(r:List (Nat×Nat)):D:= .lst (r.map pairD)
def FK:c8:=λb P=>∃(w:W),b= [bH w]/\Good w/\1<=w.length/\w.length<=14/\∀a,RS w a->P (.lst (a.map oQ))
def om:FnOk P w Z.K mg base bQ 3 T.d__law_lands.f T.d__law_lands.fd ["_law_turns"] (aY Z FK):=by
 have G:=oI.nd;refine bF T.d__law_lands.F oI [0,1,98,0,0,0,0] ∅ (λds R h=>by obtain⟨_,rfl,_⟩:=h;rfl) (λaT A outer s H E ds R hr h=>?_)
 have Q:=hr.units
 refine#[_,(av (eB (bU (j5 Q) (cz kF rfl T.B.len kD (ae (U 0) au)) bh (bD _)) (aw (ba (kH (ae (kH au) au)))) bM)
   (av (gZ 1 G (gY au))
   (av (Es 2 G)
   (av (df rfl FM (fg rfl T.B.enumerate (ae (U 0) au)) (fA 2 rfl (aP (aK 3 G) (aP (aK 4 G) cQ))) (aw (df rfl FM (bL (cz z8 rfl T.B.sorted jT (ae (U 4) au))) (aK 5 G) (aw (eB (bU (HP Q) (cF (ae (U 3) (ae (U 5) au))) (U 2) (by with_unfolding_all rfl)) (av (iP false 1 (aU T.d__law_round (xZ T) hr (ae (U 0) (ae (cF (ae (U 3) (ae (U 5) au))) au))))
   (aw (Nq 1 rfl FM (Q1 bh) (aK 6 G) (aw (Et 2 Q (U 6) lY))))) bM)))))
   (iW 1
   (aw (ba (U 1)))))))),?_]
 obtain⟨b,rfl,g,h1,h14,q⟩:=h;have lw:(b.map aF).length=b.length:=aI _;have c1:=fI g;have c2:b.length*b.length<=14*14:=tL h14 h14;exists _,rfl;dsimp only[uY,Jo,bH];refine NF #[_,rfl,eM (λe=>?_) (λe=>?_)]
 .have n1:b.length=1:=by
   have:((b.map aF).length:Int)=1:=M2 e
   lia
  exact#[by show 0<=sizeLine;decide,by show 1<=sizeLine;decide,q [[]] (.inl #[n1,rfl])]
 have L:2<=b.length:=by
  have:¬((b.map aF).length:Int)=1:=SC e
  lia
 refine#[by show 0<=sizeLine;decide,?_]
 exists _,rfl;refine(?_:ju _ _ _ (eD (b.map aF)) _)
 refine bS (λj M=>∃(a:List (List (Nat×Nat)))(i:List FV)(S X C n:Option D),M= [some (bH b),some (.lst (a.map oQ)),some (.x (.eG (a.flatten.map zz) i)),S,X,C,n]/\RL b a λd=>d.1<j)
  #[[],[],_,_,_,_,rfl,(λr h=>nomatch h), .nil,iB,λd _ h=>absurd h ()] ?_ ?_
 .rintro p _ _ l ⟨a,i,S,X,C,n,rfl,ok⟩ A N
  obtain⟨hp,rfl⟩:=yI l;exists rfl,rfl;have rl0:=fk g p;exists _,rfl;dsimp only[uY];refine Bg () λo Y srt=>?_
  refine bS (λm M=>∃(a:List (List (Nat×Nat)))(i:List FV)(C n:Option D),M= [some (bH b),some (.lst (a.map oQ)),some (.x (.eG (a.flatten.map zz) i)),some (aA p),some (aF (row b p)),C,n]/\RL b a λd=>d.1<p\/(d.1=p/\d.2∈o.take m))
   #[a,i,_,_,rfl,ok.imp (λd _ h=> .inl (h.elim id λz=>by simp at z)) λd h=> .inl h] ?_ ?_
  .clear ok
   rintro t _ _ l ⟨a,i,C,n,rfl,ok⟩ A N;obtain⟨k,hq,rfl⟩:=cL l;have de:aV b (p,k):=Y.mem_iff.mp (cV hq);have I:o.take (t+1)=o.take t++ [k]:=by rw[zd,hq];rfl
   refine#[_,rfl,_,rfl,by show 2<=sizeLine;decide,_,rfl,zz (p,k),_,i,rfl,rfl,_,rfl,?_]
   refine(?_:if (if true=true then !decide (zz (p,k)∈a.flatten.map zz) else _)=true then _ else _);rw[mo rfl,show decide (zz (p,k)∈a.flatten.map zz)=decide ((p,k)∈a.flatten) from acK.mpr pW];refine eM (λc=>?_) (λc=>?_)
   .have c:(p,k)∉a.flatten:=by simpa using c
    have fl:=aX ok.nd λe u=>bz.mpr (qb.dart g ok.allR e u);have rl:=tV ok.allR;refine#[_,rfl,_,rfl,_,rfl,_,rfl,by show 2<=sizeLine;decide,b,(p,k),rfl,g,h14,de,λr R=>?_]
    refine#[trivial,aZ (by rw[aI];lia),?_]
    have leq:∀y∈o.take t,y<=k:=λy v=>by
     rw[<-kP (t+1) o,I] at srt
     have:=(qs.mp (qs.mp srt).1).2.2
     exact this y v k (by simp)
    have geq:∀y∈o,y∉o.take t->k<=y:=λy v hn=>by
     have ed:o.drop t=k::o.drop (t+1):=by
      obtain⟨hl,e⟩:=cw.mp hq;rw[<-e];exact tG hl
     rw[<-kP t o,c5] at v;have v:=v.resolve_left hn;have s2:=(qs.mp (by rw[<-kP t o] at srt;exact srt)).2.1
     rw[ed] at v s2
     rcases eL.mp v with rfl|v
     .exact bq _
     .exact(List.pairwise_cons.mp s2).1 y v
    have O:RL b (a++ [r]) λd=>d.1<p\/(d.1=p/\d.2∈o.take (t+1)):=by
     refine RL.add g ok de R c (λe u nc=>?_) (λe J=>?_) (λe J=>J.imp id λz=>#[z.1,by rw[I];exact km _ z.2]) (.inr #[rfl,by rw[I];simp]) λe u J=>?_
     .unfold lexLe
      by_cases z:e.1=p
      .right
       refine#[z.symm,geq _ (Y.mem_iff.mpr ?_) λy=>nc (.inr #[z,y])];have u:e.2∈row b e.1:=u;rw[z] at u;exact u
      .left
       show p<e.1
       have:¬e.1<p:=λy=>nc (.inl y)
       lia
     .unfold lexLe
      exact J.imp id λz=>#[z.1,leq _ z.2]
     .rw[I] at J
      by_cases z:e=(p,k)
      .exact .inr z
      .exact .inl (J.imp id λh=>#[h.1,(c5.mp h.2).elim id λh2=>absurd (abJ h.1 (fZ.mp h2)) z])
    have ef:(a++ [r]).flatten=a.flatten++r:=by rw[tJ];simp
    have L:=O.nd;have Rj:=aX O.nd λe u=>bz.mpr (qb.dart g O.allR e u);rw[ef] at L Rj;rw[dh] at Rj;have BY:f7 (a.map oQ++ [.lst (r.map pairD)]) (-1)\(.lst (r.map pairD)):=Ks _ _;exists _,rfl,-1,r.map pairD,rfl,BY;refine bS (λj M=>∃(i:List FV)(n:Option D),M= [some (bH b),some (.lst (a.map oQ++ [.lst (r.map pairD)])),some (.x (.eG ((a.flatten++r.take j).map zz) i)),some (aA p),some (aF (row b p)),some (aA k),n]) #[i,n,by rw[zc,eJ];rfl] ?_ ?_
    .rintro j _ _ Of ⟨i,n,rfl⟩ A3 V2
     obtain⟨f,hf,rfl⟩:=cL Of;have TC:r.take (j+1)=r.take j++ [f]:=by rw[zd,hf];rfl
     have Xj:f∉a.flatten++r.take j:=λz=>by
      have sp:a.flatten++r=(a.flatten++r.take j)++(f::r.drop (j+1)):=by
       rw[kQ,<-cw.mp hf|>.2,acA,kP]
      rw[sp] at L;exact(jx.mp L).2.2 f z f (dB ..) rfl
     refine#[.bl true,_,i,rfl,rfl,_,rfl,zz f,rfl,λz=>Xj (pW.mp z),by rw[aI,dh,gO];lia,V2 _ #[i++ [.bl true],some (pairD f),?_]]
     rw[TC,<-kQ,cD (l₂:= [f])];rfl
    .rintro _ ⟨i,n,rfl⟩
     rw[aI,za];exact N _ #[a++ [r],i,some (aA k),n,by rw[ef,cD (f:=oQ)];rfl,O]
   .have c:(p,k)∈a.flatten:=M2 (by simpa only[Bool.not_eq_false'] using c)
    refine N _ #[a,i,_,_,rfl,ok.imp (λd _ l=>?_) λd l=>l.imp id λz=>#[z.1,by rw[I];exact km _ z.2]]
    rw[I] at l
    by_cases z:d=(p,k)
    .rw[z];exact .inr c
    .exact .inl (l.imp id λh=>#[h.1,(c5.mp h.2).elim id λh2=>absurd (abJ h.1 (fZ.mp h2)) z])
  .rintro _ ⟨a,i,C,n,rfl,ok⟩
   refine N _ #[a,i,_,_,_,_,rfl,ok.imp (λd GY l=> .inl ?_) λd l=>?_]
   .rw[aI,za]
    by_cases z:d.1=p
    .exact .inr #[z,Y.mem_iff.mpr (z▸GY)]
    .left;lia
   .rcases l with l|l<;>lia
 rintro _ ⟨a,i,S,X,C,n,rfl,ok⟩;rw[iF,lw] at ok;obtain⟨R1,R2⟩:=RL.lands g ok λd l=>iS l;exact#[#[_,rfl],_,rfl,q a (.inr #[L,R1,R2])]
variable {P:Program} {w:World} {mg:Str->Option Value} {base:Heap} {Z:DC} (T:Txt Z mg)
theorem Bb(r:List (Nat×Nat)):∀(l:List (List (Nat×Nat)))(n:Nat),h7 n (l++ [r])=h7 n l++r.map λ_=>FV.int ((n+l.length:Nat):Int)
 | [],n=>by simp[h7]
 |s::l,n=>by
  show _++h7 (n+1) (l++ [r])=_++h7 (n+1) l++_;rw[Bb r l (n+1),<-kQ,dG,show n+1+l.length=n+(l.length+1) by lia]
def RS.facts{w:W}(g:Good w)(h14:w.length<=14)(h:RS w c):c.flatten.Nodup/\c.flatten.length<=196:=by
 rcases h with ⟨_,rfl⟩ | ⟨_,R,_⟩
 .exact#[∅,∅]
 .obtain⟨a,b,_⟩:=Bc g h14 R
  exact#[a,b]
def Ms:c8:=λb P=>∃(w:W),b= [bH w]/\Good w/\1<=w.length/\w.length<=14/\∀a,RS w a->P (.x (.eG (m9 a) (h7 0 a)))
def lI:FnOk P w Z.K mg base bQ 4 T.d__law_by_side.f T.d__law_by_side.fd ["_law_turns"] (aY Z Ms):=by
 have c:=lP.nd;refine bF T.d__law_by_side.F lP [0,98,0,0,0] ∅ (λy R h=>by obtain⟨_,rfl,_⟩:=h;rfl) (λaT A outer s H E y R d h=>?_)
 have C:=d.units
 refine#[_,(av (Es 1 c)
   (av (df rfl FM (fg rfl T.B.enumerate (ae (aU T.d__law_lands (om T) d (ae (U 0) au)) au)) (fA 2 rfl (aP (aK 2 c) (aP (aK 3 c) cQ))) (aw (df rfl FM (bL (U 3)) (aK 4 c) (aw (Et 1 C (U 4) (U 2))))))
   (iW 1
   (aw (ba (U 1)))))),?_]
 obtain⟨k,rfl,g,G,h14,q⟩:=h;refine#[_,rfl,k,rfl,g,G,h14,λa p=>?_];obtain⟨c,I⟩:=p.facts g h14;refine(?_:ju _ _ _ (eD (a.map oQ)) _);refine bS (λj l=>∃(m n b:Option D),l= [some (bH k),some (.x (.eG ((a.take j).flatten.map zz) (h7 0 (a.take j)))),m,n,b]) #[_,_,_,rfl] ?_ ?_
 .rintro j _ _ J ⟨m,n,b,rfl⟩ A L
  obtain⟨x,M,rfl⟩:=jV J;obtain⟨r,d,rfl⟩:=cL M;have t:a.take (j+1)=a.take j++ [r]:=by rw[zd,d];rfl
  have N:=(cw.mp d).1;have o:(a.take (j+1)).flatten=(a.take j).flatten++r:=by rw[t,tJ];simp
  have sub:=Ji (cV d)
  have u:((a.take j).flatten++r).Nodup:=by
   rw[<-o];have e:a.flatten=(a.take (j+1)).flatten++(a.drop (j+1)).flatten:=by rw[<-tJ,kP]
   rw[e] at c;exact(jx.mp c).1
  have O:((a.take j).flatten++r).length<=196:=by
   rw[<-o];have e:a.flatten=(a.take (j+1)).flatten++(a.drop (j+1)).flatten:=by rw[<-tJ,kP]
   rw[e,dh] at I;lia
  exists rfl,rfl;exists _,rfl;refine(?_:ju _ _ _ (r.map pairD) _);refine bS (λi l=>∃(b:Option D),l= [some (bH k),some (.x (.eG (((a.take j).flatten++r.take i).map zz) (h7 0 (a.take j)++(r.take i).map λ_=>FV.int (j:Int)))),some (.int (j:Int)),some (oQ r),b]) #[b,by rw[zc,eJ,uV,eJ];rfl] ?_ ?_
  .rintro i _ _ Q ⟨b,rfl⟩ A3 S
   obtain⟨f,v,rfl⟩:=cL Q;have X:r.take (i+1)=r.take i++ [f]:=by rw[zd,v];rfl
   have Y:f∉(a.take j).flatten++r.take i:=λz=>by
    have sp:(a.take j).flatten++r=((a.take j).flatten++r.take i)++(f::r.drop (i+1)):=by
     rw[kQ,<-cw.mp v|>.2,acA,kP]
    rw[sp] at u;exact(jx.mp u).2.2 f z f (dB ..) rfl
   rw[dh] at O;refine#[_,rfl, .int (j:Int),_,_,rfl,rfl,_,rfl,zz f,rfl,λz=>Y (pW.mp z),by rw[aI,dh,gO];lia,S _ #[some (pairD f),?_]]
   rw[X,<-kQ,cD (l₂:= [f]) (f:=zz),cD (l₂:= [f]),<-kQ];rfl
  .rintro _ ⟨b,rfl⟩
   rw[aI,za];refine L _ #[_,_,_,by rw[o,t,Bb,gO,adV (pb N),iC]]
 .rintro _ ⟨m,n,b,rfl⟩
  rw[iF,aI,za];exact#[#[_,rfl],_,rfl,q a p]
def IK(r:Nat->List Nat)(n:Nat):cH r (n+1)=cH r n++((r n).filter λq=>decide (n<q)).map λq=>(n,q):=by
 unfold cH;rw[acW,List.flatMap_append];simp
def Iw:c8:=λb P=>∃(w:W),b= [bH w]/\Good w/\w.length<=14/\∀a:List (Nat×Nat),a.Perm (cH (row w) w.length)->a.Pairwise lexLe->P (.lst (a.map pairD))
def zR:FnOk P w Z.K mg base bQ 1 T.d__law_ties.f T.d__law_ties.fd ["_law_turns"] (aY Z Iw):=by
 have l:=qm.nd;refine bF T.d__law_ties.F qm [0,1,0,0] ∅ (λC R h=>by obtain⟨_,rfl,_⟩:=h;rfl) (λaT A outer s H E C R G h=>?_)
 have hu:=G.units
 refine#[_,(av (gZ 1 l (gY au))
   (av (df rfl FM (fg rfl T.B.enumerate (ae (U 0) au)) (fA 2 rfl (aP (aK 2 l) (aP (aK 3 l) cQ))) (aw (Q8 1 (nG (NC:= ["_law_b","_law_a"]) (src:= [none,some 2]) rfl (tX (aq jH)) #[rfl,rfl,trivial] (bL (cz z8 rfl T.B.sorted jT (ae (U 3) au))) (λ_ _ _=>(bK 0 (show(["_law_b","_law_a"]:List Str).Nodup from by decide+kernel))) (λ_ _ _=>(rM (bU CI (U 1) (U 0) (bD _)))) (λ_ _ _=>(cF (ae (U 1) (ae (U 0) au))))))))
   (iW 1
   (aw (ba (U 1)))))),?_]
 obtain⟨e,rfl,g,h14,q⟩:=h;have I:(e.map aF).length=e.length:=aI _;refine#[by show 0<=sizeLine;decide,?_]
 exists _,rfl;refine(?_:ju _ _ _ (eD (e.map aF)) _);refine bS (λj m=>∃(d:List (Nat×Nat))(n r:Option D),m= [some (bH e),some (.lst (d.map pairD)),n,r]/\d.Perm (cH (row e) j)/\d.Pairwise lexLe/\(∀t∈d,t.1<j)/\d.length<=j*14) #[[],_,_,rfl, .refl _, .nil,(λt h=>nomatch h),dA _] ?_ ?_
 .rintro p _ _ J ⟨d,n,r,rfl,k,srt,lo,L⟩ A M
  obtain⟨hp,rfl⟩:=yI J;exists rfl,rfl;have N:=fk g p
  have O:d.length<=196:=by
   have:p*14<=14*14:=tL () (bq _)
   lia
  exists _,rfl,_,rfl;dsimp only[uY];refine Bg () λu x v=>?_
  have ml:=x.length_eq;refine iQ (λm=>∃o,m= [o,some (aA p)]) aA (λq=>decide (p<q)) (λq=>pairD (p,q)) u _ [] _ (λy hy Q z Y Nn S X=>?_) #[_,rfl] (by rw[o9,iC];exact small ()) λQ z=>?_
  .obtain⟨o,rfl⟩:=z
   exists _,rfl,_,rfl,_,rfl;refine(?_:if decide ((p:Int)<(y:Int))=true then _ else _);refine eM (λc=>?_) (λc=>?_)
   .have c:p<y:=by have:=M2 c;lia
    exact#[_,rfl,_,rfl,by show 2<=sizeLine;decide,S _ #[_,rfl] (IR c)]
   .have c:¬p<y:=by have:=SC c;lia
    exact X _ #[_,rfl] (GT c)
  have fl:=DU (λq=>decide (p<q)) u;rw[qt];refine#[_,rfl,small (by rw[aI,aI];lia),M _ #[d++(u.filter λq=>decide (p<q)).map (λq=>(p,q)),some (.int (p:Int)),some (aF (row e p)),?_,?_,?_,?_,?_]]
  .rw[cD,dX];rfl
  .rw[IK]
   exact k.append ((x.filter _).map _)
  .refine qs.mpr #[srt,?_,λa ha b hb=>?_]
   .rw[jc]
    refine(v.filter _).imp λ {a b} h=>?_;exact .inr #[rfl,h]
   .obtain⟨y,_,rfl⟩:=c7.mp hb
    exact .inl (lo a ha)
  .intro t i
   rcases c5.mp i with i|i
   .have:=lo t i;lia
   .obtain⟨y,_,rfl⟩:=c7.mp i
    exact adD _
  .rw[dh,aI];lia
 .rintro _ ⟨d,n,r,rfl,k,srt,lo,L⟩
  rw[iF,I] at k;exact#[#[_,rfl],_,rfl,q d k srt]
end wB
namespace L2
open PySem PySem.Spec PyProof.Rows
open Classical in
noncomputable def qR(H:Hp)(a:Addr):Hp:=λb=>if b=a then none else H b
def uv(h:b≠a):qR H a b=H b:=tz h
def AV:qR H a a=none:=mo rfl
def E3:aB (qR H a) H:=λb o e=>by
 by_cases z:b=a
 .subst z;rw[AV] at e;cases e
 .rw[uv z] at e;exact e
def sj(Z:DC)(n:Nat)(j:c8):Sp:=λk H Q _=>∃(G:Hp)(g:List V)(a:Addr)(h:List V)(i l:List D)(P:D->Prop),k=g++ [.ref a]/\aB G H/\DvAll Z G g i/\H a\(.lst h)/\G a=none/\DvAll Z G h l/\j (i++ [.lst l]) P/\
 ∀d,P d->∀v f e c,Ext G (qR H a) e c->Own Z e c n v d f->f.Nodup->(∀b∈f,qR H a b=none/\c b≠none/\e b=none)->Q v c
section
variable {P:Program} {w:World} {K:ad} {mg:Str->Option Value} {base:Heap} {Z:DC}
theorem KY(B:Nat){x m:Str}{st:Stmt}{f:Addr}{T:FuncData}{N n:List Str}{k:Nat}{C:c8}(F:qy K x m st f T)(S:aE N n (aq st))(I:List Nat)(Hh:∀i,i<n.length-1->I.getD i 0=0)(xr:I.getD (n.length-1) 0=1)(len:∀e P,C e P->e.length=n.length)
  (iG:∀(y:Value)(A:Around)(outer:List Env)(s:Shared)(H:Hp)(E:XK)(e:List D)(R:D->Prop),bJ k (A.deeper (envOfC m (aq st) s.heap.objs.size f y))->C e R->
   ∃t,ko Z (jt bQ P w K mg base N m (aq st) f y A outer s H E).ku I B (cW st) t/\t {nx:=λ_=>B=0/\R .aL,rt:=R} (iT N e)):FnOk P w K mg base bQ (k+1) f T n (sj Z B C):=by
 refine F.ok S (λvs H Q E h=>?_) (λy A outer s H vs Q E hr h=>?_)
 .obtain⟨G,p,a,X,e,l,R,rfl,s,dv,_,_,_,h,q⟩:=h
  have:=len _ _ h
  rw[dh] at this ⊢;rw[dv.length];exact this
 rfl';obtain⟨G,p,a,X,e,l,R,rfl,s0,dv,Y,ga,J,h,q⟩:=h;have OD:=q;obtain⟨t,ht,hq⟩:=iG y A outer s H E _ R hr h;have hl:=len _ _ h;have ld:e.length+1=n.length:=by rw[<-hl,dh];rfl
 have lu:p.length=e.length:=dv.length;ac_rfl;refine#[_,ht,#[G,qR H a,G],_,_,#[G,λi=>if i=n.length-1 then[a] else[],?_],hq,#[λρ Ht ax H' #[G',fp,S']=>q _ Ht.2 _ [] G' H' S'.ex (by rw[Ht.1];exact#[.aL,rfl]) iB (λb r=>by cases r),OD,λ_ z=>z.elim,λ_ z=>z.elim,λ_ _ z=>z.elim]]
 refine#[#[.refl _,s0,E3,λ_ _ h=>h], .refl _,by unfold iT start;simp[dv.length],λi d g=>?_,λi=>?_,(λi j b ne g hj=>?_),(λi b r=>?_)]
 .unfold iT at g
  have L:i<(e++ [D.lst l]).length:=by
   apply FS;intro z;rw[iz (~~~jd z),tH] at g
   split at g<;>cases g
  rw[fY (~~~L),dJ] at g
  have o:(e++ [D.lst l])[i]?\d:=by
   cases z:(e++ [D.lst l])[i]? with
   |none=>rw[z] at g;cases g
   |some d'=>rw[z] at g;cases g;rfl
  have st:∀u,(p++ [V.ref a])[i]?\u->(start N (p++ [V.ref a]))[i]?\(some u):=λu hu=>by
   unfold start;have M:i<(p++ [V.ref a]).length:=(cw.mp hu).1;rw[fY (~~~M),dJ,hu];rfl
  by_cases c:i<e.length
  .rw[fY c] at o
   obtain⟨v,hv,nJ⟩:=dv.get o;refine#[v,st v (by rw[fY ()];exact hv),?_]
   rw[Hh i (),tz ()]
   exact#[nJ,rfl]
  .have O:i=e.length:=by rw[dh] at L;have:i<e.length+1:=L;lia
   subst O;rw[iz (bq _),ph] at o;have o:d= .lst l:=(Da o).symm;subst o;refine#[.ref a,st _ (by rw[iz (),lu,ph];rfl),?_]
   rw[show e.length=n.length-1 by lia,xr,mo rfl]
   exact .inl #[a,X,l,[],rfl,rfl,Y,rfl,J.own]
 .split<;>simp
 .split at g
  .split at hj
   .lia
   .cases hj
  .cases g
 .split at r
  .have:b=a:=by simpa using r
   subst this;exact#[AV,(by rw[Y];exact λz=>nomatch z),ga]
  .cases r
end
section
variable {Z:DC} {X:Cx} {md:List Nat} {rn:Nat} {e e1 e2 e3 k:Expr} {pos p2:Pos} {te t1 t2:aQ} {t3:pY}
def Ext.give(x:Ext G H c d)(i:H a=none)(y:Ext c (qR d a) f g):Ext G H f g:=
 have ne:∀b o,H b\o->b≠a:=λb o e z=>by rw[z,i] at e;cases e
 #[x.gg.trans y.gg,y.sub,λb o e=>y.hh b o (by rw[uv (ne b o e)];exact x.hh b o e),λb h j=>by
  cases e:H b with
  |none=>exact absurd e h
  |some o=>exact y.off b (by rw[uv (ne b o e),x.hh b o e];exact λz=>nomatch z) (x.off b h j)]
end
end L2
namespace wB
open PySem L2 Wb
variable {P:Program} {w:World} {mg:Str->Option Value} {base:Heap} {Z:DC} (T:Txt Z mg)
def Xr(a:List D):Prop:=∃d e,a= [d,e]
def HS:FnOk P w Z.K mg base bQ 2 T.j_Alike.f T.j_Alike.fd ["self","one","other"] (Qe Z T.e_Alike ["one","other"] Xr):=by
 have J:=kh.nd;refine T.j_Alike.F.ok kh (λn H Q E h=>?_) (λL A outer s H n Q E M h=>?_)
 .obtain⟨a,p,G,r,rfl,_,_,_,dv,_,t,_⟩:=h
  have:=dv.length
  simp at t ⊢;lia
 rfl';obtain⟨a,p,G,r,rfl,i,v,l,dv,⟨d,e,rfl⟩,_,q⟩:=h;obtain⟨y,z,rfl,x,B⟩:=dv.qX;ac_rfl;exists _,aC (cY (L5 rfl T.xb.m T.xb.sg T.xb.rd T.xb.fc (ah (pv 0) (ah JQ az)))) (aC (Fn (pv 0) (pv 1) rfl) (bB (Fn (pv 0) (pv 2) rfl)));exists _,rfl,a,T.e_Alike,none,_,rfl,i,T.q_Alike.obj;refine#[_,rfl,_,rfl,a,T.e_Alike,[],rfl,T.q_Alike.cls,T.n_Alike_one, .inl #[rfl,i,λg b=>?_]];have j:a≠g:=ao i b;have k:G g=none:=l.free b;refine#[_,rfl,_,rfl,a,T.e_Alike,[("one",y)],rfl,T.q_Alike.cls,T.n_Alike_other, .inr #[g,by rw[ag j,af],af,?_]]
 refine#[by show 1<1000;decide,?_]
 refine q g [y,z] G _ (.refl _) (λc o e=>?_) (λc o C e=>?_) (λc _ I=>I) ?_ b ?_ k (.cons x (.cons B .nil))
 .rw[ag (ao e k),ag (ao e k),ag (ao e v)];exact l _ _ e
 .rw[ag (ao e b),ag (ao e b),ag C];exact e
 .rw[ag j,ag j,af]
 .rw[af];rfl
theorem i9:∀(a:List (List (Nat×Nat)))(n:Nat),d∈a.flatten->∃j:Nat,(m9 a)[j]?\(zz d)/\(h7 n a)[j]?\(FV.int ((n+a.findIdx (λr=>decide (d∈r)):Nat):Int))
 | [],n,h=>nomatch h
 |r::a,n,h=>by
  unfold m9;rw[y9,cD];unfold h7
  by_cases c:d∈r
  .obtain⟨j,b⟩:=DS.mp c
   have e:=(cw.mp b).1;refine#[j,?_,?_]
   .rw[fY (by rw[aI];exact e),dJ,b];rfl
   .rw[fY (by rw[aI];exact e),dJ,b,List.findIdx_cons,IR c];rfl
  .rw[y9,c5] at h
   obtain⟨j,f,g⟩:=i9 a (n+1) (h.resolve_left c);refine#[r.length+j,?_,?_]
   .rw[iz (by rw[aI];lia),aI,adQ];exact f
   .rw[iz (by rw[aI];lia),aI,adQ,g,List.findIdx_cons,GT c]
    show some (FV.int _)\(FV.int _);rw[show n+1+a.findIdx (λr=>decide (d∈r))=n+(a.findIdx (λr=>decide (d∈r))+1) by lia];rfl
noncomputable def LJ(a:List (List (Nat×Nat)))(d:Nat×Nat):Nat:=a.findIdx λr=>decide (d∈r)
def pJ(h:d∈a.flatten):LJ a d<a.length:=by
 obtain⟨r,b,c⟩:=oZ.mp h;exact acL #[r,b,IR c]
def RS.uniq{w:W}(g:Good w)(h:RS w a)(k:RS w b):a=b:=by
 rcases h with ⟨c,rfl⟩ | ⟨c,R,e⟩<;>rcases k with ⟨d,rfl⟩ | ⟨d,S,f⟩
 .rfl
 .lia
 .lia
 .rw[<-uK g R,<-uK g S,<-e,f]
def RS.mem{w:W}(g:Good w)(h:RS w a)(b:aV w d):d∈a.flatten:=by
 rcases h with ⟨c,rfl⟩ | ⟨_,R,_⟩
 .have e:=iS b
  have f:=g.rng _ _ b;exact absurd (show d.1=d.2 by lia) (rG g b)
 .exact R.perm.mem_iff.mpr (bz.mpr b)
def rk{w:W}(h:t∈cH (row w) w.length):aV w t:=by
 rw[ig] at h;exact bz.mp (zb.mp h).1
noncomputable def fo(a:List (List (Nat×Nat)))(b:List Nat)(t:Nat×Nat):Int:=Builtin.bitXor (b.getD (LJ a t) 0:Int) (b.getD (LJ a (t.2,t.1)) 0:Int)
structure qz (w:W) (dy:List Nat) (rss:List (List (Nat×Nat))) (ts:List (Nat×Nat)):Prop where
 g:Good w
 h1:1<=w.length
 h14:w.length<=14
 rs:RS w rss
 len:dy.length=rss.length
 pm:ts.Perm (cH (row w) w.length)
 srt:ts.Pairwise lexLe
def qz.few{w:W}(h:qz w c a b):b.length<=196:=by
 have e:=fI h.g;have f:w.length*w.length<=14*14:=tL h.h14 h.h14
 have:=h.pm.length_eq
 rw[ig] at this
 have:=DU (λd:Nat×Nat=>decide (d.1<d.2)) (aW w)
 lia
def Th(c:Addr):MH:=λf P R=>∃(w:W)(b:List Nat)(a:List (List (Nat×Nat)))(d:List (Nat×Nat)),f= [.ik w,aF b]/\qz w b a d/\∃(k:Nat)(t:Nat×Nat),d[k]?\t/\fo a b t=0/\(∀(m:Nat)(e:Nat×Nat),m<k->d[m]?\e->fo a b e≠0)/\R (.err c ["one","other"] [aA t.1,aA t.2])
def zP:FnOk P w Z.K mg base (zg P w) 5 T.d_tie_dyes.f T.d_tie_dyes.fd ["web","dyes"] (sq Z (Th T.e_Alike)):=by
 have i:=jI.nd;refine KZ T.d_tie_dyes.F jI [0,0,0,1,0,0,0] ∅ (λN R O h=>by obtain⟨_,_,_,_,rfl,_⟩:=h;rfl) (λaT A outer s H E N R O p h=>?_)
 have c:=p.units
 refine#[_,(av (b8 false 2 i (aU T.d_land_numbers (lJ T) p (ae (U 0) au)))
   (av (gZ 3 i (gY au))
   (av (df rfl PassesOwn.leaving (bL (lg T.W (U 0) T.m_ties.m (jF T) (p.mono ∅) T.m_ties.b)) (fA 2 rfl (aP (aK 4 i) (aP (aK 5 i) cQ))) (av (b8 false 6 i (kR CK (fJ (U 1) (lZ c (U 2) (cF (ae (U 4) (ae (U 5) au))))) (fJ (U 1) (lZ c (U 2) (cF (ae (U 5) (ae (U 4) au)))))))
   (av (eB (bU (j5 c) (U 6) bh (bD _)) (aw (GF rfl T.j_Alike (HS T) p T.q_Alike T.g_Alike (ae (U 4) (ae (U 5) au)))) bM)
   (aw (iP false 3 (U 6))))))
   (iW 3
   (aw (ba (U 3))))))),?_]
 rfl';obtain⟨d,l,S,X,rfl,ok,k,t,n,Y,hm,q⟩:=h;have g:=ok.g;ac_rfl;refine#[_,rfl,d,rfl,g,ok.h1,ok.h14,λa fL=>?_];obtain rfl:=fL.uniq g ok.rs;have UW:=ok.few;exists trivial;refine#[by show 0<=sizeLine;decide,?_]
 refine#[_,rfl,d,rfl,d,rfl,g,ok.h14,λo Ib FL=>?_];obtain rfl:o=X:=abL (λ_ _ _ _=>jL) FL ok.srt (Ib.trans ok.pm.symm);refine(?_:ju _ _ _ (o.map pairD) _);refine bS (λj ρ=>j<=k/\∃(v y B:Option D),ρ= [some (.ik d),some (aF l),some (.x (.eG (m9 a) (h7 0 a))),some (.lst ((o.take j).map λt=> .int (fo a l t))),v,y,B]) #[dA _,_,_,_,rfl] ?_ ?_
 .rintro j _ _ hd ⟨C,v,y,B,rfl⟩ A hA
  rfl';obtain⟨u,c,rfl⟩:=cL hd;have G:aV d u:=rk (ok.pm.mem_iff.mp (cV c));have VH:aV d (u.2,u.1):=g.sym _ _ G;have I:=ok.rs.mem g G;have J:=ok.rs.mem g VH;obtain⟨j1,a1,L⟩:=i9 a 0 I;obtain⟨j2,a2,M⟩:=i9 a 0 J;have l1:=pJ I;have l2:=pJ J;have uP:o.take (j+1)=o.take j++ [u]:=by rw[zd,c];rfl
  ac_rfl;exists rfl,rfl;refine#[_,rfl,_,rfl,_,rfl,_,rfl,by show 2<=sizeLine;decide,?_]
  rw[iC] at L M;refine#[zz u,m9 a,h7 0 a,j1,_,rfl,rfl,a1,L,_,gn (by rw[ok.len];exact l1),?_]
  refine#[_,rfl,_,rfl,_,rfl,_,rfl,by show 2<=sizeLine;decide,?_]
  refine#[zz (u.2,u.1),m9 a,h7 0 a,j2,_,rfl,rfl,a2,M,_,gn (by rw[ok.len];exact l2),trivial,?_]
  exists _,rfl;refine NF #[_,rfl,eM (λe=>?_) (λe=>?_)]
  .have e:fo a l u=0:=M2 e
   have:j=k:=Nat.le_antisymm C (jd λz=>hm j u z c e)
   subst this;rw[c] at n;obtain rfl:=Da n;exact#[_,rfl,_,rfl,#[_,_,rfl],rfl,q]
  .have e:¬fo a l u=0:=SC e
   have:j≠k:=λz=>by
    subst z;rw[c] at n;obtain rfl:=Da n;exact e Y
   refine#[_,rfl,_,rfl,trivial,aZ (by rw[aI,gO];lia),hA _ #[(),some (aA u.1),some (aA u.2),some (.int (fo a l u)),?_]]
   rw[uP,cD];rfl
 .rintro _ ⟨C,v,y,B,rfl⟩
  have:=(cw.mp n).1
  rw[aI] at C;lia
def Tg:c8:=λd P=>∃(w:W)(b:List Nat)(a:List (List (Nat×Nat)))(c:List (Nat×Nat)),d= [.ik w,aF b]/\qz w b a c/\(∀t∈c,fo a b t≠0)/\P (.lst (c.map λt=> .int (fo a b t)))
def zO:FnOk P w Z.K mg base bQ 5 T.d_tie_dyes.f T.d_tie_dyes.fd ["web","dyes"] (j4 Z 1 Tg):=by
 have i:=jI.nd;refine Au 1 T.d_tie_dyes.F jI [0,0,0,1,0,0,0] ∅ (λG R h=>by obtain⟨_,_,_,_,rfl,_⟩:=h;rfl) (λaT A outer s H E G R l h=>?_)
 have c:=l.units
 refine#[_,(av (b8 false 2 i (aU T.d_land_numbers (lJ T) l (ae (U 0) au)))
   (av (gZ 3 i (gY au))
   (av (df rfl FM (bL (lg T.W (U 0) T.m_ties.m (jF T) (l.mono ∅) T.m_ties.b)) (fA 2 rfl (aP (aK 4 i) (aP (aK 5 i) cQ))) (av (b8 false 6 i (kR CK (fJ (U 1) (lZ c (U 2) (cF (ae (U 4) (ae (U 5) au))))) (fJ (U 1) (lZ c (U 2) (cF (ae (U 5) (ae (U 4) au)))))))
   (av (eB (bU (j5 c) (U 6) bh (bD _)) (aw t8) bM)
   (aw (iP false 3 (U 6))))))
   (aw (Nt 3))))),?_]
 obtain⟨d,n,I,J,rfl,ok,L,q⟩:=h;have g:=ok.g;refine#[_,rfl,d,rfl,g,ok.h1,ok.h14,λa M=>?_];obtain rfl:=M.uniq g ok.rs;have UW:=ok.few;exists trivial;refine#[by show 0<=sizeLine;decide,?_]
 refine#[_,rfl,d,rfl,d,rfl,g,ok.h14,λk N O=>?_];obtain rfl:k=J:=abL (λ_ _ _ _=>jL) O ok.srt (N.trans ok.pm.symm);refine(?_:ju _ _ _ (k.map pairD) _);refine bS (λj Q=>∃(o p r:Option D),Q= [some (.ik d),some (aF n),some (.x (.eG (m9 a) (h7 0 a))),some (.lst ((k.take j).map λt=> .int (fo a n t))),o,p,r]) #[_,_,_,rfl] ?_ ?_
 .rintro j _ _ S ⟨o,p,r,rfl⟩ A X
  rfl';obtain⟨u,c,rfl⟩:=cL S;have v:aV d u:=rk (ok.pm.mem_iff.mp (cV c));have VH:aV d (u.2,u.1):=g.sym _ _ v;have y:=ok.rs.mem g v;have z:=ok.rs.mem g VH;obtain⟨j1,a1,B⟩:=i9 a 0 y;obtain⟨j2,a2,C⟩:=i9 a 0 z;have l1:=pJ y;have l2:=pJ z;have uP:k.take (j+1)=k.take j++ [u]:=by rw[zd,c];rfl
  ac_rfl;exists rfl,rfl;refine#[_,rfl,_,rfl,_,rfl,_,rfl,by show 2<=sizeLine;decide,?_]
  rw[iC] at B C;refine#[zz u,m9 a,h7 0 a,j1,_,rfl,rfl,a1,B,_,gn (by rw[ok.len];exact l1),?_]
  refine#[_,rfl,_,rfl,_,rfl,_,rfl,by show 2<=sizeLine;decide,?_]
  refine#[zz (u.2,u.1),m9 a,h7 0 a,j2,_,rfl,rfl,a2,C,_,gn (by rw[ok.len];exact l2),trivial,?_]
  exists _,rfl;refine NF #[_,rfl,eM (λe=>?_) (λe=>?_)]
  .exact absurd (M2 e) (L u (cV c))
  .refine#[_,rfl,_,rfl,trivial,aZ (by rw[aI,gO];lia),X _ #[some (aA u.1),some (aA u.2),some (.int (fo a n u)),?_]]
   rw[uP,cD];rfl
 .rintro _ ⟨o,p,r,rfl⟩
  rw[aI,za];exact#[_,rfl,q]
variable {P:Program} {w:World} {mg:Str->Option Value} {base:Heap} {Z:DC} (T:Txt Z mg)
def fV(h:aj K t c\false)(a:cI K t r\false):cI K t (c::r)\false:=by rw[cI,h];exact a
def IA:c8:=λe P=>∃(w:W)(b:List Nat)(a:List (List (Nat×Nat)))(c:List (Nat×Nat)),e= [.ik w,aF b]/\qz w b a c/\∃(k:Nat)(t:Nat×Nat),c[k]?\t/\fo a b t=0/\(∀(m:Nat)(d:Nat×Nat),m<k->c[m]?\d->fo a b d≠0)/\P (pairD t)
def uD:FnOk P w Z.K mg base bQ 6 T.d__law_refused.f T.d__law_refused.fd ["_law_web_here","_law_dyes_here"] (aY Z IA):=by
 have a:=lQ.nd;refine bF T.d__law_refused.F lQ [0,0,0,0,1] ∅ (λd R h=>by obtain⟨_,_,_,_,rfl,_⟩:=h;rfl) (λp A outer s H E d R c h=>?_)
 have e:=c.units
 refine#[_,(av (b8 false 2 a gW)
   (av (Ra (λ_ _=>by exact(aw (KN T.d_tie_dyes (zP T) c (ae (U 0) (ae (U 1) au))))) bM (VB 3 a T.g_MapError T.q_MapError (λ_=>by exact(av (gZ 4 a (gY (ae (Ai T.iX (.own _) (fD T.g_Alike) (U 3) rfl T.B.isinstance) (ae (Ai T.iX (.blt _) (Xy T.x_ValueError) (U 3) rfl T.B.isinstance) au))))
   (av (iP false 4 (wW T.iX (.cons (.own _) (.cons (.own _) (.cons (.own _) (.cons (.own _) (.cons (.own _) (.cons (.own _) (.cons (.own _) (.cons (.own _) .nil)))))))) #[(fD T.g_Bridge),rfl,#[(fD T.g_NoCorner),rfl,#[(fD T.g_NoRing),rfl,#[(fD T.g_NotFilled),rfl,#[(fD T.g_NotFree),rfl,#[(fD T.g_NotPlane),rfl,#[(fD T.g_NoText),rfl,#[(fD T.g_NoWeb),rfl,trivial]]]]]]]] (show 8<=1000 by decide) (U 3) rfl T.B.isinstance))
   (av (iP false 4 (wW T.iX (.cons (.own _) (.cons (.own _) (.cons (.own _) (.cons (.own _) (.cons (.own _) .nil))))) #[(fD T.g_Odd),rfl,#[(fD T.g_Shared),rfl,#[(fD T.g_TooFew),rfl,#[(fD T.g_TooMany),rfl,#[(fD T.g_TooSmall),rfl,trivial]]]]] (show 5<=1000 by decide) (U 3) rfl T.B.isinstance))
   (aw (eB (bU (j5 e) (U 4) (kH (ae lY (ae lY (ae lY (ae lY au))))) (bD _)) (aw (b8 false 2 a (cF (ae (Ej T.iX (U 3)) (ae (Ej T.iX (U 3)) au))))) bM)))))) Q4))
   (aw (ba (U 2))))),?_]
 rfl';obtain⟨i,j,b,l,rfl,ok,k,t,m,n,o,q⟩:=h;ac_rfl;exists trivial;exists _,rfl,_,rfl,i,j,b,l,rfl,ok,k,t,m,n,o;refine#[T.q_Alike.obj,true,T.m_Alike_MapError,dU ?_];have x:=T.q_Alike.cls;refine#[_,rfl,x,_,T.z_Alike_Alike,_,rfl,x,_,T.z_Alike_ValueError,by show 2<=sizeLine;decide,?_]
 refine#[_,rfl,_,rfl,x,false,fV T.z_Alike_Bridge (fV T.z_Alike_NoCorner (fV T.z_Alike_NoRing (fV T.z_Alike_NotFilled (fV T.z_Alike_NotFree (fV T.z_Alike_NotPlane (fV T.z_Alike_NoText (fV T.z_Alike_NoWeb rfl))))))),trivial,by show 2<sizeLine;decide,?_]
 refine#[_,rfl,_,rfl,x,false,fV T.z_Alike_Odd (fV T.z_Alike_Shared (fV T.z_Alike_TooFew (fV T.z_Alike_TooMany (fV T.z_Alike_TooSmall rfl)))),trivial,by show 3<sizeLine;decide,?_]
 refine#[_,rfl,by show 4<=sizeLine;decide,?_]
 refine#[_,_,rfl,rfl,∅,_,rfl,dU ?_]
 refine#[_,rfl,x,T.n_Alike_one,_,rfl,_,rfl,x,T.n_Alike_other,_,rfl,by show 2<=sizeLine;decide,trivial,?_]
 exact#[_,rfl,q]
variable {P:Program} {w:World} {mg:Str->Option Value} {base:Heap} {Z:DC} (T:Txt Z mg)
def RS.few{w:W}(g:Good w)(h14:w.length<=14)(h:RS w rss):rss.length<=196:=by
 have e:=(h.facts g h14).2
 rcases h with ⟨_,rfl⟩ | ⟨_,R,_⟩
 .decide
 .have:=tV (w:=w) (rss:=rss) λr c=>let #[d,a,b,_]:=R.rnd r c;#[d,a,b]
  lia
def RS.dart{w:W}(h:RS w a)(b:d∈a.flatten):aV w d:=by
 rcases h with ⟨_,rfl⟩ | ⟨_,R,_⟩
 .exact absurd b (by simp)
 .exact bz.mp (R.perm.mem_iff.mp b)
def Te:c8:=λd P=>∃(w:W)(b:List Int),d= [bH w, .lst (gd b)]/\Good w/\1<=w.length/\w.length<=14/\b≠ []/\b.length<=2/\∀(a:List (List (Nat×Nat)))(c:List Nat),RS w a->c.length=a.length->(∀x∈c,x<4)->P (aF c)
def oi:FnOk P w Z.K mg base bQ 5 T.d__law_dyes.f T.d__law_dyes.fd ["_law_turns","_law_left"] (sj Z 0 Te):=by
 have z:=qk.nd;refine KY 0 T.d__law_dyes.F qk [0,1,0,1,0,0,0,1] ∅ rfl (λds R h=>by obtain⟨_,_,rfl,_⟩:=h;rfl) (λaT A outer s H E ds R p h=>?_)
 have hu:=p.units
 refine#[_,(av (b8 false 2 z (aU T.d__law_by_side (lI T) p (ae (U 0) au)))
   (av (gZ 3 z (gY au))
   (av (df rfl FM (fg rfl T.B.enumerate (ae (aU T.d__law_lands (om T) p (ae (U 0) au)) au)) (fA 2 rfl (aP (aK 4 z) (aP (aK 5 z) cQ))) (av (b8 false 6 z (nG (NC:= ["_law_p","_law_q","_law_by_side_here"]) (src:= [none,none,some 2]) rfl (tX (aq ic)) #[rfl,rfl,trivial] (bL (U 5)) (λ_ _ _=>(pq 2 rfl (dP (bK 0 (show(["_law_p","_law_q","_law_by_side_here"]:List Str).Nodup from by decide+kernel)) (dP (bK 1 (show(["_law_p","_law_q","_law_by_side_here"]:List Str).Nodup from by decide+kernel)) lh)))) (λ_ _ _=>fh) (λ_ _ _=>(lZ hu (U 2) (cF (ae (U 1) (ae (U 0) au)))))))
   (av (GD 7 (NC:= ["_law_dye","_law_dyes_here","_law_near","_law_number"]) (src:= [none,some 3,some 6,some 4]) rfl z (tX (aq ic)) #[rfl,rfl,rfl,rfl,rfl,rfl,trivial] (GA rfl T.B.range (ae bh au)) (λ_ _ _=>(bK 0 (show(["_law_dye","_law_dyes_here","_law_near","_law_number"]:List Str).Nodup from by decide+kernel))) (λ_ _ _=>(rM (bU A2 (U 0) (nG (NC:= ["_law_other","_law_dyes_here","_law_number"]) (src:= [none,some 1,some 3]) rfl Yy #[rfl,rfl,rfl,rfl,trivial] (bL (U 2)) (λ_ _ _=>(bK 0 (show(["_law_other","_law_dyes_here","_law_number"]:List Str).Nodup from by decide+kernel))) (λ_ _ _=>(rM (bU CI (U 0) (U 2) (bD _)))) (λ_ _ _=>(fJ (U 1) (U 0)))) (by with_unfolding_all rfl)))) (λ_ _ _=>(U 0)))
   (av (GC 1 hu (rB.lK (Jq T) T.d__law_take) (p.mono ∅) rfl T.d__law_take.m T.d__law_take.F.kp T.d__law_take.b (bU (j5 hu) (U 7) (kH au) (bD _)) bh bh (aw (gZ 7 z (gY (ae bh (ae bh (ae bh (ae bh au))))))))
   (aw (Er 3 7 1 (rB.lK (Jq T) T.d__law_take) (p.mono ∅) rfl T.d__law_take.m T.d__law_take.F.kp T.d__law_take.b (cz kF rfl T.B.len kD (ae (U 7) au))))))))
   (iW 3
   (aw (ba (U 3))))))),?_]
 obtain⟨Q,n,rfl,g,h1,h14,I,M,q⟩:=h;refine#[_,rfl,Q,rfl,g,h1,h14,λrss J=>#[trivial,?_]];refine#[by show 0<=sizeLine;decide,?_]
 refine#[_,rfl,Q,rfl,g,h1,h14,λa fL=>?_];obtain rfl:=fL.uniq g J;have fl:=(J.facts g h14).2;have rl:=J.few g h14;refine(?_:ju _ _ _ (eD (a.map oQ)) _);refine bS (λj C=>∃(n:List Int)(i:List Nat)(o4 o5 o6 o7:Option D),C= [some (bH Q),some (.lst (gd n)),some (.x (.eG (m9 a) (h7 0 a))),some (aF i),o4,o5,o6,o7]/\n≠ []/\n.length<=2/\i.length=j/\∀x∈i,x<4) #[n,[],_,_,_,_,rfl,I,M,rfl,λx h=>nomatch h] ?_ ?_
 .clear I M n
  rintro j _ _ hd ⟨n,i,o4,o5,o6,o7,rfl,I,M,dl,d4⟩ A hA;obtain⟨x,l,rfl⟩:=jV hd;obtain⟨r,p,rfl⟩:=cL l;have jl:=(cw.mp p).1
  have rl2:r.length<=196:=by
   have:=(Ji (cV p)).length_le
   lia
  exists rfl,rfl;exists _,rfl;refine iQ (λC=>∃o0 o1,C= [o0,o1,some (.x (.eG (m9 a) (h7 0 a)))]) pairD (λ_=>true) (λt=>aA (LJ a (t.2,t.1))) r _ [] _ (λt ht aD N Y Nn hY hN=>?_) #[_,_,rfl] (by rw[o9,iC];exact small ()) λaD N=>?_
  .obtain⟨o0,o1,rfl⟩:=N
   have m1:t∈a.flatten:=oZ.mpr #[r,cV p,ht];have m2:(t.2,t.1)∈a.flatten:=J.mem g (g.sym _ _ (J.dart m1));obtain⟨j2,a2,b2⟩:=i9 a 0 m2;rw[iC] at b2;exact#[rfl,rfl,Kd #[_,rfl,_,rfl,_,rfl,by show 2<=sizeLine;decide,zz (t.2,t.1),m9 a,h7 0 a,j2,_,rfl,rfl,a2,b2,hY _ #[_,_,rfl] rfl]]
  have ef:r.filter (λ_=>true)=r:=by simp
  rw[qt,ef];exists trivial;obtain⟨u,en⟩:∃u:List Nat,r.map (λt=>aA (LJ a (t.2,t.1)))=u.map aA:=#[r.map λt=>LJ a (t.2,t.1),by rw[dX];rfl]
  have nl:u.length<=196:=by have:=On db en;rw[aI,aI] at this;lia
  rw[en];clear en ef;obtain⟨L,Y4⟩:∃L:List Nat,L=(u.filter λo=>decide (o<j)).map λo=>i.getD o 0:=#[_,rfl];refine#[#[∅,∅],?_]
  refine(?_:lcW _ _ _ ((aM 4).map aA) _ _ _);refine iQ (λC=>∃o,C= [o,some (aF i),some (aF u),some (aA j)]) aA (λy=>!inD (aA y) (L.map aA)) aA (aM 4) _ [] _ (λy hy aD N Y Nn hY hN=>?_) #[_,rfl] (by rw[o9,iC];exact small (by rw[oY];decide)) λaD N=>?_
  .obtain⟨o,rfl⟩:=N
   exists _,rfl,_,rfl;refine iQ (λC=>∃o,C= [o,some (aF i),some (aA j)]) aA (λo=>decide (o<j)) (λo=>aA (i.getD o 0)) u _ [] _ (λo' ho tM Zj Y' N' hY' hN'=>?_) #[_,rfl] (by rw[o9,iC];exact small ()) λtM Zj=>?_
   .obtain⟨o2,rfl⟩:=Zj
    exists _,rfl,_,rfl,_,rfl;refine(?_:if decide ((o':Int)<(j:Int))=true then _ else _);refine eM (λc=>?_) (λc=>?_)
    .have c:o'<j:=by have:=M2 c;lia
     exact#[_,rfl,_,rfl,_,gn (),hY' _ #[_,rfl] (IR c)]
    .have c:¬o'<j:=by have:=SC c;lia
     exact hN' _ #[_,rfl] (GT c)
   have el:((u.filter λo=>decide (o<j)).map λo=>aA (i.getD o 0))=L.map aA:=by rw[Y4,dX];rfl
   rw[qt,el];exists rfl,gH _,_,rfl;rw[mo rfl];exact eM (λe=>#[_,rfl,hY _ #[_,rfl] e]) (λe=>hN _ #[_,rfl] e)
  rw[qt];obtain⟨G,S⟩:∃G:List Nat,G=(aM 4).filter λy=>!inD (aA y) (L.map aA):=#[_,rfl];have s4:∀x∈G,x<4:=λx l=>by rw[S] at l;exact fG.mp (zb.mp l).1
  have sl:G.length<=4:=by rw[S];have:=DU (λy=>!inD (aA y) (L.map aA)) (aM 4);rw[oY] at this;exact this
  rw[<-S];clear S Y4
  have fin:∀(E:fu)(O:List Int)(k:List Nat),E.nx=A->O≠ []->O.length<=2->0<k.length->k.length<=4->(∀x∈k,x<4)->Ag [0,1,0,1,0,0,0,1] 3 7 1 (qD Jo (Gv (wU 7) uY)) E [some (bH Q),some (.lst (gd O)),some (.x (.eG (m9 a) (h7 0 a))),some (aF i),some (.int (j:Int)),some (oQ r),some (.lst (u.map aA)),some (aF k)]:=by
   intro E O k hE n1 l1 p1 q1 a1;have XO:(k.map aA).length=k.length:=aI _;refine#[i.map aA,k.map aA,O,rfl,rfl,rfl,n1,(),aZ (by rw[aI];lia),_,rfl,((k.map aA).length:Int),rfl,by rw[XO];lia,by rw[XO];lia,λd X d0 dm v l'=>?_]
   rw[XO] at dm;have dn:d=((d.toNat:Nat):Int):=()
   have VC:d.toNat<k.length:=()
   refine#[aA (k.getD d.toNat 0),by rw[dn];exact gn VC,?_]
   rw[hE];refine hA _ #[X,i++ [k.getD d.toNat 0],some (.int (j:Int)),some (oQ r),some (.lst (u.map aA)),some (aF k),by unfold aF;rw[cD];rfl,v,(),by rw[dh,dl];rfl,λx l=>?_]
   rcases c5.mp l with l|l
   .exact d4 x l
   .rw[fZ] at l
    rw[l,fq,dH VC];exact a1 _ (mW VC)
  have a4:∀x∈ [0,1,2,3],x<4:=∅
  exists gH _;refine#[_,rfl,by show 0<=sizeLine;decide,?_]
  refine(?_:Eh (aF G) (aF []) _);refine wR #[_,rfl,?_];refine eM (λe=>?_) (λe=>?_)
  .exact#[by show 4<=sizeLine;decide,fin _ n [0,1,2,3] rfl I M ∅ ∅ a4]
  .have e:G≠ []:=SC e
   exact#[n,rfl,I,(),9,rfl,∅,∅,λd X _ _ v l'=>#[λ_=>#[by show 4<=sizeLine;decide,fin _ X [0,1,2,3] rfl v () ∅ ∅ a4],λ_=>fin _ X G rfl v () (DV.mpr e) sl s4]]
 .rintro _ ⟨n,i,o4,o5,o6,o7,rfl,I,M,dl,d4⟩
  rw[iF,aI] at dl;exact#[#[_,rfl],_,rfl,q a i J dl d4]
end wB
namespace L2
open PySem PySem.Spec PyProof.Rows
section
variable {Z:DC} {X:Cx} {md:List Nat} {rn:Nat} {e1 e3:Expr} {t1:aQ} {t3:pY} {pos apos aN p2:Pos}
def Vw(i:Nat):cy:=λE a=>∃b,a[i]?\(some (.lst b))/\E.nx (a.set i (some (.lst b.reverse)))
def Nu(i:Nat)(d:md.getD i 0=1:=by rfl)
  (e:X.N[i]?\x:=by rfl) (f:nz X.env.scope x:=by subst_eqs) (g:(x==("__debug__":Str))=false:=by decide) (j:(x==("__classdict__":Str))=false:=by decide)
  (k:attributeBase (.Name x a) "reverse" X.env (eval (.Name x a) X.env)=eval (.Name x a) X.env:=by rfl) (m:(apos.endLine==aN.line)=true:=by rfl)
  (n:swapsWith (.Call (.Attribute (.Name x a) "reverse" apos) [] [] aN) none pos.line X.env=pure false:=by rfl):DSt Z X md rn (.Expr (.Call (.Attribute (.Name x a) "reverse" apos) [] [] aN) pos) (Vw i):=by
 refine(cY (JP GM PySem.F.slot_list_reverse PySem.F.type_list_reverse E9 (pv i e f g j) k m) n).imp ?_;intro w y H o;rfl';obtain⟨B,z,E,⟨G,q,S⟩,⟨A,r,h⟩,M⟩:=o;ac_rfl;rfl';obtain⟨l,s,C,t,u,c,v,put⟩:=S.one d r;cases t;ac_rfl;exact#[_,u,ty_list c,l,s,rfl,rfl,c,M.nx _ h _ _ #[G,q,put _ _ v.rev]]
def Vz(b:List Nat)(i:Nat)(c:c8)(e:aQ)(f:pY):cy:=λE a=>e (cf b a) λg=>f (cf b a) λh=>c [g, .lst h] λd=>E.nx (a.set i (some d))
def Eu(i:Nat)(Q:X.N.Nodup)(F:FnOk X.prog X.w X.K X.mg X.base bQ k f z C (sj Z 0 l))(R:bJ k X.A)(T:Gl X y)(Y:X.mg y\(.ref f))(hk:am X.K (.ref f)=true)(hb:Binds X.K z C [])
  (h1:DE Z X e t1) (h3:DF Z X 1 c t3) (eQ:(y==("__debug__":Str))=false:=by decide) (I:starEach [e,c] X.env=(false,eval e X.env)::starEach [c] X.env:=by rfl) (m:starEach [c] X.env=(false,eval c X.env)::starEach [] X.env:=by rfl) (b9:(backTo J (starEach [c] X.env)).any (·.1)=false:=by rfl)
  (hm:g.getD i 0=0:=by rfl) (hi:X.N[i]?\x:=by rfl) (hx:Loc X.env.scope x:=by subst_eqs) (hs:swapsWith (.Call (.Name y p) [e,c] [] J) (some (.Name x b)) n.line X.env=pure false:=by rfl)
  (hf:X.fn x=true\/X.env.scope.names.lookup x\.local:=by subst_eqs):DSt Z X g rn (.Assign [.Name x b] (.Call (.Name y p) [e,c] [] J) n) (Vz g i l t1 t3):=by
 refine(bP Q hi hx (bb F R T Y hk hb .nil bT (ah h1 (ah h3 az m) I) eQ I b9) hs hf).imp ?_;intro D σ H aJ;rfl';obtain⟨B,L,E,⟨G,fp,S⟩,h,M⟩:=aJ;ac_rfl;refine#[G,cf g L,_,S.ex.sub,S.rO,h,λd1 Wr O Ga Ha j r=>#[Ga,cf g L,_,j.sub,S.rO.mono j.gg,Wr,λl3 Of v3 f3 Gc Hc s o3 nd3 t=>?_]];rfl';obtain⟨a,xs,l',qI,rfl,el,ha,u,ol⟩:=o3.one;cases el;obtain⟨Nw,rfl⟩:=ol.flat;obtain⟨n1,n2,n3⟩:=t a (by rw[u];simp)
 have Wj:H a=none:=j.hh.free n1;ac_rfl;show sj Z 0 l ([O, .ref a]++ []) Hc _ E0;rw[eJ];exists Gc,[O],a,xs,[d1],l3,_,rfl,s.sub, .cons (r.mono s.gg) .nil,ha,n3,Nw,Of;rintro d hd v f P H' x4 o nd nw;have x:Ext G H P H':=(j.trans s).give Wj x4;obtain⟨dv,rfl⟩:=o;exact M.nx _ hd _ _ #[P,_,(S.grow x).mS hm dv]
end
section
variable {Z:DC} {X:Cx} {md:List Nat} {rn:Nat} {e:Expr} {pos:Pos}
def QS(c:List Nat)(i:Nat)(t:pY)(u:cy):cy:=λE a=>t (cf c a) λf=>u {nx:=λb=>(∃d,b[i]?\(some d))/\E.nx b,rt:=E.rt} (a.set i (some (.lst f)))
def rS{a:List Nat}(h:j≠i):(a.set i n).getD j 0=a.getD j 0:=by rw[fq,fq,jb (Ne.symm h)]
def BV{a:List Nat}(h:i<a.length):(a.set i n).getD i 0=n:=by rw[fq,kO h];rfl
def GG(i n:Nat)(O:X.N.Nodup)(P:DF Z X n e t)(h:ko Z X (p.set i n) 0 k u)(Q:p.getD i 0=0:=by rfl)(r:i<p.length:=by decide)(R:X.N[i]?\x:=by rfl)(T:Loc X.env.scope x:=by subst_eqs)(Y:swapsWith e (some (.Name x g)) s.line X.env=pure false:=by rfl)
  (hf:X.fn x=true\/X.env.scope.names.lookup x\.local:=by subst_eqs):ko Z X p 0 (.Assign [.Name x g] e s::k) (QS p i t u):=by
 refine jz.imp (aC (bP O R T P Y hf) h) ?_;rintro D σ H ⟨B,ρ,E,⟨G,fp,S⟩,h,M⟩;refine#[G,_,_,S.ex.sub,S.rO,h,λds hd v f C H' x o nd w=>?_];have l:=S.grow x
 have y:SIx Z B (p.set i n) (ρ.set i none) σ H' C fp:=#[l.ex,l.fl,by rw[gP];exact l.len,λj d a=>by
  by_cases z:j=i
  .subst z
   rw[lT] at a;rw[mo rfl] at a
   split at a<;>cases a
  .rw[jb (Ne.symm z)] at a
   rw[rS z];exact l.at_ j d a,l.nd,l.ap,l.nw]
 have F:=y.FC (BV r) o nd (λb q=>#[S.ex.hh.free (w b q).1,(w b q).2]) λb q j _ a=>(S.nw j b a).2.1 (w b q).1;rw[List.set_set] at F;refine#[B,_,_,#[C,_,F],hd,#[?_,M.rt,λ_ z=>z.elim,λ_ z=>z.elim,λ_ _ z=>z.elim]];rintro aD ⟨⟨d,I⟩,hE⟩ ax k9 ⟨G3,fp3,J⟩;obtain⟨v3,A,Nw,m⟩:=J.JX I;refine M.nx aD hE _ _ #[_,_,#[m.ex,m.fl,J.len,λj c a=>?_,m.nd,m.ap,m.nw]]
 by_cases z:j=i
 .subst z
  rw[I] at a;cases Da a;exists v3,A;rw[Q,mo rfl];exact#[Nw,rfl]
 .obtain⟨u',hu,L⟩:=m.at_ j c (by rw[jb (Ne.symm z)];exact a)
  rw[rS z] at L;exact#[u',hu,L]
end
section
variable {X:Cx}
def Kx(t:X.calm=true):CallR X (.builtin "any") (λj H Q=>∃(p:Addr)(bs:List Bool),j= [.ref p]/\H p\(.lst (bs.map V.bl))/\Q (.bl (bs.any id)) H):=by
 intro k s T H j Y Q I y h;rfl';obtain⟨p,bs,rfl,B,q⟩:=h;obtain⟨u,rfl,C⟩:=y.one;subst C;obtain⟨a,r,pl,Z⟩:=I.list (aG.of B);have l:=r.length;rw[aI] at l;ac_rfl;refine call_any_walk (adq pl.isList ?_)
 have F:p≠s.heap.objs.size:=by
  obtain⟨o,G,_⟩:=pl.isList;exact bE (Do G)
 have J:∀i:Nat,i<a.length->∃b,bs[i]?\b/\a[i]?\(.bool b):=λi c=>by
  rfl';obtain⟨b,d⟩:∃b,bs[i]?\b:=#[_,dH ()]
  obtain⟨w,hw,L⟩:=r.get (i:=i) (x:= .bl b) (by rw[dJ,d];rfl)
  subst L;ac_rfl;exact#[b,d,hw]
 refine#[_,_,_,a.toArray.size,_,_,λi=>bs.getD i false,rfl,Walks.list (show X.A.in1.handled=none from I.ok.hd t) s.heap.objs.size p F a.toArray,#[#[_,GE _ rfl,rfl,rfl],pl.isList.push _],?_,λM tk N=>?_]
 .intro i v s Q E O P
  have g:a[i]?\v:=by simpa using O
  have c:i<a.length:=by
   obtain⟨R,_⟩:=cw.mp g;exact R
  obtain⟨b,d,hw⟩:=J i c;rw[hw] at g;cases Da g;refine SB ?_;have m:Q (bs.getD i false) s:=P;rw[fq,d] at m;exact m
 .have kept:∀b o,s.heap.get? b\o->M.get? b\o:=λb o e=>N b o (by simp;exact bE (Do e)) (AC _ e)
  have e:(aM a.toArray.size).any (λi=>bs.getD i false)=bs.any id:=by
   rw[b7,<-l];rw[uU,uS,uS]
   constructor
   .rintro⟨i,c,h⟩
    have n:=fG.mp c;rw[fq,dH n] at h;exact#[_,mW n,h]
   .rintro⟨x,S,h⟩
    obtain⟨i,c,rfl⟩:=List.mem_iff_getElem.mp S;exists i,fG.mpr c;rw[fq,dH c];exact h
  rw[e];exact#[.bl _,H,I.kept kept,rfl,q]
variable {Z:DC}
def QL:bootBuiltins "any"\(.builtin "any"):=by decide+kernel
def Yv:c8:=λa P=>∃bs:List Bool,a= [.lst (bs.map D.bl)]/\P (.bl (bs.any id))
def QO(b:X.calm=true:=by rfl):CallR X (.builtin "any") (j3 Z Yv):=by
 refine(Kx b).imp ?_;rintro f H Q ⟨G,g,P,s,dv,⟨bs,rfl,c⟩,q⟩;cases dv with
 |cons a d=>
  cases d;cases a with
  |lst h e=>exact#[_,bs,rfl,by rw[<-BM e];exact s _ _ h,q _ c _ G H (.refl s) (.bl _)]
end
def gw(K:ad)(x:Str)(st:Stmt):Prop:=∃(d:Addr)(b c:Option Addr)(e:Array (Option Value))(f kV g h a i:Value),QI K x d/\Bt K x x st d b c e f kV g h a i/\bd K a x=true/\am K (.ref d)=true
def Ge(K:ad)(C:Addr)(m a:Str)(st:Stmt):Prop:=∃(d:Addr)(c e:Option Addr)(f:Array (Option Value))(g kV h i b j:Value),ak K (.ref C) m\(some (.ref d))/\b5 K (.ref d)=true/\Bt K m a st d c e f g kV h i b j/\bd K b a=true/\am K (.ref d)=true
abbrev nq(K:ad)(x:Str):Prop:=aR K mainGlobals x\none
section
variable {K:ad} {h:Heap} {mg:Str->Option Value}
def dfH{x:Str}{st:Stmt}{d:Addr}{e f:Option Addr}{g:Array (Option Value)}{i kV j m b n:Value}(a:QI K x d)(l:Bt K x x st d e f g i kV j m b n)(c:bd K b x=true)(k:am K (.ref d)=true):gw K x st:=#[_,_,_,_,_,_,_,_,_,_,a,l,c,k]
def mfH{C:Addr}{m b:Str}{st:Stmt}{d:Addr}{g i:Option Addr}{j:Array (Option Value)}{n kV o p e q:Value}(a:ak K (.ref C) m\(some (.ref d)))(f:b5 K (.ref d)=true)(l:Bt K m b st d g i j n kV o p e q)(c:bd K e b=true)(k:am K (.ref d)=true):Ge K C m b st:=#[_,_,_,_,_,_,_,_,_,_,a,f,l,c,k]
noncomputable def bR.ch{x:Str}{st:Stmt}{ps:List Str}(X:K.In h)(G:h.Ns mainGlobals mg)(e:gw K x st)
  (b:∀(kV d g:Value)(i:Option Addr)(j m:Value)(f:List Value),f.length=ps.length->bindArgs (cb x x (gX st) (cW st) (aq st) .none kV d g i j m) #[f,[]]=pure (ps.zip f)):bR K mg x st ps:=
 Classical.choice (by
  obtain⟨_,_,_,_,_,_,_,_,_,_,a,l,c,k⟩:=e;exact#[.of X G a l c k b])
noncomputable def Bu.ch{Z:DC}{m d:Str}{st:Stmt}{ps:List Str}(e:Ge Z.K Z.C m d st)
  (b:∀(kV g j:Value)(n:Option Addr)(o p:Value)(i:List Value),i.length=ps.length->bindArgs (cb m d (gX st) (cW st) (aq st) .none kV g j n o p) #[i,[]]=pure (ps.zip i)):Bu Z m d st ps:=
 Classical.choice (by
  obtain⟨_,_,_,_,_,_,_,_,_,_,a,f,l,c,k⟩:=e;exact#[.of a f l c k b])
end
end L2
namespace wB
open PySem L2 Wb
variable {P:Program} {w:World} {mg:Str->Option Value} {base:Heap} {Z:DC} (T:Txt Z mg)
def vi(l:List Int):gG (gd l)\(l.map PyData.int):=rf (f:=D.int) (g:=PyData.int) (λ_=>rfl) l
def Em(l:List Int):(PyData.list (l.map PyData.int)).depth<=64:=by
 rw[PyData.depth]
 have:=iO (f:=PyData.int) (k:=1) (λn=>by simp[PyData.depth]) l
 lia
def Ey(a b:Int):PyData.eqv (.int a) (.int b)=true↔a=b:=by simp[PyData.eqv]
def KA{P:D->Prop}(h:P (.bl (!decide (l=m)))):M8 (.lst (gd l)) (.lst (gd m)) P:=by
 refine#[.list (l.map PyData.int), .list (m.map PyData.int),by rw[D.py,vi];rfl,by rw[D.py,vi];rfl,Em l,?_]
 have:PyData.eqv (.list (l.map PyData.int)) (.list (m.map PyData.int))=decide (l=m):=by
  rw[PyData.eqv]
  by_cases e:l=m
  .rw[IR e];exact(kI Ey l m).mpr e
  .rw[GT e]
   apply vB.mpr;exact λz=>e ((kI Ey l m).mp z)
 rw[mo rfl,this];exact h
def KC{a:Type}{f:a->Int}{l:List a}{P:D->Prop}(h:P (.bl false)):M8 (.lst (l.map λt=> .int (f t))) (.lst (l.map λt=> .int (f t))) P:=by
 have e:(l.map λt=>D.int (f t))=gd (l.map f):=by unfold gd;rw[dX];rfl
 rw[e];exact KA (by rw[IR rfl];exact h)
def Qh:c8:=λc P=>∃(w:W)(a:List Nat)(b:List (List (Nat×Nat)))(d:List (Nat×Nat)),c= [.ik w,bH w,aF a]/\qz w a b d/\(∀x∈a,x<4)/\P (.bl true)
def xY:FnOk P w Z.K mg base bQ 7 T.d__law_right.f T.d__law_right.fd ["_law_web_here","_law_turns","_law_dyes_here"] (aY Z Qh):=by
 have j:=oJ.nd;refine bF T.d__law_right.F oJ [0,0,0,0,0,0,0,0,0] ∅ (λds R h=>by obtain⟨_,_,_,_,rfl,_⟩:=h;rfl) (λaT A outer s H E ds R l h=>?_)
 have e:=l.units
 refine#[_,(av (b8 false 3 j (aU T.d__law_by_side (lI T) l (ae (U 1) au)))
   (av (b8 false 4 j (aU T.d__law_ties (zR T) l (ae (U 1) au)))
   (av (Ak 5 (NC:= ["_law_a","_law_b","_law_dyes_here","_law_by_side_here"]) (src:= [none,none,some 2,some 3]) rfl j (tX (aq gq)) #[rfl,rfl,rfl,rfl,trivial] (bL (U 4)) (λ_ _ _=>(pq 2 rfl (dP (bK 0 (show(["_law_a","_law_b","_law_dyes_here","_law_by_side_here"]:List Str).Nodup from by decide+kernel)) (dP (bK 1 (show(["_law_a","_law_b","_law_dyes_here","_law_by_side_here"]:List Str).Nodup from by decide+kernel)) lh)))) (λ_ _ _=>fh) (λ_ _ _=>(kR CK (fJ (U 2) (lZ e (U 3) (cF (ae (U 0) (ae (U 1) au))))) (fJ (U 2) (lZ e (U 3) (cF (ae (U 1) (ae (U 0) au))))))))
   (av (b8 false 6 j (qE wM rfl T.B.list nE (ae (U 2) au)))
   (av (eB (bU HL bh (U 5) (by with_unfolding_all rfl)) (av (b8 false 7 j (aU T.d__law_refused (uD T) l (ae (U 0) (ae (U 6) au))))
   (aw (ba (BK (v7 (j5 e) (U 7) (fJ (U 4) (tY (U 5) bh)) (bD _)) (Jt (v7 (j5 e) (U 6) (U 2) (bD _))))))) bM)
   (av (Nr rfl FM (GB rfl T.B.range (ae bh au)) (aK 8 j) (GG 7 1 j (t5 T.d_tie_dyes (zO T) l (ae (U 0) (ae (U 6) au)))
   (av (eB (DW.dt (Ny (rL (pA (v8 "list" (U 7) rfl T.B.isinstance rfl T.B.list nE))) (Ny (pA (cz QO rfl T.x_any QL (ae (nG (NC:= ["_law_one"]) (src:= [none]) rfl (tX (aq gq)) trivial (bL (U 7)) (λ_ _ _=>(bK 0 (show(["_law_one"]:List Str).Nodup from by decide+kernel))) (λ_ _ _=>fh) (λ_ _ _=>(v8 "bool" (U 0) rfl T.B.isinstance rfl T.B.bool D8))) au))) (Rc (bU (HN e) (U 7) (U 5) (bD _)))))) (aw (ba lY)) bM)
   (av (Nu 7)
   (aw (iP false 7 bh))))))
   (aw (ba (v7 (j5 e) (U 6) (U 2) (bD _)))))))))),?_]
 obtain⟨i,d,rss,ts,rfl,ok,d4,q⟩:=h;have g:=ok.g;have UW:=ok.few;have rl:=ok.rs.few g ok.h14;refine#[_,rfl,i,rfl,g,ok.h1,ok.h14,λa fL=>#[trivial,?_]];obtain rfl:=fL.uniq g ok.rs;refine#[_,rfl,i,rfl,g,ok.h14,λb Ib FL=>#[trivial,?_]];obtain rfl:b=ts:=abL (λ_ _ _ _=>jL) FL ok.srt (Ib.trans ok.pm.symm);exists _,rfl;refine iQ (λρ=>∃J L,ρ= [J,L,some (aF d),some (.x (.eG (m9 a) (h7 0 a)))]) pairD (λ_=>true) (λt=> .int (fo a d t)) b _ [] _ (λu e M N Y Nn hY hN=>?_) #[_,_,rfl] (by rw[o9,iC];exact small ()) λM N=>?_
 .obtain⟨J,L,rfl⟩:=N
  have O:aV i u:=rk (ok.pm.mem_iff.mp e);have Q:=ok.rs.mem g O;have S:=ok.rs.mem g (show aV i (u.2,u.1) from g.sym _ _ O);obtain⟨j1,a1,X⟩:=i9 a 0 Q;obtain⟨j2,a2,b2⟩:=i9 a 0 S;have l1:=pJ Q;have l2:=pJ S;rw[iC] at X b2;refine#[rfl,rfl,Kd ?_];refine#[_,rfl,_,rfl,_,rfl,_,rfl,by show 2<=sizeLine;decide,?_]
  refine#[zz u,m9 a,h7 0 a,j1,_,rfl,rfl,a1,X,_,gn (by rw[ok.len];exact l1),?_]
  refine#[_,rfl,_,rfl,_,rfl,_,rfl,by show 2<=sizeLine;decide,?_]
  exact#[zz (u.2,u.1),m9 a,h7 0 a,j2,_,rfl,rfl,a2,b2,_,gn (by rw[ok.len];exact l2),hY _ #[_,_,rfl] rfl]
 have ef:b.filter (λ_=>true)=b:=by simp
 rw[qt,ef];exists trivial;have ed:(b.map λt=>D.int (fo a d t))=gd (b.map λt=>fo a d t):=by unfold gd;rw[dX];rfl
 have fld:(b.map λt=>D.int (fo a d t)).all fw=true:=by rw[List.all_map,uT];intro x _;rfl
 exists _,rfl,trivial;exists _,rfl,rfl,fld,_,rfl;rw[tz dj];refine eM (λc=>?_) (λc=>?_)
 .have ex:∃k:Nat,∃t,b[k]?\t/\fo a d t=0/\∀(m:Nat)(n:Nat×Nat),m<k->b[m]?\n->fo a d n≠0:=by
   unfold inD at c;rw[aeh,uS] at c;obtain⟨t0,r,v⟩:=c;have v:fo a d t0=0:=by simpa [iY] using v
   have hp:∃x∈b,(λt=>decide (fo a d t=0)) x=true:=#[t0,r,IR v];have hl:=acL hp;refine#[b.findIdx λt=>decide (fo a d t=0),b[b.findIdx λt=>decide (fo a d t=0)],dH hl,M2 (List.findIdx_getElem (w:=hl)),λm n p WX z=>?_]
   have:=List.not_of_lt_findIdx p
   obtain⟨Hg,rfl⟩:=cw.mp WX;simp at this;exact this z
  obtain⟨k,t,C,h0,p⟩:=ex;exists _,rfl,_,rfl,i,d,a,b,rfl,ok,k,t,C,h0,p,trivial;have BY:f7 (b.map pairD) (k:Int)\(pairD t):=jJ (by rw[dJ,C];rfl)
  refine#[_,rfl,_,rfl,_,rfl,_,rfl,rfl,fld,k, .int 0,by rw[dJ,C];show some (D.int _)=_;rw[h0],rfl,λm z WL o=>?_,_,BY,?_]
  .rw[dJ] at o
   cases y:b[m]? with
   |none=>rw[y] at o;cases o
   |some n=>
    rw[y] at o;cases o
    have:=p m n WL y
    simpa [iY] using this
  refine(?_:Eh (pairD t) (pairD t) _);refine#[_,_,rfl,rfl,by simp[PyData.depth,PyData.depthAll],?_]
  rw[tz dj];refine#[true,by simp[PyData.eqv,PyData.eqvAll],dU #[_,rfl,_,rfl,?_]]
  refine(?_:Eh (aF d) (aF d) _);exact wR (by rw[IR rfl];exact q)
 .have vM:∀t∈b,fo a d t≠0:=λt ht z=>by
   unfold inD at c;rw[aeh,List.any_eq_false] at c;exact c t ht (by simp[iY,z])
  refine#[#[∅,∅],?_]
  refine bS (λ_ ρ=>∃G I,ρ= [some (.ik i),some (bH i),some (aF d),some (.x (.eG (m9 a) (h7 0 a))),some (.lst (b.map pairD)),some (.lst (b.map λt=> .int (fo a d t))),some (aF d),G,I]) #[_,_,rfl] ?_ ?_
  .rintro jj _ _ hd ⟨G,I,rfl⟩ A hA
   exists _,rfl,_,rfl,i,d,a,b,rfl,ok,vM,_,rfl;refine#[_,rfl,rfl,rfl,dS ?_];refine#[_,rfl,sh (ρ:= [none]) (λt=>D.int (fo a d t)) (λ_=> .bl false) b _ (λy hy Y h=>#[_,rfl,rfl,h]) rfl (small ()) λM=>?_]
   refine#[bu b.length false,by rw[List.map_replicate,List.map_const'],rfl,?_]
   have er:Bj (.bl ((bu b.length false).any id))=false:=by simp[Bj]
   rw[er];refine dS #[_,rfl,_,rfl,?_];refine KC #[false,rfl,dS ?_];exists _,rfl;exact#[_,rfl,trivial,aZ (by rw[List.length_reverse,aI];lia),#[_,rfl],hA _ #[_,_,rfl]]
  .rintro _ ⟨G,I,rfl⟩
   exists _,rfl,_,rfl;refine(?_:Eh (aF d) (aF d) _);exact wR (by rw[IR rfl];exact q)
def Qp(w:W):∃d:List (Nat×Nat),d.Perm (cH (row w) w.length)/\d.Pairwise lexLe:=by
 refine#[cH (λp=>(row w p).mergeSort λa b=>decide (a<=b)) w.length,Dq λp _=>List.mergeSort_perm _ _,yG λp _=>?_]
 have:=List.pairwise_mergeSort (le:=λa b:Nat=>decide (a<=b)) (λa b c e f=>IR (iq (M2 e) (M2 f))) (λa b=>by simp;lia) (row w p)
 exact this.imp λh=>M2 h
def C8:c8:=λb P=>∃(a:List Int),b= [.oP a]/\a.length<=63/\P (.bl true)
def Sn:FnOk P w Z.K mg base bQ 8 T.d_law.f T.d_law.fd ["_law_script"] (aY Z C8):=by
 have k:=J7.nd;refine bF T.d_law.F J7 [0,0,0,0,0] ∅ (λJ R h=>by obtain⟨_,rfl,_⟩:=h;rfl) (λaT A outer s H E J R a h=>?_)
 have L:=a.units
 refine#[_,(av (b8 false 1 k (aU T.d__law_web (CN T) a (ae (U 0) (ae bh (ae (v7 (j5 L) (kR CJ (aU T.d__law_cell (zQ T) a (ae (U 0) (ae bh au))) bh) bh (bD _)) au)))))
   (av (Eu 2 k (oi T) (a.mono ∅) rfl T.d__law_dyes.m T.d__law_dyes.F.kp T.d__law_dyes.b (U 1) (t5 T.d__law_digits (lH T) a (ae (U 0) (ae bh au))))
   (av (Eu 3 k (oi T) (a.mono ∅) rfl T.d__law_dyes.m T.d__law_dyes.F.kp T.d__law_dyes.b (U 1) (t5 T.d__law_digits (lH T) a (ae (U 0) (ae bh au))))
   (av (b8 false 4 k (Nd T.mkW (uC T) (a.mono ∅) rfl T.mC T.m___init__b (ae (nG (NC:= ["_law_turn"]) (src:= [none]) rfl (tX (aq yq)) trivial (bL (U 1)) (λ_ _ _=>(bK 0 (show(["_law_turn"]:List Str).Nodup from by decide+kernel))) (λ_ _ _=>fh) (λ_ _ _=>(qE wM rfl T.B.list nE (ae (U 0) au)))) au)))
   (aw (ba (cz (QN rfl) rfl T.B.all QK (ae (nG (NC:= ["_law_some","_law_web_here","_law_turns"]) (src:= [none,some 4,some 1]) rfl (tX (aq yq)) #[rfl,rfl,rfl,rfl,trivial] (bL (kH (ae (U 2) (ae (U 3) (ae (U 2) au))))) (λ_ _ _=>(bK 0 (show(["_law_some","_law_web_here","_law_turns"]:List Str).Nodup from by decide+kernel))) (λ_ _ _=>fh) (λ_ _ _=>(aU T.d__law_right (xY T) a (ae (U 1) (ae (U 2) (ae (U 0) au)))))) au)))))))),?_]
 obtain⟨l,rfl,Ca,q⟩:=h;refine#[_,rfl,_,rfl,l,5,rfl,∅,λv=>?_]
 refine#[by show(0:Int)<2;decide,?_]
 refine NF ?_;refine#[l,14,_,rfl,∅,∅,λc g d e=>#[trivial,?_]]
 refine#[_,rfl,_,rfl,l,6,rfl,∅,λM ne N=>#[_,rfl,c,M,rfl,g,d,e,ne,N,λO i n dl C=>?_]]
 refine#[_,rfl,_,rfl,l,7,rfl,∅,λQ o p=>#[_,rfl,c,Q,rfl,g,d,e,o,p,λG r S t u=>?_]]
 obtain rfl:=S.uniq g n;obtain⟨I,z,srt⟩:=Qp c;refine#[_,rfl,sh (ρ:= [none]) aF aF c _ (λy j Y h=>#[_,rfl,h]) rfl (small ()) λX=>#[c,rfl,g,d,e,trivial,?_]]
 refine#[_,rfl,_,rfl,_,rfl,by show 3<=sizeLine;decide,?_]
 have all:∀y∈ [i,r,i],qz c y G I/\∀x∈y,x<4:=λy j=>by
  simp only[eL,List.not_mem_nil,or_false] at j
  rcases j with rfl|rfl|rfl
  .exact#[#[g,d,e,n,dl,z,srt],C]
  .exact#[#[g,d,e,n,t,z,srt],u]
  .exact#[#[g,d,e,n,dl,z,srt],C]
 refine(?_:lcW _ _ _ ([i,r,i].map aF) _ _ _);refine sh (ρ:= [none,some (.ik c),some (bH c)]) aF (λ_=> .bl true) [i,r,i] _ (λy j Y h=>#[_,rfl,_,rfl,_,rfl,c,y,G,I,rfl,(all y j).1,(all y j).2,h]) rfl (by show 3<=sizeLine;decide) λX=>?_
 exact#[[true,true,true],rfl,q]
set_option hygiene false in
local macro_rules| `(tactic|and_intros)=> `(tactic| (intro _ _ _ _ _ _ _ hl;first| (obtain⟨_,rfl⟩:=L2.Uv hl;rfl) | (obtain⟨_,_,rfl⟩:=L2.Uw hl;rfl) | (obtain⟨_,_,_,rfl⟩:=L2.aag hl;rfl) | (obtain⟨_,_,_,_,rfl⟩:=L2.abu hl;rfl) | (obtain⟨_,_,_,_,_,rfl⟩:=L2.lE hl;rfl)))
def all_mk{l:cZ}{w:World}(X:K.In h)(G:h.Ns mainGlobals c)(j:c "law"\(.ref fa)) 
  
  
  
  
  
  
  
  
  
  
  
  
  
  
  
  
  
  
  
  
  (gC:aR K mainGlobals "Web"\(some (.ref C)))
  (a0:gw K "round_from" k6)
  (a1:gw K "lands" oE)
  (a2:gw K "is_among" oz)
  (a3:gw K "alien_fault" j9)
  (a4:gw K "self_fault" k7)
  (a5:gw K "twice_fault" kg)
  (a6:gw K "lone_fault" k4)
  (a7:gw K "reached_from_first" dN)
  (a8:gw K "apart_fault" kc)
  (a9:gw K "first_fault" ke)
  (a10:gw K "sides_of" oF)
  (a11:gw K "land_numbers" gv)
  (a12:gw K "tie_dyes" oG)
  (a13:gw K "_law_cell" sN)
  (a14:gw K "_law_mixed" qj)
  (a15:gw K "_law_digits" ou)
  (a16:gw K "_law_take" sO)
  (a17:gw K "_law_tree" sP)
  (a18:gw K "_law_next" mE)
  (a19:gw K "_law_round" kZ)
  (a20:gw K "_law_tie" vm)
  (a21:gw K "_law_renamed" mN)
  (a22:gw K "_law_web" vn)
  (a23:gw K "_law_lands" kY)
  (a24:gw K "_law_by_side" jh)
  (a25:gw K "_law_ties" jH)
  (a26:gw K "_law_dyes" ic)
  (a27:gw K "_law_refused" ji)
  (a28:gw K "_law_right" gq)
  (Yp:QI K "law" k)
  (l29:Bt K "law" "law" yq k m Yt n o p YW q T6 YA)
  (c29:bd K T6 "law"=true)
  (k29:am K (.ref k)=true)
  (m0:ak K (.ref C) "__init__"\(some (.ref f)))
  (f0:b5 K (.ref f)=true)
  (ml0:Bt K "__init__" "Web.__init__" fm f r t u x y z A g B)
  (mc0:bd K g "Web.__init__"=true)
  (mk0:am K (.ref f)=true)
  (m1:Ge K C "many" "Web.many" ot)
  (m2:Ge K C "turns" "Web.turns" sM)
  (m3:Ge K C "ties" "Web.ties" kL)
  (m4:Ge K C "tied" "Web.tied" vk)
  (m5:Ge K C "behind" "Web.behind" kX)
  (pgC:cr K C Str.empty=true)
  (Rr:cm K C=true)
  (poC:dc K C=true)
  (saC:ak K (.ref C) "__setattr__"\(some (.builtin "object.__setattr__")))
  (mkC:d5 K C=true)
  (kpC:am K (.ref C)=true)
  (nR:ak K (.ref C) "rows"\none)
  (xn:bv K (.builtin "object.__class__") "__get__"\(some (.builtin "getset_descriptor.__get__")))
  (xt:dM K (.builtin "object.__class__")\true)
  (zVE:aR K mainGlobals "ValueError"\none)
  (rR:aR K mainGlobals "MapError"\(some (.ref b)))
  (EE:aR K mainGlobals "TooMany"\(some (.ref E)))
  (BU:aR K mainGlobals "TooSmall"\(some (.ref F)))
  (K2:aR K mainGlobals "NoWeb"\(some (.ref H)))
  (BS:aR K mainGlobals "NotPlane"\(some (.ref I)))
  (GO:aR K mainGlobals "NoText"\(some (.ref J)))
  (BR:aR K mainGlobals "NoCorner"\(some (.ref L)))
  (GN:aR K mainGlobals "NoRing"\(some (.ref M)))
  (K1:aR K mainGlobals "Alike"\(some (.ref a)))
  (GQ:aR K mainGlobals "TooFew"\(some (.ref N)))
  (ED:aR K mainGlobals "NotFree"\(some (.ref O)))
  (zx:aR K mainGlobals "NotFilled"\(some (.ref Q)))
  (Rl:aR K mainGlobals "Odd"\(some (.ref R)))
  (GL:aR K mainGlobals "Bridge"\(some (.ref S)))
  (GP:aR K mainGlobals "Shared"\(some (.ref Y)))
  (BZ:cm K b=true)
  (BQ:ak K (.ref b) "__getattribute__"\(some (.builtin "BaseException.__getattribute__")))
  (BW:ak K (.ref b) "__getattr__"\none)
  (C4:ak K (.ref b) "__setattr__"\(some (.builtin "object.__setattr__")))
  (BD:ak K (.ref b) "__class__"\(some (.builtin "object.__class__")))
  (BG:eg K b\rF)
  (BE:rF.mro= .ref b:: [.type "ValueError", .type "Exception", .type "BaseException", .type "object"])
  (CA:K.lookup b\(excClassObj CG q_MapError b D0 By rD xl C7 zV Bw zt BJ Cj Ck Cn Co Cp "ValueError.__new__"))
  (BB:rD= [.type "ValueError", .type "Exception", .type "BaseException", .type "object"])
  (AB:cm K a=true)
  (Ay:ak K (.ref a) "__getattribute__"\(some (.builtin "BaseException.__getattribute__")))
  (Az:ak K (.ref a) "__getattr__"\none)
  (Be:ak K (.ref a) "__setattr__"\(some (.builtin "object.__setattr__")))
  (Ab:ak K (.ref a) "__class__"\(some (.builtin "object.__class__")))
  (Af:eg K a\z7)
  (Ac:z7.mro= .ref a:: [.ref b, .type "ValueError", .type "Exception", .type "BaseException", .type "object"])
  (AZ:K.lookup a\(excClassObj LK q_Alike a MQ Ku z5 EI Mq IC Kr Gs KG Lv Lw Ly Lz LA "ValueError.__new__"))
  (z6:z5= [.ref b, .type "ValueError", .type "Exception", .type "BaseException", .type "object"])
  (sgM:bv K (.ref b) "__getattribute__"\(some (.builtin "type.__getattribute__")))
  (rdM:d3 K b (.type "type")=true)
  (fcM:d6 K (.ref b) (.type "type") "__init__"\(.val (.builtin "ValueError.__init__")))
  (Kv:bv K (.ref a) "__call__"\(some (.builtin "type.__call__")))
  (MA:PySem.W.instIn K (.ref a) (.type "type")\true)
  (Lk:ak K (.ref a) "__init__"\(some (.ref i)))
  (LB:am K (.ref a)=true)
  (KW:b5 K (.ref i)=true)
  (AK:Bt K "__init__" "Alike.__init__" h8 i Ln Lp Ls Lm Lo Lq Lr AM Lu)
  (AL:bd K AM "Alike.__init__"=true)
  (AJ:am K (.ref i)=true)
  (n_Alike_one:ak K (.ref a) "one"\none)
  (n_Alike_other:ak K (.ref a) "other"\none)
  (z_Alike_TooMany:aj K (.ref a) (.ref E)\false)
  (z_Alike_TooSmall:aj K (.ref a) (.ref F)\false)
  (z_Alike_NoWeb:aj K (.ref a) (.ref H)\false)
  (z_Alike_NotPlane:aj K (.ref a) (.ref I)\false)
  (z_Alike_NoText:aj K (.ref a) (.ref J)\false)
  (z_Alike_NoCorner:aj K (.ref a) (.ref L)\false)
  (z_Alike_NoRing:aj K (.ref a) (.ref M)\false)
  (z_Alike_TooFew:aj K (.ref a) (.ref N)\false)
  (z_Alike_NotFree:aj K (.ref a) (.ref O)\false)
  (z_Alike_NotFilled:aj K (.ref a) (.ref Q)\false)
  (z_Alike_Odd:aj K (.ref a) (.ref R)\false)
  (z_Alike_Bridge:aj K (.ref a) (.ref S)\false)
  (z_Alike_Shared:aj K (.ref a) (.ref Y)\false)
  (z_Alike_ValueError:aj K (.ref a) (.type "ValueError")\true)
  (m_Alike_MapError:cv K a (.ref b)\true)
  (Yz:aR K mainGlobals "__name__"\(some (.str "law_mapdye_k71_ties_dyes" d)))
  (cc1:aR K mainGlobals "MOST_POINTS"\(some (.int 14 Mw)))
  (aa3:nq K "len")
  (TR:nq K "range")
  (aa4:nq K "max")
  (aa5:nq K "min")
  (F3:nq K "enumerate")
  (aa8:nq K "zip")
  (QF:nq K "sorted")
  (aa0:nq K "all")
  (DK:nq K "isinstance")
  (aa2:nq K "int")
  (Ya:nq K "bool")
  (Yb:nq K "list")
  (TU:nq K "tuple")
  (aa7:nq K "sum")
  (Jj:nq K "reversed")
  (aa6:nq K "set")
  (aa1:nq K "any")
  :∃fd:FuncData,(∀(s:Shared)(v:Value),BindsTo s fd #[[v],[]] [("_law_script",v)])/\∀base:Heap,K.In base->base.Ns mainGlobals c->FnOk l.prog w K c base bQ 40 fa fd ["_law_script"] (L2.sY K):=by
 have e:=j.symm.trans (Os X G Yp);cases e;have E0:=l7 (st:=fm) ml0 mc0 mk0;have e0:=E0.binds (ps:= ["self","turns"]) (by and_intros)
 let Z:DC:=#[K,C]
 let T:Txt Z c:=#[#[KF X G aa3,KF X G TR,KF X G aa4,KF X G aa5,KF X G F3,KF X G aa8,KF X G QF,KF X G aa0,KF X G DK,KF X G aa2,KF X G Ya,KF X G Yb,KF X G TU,KF X G aa7,KF X G Jj],KF X G aa6,KF X G aa1, .ch X G a0 (by and_intros), .ch X G a1 (by and_intros), .ch X G a2 (by and_intros), .ch X G a3 (by and_intros), .ch X G a4 (by and_intros), .ch X G a5 (by and_intros), .ch X G a6 (by and_intros), .ch X G a7 (by and_intros), .ch X G a8 (by and_intros), .ch X G a9 (by and_intros), .ch X G a10 (by and_intros), .ch X G a11 (by and_intros), .ch X G a12 (by and_intros), .ch X G a13 (by and_intros), .ch X G a14 (by and_intros), .ch X G a15 (by and_intros), .ch X G a16 (by and_intros), .ch X G a17 (by and_intros), .ch X G a18 (by and_intros), .ch X G a19 (by and_intros), .ch X G a20 (by and_intros), .ch X G a21 (by and_intros), .ch X G a22 (by and_intros), .ch X G a23 (by and_intros), .ch X G a24 (by and_intros), .ch X G a25 (by and_intros), .ch X G a26 (by and_intros), .ch X G a27 (by and_intros), .ch X G a28 (by and_intros), .of X G Yp l29 c29 k29 (by and_intros),#[#[pgC,Rr,poC,saC],nR],Os X G gC,f,_,E0,#[mkC,m0,f0,kpC],e0, .ch m1 (by and_intros), .ch m2 (by and_intros), .ch m3 (by and_intros), .ch m4 (by and_intros), .ch m5 (by and_intros),#[xn,xt],KF X G zVE,b,Os X G rR,E,Os X G EE,F,Os X G BU,H,Os X G K2,I,Os X G BS,J,Os X G GO,L,Os X G BR,M,Os X G GN,a,Os X G K1,N,Os X G GQ,O,Os X G ED,Q,Os X G zx,R,Os X G Rl,S,Os X G GL,Y,Os X G GP,Jc BZ BQ BW C4 BD BG BE CA BB rfl,Jc AB Ay Az Be Ab Af Ac AZ z6 rfl,#[Os X G rR,sgM,rdM,fcM],#[i,_,l7 AK AL AJ,(l7 AK AL AJ).binds (ps:= ["self","one","other"]) (by and_intros),#[(Jc AB Ay Az Be Ab Af Ac AZ z6 rfl).obj,Kv,MA,Lk,LB],KW],n_Alike_one,n_Alike_other,z_Alike_TooMany,z_Alike_TooSmall,z_Alike_NoWeb,z_Alike_NotPlane,z_Alike_NoText,z_Alike_NoCorner,z_Alike_NoRing,by unfold aj;exact mo (adJ _),z_Alike_TooFew,z_Alike_NotFree,z_Alike_NotFilled,z_Alike_Odd,z_Alike_Bridge,z_Alike_Shared,z_Alike_ValueError,m_Alike_MapError,#[d,Os X G Yz],#[Mw,Os X G cc1]]
 exact#[_,λs v=> .of_eq rfl,λbase _ _=>(((Sn (P:=l.prog) (w:=w) (base:=base) T).mono ∅).imp (L2.RX (Z:=Z)))]
def walk{l:cZ}{q:Program}{a:List Str}{i:(Str->Option Value)->Heap->Prop}{c:World->Heap->Prop}{d:DefRec}{K:Params->ad}(j:l.most\63)(k:d.params.defaults= [])
  (m:∀(w:World)(h:Heap),c w h->(K w.params).In h)
  (F:∀(w:World)(b:Str->Option Value)(e:Addr)(h:Heap),(K w.params).In h->h.Ns mainGlobals b->b d.name\(.ref e)->
   ∃g:FuncData,(∀(s:Shared)(u:Value),BindsTo s g #[[u],[]] [("_law_script",u)])/\∀base:Heap,(K w.params).In base->base.Ns mainGlobals b->FnOk l.prog w (K w.params) b base bQ 40 e g ["_law_script"] (sY (K w.params))):
  eh q a i c l.row.toRowW d [] (λf n=>ee f n):=L2.X5 40 ∅ j k m F
end wB
namespace PySem.W.Fast
def tw2895967134550297018:=0
def tw4280679245218335773:=0
def tw4788467681691367889:=0
def tw11955687083431101982:=0
def tw15743234869642341536:=0
def tw6490424941359202198:=0
def tw12448709359885568207:=0
def tw7063568019610618689:=0
def tw16024887758519889676:=0
def tw1560284544191604714:=0
def tw13555653479538909295:=0
def tw7035430903152524437:=0
def tw16960978832735866382:=0
def tw16879343523294335850:=0
def tw14522583709480160480:=0
def tw17849667760405626437:=0
def tw15861015089449628375:=0
def tw8954031342859128803:=0
def tw3082677375682820632:=0
def tw2587028786224660364:=0
def tw848409063588781027:=0
def tw6033925337717378321:=0
def tw13758965177624478252:=0
def tw4011617530991923268:=0
def tw7079824961804270940:=0
def tw8858937383492618942:=0
def tw7403633686972449285:=0
def tw8290657676940454461:=0
def tw4545833521065846260:=0
def tw3862057515394975145:=0
def tw14093020088167003546:=0
def tw18031635341275450938:=0
def tw9223080499105249651:=0
def tw9100013263273475847:=0
def tw3119205776398992955:=0
def tw5003872397426201279:=0
def tw271198164165471802:=0
def tw1995402121802553499:=0
def tw15071139881328958199:=0
def tw3245197690964891113:=0
def tw7920622138156993674:=0
def tw5135551420799890089:=0
def tw16832407931778685223:=0
def tw8410700588034738453:=0
def tw15146339109301847981:=0
def tw10306495408724145800:=0
def tw6655090463533465344:=0
def tw1875091334229405465:=0
def tw6486482596101785743:=0
def tw9553606066274154461:=0
def tw9475169980899480213:=0
def tw10747869803346652059:=0
def tw4174971941629224633:=0
def tw1880151351319636252:=0
def tw6885044770141409283:=0
def tw10725073910582330296:=0
def tw12252061466465124965:=0
def tw12387902599973160402:=0
def tw11363606855014341122:=0
def tw5428791504228427462:=0
def tw2354521040148769240:=0
def tw14031808960551512288:=0
def tw16317989526892599913:=0
def tw3031968435797025700:=0
def tw3637114458022866690:=0
def tw2453244460645005255:=0
def tw7847298008935125487:=0
def tw16353898757400019921:=0
def tw9968215802163474487:=0
def tw17236696046483291607:=0
def tw16441998831359373688:=0
def tw17083807842243330321:=0
def tw18016575504222773009:=0
def tw1467007059491577754:=0
def tw8651343466167119774:=0
def tw11560326081376834766:=0
def tw5181551950409462975:=0
def tw5119494877798417802:=0
def tw5612635302820245881:=0
def tw10265383755108205291:=0
def tw4652916666973321082:=0
def tw14642633427134854132:=0
def tw3010013048017416974:=0
def tw17660901456212458903:=0
def tw10314453839769217340:=0
def tw2877550468323387008:=0
def tw7151541686795064974:=0
def tw7108863267437349550:=0
def tw13069349789469606351:=0
def tw7915344874266072669:=0
def tw9362111429093226140:=0
def tw5850640049732070957:=0
def tw12483764112492279284:=0
def tw1534997081460049317:=0
def tw8458439756356729914:=0
def tw16401128969720603298:=0
def tw15901545287741703190:=0
def tw12000583192593662223:=0
def tw2195411695180280549:=0
def tw9892828298721650103:=0
def tw9388931925566081021:=0
def tw5441517187990530041:=0
def tw3007150362726919174:=0
def tw4775016890708792111:=0
def tw10361458468354102039:=0
def tw5123128136811710561:=0
def tw9826203335436945525:=0
def tw13323059122331114243:=0
def tw14884293966590860215:=0
def tw9842848224946405155:=0
def tw6219609829419731670:=0
def tw5787851319261155598:=0
def tw13351294047273212428:=0
def tw12823772323476219655:=0
def tw17937464616848859680:=0
def tw16813806817424587172:=0
def tw13380337232687057018:=0
def tw10802512784633279071:=0
def tw10662506093429568777:=0
def tw13340115976664608057:=0
def tw8762399476552049629:=0
def tw1678527237885127102:=0
def tw1410063381311137916:=0
def tw11351062800905930284:=0
def tw15025020464371977039:=0
def tw7204137915324786656:=0
def tw1302444457863026324:=0
def tw3428546270445531298:=0
def tw4143406732376076784:=0
def tw2213555954372136207:=0
def tw17788764321997197741:=0
def tw3745164763778907951:=0
def tw8212381170127469095:=0
def tw10657712321194773349:=0
def tw8459285914205034403:=0
def tw4643055602960450309:=0
def tw6159482014382628412:=0
def tw6665290679564127843:=0
def tw2456904779334817215:=0
def tw8400367515888872754:=0
def tw5021453952541395132:=0
def tw7043259561037143150:=0
def tw11453826581152698105:=0
def tw5204376159388070814:=0
def tw8870365519287166313:=0
def tw4404551317513420219:=0
def tw11221490583920983576:=0
def tw2493634535452364507:=0
def tw3257472115078260601:=0
def tw10760646042780607304:=0
def tw15440206485283702368:=0
def tw13765588140893227741:=0
def tw8251897839341866105:=0
def tw17583385396244132106:=0
def tw16141285419710469842:=0
def tw11978942146895363906:=0
def tw4561741658670222656:=0
def tw14358240277200287727:=0
def tw3388617659828537692:=0
def tw12802646444204086689:=0
def tw1820182910378502479:=0
def tw12783335579266318737:=0
def tw8593997690188891217:=0
def tw3759763986626539258:=0
def tw4432111562139546019:=0
def tw15720612406243387595:=0
def tw6401863406656938532:=0
def tw18298131090847772315:=0
def tw2254752927441919862:=0
def tw16408176323645391847:=0
def tw7006069632832087192:=0
def tw405319725643425728:=0
def tw7068653649519748266:=0
def tw4356363097121437565:=0
def tw2828511947990367181:=0
def tw6549822069808814008:=0
def tw1236041203373103076:=0
def tw9208798746892035506:=0
def tw10644290881759112528:=0
def tw14718711763917018831:=0
def tw9152432007584789808:=0
def tw12327645060032002753:=0
def tw13398666406352370019:=0
def tw13677508506704158755:=0
def tw2544378766135368013:=0
def tw2440995754100434896:=0
def tw6782978409092294759:=0
def tw17920904342608037650:=0
def tw8774310717993085246:=0
def tw9307855867536814637:=0
def tw8687049933339396043:=0
def tw6527432968832109947:=0
def tw9066365730372924892:=0
def tw327631630560339462:=0
def tw7255170116226921346:=0
def tw6318011892211001086:=0
def tw13510289440290292301:=0
def tw11092188293610060369:=0
def tw15065424755086929295:=0
def tw341147685130440735:=0
def tw4888450833396664099:=0
def tw1149918505934814842:=0
def tw8728139677732869463:=0
def tw5059042349159999459:=0
def tw17283269489568855318:=0
def tw10555888115960165529:=0
def tw14815702303575262992:=0
def tw8219121355042886152:=0
def tw10100868921028318574:=0
def tw15218408241470555321:=0
def tw11146124601107262218:=0
def tw4590356461633957628:=0
def tw5068342518860257030:=0
def tw14533585497735004275:=0
def tw6525287320122588731:=0
def tw3721550072670757367:=0
def tw8647572204203972732:=0
def tw8193496639258416750:=0
def tw11718423440156610586:=0
def tw5674847472067695550:=0
def tw9499424925776184626:=0
def tw4197576255890089300:=0
def tw5575599860682860085:=0
def tw10915968215425017187:=0
def tw12561758494098257354:=0
def tw1488878409841527669:=0
def tw251441986783233693:=0
def tw17607439401056371238:=0
def tw8751352127836623274:=0
def tw7566099053166917965:=0
def tw9154311249916973180:=0
def tw1114844200421005093:=0
def tw10858314528080307923:=0
def tw15725897068593115703:=0
def tw12829811151196237249:=0
def tw9607868825570825428:=0
def tw10297538318044648783:=0
def tw804612927471138966:=0
def tw2441817803337212721:=0
def tw8257100725272594228:=0
def tw9625389804367322030:=0
def tw17021702319337090376:=0
def tw5447774916441454314:=0
def tw9517027283044291454:=0
def tw6137273351779355146:=0
def tw15786093675590865054:=0
def tw524151788173365670:=0
def tw8279007756637227924:=0
def tw16593588975288284371:=0
def tw391295928832137284:=0
def tw6010851882896215778:=0
def tw2642021497249979800:=0
def tw3076213030724313904:=0
def tw18332147591352260513:=0
def tw11813282027375410609:=0
def tw11244141862123675837:=0
def tw13939826460462673065:=0
def tw12202572725351012656:=0
def tw12828671788453695988:=0
def tw2607975582191082681:=0
def tw8113118536592323043:=0
def tw5427759450471834474:=0
def tw16375129634404890478:=0
def tw5022217159386597950:=0
def tw9439949739679848189:=0
def tw4042681331617096706:=0
def tw3796749554274799488:=0
def tw8065843598744314281:=0
def tw1106539080757334741:=0
def tw16553015289025264820:=0
def tw4292536312208900270:=0
def tw7341081103356047575:=0
def tw5243734147795553311:=0
def tw15847589888946501668:=0
def tw12245900593812518483:=0
def tw5476512108772548841:=0
def tw7641099737394047155:=0
def tw17034861923264921096:=0
def tw5146508432325078077:=0
def tw14665016635721183399:=0
def tw11750022136026474342:=0
def tw9405574675549202348:=0
def tw2081236833817330164:=0
def tw5871297007526076734:=0
def tw16131269390659218735:=0
def tw8123617827817322426:=0
def tw5777883962840972221:=0
def tw929716211088093422:=0
def tw10005666503948209736:=0
def tw13813537221555041560:=0
def tw6857234308456600963:=0
def tw26645043659694213:=0
def tw6969887941298296164:=0
def tw16417283490011542005:=0
def tw8416034960437548040:=0
def tw18019023745522028408:=0
def tw2176602194258771588:=0
def tw12942637576390023061:=0
def tw8844410413113799813:=0
end PySem.W.Fast
open PySem PySem.W PyProof.Rows
set_option maxRecDepth 100000 in
set_option maxHeartbeats 0 in
theorem PySem.Challenge.cw_mapdye_k71_ties_dyes_holds : PySem.Challenge.rw_mapdye_k71_ties_dyes.Holds := by
 w_on;o_law;k_head;(case hw=>w_witness2)
 k_fill
 refine wB.walk (l:=PySem.Challenge.rw_mapdye_k71_ties_dyes) rfl rfl (λw h Y=>PySem.W.kIn_of Y) ?F
 case F=>
  intro w mg fa h KX G ui
  refine' wB.all_mk KX G ui ?_ ?_ ?_ ?_ ?_ ?_ ?_ ?_ ?_ ?_ ?_ ?_ ?_ ?_ ?_ ?_ ?_ ?_ ?_ ?_ ?_ ?_ ?_ ?_ ?_ ?_ ?_ ?_ ?_ ?_ ?_ ?_ ?_ ?_ ?_ ?_ ?_ ?_ ?_ ?_ ?_ ?_ ?_ ?_ ?_ ?_ ?_ ?_ ?_ ?_ ?_ ?_ ?_ ?_ ?_ ?_ ?_ ?_ ?_ ?_ ?_ ?_ ?_ ?_ ?_ ?_ ?_ ?_ ?_ ?_ ?_ ?_ ?_ ?_ ?_ ?_ ?_ ?_ ?_ ?_ ?_ ?_ ?_ ?_ ?_ ?_ ?_ ?_ ?_ ?_ ?_ ?_ ?_ ?_ ?_ ?_ ?_ ?_ ?_ ?_ ?_ ?_ ?_ ?_ ?_ ?_ ?_ ?_ ?_ ?_ ?_ ?_ ?_ ?_ ?_ ?_ ?_ ?_ ?_ ?_ ?_ ?_ ?_ ?_ ?_ ?_ ?_ ?_ ?_ ?_ ?_ ?_ ?_ ?_
  all_goals (try (first| (show _=_;k_is) | (refine' L2.dfH ?_ ?_ ?_ ?_<;>(try (show _=_;k_is))) | (refine' L2.mfH ?_ ?_ ?_ ?_ ?_<;>(try (show _=_;k_is))) | (refine' L2.aba ?_ ?_ ?_ ?_ ?_ ?_ ?_<;>first| (show _=_;k_is) |rfl) | (refine' L2.abb ?_ ?_ ?_ ?_<;>first| (show _=_;k_is) |rfl) |rfl))



