import PyProof.Rows.All
import Wide.All
import OpenK.AllK
import Wide.FinOn
import Lean
import PyProof.EqAt
import PyProof.EqKinds
import PyProof.TupleCall
import PyProof.RaisesMany
import KE.KSortTup
import PyProof.NeKinds
import PyProof.SetKind
import PyProof.SetRoads
import PyProof.SetNew
import PyProof.WalksS
import PyProof.CollectWalk
import PyProof.TupleKey
import PyProof.IsRules
import PyProof.InstEq
import KE.KRevIter
import PyProof.FitsBits
import PyProof.P3Eq
import PyProof.ListRange
import PyProof.RulesAs
import PyProof.NsDelKeeps
import PyProof.PassesOwn
import PyProof.FString
import PyProof.MeetsSeq
import PyProof.DictRoadsH
import PyProof.DictTruth
import PyProof.MinMaxWalk
import KE.KItemsList
import PyProof.DictCompW
import PySem.Challenge.RW_mapdye_k74_crossed
set_option compiler.extract_closed false
local macro_rules|`(tactic|subst_eqs)=>`(tactic|first|exact Or.inl rfl|exact Or.inr rfl|exact Or.inr (Or.inl rfl)|exact Or.inr (Or.inr rfl)|assumption)
local macro_rules|`(tactic|bv_omega)=>`(tactic|exact ⟨rfl,rfl,rfl,by decide+kernel,rfl,by decide+kernel,by decide+kernel⟩)
local macro_rules|`(#[$x,$y,*])=>`(⟨$x,$y,*⟩)
local macro_rules|`(#[$x])=>`(⟨$x⟩)
local macro_rules|`(tactic|exists $x,*)=>`(tactic|refine⟨$x,* ,?_⟩)
local macro_rules|`(())=>`((by first|assumption|exact Nat.le_of_not_lt ‹_›|exact Nat.le_of_lt ‹_›|exact Nat.le_refl _|exact Nat.le_of_lt_succ ‹_›|lia))
local macro_rules|`(∅)=>`((by decide))
local macro_rules|`(~~~$x)=>`((by simpa using $x))
local macro_rules|`($a\$b)=>`($a=some $b)
local macro_rules|`($a<<<$b)=>`(rightact% HPow.hPow $a $b)
local macro_rules|`($f $x* ^$a)=>`($f $x* $a)|`($f^$a)=>`($f $a)
local macro_rules|`(tactic|let⟨$[$x:ident],*⟩:=$e)=>`(tactic|obtain⟨$[$x:ident],*⟩:=$e)
set_option genInjectivity false
set_option genSizeOf false
section
open PySem
abbrev eT(x:Str):Prop:=(x==("__debug__":Str))=false
abbrev eR(x:Str):Prop:=(x==("__classdict__":Str))=false
abbrev eI(e:Expr)(s:List Expr)(v:Env):Prop:=starEach (e::s) v=(false,eval e v)::starEach s v
abbrev eH(o:Expr)(n:Str)(v:Env):Prop:=attributeBase o n v (eval o v)=eval o v
abbrev eD(p:Pos)(s:List Expr)(v:Env):Prop:=(backTo p (starEach s v)).any (·.1)=false
abbrev fF(p:Pos)(s:List Expr)(v:Env):Prop:=((backTo p (starEach s v)).all (λx=>!x.1)&&(backToKw p (keywordEach [] v)).all (λx=>x.1.isSome)&&decide (s.length+([]:List Keyword).length+(if ([]:List Keyword).isEmpty then 0 else 1)<30))=true
end
open PySem renaming wpAny_bind->a_,Value->b_,Shared->c_,starEach->d4,model->d5,wpAny->d7,Program->ec,Str->ee,intKind->eg,mainGlobals->eh,World->ei,foldedSetIterable->ey,Expr->e_,tupleKeyHash->fb,compareOp->fz,eval->fC,wpAny_pure->f5,Around->f7,backTo->f8,bootBuiltins->f_,IsTupleKey->gc,attributeBase->ge,FuncData->gi,wpAny_loadPart'->gj,codeAny->gl,swapsWith->gs,wpAny_mono->gv,assignEach->gB,wpAny_loadPart_at->gE,wpAny_isSubtype_exc->g6,keywordEach->g_,holding->hB,setSearchFrom->hE,excClassObj->hH,Keyword->hT,tupleKind->hX,binaryOp->ii,backToKw->il,standAt->im,Pos->ip,behindInMarks->iq,NameKind->ix,ExceptHandler->iF,letOwnedTupleGo->iG,sysModules->i_,wpAny_call->ja,sliceBounds->jc,unsupported->jd,codeAny_mono->jk,wpAny_newObj_type->jn,newFunctionEnv->jo,ofAClassStatement->jp,assign->jq,checkBuiltinCall->js,swapsWithSole->jt,swappedStores->ju,Sem->j9,relabel->j_,ExcBaseFacts->ka,getMethod->ku,noteFrame->kv,setFlight->kF,rawInt->kG,ZipApart->kZ,Result->k_,wpAny_standAt->la,bindArgs->lf,SetTable->li,entryOfKey->ln,pyNext->lp,Env->lE
open PyProof.Rows renaming arrOf->d6,pendingOf->d_,SortSt->ff,seqObj->gt,elem'->gM,failedOf->hQ,SortKind->h0,setPending->h_,IntsAre->io,reverseSlice'->jK,envOfC->jT,entry_list_sort->j0,AllBare->j6,slot_list_sort->kH,wpS->ls,setArr->lz
open PySem.W renaming Frag->ad,findIn->aj,keepIn->am,nsIn->aA,specialIn->bd,kitOne->bi,codeIn->bj,emptyDict->bx,isFn->bT,fnOf->b5,mroIn->b7,instObj->ce,hasDictIn->cf,plainGet->cq,takesIn->cr,OpenLaw->cv,lookIn->cI,kitAny->cM,plainOver->cP,methodObj->cS,takerIn->db,readsIn->dc,makesIn->df,findCls->dn,instIn->dD,clsIn->dV,WalkO->d3
open List renaming range->ak,lookup->bu,replicate->cb,Nodup->c4,length->dz
open PySem renaming Spec->bv,Within->cm,SetTable->dL,call->dO
open Array renaming replicate->dA
abbrev mo:=@if_pos
abbrev tz:=@if_neg
abbrev FM:=@decide_eq_false
abbrev FS:=@decide_eq_true
abbrev IR:=@of_decide_eq_true
abbrev KF:=@congrArg
abbrev On:=@of_decide_eq_false
abbrev PP:=@if_false
abbrev acQ:=@beq_eq_false_iff_ne
abbrev acU:=@beq_iff_eq
abbrev ac4:=@if_true
abbrev adq:=@getElem?_pos
abbrev adU:=@beq_self_eq_true
abbrev ad0:=@decide_eq_decide
abbrev aeJ:=@bne_self_eq_false
open PySem renaming wpAny_pure->ir,wpAny_holding->KB,wpAny_truthy_bool->SZ,wpAny_Call_Name_kw->UV,wpAny_standAt->W1,wpAny_call_entry->acS,wpAny_field->acT,wpAny_newObj_type->acV,wpAny_loadPart_at->acW,wpAny_isSubtype_exc->acX,codeAny_mono->acY,wpAny_call->ac2,mem_of_lookup->ac3,boot_len->ac5,sizeLine_eq->ac6,wpAny_passesOwn->ac7,wpAny_setState_of->ac9,wpAny_rule->ada,wpAny_comprehension_free->ade,codeAny_builtin->ado,codeAny_call_builtin->adt,wpAny_attempt->adu,plainId_quiet->adv,codeAny_of_tree->ady,call_meets->adE,wpAny_seqItems->adG,wpAny_callSpecial?_slot->adH,wpAny_nextOf_list_item->adO,wpAny_newList->adR,plainObj_wpAny_Assign_Attribute->ad5,wpAny_execs_nil->ad8,wpAny_specialOf->aeh,wpAny_updateSeq->aej,wpAny_loadPart->aeo,wpAny_of_eq->aeu,strLen_append->aeH,wpAny_FormattedValue_plain->aeI,wpAny_lookBehind->aeT,pastItsLine_dict->aeU,wpAny_askSetting->aeY,wpAny_forIn_list->ae1,wpAny_Call_method_late->afh,codeAny_compStart_list->afi,wpAny_newTuple->afo,wpAny_setField->afp,wpAny_nsSet1->afr,wpAny_typeOf->aft,codeAny_loop->afu
open PySem.Heap renaming get?_push_of_some->AC,lt_size->Da,get?_push_size->GM,get?_update_other->Pi,get?_update_self->P3,get?_update_ne->adl,size_push->adp,size_update->ads,get?_push_ne->adI
open Option.some renaming inj->Do
open PyProof.Rows renaming wpS_bind->Fk,wpS_pure->FB,wpS_mono->SC,wpS_forRange->SL,callWith_type1->Wp,wpS_get->adw,wpS_modify->adF,subscriptTail_builtinR->adK,wpS_lift->adV,slot_tuple_getitem->ad6,callWith_builtin1->aeb,args_list_sort->aeq,assignInOrder_cons->aev,listUpdate_at->aeE,size_push'->aeL,seqEpoch_at->afj,sortedAll_old->afq,sortedAll_at->afv,plain_sorted->afw,entry_sorted->afx,args_sorted1->afy,collect_list->afz
open PySem.PassesOwn renaming never->Gc
open Classical renaming byContradiction->GE
open PySem.F renaming plainAttrs_list->GT,plain_extend_loop->ac1,excBase_ValueError->ac8,slot_list_append->adg,type_list_append->adh,slot_list_insert->adj,type_list_insert->adk,slot_list_index->adm,type_list_index->adn,slot_zip_next->aei,entry_extend_loop->aeO,args_tuple_add_2->aeV,slot_list_extend->ae3,type_list_extend->ae4,entry_tuple_add->ae7,slot_tuple_add->afg
open PySem.W renaming mg_none_of->KM,mg_of->Os,kia_one->UF,callWith_K->ac0,methodCall_KW->ad1,looks_findIn->aea,plainGet_of->ael,any_some->aeZ,looks_specialIn->ae8,cellsFrom_some->aff
open PyProof.Rows.KeyOrd renaming kle_trans->M2,kle_of_klt->SB,kle_refl->acR,klt_of_kle_of_klt->adC
open Prod renaming ext->acZ
open PySem.Around renaming under_plainId->adb
open List.Pairwise renaming imp_of_mem->adf
open List.Perm renaming eq_of_pairwise->adi
open Prod.mk renaming inj->adx
open PySem.Calls renaming call_function_entry->adz,callWith_builtin->adL,Name_function_global->aeA
open PySem.SeqAt.EqAt renaming int_int->adA
open PySem.Obj renaming data_mapFields->adB,isFreed_of_fields->ad2
open Array renaming size_setIfInBounds->adD,getElem?_setIfInBounds->aer,toList_inj->aeX,toList_filterMap->afl
open List renaming findIdx_cons->adJ,pairwise_lt_range->adM,getElem_cons_drop->adP,map_take->adQ,all_eq_true->adS,take_succ_eq_append_getElem->adW,nodup_range->adX,filter_cons->adY,getElem_map->adZ,pairwise_reverse->ad3,getElem?_toArray->ad4,eraseIdxIfInBounds_toArray->ad7,getElem?_append->aec,range_succ->aed,reverse_reverse->aee,mem_of_mem_take->aef,filterMap_cons->aek,filter_eq_self->aem,map_congr_left->aen,countP_eq_length_filter->aes,count_set->aet,mem_filterMap->aew,count_pos_iff->aey,sublist_flatten_of_mem->aez,all_cons->aeB,any_cons->aeC,map_drop->aeD,reverse_perm->aeK,mem_of_find?_eq_some->aeM,count_replicate_self->aeN,getElem?_zip_eq_some->aeP,getElem?_eq_none_iff->aeQ,mem_or_eq_of_mem_set->aeR,getElem_inj->aeS,any_eq_true->ae2,of_mem_zip->afa,forIn_cons->afb,foldl_cons->afc,getElem_replicate->afm,map_set->afA
open Option renaming map_eq_some_iff->adN,bind_some->adT,getD_some->ae6
open Bool renaming eq_iff_iff->ad9,and_false->aep,not_true->aeG,or_eq_true->afd,false_and->afn
open Int renaming emod_nonneg->aeg,natCast_emod->ae5
open PySem.Code renaming quiet_builtin->aex
open PySem.MeetsSeq3 renaming plain_eq_loop->aeF
open Nat renaming mod_self->aeW,add_sub_cancel_left->ae9,min_eq_left->afe,le_of_eq->afs
open PySem.SetTable renaming toList_insertAt->ae0,insertAt_perm->afk
local macro_rules|`($x<|>$y)=>`(autoParam $x $y)
theorem wp0(h:True:=by rfl):True:=h
def zn:Lean.Syntax:=wp0._auto_1
theorem wp1(h:True:=by decide):True:=h
def zm:Lean.Syntax:=wp1._auto_1
theorem wp2(h:True:=by subst_eqs):True:=h
def xz:Lean.Syntax:=wp2._auto_1
theorem wp3(h:True:=by intro _;rfl):True:=h
def xx:Lean.Syntax:=wp3._auto_1
theorem wp4(h:True:=by decide+kernel):True:=h
def xh:Lean.Syntax:=wp4._auto_1
theorem wp5(h:True:=by first|decide|lia):True:=h
def xa:Lean.Syntax:=wp5._auto_1
theorem wp6(h:True:=by with_unfolding_all rfl):True:=h
def ww:Lean.Syntax:=wp6._auto_1
theorem wp7(h:True:=by exact λ_ _=>rfl):True:=h
def wv:Lean.Syntax:=wp7._auto_1
theorem wp8(h:True:=by intro _ _;rfl):True:=h
def wr:Lean.Syntax:=wp8._auto_1
theorem ag{g:Prop}(h:∀G:Prop,(g->G)->G):g:=h g id
set_option hygiene false in
local macro_rules|`(tactic|rfl')=>`(tactic|refine ag fun G0 k0=>?_)
set_option hygiene false in
local macro_rules|`(tactic|ac_rfl)=>`(tactic|refine k0 ?_)
local macro_rules(kind:=Lean.Parser.Command.declaration)|s=>match s.getPos? with|none=>Lean.Macro.throwUnsupported|_=>pure (s.rewriteBottomUp (·.setInfo .none))
noncomputable section
set_option bootstrap.genMatcherCode false
set_option Elab.async false
set_option linter.all false
set_option maxRecDepth 100000
abbrev aI:= @List.length_map
abbrev cz:= @List.getElem?_eq_some_iff
abbrev eE:= @List.getElem?_eq_getElem
abbrev cR:= @List.mem_of_getElem?
abbrev fu:= @List.getD_eq_getElem?_getD
abbrev bh:= @Nat.le_refl
abbrev dY:= @List.mem_cons_of_mem
abbrev c5:= @List.mem_cons_self
abbrev eF:= @List.length_append
abbrev fm:= @List.getElem?_map
abbrev cn:= @List.size_toArray
abbrev di:= @Array.length_toList
abbrev dj:= @Nat.lt_of_lt_of_le
abbrev dP:= @Bool.false_ne_true
abbrev bL:= @Nat.ne_of_lt
abbrev cE:= @List.mem_append
abbrev dQ:= @List.length_cons
abbrev dk:= @List.map_append
abbrev fW:= @List.mem_append_right
abbrev fG:= @Bool.false_eq_true
abbrev gz:= @Array.getElem?_toList
abbrev i5:= @List.getElem?_append_left
abbrev gP:= @List.getElem?_eq_none
abbrev fX:= @List.mem_singleton
abbrev cQ:= @List.mem_map
abbrev dR:= @List.map_cons
abbrev dS:= @List.mem_cons
abbrev ft:= @List.append_nil
abbrev dB:= @List.map_map
abbrev lF:= @List.getElem?_append_right
abbrev jh:= @List.getElem?_of_mem
abbrev hZ:= @List.nodup_append
abbrev d9:= @Nat.zero_le
abbrev lG:= @List.take_append_drop
abbrev kg:= @Array.toList_append
abbrev lH:= @List.mem_append_left
abbrev ji:= @List.length_take
abbrev nI:= @List.getElem?_set_self
abbrev i6:= @List.length_set
abbrev iN:= @List.nodup_nil
abbrev qR:= @List.drop_eq_getElem_cons
abbrev kh:= @List.pairwise_map
abbrev kj:= @List.append_assoc
abbrev i7:= @List.mem_range
abbrev sT:= @Array.getElem?_eq_getElem
abbrev qS:= @List.drop_eq_nil_of_le
abbrev lI:= @Nat.le_of_not_lt
abbrev pB:= @List.getElem?_set_ne
abbrev lJ:= @List.mem_flatten
abbrev lK:= @List.nodup_cons
abbrev nJ:= @Int.toNat_natCast
abbrev sU:= @List.take_of_length_le
abbrev jj:= @Nat.le_trans
abbrev pC:= @Nat.lt_of_le_of_lt
abbrev mr:= @List.length_nil
abbrev mv:= @List.nil_append
abbrev km:= @Nat.lt_irrefl
abbrev nK:= @List.getElem_mem
abbrev wk:= @Int.eq_ofNat_of_zero_le
abbrev jV:= @Nat.ne_of_gt
abbrev pD:= @List.getElem?_set
abbrev pF:= @List.length_range
abbrev sV:= @List.pairwise_append
abbrev wo:= @List.length_pos_of_mem
abbrev kn:= @Nat.zero_add
abbrev pG:= @List.length_drop
abbrev yU:= @List.getElem?_replicate
abbrev yV:= @List.getElem?_cons_succ
abbrev BQ:= @Array.getElem?_eq_some_iff
abbrev BR:= @List.pairwise_iff_getElem
abbrev wq:= @List.flatten_append
abbrev sW:= @Bool.eq_false_iff
abbrev yW:= @List.length_replicate
abbrev BS:= @List.idxOf_lt_length_iff
abbrev lM:= @Nat.le_succ
abbrev BU:= @List.drop_of_length_le
abbrev wu:= @List.flatten_cons
abbrev wx:= @List.lookup_cons
abbrev Ej:= @List.set_eq_of_length_le
abbrev yX:= @List.ext_getElem?
abbrev Je:= @Array.getD_eq_getD_getElem?
abbrev wy:= @List.mem_filter
abbrev BV:= @List.reverse_append
abbrev BW:= @List.getElem?_range
abbrev qT:= @Nat.le_of_lt
abbrev Jf:= @List.nodup_iff_pairwise_ne
abbrev Jg:= @List.perm_ext_iff_of_nodup
abbrev yY:= @Nat.mod_eq_of_lt
abbrev yZ:= @List.mem_reverse
abbrev za:= @List.take_length
abbrev wz:= @Nat.mul_le_mul
abbrev BX:= @List.getElem_idxOf
abbrev BY:= @Array.toList_push
abbrev zb:= @List.take_succ
abbrev BZ:= @Bool.and_eq_true
abbrev wA:= @Nat.sub_self
abbrev Ek:= @List.getElem?_drop
abbrev El:= @Array.size_extract
abbrev MX:= @Array.perm_iff_toList_perm
abbrev Em:= @List.flatMap_cons
abbrev xS:= @Nat.lt_succ_of_lt
abbrev BN:= @Array.toList_reverse
abbrev uA:= @List.take_zero
abbrev Gk:= @List.getElem?_take_of_lt
abbrev Gm:= @List.pairwise_singleton
abbrev Gn:= @List.range_succ_eq_map
abbrev Gp:= @List.length_singleton
abbrev Gq:= @List.mem_iff_getElem?
abbrev Gr:= @List.length_filter_le
abbrev LM:= @List.idxOf_lt_length_of_mem
abbrev qQ:= @Nat.mod_lt
abbrev BO:= @Nat.lt_succ_self
abbrev Gs:= @List.length_pos_iff
abbrev Gu:= @List.mem_map_of_mem
abbrev BP:= @Option.map_some
abbrev xT:= @List.map_nil
abbrev Gv:= @List.find?_eq_none
abbrev Gw:= @Int.emod_lt_of_pos
abbrev Gx:= @Array.forIn_toList
namespace L2
open PySem PySem.Spec PyProof.Rows
abbrev Key:=Sum Int Str
noncomputable def Rc:Key->Value->Bool
 | .inl k,v=>Value.isInt k v
 | .inr x,v=>Value.isStrOf x v
noncomputable def abp(w:World):Key->Int
 | .inl k=>hashInt k
 | .inr x=>hashStr w x
theorem dX:∀{k:Key}{v:Value},Rc k v=true->(∃i t,k=Sum.inl i/\v=Value.int i t)\/(∃x t,k=Sum.inr x/\v=Value.str x t)
 | .inl i,v,h=>by
  obtain⟨t,e⟩:=Value.isInt_shape (k:=i) (v:=v) h;exact .inl #[i,t,rfl,e]
 | .inr x,v,h=>by
  obtain⟨t,e⟩:=Value.isStrOf_shape (x:=x) (v:=v) h;exact .inr #[x,t,rfl,e]
def UK(a b:Int):decide ((Sum.inl a:Key)=Sum.inl b)=(a==b):=by
 by_cases e:a=b
 .subst e;simp
 .have h:¬(Sum.inl a:Key)=Sum.inl b:=λq=>e^Sum.inl.inj q
  rw[FM h];exact(acQ.mpr e).symm
def UO(a b:ee):decide ((Sum.inr a:Key)=Sum.inr b)=decide (a=b):=by
 by_cases e:a=b
 .subst e;simp
 .have h:¬(Sum.inr a:Key)=Sum.inr b:=λq=>e^Sum.inr.inj q
  rw[FM h,FM e]
def UL(a:Int)(b:ee):decide ((Sum.inl a:Key)=Sum.inr b)=false:=FM^λq=>nomatch q
def UN(a:ee)(b:Int):decide ((Sum.inr a:Key)=Sum.inl b)=false:=FM^λq=>nomatch q
noncomputable def AO(prog:Program)(w:World):PySem.KeyKind prog w Key where
 is:=Rc
 hash:=abp w
 inj:=λv a b g f=>by
  rcases dX g with ⟨i,t,rfl,rfl⟩ | ⟨x,t,rfl,rfl⟩
  .rcases dX f with ⟨j,u,rfl,e⟩ | ⟨y,u,rfl,e⟩
   .injection e with c _;rw[c]
   .exact nomatch e
  .rcases dX f with ⟨j,u,rfl,e⟩ | ⟨y,u,rfl,e⟩
   .exact nomatch e
   .injection e with c _;rw[c]
 byValue:=λk v h=>by
  rcases dX h with ⟨i,t,rfl,rfl⟩ | ⟨x,t,rfl,rfl⟩<;>rfl
 pyHash:=λd h=>by
  rcases dX d with ⟨i,t,rfl,rfl⟩ | ⟨x,t,rfl,rfl⟩
  .exact wpAny_pyHash_int h
  .exact wpAny_pyHash_str h
 eqBool:=λl d h=>by
  rcases dX l with ⟨i,t,rfl,rfl⟩ | ⟨x,t,rfl,rfl⟩
  .rcases dX d with ⟨j,u,rfl,rfl⟩ | ⟨y,u,rfl,rfl⟩
   .rw[UK] at h;exact wpAny_eqBool_int h
   .rw[UL] at h;exact SeqAt.EqAt.int_str i t y u _ _ _ _ h
  .rcases dX d with ⟨j,u,rfl,rfl⟩ | ⟨y,u,rfl,rfl⟩
   .rw[UN] at h;exact SeqAt.EqAt.str_int x t j u _ _ _ _ h
   .rw[UO] at h;exact wpAny_eqBool_str h
 «strs»:=λk x t v h=>by
  rcases dX h with ⟨i,u,rfl,e⟩ | ⟨y,u,rfl,e⟩
  .exact nomatch e
  .injection e with c _
   subst c;cases v<;>rfl
set_option genInjectivity true in
inductive V where
 |aQ|bl (b:Bool) |int (i:Int) |str (x:Str) |zh (b:Array UInt8) |JK (b:UInt64) |ref (a:Addr) |ty (n:String)
 deriving DecidableEq
def RelV:V->Value->Prop
 | .aQ,u=>u=Value.none
 | .bl b,u=>u=Value.bool b
 | .int i,u=>∃t,u=Value.int i t
 | .str x,u=>∃t,u=Value.str x t
 | .zh b,u=>∃t,u=Value.bytes b t
 | .JK b,u=>∃t,u=Value.float b t
 | .ref a,u=>u=Value.ref a
 | .ty n,u=>u=Value.type n
abbrev Vals:List V->List Value->Prop:=Paired RelV
theorem Vals.length{xs:List V}{a:List Value}(r:Vals xs a):xs.length=a.length:=Paired.length r
theorem Vals.get:∀{a:List V}{b:List b_}{i:Nat}{x:V},Vals a b->a[i]?\x->∃u,b[i]?\u/\RelV x u
 |_,_,_,_, .nil,e=>by simp at e
 |_,_,0,_, .cons r _,e=>by simp at e;subst e;exact#[_,rfl,r]
 |_,_,i+1,x, .cons _ t,e=>by
  let⟨u,c,d⟩:=Vals.get (i:=i) (x:=x) t^~~~e
  exact#[u,by simpa using c,d]
theorem Vals.set{x:V}(r:RelV x u):∀{a:List V}{b:List b_}(i:Nat),Vals a b->Vals (a.set i x)^b.set i u
 |_,_,_, .nil=> .nil
 |_,_,0, .cons _ t=> .cons r t
 |_,_,i+1, .cons q t=> .cons q^Vals.set r i t
theorem Vals.append:∀{a b:List V}{c d:List b_},Vals a c->Vals b d->Vals (a++b) (c++d)
 |_,_,_,_, .nil,s=>s
 |_,_,_,_, .cons r t,s=> .cons r^Vals.append t s
theorem Vals.take:∀{xs:List V}{a:List b_}(n:Nat),Vals xs a->Vals (xs.take n)^a.take n
 |_,_,0,_=> .nil
 |_,_,_+1, .nil=> .nil
 |_,_,n+1, .cons r t=> .cons r^Vals.take n t
theorem Vals.drop:∀{xs:List V}{a:List b_}(n:Nat),Vals xs a->Vals (xs.drop n)^a.drop n
 |_,_,0,r=>r
 |_,_,_+1, .nil=> .nil
 |_,_,n+1, .cons _ t=>Vals.drop n t
def lT:Option V->Option Value->Prop
 |some v,some u=>RelV v u
 |none,none=>True
 |_,_=>False
def KV{a:Type}:List (a×V)->List (a×Value)->Prop:=Paired λ(p:a×V)(q:a×Value)=>p.1=q.1/\RelV p.2 q.2
noncomputable def kV:Key->V
 | .inl i=> .int i
 | .inr x=> .str x
inductive HO where
  |lst (xs:List V)
  |tup (xs:List V)
  |dK (fU:List (Key×V)) |dT (fU:List (List Key×V))
  |set (S:Int->Bool) (n:Nat)
  |ins (C dx:Addr) (fs:List (Str×V))
  |own (x:Addr)
  |xd (fs:List (Str×V))
  |met (f x:Addr)
  |rng (lo hi:Int)
  |tI (o:Obj) (u:HO)
  |IL (ps:Array Value)
  |ext (φ:Heap->Prop)
abbrev Hp:=Addr->Option HO
noncomputable def upd(H:Hp)(a:Addr)(o:HO):Hp:=λb=>if b=a then some o else H b
def ae{H:Hp}{a:Addr}{o:HO}:upd H a o a\o:=by unfold upd;rw[mo rfl]
def af{H:Hp}{a b:Addr}{o:HO}(h:b≠a):upd H a o b=H b:=by unfold upd;rw[tz h]
def wc:upd (upd H a o) a u=upd H a u:=by
 funext b;unfold upd;split<;>rfl
def aq{H:Hp}{a b:Addr}(h:H a\o)(h':H b=none):a≠b:=by
 intro e;subst e;rw[h] at h';cases h'
section
variable (P:Program) (w:World)
def cp(H:Hp)(h:Heap)(a:Addr):HO->Prop
 | .lst c=>c.length<=sizeLine/\∃(b:List b_)(n:Nat),Vals c b/\h.get? a\{cls:= .type "list",data:= .seq b.toArray n}
 | .tup c=>c.length<=sizeLine/\∃b:List b_,Vals c b/\IsTup h a b.toArray
 | .dK e=>e.length<=sizeLine/\(a==i_)=false/\∃j,KV e j/\h.DictOf (AO P w) a j
 | .dT e=>e.length<=sizeLine/\(a==i_)=false/\∃c:List (List Key×Addr×b_),
   Paired (λ(p:List Key×V)(q:List Key×Addr×b_)=>p.1=q.1/\H q.2.1\(.tup^p.1.map kV)/\RelV p.2 q.2.2) e c/\
   ∃o k r,h.get? a\o/\o.ExactDict/\o.data= .dict k r/\k.toList=c.map^ln^hX^AO P w/\(c.map (·.1)).Nodup
 | .set S n=>h.SetOf (eg P w) a S n
 | .ins C g fs=>H g\(.own a)/\fs.length<=1000/\g≠a/\h.get? a\(ce C g)/\
   ∃d,h.Ns1 g d/\(∀f,lT (fs.lookup f)^d f)/\cm d^fs.map (·.1)
 | .own _=>∃o,h.get? a\o
 | .xd fs=>∃d,h.Ns1 a d/\∀f,lT (fs.lookup f)^d f
 | .rng lo s=>∃t u v,h.get? a\{cls:= .type "range",data:= .fields [.int lo t, .int s u, .int 1 v].toArray}
 | .tI o u=>h.get? a\o/\cp H h a u
 | .IL y=>h.get? a\{cls:= .none,data:= .fields y}
 | .met f x=>h.get? a\(cS (.ref f)^.ref x)
 | .ext i=>i h/\(∃o,h.get? a\o)/\∀l m:Heap,i l->(∀o,l.get? a\o->m.get? a\o)->i m
def ik(H:Hp)(h:Heap):Prop:=∀a o,H a\o->cp P w H h a o
end
section
variable {P:Program} {w:World} {H H':Hp} {h h':Heap} {a:Addr} {o:HO}
theorem cp.lt(x:cp P w H h a o):a<h.objs.size:=by
 cases o with
 |lst b=>obtain⟨_,_,_,_,e⟩:=x;exact Da e
 |tup b=>obtain⟨_,_,_,p⟩:=x;exact p.lt
 |dK c=>obtain⟨_,_,_,_,o,_,_,e,_⟩:=x;exact Da e
 |dT c=>obtain⟨_,_,_,_,o,_,_,e,_⟩:=x;exact Da e
 |set S n=>obtain⟨o,_,_,_,e,_⟩:=x;exact Da e
 |ins C d fs=>obtain⟨_,_,_,e,_⟩:=x;exact Da e
 |own y=>obtain⟨_,e⟩:=x;exact Da e
 |xd fs=>obtain⟨_,⟨_,_,_,e,_⟩,_⟩:=x;exact Da e
 |rng lo g=>obtain⟨_,_,_,e⟩:=x;exact Da e
 |tI i u=>obtain⟨e,_⟩:=x;exact Da e
 |IL j=>exact Da (show h.get? a\_ from x)
 |met f y=>exact Da (show h.get? a\_ from x)
 |ext k=>obtain⟨_,⟨_,e⟩,_⟩:=x;exact Da e
theorem Paired.WT:∀{c:List e}{d:List g},Paired F c d->(∀a b,F a b->G a b)->Paired G c d
 |_,_, .nil,_=> .nil
 |_,_, .cons r t,f=> .cons (f _ _ r)^Paired.WT t f
theorem cp.pz(x:cp P w H h a o)(k:∀b u,(b=a\/H b\(.own a))->h.get? b\u->h'.get? b\u)
  (E:∀b,H b\(.own a)->H' b\(.own a)) (F:∀b m,H b\(.tup m)->H' b\(.tup m)):cp P w H' h' a o:=by
 induction o with
 |lst m=>let⟨z,l,n,r,e⟩:=x;exact#[z,l,n,r,k _ _ (.inl rfl) e]
 |tup m=>let⟨z,l,r,g,e,c⟩:=x;exact#[z,l,r,g,k _ _ (.inl rfl) e,c]
 |dK G=>let⟨z,y,I,r,g,i,j,e,c⟩:=x;exact#[z,y,I,r,g,i,j,k _ _ (.inl rfl) e,c]
 |dT G=>
  let⟨z,y,m,r,g,i,j,e,c⟩:=x;exact#[z,y,m,Paired.WT r λp q z=>#[z.1,F _ _ z.2.1,z.2.2],g,i,j,k _ _ (.inl rfl) e,c]
 |set S n=>let⟨g,i,j,t,e,c⟩:=x;exact#[g,i,j,t,k _ _ (.inl rfl) e,c]
 |ins C N fs=>
  rfl';obtain⟨d,z,ne,e,s,⟨A,i,j,L,c⟩,r⟩:=x;ac_rfl;exact#[E _ d,z,ne,k _ _ (.inl rfl) e,s,#[A,i,j,k _ _ (.inr d) L,c],r]
 |own y=>let⟨g,e⟩:=x;exact#[g,k _ _ (.inl rfl) e]
 |xd fs=>obtain⟨s,⟨A,i,j,e,c⟩,r⟩:=x;exact#[s,#[A,i,j,k _ _ (.inl rfl) e,c],r]
 |rng lo Q=>let⟨t,u,v,e⟩:=x;exact#[t,u,v,k _ _ (.inl rfl) e]
 |tI g u M=>let⟨e,q⟩:=x;exact#[k _ _ (.inl rfl) e,M q]
 |IL B=>
  have e:h.get? a\{cls:= .none,data:= .fields B}:=x;show h'.get? a\{cls:= .none,data:= .fields B};exact k a _ (.inl rfl) e
 |met f y=>
  have e:h.get? a\(cS (.ref f)^.ref y):=x;show h'.get? a\(cS (.ref f)^.ref y);exact k a _ (.inl rfl) e
 |ext R=>obtain⟨p,⟨o,e⟩,st⟩:=x;exact#[st _ _ p λo q=>k _ _ (.inl rfl) q,#[o,k _ _ (.inl rfl) e],st]
theorem ik.lt(x:ik P w H h)(e:H a\o):a<h.objs.size:=(x a o e).lt
def ik.fresh(x:ik P w H h)(e:h.objs.size<=a):H a=none:=by
 cases q:H a with
 |none=>rfl
 |some u=>exact absurd (dj (x.lt q) e)^km _
def ik.kept(x:ik P w H h)(k:∀b u,h.get? b\u->h'.get? b\u):ik P w H h':=λa o e=>
 (x a o e).pz (λb u _ q=>k b u q) (λ_ q=>q) λ_ _ q=>q
def ik.laid(x:ik P w H h)(k:∀b u,h.get? b\u->h'.get? b\u)(g:h.objs.size<=a)(new:cp P w (upd H a o) h' a o):ik P w (upd H a o) h':=λb u e=>by
 have d:=x.fresh g
 by_cases f:b=a
 .subst f;rw[ae] at e;cases e;exact new
 .rw[af f] at e
  exact(x b u e).pz (λc v _ q=>k c v q) (λc q=>by rw[af^aq q d];exact q) λc i q=>by rw[af^aq q d];exact q
end
def Rd(H:Hp)(a:Addr)(u:HO):Prop:=H a\u\/∃o,H a\(.tI o u)
def Rd.ok{P:Program}{w:World}{H:Hp}{a:Addr}(r:Rd H a u)(x:ik P w H h):cp P w H h a u:=by
 rcases r with r| ⟨o,r⟩
 .exact x a u r
 .obtain⟨_,q⟩:=x a _ r
  exact q
def O8:Option HO->Prop
 |some^.lst _=>True
 |some^.dK _=>True
 |some^.dT _=>True
 |some^.set _ _=>True
 |some^.ins _ _ _=>True
 |some^.ext _=>True
 |_=>False
section
variable {P:Program} {w:World} {H:Hp} {h h':Heap} {x e:Addr} {o':HO}
def ik.write(ok:ik P w H h)(a:O8^H x)(j:e=x\/H e\(.own x))(k:∀b u,b≠e->h.get? b\u->h'.get? b\u)(n:∃u,h'.get? e\u)
  (new:cp P w (upd H x o') h' x o'):ik P w (upd H x o') h':=λb u q=>by
 have l:∀c y,H c\(.own y)->c≠x:=λc y r z=>by subst z;rw[r] at a;exact a
 have o:∀c d,H c\(.tup d)->c≠x:=λc d r z=>by subst z;rw[r] at a;exact a
 by_cases f:b=x
 .subst f;rw[ae] at q;cases q;exact new
 .rw[af f] at q
  by_cases g:b=e
  .have m:H b\(.own x):=by
    rcases j with z|z
    .exact absurd (g.trans z) f
    .rw[g];exact z
   let⟨v,p⟩:=n;rw[q] at m;cases m;exact#[v,by rw[g];exact p]
  .refine(ok b u q).pz (λc v i r=>k c v ?_ r) (λc r=>by rw[af^l c b r];exact r) λc d r=>by rw[af^o c d r];exact r
   rcases i with rfl|i
   .exact g
   .rintro rfl
    rcases j with z|z
    .exact l c b i z
    .rw[i] at z;cases z;exact f rfl
end
structure Un (fs ex:List Addr) (H H':Hp) (h h':Heap):Prop where
 keep:∀b o,h.get? b\o->H b=none->b∉fs->b∉ex->h'.get? b\o
 slot:∀b o,h.get? b\o->H b=none->b∈fs->b∉ex->∃sl,h'.get? b\{o with slots:=sl}
 free:∀b o,h.get? b\o->H b=none->b∉ex->H' b=none
 there:∀b o,h.get? b\o->b∉ex->∃o',h'.get? b\o'
 tups:∀b xs,H b\(.tup xs)->H' b\(.tup xs)
 frzs:∀b o u,H b\(.tI o u)->H' b\(.tI o u)
 tbls:∀b ps,H b\(.IL ps)->∃more,H' b\(.IL (ps++more))
section
variable {fs fs' ex r6:List Addr} {H H1 H2:Hp} {h h1 h2 h':Heap} {a x e:Addr} {o:HO}
def Un.any(u:Un fs ex H H1 h h1)(q:h.get? b\c)(n:H b=none)(d:b∉ex):∃g,h1.get? b\{c with slots:=g}:=by
 by_cases f:b∈fs
 .exact u.slot b c q n f d
 .exact#[c.slots,u.keep b c q n f d]
def Un.kept(k:∀b u,h.get? b\u->h'.get? b\u):Un fs ex H H h h':=
 #[λb c q _ _ _=>k b c q,λb c q _ _ _=>#[c.slots,k b c q],λ_ _ _ n _=>n,λb c q _=>#[c,k b c q],λ_ _ q=>q,λ_ _ _ q=>q,λ_ d q=>#[#[],by rw[q];simp]]
def Un.refl:Un fs ex H H h h:=Un.kept λ_ _ q=>q
def Un.laid(k:∀b u,h.get? b\u->h'.get? b\u)(d:h.objs.size<=a)(c:H a=none):Un fs ex H (upd H a o) h h' where
 keep:=λb u q _ _ _=>k b u q
 slot:=λb u q _ _ _=>#[u.slots,k b u q]
 free:=λb u q n _=>by rw[af^bL^dj (Da q) d];exact n
 there:=λb u q _=>#[u,k b u q]
 tups:=λb f q=>by rw[af^aq q c];exact q
 frzs:=λb u f q=>by rw[af^aq q c];exact q
 tbls:=λb g q=>#[#[],by rw[af^aq q c,q];simp]
def Un.write(c:O8^H x)(j:e=x\/H e\(.own x))(k:∀b u,b≠e->h.get? b\u->h'.get? b\u)(l:∃u,h'.get? e\u):Un fs ex H (upd H x o) h h':=by
 have f:∀b,H b=none->b≠x:=λb n z=>by subst z;rw[n] at c;exact c
 have g:∀b,H b=none->b≠e:=λb n z=>by
  subst z
  rcases j with r|r
  .exact f b n r
  .rw[n] at r;cases r
 have d:∀b u,H b\u->¬O8^some u->b≠x:=λb u q m z=>by subst z;rw[q] at c;exact m c
 refine#[λb u q n _ _=>k b u (g b n) q,λb u q n _ _=>#[u.slots,k b u (g b n) q],λb u q n _=>by rw[af^f b n];exact n,λb u q _=>?_,
  λb p q=>by rw[af (d b _ q λz=>z)];exact q,λb u p q=>by rw[af (d b _ q λz=>z)];exact q,λb s q=>#[#[],by rw[af (d b _ q λz=>z),q];simp]]
 by_cases i:b=e
 .subst i;exact l
 .exact#[u,k b u i q]
end
noncomputable def V3(h:Heap)(H:Hp):List Addr:=(ak h.objs.size).filter λa=>(H a).isSome
noncomputable def uO(h:Heap)(H:Hp):Heap:=PySem.W.hideAll h^V3 h H
def JY(h:Heap)(H:Hp):(uO h H).objs.size=h.objs.size:=PySem.W.hideAll_size _ _
def NR(e:h.get? b\o)(n:H b=none):(uO h H).get? b\o:=
 PySem.W.hideAll_get _ e λa=>by
  have q:(H b).isSome=true:=(wy.mp a).2;rw[n] at q;simp at q
def RC(e:(uO h H).get? b\o):h.get? b\o/\H b=none:=by
 have a:h.get? b\o:=PySem.W.of_hideAll (V3 h H) e;exists a;cases q:H b with
 |none=>rfl
 |some x=>
  have c:b∈V3 h H:=wy.mpr #[i7.mpr^Da a,by simp[q]]
  have z:(uO h H).get? b=none:=PySem.W.hideAll_none (V3 h H) c;rw[z] at e;cases e
structure Mod (K:ad) (mg:Str->Option Value) (base:Heap):Prop where
 kin:K.In base
 glob:base.Ns mainGlobals mg
 blt:∃mb,base.Ns builtinsNs mb/\∀x:Str,x≠"__name__"->mb x=bootBuiltins x
 nolimit:base.NoLimit
structure Cx where
 prog:Program
 w:World
 K:ad
 mg:Str->Option Value
 base:Heap
 A:Around
 N:List Str
 s₀:Shared
 H₀:Hp
 env:Env
 outer:List Env
 stack:List Env
 ex:List Addr
 fn:Str->Bool
 calm:Bool
 pn:List (Addr×Obj)
 xe:Value->Shared->Prop
noncomputable def uK(l:List Env):List Addr:=l.filterMap (·.frame)
abbrev Cx.fs(X:Cx):List Addr:=uK X.outer
def ze(a:Scope)(x:Str):Prop:=a.names.lookup x\.local\/a.names.lookup x\.cell\/a.names.lookup x\.free
def Loc(a:Scope)(x:Str):Prop:=a.names.lookup x\.local\/a.names.lookup x\.cell
def Look(env:lE)(h:Heap)(m:ee->Option b_)(x:ee)(u:b_):Prop:=
 (env.kindOf x\.local/\m x\u)\/((env.kindOf x\.cell\/env.kindOf x\.free)/\∃c,env.cells.lookup x\c/\h.IsCell c^some u)
structure Cx.Ok (X:Cx):Prop where
 mod:Mod X.K X.mg X.base
 kind:X.env.scope.kind= .function
 glob:X.env.globals=mainGlobals
 blt:X.env.builtins=builtinsNs
 above:X.s₀.heap.objs.size<=X.env.locals
 inj:∀x y c,X.env.cells.lookup x\c->X.env.cells.lookup y\c->x=y
 has:∀x,(X.env.kindOf x\.cell\/X.env.kindOf x\.free)->∃c,X.env.cells.lookup x\c
 cab:∀x c,X.fn x=true->X.env.cells.lookup x\c->X.s₀.heap.objs.size<=c
 hd:X.calm=true->X.A.handled=none
 frames:X.A.frames\X.stack
 stk:X.stack=X.outer\/(X.stack=X.env::X.outer/\X.env.frame\X.env.locals)
 exf:∀b∈X.ex,b≠X.env.locals/\∀x c,X.env.cells.lookup x\c->c≠b
 bs:∀b o,X.base.get? b\o->X.s₀.heap.get? b\o/\X.H₀ b=none
 bsz:X.base.objs.size<=X.s₀.heap.objs.size
 noex:∀b o,X.base.get? b\o->b∉X.ex
 exfs:∀b∈X.ex,b∉X.fs
 funs:X.s₀.heap.FunFrames X.base X.outer
 frf:∀b∈X.fs,X.H₀ b=none
structure Inv (X:Cx) (pins:List (Addr×Obj)) (σ:List^Option V) (H:Hp) (s:c_):Prop where
 ok:X.Ok
 os:s.os=X.s₀.os
 bare:j6 s.gens
 base:Un X.fs X.ex X.H₀ H X.s₀.heap s.heap
 loc:∃m,s.heap.Ns X.env.locals m/\∀(i:Nat)(x:ee)(v:V),X.N[i]?\x->σ[i]?\(some v)->ze X.env.scope x->∃u,RelV v u/\Look X.env s.heap m x u
 cell:∀x c,X.env.cells.lookup x\c->∃v,s.heap.IsCell c v
 free:H X.env.locals=none
 freeC:∀x c,X.env.cells.lookup x\c->H c=none
 pin:∀p∈X.pn++pins,s.heap.get? p.1\p.2/\H p.1=none/\p.1≠X.env.locals/\p.1∉X.fs/\∀v,p.2.data≠ .cell v
 hok:ik X.prog X.w H s.heap
 len:σ.length=X.N.length
section
variable {X:Cx} {pins:List (Addr×Obj)} {σ:List^Option V} {H H':Hp} {s:c_} {h':Heap}
def Cx.Ok.abC(ok:X.Ok)(e:X.base.get? b\o):b∉X.fs:=λa=>by
 have:=(ok.funs.mem a).1
 rw[e] at this;cases this
theorem Inv.bs(I:Inv X pins σ H s):∀b o,X.base.get? b\o->s.heap.get? b\o/\H b=none:=λb o e=>
 #[I.base.keep b o (I.ok.bs b o e).1 (I.ok.bs b o e).2 (I.ok.abC e)^I.ok.noex b o e,I.base.free b o (I.ok.bs b o e).1 (I.ok.bs b o e).2^I.ok.noex b o e]
def Inv.bk(I:Inv X pins σ H s):∀b o,X.base.get? b\o->s.heap.get? b\o:=λb o e=>(I.bs b o e).1
theorem Inv.mod(I:Inv X pins σ H s):Mod X.K X.mg X.base:=I.ok.mod
def Inv.cZ(I:Inv X pins σ H s):X.K.In s.heap:=I.ok.mod.kin.keeps I.bk
theorem Inv.lt(I:Inv X pins σ H s):X.env.locals<s.heap.objs.size:=let #[_,a,_]:=I.loc;a.lt
def Inv.sz(I:Inv X pins σ H s):X.s₀.heap.objs.size<=s.heap.objs.size:=jj I.ok.above^qT I.lt
def Inv.W2(I:Inv X pins σ H s)(h:s.heap.objs.size<=a):a∉X.fs:=λb=>by
 let⟨d,o,c,e⟩:=I.ok.funs.mem b;exact absurd (dj (Da c)^jj I.sz h)^km _
def Inv.z7(I:Inv X pins σ H s):∀x c,X.env.cells.lookup x\c->c≠X.env.locals:=λx c e z=>by
 obtain⟨v,o,a,b⟩:=I.cell x c e;obtain⟨m,⟨g,h,i,d,f,_⟩,_⟩:=I.loc;rw[z,d] at a;cases a;rw[f] at b;cases b
theorem Inv.funs(I:Inv X pins σ H s):s.heap.FunFrames X.base X.outer:=by
 have all:∀(l:List lE),(∀b∈uK l,b∈X.fs)->X.s₀.heap.FunFrames X.base l->s.heap.FunFrames X.base l:=by
  intro l
  induction l with
  |nil=>intro _ _;trivial
  |cons env r g=>
   intro f h;rfl';obtain⟨j,⟨L,o,a,k,m,n⟩,p⟩:=h;have c:L∈X.fs:=f L^by unfold uK;rw[aek,a];exact c5
   let⟨t,e⟩:=I.base.slot L o m (I.ok.frf L c) c λz=>I.ok.exfs L z c;ac_rfl;exact#[j,#[L,_,a,k,e,n],g (λb d=>f b^by unfold uK;rw[aek,a];exact dY _ d) p]
 exact all X.outer (λ_ d=>d) I.ok.funs
theorem Inv.stack(I:Inv X pins σ H s):s.heap.FunFrames X.base X.stack:=by
 rcases I.ok.stk with e| ⟨e,a⟩
 .rw[e];exact I.funs
 .rw[e]
  let⟨m,b,c⟩:=I.loc;refine .cons (by rw[I.ok.kind];decide) a b ?_ I.funs
  exact Heap.get?_none_of_le^jj I.ok.bsz I.ok.above
def Inv.FY(I:Inv X pins σ H s):∀b∈uK X.stack,b∈X.env.locals::X.fs:=λb a=>by
 rcases I.ok.stk with e| ⟨e,c⟩
 .rw[e] at a;exact dY _ a
 .rw[e] at a
  unfold uK at a;rw[aek,c] at a;exact a
def Inv.Bw(I:Inv X pins σ H s):∀b∈uK X.stack,H b=none:=λb a=>by
 rcases dS.mp^I.FY b a with e|a
 .rw[e];exact I.free
 .obtain⟨_,o,c,_⟩:=I.ok.funs.mem a
  exact I.base.free b o c (I.ok.frf b a) λz=>I.ok.exfs b z a
def Inv.step{g':Array GenState}{d':Drawn}{ch:List Addr}(I:Inv X pins σ H s)
  (t:∀b∈ch,(b∈X.ex\/X.s₀.heap.objs.size<=b)/\b≠X.env.locals/\(∀x c,X.env.cells.lookup x\c->c≠b)/\∀p∈X.pn++pins,p.1≠b)
  (keep:∀b o,b≠X.env.locals->b∉X.fs->b∉ch->s.heap.get? b\o->H b=none->h'.get? b\o)
  (slot:∀b o,b≠X.env.locals->b∈X.fs->b∉ch->s.heap.get? b\o->H b=none->∃G,h'.get? b\{o with slots:=G}) (free:∀b o,b∉ch->s.heap.get? b\o->H b=none->H' b=none)
  (there:∀b o,b∉ch->s.heap.get? b\o->∃y,h'.get? b\y)
  (tups:∀b xs,H b\(.tup xs)->H' b\(.tup xs)) (frzs:∀b o u,H b\(.tI o u)->H' b\(.tI o u)) (tbls:∀b E,H b\(.IL E)->∃more,H' b\(.IL (E++more)))
  (O:∀m,s.heap.Ns X.env.locals m->h'.Ns X.env.locals m) (hok:ik X.prog X.w H' h') (P:j6 g'):
  Inv X pins σ H' {s with heap:=h',gens:=g',drawn:=d',toks:=t'}:=by
 have A:∀b o,X.s₀.heap.get? b\o->b≠X.env.locals:=λb o e=>bL^dj (Da e) I.ok.above
 have F:∀b o,X.s₀.heap.get? b\o->b∉X.ex->b∉ch:=λb o e a h=>by
  rcases(t b h).1 with z|z
  .exact a z
  .exact absurd (dj (Da e) z)^km _
 have f:∀x c,X.env.cells.lookup x\c->∀v,s.heap.IsCell c v->h'.IsCell c v:=λx c e v #[o,j,J]=>by
  have B:c∉ch:=λz=>(t c z).2.2.1 x c e rfl
  by_cases L:c∈X.fs
  .obtain⟨G,q⟩:=slot c o (I.z7 x c e) L B j^I.freeC x c e
   exact#[_,q,J]
  .exact#[o,keep c o (I.z7 x c e) L B j^I.freeC x c e,J]
 refine#[I.ok,I.os,P,#[λb o e n h a=>?_,λb o e n h a=>?_,λb o e n a=>?_,λb o e a=>?_,λb xs e=>tups b xs^I.base.tups b xs e,λb o xs e=>frzs b o xs^I.base.frzs b o xs e,λb E e=>?_],?_,λx c e=>?_,?_,λx c e=>?_,λp M=>?_,hok,I.len]
 .exact keep b o (A b o e) h (F b o e a) (I.base.keep b o e n h a)^I.base.free b o e n a
 .obtain⟨G,g⟩:=I.base.slot b o e n h a
  let⟨Q,C⟩:=slot b _ (A b o e) h (F b o e a) g^I.base.free b o e n a;exact#[Q,C]
 .obtain⟨y,g⟩:=I.base.there b o e a
  exact free b y (F b o e a) g^I.base.free b o e n a
 .obtain⟨y,g⟩:=I.base.there b o e a
  exact there b y (F b o e a) g
 .obtain⟨m1,g⟩:=I.base.tbls b E e
  let⟨R,C⟩:=tbls b _ g;exact#[m1++R,by rw[C,Array.append_assoc]]
 .obtain⟨m,S,T⟩:=I.loc
  refine#[m,O m S,λi x v g C Y=>?_];let⟨u,r,l⟩:=T i x v g C Y;exists u,r
  rcases l with l| ⟨k,c,e,z⟩
  .exact .inl l
  .exact .inr #[k,c,e,f x c e _ z]
 .obtain⟨v,z⟩:=I.cell x c e
  exact#[v,f x c e v z]
 .obtain⟨m,⟨o,_,_,j,_⟩,_⟩:=I.loc
  exact free _ o (λz=>(t _ z).2.1 rfl) j I.free
 .obtain⟨v,o,j,J⟩:=I.cell x c e
  exact free c o (λz=>(t c z).2.2.1 x c e rfl) j^I.freeC x c e
 .obtain⟨e,n,ne,N,d⟩:=I.pin p M
  have B:p.1∉ch:=λz=>(t p.1 z).2.2.2 p M rfl;exact#[keep p.1 p.2 ne N B e n,free p.1 p.2 B e n,ne,N,d]
theorem Inv.un{t':Nat}(I:Inv X pins σ H s)(u:Un X.fs [] H H' s.heap h')(hok:ik X.prog X.w H' h'):Inv X pins σ H' {s with heap:=h',toks:=t'}:=by
 rfl';obtain⟨m,⟨o,p,q,d,r⟩,_⟩:=id I.loc;let⟨t,h⟩:=u.any d I.free^by simp
 ac_rfl
 exact I.step (g':=s.gens) (d':=s.drawn) (ch:= []) (λ_ z=>nomatch z) (λb o _ c _ e n=>u.keep b o e n c^by simp) (λb o _ c _ e n=>u.slot b o e n c^by simp) (λb o _ e n=>u.free b o e n^by simp) (λb o _ e=>u.there b o e^by simp) u.tups u.frzs u.tbls (λv i=>by
  rfl';let⟨x,j,k,f,l⟩:=i;ac_rfl;rw[d] at f;cases f;exact#[_,j,k,h,l]) hok I.bare
theorem Inv.call{g':Array GenState}{t':Nat}{d':Drawn}{ch:List Addr}(I:Inv X pins σ H s)(u:Un (uK X.stack) ch H H' s.heap h')(hok:ik X.prog X.w H' h')(j:j6 g')
  (g:∀b∈ch,(b∈X.ex\/X.s₀.heap.objs.size<=b)/\b≠X.env.locals/\(∀x c,X.env.cells.lookup x\c->c≠b)/\∀p∈X.pn++pins,p.1≠b):
  Inv X pins σ H' {s with heap:=h',gens:=g',drawn:=d',toks:=t'}:=by
 rfl';obtain⟨m,⟨o,A,B,h,r⟩,_⟩:=id I.loc;let⟨C,f⟩:=u.any h I.free λz=>(g _ z).2.1 rfl;ac_rfl
 exact I.step (ch:=ch) g (λb o f l a e n=>u.keep b o e n (λz=>(dS.mp^I.FY b z).elim f l) a) (λb o _ _ a e n=>u.any e n a) (λb o a e n=>u.free b o e n a) (λb o a e=>u.there b o e a) u.tups u.frzs u.tbls (λE q=>by
  rfl';let⟨F,t,v,i,y⟩:=q;ac_rfl;rw[h] at i;cases i;exact#[_,t,v,f,y]) hok j
def Inv.turned{t':Nat}{it:Addr}(I:Inv X pins σ H s)(k:∀b o,b≠it->s.heap.get? b\o->h'.get? b\o)(g:H it=none)(f:it≠X.env.locals)
  (h:it∈X.ex\/X.s₀.heap.objs.size<=it) (i:∀x c,X.env.cells.lookup x\c->c≠it) (j:∀p∈X.pn++pins,p.1≠it):Inv X pins σ H {s with heap:=h',toks:=t'}:=by
 have d:∀b u,H b\u->b≠it:=λb u e z=>by rw[z,g] at e;cases e
 refine I.step (g':=s.gens) (d':=s.drawn) (ch:= [it]) (λb l=>?_) (λb o _ _ a e _=>k b o (λz=>a^by simp[z]) e) (λb o _ _ a e _=>#[o.slots,k b o (λz=>a^by simp[z]) e]) (λ_ _ _ _ n=>n)
  (λb o a e=>#[o,k b o (λz=>a^by simp[z]) e]) (λ_ _ e=>e) (λ_ _ _ e=>e) (λb B e=>#[#[],by rw[e];simp]) (λm t=>?_) (λb u e=>?_) I.bare
 .have e:b=it:=by simpa using l
  subst e;exact#[h,f,i,j]
 .obtain⟨o,w,y,A,r⟩:=t
  exact#[o,w,y,k _ o (Ne.symm f) A,r]
 .refine(I.hok b u e).pz (λc v a q=>k c v ?_ q) (λ_ q=>q) λ_ _ q=>q
  rcases a with z|z
  .rw[z];exact d b u e
  .exact d c _ z
def Inv.tok(I:Inv X pins σ H s)(t:Nat):Inv X pins σ H {s with toks:=t}:=I.un (h':=s.heap) (t':=t) Un.refl I.hok
theorem Inv.kept{t':Nat}(I:Inv X pins σ H s)(k:∀b u,s.heap.get? b\u->h'.get? b\u):Inv X pins σ H {s with heap:=h',toks:=t'}:=I.un (Un.kept k)^I.hok.kept k
theorem Inv.laid{a:Addr}{o:HO}{t':Nat}(I:Inv X pins σ H s)(k:∀b u,s.heap.get? b\u->h'.get? b\u)(c:s.heap.objs.size<=a)(new:cp X.prog X.w (upd H a o) h' a o):
  Inv X pins σ (upd H a o) {s with heap:=h',toks:=t'}:=I.un (Un.laid k c^I.hok.fresh c)^I.hok.laid k c new
theorem Inv.write{x e:Addr}{o:HO}{t':Nat}(I:Inv X pins σ H s)(a:O8^H x)(c:e=x\/H e\(.own x))(k:∀b u,b≠e->s.heap.get? b\u->h'.get? b\u)(d:∃u,h'.get? e\u)
  (new:cp X.prog X.w (upd H x o) h' x o):Inv X pins σ (upd H x o) {s with heap:=h',toks:=t'}:=I.un (Un.write a c k d)^I.hok.write a c k d new
def Inv.vH(I:Inv X pins σ H s)(h:∀p∈a,s.heap.get? p.1\p.2/\H p.1=none/\p.1≠X.env.locals/\p.1∉X.fs/\∀v,p.2.data≠ .cell v):Inv X a σ H s:=
 #[I.ok,I.os,I.bare,I.base,I.loc,I.cell,I.free,I.freeC,λp b=>(cE.mp b).elim (λz=>I.pin p^lH _ z)^h p,I.hok,I.len]
def xv{N:List ee}(c:N.Nodup){i j:Nat}{x:ee}(a:N[i]?\x)(b:N[j]?\x):i=j:=by
 let⟨f,d⟩:=cz.mp a;let⟨g,e⟩:=cz.mp b;exact(aeS c).mp^d.trans e.symm
theorem store_ok2(I:Inv X pins σ H s)(hN:X.N.Nodup)(O:X.N[i]?\x)(B:Loc X.env.scope x)(r:RelV v u)
  (h:∀Y,Inv X pins (σ.set i^some v) H Y->(∃a,Heap.SameBut a s.heap Y.heap/\(a=X.env.locals\/X.env.cells.lookup x\a))->Q ⟨⟩ Y) (hf:X.fn x=true\/X.env.scope.names.lookup x\.local<|>xz):d7 M A (storeName X.env x u) Q E s:=by
 let⟨m,Z,hl⟩:=id I.loc;have Hs:(X.env.scope.kind== .class|| (X.env.scope.kind== .module&&X.env.locals !=X.env.globals))=false:=by rw[I.ok.kind];rfl
 have Mh:i<σ.length:=by rw[I.len];exact(cz.mp O).1
 have z7:=I.z7
 have g:∀{a:Addr}{L:Heap},(∃o,s.heap.get? a\o/\H a=none)->Heap.SameBut a s.heap L->ik X.prog X.w H L:=λ {a L} ha f b ob e=>by
  let⟨D,K,EY⟩:=ha;refine(I.hok b ob e).pz (λc S t q=>(f.2 c ?_).trans q) (λ_ q=>q) λ_ _ q=>q;rintro rfl
  rcases t with rfl|t
  .rw[EY] at e;cases e
  .rw[EY] at t;cases t
 rcases B with F|F
 .refine wpAny_storeName_local F Z (λL E4 f=>?_) Hs
  let⟨oL,D,K,Ar,U⟩:=id Z;refine h _ #[I.ok,I.os,I.bare,#[λb o e n G B=>?_,λb o e n G B=>?_,I.base.free,λb o e B=>?_,I.base.tups,I.base.frzs,I.base.tbls],#[_,E4,λj y v' l C e3=>?_],λy c e=>?_,I.free,I.freeC,λp hp=>?_,g #[oL,Ar,I.free] f,by simpa using I.len] #[_,f, .inl rfl]
  .exact(f.2 b^bL^dj (Da e) I.ok.above).trans^I.base.keep b o e n G B
  .obtain⟨sl,l⟩:=I.base.slot b o e n G B
   exact#[sl,(f.2 b^bL^dj (Da e) I.ok.above).trans l]
  .obtain⟨o',l⟩:=I.base.there b o e B
   exact#[o',(f.2 b^bL^dj (Da e) I.ok.above).trans l]
  .by_cases J:j=i
   .subst J
    rw[O] at l;cases l;rw[nI Mh] at C;cases C;exact#[u,r, .inl #[F,by simp]]
   .rw[pB^Ne.symm J] at C
    let⟨u',r',q⟩:=hl j y v' l C e3;exists u',r'
    rcases q with ⟨k,e⟩ | ⟨k,c,e,z⟩
    .refine .inl #[k,?_]
     have:y≠x:=λe=>J^xv hN l (e▸O)
     simp[this,e]
    .exact .inr #[k,c,e,z.sameBut f^z7 y c e]
  .obtain⟨S,z⟩:=I.cell y c e
   exact#[S,z.sameBut f^z7 y c e]
  .obtain⟨e,n,ne,nf,d⟩:=I.pin p hp
   exact#[(f.2 p.1 ne).trans e,n,ne,nf,d]
 .have YC:X.fn x=true:=by
   rcases hf with z|z
   .exact z
   .rw[z] at F;cases F
  let⟨c,t⟩:=I.ok.has x^.inl F;let⟨S,z⟩:=I.cell x c t;refine wpAny_storeName_cell I.ok.kind F t z^λL nh f=>?_;let⟨oc,P,abd⟩:=id z;refine h {s with heap:=L} #[I.ok,I.os,I.bare,#[λb o e n G B=>?_,λb o e n G B=>?_,I.base.free,λb o e B=>?_,I.base.tups,I.base.frzs,I.base.tbls],#[m,Z.sameBut f^Ne.symm^z7 x c t,λj y v' l C e3=>?_],λy T e=>?_,I.free,I.freeC,λp hp=>?_,g #[oc,P,I.freeC x c t] f,by simpa using I.len] #[c,f, .inr t]
  .exact(f.2 b^bL^dj (Da e)^I.ok.cab x c YC t).trans^I.base.keep b o e n G B
  .obtain⟨sl,l⟩:=I.base.slot b o e n G B
   exact#[sl,(f.2 b^bL^dj (Da e)^I.ok.cab x c YC t).trans l]
  .obtain⟨o',l⟩:=I.base.there b o e B
   exact#[o',(f.2 b^bL^dj (Da e)^I.ok.cab x c YC t).trans l]
  .by_cases J:j=i
   .subst J
    rw[O] at l;cases l;rw[nI Mh] at C;cases C;exact#[u,r, .inr #[.inl F,c,t,nh]]
   .rw[pB^Ne.symm J] at C
    let⟨u',r',q⟩:=hl j y v' l C e3;exists u',r'
    rcases q with q| ⟨k,T,e,z'⟩
    .exact .inl q
    .refine .inr #[k,T,e,z'.sameBut f ?_]
     rintro rfl;exact J^xv hN l (I.ok.inj _ _ _ e t▸O)
  .by_cases R:T=c
   .subst R;exact#[_,nh]
   .obtain⟨w2,z2⟩:=I.cell y T e
    exact#[w2,z2.sameBut f R]
  .obtain⟨e,n,ne,nf,d⟩:=I.pin p hp
   refine#[(f.2 p.1 ?_).trans e,n,ne,nf,d];intro q;rw[q,P] at e;have q':oc=p.2:=Do e;exact d S^by rw[<-q'];exact abd
def kM{x:ee}{v:V}(I:Inv X pins σ H s)(b:X.N.Nodup)(c:X.N[i]?\x)(d:Loc X.env.scope x)(r:RelV v u)
  (h:∀a,Inv X pins (σ.set i^some v) H a->Q ⟨⟩ a) (e:X.fn x=true\/X.env.scope.names.lookup x\.local<|>xz):d7 M A (storeName X.env x u) Q E s:=
 store_ok2 I b c d r (λa f _=>h a f) e
def Inv.Jq{s':Shared}{ch:List Addr}(I:Inv X pins σ H s)(a:s'.os=s.os)(u:Un (uK X.stack) ch H H' s.heap s'.heap)(hok:ik X.prog X.w H' s'.heap)(d:AllBare s'.gens)
  (f:∀b∈ch,(b∈X.ex\/X.s₀.heap.objs.size<=b)/\b≠X.env.locals/\(∀x c,X.env.cells.lookup x\c->c≠b)/\∀p∈X.pn++pins,p.1≠b):Inv X pins σ H' s':=by
 obtain⟨h,g',d',t',g⟩:=s';have e:g=s.os:=a;subst e;exact I.call (g':=g') (t':=t') (d':=d') u hok d f
end
abbrev XK:=Value->Option Addr->Hp->Prop
abbrev St:=List^Option V
abbrev VK:=V->Hp->Prop
abbrev TE:=St->Hp->VK->Prop
abbrev TT:=St->Hp->(Bool->Hp->Prop)->Prop
abbrev TA:=St->Hp->(List V->Hp->Prop)->Prop
structure Ends where
 nx:St->Hp->Prop
 rt:VK
 bk:St->Hp->Prop:=λ_ _=>False
 ct:St->Hp->Prop:=λ_ _=>False
abbrev TS:=Ends->St->Hp->Prop
def EP(X:Cx)(a:List (Addr×Obj))(c:St)(Q:VK)(u:Value)(d:Shared):Prop:=∃v b,Inv X a c b d/\RelV v u/\Q v b
def TP(X:Cx)(a:List (Addr×Obj))(d:St)(Q:Bool->Hp->Prop)(b:Bool)(e:Shared):Prop:=∃c,Inv X a d c e/\Q b c
def AP(X:Cx)(a:List (Addr×Obj))(d:St)(Q:List V->Hp->Prop)(e:List Value)(f:Shared):Prop:=∃b c,Inv X a d c f/\Vals b e/\Q b c
def SP(X:Cx)(a:List (Addr×Obj))(D:Ends)(f:Flow)(d:Shared):Prop:=
 match f with
 | .next=>∃c b,Inv X a c b d/\D.nx c b
 | .brk=>∃c b,Inv X a c b d/\D.bk c b
 | .cont=>∃c b,Inv X a c b d/\D.ct c b
 | .ret u=>∃v c b,Inv X a c b d/\RelV v u/\D.rt v b
def PE(X:Cx)(e:Expr)(t:TE):Prop:=
 ∀(a:List (Addr×Obj))(s:Shared)(b:St)(H:Hp)(Q:VK),Inv X a b H s->t b H Q->wpAny (model X.prog X.w) X.A (eval e X.env) (EP X a b Q) X.xe s
def PT(X:Cx)(e:e_)(t:TT):Prop:=
 ∀(a:List (Addr×Obj))(s:c_)(b:St)(H:Hp)(Q:Bool->Hp->Prop),Inv X a b H s->t b H Q->d7 (d5 X.prog X.w) X.A (isTrue e X.env^fC e X.env) (TP X a b Q) X.xe s
def PW(X:Cx)(e:Expr)(t:TT):Prop:=
 ∀(b:Sem Value)(a:List (Addr×Obj))(s:Shared)(c:St)(H:Hp)(Q:Bool->Hp->Prop),Inv X a c H s->t c H Q->wpAny (model X.prog X.w) X.A (isTrue e X.env b) (TP X a c Q) X.xe s
def PW.pt(h:PW X e t):PT X e t:=h _
def PA(X:Cx)(d:List e_)(t:TA):Prop:=
 ∀(b:ip)(a:List (Addr×Obj))(s:c_)(c:St)(H:Hp)(Q:List V->Hp->Prop),Inv X a c H s->t c H Q->d7 (d5 X.prog X.w) X.A (spliced^f8 b^d4 d X.env) (AP X a c Q) X.xe s
def PS(X:Cx)(st:Stmt)(t:TS):Prop:=
 ∀(a:List (Addr×Obj))(s:Shared)(b:St)(H:Hp)(D:Ends),Inv X a b H s->t D b H->wpAny (model X.prog X.w) X.A (exec st X.env) (SP X a D) X.xe s
def jX(X:Cx)(st:List Stmt)(t:TS):Prop:=
 ∀(a:List (Addr×Obj))(s:Shared)(b:St)(H:Hp)(D:Ends),Inv X a b H s->t D b H->wpAny (model X.prog X.w) X.A (execs st X.env) (SP X a D) X.xe s
def thn{Q c:b->Shared->Prop}(h:wpAny M A t Q E s)(d:∀a s,Q a s->c a s):wpAny M A t c E s:=wpAny_mono h d λ_ _ x=>x
section
variable {X:Cx}
def yP(i:Nat):TE:=λa H Q=>∃v,a[i]?\(some v)/\Q v H
def tC(v:V):TE:=λ_ H Q=>Q v H
def My(k:X.N[i]?\x)(n:ze X.env.scope x)(f:(x==("__debug__":ee))=false<|>zm)(o:(x==("__classdict__":ee))=false<|>zm):PE X (.Name x d)^yP i:=by
 intro b s p H Q I h;rfl';let⟨v,e,h⟩:=h;let⟨m,t,w⟩:=I.loc;let⟨u,r,l⟩:=w i x v k e n;have fin:EP X b p Q u s:=#[v,H,I,r,h];ac_rfl
 rcases l with ⟨a,y⟩ | ⟨a,c,g,j⟩
 .exact wpAny_Name (wpAny_loadName_local I.ok.kind a t y fin) f
 .rcases a with a|a
  .exact wpAny_Name (wpAny_loadName_cell I.ok.kind a g j fin) f
  .exact wpAny_Name (wpAny_loadName_free I.ok.kind a g j fin o) f
def aZ{i j pos}:PE X (.Constant (.int i) j pos)^tC^.int i:=λ_ _ _ H _ I h=>wpAny_Constant_int #[.int i,H,I.tok _,#[_,rfl],h]
def ZK{b j pos}:PE X (.Constant (.bool b) j pos)^tC^.bl b:=λ_ _ _ H _ I h=>Constant_bool #[.bl b,H,I,rfl,h]
def Vk{j pos}:PE X (.Constant .none j pos)^tC .aQ:=λ_ _ _ H _ I h=>Constant_none #[.aQ,H,I,rfl,h]
def rH{x j pos}:PE X (.Constant (.str x) j pos)^tC^.str x:=λ_ _ _ H _ I h=>Calls.Constant_str #[.str x,H,I.tok _,#[_,rfl],h]
def Gl(X:Cx)(x:Str):Prop:=X.env.kindOf x\.globalImplicit
def hU(I:Inv X a c H s)(d:Gl X x)(e:X.mg x\u)(h:Q u s)
  (f:(x==("__debug__":Str))=false<|>zm):wpAny (model X.prog X.w) X.A (eval (.Name x b) X.env) Q E s:=
 aeA I.ok.kind d (Calls.loadGlobal_global (by rw[I.ok.glob];exact I.mod.glob.keeps I.bk) e h) f
def kA{u:Value}(I:Inv X a c H s)(d:Gl X x)(e:X.mg x=none)(f:bootBuiltins x\u)(h:Q u s)
  (g:x≠"__name__"<|>zm) (i:(x==("__debug__":Str))=false<|>zm):wpAny (model X.prog X.w) X.A (eval (.Name x b) X.env) Q E s:=by
 obtain⟨l,j,k⟩:=I.mod.blt;exact aeA I.ok.kind d (Calls.loadGlobal_builtin (by rw[I.ok.glob];exact I.mod.glob.keeps I.bk) e (by rw[I.ok.blt];exact j.keeps I.bk) ((k x g).trans f) h) i
def A6{v:V}(b:Gl X x)(c:X.mg x\u)(r:RelV v u)(d:(x==("__debug__":ee))=false<|>zm):PE X (.Name x a)^tC v:=
 λ_ _ _ H _ I h=>hU I b c #[v,H,I,r,h] d
def Ig(b:Gl X x)(c:X.mg x=none)(d:f_ x\u)(r:RelV v u)(e:x≠"__name__"<|>zm)(f:(x==("__debug__":ee))=false<|>zm):PE X (.Name x a)^tC v:=
 λ_ _ _ H _ I h=>kA I b c d #[v,H,I,r,h] e f
variable {a b:Expr} {ta tb:TE} {pos:Pos}
def tB(t:TE):TT:=λd H Q=>t d H λx e=>∃c,x= .bl c/\Q c e
def Vu(h:PE X e t)(g:(∀c,isTrue e X.env c=(do let v <-c;im e.pos;hB [v]^truthy v))<|>xx):PT X e^tB t:=by
 intro f s i H Q I hw;refine isTrue_plain (thn (h f s i H _ I hw) λv n #[x,j,k,l,m]=>?_)^g _;obtain⟨d,rfl,q⟩:=m;cases l;exact SZ #[j,k,q]
variable {tA FZ:TT} {rest:List Expr}
def ab3(t u:TT):TT:=λd H Q=>t d H λc e=>if c=true then u d e Q else Q false e
def tOr(t u:TT):TT:=λd H Q=>t d H λc e=>if c=true then Q true e else u d e Q
def aca(t:TT):TT:=λd H Q=>t d H λc e=>Q (!c) e
def Bb(f:PT X a tA):PW X (.BoolOp .And [a] pos) tA:=by
 intro i d s g H Q I h;refine isTrue_and (thn (f d s g H Q I h) λc j e=>?_);cases c with
 |true=>exact isTrue_and_nil e
 |false=>exact e
def Vv(f:PT X a tA):PW X (.BoolOp .Or [a] pos) tA:=by
 intro i d s g H Q I h;refine isTrue_or (thn (f d s g H Q I h) λc j e=>?_);cases c with
 |false=>exact isTrue_or_nil e
 |true=>exact e
def FI(j:PT X a tA)(k:PW X (.BoolOp .And (b::rest) pos) FZ):PW X (.BoolOp .And (a::b::rest) pos)^ab3 tA FZ:=by
 intro l d s e H Q I h;refine isTrue_and (thn (j d s e H _ I h) λc m #[f,g,i]=>?_);cases c with
 |true=>exact k l d m e f Q g i
 |false=>exact#[f,g,i]
def ZO(j:PT X a tA)(k:PW X (.BoolOp .Or (b::rest) pos) FZ):PW X (.BoolOp .Or (a::b::rest) pos)^tOr tA FZ:=by
 intro l d s e H Q I h;refine isTrue_or (thn (j d s e H _ I h) λc m #[f,g,i]=>?_);cases c with
 |true=>exact#[f,g,i]
 |false=>exact k l d m e f Q g i
def Mz(e:PT X a tA):PT X (.UnaryOp .Not a pos)^aca tA:=by
 intro d s f H Q I h;exact isTrue_not^e d s f H (λc g=>Q (!c) g) I h
def ZZ(f g:TE):TE:=λd H Q=>f d H λx e=>∃c,x= .bl c/\if c=true then g d e Q else Q (.bl false) e
def Z6(d:TE):TE:=λe H Q=>d e H λx f=>∃c,x= .bl c/\Q (.bl (!c)) f
def Vm{op}(h:PE X a t):PE X (.BoolOp op [a] pos) t:=λc s d H Q I hw=>BoolOp_one^h c s d H Q I hw
def Ve(j:PE X a ta)(k:PE X (.BoolOp .And (b::rest) pos) tb):PE X (.BoolOp .And (a::b::rest) pos)^ZZ ta tb:=by
 intro d s f H Q I h;refine BoolOp_and (thn (j d s f H _ I h) λv l m=>?_);rfl';let⟨x,g,i,o,e⟩:=m;let⟨c,rfl,e⟩:=e;ac_rfl;subst o;refine SZ ?_;cases c with
 |true=>exact k d l f g Q i e
 |false=>exact#[.bl false,g,i,rfl,e]
def Vl(f:PE X a ta):PE X (.UnaryOp .Not a pos)^Z6 ta:=by
 intro d s g H Q I h;refine UnaryOp_ (thn (f d s g H _ I h) λv n i=>?_);rfl';let⟨x,k,l,m,e⟩:=i;let⟨c,rfl,e⟩:=e;ac_rfl;subst m;exact not_of^SZ #[.bl (!c),k,l,rfl,e]
def tIf(t:TT)(f g:TE):TE:=λd H Q=>t d H λc e=>if c=true then f d e Q else g d e Q
def Om(l:PT X c tA)(m:PE X a ta)(n:PE X b tb):PE X (.IfExp c a b pos)^tIf tA ta tb:=by
 intro e s f H Q I h;refine wpAny_IfExp (thn (l e s f H _ I h) λd g #[i,j,k]=>?_);cases d with
 |true=>exact m e g f i Q j k
 |false=>exact n e g f i Q j k
end
def aJ(K:ad)(H:Hp)(a:Addr)(xs:List V):Prop:=
 Rd H a^.lst xs\/
  ∃(o:Obj)(b:Array b_)(n:Nat),K.lookup a\o/\o.cls= .type "list"/\o.dict=none/\o.data= .seq b n/\b.size<=sizeLine/\Vals xs b.toList
def fM(K:ad)(H:Hp)(a:Addr)(c:List V):Prop:=
 Rd H a^.tup c\/
  ∃(o:Obj)(b:Array b_)(n:Nat),K.lookup a\o/\o.cls= .type "tuple"/\o.data= .seq b n/\b.size<=sizeLine/\Vals c b.toList
noncomputable def aan:b_->Option V
 | .none=>some .aQ
 | .bool b=>some^.bl b
 | .int i _=>some^.int i
 | .str x _=>some^.str x
 | .bytes b _=>some^.zh b
 | .float b _=>some^.JK b
 | .ref a=>some^.ref a
 | .type n=>some^.ty n
 |_=>none
def RelV.abs{x:V}{u:Value}(r:RelV x u):aan u\x:=by
 cases x with
 |aQ=>cases r;rfl
 |bl _=>cases r;rfl
 |int _=>obtain⟨t,rfl⟩:=r;rfl
 |str _=>obtain⟨t,rfl⟩:=r;rfl
 |zh _=>obtain⟨t,rfl⟩:=r;rfl
 |JK _=>obtain⟨t,rfl⟩:=r;rfl
 |ref _=>cases r;rfl
 |ty _=>cases r;rfl
def RelV.inj{x y:V}(r:RelV x u)(q:RelV y u):x=y:=Do^r.abs.symm.trans q.abs
theorem Vals.inj:∀{a b:List V}{c:List Value},Vals a c->Vals b c->a=b
 |_,_,_, .nil, .nil=>rfl
 |_,_,_, .cons r t, .cons d e=>by rw[r.inj d,Vals.inj t e]
section
variable {X:Cx} {pins:List (Addr×Obj)} {σ:St} {H:Hp} {s:Shared} {a:Addr} {xs ys:List V}
def aJ.of{K:ad}(h:H a\(.lst xs)):aJ K H a xs:= .inl^.inl h
def fM.of{K:ad}(h:H a\(.tup xs)):fM K H a xs:= .inl^.inl h
def Inv.list(I:Inv X pins σ H s)(h:aJ X.K H a xs):∃its:List Value,Vals xs its/\PlainL s.heap a its.toArray/\xs.length<=sizeLine:=by
 rcases h with h| ⟨o,its,n,b,c,d,f,g,r⟩
 .obtain⟨z,its,n,r,e⟩:=h.ok I.hok
  exact#[its,r,#[_,n,e,rfl,rfl,rfl],z]
 .refine#[its.toList,r,#[o,n,I.cZ a o b,c,d,by simpa using f],?_]
  have e:=r.length;simp only[di] at e;lia
def Inv.tuple(I:Inv X pins σ H s)(h:fM X.K H a xs):∃its:List Value,Vals xs its/\IsTup s.heap a its.toArray/\xs.length<=sizeLine:=by
 rcases h with h| ⟨o,its,n,b,c,d,f,r⟩
 .obtain⟨z,its,r,p⟩:=h.ok I.hok
  exact#[its,r,p,z]
 .refine#[its.toList,r,#[o,I.cZ a o b,c,n,by simpa using d],?_]
  have e:=r.length;simp only[di] at e;lia
def Inv.DM(I:Inv X pins σ H s)(h:aJ X.K H a xs)(h':aJ X.K H a ys):xs=ys:=by
 rfl';obtain⟨c,r,⟨o,n,e,_,_,d⟩,_⟩:=I.list h;obtain⟨b,j,⟨m,p,f,_,_,g⟩,_⟩:=I.list h';ac_rfl;rw[e] at f;cases f;rw[d] at g
 injection g with k _
 have:c=b:=by simpa using KF Array.toList k
 subst this;exact r.inj j
end
abbrev Cx.sR(X:Cx)(E:Value->Shared->Prop):Cx:={X with xe:=E}
abbrev Cx.mG(X:Cx):Cx:=X.sR λ_ _=>False
theorem Cx.Ok.sR{X:Cx}(ok:X.Ok)(E:Value->Shared->Prop):(X.sR E).Ok:=
 #[ok.mod,ok.kind,ok.glob,ok.blt,ok.above,ok.inj,ok.has,ok.cab,ok.hd,ok.frames,ok.stk,ok.exf,ok.bs,ok.bsz,ok.noex,ok.exfs,ok.funs,ok.frf]
def Cx.Ok.mm{X:Cx}(ok:(X.sR E).Ok):X.Ok:=
 #[ok.mod,ok.kind,ok.glob,ok.blt,ok.above,ok.inj,ok.has,ok.cab,ok.hd,ok.frames,ok.stk,ok.exf,ok.bs,ok.bsz,ok.noex,ok.exfs,ok.funs,ok.frf]
section
variable {X:Cx} {pins:List (Addr×Obj)} {σ:St} {H:Hp} {s:Shared} {E:Value->Shared->Prop}
theorem Inv.sR(I:Inv X pins σ H s)(E:Value->Shared->Prop):Inv (X.sR E) pins σ H s:=#[I.ok.sR E,I.os,I.bare,I.base,I.loc,I.cell,I.free,I.freeC,I.pin,I.hok,I.len]
theorem Inv.mm(I:Inv (X.sR E) pins σ H s):Inv X pins σ H s:=#[I.ok.mm,I.os,I.bare,I.base,I.loc,I.cell,I.free,I.freeC,I.pin,I.hok,I.len]
theorem SP.mm{D:Ends}{f:Flow}{s':Shared}(h:SP (X.sR E) pins D f s'):SP X pins D f s':=by
 cases f with
 |next=>obtain⟨ax,H',I,q⟩:=h;exact#[ax,H',I.mm,q]
 |brk=>obtain⟨ax,H',I,q⟩:=h;exact#[ax,H',I.mm,q]
 |cont=>obtain⟨ax,H',I,q⟩:=h;exact#[ax,H',I.mm,q]
 |ret u=>obtain⟨v,ax,H',I,r,q⟩:=h;exact#[v,ax,H',I.mm,r,q]
theorem jX.mG{st:List Stmt}{t:TS}(h:jX X.mG st t):jX X st t:=λa s b H D I hw=>
 wpAny_mono (h a s b H D (I.sR _) hw) (λ_ _ q=>q.mm) λ_ _ z=>False.elim z
end
section
variable {X:Cx} {st:Stmt} {rest:List Stmt} {t u:TS} {e:Expr} {te:TE} {pos:Pos}
def Z5:TS:=λD a H=>D.nx a H
def SY(t u:TS):TS:=λD a H=>t {D with nx:=u D} a H
def qs:jX X [] Z5:=λ_ _ a H _ I h=>ad8 #[a,H,I,h]
def aF(h1:PS X st t)(h2:jX X rest u):jX X (st::rest)^SY t u:=by
 intro pins s σ H D I h;refine wpAny_execs_cons (thn (h1 pins s σ H {D with nx:=u D} I h) λf s1 q=>?_)
 cases f with
 |next=>
  let⟨ax,H',I',q⟩:=q;exact h2 pins s1 ax H' D I' q
 |ret v=>exact q
 |brk=>exact q
 |cont=>exact q
def bB(h1:PS X st t):jX X [st] t:=by
 intro pins s σ H D I h;refine wpAny_execs_cons (thn (h1 pins s σ H D I h) λf s1 q=>?_);cases f with
 |next=>exact wpAny_execs_nil q
 |ret v=>exact q
 |brk=>exact q
 |cont=>exact q
def Inv.quiet(I:Inv X a b H s):interactive X.env=false:=by simp[interactive,I.ok.kind]
def Z2(b:TE):TS:=λD a H=>b a H λ_ c=>D.nx a c
def dh(c:PE X e te)(d:gs e none pos.line X.env=pure false<|>zn):PS X (.Expr e pos)^Z2 te:=by
 intro a s b H D I h;exact wpAny_Expr_any (thn (c a s b H _ I h) λv j #[x,f,g,k,i]=>#[b,f,g,i]) I.quiet d
def Xi(a:TE):TS:=λD b H=>a b H D.rt
def h8(c:PE X e te):PS X (.Return (some e) pos)^Xi te:=by
 intro a s b H D I h;exact wpAny_Return_some (thn (c a s b H _ I h) λv j #[x,d,f,g,i]=>#[x,b,d,f,g,i])
def ab8(c:TT)(t u:TS):TS:=λD a H=>c a H λb d=>if b=true then t D a d else u D a d
def A9(m:PT X c tc)(n:jX X a t)(o:jX X b u):PS X (.If c a b pos)^ab8 tc t u:=by
 intro f s g H D I h;refine wpAny_If (thn (m f s g H _ I h) λd i #[j,k,l]=>?_);cases d with
 |true=>exact n f i g j D k l
 |false=>exact o f i g j D k l
def MS:TS:=λ_ _ _=>False
def Oy:PS X st MS:=λ_ _ _ _ _ _ h=>h.elim
def KW:jX X a MS:=λ_ _ _ _ _ _ h=>h.elim
end
abbrev TG:=V->St->Hp->(St->Hp->Prop)->Prop
abbrev B6:=List V->St->Hp->(St->Hp->Prop)->Prop
def PG(X:Cx)(a:Expr)(t:TG):Prop:=
 ∀(b:List (Addr×Obj))(s:Shared)(c:St)(H:Hp)(v:V)(u:Value)(Q:St->Hp->Prop),Inv X b c H s->RelV v u->t v c H Q->
  wpAny (model X.prog X.w) X.A (assign a X.env u) (λ_ f=>∃d e,Inv X b d e f/\Q d e) X.xe s
def Eu(X:Cx)(g:List Expr)(t:B6):Prop:=
 ∀(a:List (Addr×Obj))(s:Shared)(b:St)(H:Hp)(c:List V)(d:List Value)(Q:St->Hp->Prop),Inv X a b H s->Vals c d->t c b H Q->
  wpAny (model X.prog X.w) X.A (assignInOrder ((assignEach g X.env).map (·.2)) d) (λ_ h=>∃e f,Inv X a e f h/\Q e f) X.xe s
abbrev Pc:=V->V->V->Hp->(Hp->Prop)->Prop
def Wh(X:Cx)(t:Pc):Prop:=
 ∀(a:List (Addr×Obj))(s:Shared)(b:St)(H:Hp)(o i v:V)(c d u:Value)(Q:Hp->Prop),Inv X a b H s->RelV o c->RelV i d->RelV v u->t o i v H Q->
  wpAny (model X.prog X.w) X.A (setItem c d u) (λ_ f=>∃e,Inv X a b e f/\Q e) X.xe s
section
variable {X:Cx} {pos:Pos}
def Al(i:Nat):TG:=λv a H Q=>Q (a.set i^some v) H
def cy{i:Nat}(b:X.N.Nodup)(c:X.N[i]?\x)(d:Loc X.env.scope x)(e:X.fn x=true\/X.env.scope.names.lookup x\.local<|>xz):PG X (.Name x f)^Al i:=by
 intro a s j H v u Q I r h;exact wpAny_assign_Name^kM I b c d r (λk g=>#[_,H,g,h]) e
def aaS:B6:=λa b H Q=>a= []/\Q b H
def X6(t:TG)(u:B6):B6:=λa b H Q=>∃v r,a=v::r/\t v b H λc d=>u r c d Q
def nA:Eu X [] aaS:=by
 intro a s b H c d Q I r h;obtain⟨e,h⟩:=h;subst e;cases r;exact assignInOrder_nil #[b,H,I,h]
theorem fZ(c:PG X e t)(d:Eu X b u)
  (f:(gB (e::b) X.env).map (·.2)=jq e X.env::(gB b X.env).map (·.2)<|>zn):Eu X (e::b)^X6 t u:=by
 intro a s g H w x Q I r h;let⟨v,y,i,h⟩:=h;subst i;cases r with
 |cons r j=>
  rw[f];refine aev (thn (c a s g H _ _ _ I r h) λ_ k l=>?_);rfl';let⟨n,o,p,q⟩:=l;ac_rfl;exact d a k n o _ _ Q p j q
def aaT(K:ad)(n:Nat)(t:B6):TG:=λv c H Q=>∃a b,v= .ref a/\fM K H a b/\b.length=n/\t b c H Q
def rJ(i:X.calm=true)(h:Eu X d t)
  (j:(gB d X.env).length=n<|>zn) (l:(gB d X.env).findIdx? (·.1)=none<|>zn):PG X (.Tuple d k pos)^aaT X.K n t:=by
 intro c s f H v u Q I r hw;rfl';let⟨a,p,q,w,x,hw⟩:=hw;subst q;subst r;let⟨y,g,A,G⟩:=I.tuple w;ac_rfl;refine assign_Tuple_tuple (I.ok.hd i) A (by simp[j,<-x,g.length]) l λB C=>?_
 have E:Inv X c f H {s with heap:=B}:=I.kept (t':=s.toks) λb o e=>C b o (bL^Da e) e
 exact h c _ f H p _ Q E (g) hw
def WD(b c:TE)(t:Pc):TG:=λv a H Q=>b a H λo d=>c a d λi e=>t o i v e λf=>Q a f
def FG(l:PE X o g)(m:PE X i j)(n:Wh X t)
  (p:(∀v,jq (.Subscript o i pos) X.env v=(do
   let b <-hB [v]^fC o X.env
   let c <-hB [v,b] (fC i X.env)
   im pos
   hB [v,b,c] (setItem b c v)
   release [v,b,c] []))<|>xx):PG X (.Subscript o i pos)^WD g j t:=by
 intro a s f H v u Q I r h;rw[p];refine a_^KB (thn (l a s f H _ I h) λb q d=>?_);rfl';obtain⟨x,w,A,B,C⟩:=d;ac_rfl;refine a_^KB (thn (m a q f w _ A C) λc E d=>?_);rfl';obtain⟨y,F,G,J,L⟩:=d;ac_rfl;refine a_^W1^a_^KB (thn (n a E f F x y v b c u _ G B J r L) λ_ P d=>?_);rfl';obtain⟨M,N,O⟩:=d;ac_rfl;exact wpAny_release #[f,M,N,O]
def MQ(b:TE)(g:TG):TS:=λD a H=>b a H λx c=>g x a c D.nx
def rL(f:PE X e c)(i:PG X b g)(j:jt [b] e pos.line X.env=pure false<|>zn)(hw:ju [b] e X.env=pure none<|>zn)
  (k:(gB [b] X.env).map (·.2)= [jq b X.env]<|>zn):PS X (.Assign [b] e pos)^MQ c g:=by
 intro a s d H D I h;refine wpAny_Assign_stores (thn (f a s d H _ I h) λv l #[x,m,n,o,p]=>?_) j hw;rw[k];exact thn (i a l d m x v _ n o p) λ_ r q=>q
def bW{i:Nat}(d:X.N.Nodup)(f:X.N[i]?\x)(g:Loc X.env.scope x)(j:PE X e c)(k:gs e (some^.Name x a) pos.line X.env=pure false<|>zn)(l:X.fn x=true\/X.env.scope.names.lookup x\.local<|>xz):
  PS X (.Assign [.Name x a] e pos)^MQ c^Al i:=by
 intro b s m H D I h;refine wpAny_Assign_Name (thn (j b s m H _ I h) λv t #[y,n,o,p,q]=>?_) k;exact kM o d f g p (λu r=>#[_,n,r,q]) l
def acb(i j:Nat)(b:TA):TS:=λD a H=>b a H λc d=>∃v w,c= [v,w]/\D.nx ((a.set i^some v).set j^some w) d
theorem Vs{kt k2 KY}(E:X.calm=true)(n:X.N.Nodup)(F:X.N[i]?\x)(G:X.N[j]?\y)(J:i≠j)
  (r:X.env.scope.names.lookup x\.local) (t:X.env.scope.names.lookup y\.local) (L:PA X [a,b] m)
  (hw:ju [.Tuple [.Name x k, .Name y py] kt pt] (.Tuple [a,b] k2 KY) X.env=pure^some [x,y])
  (M:jt [.Tuple [.Name x k, .Name y py] kt pt] (.Tuple [a,b] k2 KY) pos.line X.env=pure false<|>zn):
  PS X (.Assign [.Tuple [.Name x k, .Name y py] kt pt] (.Tuple [a,b] k2 KY) pos)^acb i j m:=by
 intro c s u H D I h;rw[exec_Assign_arm];refine a_^W1 ?_;rw[M];refine a_^ir ?_;rw[tz ∅]
 refine a_^Tuple_ (thn (L _ c s u H _ I h) λO d P=>?_);obtain⟨vs,B,Q,R,l⟩:=P;obtain⟨v,w,S,l⟩:=l;subst S
 obtain⟨f,g,rfl,T,Y⟩:∃f g,O= [f,g]/\RelV v f/\RelV w g:=by
  cases R with
  |cons p q=>
   cases q with
   |cons Z q'=>
    cases q';exact#[_,_,rfl,p,Z]
 refine acV ?_^by show 2<=sizeLine;decide
 have I2:Inv X c u B {d with heap:=d.heap.push {cls:= .type "tuple",data:= .seq [f,g].toArray}}:=Q.kept (t':=d.toks) λb o e=>AC _ e
 rw[hw];refine a_^ir ?_;show d7 (d5 X.prog X.w) X.A (do rule "assign.swapped-stores";let items <-unpackItems (.ref d.heap.objs.size) 2 none;assignInOrder [λv=>bindName X.env y v,λv=>bindName X.env x v] items.reverse;pure Flow.next) _ _ _
 refine a_^ada^a_ (unpackItems_tuple (items:= [f,g].toArray) (I.ok.hd E) (IsTup.new d.heap _) λh' uQ=>?_);have I3:=I2.kept (h':=h') (t':=d.toks) λb o e=>uQ b o (bL^Da e) e;show d7 _ _ (assignInOrder [λv=>bindName X.env y v,λv=>bindName X.env x v] [g,f]>>=λ_=>pure Flow.next) _ _ _;refine a_^aev^wpAny_bindName^kM I3 n G (.inl t) Y (λs2 I4=>?_)^.inr t;refine aev^wpAny_bindName^kM I4 n F (.inl r) T (λs3 C=>assignInOrder_nil^ir ?_)^.inr r;rw[List.set_comm _ _^Ne.symm J] at C;exact#[_,B,C,l]
end
section
variable {X:Cx} {pos:Pos}
def MT(c:TT)(h:TS):TS:=λD a H=>∃W:Nat->St->Hp->Prop,(∃m,W m a H)/\∀m a H,W m a H->
 c a H λb d=>if b=true then ∃N:St->Hp->Prop,(∀e f,N e f->∃g,g<m/\W g e f)/\h {D with nx:=N,ct:=N,bk:=D.nx} a d else D.nx a d
def D1{c:e_}{body:List Stmt}{tc:TT}{tb:TS}(hp:PassesOwn (d5 X.prog X.w) X.A X.env X.xe)(hc:PT X c tc)(hb:jX X body tb):PS X (.While c body [] pos)^MT tc tb:=by
 intro pins s σ H D I h;obtain⟨W,⟨m0,w0⟩,turn⟩:=h;refine wpAny_While^codeAny_whileLoop (λn s'=>∃ax H',Inv X pins ax H' s'/\W n ax H') ?_ m0 #[σ,H,I,w0];intro n s1 z20;rfl';let⟨LO,H1,I1,w1⟩:=z20;ac_rfl;refine wpAny_passesOwn hp (thn (hc pins s1 LO H1 _ I1^turn n LO H1 w1) λb s2 aT=>?_);rfl';let⟨H2,I2,q2⟩:=aT;ac_rfl;cases b with
 |true=>
  rfl';let⟨N,hN,q2⟩:=q2;ac_rfl;rw[if_pos rfl];refine wpAny_passesOwn hp (thn (hb pins s2 LO H2 _ I2 q2) λf s3 q3=>?_);cases f with
  |next=>
   let⟨zC,H3,I3,n3⟩:=q3;let⟨m',hm,w3⟩:=hN zC H3 n3;exact#[m',hm,zC,H3,I3,w3]
  |cont=>
   let⟨zC,H3,I3,n3⟩:=q3;let⟨m',hm,w3⟩:=hN zC H3 n3;exact#[m',hm,zC,H3,I3,w3]
  |brk=>exact q3
  |ret v=>exact q3
 |false=>
  rw[if_neg dP];exact wpAny_execs_nil #[LO,H2,I2,q2]
end
structure It where
 go:Nat->Hp->Prop
 yld:Nat->Hp->V->Hp->Prop
 stop:Nat->Hp->Prop
def fH(X:Cx)(a:List (Addr×Obj))(H:Hp)(b:Addr):Prop:=
 H b=none/\b≠X.env.locals/\b∉X.fs/\(b∈X.ex\/X.s₀.heap.objs.size<=b)/\(∀x c,X.env.cells.lookup x\c->c≠b)/\∀p∈X.pn++a,p.1≠b
def Inv.Qe(I:Inv X a g H s)(d:s.heap.objs.size<=b)(h:f b=none):fH X a f b:=by
 refine#[h,jV^dj I.lt d,I.W2 d, .inr^jj I.sz d,λx c e z=>?_,λp i z=>?_]
 .obtain⟨v,q⟩:=I.cell x c e
  exact absurd (dj q.lt^by rw[z];exact d)^km _
 .exact absurd (dj (Da (I.pin p i).1)^by rw[z];exact d)^km _
structure Turn (P:ec) (w:ei) (K:ad) (tg:e_) (J:It) (fp:List Addr) (it:Addr) (tn:Nat->Heap->Prop):Prop where
 mem:it∈fp
 obj:∀i h,tn i h->∀b∈fp,∃o,h.get? b\o/\∀v,o.data≠ .cell v
 keep:∀i h h',tn i h->(∀b∈fp,∀o,h.get? b\o->h'.get? b\o)->tn i h'
 item:∀(X:Cx),X.prog=P->X.w=w->X.K=K->X.calm=true->∀(i:Nat)(pins:List (Addr×Obj))(s:c_)(σ:St)(H:Hp)(E:b_->c_->Prop),Inv X pins σ H s->(∀b∈fp,fH X pins H b)->tn i s.heap->J.go i H->
  d7 (d5 P w) X.A (lp^.ref it) (λr s1=>∃u,r\u/\
   d7 (d5 P w) X.A (iG tg (.ref it) u) (λ_ s2=>∃x H',Inv X pins σ H' s2/\RelV x u/\J.yld i H x H'/\tn (i+1) s2.heap/\∀b∈fp,H' b=none) E s1) E s
 done:∀(X:Cx),X.prog=P->X.w=w->X.K=K->X.calm=true->∀(i:Nat)(pins:List (Addr×Obj))(s:c_)(σ:St)(H:Hp)(E:b_->c_->Prop),Inv X pins σ H s->(∀b∈fp,fH X pins H b)->tn i s.heap->J.stop i H->
  d7 (d5 P w) X.A (lp^.ref it) (λr s1=>r=none/\Inv X pins σ H s1) E s
 self:∀(A:f7)(i:Nat)(s:c_)(Q:b_->c_->Prop)(E:b_->c_->Prop),tn i s.heap->Q (.ref it) s->d7 (d5 P w) A (pyIter^.ref it) Q E s
abbrev TI:=St->Hp->(It->Hp->Prop)->Prop
def PIE(X:Cx)(a:List (Addr×Obj))(h:St)(i:Expr)(R:It->Hp->Prop)(j:Value)(d:Shared):Prop:=
 ∃(e:Addr)(f:List Addr)(g:Nat->Heap->Prop)(J:It)(c:Hp),j= .ref e/\Inv X a h c d/\Turn X.prog X.w X.K i J f e g/\g 0 d.heap/\(∀b∈f,fH X a c b)/\R J c
def PI(X:Cx)(c iter:Expr)(d:TI):Prop:=
 ∀(a:List (Addr×Obj))(s:Shared)(b:St)(H:Hp)(R:It->Hp->Prop),Inv X a b H s->d b H R->
  wpAny (model X.prog X.w) X.A (eval iter X.env) (λv e=>wpAny (model X.prog X.w) X.A (pyIter v) (PIE X a b c R) X.xe e) X.xe s
theorem Qo{M:Model}{A:f7}{E:b_->c_->Prop}{s:c_}{b:e_}{c:Addr}{u:b_}{o:Obj}{n:String}{d:Array b_}{Q:Unit->c_->Prop}(e:s.heap.get? c\o)(f:o.cls= .type n)(g:o.data= .fields d)
  (i: ["enumerate","zip","dict_itemiterator","dict_reverseitemiterator","odict_iterator","itertools.zip_longest","itertools.pairwise"].contains n=false) (a:Q ⟨⟩ s):d7 M A (iG b (.ref c) u) Q E s:=by
 unfold iG
 cases b<;>first
  |exact f5 a
  | (cases u<;>first
    |exact f5 a
    | (refine a_^wpAny_load e ?_
       rw[f,g];show d7 M A (if (["enumerate","zip","dict_itemiterator","dict_reverseitemiterator","odict_iterator","itertools.zip_longest","itertools.pairwise"].contains n&&d[0]? ==some^kG _)=true then _ else _) Q E s;rw[if_neg^by intro h;rw[i,Bool.false_and] at h;cases h]
       exact f5 a))
noncomputable def M7(K:ad)(a:Addr):It:=
 #[λi H=>∃b x,aJ K H a b/\b[i]?\x,λi H x c=>c=H/\∀b,aJ K H a b->b[i]?\x,λi H=>∃b,aJ K H a b/\b.length<=i]
def Ji(lo:Int)(n:Nat):It:=#[λi _=>i<n,λi H x a=>a=H/\x= .int (lo+i),λi _=>n<=i]
theorem Lp{P:ec}{w:ei}{K:ad}{R:e_}(a g:Addr):Turn P w K R (M7 K a) [g] g (λi h=>h.IsListIter g a i) where
 mem:=by simp
 obj:=λi h st b j=>by
  have e:b=g:=by simpa using j
  subst e;let⟨o,e,c,d⟩:=st;exact#[o,e,λv z=>by rw[d] at z;cases z]
 keep:=λi h l st k=>st.at λo e=>k g (by simp) o e
 item:=by
  intro X q hw r N i f s O H E I m st t;rfl';subst q hw r;let⟨T,x,n,A⟩:=t;let⟨B,C,p,Y⟩:=I.list n;let⟨u,Z,ru⟩:=C.get A;let⟨F,G,f2,J,L,M⟩:=m g^by simp
  ac_rfl;refine wpAny_pyNext_list_item st p.isList (x:=u) (~~~Z) λl Q sb=>?_
  have I1:Inv X f O H {s with heap:=l}:=I.turned (t':=s.toks) (λb o j e=>(sb.2 b j).trans e) F G J L M
  let⟨o,e,c,d⟩:=id Q;exact#[u,rfl,Qo (s:={s with heap:=l}) e c d ∅ #[x,H,I1,ru,#[rfl,λys hy=>by rw[I.DM hy n];exact A],Q,λb j=>(m b j).1]]
 done:=by
  intro X q hw r N i f s O H E I m st t;rfl';subst q hw r;let⟨T,n,A⟩:=t;let⟨B,C,p,Y⟩:=I.list n;let⟨F,G,f2,J,L,M⟩:=m g^by simp
  have hl:=C.length;ac_rfl;exact wpAny_pyNext_list_end (I.ok.hd N) st p.isList (by simp;lia) λl eb=>#[rfl,I.turned (t':=s.toks) (λb o j e=>eb b o j e) F G J L M]
 self:=λ_ _ _ _ _ st h=>wpAny_pyIter_listiter st h
def IQ{P:ec}{w:ei}{K:ad}{G:e_}(a:Addr)(lo:Int)(n:Nat):Turn P w K G (Ji lo n) [a] a (λi h=>IsRangeIter h a (lo+(i:Nat)*1) ((n:Int)-(i:Nat)) 1) where
 mem:=by simp
 obj:=λi h st b d=>by
  have e:b=a:=by simpa using d
  subst e
  exact#[_,st,λv z=>by
   have J:Data.fields _=Data.cell v:=z;cases J]
 keep:=λi h f st k=>k a (by simp) _ st
 item:=by
  intro X j hw l m i c s B H E I g st p;subst j hw l;rfl';let⟨r,u,M,x,y,A⟩:=g a^by simp
  ac_rfl;have W:=Walks.range (prog:=X.prog) (w:=X.w) (I.ok.hd m) a lo 1 n;refine W.item i s _ _ p st λv f C N F O=>?_;let⟨t,rfl⟩:=N;have Q:Inv X c B H {s with heap:=f,toks:=C}:=I.turned (λb o d e=>O b o (~~~d) e) r u x y A
  refine#[_,rfl,Qo (s:={s with heap:=f,toks:=C}) (n:="range_iterator") F rfl rfl ∅ #[.int (lo+i),H,Q,#[t,?_],#[rfl,rfl],F,λb d=>(g b d).1]]
  rw[Int.mul_one]
 done:=by
  intro X j hw l m i c s B H E I g st p;subst j hw l;rfl';let⟨r,u,M,x,y,A⟩:=g a^by simp
  ac_rfl;exact wpAny_pyNext_range_end (I.ok.hd m) st (by have:n<=i:=p;lia) λf R=>#[rfl,I.turned (t':=s.toks) (λb o d e=>R b o d e) r u x y A]
 self:=λ_ _ _ _ _ st h=>wpAny_pyIter_rangeiter st h
section
variable {X:Cx} {tg:Expr}
def Y9(K:ad)(c:TE):TI:=λd H R=>c d H λx b=>∃a,x= .ref a/\(∃e,aJ K b a e)/\R (M7 K a) b
def lb{i:TE}(j:PE X l i):PI X tg l^Y9 X.K i:=by
 intro c s k H R I h;refine thn (j c s k H _ I h) λv d m=>?_;rfl';let⟨x,r,f,t,u⟩:=m;ac_rfl;rfl';obtain⟨a,e,⟨B,w⟩,q⟩:=u;subst e;subst t;let⟨y,C,p,E⟩:=f.list w;ac_rfl;refine wpAny_pyIter_list p.isList ?_;refine#[d.heap.objs.size,[d.heap.objs.size],_,_,r,rfl,f.kept (t':=d.toks) λb o e=>AC _ e,Lp a _,#[_,GM _ rfl,rfl,rfl],λb A=>?_,q];have e:b=d.heap.objs.size:=by simpa using A
 subst e;exact f.Qe (bh _)^f.hok.fresh^bh _
def D2{c:List (Addr×Obj)}{d:St}{H:Hp}{s:c_}{R:It->Hp->Prop}{E:b_->c_->Prop}{lo a:Int}{t u v:Tok}{f:Nat}(I:Inv X c d H s)(h: -(2<<<62)<=lo)(i:lo<2<<<62)(j: -(2<<<62)<=a)(k:a<2<<<62)
  (q:R (Ji lo (a-lo).toNat) H):d7 (d5 X.prog X.w) X.A (pyIter^.ref s.heap.objs.size) (PIE X c d tg R) E {s with heap:=s.heap.push {cls:= .type "range",data:= .fields [.int lo t, .int a u, .int 1 v].toArray},toks:=f}:=by
 refine wpAny_pyIter_range (IsRange.new ..) (small_one h i j k) ?_;have g:Inv X c d H {s with heap:=s.heap.push {cls:= .type "range",data:= .fields [.int lo t, .int a u, .int 1 v].toArray},toks:=f}:=I.kept λb o e=>AC _ e
 refine#[(s.heap.push {cls:= .type "range",data:= .fields [.int lo t, .int a u, .int 1 v].toArray}).objs.size,[(s.heap.push {cls:= .type "range",data:= .fields [.int lo t, .int a u, .int 1 v].toArray}).objs.size],_,_,H,rfl,
  g.kept (t':=f) λb o e=>AC _ e,IQ _ lo (a-lo).toNat,?_,λb l=>?_,q]
 .have m:lo+((0:Nat):Int)*1=lo:=by simp
  have n:(((a-lo).toNat:Nat):Int)-((0:Nat):Int)=Builtin.Range.rangeSize lo a 1:=by rw[rangeSize_one];split<;>lia
  show IsRangeIter _ _ (lo+((0:Nat):Int)*1) ((((a-lo).toNat:Nat):Int)-((0:Nat):Int)) 1;rw[m,n];exact GM _ rfl
 .have e:b=(s.heap.push {cls:= .type "range",data:= .fields [.int lo t, .int a u, .int 1 v].toArray}).objs.size:=by simpa using l
  subst e;exact g.Qe (bh _)^g.hok.fresh^bh _
def Za(a:TA):TI:=λb H R=>a b H λc d=>∃j:Int,c= [.int j]/\-(2<<<62)<=j/\j<2<<<62/\R (Ji 0 j.toNat) d
def Zb(a:TA):TI:=λb H R=>a b H λc d=>∃i j:Int,c= [.int i, .int j]/\(-(2<<<62)<=i/\i<2<<<62/\-(2<<<62)<=j/\j<2<<<62)/\R (Ji i (j-i).toNat) d
def tU(g:Gl X "range")(i:X.mg "range"=none)(k:PA X [a] f)(l:d4 [a] X.env= [(false,fC a X.env)]<|>zn):PI X tg (.Call (.Name "range" p) [a] [] b)^Za f:=by
 intro c s m H R I h;refine Call_^kA I g i boot_range^Wp (thn (k b c s m H _ I h) λw x #[y,A,n,o,d]=>?_) l rfl;let⟨j,e,d,u,q⟩:=d;subst e;cases o with
 |cons r v=>
  cases v;let⟨t,rfl⟩:=r;exact call_range_1^D2 n () () d u^~~~q
def KO(m:Gl X "range")(n:X.mg "range"=none)(o:PA X [a,b] k)(u:d4 [a,b] X.env= [(false,fC a X.env),(false,fC b X.env)]<|>zn)(l:d4 [b] X.env= [(false,fC b X.env)]<|>zn):
  PI X tg (.Call (.Name "range" p) [a,b] [] c)^Zb k:=by
 intro d s v H R I h;refine Call_^kA I m n boot_range^Wp (thn (o c d s v H _ I h) λE F #[G,J,w,x,f]=>?_) (by rw[u,l])^by rw[l];rfl
 obtain⟨i,j,e,⟨f,y,A,B⟩,q⟩:=f;subst e;cases x with
 |cons r g=>
  cases g with
  |cons C g=>
   cases g;let⟨t,rfl⟩:=r;let⟨L,rfl⟩:=C;exact call_range_2^D2 w f y A B q
def ab7(e:TI)(g:TG)(f:TS):TS:=λD a H=>e a H λJ h=>∃W:Nat->Nat->St->Hp->Prop,(∃m,W 0 m a h)/\∀i m a H,W i m a H->
 (J.stop i H/\D.nx a H)\/(J.go i H/\∃N:St->Hp->Prop,(∀c b,N c b->∃d,d<m/\W (i+1) d c b)/\∀x b,J.yld i H x b->g x a b λj k=>f {D with nx:=N,ct:=N,bk:=D.nx} j k)
noncomputable def oF(a:List Addr)(h:Heap):List (Addr×Obj):=a.filterMap λb=>(h.get? b).map λo=>(b,o)
def fI(c:b∈a)(e:h.get? b\o):(b,o)∈oF a h:=aew.mpr #[b,c,by rw[e];rfl]
def Kz(c:p∈oF a h):p.1∈a/\h.get? p.1\p.2:=by
 obtain⟨b,d,e⟩:=aew.mp c;cases q:h.get? b with
 |none=>rw[q] at e;cases e
 |some o=>
  rw[q] at e;have f:(b,o)=p:=Do e;subst f;exact#[d,q]
def Inv.pinned(I:Inv X a f H s)(i:∀b∈c,fH X a H b)(j:∀b∈c,∃o,s.heap.get? b\o/\∀v,o.data≠ .cell v):Inv X (a++oF c s.heap) f H s:=
 I.vH λp k=>(cE.mp k).elim (λz=>I.pin p^fW _ z) λz=>by
  rfl';let⟨g,e⟩:=Kz z;let⟨m,n,q,l⟩:=i p.1 g;let⟨o,h,d⟩:=j p.1 g;ac_rfl;rw[e] at h;cases h;exact#[e,m,n,q,d]
def Inv.kN(I:Inv X (a++pl) b H s):Inv X a b H s:=I.vH λp c=>I.pin p^fW _^lH _ c
theorem kC(E:PassesOwn (d5 X.prog X.w) X.A X.env X.xe)(hc:X.calm=true)(hi:PI X tg iter wi)(hg:PG X tg g)(c:jX X t tb)
  (hs:(∀x,ey iter X.env x=pure x)<|>xx):PS X (.For tg iter t [] R)^ab7 wi g tb:=by
 intro a s σ H D I h;refine wpAny_For (thn (hi a s σ H _ I h) λv s1 h1=>thn h1 λAB s2 h2=>?_) hs;rfl';obtain⟨it,F,tn,J,H2,e,I2,T,jB,f2,W,⟨m0,w0⟩,G⟩:=h2;subst e;ac_rfl;have j:∀{q:Hp},(∀b∈F,q b=none)->∀b∈F,fH X a q b:=λhn b c=>#[hn b c,(f2 b c).2];refine codeAny_forLoop_any (λn s'=>∃i L q,Inv X a L q s'/\tn i s'.heap/\(∀b∈F,q b=none)/\W i n L q) ?_ m0 #[0,σ,H2,I2,jB,λb c=>(f2 b c).1,w0];intro n s3 Y;rfl';let⟨i,M,Q,I3,zx,O,w3⟩:=Y;ac_rfl
 rcases G i n M Q w3 with ⟨stop,qn⟩ | ⟨go,N,hN,step⟩
 .refine ac7 E (thn (T.done X rfl rfl rfl hc i a s3 M Q X.xe I3 (j O) zx stop) λr s4 C=>?_)
  let⟨Z,I4⟩:=C;subst Z;exact ad8 #[M,Q,I4,qn]
 .refine ac7 E (thn (T.item X rfl rfl rfl hc i a s3 M Q X.xe I3 (j O) zx go) λr s4 C=>?_)
  let⟨u,Z,h4⟩:=C;subst Z;refine ac7 E (thn h4 λ_ s5 C=>?_);rfl';let⟨x,H5,I5,r5,y5,zy,tH⟩:=C;ac_rfl;have Xm:=I5.pinned (j tH)^T.obj _ _ zy;refine ac7 E (thn (hg _ s5 M H5 x u _ Xm r5^step x H5 y5) λ_ s6 C=>?_);rfl';let⟨σ6,H6,I6,q6⟩:=C;ac_rfl;refine ac7 E (thn (c _ s6 σ6 H6 _ I6 q6) λf s7 y=>?_)
  have again:∀{k:St}{l:Hp},Inv X (a++oF F s5.heap) k l s7->N k l->∃m,m<n/\∃i L q,Inv X a L q s7/\tn i s7.heap/\(∀b∈F,q b=none)/\W i m L q:=λ {k l} p P=>by
   let⟨m',hm,w7⟩:=hN k l P;refine#[m',hm,i+1,k,l,p.kN,T.keep _ _ _ zy λb c o e=>(p.pin (b,o)^fW _^fW _^fI c e).1,λb c=>?_,w7];let⟨o,e,d⟩:=T.obj _ _ zy b c;exact(p.pin (b,o)^fW _^fW _^fI c e).2.1
  cases f with
  |next=>let⟨k,l,p,P⟩:=y;exact again p P
  |cont=>let⟨k,l,p,P⟩:=y;exact again p P
  |brk=>let⟨k,l,p,y⟩:=y;exact#[k,l,p.kN,y]
  |ret v=>let⟨x7,k,l,p,r7,y⟩:=y;exact#[x7,k,l,p.kN,r7,y]
end
def Nz{K:ad}{a:Addr}{xs:List V}{g:TG}{k:TS}{D:Ends}{b:St}{H:Hp}(c:Nat->St->Hp->Prop)(o:c 0 b H)(r:∀i b H,i<=xs.length->c i b H->aJ K H a xs)
  (s:∀i x b H,xs[i]?\x->c i b H->g x b H λf h=>k {D with nx:=c (i+1),ct:=c (i+1),bk:=D.nx} f h) (t:∀b H,c xs.length b H->D.nx b H):
  ∃W:Nat->Nat->St->Hp->Prop,(∃m,W 0 m b H)/\∀i m b H,W i m b H->
   ((M7 K a).stop i H/\D.nx b H)\/((M7 K a).go i H/\∃N:St->Hp->Prop,(∀j d,N j d->∃l,l<m/\W (i+1) l j d)/\∀x d,(M7 K a).yld i H x d->g x b d λf h=>k {D with nx:=N,ct:=N,bk:=D.nx} f h):=by
 refine#[λi m b H=>m=xs.length-i/\i<=xs.length/\c i b H,#[xs.length,by simp,d9 _,o],?_]
 rintro i m b H ⟨rfl,u,p⟩;have q:=r i b H u p
 by_cases n:i<xs.length
 .refine .inr #[#[xs,xs[i],q,by simp[n]],c (i+1),λj d v=>#[xs.length-(i+1),(by omega),rfl,n,v],λx d y=>?_]
  obtain⟨e,y⟩:=y;subst e;exact s i x b _ (y xs q) p
 .have e:i=xs.length:=()
  subst e;exact .inl #[#[xs,q,bh _],t b H p]
def nY{lo:Int}{n:Nat}{g:TG}{k:TS}{D:Ends}{a:St}{H:Hp}(b:Nat->St->Hp->Prop)(o:b 0 a H)
  (q:∀i a H,i<n->b i a H->g (.int (lo+i)) a H λd f=>k {D with nx:=b (i+1),ct:=b (i+1),bk:=D.nx} d f) (r:∀a H,b n a H->D.nx a H):
  ∃W:Nat->Nat->St->Hp->Prop,(∃m,W 0 m a H)/\∀i m a H,W i m a H->
   ((Ji lo n).stop i H/\D.nx a H)\/((Ji lo n).go i H/\∃N:St->Hp->Prop,(∀h c,N h c->∃l,l<m/\W (i+1) l h c)/\∀x c,(Ji lo n).yld i H x c->g x a c λd f=>k {D with nx:=N,ct:=N,bk:=D.nx} d f):=by
 refine#[λi m a H=>m=n-i/\i<=n/\b i a H,#[n,by simp,d9 _,o],?_]
 rintro i m a H ⟨rfl,t,p⟩
 by_cases j:i<n
 .refine .inr #[j,b (i+1),λh c s=>#[n-(i+1),(),rfl,j,s],λx c y=>?_]
  obtain⟨e,y⟩:=y;subst e y;exact q i a _ j p
 .have e:i=n:=()
  subst e;exact .inl #[bh _,r a H p]
theorem OV(g:St->Hp->Prop)(h:St->Hp->Nat)(k:g a H)
  (n:∀a H,g a H->c a H λb d=>if b=true then i {D with nx:=λe f=>g e f/\h e f<h a H,ct:=λe f=>g e f/\h e f<h a H,bk:=D.nx} a d else D.nx a d)
  (mono:∀a H Q j,(∀b d,Q b d->j b d)->c a H Q->c a H j):MT c i D a H:=by
 refine#[λm a H=>m=h a H/\g a H,#[_,rfl,k],?_];rintro m a H ⟨rfl,p⟩;refine mono a H _ _ (λb d q=>?_)^n a H p;cases b with
 |true=>exact#[_,λe f #[o,l]=>#[_,l,rfl,o],q]
 |false=>exact q
abbrev R2:=V->V->Hp->VK->Prop
def OpR(X:Cx)(f:Value->Value->Sem Value)(r:R2):Prop:=
 ∀(a:List (Addr×Obj))(s:Shared)(b:St)(H:Hp)(x y:V)(v u:Value)(Q:VK),Inv X a b H s->RelV x v->RelV y u->r x y H Q->
  wpAny (model X.prog X.w) X.A (f v u) (EP X a b Q) X.xe s
def UnR(X:Cx)(f:Value->Sem Value)(r:V->Hp->VK->Prop):Prop:=
 ∀(a:List (Addr×Obj))(s:Shared)(b:St)(H:Hp)(x:V)(v:Value)(Q:VK),Inv X a b H s->RelV x v->r x H Q->
  wpAny (model X.prog X.w) X.A (f v) (EP X a b Q) X.xe s
def CallR(X:Cx)(f:Value)(r:List V->Hp->VK->Prop):Prop:=
 ∀(a:List (Addr×Obj))(s:Shared)(b:St)(H:Hp)(c:List V)(d:List Value)(Q:VK),Inv X a b H s->Vals c d->r c H Q->
  wpAny (model X.prog X.w) X.A (call f d) (EP X a b Q) X.xe s
def aam(X:Cx)(r:V->Hp->(Bool->Hp->Prop)->Prop):Prop:=
 ∀(a:List (Addr×Obj))(s:Shared)(b:St)(H:Hp)(x:V)(v:Value)(Q:Bool->Hp->Prop),Inv X a b H s->RelV x v->r x H Q->
  wpAny (model X.prog X.w) X.A (truthy v) (TP X a b Q) X.xe s
def F3(r:R2)(b c:TE):TE:=λa H Q=>b a H λx d=>c a d λy e=>r x y e Q
def tUn(r:V->Hp->VK->Prop)(a:TE):TE:=λb H Q=>a b H λx c=>r x c Q
def rI(C:Int->Int->Prop)(g:Int->Int->V):R2:=λx y H Q=>∃i j,x= .int i/\y= .int j/\C i j/\Q (g i j) H
def K2(g:Int->Int->V):R2:=λx y H Q=>∃i j,x= .int i/\y= .int j/\Q (g i j) H
def rU(g:Int->V):V->Hp->VK->Prop:=λx H Q=>∃i,x= .int i/\Q (g i) H
section
variable {X:Cx} {a b c:Expr} {ta tb tc:TE} {pos:Pos}
def Pl(l:PE X a ta)(m:PE X b tb){d:List (Addr×Obj)}{s:Shared}{e:St}{H:Hp}{R:V->V->Hp->Prop}(I:Inv X d e H s)
  (h:ta e H λx k=>tb e k λy g=>R x y g) {Q:Value->Shared->Prop} {f:Value->Value->Sem Value}
  (n:∀v u j x y g,Inv X d e g j->RelV x v->RelV y u->R x y g->wpAny (model X.prog X.w) X.A (f v u) Q X.xe j):
  wpAny (model X.prog X.w) X.A (eval a X.env) (λv i=>wpAny (model X.prog X.w) X.A (eval b X.env) (λu o=>wpAny (model X.prog X.w) X.A (f v u) Q X.xe o) X.xe i) X.xe s:=by
 refine thn (l d s e H _ I h) λv p #[x,k,q,r,t]=>?_;refine thn (m d p e k _ q t) λu j #[y,g,B,C,E]=>?_;exact n v u j x y g B r C E
def cW(f:OpR X (ii e) r)(g:PE X a ta)(i:PE X b tb):PE X (.BinOp a e b pos)^F3 r ta tb:=by
 intro d s j H Q I h;exact wpAny_BinOp (Pl g i I h λv u k x y l m n o q=>f d k j l x y v u Q m n o q)
def ZM(g:UnR X (unaryOp e) r)(i:PE X a ta):PE X (.UnaryOp e a pos)^tUn r ta:=by
 intro d s f H Q I h;exact UnaryOp_ (thn (i d s f H _ I h) λv j #[x,k,l,m,n]=>g d j f k x v Q l m n)
def Va{f:b_->b_->j9 b_}{C:Int->Int->Prop}{g:Int->Int->Int}
  (rule:∀(i j:Int)(t u:Tok)(s:c_)(Q:b_->c_->Prop)(E:b_->c_->Prop),C i j->Q (.int (g i j) s.toks) {s with toks:=s.toks+1}->d7 (d5 X.prog X.w) X.A (f (.int i t)^.int j u) Q E s):
  OpR X f (rI C λi j=> .int^g i j):=by
 intro d s n H x y v u Q I e k h;let⟨i,j,rfl,rfl,l,q⟩:=h;let⟨t,rfl⟩:=e;let⟨m,rfl⟩:=k;exact rule i j t m s _ _ l #[.int^g i j,H,I.tok _,#[_,rfl],q]
def abH{f:b_->b_->j9 b_}{g:Int->Int->Int}
  (rule:∀(i j:Int)(t u:Tok)(s:c_)(Q:b_->c_->Prop)(E:b_->c_->Prop),Q (.int (g i j) s.toks) {s with toks:=s.toks+1}->d7 (d5 X.prog X.w) X.A (f (.int i t)^.int j u) Q E s):
  OpR X f (K2 λi j=> .int^g i j):=by
 intro d s m H x y v u Q I e k h;let⟨i,j,rfl,rfl,q⟩:=h;let⟨t,rfl⟩:=e;let⟨l,rfl⟩:=k;exact rule i j t l s _ _ #[.int^g i j,H,I.tok _,#[_,rfl],q]
def RO{f:b_->b_->j9 b_}{g:Int->Int->Bool}
  (rule:∀(i j:Int)(t u:Tok)(s:c_)(Q:b_->c_->Prop)(E:b_->c_->Prop),Q (.bool^g i j) s->d7 (d5 X.prog X.w) X.A (f (.int i t)^.int j u) Q E s):
  OpR X f (K2 λi j=> .bl^g i j):=by
 intro d s m H x y v u Q I e k h;let⟨i,j,rfl,rfl,q⟩:=h;let⟨t,rfl⟩:=e;let⟨l,rfl⟩:=k;exact rule i j t l s _ _ #[.bl^g i j,H,I,rfl,q]
def OZ(i j:Int):Prop:=0<j/\j<1073741824
def aah(i j:Int):Prop:=0<=j/\j<=1000000/\i.natAbs<2<<<64
def O0(i j:Int):Prop:=(-(2<<<64)<i/\i<2<<<64)\/(-(2<<<64)<j/\j<2<<<64)
def O0.ok(h:O0 i j):IntMulOk i j:=by
 rcases h with ⟨d,e⟩ | ⟨d,e⟩
 .exact .of_left^intBits_le_64 d e
 .exact .of_right^intBits_le_64 d e
def iY:OpR X (binaryOp .Add) (K2 λi j=> .int (i+j)):=abH λ_ _ _ _ _ _ _ q=>add_int q
def rB:OpR X (binaryOp .Mult) (rI O0 λi j=> .int (i*j)):=Va λ_ _ _ _ _ _ _ d q=>mul_int q d.ok
def Ib:OpR X (ii .FloorDiv) (rI OZ λi j=> .int (i / j)):=Va λi j _ _ _ _ _ d q=>by
 have e:(0:Int)<j:=d.1;have f:j<1073741824:=d.2;exact floordiv_int () (by rw[Int.fdiv_eq_ediv_of_nonneg i ()];exact q)^.inl^PyProof.noPylong_small (by omega)
def rA:OpR X (ii .Mod) (rI (λ_ j=>0<j) λi j=> .int (i%j)):=Va λi j _ _ _ _ _ d q=>by
 have e:(0:Int)<j:=d;exact mod_int' ()^by rw[Int.fmod_eq_emod_of_nonneg i ()];exact q
def Vd:OpR X (binaryOp .Pow) (rI aah λi j=> .int (i<<<j.toNat)):=Va λ_ _ _ _ _ _ _ d q=>pow_int_small d.1 d.2.1 d.2.2 q
def unI{f:b_->j9 b_}{g:Int->Int}
  (rule:∀(i:Int)(t:Tok)(s:c_)(Q:b_->c_->Prop)(E:b_->c_->Prop),Q (.int (g i) s.toks) {s with toks:=s.toks+1}->d7 (d5 X.prog X.w) X.A (f^.int i t) Q E s):
  UnR X f (rU λi=> .int^g i):=by
 intro d s j H x v Q I e h;let⟨i,rfl,q⟩:=h;let⟨t,rfl⟩:=e;exact rule i t s _ _ #[.int^g i,H,I.tok _,#[_,rfl],q]
def V6:UnR X (unaryOp .USub) (rU λi=> .int (-i)):=unI λ_ _ _ _ _ q=>neg_int q
end
noncomputable def abV:V->V->Bool
 | .aQ, .aQ=>true| .aQ, .int _=>true| .int _, .aQ=>true| .aQ, .bl _=>true| .bl _, .aQ=>true| .aQ, .str _=>true| .str _, .aQ=>true
 | .int _, .int _=>true| .bl _, .bl _=>true| .str _, .str _=>true| .zh _, .zh _=>true
 | .int _, .str _=>true| .str _, .int _=>true| .bl _, .str _=>true| .str _, .bl _=>true
 |_,_=>false
def rNe:R2:=λx y H Q=>abV x y=true/\Q (.bl (!decide (x=y))) H
def PK:decide (V.int i=V.int j)=(i==j):=by
 rw[ad9];simp
def T5:decide (V.bl i=V.bl j)=(i==j):=by
 rw[ad9];simp
def PL:decide (V.str i=V.str j)=(i==j):=by
 rw[ad9];simp
def PJ:decide (V.zh i=V.zh j)=(i.toList==j.toList):=by
 rw[ad9];cases i;cases j;simp
section
variable {X:Cx} {a b c:Expr} {ta tb tc:TE} {pos:Pos}
def eX(I:Inv X d f H s)(q:Q (.bl k) H)(e:k=g):EP X d f Q (.bool g) s:=by
 subst e;exact#[.bl k,H,I,rfl,q]
def ZE:OpR X (fz .NotEq) rNe:=by
 intro pins s σ H x y v u Q I rx ry h;let⟨hs,q⟩:=h;cases x with
 |aQ=>
  cases rx;cases y with
  |aQ=>cases ry;exact PySem.EqNone.ne_none_none^eX I q^by simp
  |bl j=>cases ry;exact PySem.EqNone.ne_none_bool^eX I q^by simp
  |int j=>let⟨t',rfl⟩:=ry;exact PySem.EqNone.ne_none_int^eX I q^by simp
  |str j=>let⟨t',rfl⟩:=ry;exact PySem.EqNone.ne_none_str^eX I q^by simp
  |_=>exact absurd (show false=true from hs) dP
 |bl i=>
  cases rx;cases y with
  |aQ=>cases ry;exact PySem.EqNone.ne_bool_none^eX I q^by simp
  |bl j=>cases ry;exact ne_bool^eX I q^congrArg not T5
  |str j=>let⟨t',rfl⟩:=ry;exact PySem.EqMixed.ne_bool_str^eX I q^by simp
  |_=>exact absurd (show false=true from hs) dP
 |int i=>
  let⟨t,rfl⟩:=rx;cases y with
  |aQ=>cases ry;exact PySem.EqNone.ne_int_none^eX I q^by simp
  |int j=>let⟨t',rfl⟩:=ry;exact ne_int^eX I q^congrArg not PK
  |str j=>let⟨t',rfl⟩:=ry;exact PySem.EqMixed.ne_int_str^eX I q^by simp
  |_=>exact absurd (show false=true from hs) dP
 |str i=>
  let⟨t,rfl⟩:=rx;cases y with
  |aQ=>cases ry;exact PySem.EqNone.ne_str_none^eX I q^by simp
  |bl j=>cases ry;exact PySem.EqMixed.ne_str_bool^eX I q^by simp
  |int j=>let⟨t',rfl⟩:=ry;exact PySem.EqMixed.ne_str_int^eX I q^by simp
  |str j=>let⟨t',rfl⟩:=ry;exact ne_str^eX I q^congrArg not PL
  |_=>exact absurd (show false=true from hs) dP
 |zh i=>
  let⟨t,rfl⟩:=rx;cases y with
  |zh j=>let⟨t',rfl⟩:=ry;exact PySem.W.ne_bytes^eX I q^congrArg not PJ
  |_=>exact absurd (show false=true from hs) dP
 |_=>cases y<;>exact absurd (show false=true from hs) dP
def KG:OpR X (compareOp .Lt) (K2 λi j=> .bl (decide (i<j))):=RO λ_ _ _ _ _ _ _ q=>lt_int q
def ZD:OpR X (compareOp .LtE) (K2 λi j=> .bl (decide (i<=j))):=RO λ_ _ _ _ _ _ _ q=>le_int q
def KC:OpR X (compareOp .Gt) (K2 λi j=> .bl (decide (j<i))):=RO λ_ _ _ _ _ _ _ q=>gt_int q
def Vc:OpR X (fz .Is) (λx y H Q=>y= .aQ/\Q (.bl (decide (x= .aQ))) H):=by
 intro d s g H x y v u Q I e f h;let⟨rfl,q⟩:=h;subst f;refine is_none_gen^eX I q ?_
 cases x<;>first
  | (cases e;rfl)
  | (let⟨t,rfl⟩:=e;rfl)
def RQ:OpR X (fz .IsNot) (λx y H Q=>y= .aQ/\Q (.bl (!decide (x= .aQ))) H):=by
 intro d s g H x y v u Q I e f h;let⟨rfl,q⟩:=h;subst f;refine isnot_none_gen^eX I q ?_
 cases x<;>first
  | (cases e;rfl)
  | (let⟨t,rfl⟩:=e;rfl)
def OpR.or(h:OpR X f r)(k:OpR X f e):OpR X f (λx y H Q=>r x y H Q\/e x y H Q):=by
 intro d s g H x y v u Q I i j q
 rcases q with q|q
 .exact h d s g H x y v u Q I i j q
 .exact k d s g H x y v u Q I i j q
def aX(b:Expr)(h:d≠ .In<|>zm)(e:d≠ .NotIn<|>zm):behindInMarks d b=false:=by
 have f:(d==CmpOp.In)=false:=by cases d<;>first|rfl|exact absurd rfl h
 have g:(d==CmpOp.NotIn)=false:=by cases d<;>first|rfl|exact absurd rfl e
 cases b<;>simp[behindInMarks,f,g]
def Ih(f:OpR X (fz e) r)(g:PE X a ta)(i:PE X b tb)(j:iq e b=false):PE X (.Compare a [e] [b] pos)^F3 r ta tb:=by
 intro d s k H Q I h;exact wpAny_Compare1 (Pl g i I h λv u l x y m n o p q=>f d l k m x y v u Q n o p q) j
def Lk(t:TE):TT:=λd H Q=>t d H λx e=>∃k,x= .bl k/\Q k e
def jO(i:OpR X (fz f) r)(j:PE X a ta)(l:PE X b tb)(m:iq f b=false):PT X (.Compare a [f] [b] pos)^Lk^F3 r ta tb:=by
 intro d s g H Q I h
 refine wpAny_isTrue_Compare1 (thn (j d s g H _ I h) λv n #[x,o,p,q,t]=>thn (l d n g o _ p t) λu w #[y,A,B,C,E]=>
  thn (i d w g A x y v u _ B q C E) λc M #[z,F,G,J,k,e,L]=>?_) m
 subst e;subst J;exact SZ #[F,G,L]
def F0(r f:R2)(g h tc:TE):TE:=λd H Q=>g d H λx i=>h d i λy j=>r x y j λz e=>∃k,z= .bl k/\
 (if k=true then tc d e λl m=>f y l m Q else Q (.bl false) e)
theorem Ol(q:OpR X (fz i) r)(t:OpR X (fz j) l)(w:PE X a ta)(A:PE X b tb)(B:PE X c tc)
  (C:lastMarks [i,j] [b,c]=false<|>ww):PE X (.Compare a [i,j] [b,c] pos)^F0 r l ta tb tc:=by
 intro f s g H Q I h
 refine Compare_chain (thn (w f s g H _ I h) λv E #[x,F,G,J,L]=>chain_link (thn (A f E g F _ G L) λu M #[y,N,O,m,P]=>
  thn (q f M g N x y v u _ O J m P) λd R #[z,n,o,S,k,e,p]=>?_)) C
 subst e;subst S;refine SZ ?_;cases k with
 |false=>exact ite_ff #[.bl false,n,o,rfl,p]
 |true=>exact ite_tt^chain_last (thn (B f R g n _ o p) λT Y #[Z,H4,I4,r4,q4]=>t f Y g H4 y Z u T Q I4 m r4 q4)
theorem Oz(q:OpR X (fz i) r)(t:OpR X (fz j) l)(w:PE X a ta)(A:PE X b tb)(B:PE X c tc)
  (C:lastMarks [i,j] [b,c]=false<|>ww):PT X (.Compare a [i,j] [b,c] pos)^Lk^F0 r l ta tb tc:=by
 intro f s g H Q I h
 refine isTrue_chain (thn (w f s g H _ I h) λv E #[x,F,G,J,L]=>test_link (thn (A f E g F _ G L) λu M #[y,N,O,m,P]=>
  thn (q f M g N x y v u _ O J m P) λd R #[z,n,o,S,k,e,p]=>?_)) C
 subst e;subst S;refine SZ ?_;cases k with
 |false=>
  rfl';let⟨k',Y,Z⟩:=p;cases Y;ac_rfl;exact ite_ff #[n,o,Z]
 |true=>
  refine ite_tt^test_last (thn (B f R g n _ o p) λw' s4 #[z',H4,I4,r4,q4]=>thn (t f s4 g H4 y z' u w' _ I4 m r4 q4) λd' s5 #[z2,H5,I5,r5,k2,e2,q5]=>?_);subst e2;subst r5;exact SZ #[H5,I5,q5]
def Wj(K:ad)(x:V)(H:Hp)(k:Bool):Prop:=
 match x with
 | .aQ=>k=false
 | .bl b=>k=b
 | .int i=>k=(i !=0)
 | .str y=>y.length<=sizeLine/\k=((y.length:Int) !=0)
 | .zh y=>y.size<=sizeLine/\k=((y.size:Int) !=0)
 | .ref p=>(∃d,aJ K H p d/\k= !d.isEmpty)\/(∃d,fM K H p d/\k= !d.isEmpty)\/∃e,H p\(.dK e)/\k= !e.isEmpty
 |_=>False
def HG(r:KV e f):(!f.isEmpty)= !e.isEmpty:=by
 cases r<;>rfl
def yA(r:Vals e d):(!d.toArray.isEmpty)= !e.isEmpty:=by
 cases r<;>simp
def oi:(sizeLine:Nat)<2<<<63:=by rw[ac6];decide
def V4:aam X (λx H Q=>∃k,Wj X.K x H k/\Q k H):=by
 intro pins s σ H x v Q I rx h;obtain⟨k,e,q⟩:=h;have hl:=oi;have hs:sizeLine=16777216:=sizeLine_eq;cases x with
 |aQ=>
  cases rx;have e':k=false:=e;subst e';exact truthy_none #[H,I,q]
 |bl b=>
  cases rx;have e':k=b:=e;subst e';exact wpAny_truthy_bool #[H,I,q]
 |int i=>
  obtain⟨t,rfl⟩:=rx;have e':k=(i !=0):=e;subst e';exact PySem.P.truthy_int #[H,I,q]
 |str y=>
  obtain⟨t,rfl⟩:=rx;obtain⟨hy,e'⟩:y.length<=sizeLine/\k=((y.length:Int) !=0):=e;subst e';exact PySem.P.truthy_str () #[H,I.tok _,q]
 |zh y=>
  obtain⟨t,rfl⟩:=rx;obtain⟨hy,e'⟩:y.size<=sizeLine/\k=((y.size:Int) !=0):=e;subst e';exact PySem.W.truthy_bytes () #[H,I.tok _,q]
 |ref p=>
  subst rx;have e':(∃xs,aJ X.K H p xs/\k= !xs.isEmpty)\/(∃xs,fM X.K H p xs/\k= !xs.isEmpty)\/∃fU,H p\(.dK fU)/\k= !fU.isEmpty:=e
  rcases e' with ⟨xs,hx,e'⟩ | ⟨xs,hx,e'⟩ | ⟨fU,hx,e'⟩
  .subst e'
   obtain⟨its,r,pl,hz⟩:=I.list hx;have hlen:=r.length;exact wpAny_truthy_list pl.isList (by simp only[cn];lia) #[H,I.tok _,by rw[yA r];exact q]
  .subst e'
   obtain⟨its,r,pl,hz⟩:=I.tuple hx;have hlen:=r.length;exact truthy_tuple pl (by simp only[cn];lia) #[H,I.tok _,by rw[yA r];exact q]
  .subst e'
   obtain⟨hz,hS,vs,r,m⟩:fU.length<=sizeLine/\(p==sysModules)=false/\∃vs,KV fU vs/\s.heap.DictOf (AO X.prog X.w) p vs:=I.hok p _ hx;have hlen:fU.length=vs.length:=Paired.length r;exact wpAny_truthy_dict hS m () #[H,I.tok _,by rw[HG r];exact q]
 |_=>exact(show False from e).elim
def OA(i:PE X a ta)(j:∀d,isTrue a X.env d=(do let v <-d;im a.pos;hB [v]^truthy v)):
  PT X a (λf H Q=>ta f H λx g=>∃k,Wj X.K x g k/\Q k g):=by
 intro e s f H Q I h;exact isTrue_plain (thn (i e s f H _ I h) λv l #[x,m,n,o,p]=>V4 e l f m x v Q n o p)^j _
def vals1(r:Vals [x] d):∃u,d= [u]/\RelV x u:=by
 cases r with
 |cons e f=>cases f;exact#[_,rfl,e]
def vals2(r:Vals [x,y] d):∃u e,d= [u,e]/\RelV x u/\RelV y e:=by
 cases r with
 |cons f g=>
  cases g with
  |cons h i=>cases i;exact#[_,_,rfl,f,h]
def Js(g:X.calm=true):CallR X (.builtin "max") (λe H Q=>∃i j,e= [.int i, .int j]/\Q (.int^if j>i then j else i) H):=by
 intro f s m H e n Q I r h;rfl';let⟨i,j,rfl,q⟩:=h;obtain⟨u,p,rfl,⟨t,rfl⟩,⟨v,rfl⟩⟩:=vals2 r;ac_rfl;refine max_two_ints (I.ok.hd g) λw x k=>#[_,H,I.kept k,?_,q]
 by_cases d:j>i
 .rw[mo d,mo d];exact#[_,rfl]
 .rw[tz d,tz d];exact#[_,rfl]
def Jt(g:X.calm=true):CallR X (.builtin "min") (λe H Q=>∃i j,e= [.int i, .int j]/\Q (.int^if j<i then j else i) H):=by
 intro f s m H e n Q I r h;rfl';let⟨i,j,rfl,q⟩:=h;obtain⟨u,p,rfl,⟨t,rfl⟩,⟨v,rfl⟩⟩:=vals2 r;ac_rfl;refine min_two_ints (I.ok.hd g) λw x k=>#[_,H,I.kept k,?_,q]
 by_cases d:j<i
 .rw[mo d,mo d];exact#[_,rfl]
 .rw[tz d,tz d];exact#[_,rfl]
def Jr:CallR X (.type "int") (λd H Q=>(∃i,d= [.int i]/\Q (.int i) H)\/∃k,d= [.bl k]/\Q (.int^if k then 1 else 0) H):=by
 intro e s g H d j Q I r h
 rcases h with ⟨i,rfl,q⟩ | ⟨k,rfl,q⟩
 .obtain⟨u,rfl,t,rfl⟩:=vals1 r
  exact call_int_int #[.int i,H,I,#[_,rfl],q]
 .obtain⟨u,rfl,f⟩:=vals1 r
  cases f;exact call_int_bool #[.int^if k then 1 else 0,H,I.tok _,#[_,rfl],q]
end
structure zS (h:Heap) (x dx C:Addr) (mA:Str->Option Value):Prop where
 obj:h.get? x\(ce C dx)
 ns:h.Ns1 dx mA
 ne:dx≠x
def tP{h:Heap}(n:h.Ns1 d f):∃od,h.get? d\od/\∀b,cI b od\(f b):=by
 rfl';let⟨o,g,u,j,k,l,i,m⟩:=n;ac_rfl;refine#[o,j,λb=>?_];have e:=m b;unfold nsFind findBy at e;rw[<-Array.find?_toList] at e;unfold cI;rw[k];dsimp only
 split
 .rename_i y q
  rw[q] at e;exact KF some e
 .rename_i q
  rw[q] at e
  have a:g.toList.any (·.refKey)=false:=by
   rw[List.any_eq_false];intro y p;let⟨z,t,c⟩:=l y^Array.mem_toList_iff.mp p;simp[DictEntry.refKey,c]
  have r:¬g.toList.any (·.refKey)=true:=by rw[a];exact dP
  rw[tz r];exact KF some e
def zS.look(I:zS h x c C d):∃b,PySem.W.InstAt h x (ce C c) C^some b/\∀a,cI a b\(d a):=
 let #[b,e,f]:=tP I.ns
 #[b,#[I.obj,rfl,rfl,e],f]
section
variable {prog:Program} {w:World} {A:Around} {E:Value->Shared->Prop} {s:Shared} {K:ad} {x dx C f:Addr} {mA:Str->Option Value} {name:Str} {v:Value}
def get_map(X:K.In s.heap)(I:zS s.heap x dx C mA)(b:cq K C name=true)(c:cf K C=true)
  (d:aj K (.ref C) name\none) (e:mA name\v) (g:PySem.W.handedIn v=true) (h:Q v {s with toks:=s.toks+1}):
  d7 (d5 prog w) A (getAttr (.ref x) name a) Q E s:=by
 let⟨j,J,i⟩:=I.look;exact PySem.W.get_value X J (ael b).1 (PySem.W.findObj_own c d rfl^by rw[i,e]) g h
def ND(X:K.In s.heap)(I:zS s.heap x dx C mA)(a:cq K C name=true)
  (b:aj K (.ref C) name\(some^.ref f)) (c:bT K^.ref f=true) (d:mA name=none) (h:Q (.ref f,[.ref x]) s):
  d7 (d5 prog w) A (ku (.ref x) name pl) Q E s:=by
 let⟨e,J,g⟩:=I.look;exact PySem.W.method_fn X J (ael a).1 (ael a).2 b (acU.mp c) (by show(cI name e).map (·.isSome)\false;rw[g,d];rfl) h
def SD{e:List ee}(X:K.In s.heap)(I:zS s.heap x dx C mA)
  (j:aj K (.ref C) "__setattr__"\(some^.builtin "object.__setattr__")) (k:cP K C=true) (l:db K C name\none) (m:cf K C=true)
  (hw:cm mA e) (H:e.length<=sizeLine)
  (h:∀c,zS c x dx C (λy=>if y=name then some v else mA y)->Heap.SameBut dx s.heap c->Q ⟨⟩ {s with heap:=c,toks:=s.toks+2}):
  d7 (d5 prog w) A (setAttr (.ref x) name v) Q E s:=by
 rfl';let⟨L,J,M⟩:=I.look;let⟨N,o,p⟩:=PySem.W.any_some m;ac_rfl;refine PySem.W.set_plain X J j (PySem.W.osa_open (s:={s with toks:=s.toks+1}) (r:=none) X J k l λb=>?_)
 have q:s.heap.get? x\#[.ref C,some dx, .plain, #[]]:=I.obj;refine a_^ir^a_^a_^aeo q^a_^PySem.W.Looks.here (s:={s with toks:=s.toks+1}) (PySem.W.looks_clsIn X o) ?_
 rw[p];refine ir (a:=some dx)^a_^ir^a_ ?_;refine afr (s:={s with toks:=s.toks+1}) I.ns λc g i=>?_
 rfl';let⟨O,t,u,B,F,G⟩:=g.count^PySem.Within.cons name v hw;ac_rfl;refine a_^aeT B (by rw[F];exact aeU^jj G^by rw[dQ];lia) ?_
 exact ir^h _ #[(i.2 _^Ne.symm I.ne).trans I.obj,g,I.ne] i
def DP(X:K.In s.heap)(c:df K C=true)
  (e:aj K (.ref C) "__init__"\(some^.ref f)) (i:PySem.W.typeIn K^.ref f\(.type "function"))
  (h:gl (d5 prog w) (A.under^.builtin "type.__call__" #[.ref C::a,b]) (.call (.ref f) #[.ref (s.heap.objs.size+1)::a,b]) (PySem.W.InitBack (s.heap.objs.size+1) R)
   {s with heap:=(s.heap.push bx).push^ce C s.heap.objs.size}):
  gl (d5 prog w) A (.call (.ref C) #[a,b]) R s:=by
 let⟨j,g,d,t,os⟩:=s;exact PySem.W.make_core (PySem.W.makes_of X c) (aea X e) (λself=>PySem.W.bind_fn X self i) (.inl rfl) h
end
noncomputable def jP(f:Str)(v:V):List (Str×V)->List (Str×V)
 | []=> [(f,v)]
 | (g,x)::r=>if g=f then(g,v)::r else(g,x)::jP f v r
theorem oj(f g:ee)(v:V):∀fs:List (ee×V),(jP f v fs).lookup g=if g=f then some v else fs.lookup g
 | []=>by
  show bu g [(f,v)]=_
  by_cases h:g=f
  .have a:(g==f)=true:=acU.mpr h
   simp only[bu,a,mo h]
  .have a:(g==f)=false:=acQ.mpr h
   simp only[bu,a,tz h]
 | (k,x)::r=>by
  have c:=oj f g v r;rw[show jP f v ((k,x)::r)=(if k=f then(k,v)::r else(k,x)::jP f v r) from rfl]
  by_cases b:k=f
  .rw[mo b]
   by_cases h:g=k
   .have a:(g==k)=true:=acU.mpr h
    simp only[bu,a,mo^h.trans b]
   .have a:(g==k)=false:=acQ.mpr h
    simp only[bu,a,tz^λe:g=f=>h^e.trans b.symm]
  .rw[tz b]
   by_cases h:g=k
   .have a:(g==k)=true:=acU.mpr h
    simp only[bu,a,tz^λe:g=f=>b^h.symm.trans e]
   .have a:(g==k)=false:=acQ.mpr h
    simp only[bu,a];exact c
theorem k6(f:ee)(v:V):∀fs:List (ee×V),f∈(jP f v fs).map (·.1)/\∀g,g∈fs.map (·.1)->g∈(jP f v fs).map (·.1)
 | []=>#[by simp[jP],λg h=>by simp at h]
 | (k,x)::r=>by
  let⟨b,c⟩:=k6 f v r;rw[show jP f v ((k,x)::r)=(if k=f then(k,v)::r else(k,x)::jP f v r) from rfl]
  by_cases a:k=f
  .rw[mo a]
   subst a;exact#[by simp,λg h=>h]
  .rw[tz a]
   refine#[?_,λg h=>?_]
   .rw[dR]
    exact dY _ b
   .rw[dR] at h ⊢
    rcases dS.mp h with e|e
    .exact dS.mpr^.inl e
    .exact dY _^c g e
theorem n9(f:Str)(v:V):∀fs:List (Str×V),(jP f v fs).length<=fs.length+1
 | []=>by simp[jP]
 | (k,x)::r=>by
  have b:=n9 f v r;rw[show jP f v ((k,x)::r)=(if k=f then(k,v)::r else(k,x)::jP f v r) from rfl]
  by_cases a:k=f
  .rw[mo a,dQ,dQ];lia
  .rw[tz a,dQ,dQ];lia
def lT.some_of{v:V}{o:Option Value}(r:lT (some v) o):∃u,o\u/\RelV v u:=by
 cases o with
 |none=>exact(show False from r).elim
 |some u=>exact#[u,rfl,r]
def lT.none_of(r:lT none o):o=none:=by
 cases o with
 |none=>rfl
 |some u=>exact(show False from r).elim
def Ao{v:V}{u:Value}(r:RelV v u):PySem.W.handedIn u=true:=by
 cases v with
 |aQ=>cases(show u=Value.none from r);rfl
 |bl b=>cases(show u=Value.bool b from r);rfl
 |int i=>obtain⟨t,e⟩:=(show ∃t,u=Value.int i t from r);cases e;rfl
 |str x=>obtain⟨t,e⟩:=(show ∃t,u=Value.str x t from r);cases e;rfl
 |zh b=>obtain⟨t,e⟩:=(show ∃t,u=Value.bytes b t from r);cases e;rfl
 |JK b=>obtain⟨t,e⟩:=(show ∃t,u=Value.float b t from r);cases e;rfl
 |ref a=>cases(show u=Value.ref a from r);rfl
 |ty n=>cases(show u=Value.type n from r);rfl
section
variable {P:Program} {w:World} {H H':Hp} {h h':Heap} {a C dx:Addr} {fs fs':List (Str×V)}
def uS(hok:ik P w H h)(e:H a\(.ins C dx fs)):∃b,zS h a dx C b/\(∀f,lT (fs.lookup f)^b f)/\cm b^fs.map (·.1)/\fs.length<=1000/\H dx\(.own a):=by
 let⟨d,z,ne,c,b,n,r,q⟩:=(show cp P w H h a^.ins C dx fs from hok a _ e);exact#[b,#[c,n,ne],r,q,z,d]
end
structure zO (K:ad) (C:Addr):Prop where
 pg:cq K C Str.empty=true
 hd:cf K C=true
 po:cP K C=true
 sa:aj K (.ref C) "__setattr__"\(some^.builtin "object.__setattr__")
def zO.get{K:ad}{C:Addr}(c:zO K C)(f:Str):cq K C f=true:=c.pg
def fL(K:ad)(C:Addr)(f:Str):Prop:=aj K (.ref C) f\none
def fL.Ll{K:ad}{C:Addr}{f:Str}(n:fL K C f):db K C f\none:=by
 unfold db;rw[show aj K (.ref C) f\none from n];rfl
structure Meth (K:ad) (C:Addr) (m:ee) (f:Addr):Prop where
 at_:aj K (.ref C) m\(some^.ref f)
 fn:bT K^.ref f=true
 kp:am K^.ref f=true
section
variable {X:Cx} {pins:List (Addr×Obj)} {σ:St} {H:Hp} {s:Shared} {a C dx:Addr} {fs:List (Str×V)} {f:Str} {v:V} {A:Around} {E:Value->Shared->Prop}
def Hq(I:Inv X pins σ H s)(e:H a\(.ins C dx fs))(c:zO X.K C)(n:fL X.K C f)(l:fs.lookup f\v)
  (h:∀u d,Inv X pins σ H d->RelV v u->Q u d):d7 (d5 X.prog X.w) A (getAttr (.ref a) f b) Q E s:=by
 let⟨i,O,r,k,m,p⟩:=uS I.hok e;let⟨u,j,g⟩:=lT.some_of (v:=v) (o:=i f)^by rw[<-l];exact r f
 exact get_map I.cZ O (c.get f) c.hd n j (Ao g)^h u _ (I.tok _) g
def yw{pl:j9 Bool}(I:Inv X pins σ H s)(e:H a\(.ins C dx fs))(c:zO X.K C)(k:Meth X.K C m g)(l:fs.lookup m=none)
  (h:Q (.ref g,[.ref a]) s):d7 (d5 X.prog X.w) A (ku (.ref a) m pl) Q E s:=by
 let⟨b,O,r,f,i,j⟩:=uS I.hok e;have d:b m=none:=lT.none_of^by rw[<-l];exact r m
 exact ND I.cZ O (c.get m) k.at_ k.fn d h
def IB(I:Inv X pins σ H s)(e:H a\(.ins C dx fs))(c:zO X.K C)(n:fL X.K C f)(N:fs.length<1000)(m:RelV y u)
  (h:∀i,Inv X pins σ (upd H a^.ins C dx^jP f y fs) i->Q ⟨⟩ i):d7 (d5 X.prog X.w) A (setAttr (.ref a) f u) Q E s:=by
 rfl';obtain⟨j,O,r,k,_,l⟩:=uS I.hok e;have t:(fs.map (·.1)).length<=sizeLine:=by rw[aI,ac6];lia
 ac_rfl;refine SD I.cZ O c.sa c.po n.Ll c.hd k t λB d F=>h _ ?_;have G:∃o,B.get? dx\o:=let #[o,_,_,J,_]:=d.ns;#[o,J];refine I.write (x:=a) (e:=dx) (by rw[e];exact True.intro) (.inr l) (λb q L z=>(F.2 b L).trans z) G ?_
 refine#[by rw[af O.ne];exact l,?_,O.ne,d.obj,_,d.ns,λg=>?_,λg M=>?_]
 .have:=n9 f y fs;lia
 .show lT ((jP f y fs).lookup g)^if g=f then some u else j g
  rw[oj]
  by_cases q:g=f
  .rw[mo q,mo q];exact m
  .rw[tz q,tz q];exact r g
 .by_cases q:g=f
  .rw[q];exact(k6 f y fs).1
  .refine(k6 f y fs).2 g (k g λz=>M ?_)
   show(if g=f then some u else j g)=none;rw[tz q];exact z
def Inv.made(I:Inv X pins σ H s):Inv X pins σ (upd (upd H s.heap.objs.size^.own (s.heap.objs.size+1)) (s.heap.objs.size+1)^.ins C s.heap.objs.size [])
  {s with heap:=(s.heap.push bx).push^ce C s.heap.objs.size}:=by
 have c:(s.heap.push bx).get? s.heap.objs.size\bx:=GM s.heap rfl
 have d:((s.heap.push bx).push^ce C s.heap.objs.size).get? (s.heap.objs.size+1)\(ce C s.heap.objs.size):=by
  have:=GM (s.heap.push bx) (o:=ce C s.heap.objs.size) rfl
  rwa [adp] at this
 have g:(s.heap.push bx).Ns s.heap.objs.size (λ_=>none):=#[bx, #[],_,c,rfl,(λe h=>absurd h^by simp),λ_=>rfl]
 have i:=I.laid (a:=s.heap.objs.size) (o:= .own (s.heap.objs.size+1)) (h':=s.heap.push bx) (t':=s.toks) (λb u q=>AC _ q) (bh _) #[_,c];refine i.laid (a:=s.heap.objs.size+1) (o:= .ins C s.heap.objs.size []) (t':=s.toks) (λb u q=>AC _ q) (afs^adp _ _) ?_;have ne:s.heap.objs.size≠s.heap.objs.size+1:=bL^BO _;refine#[by rw[af ne,ae],d9 _,ne,d,λ_=>none,(Heap.Ns1.of_empty g).at λo q=>AC _ q,λ_=>True.intro,λy j=>absurd rfl j]
def GJ{f:ee}{s:c_}(d:ge e f env^fC e env=fC e env)
  (h:d7 (d5 prog w) A (fC e env) (λo b=>d7 (d5 prog w) A (getAttr o f true) Q E b) E s):d7 (d5 prog w) A (fC (.Attribute e f c) env) Q E s:=
 Attribute_any_ h^by rw[arm_eval_Attribute,d]
end
def ab6(K:ad)(c:TE)(f:Str):TE:=λd H Q=>c d H λx b=>∃a C e fs v,x= .ref a/\b a\(.ins C e fs)/\zO K C/\fL K C f/\fs.lookup f\v/\Q v b
def abU(K:ad)(e g:TE)(f:ee):TS:=λD b H=>g b H λy h=>e b h λx c=>∃a C d fs,x= .ref a/\c a\(.ins C d fs)/\zO K C/\fL K C f/\fs.length<1000/\
 D.nx b^upd c a^.ins C d^jP f y fs
section
variable {X:Cx} {o e value:Expr} {f:Str} {pos pos' acf:Pos} {ta tv:TE}
def Vi(d:PE X e ta)(g:ge e f X.env^fC e X.env=fC e X.env):PE X (.Attribute e f pos)^ab6 X.K ta f:=by
 intro b s i H Q I h;refine GJ g (thn (d b s i H _ I h) λu B j=>?_);rfl';let⟨x,m,p,r,a,C,F,fs,v,t,w,c,n,l,q⟩:=j;ac_rfl;subst t;obtain rfl:u=Value.ref a:=r;exact Hq p w c n l λG J y A=>#[v,m,y,A,q]
def Vr(g:PE X o ta)(i:PE X value tv)(j:gs value (some^.Attribute o f pos') pos.line X.env=pure false):PS X (.Assign [.Attribute o f pos'] value pos)^abU X.K ta tv f:=by
 intro b s d H D I h;refine ad5 (thn (i b s d H _ I h) λu k #[y,m,p,r,q]=>thn (g b k d m _ p q) λt G #[x,J,v,w,a,C,L,fs,A,B,c,n,l,E]=>?_) j;subst A;obtain rfl:t=Value.ref a:=w;exact IB v B c n l r λM F=>#[d,_,F,E]
end
section
variable {X:Cx} {pins:List (Addr×Obj)} {σ:St} {H:Hp} {s:Shared} {A:Around} {E:Value->Shared->Prop} {Q:Value->Shared->Prop} {c:Value} {b:Bool}
inductive kR (K:ad) (H:Hp):V->b_->Prop where
 |aQ:kR K H .aQ^.type "NoneType"
 |bl (x:Bool):kR K H (.bl x)^.type "bool"
 |int (i:Int):kR K H (.int i)^.type "int"
 |str (x:ee):kR K H (.str x)^.type "str"
 |JK (x:UInt64):kR K H (.JK x)^.type "float"
 |lst {a:Addr} {xs:List V} (e:H a\(.lst xs)):kR K H (.ref a)^.type "list"
 |tI {a:Addr} {o:Obj} {xs:List V} (e:H a\(.tI o^.lst xs)):kR K H (.ref a)^.type "list"
 |tup {a:Addr} {xs:List V} (e:H a\(.tup xs)):kR K H (.ref a)^.type "tuple"
 |dK {a:Addr} {fU:List (Key×V)} (e:H a\(.dK fU)):kR K H (.ref a)^.type "dict"
 |dT {a:Addr} {fU:List (List Key×V)} (e:H a\(.dT fU)):kR K H (.ref a)^.type "dict"
 |ins {a C dx:Addr} {fs:List (ee×V)} (e:H a\(.ins C dx fs)) (cl:zO K C) (ha:aj K (.ref C) "__class__"\(some^.builtin "object.__class__"))
   (hn:bd K (.builtin "object.__class__") "__get__"\(some^.builtin "getset_descriptor.__get__")) (htk:cr K^.builtin "object.__class__"\true)
   (hm:b7 K C^.type "object"\true):kR K H (.ref a)^.ref C
def Az{x:V}{u t:b_}(I:Inv X pins σ H s)(rx:RelV x u)(ty:kR X.K H x t)(e:bi X.K t c\b)(h:∀tk,Q (.bool b) {s with toks:=tk}):
  d7 (d5 X.prog X.w) A (call (.builtin "isinstance") [u,c]) Q E s:=by
 cases ty with
 |aQ=>cases(show u=Value.none from rx);exact PySem.W.kia_one PySem.W.kitx_none I.cZ True.intro e (λz=>nomatch z) h
 |bl y=>cases(show u=Value.bool y from rx);exact PySem.W.kia_one PySem.W.kitx_bool I.cZ True.intro e (λz=>nomatch z) h
 |int i=>let⟨t,q⟩:=(show ∃t,u=Value.int i t from rx);cases q;exact PySem.W.kia_one PySem.W.kitx_int I.cZ True.intro e (λz=>nomatch z) h
 |str y=>let⟨t,q⟩:=(show ∃t,u=Value.str y t from rx);cases q;exact PySem.W.kia_one PySem.W.kitx_str I.cZ True.intro e (λz=>nomatch z) h
 |JK y=>let⟨t,q⟩:=(show ∃t,u=Value.float y t from rx);cases q;exact PySem.W.kia_one PySem.W.kitx_float I.cZ True.intro e (λz=>nomatch z) h
 | @lst a xs ea=>
  cases(show u=Value.ref a from rx);let⟨d,f,n,g,h1⟩:=(show cp X.prog X.w H s.heap a^.lst xs from I.hok a _ ea);exact PySem.W.kia_one PySem.W.kitx_list I.cZ #[_,h1,rfl] e (λz=>nomatch z) h
 | @tI a ob xs ea=>
  cases(show u=Value.ref a from rx);let⟨d,f,g,n,j,h1⟩:=(show cp X.prog X.w H s.heap a^.tI ob^.lst xs from I.hok a _ ea);exact PySem.W.kia_one PySem.W.kitx_list I.cZ #[_,h1,rfl] e (λz=>nomatch z) h
 | @tup a xs ea=>
  cases(show u=Value.ref a from rx);let⟨d,f,g,p⟩:=(show cp X.prog X.w H s.heap a^.tup xs from I.hok a _ ea);let⟨o,h1,h2,d⟩:=p;exact PySem.W.kia_one PySem.W.kitx_tuple I.cZ #[o,h1,h2] e (λz=>nomatch z) h
 | @dK a fU ea=>
  cases(show u=Value.ref a from rx);let⟨d,f,vs,g,p⟩:=(show cp X.prog X.w H s.heap a^.dK fU from I.hok a _ ea);let⟨o,es,ep,h1,h2,d⟩:=p;exact PySem.W.kia_one PySem.W.kitx_dict I.cZ #[o,h1,h2.1] e (λz=>nomatch z) h
 | @dT a fU ea=>
  cases(show u=Value.ref a from rx);let⟨d,f,xs,g,o,es,ep,h1,h2,j⟩:=(show cp X.prog X.w H s.heap a^.dT fU from I.hok a _ ea);exact PySem.W.kia_one PySem.W.kitx_dict I.cZ #[o,h1,h2.1] e (λz=>nomatch z) h
 | @ins a C dx fs ea cl ha hn htk hm=>
  rfl';cases(show u=Value.ref a from rx);let⟨mA,O,d⟩:=uS I.hok ea;let⟨od,J,d⟩:=O.look;ac_rfl;exact PySem.W.kia_one (PySem.W.kitx_own (cl.get _) cl.hd ha hn htk hm) I.cZ J e (λz=>nomatch z) h
end
structure bU (k:Nat) (A:Around):Prop where
 hd:A.handled=none
 dp:A.depth+3*k+5<recursionLimit
 un:A.units+16*k+200<cLine
def bU.mono(r:bU k A)(h:j<=k):bU j A:=#[r.hd,by have:=r.dp;lia,by have:=r.un;lia]
theorem bU.deeper(r:bU (k+1) A)(env:lE):bU k^A.deeper env:=
 #[r.hd,by have:=r.dp;show A.depth+1+3*k+5<_;lia,by have:=r.un;show A.units+3+16*k+200<_;lia]
def HQ{A:f7}:(A.under^.builtin "type.__call__" #[.ref C::a,b]).depth=A.depth+1:=by
 first|rfl|simp[Around.under,Code.weight,Code.isCreation,Code.isGuard,Code.isCaller,Code.frames,Code.isFrame,guardIds]
def HR{A:f7}:(A.under^.builtin "type.__call__" #[.ref C::a,b]).units=A.units+1:=by
 first|rfl|simp[Around.under,Code.cUnits,Code.frames,Code.isFrame]
def bU.make(r:bU (k+1) A)(C:Addr)(a:List b_)(b:List (ee×b_)):bU k^A.under^.builtin "type.__call__" #[.ref C::a,b]:=
 #[r.hd,by have:=r.dp;rw[HQ];lia,by have:=r.un;rw[HR];lia]
theorem bU.depth{k:Nat}(r:bU k A):A.depth<recursionLimit:=by have:=r.dp;lia
theorem bU.units{k:Nat}(r:bU k A):A.units+64<cLine:=by have:=r.un;lia
def Xg:TA:=λ_ H Q=>Q [] H
def Z1(b:TE)(tr:TA):TA:=λa H Q=>b a H λx c=>tr a c λd e=>Q (x::d) e
section
variable {X:Cx} {e:Expr} {es:List Expr} {te:TE} {t:TA} {pos:Pos}
def az:PA X [] Xg:=λ_ _ _ _ H Q I h=>Calls.spliced_nil #[[],H,I, .nil,h]
def ao(d:PE X e te)(f:PA X es t)(g:d4 (e::es) X.env=(false,fC e X.env)::d4 es X.env<|>zn):PA X (e::es)^Z1 te t:=by
 intro b a s c H Q I h;rw[g];show d7 _ _ (spliced ((false,fC e X.env)::f8 b^d4 es X.env)) _ _ s;refine Calls.spliced_cons (thn (d a s c H _ I h) λu i j=>?_);rfl';let⟨x,l,m,n,o⟩:=j;ac_rfl;exact thn (f b a i c l _ m o) λA B #[p,q,r,v,w]=>#[x::p,q,r, .cons n v,w]
def ace(t:TA):TE:=λc H Q=>t c H λa b=>a.length<=sizeLine/\∀p,b p=none->Q (.ref p)^upd b p^.tup a
def ab9(t:TA):TE:=λc H Q=>t c H λa b=>a.length<=sizeLine/\∀p,b p=none->Q (.ref p)^upd b p^.lst a
def vG{x1}(h:PA X es t):PE X (.Tuple es x1 pos)^ace t:=by
 intro a s g H Q I i;refine wpAny_Tuple_spliced (thn (h pos a s g H _ I i) λj c #[k,d,f,r,z,q]=>#[r.length▸z,?_]);have l:d c.heap.objs.size=none:=f.hok.fresh^bh _;refine#[.ref c.heap.objs.size,upd d c.heap.objs.size^.tup k,f.laid (t':=c.toks) (λb u e=>AC _ e) (bh _) ?_,rfl,q _ l];exact#[z,j,r,#[_,GM _ rfl,rfl,_,rfl]]
def fS(h:PA X es t):PE X (.List es pos)^ab9 t:=by
 intro a s g H Q I i;refine wpAny_List_spliced (thn (h pos a s g H _ I i) λj c #[k,d,f,r,z,q]=>#[r.length▸z,?_]);have l:d c.heap.objs.size=none:=f.hok.fresh^bh _;refine#[.ref c.heap.objs.size,upd d c.heap.objs.size^.lst k,f.laid (t':=c.toks) (λb u e=>AC _ e) (bh _) ?_,rfl,q _ l];exact#[z,j,0,r,GM _ rfl]
end
abbrev Sp:=List V->Hp->VK->XK->Prop
abbrev pP:=List Env->Hp->Shared->XK->Value->Shared->Prop
structure Env0 (P:Program) (w:World) (K:ad) (mg:Str->Option Value) (base:Heap) (A:Around) (outer:List Env) (s:Shared) (H:Hp):Prop where
 frames:A.frames\outer
 mod:Mod K mg base
 bs:∀b o,base.get? b\o->s.heap.get? b\o/\H b=none
 bsz:base.objs.size<=s.heap.objs.size
 funs:s.heap.FunFrames base outer
 frf:∀b∈uK outer,H b=none
 hok:ik P w H s.heap
 bare:AllBare s.gens
def CE(outer:List Env)(P:Program)(w:World)(H:Hp)(s:Shared)(Q:VK)(u:Value)(a:Shared):Prop:=
 ∃v b,a.os=s.os/\AllBare a.gens/\Un (uK outer) [] H b s.heap a.heap/\ik P w b a.heap/\RelV v u/\Q v b
def CR(b:pP)(outer:List lE)(P:ec)(w:ei)(H:Hp)(s:c_)(Q:VK)(E:XK)(r:k_)(a:c_):Prop:=
 match r with
 | .ok^.ret u=>CE outer P w H s Q u a
 | .ok _=>False
 | .error e=>b outer H s E e a
structure FnOk (P:ec) (w:ei) (K:ad) (mg:ee->Option b_) (base:Heap) (CX:pP) (k:Nat) (f:Addr) (fd:gi) (ps:List ee) (sp:Sp):Prop where
 len:∀vs H Q E,sp vs H Q E->vs.length=ps.length
 run:∀(A:f7)(outer:List lE)(s:c_)(H:Hp)(args:Args)(us:List b_)(vs:List V)(Q:VK)(E:XK),bU k A->Env0 P w K mg base A outer s H->BindsTo s fd args^ps.zip us->Vals vs us->sp vs H Q E->
  gl (d5 P w) A (.call (.ref f) args) (CR CX outer P w H s Q E) s
theorem FnOk.mono{P:ec}{w:ei}{K:ad}{b:ee->Option b_}{base:Heap}(F:FnOk P w K b base c j f d ps e)(h:j<=k):
  FnOk P w K b base c k f d ps e:=#[F.len,λA outer s H a g i Q E l=>F.run A outer s H a g i Q E^l.mono h]
def FnOk.imp{P:ec}{w:ei}{K:ad}{base:Heap}{d:pP}{f:Addr}{g i:Sp}(F:FnOk P w K c base d k f e ps g)
  (h:∀a H Q E,i a H Q E->g a H Q E):FnOk P w K c base d k f e ps i:=
 #[λa H Q E q=>F.len a H Q E^h _ _ _ _ q,λA outer s H b j a Q E l m n o p=>F.run A outer s H b j a Q E l m n o^h _ _ _ _ p]
def Env0.make{P:ec}{w:ei}{K:ad}{a:ee->Option b_}{base:Heap}{A:f7}{outer:List lE}{s:c_}{H:Hp}(e:Env0 P w K a base A outer s H)(C:Addr)(b:List b_)(c:List (ee×b_)):
  Env0 P w K a base (A.under^.builtin "type.__call__" #[.ref C::b,c]) outer s H:=#[by first|exact e.frames| (simpa [Around.under,Code.envs,Code.isFrame,pushEnvs] using e.frames),e.mod,e.bs,e.bsz,e.funs,e.frf,e.hok,e.bare]
section
variable {X:Cx} {pins:List (Addr×Obj)} {σ:St} {H:Hp} {s s':Shared}
def Inv.Hh(I:Inv X pins σ H s):Env0 X.prog X.w X.K X.mg X.base X.A X.stack s H:=
 #[I.ok.frames,I.ok.mod,I.bs,jj I.ok.bsz I.sz,I.stack,I.Bw,I.hok,I.bare]
def Inv.after(I:Inv X pins σ H s)(h:CE X.stack X.prog X.w H s Q u s'):EP X pins σ Q u s':=by
 let⟨v,c,os,bare,un,hok,r,q⟩:=h;let⟨e,g,d,t,a⟩:=s';obtain rfl:a=s.os:=os;exact#[v,c,I.call (h':=e) (g':=g) (d':=d) (t':=t) (ch:= []) un hok bare^λb z=>absurd z^by simp,r,q]
end
def Z0(a:Sp)(b:List V)(E:XK)(t:TA):TE:=λc H Q=>t c H λd e=>a (d++b) e Q E
def Lj(C:Addr)(m:Str)(d:Sp)(e:List V)(E:XK)(f:TE)(t:TA):TE:=λb H Q=>f b H λx c=>∃a g fs,x= .ref a/\c a\(.ins C g fs)/\fs.lookup m=none/\
 t b c λh i=>d (x::(h++e)) i Q E
def Z4(C:Addr)(c:Sp)(d:List V)(E:XK)(t:TA):TE:=λe H Q=>t e H λf b=>∀x a,b x=none->b a=none->a≠x->
 c (.ref x::(f++d)) (upd (upd b a^.own x) x^.ins C a []) (λv g=>v= .aQ/\Q (.ref x) g) E
def Binds(K:ad)(d:gi)(b:List ee)(c:List b_):Prop:=
 ∀(s:c_)(a:List b_),K.In s.heap->(a++c).length=b.length->BindsTo s d #[a,[]]^b.zip (a++c)
def Binds.all{K:ad}{c:gi}{b:List ee}(h:∀a:List b_,a.length=b.length->lf c #[a,[]]=pure^b.zip a):Binds K c b []:=λs a _ d=>by
 rw[ft] at d ⊢;exact .of_eq^h a d
def Passes(c:pP)(X:Cx)(E:XK):Prop:=∀(a:List (Addr×Obj))(d:St)(H:Hp)(s:Shared)(e:Value)(b:Shared),Inv X a d H s->c X.stack H s E e b->X.xe e b
section
variable {X:Cx} {CX:pP} {k:Nat} {f C:Addr} {fd:FuncData} {ps:List Str} {sp:Sp} {bH:List V} {ds:List Value} {E:XK} {x m:Str} {p pos apos:Pos} {e o:Expr} {es:List Expr} {ta:TE} {t:TA}
theorem FL{pins:List (Addr×Obj)}{σ:St}{H:Hp}{s:Shared}{Q:VK}{us:List Value}{vs:List V}(F:FnOk X.prog X.w X.K X.mg X.base CX k f fd ps sp)(hr:bU k X.A)(hb:Binds X.K fd ps ds)(hd:Vals bH ds)(hx:Passes CX X E)
  (I:Inv X pins σ H s) (r:Vals vs us) (h:sp (vs++bH) H Q E):wpAny (model X.prog X.w) X.A (call (.ref f) us) (EP X pins σ Q) X.xe s:=by
 have r2:Vals (vs++bH) (us++ds):=r.append hd;have hl:(us++ds).length=ps.length:=by rw[<-r2.length];exact F.len _ _ _ _ h
 refine wpAny_call (codeAny_mono (F.run X.A X.stack s H #[us,[]] (us++ds) (vs++bH) Q E hr I.Hh (hb s us I.cZ hl) r2 h) λr s' hq=>?_);cases r with
 |error e=>exact hx pins σ H s e s' I hq
 |ok fl=>
  cases fl with
  |ret u=>exact I.after hq
  |next=>exact False.elim hq
  |brk=>exact False.elim hq
  |cont=>exact False.elim hq
def bK(F:FnOk X.prog X.w X.K X.mg X.base CX k f fd ps sp)(c:bU k X.A)(d:Gl X x)(g:X.mg x\(.ref f))(i:am X.K^.ref f=true)(j:Binds X.K fd ps ds)(l:Vals bH ds)(n:Passes CX X E)
  (u:PA X (e::es) t) (v:(x==("__debug__":ee))=false<|>zm) (y:d4 (e::es) X.env=(false,fC e X.env)::d4 es X.env<|>zn) (B:(f8 pos^d4 es X.env).any (·.1)=false<|>zn):
  PE X (.Call (.Name x p) (e::es) [] pos)^Z0 sp bH E t:=by
 intro a s G H Q I h;refine UV^hU I d g ?_ v;refine ac0 (h₀:=X.base) I.ok.mod.kin i (thn (u pos a s G H _ I h) λJ L #[M,N,b,r,q]=>#[b.cZ,?_]) y B;exact FL F c j l n b r q
def RZ{pl:j9 Bool}(v:PE X o ta)(c:zO X.K C)(d:Meth X.K C m f)(F:FnOk X.prog X.w X.K X.mg X.base CX k f fd ps sp)(y:bU k X.A)(B:Binds X.K fd ps ds)(G:Vals bH ds)(J:Passes CX X E)(L:PA X (e::es) t)
  (M:d4 (e::es) X.env=(false,fC e X.env)::d4 es X.env<|>zn) (N:(f8 pos^d4 es X.env).any (·.1)=false<|>zn)
  (O:fC (.Call (.Attribute o m apos) (e::es) [] pos) X.env=(do
   let g <-fC o X.env
   im apos.atName
   let (f,first) <-hB [g] (ku g m pl)
   callWith pos f first (f8 pos^d4 (e::es) X.env)^il pos^g_ [] X.env)<|>zn):
  PE X (.Call (.Attribute o m apos) (e::es) [] pos)^Lj C m sp bH E ta t:=by
 intro b s i H Q I h;refine ad1 (pl:=pl) (thn (v b s i H _ I h) λu P #[x,R,j,S,a,p,fs,T,Y,l,q]=>?_) O;subst T;obtain rfl:u=Value.ref a:=S;refine yw j Y c d l ?_;refine ac0 (first:= [.ref a]) (h₀:=X.base) I.ok.mod.kin d.kp (thn (L pos b P i R _ j q) λus s2 #[vs,H2,n,r,Z]=>#[n.cZ,?_]) M N;exact FL (us:= .ref a::us) (vs:= .ref a::vs) F y B G J n (.cons rfl r) Z
def Oq{pl:j9 Bool}(j:PE X o ta)(c:zO X.K C)(g:Meth X.K C m f)(F:FnOk X.prog X.w X.K X.mg X.base CX k f fd ps sp)(n:bU k X.A)(r:Binds X.K fd ps ds)(v:Vals bH ds)(y:Passes CX X E)
  (B:fC (.Call (.Attribute o m apos) [] [] pos) X.env=(do
   let i <-fC o X.env
   im apos.atName
   let (f,first) <-hB [i] (ku i m pl)
   callWith pos f first (f8 pos^d4 [] X.env)^il pos^g_ [] X.env)<|>zn):
  PE X (.Call (.Attribute o m apos) [] [] pos)^Lj C m sp bH E ta Xg:=by
 intro b s G H Q I h;refine ad1 (pl:=pl) (thn (j b s G H _ I h) λu N #[x,O,d,J,a,P,fs,L,M,l,q]=>?_) B;subst L;obtain rfl:u=Value.ref a:=J;refine yw d M c g l ?_;exact PySem.W.callWith_K0 (first:= [.ref a]) d.cZ g.kp^FL (us:= [.ref a]) (vs:= [.ref a]) F n r v y d (.cons rfl .nil) q
structure Mk (K:ad) (C f:Addr):Prop where
 makes:df K C=true
 init:aj K (.ref C) "__init__"\(some^.ref f)
 fn:bT K^.ref f=true
 kp:am K^.ref C=true
theorem OF{pins:List (Addr×Obj)}{σ:St}{H:Hp}{s:c_}{Q:VK}{us:List b_}{vs:List V}(M:Mk X.K C f)(F:FnOk X.prog X.w X.K X.mg X.base CX k f fd ps sp)(hr:bU (k+1) X.A)(hb:Binds X.K fd ps ds)(hd:Vals bH ds)
  (hx:Passes CX X E) (I:Inv X pins σ H s) (r:Vals vs us)
  (h:∀x dx,H x=none->H dx=none->dx≠x->sp (.ref x::(vs++bH)) (upd (upd H dx^.own x) x^.ins C dx []) (λv H2=>v= .aQ/\Q (.ref x) H2) E):
  d7 (d5 X.prog X.w) X.A (call (.ref C) us) (EP X pins σ Q) X.xe s:=by
 have hq:=h (s.heap.objs.size+1) s.heap.objs.size (I.hok.fresh^lM _) (I.hok.fresh^bh _)^bL^BO _;have I2:=Inv.made (C:=C) I;have r2:Vals (V.ref (s.heap.objs.size+1)::(vs++bH)) (Value.ref (s.heap.objs.size+1)::(us++ds)):= .cons rfl^r.append hd
 have hl:(Value.ref (s.heap.objs.size+1)::us++ds).length=ps.length:=by
  have e:=r2.length;rw[F.len _ _ _ _ hq] at e;exact e.symm
 refine ja^DP (f:=f) I.cZ M.makes M.init (beq_iff_eq.mp M.fn) (jk (F.run _ X.stack _ _ #[Value.ref (s.heap.objs.size+1)::us,[]] (Value.ref (s.heap.objs.size+1)::(us++ds)) _ _ E (hr.make C us [])
  (I2.Hh.make C us []) (hb _ (Value.ref (s.heap.objs.size+1)::us) I2.cZ hl) r2 hq) λr s' n0=>?_)
 cases r with
 |error e=>exact hx pins σ _ _ e s' I2 n0
 |ok fl=>
  cases fl with
  |ret u=>
   rfl';let⟨v,H',I3,rv,ev,q3⟩:=I2.after n0;subst ev;ac_rfl;exact#[rv,#[V.ref (s.heap.objs.size+1),H',I3,rfl,q3]]
  |next=>exact False.elim n0
  |brk=>exact False.elim n0
  |cont=>exact False.elim n0
def RY(M:Mk X.K C f)(F:FnOk X.prog X.w X.K X.mg X.base CX k f fd ps sp)(c:bU (k+1) X.A)(d:Gl X x)(g:X.mg x\(.ref C))(i:Binds X.K fd ps ds)(j:Vals bH ds)(l:Passes CX X E)
  (n:PA X (e::es) t) (u:(x==("__debug__":ee))=false<|>zm) (v:d4 (e::es) X.env=(false,fC e X.env)::d4 es X.env<|>zn) (y:(f8 pos^d4 es X.env).any (·.1)=false<|>zn):
  PE X (.Call (.Name x p) (e::es) [] pos)^Z4 C sp bH E t:=by
 intro a s B H Q I h;refine UV^hU I d g ?_ u;refine ac0 (h₀:=X.base) I.ok.mod.kin M.kp (thn (n pos a s B H _ I h) λG J #[L,N,b,r,q]=>#[b.cZ,?_]) v y;exact OF M F c i j l b r q
end
section
variable {X:Cx} {CX:pP} {k:Nat} {f C:Addr} {fd:FuncData} {ps ks:List Str} {sp:Sp} {E:XK} {x m:Str} {p pos apos acH:Pos} {e o:Expr} {es:List Expr} {kws:List Keyword} {te ta:TE} {t tk:TA} {nm:Option Str}
variable {g:List Value->List Value->List Value} {gV:List V->List V->List V}
end
structure aE (N P:List Str) (sc:Scope):Prop where
 kind:sc.kind= .function
 co:sc.isCoroutine=false
 gen:sc.isGenerator=false
 nd:N.Nodup
 pre:N.take P.length=P
 par:∀x∈P,sc.names.lookup x\.local\/sc.names.lookup x\.cell
 nofree:∀y∈sc.names,y.2≠ .free
theorem zY{kindOf:ee->Option ix}{x:ee}:∀{binds:List (ee×b_)}{m:ee->Option b_},(∀v,(x,v)∉binds)->bindL kindOf binds m x=m x
 | [],_,_=>rfl
 | (n,v)::r,m,h=>by
  unfold bindL;rw[zY λw hw=>h w^dY _ hw]
  split
  .have:x≠n:=by rintro rfl;exact h v c5
   simp[this]
  .rfl
theorem zW{kindOf:ee->Option ix}{x:ee}:∀{binds:List (ee×b_)}{m:ee->Option b_},(∀v,(x,v)∉binds)->bindC kindOf binds m x=m x
 | [],_,_=>rfl
 | (n,v)::r,m,h=>by
  unfold bindC;rw[zW λw hw=>h w^dY _ hw]
  split
  .rfl
  .have:x≠n:=by rintro rfl;exact h v c5
   simp[this]
theorem zX{kindOf:Str->Option NameKind}{x:Str}{v:Value}:∀{P:List Str}{a:List Value}{i:Nat}{m:Str->Option Value},P.Nodup->P[i]?\x->a[i]?\v->kindOf x\.local->
  bindL kindOf (P.zip a) m x\v
 | [],_,_,_,_,h,_,_=>by simp at h
 |_::_,[],_,_,_,_,h,_=>by simp at h
 |p::P,w::a,0,m,d,b,c,e=>by
  simp at b c;subst b;subst c;show bindL kindOf ((p,w)::P.zip a) m p=_;unfold bindL;rw[zY λv f=>(lK.mp d).1 (afa f).1,mo e];simp
 |p::P,w::a,i+1,m,d,b,c,e=>by
  show bindL kindOf ((p,w)::P.zip a) m x=_;unfold bindL;exact zX (i:=i) (lK.mp d).2 (~~~b) (~~~c) e
theorem zV{kindOf:Str->Option NameKind}{x:Str}{v:Value}:∀{P:List Str}{a:List Value}{i:Nat}{m:Str->Option Value},P.Nodup->P[i]?\x->a[i]?\v->kindOf x≠some .local->
  bindC kindOf (P.zip a) m x\v
 | [],_,_,_,_,h,_,_=>by simp at h
 |_::_,[],_,_,_,_,h,_=>by simp at h
 |p::P,w::a,0,m,d,b,c,e=>by
  simp at b c;subst b;subst c;show bindC kindOf ((p,w)::P.zip a) m p=_;unfold bindC;rw[zW λv f=>(lK.mp d).1 (afa f).1,tz e];simp
 |p::P,w::a,i+1,m,d,b,c,e=>by
  show bindC kindOf ((p,w)::P.zip a) m x=_;unfold bindC;exact zV (i:=i) (lK.mp d).2 (~~~b) (~~~c) e
noncomputable def start(N:List Str)(a:List V):St:=a.map some++cb (N.length-a.length) none
noncomputable def kU(g:pP)(P:ec)(w:ei)(K:ad)(mg:ee->Option b_)(base:Heap)(N:List ee)(b:ee)(a:Scope)(f:Addr)(c:b_)(A:f7)(outer:List lE)(s:c_)(H:Hp)(E:XK):Cx where
 prog:=P
 w:=w
 K:=K
 mg:=mg
 base:=base
 A:=A.deeper (jT b a s.heap.objs.size f c)
 N:=N
 s₀:=s
 H₀:=H
 env:=jT b a s.heap.objs.size f c
 outer:=outer
 stack:=jT b a s.heap.objs.size f c::outer
 ex:= []
 calm:=true
 fn:=λ_=>true
 pn:= []
 xe:=λe h=>d7 (d5 P w) (A.deeper^jT b a s.heap.objs.size f c) (leaving (jT b a s.heap.objs.size f c) e) (λ_ d=>g outer H s E e d) (λi d=>g outer H s E i d) h
def CV{a:Scope}{n:Nat}(h:a.names.lookup x\.cell):∃c,(cellsFrom n a.names []).lookup x\c:=by
 have q:=aff a.names n []^.inl h;exact Option.isSome_iff_exists.mp q
theorem Ki{O:pP}{P:ec}{w:ei}{K:ad}{J:ee->Option b_}{base:Heap}{N m:List ee}{g:ee}{d:Scope}{f:Addr}{F:b_}{A:f7}{outer:List lE}{s Q:c_}{H:Hp}{E:XK}{L:List b_}{o:List V}
  (S:aE N m d) (X:A.handled=none) (l:Env0 P w K J base A outer s H) (hl:o.length=m.length) (r:Vals o L)
  (x:InCallC s s.heap.objs.size (bindL (jT g d s.heap.objs.size f F).kindOf (m.zip L) λ_=>none) (cellsFrom (s.heap.objs.size+1) d.names []) (bindC (jT g d s.heap.objs.size f F).kindOf (m.zip L) λ_=>none) Q):
  Inv (kU O P w K J base N g d f F A outer s H E) [] (start N o) H Q:=by
 have bV:m.length<=N.length:=by have:=KF dz S.pre;rw[ji] at this;lia
 let⟨G,tk,rfl,R⟩:=x.done;have M:∀b:Addr,b∉(kU O P w K J base N g d f F A outer s H E).ex:=λb z=>absurd (show b∈([]:List Addr) from z)^by simp
 refine#[#[l.mod,S.kind,rfl,rfl,bh _,λy z c G j=>?_,λy t=>?_,λy c _ h=>?_,λ_=>X,Around.frames_deeper l.frames, .inr #[rfl,rfl],λb z=>absurd z^M b,l.bs,l.bsz,λb _ _=>M b,λb z=>absurd z^M b,l.funs,l.frf],
  rfl,l.bare,Un.kept R,#[_,x.toInCall.ns,λi y v G j h3=>?_],λy c h=>#[_,x.cell y c h],l.hok.fresh^bh _,λy c h=>?_,λp B=>absurd (show p∈([]:List (Addr×Obj)) from B)^by simp,l.hok.kept R,?_]
 .exact name_of_addr x.apart (ac3 G)^ac3 j
 .have t:d.names.lookup y\.cell\/d.names.lookup y\.free:=t
  rcases t with t|t
  .exact CV t
  .exact absurd rfl^S.nofree _^ac3 t
 .exact qT^x.above y c^ac3 h
 .have I:i<o.length:=by
   unfold start at j
   by_cases I:i<o.length
   .exact I
   .rw[lF^~~~I] at j
    rw[yU] at j
    split at j<;>cases j
  have Y:o[i]?\v:=by
   unfold start at j;rw[i5^~~~I,fm] at j
   cases e:o[i]? with
   |none=>rw[e] at j;cases j
   |some a=>rw[e] at j;cases j;rfl
  let⟨u,T,Z⟩:=r.get Y
  have B:m[i]?\y:=by
   rw[<-S.pre,Gk ()];exact G
  have C:m.Nodup:=by rw[<-S.pre];exact S.nd.sublist^List.take_sublist _ _
  exists u,Z
  rcases S.par y^cR B with k|k
  .exact .inl #[k,zX C B T k]
  .obtain⟨c,e⟩:=CV (n:=s.heap.objs.size+1) k
   refine .inr #[.inl k,c,e,?_];have q:=x.cell y c e;rw[zV C B T^by show d.names.lookup y≠_;rw[k];decide] at q
   exact q
 .exact l.hok.fresh^qT^x.above y c^ac3 h
 .unfold start
  show _=N.length;rw[eF,aI,yW];lia
theorem Qd{C:pP}{P:ec}{w:ei}{K:ad}{F:ee->Option b_}{base:Heap}{k:Nat}{f:Addr}{i c:ee}{d:Arguments}{g:List Stmt}{a:Scope}{Y kV p Z l ct oc:b_}{an od:Option Addr}
  {FE:Array^Option b_} {N G:List ee} {M:Sp} (lk:K.lookup f\#[oc,od, .func^b5 i c d g a Y kV p Z an l ct,FE]) (iz:bj K l c=true) (S:aE N G a)
  (len:∀h H Q E,M h H Q E->h.length=G.length)
  (kX:∀(A:f7)(outer:List lE)(s:c_)(H:Hp)(h:List V)(Q:VK)(E:XK),bU k^A.deeper^jT c a s.heap.objs.size f l->M h H Q E->
   ∃t,jX (kU C P w K F base N c a f l A outer s H E) g t/\t {nx:=λ_ j=>Q .aQ j,rt:=Q} (start N h) H):
  FnOk P w K F base C (k+1) f (b5 i c d g a Y kV p Z an l ct) G M:=by
 refine#[len,λA outer s H args us h Q E O B hb r Ct=>?_];have hl:=len _ _ _ _ Ct;have KX:K.In s.heap:=B.mod.kin.keeps λb o e=>(B.bs b o e).1;have R:s.heap.NoLimit:=B.mod.nolimit.keeps λb o e=>(B.bs b o e).1
 have YH:∀y∈G.zip us,a.names.lookup y.1\.local\/(a.names.lookup y.1\.cell/\((cellsFrom (s.heap.objs.size+1) a.names []).lookup y.1).isSome=true):=λ#[n,v] hy=>by
  rcases S.par n (afa hy).1 with q|q
  .exact .inl q
  .exact .inr #[q,aff _ _ _^.inl q]
 refine codeAny_call_function O.depth (KX _ _ lk) rfl S.co S.gen rfl (PySem.W.codeRec_of KX iz)^hb _ _ _ _ ?_;refine wpAny_newFunctionEnv_cells S.kind YH λenv he s1 x=>?_;subst he;let⟨t,ht,hq⟩:=kX A outer s H h Q E (O.deeper _) Ct;refine#[R.keeps x.toInCall.keep,codeAny_func ?_];have I:Inv (kU C P w K F base N c a f l A outer s H E) [] (start N h) H s1:=Ki S O.hd B hl r x;refine gv (ht [] s1 (start N h) H _ I hq) (λfl T m=>?_) λe T m=>m
 have fin:∀{L:St}{j:Hp}{v:V}{u:b_},Inv (kU C P w K F base N c a f l A outer s H E) [] L j T->RelV v u->Q v j->CE outer P w H s Q u T:=
  λ {L j v u} J X q=>#[v,j,J.os,J.bare,J.base,J.hok,X,q]
 cases fl with
 |ret u=>
  let⟨v,L,j,J,X,q⟩:=m;exact fin J X q
 |next=>
  let⟨L,j,J,q⟩:=m;exact fin (v:=V.aQ) (u:=Value.none) J rfl q
 |brk=>
  let⟨z,D,U,q⟩:=m;exact False.elim q
 |cont=>
  let⟨z,D,U,q⟩:=m;exact False.elim q
section
variable {X:Cx} {x:Str} {p pos:Pos} {e:Expr} {es:List Expr} {t:TA} {id T:String} {r:List V->Hp->VK->Prop}
def tCB(r:List V->Hp->VK->Prop)(t:TA):TE:=λa H Q=>t a H λb c=>r b c Q
theorem cU(c:CallR X (.builtin id) r)(d:Gl X x)(f:X.mg x=none)(g:f_ x\(.builtin id))(i:PA X (e::es) t)(j:x≠"__name__"<|>zm)(k:(x==("__debug__":ee))=false<|>zm)
  (l:d4 (e::es) X.env=(false,fC e X.env)::d4 es X.env<|>zn) (m:(f8 pos^d4 es X.env).any (·.1)=false<|>zn):PE X (.Call (.Name x p) (e::es) [] pos)^tCB r t:=by
 intro a s b H Q I h;refine UV^kA I d f g ?_ j k;exact aeb (thn (i pos a s b H _ I h) λn o #[q,u,v,w,y]=>c a o b u q n Q v w y) l m
def tT(c:CallR X (.type T) r)(d:Gl X x)(f:X.mg x=none)(g:f_ x\(.type T))(i:PA X (e::es) t)(j:x≠"__name__"<|>zm)(k:(x==("__debug__":ee))=false<|>zm)
  (l:d4 (e::es) X.env=(false,fC e X.env)::d4 es X.env<|>zn) (m:(f8 pos^d4 es X.env).any (·.1)=false<|>zn):PE X (.Call (.Name x p) (e::es) [] pos)^tCB r t:=by
 intro a s b H Q I h;refine UV^kA I d f g ?_ j k;exact Wp (thn (i pos a s b H _ I h) λn o #[q,u,v,w,y]=>c a o b u q n Q v w y) l m
end
end L2
namespace HT
open PySem PyProof.Rows
noncomputable def lexLt:List Int->List Int->Bool
 | [],[]=>false
 | [],_::_=>true
 |_::_,[]=>false
 |x::a,y::b=>if x=y then lexLt a b else decide (x<y)
def iK(x y:Int)(a b:List Int):lexLt (x::a) (y::b)=if x=y then lexLt a b else decide (x<y):=rfl
def AH:lexLt [] []=false:=rfl
def zl(y:Int)(a:List Int):lexLt [] (y::a)=true:=rfl
def zk(x:Int)(a:List Int):lexLt (x::a) []=false:=rfl
def Nv(A:Around)(s:Shared)(a:Int)(t:Tok)(c:Int)(u:Tok):∃e,SeqAt.EqAt A s (.int a t) (.int c u) e/\(e=true↔a=c):=
 #[(a==c),adA a t c u,by simp]
def D3(A:f7)(s:c_)(a:Int)(t:Tok)(c:Int)(u:Tok)(prog:ec)(w:ei)(E:b_->c_->Prop)(Q:b_->c_->Prop)(h:Q (.bool (decide (a<c))) s):
  d7 (d5 prog w) A (richCompare .Lt (.int a t)^.int c u) Q E s:=
 (PyProof.Rows.lt_int h:d7 (d5 prog w) A (fz .Lt (.int a t)^.int c u) Q E s)
section
open PySem.SeqAt
open PySem.AutoSeq1 (wpAny_loadPart')
open PySem.MeetsSeq PySem.MeetsSeq2 PySem.MeetsSeq3
end
section
variable {prog:Program} {w:World} {A:Around} {E:Value->Shared->Prop} {s:Shared}
theorem Po(r:IsTup s.heap t c.toArray)(u:IsTup s.heap b a.toArray)(h:c≠ [])
  (v:a= []->Q (.ref t) s) (x:a≠ []->Q (.ref s.heap.objs.size) {s with heap:=s.heap.push {cls:= .type "tuple",data:= .seq (c++a).toArray}})
  (y:c.length+a.length<=sizeLine):d7 (d5 prog w) A (ii .Add (.ref t)^.ref b) Q E s:=by
 rfl';obtain⟨⟨cls,i,data,j⟩,f,k,n,l⟩:=id r;obtain⟨⟨C,m,data2,o⟩,g,p,q,d⟩:=id u;ac_rfl;simp only at k l p d;subst k l p d;have e:c.toArray++a.toArray=(c++a).toArray:=by simp
 by_cases hw:a= []
 .exact concat_meets #[_,f,rfl] #[_,g,rfl] noFill_tuple_add seq_tuple_add afg ae7 (aeV _ _)
   (tuple_addW1 t b c.toArray a.toArray n q i m j o (~~~h)^by simp[hw]) #[f,g,v hw]
 .refine concat_meets #[_,f,rfl] #[_,g,rfl] noFill_tuple_add seq_tuple_add afg ae7 (aeV _ _)
   (tuple_addW2 t b c.toArray a.toArray n q i m j o (~~~h) (~~~hw)^by rw[cn,cn];exact y) #[f,g,?_]
  rw[e];exact x hw
noncomputable def bX(n d:Nat):Option Int->Nat
 |none=>d
 |some v=>if v<0 then(v+(n:Int)).toNat else min v.toNat n
def D8(n d:Nat):bX n d none=d:=rfl
def Iw(n d k:Nat):bX n d^some (k:Int)=min k n:=by
 show(if (k:Int)<0 then((k:Int)+(n:Int)).toNat else min (k:Int).toNat n)=min k n;rw[tz (),nJ]
def VE(n d:Nat)(b:d<=n)(o:Option Int):bX n d o<=n:=by
 cases o with
 |none=>exact b
 |some v=>
  show(if v<0 then(v+(n:Int)).toNat else min v.toNat n)<=n
  by_cases a:v<0
  .rw[mo a];lia
  .rw[tz a];exact Nat.min_le_right _ _
def GQ(v:Int)(n d:Nat):(if v<0 then max (v+(n:Int)) 0 else min v (n:Int))=((bX n d^some v:Nat):Int):=by
 show(if v<0 then max (v+(n:Int)) 0 else min v (n:Int))=(((if v<0 then(v+(n:Int)).toNat else min v.toNat n):Nat):Int)
 by_cases a:v<0
 .simp only[mo a];lia
 .simp only[tz a];lia
def GG(lo a:Option Int)(n:Nat):Builtin.Slice.sliceAdjust lo a 1 (n:Int)=(((bX n 0 lo:Nat):Int),((bX n n a:Nat):Int)):=by
 have b:¬((1:Int)<0):=()
 unfold Builtin.Slice.sliceAdjust;simp only[b,PP];refine acZ ?_ ?_
 .cases lo with
  |none=>rfl
  |some v=>exact GQ v n 0
 .cases a with
  |none=>rfl
  |some v=>exact GQ v n n
def Ij(i j:Nat):Builtin.Slice.slicePlaces (i:Int) (j:Int) 1=j-i:=by
 unfold Builtin.Slice.slicePlaces;have a:(1:Int)>0:=()
 simp only[a,ac4,Int.ediv_one]
 split<;>lia
def yL(p:IsPart v o)(h:Q o s):wpAny (model prog w) A (Builtin.Slice.slicePartIndex v) Q E s:=by
 cases p with
 |none=>exact slicePart_none h
 |int i t=>exact slicePart_int h
theorem vY{f:Addr}{b c:b_}{lo a:Option Int}{n:Nat}{Q:Int×Int×Nat->c_->Prop}(g:s.heap.IsSliceOf f b c .none)(pl:IsPart b lo)(i:IsPart c a)
  (h:Q (((bX n 0 lo:Nat):Int),1,bX n n a-bX n 0 lo) s):d7 (d5 prog w) A (Builtin.Slice.sliceApplied (.ref f)^pure (n:Int)) Q E s:=by
 rfl';let⟨os,d,k,e⟩:=id g;ac_rfl;unfold Builtin.Slice.sliceApplied Builtin.Slice.sliceFields;refine a_^a_^acT d e (x:=b) rfl^a_^acT d e (x:=c) rfl^a_^acT d e (x:= .none) rfl^ir ?_;refine a_^slicePart_none ?_;rw[tz ∅]
 refine a_^yL pl^a_^yL i^a_^ir ?_;show d7 _ _ (match Builtin.Slice.sliceAdjust lo a 1 (n:Int) with| (lo,a)=>pure (lo,(1:Int),Builtin.Slice.slicePlaces lo a 1)) _ _ s
 rw[GG lo a n];show d7 _ _ (pure (((bX n 0 lo:Nat):Int),(1:Int),Builtin.Slice.slicePlaces ((bX n 0 lo:Nat):Int) ((bX n n a:Nat):Int) 1)) _ _ s;rw[Ij];exact ir h
def Ow(a:Array Value)(i k:Nat):((ak k).filterMap λ(m:Nat)=>a[((i:Int)+(m:Int)*1).toNat]?).toArray=((a.toList.drop i).take k).toArray:=by
 have e:(λ(m:Nat)=>a[((i:Int)+(m:Int)*1).toNat]?)=λm=>a[i+m]? :=by
  funext m
  have:((i:Int)+(m:Int)*1).toNat=i+m:=()
  rw[this]
 rw[e]
 have:=pick_run a i k
 rw[List.filterMap_map] at this;have b:((λx=>a[x]?)∘λx=>i+x)=λm=>a[i+m]? :=rfl;rw[b] at this;rw[this]
theorem tJ{t e:Addr}{a:Array b_}{i j:b_}{lo b:Option Int}{Q:b_->c_->Prop}(c:IsTup s.heap t a)(k:s.heap.IsSliceOf e i j .none)(pl:IsPart i lo)(l:IsPart j b)
  (hw:¬(bX a.size 0 lo=0/\bX a.size a.size b=a.size))
  (h:Q (.ref s.heap.objs.size) {s with heap:=s.heap.push {cls:= .type "tuple",data:= .seq ((a.toList.drop^bX a.size 0 lo).take (bX a.size a.size b-bX a.size 0 lo)).toArray}})
  (p:a.size<=sizeLine):d7 (d5 prog w) A (getItem (.ref t)^.ref e) Q E s:=by
 have d:sizeOk^.seq ((a.toList.drop^bX a.size 0 lo).take (bX a.size a.size b-bX a.size 0 lo)).toArray:=by
  show((a.toList.drop^bX a.size 0 lo).take (bX a.size a.size b-bX a.size 0 lo)).toArray.size<=sizeLine;rw[cn,ji,pG,di];omega
 have r:bX a.size a.size b<=a.size:=VE _ _ (bh _) b;let⟨os,n,f,u⟩:=id k;have g:s.TypeIs (.ref e) "slice":=#[os,n,f];unfold getItem
 try with_reducible refine wpAny_holding ?_
 first|refine a_^f5 ?_ |skip
 refine a_^wpAny_sequenceKey c.typeIs ∅ ?_
 refine a_^wpAny_callSpecial?_slot (name:=Str.ofString "__getitem__") c.typeIs PyProof.Rows.slot_tuple_getitem
  (wpAny_call_entry PyProof.Rows.slot_tuple_getitem c.typeIs entry_tuple_getitem ?_^args_tuple_getitem _ _)
 show d7 _ _ (Builtin.Tuple.tupleItemsOf^.ref t>>=_) _ _ s;refine a_^tupleItemsOf_ c ?_;refine a_^wpAny_typeOf g ?_;rw[if_pos ∅]
 refine a_^vY k pl l ?_
 have o:¬((((bX a.size 0 lo:Nat):Int)==0&&(1:Int)==1&&(bX a.size a.size b-bX a.size 0 lo)==a.size)=true):=by
  intro q;rw[BZ,BZ] at q;have v:((bX a.size 0 lo:Nat):Int)=0:=eq_of_beq q.1.1;have x:bX a.size a.size b-bX a.size 0 lo=a.size:=eq_of_beq q.2;exact hw #[(),()]
 show d7 _ _ (if (((bX a.size 0 lo:Nat):Int)==0&&(1:Int)==1&&(bX a.size a.size b-bX a.size 0 lo)==a.size)=true then _ else _) _ _ s;rw[if_neg o,Ow]
 first
  |exact a_ (m:=Builtin.Tuple.tupleExact _)^jn (f5 #[_,rfl,f5 h]) d
  |exact a_ (m:=Builtin.Tuple.tupleExact _)^jn (a_^f5^f5 #[_,rfl,f5 h]) d
  |exact a_^a_ (m:=Builtin.Tuple.tupleExact _)^jn (f5^f5 #[_,rfl,f5 h]) d
  |exact a_^a_ (m:=Builtin.Tuple.tupleExact _)^jn (f5 #[_,rfl,f5 h]) d
end
end HT
namespace L2
open PySem PySem.Spec PyProof.Rows
abbrev TO:=St->Hp->(Option Int->Hp->Prop)->Prop
def PO(X:Cx)(e:Option Expr)(t:TO):Prop:=
 ∀(a:List (Addr×Obj))(s:Shared)(b:St)(H:Hp)(Q:Option Int->Hp->Prop),Inv X a b H s->t b H Q->
  wpAny (model X.prog X.w) X.A (evalPart e X.env) (λu d=>∃o c,Inv X a b c d/\IsPart u o/\Q o c) X.xe s
def SW:TO:=λ_ H Q=>Q none H
def Z7(t:TE):TO:=λa H Q=>t a H λx b=>∃i,x= .int i/\Q (some i) b
def intsAre_of:∀{b:List b_},Vals (a.map V.int) b->io b a:=by
 induction a with
 |nil=>intro b r;rw[xT] at r;cases r;exact .nil
 |cons n a c=>
  intro b r;rw[dR] at r;cases r with
  |cons d f=>
   let⟨t,e⟩:=d;subst e;exact .cons n t^c f
section
variable {X:Cx} {e:Expr} {te:TE} {lo hi:Option Expr} {tl th:TO} {pos p2:Pos}
def A8:PO X none SW:=by
 intro a s b H Q I h;rw[evalPart_none];exact ir #[none,H,I, .none,h]
def qr(h:PE X e te):PO X (some e)^Z7 te:=by
 intro a s b H Q I hw;rw[evalPart_some];refine thn (h a s b H _ I hw) λu l c=>?_;rfl';let⟨x,f,g,j,k⟩:=c;let⟨i,rfl,q⟩:=k;let⟨t,rfl⟩:=j;ac_rfl;exact#[some i,f,g, .int i t,q]
def Jl(X:Cx)(r:V->Option Int->Option Int->Hp->VK->Prop):Prop:=
 ∀(a:List (Addr×Obj))(s:c_)(b:St)(H:Hp)(x:V)(v c d:b_)(lo f:Option Int)(g:Addr)(Q:VK),Inv X a b H s->RelV x v->s.heap.IsSliceOf g c d .none->IsPart c lo->IsPart d f->r x lo f H Q->
  ∃T id,typeLookup (.type T) "__getitem__"=pure^some^.builtin id/\s.TypeIs v T/\d7 (d5 X.prog X.w) X.A (getItem v^.ref g) (EP X a b Q) X.xe s
def Jl.or(h:Jl X r)(m:Jl X c):Jl X (λx lo b H Q=>r x lo b H Q\/c x lo b H Q):=by
 intro a s d H x v f g lo b i Q I j k pl l q
 rcases q with q|q
 .exact h a s d H x v f g lo b i Q I j k pl l q
 .exact m a s d H x v f g lo b i Q I j k pl l q
def tSl(r:V->Option Int->Option Int->Hp->VK->Prop)(b:TE)(c d:TO):TE:=λa H Q=>b a H λx f=>c a f λl g=>d a g λu h=>r x l u h Q
theorem rG(m:Jl X r)(n:PE X e te)(o:PO X lo tl)(p:PO X hi th):PE X (.Subscript e (.Slice lo hi none p2) pos)^tSl r te tl th:=by
 intro a s d H Q I h;refine Subscript_ (thn (n a s d H _ I h) λv t f=>?_);rfl';let⟨x,y,A,B,C⟩:=f;ac_rfl;refine wpAny_Slice (thn (o a t d y _ A C) λi E #[l,F,G,pl,J]=>thn (p a E d F _ G J) λj c f=>?_);rfl';let⟨u,k,L,M,N⟩:=f;ac_rfl;rw[evalPart_none];refine ir ?_;have O:Inv X a d k {c with heap:=c.heap.push {cls:= .type "slice",data:= .fields [i,j, .none].toArray}}:=L.kept (t':=c.toks) λb Y q=>AC _ q
 let⟨T,id,P,R,S⟩:=m a {c with heap:=c.heap.push {cls:= .type "slice",data:= .fields [i,j, .none].toArray}} d k x v i j l u c.heap.objs.size Q O B (Heap.IsSliceOf.new ..) pl M N
 exact tail_any (ops:= [.ref c.heap.objs.size,v]) R P S^by with_unfolding_all rfl
noncomputable def jb(a:List V)(lo b:Option Int):List V:=(a.drop^HT.bX a.length 0 lo).take (HT.bX a.length a.length b-HT.bX a.length 0 lo)
def nP(a:List V)(lo b:Option Int):(jb a lo b).length<=a.length:=by
 unfold jb;rw[ji,pG];lia
def abQ(K:ad):V->Option Int->Option Int->Hp->VK->Prop:=λx lo c H Q=>∃a b,x= .ref a/\fM K H a b/\
 ¬(HT.bX b.length 0 lo=0/\HT.bX b.length b.length c=b.length)/\∀p,H p=none->Q (.ref p)^upd H p^.tup^jb b lo c
def VH:Jl X^abQ X.K:=by
 intro i s u H x v w y lo f A Q I l m pl n h;rfl';let⟨a,d,rfl,t,hw,q⟩:=h;subst l;let⟨g,r,j,k⟩:=I.tuple t;have c:g.toArray.size=d.length:=by rw[cn];exact r.length.symm
 ac_rfl;exists "tuple",_,ad6.lookup,j.typeIs;refine HT.tJ j m pl n (by rw[c];exact hw) ?_^by rw[c];exact k
 rw[c];refine#[.ref s.heap.objs.size,_,I.laid (t':=s.toks) (o:= .tup^jb d lo f) (λb C q=>AC _ q) (bh _) ?_,rfl,q _^I.hok.fresh^bh _];exact#[jj (nP d lo f) k,_,(r.drop^HT.bX d.length 0 lo).take (HT.bX d.length d.length f-HT.bX d.length 0 lo),IsTup.new _ _]
def ZP(K:ad):R2:=λx y H Q=>∃a b d c,x= .ref a/\y= .ref b/\fM K H a d/\fM K H b c/\d≠ []/\d.length+c.length<=sizeLine/\
 (c= []->Q (.ref a) H)/\(c≠ []->∀p,H p=none->Q (.ref p)^upd H p^.tup (d++c))
def Vals.AS(r:Vals a b):b= []↔a= []:=by
 cases r with
 |nil=>simp
 |cons _ _=>simp
def RP:OpR X (ii .Add)^ZP X.K:=by
 intro f s F H x y v u Q I i j h;rfl';let⟨a,b,l,m,rfl,rfl,n,p,r,g,t,A⟩:=h;subst i;subst j;let⟨B,d,C,e⟩:=I.tuple n;let⟨J,c,E,e⟩:=I.tuple p;ac_rfl;refine HT.Po C E (λz=>r^d.AS.mp z) (λz=>#[.ref a,H,I,rfl,t^c.AS.mp z]) (λz=>?_)^by rw[<-d.length,<-c.length];exact g
 refine#[.ref s.heap.objs.size,_,I.laid (t':=s.toks) (o:= .tup (l++m)) (λb L q=>AC _ q) (bh _) ?_,rfl,A (λw=>z^c.AS.mpr w) _^I.hok.fresh^bh _];exact#[by rw[eF];exact g,_,d.append c,IsTup.new _ _]
end
noncomputable def k4(n:Nat)(i:Int):Option Nat:=if 0<=i then(if i<n then some i.toNat else none) else if-(n:Int)<=i then some (i+n).toNat else none
noncomputable def gF{a:Type}(b:List a)(i:Int):Option a:=(k4 b.length i).bind λj=>b[j]?
def HK(h:k4 n i\j):seqIndex? i n\j/\j<n/\-(n:Int)<=i/\i<n:=by
 unfold k4 at h
 by_cases b:0<=i
 .rw[mo b] at h
  by_cases a:i<n
  .rw[mo a] at h
   have e:i.toNat=j:=Do h;exact#[by rw[seqIndex_of b a,e],(),(),a]
  .rw[tz a] at h;cases h
 .rw[tz b] at h
  by_cases a: -(n:Int)<=i
  .rw[mo a] at h
   have e:(i+n).toNat=j:=Do h;exact#[by rw[seqIndex_neg () a,e],(),a,()]
  .rw[tz a] at h;cases h
def GI(h:gF a i\v):∃j,seqIndex? i a.length\j/\a[j]?\v/\j<a.length/\-(a.length:Int)<=i/\i<a.length:=by
 unfold gF at h;cases e:k4 a.length i with
 |none=>rw[e] at h;cases h
 |some j=>
  rw[e] at h;obtain⟨c,d,f,g⟩:=HK e;exact#[j,c,h,d,f,g]
def c9{j:Nat}(h:a[j]?\v):gF a (j:Int)\v:=by
 have c:j<a.length:=(cz.mp h).1
 have e:k4 a.length (j:Int)\j:=by
  unfold k4;rw[mo (),mo ()];simp
 unfold gF;rw[e];exact h
def Nd(a:List b)(v:b):gF (a++ [v]) (-1)\v:=by
 have c:(a++ [v]).length=a.length+1:=by simp
 have e:k4 (a++ [v]).length (-1)\a.length:=by
  unfold k4;rw[c,tz ∅,mo ()]
  congr 1
  lia
 unfold gF;rw[e];show(a++ [v])[a.length]?\v;simp
def pQ(b:e_):Prop:=∀o i,subscripted b false o i=operate [o,i]^getItem o i
def zR(X:Cx)(r:R2):Prop:=
 ∀(c a:e_)(b:List (Addr×Obj))(s:c_)(d:St)(H:Hp)(x y:V)(v u:b_)(Q:VK),Inv X b d H s->RelV x v->RelV y u->r x y H Q->
  subscripted a false v u=operate [v,u]^getItem v u->d7 (d5 X.prog X.w) X.A (subscriptTail c a v u) (EP X b d Q) X.xe s
def O7(X:Cx)(id:String)(r:V->List V->Hp->VK->Prop):Prop:=
 ∀(a:List (Addr×Obj))(s:Shared)(b:St)(H:Hp)(x:V)(c:List V)(v:Value)(d:List Value)(Q:VK),Inv X a b H s->RelV x v->Vals c d->r x c H Q->
  wpAny (model X.prog X.w) X.A (call (.builtin id) (v::d)) (EP X a b Q) X.xe s
section
variable {X:Cx} {a b:Expr} {ta tb:TE} {pos:Pos}
def zR.or(h:zR X r)(l:zR X f):zR X (λx y H Q=>r x y H Q\/f x y H Q):=by
 intro c d e s g H x y v u Q I i j q k
 rcases q with q|q
 .exact h c d e s g H x y v u Q I i j q k
 .exact l c d e s g H x y v u Q I i j q k
def cV(d:zR X r)(e:PE X a ta)(f:PE X b tb)(g:pQ b):PE X (.Subscript a b pos)^F3 r ta tb:=by
 intro c s i H Q I h;exact Subscript_ (Pl e f I h λv u j x y k l m n q=>d a b c j i k x y v u Q l m n q^g _ _)
def MB(K:ad):R2:=λx y H Q=>∃p c i v,x= .ref p/\y= .int i/\aJ K H p c/\gF c i\v/\Q v H
def Xb(K:ad):R2:=λx y H Q=>∃p c i v,x= .ref p/\y= .int i/\fM K H p c/\gF c i\v/\Q v H
def bN:zR X^MB X.K:=by
 intro e f c s l H x y v u Q I A B h m;rfl';let⟨p,R,i,z,rfl,rfl,E,F,q⟩:=h;subst A;let⟨t,rfl⟩:=B;let⟨g,r,pl,S⟩:=I.list E;let⟨j,d,G,T,J,L⟩:=GI F;let⟨w,n,M⟩:=r.get G;have N:=r.length;have Y:=oi;have fin:EP X c l Q w s:=#[z,H,I,M,q];ac_rfl
 by_cases o:0<=i
 .have k:i.toNat=j:=by
   rw[seqIndex_of o L] at d;exact Do d
  exact item_listR pl.isList o () (by rw[k];simpa using n) fin m
 .have k:(i+(g.toArray.size:Int)).toNat=j:=by
   rw[seqIndex_neg () J] at d
   rw[cn,<-N];exact Do d
  exact adK (x:=w) pl.isList.typeIs slot_list_getitem.lookup
   (wpAny_getItem_list_neg (Q:=λr O=>r=w/\EP X c l Q r O) pl.isList () (by rw[cn]<;>lia) () (by rw[k];simpa using n) #[rfl,fin]) m
def Mn:zR X^Xb X.K:=by
 intro d e c s f H x y v u Q I g k h l;rfl';let⟨p,M,i,z,rfl,rfl,n,o,q⟩:=h;subst g;let⟨t,rfl⟩:=k;let⟨A,r,pl,N⟩:=I.tuple n;let⟨j,B,C,O,P,R⟩:=GI o;let⟨w,E,F⟩:=r.get C;have G:=r.length;have S:=oi;have fin:EP X c f Q w s:=#[z,H,I,F,q];ac_rfl
 exact adK (x:=w) pl.typeIs slot_tuple_getitem.lookup
  (getItem_tuple (j:=j) (Q:=λr J=>r=w/\EP X c f Q r J) pl () () (by rw[cn,<-G];exact B) (~~~E) #[rfl,fin]) l
def HS(c:List Value)(n j:Nat)(u:Value):Obj.mapSeq (·.setIfInBounds j u) {cls:= .type "list",data:= .seq c.toArray n}={cls:= .type "list",data:= .seq (c.set j u).toArray n}:=by
 simp[Obj.mapSeq]
theorem Inv.lst{c:List (Addr×Obj)}{d:St}{H:Hp}{s:Shared}{p:Addr}{xs:List V}(I:Inv X c d H s)(h:H p\(.lst xs)):
  ∃(its:List Value)(n:Nat),Vals xs its/\s.heap.get? p\{cls:= .type "list",data:= .seq its.toArray n}/\xs.length<=sizeLine:=by
 obtain⟨z,its,n,r,e⟩:=I.hok p _ h;exact#[its,n,r,e,z]
def Inv.UW{its c:List b_}(I:Inv X d j H s)(h:H p\(.lst xs))
  (l:s.heap.get? p\{cls:= .type "list",data:= .seq its.toArray n}) (k:f {cls:= .type "list",data:= .seq its.toArray n}={cls:= .type "list",data:= .seq c.toArray i}) (r:Vals g c) (m:g.length<=sizeLine) (t:Nat):
  Inv X d j (upd H p^.lst g) {s with heap:=s.heap.update p f,toks:=t}:=by
 have e:(s.heap.update p f).get? p\{cls:= .type "list",data:= .seq c.toArray i}:=by
  rw[P3 f l^by rw[k]<;>rfl,k]
 refine I.write (x:=p) (e:=p) (by rw[h];trivial) (.inl rfl) (λb u o q=>(Pi _ _^Ne.symm o).trans q) #[_,e] ?_
 exact#[m,c,i,r,e]
def Sm:V->V->V->Hp->(Hp->Prop)->Prop:=λo i v H Q=>∃p c k j,o= .ref p/\i= .int k/\H p\(.lst c)/\k4 c.length k\j/\Q^upd H p^.lst^c.set j v
def set_list:Wh X Sm:=by
 intro c s B H o i v N O u Q I C E F h;rfl';let⟨p,J,k,j,rfl,rfl,m,L,q⟩:=h;subst C;let⟨t,rfl⟩:=E;let⟨d,n,r,f,M⟩:=I.lst m;let⟨e,R,w,x⟩:=HK L;have g:=r.length;have S:=oi;ac_rfl
 have y:Inv X c B (upd H p^.lst^J.set j v) {s with heap:=s.heap.update p^Obj.mapSeq (·.setIfInBounds j u)}:=
  I.UW m f (HS d n j u) (r.set F j) (by rw[i6];exact M) s.toks
 by_cases A:0<=k
 .have l:k.toNat=j:=by
   rw[seqIndex_of A x] at e;exact Do e
  exact PySem.W.ki_setAt f A () (by rw[cn,<-g];exact x)^by rw[l];exact#[_,y,q]
 .have l:(k+(d.toArray.size:Int)).toNat=j:=by
   rw[seqIndex_neg () w] at e
   rw[cn,<-g];exact Do e
  exact PySem.W.ki_setBack f () (by rw[cn,<-g];exact w) ()^by rw[l];exact#[_,y,q]
def CG(lo c:Option Int)(n:Nat):(sliceBounds lo c none n).1=((HT.bX n 0 lo:Nat):Int)/\(sliceBounds lo c none n).2.1=((HT.bX n n c:Nat):Int)/\(sliceBounds lo c none n).2.2=1:=by
 refine#[?_,?_,rfl]
 .cases lo with
  |none=>simp[sliceBounds,HT.bX]
  |some i=>
   simp only[sliceBounds,HT.bX,Option.getD_none,show(1:Int)>0 by decide,ac4]
   by_cases h:i<0
   .simp only[h,ac4]<;>lia
   .simp only[h,PP]<;>lia
 .cases c with
  |none=>simp[sliceBounds,HT.bX]
  |some i=>
   simp only[sliceBounds,HT.bX,Option.getD_none,show(1:Int)>0 by decide,ac4]
   by_cases h:i<0
   .simp only[h,ac4]<;>lia
   .simp only[h,PP]<;>lia
def Bl(c:List b_)(lo d:Option Int):slicePick c.toArray lo d none=((c.drop^HT.bX c.length 0 lo).take (HT.bX c.length c.length d-HT.bX c.length 0 lo)).toArray:=by
 let⟨e,f,g⟩:=CG lo d c.toArray.size;unfold slicePick;rw[e,f,g];simp only[sliceRange_one,pick_run,cn]<;>rfl
def abP(K:ad):V->Option Int->Option Int->Hp->VK->Prop:=λx lo d H Q=>∃a c,x= .ref a/\aJ K H a c/\∀p,H p=none->Q (.ref p)^upd H p^.lst^jb c lo d
def vX:Jl X^abP X.K:=by
 intro f s t H x v u w lo e y Q I i j pl k h;rfl';let⟨a,c,rfl,m,q⟩:=h;subst i;let⟨n,r,g,p⟩:=I.list m;have d:=r.length;ac_rfl;exists "list",_,slot_list_getitem.lookup,g.isList.typeIs;refine wpAny_getItem_list_slice g.isList j pl k .none (by simp) ?_^by rw[cn]<;>lia
 rw[Bl,<-d];refine#[.ref s.heap.objs.size,_,I.laid (t':=s.toks) (o:= .lst^jb c lo e) (λb B q=>AC _ q) (bh _) ?_,rfl,q _^I.hok.fresh^bh _];exact#[jj (nP c lo e) p,_,0,(r.drop^HT.bX c.length 0 lo).take (HT.bX c.length c.length e-HT.bX c.length 0 lo),GM _ rfl]
noncomputable def iy:V->Bool
 | .aQ=>true
 | .bl _=>true
 | .int _=>true
 | .str _=>true
 |_=>false
noncomputable def tD:V->V->Bool
 | .aQ, .aQ=>true
 | .bl a, .bl b=>a==b
 | .bl a, .int b=>(if a then 1 else 0)==b
 | .int a, .bl b=>a==(if b then 1 else 0)
 | .int a, .int b=>a==b
 | .str a, .str b=>a==b
 |_,_=>false
def Ug{A:f7}{s:c_}{y x:V}{u v:b_}(ry:RelV y u)(rx:RelV x v)(fy:iy y=true)(fx:iy x=true):SeqAt.EqAt A s u v^tD y x:=by
 cases y with
 |aQ=>
  cases ry;cases x with
  |aQ=>cases rx;exact SeqAt.EqAt.same _
  |bl b=>cases rx;exact SeqAt.EqAt.none_bool b
  |int b=>let⟨t,rfl⟩:=rx;exact SeqAt.EqAt.none_int b t
  |str b=>let⟨t,rfl⟩:=rx;exact SeqAt.EqAt.none_str b t
  |_=>exact absurd (show false=true from fx) dP
 |bl a=>
  subst ry;cases x with
  |aQ=>cases rx;exact SeqAt.EqAt.bool_none a
  |bl b=>cases rx;exact SeqAt.EqAt.bool_bool a b
  |int b=>let⟨t,rfl⟩:=rx;exact SeqAt.EqAt.bool_int a b t
  |str b=>let⟨t,rfl⟩:=rx;exact SeqAt.EqAt.bool_str a b t
  |_=>exact absurd (show false=true from fx) dP
 |int a=>
  let⟨t',rfl⟩:=ry;cases x with
  |aQ=>cases rx;exact SeqAt.EqAt.int_none a t'
  |bl b=>cases rx;exact SeqAt.EqAt.int_bool a t' b
  |int b=>let⟨t,rfl⟩:=rx;exact SeqAt.EqAt.int_int a t' b t
  |str b=>let⟨t,rfl⟩:=rx;exact SeqAt.EqAt.int_str a t' b t
  |_=>exact absurd (show false=true from fx) dP
 |str a=>
  let⟨t',rfl⟩:=ry;cases x with
  |aQ=>cases rx;exact SeqAt.EqAt.str_none a t'
  |bl b=>cases rx;exact SeqAt.EqAt.str_bool a t' b
  |int b=>let⟨t,rfl⟩:=rx;exact SeqAt.EqAt.str_int a t' b t
  |str b=>let⟨t,rfl⟩:=rx;exact SeqAt.EqAt.str_str a t' b t
  |_=>exact absurd (show false=true from fx) dP
 |_=>exact absurd (show false=true from fy) dP
noncomputable def rZ(x:V)(u:Value):Bool:=match u with
 | .none=>tD .aQ x
 | .bool b=>tD (.bl b) x
 | .int i _=>tD (.int i) x
 | .str z _=>tD (.str z) x
 |_=>false
def zE{x y:V}{u:Value}(r:RelV y u)(f:iy y=true):rZ x u=tD y x:=by
 cases y with
 |aQ=>cases r;rfl
 |bl b=>cases r;rfl
 |int i=>obtain⟨t,rfl⟩:=r;rfl
 |str z=>obtain⟨t,rfl⟩:=r;rfl
 |_=>exact absurd (show false=true from f) dP
theorem pS:∀{c:List V}{d:List b_},Vals c d->c.all iy=true->d.any^rZ x=c.any λy=>tD y x
 |_,_, .nil,_=>rfl
 |y::c,u::d, .cons r t,f=>by
  rw[aeB,BZ] at f;rw[aeC,aeC,zE r f.1,pS t f.2]
theorem kL(g:RelV x v)(h:iy x=true):∀{d:List V}{e:List b_},Vals d e->d.all iy=true->∀u∈e,SeqAt.EqAt A s u v^rZ x u
 |_,_, .nil,_=>λu c=>by cases c
 |y::d,u::e, .cons r t,f=>λi c=>by
  rw[aeB,BZ] at f
  rcases dS.mp c with rfl|c
  .rw[zE r f.1];exact Ug r g f.1 h
  .exact kL g h t f.2 i c
noncomputable def Kf(x:V)(c:List V):Bool:=c.any λy=>tD y x
def Vw(K:ad)(d:Bool):R2:=λx y H Q=>∃p c,y= .ref p/\(aJ K H p c\/fM K H p c)/\iy x=true/\c.all iy=true/\Q (.bl^if d then !Kf x c else Kf x c) H
def KD:OpR X (fz .In)^Vw X.K false:=by
 intro e s l H x y v u Q I f i h;rfl';let⟨p,n,rfl,d,g,fs,q⟩:=h;subst i;ac_rfl
 rcases d with d|d
 .obtain⟨c,r,pl,k⟩:=I.list d
  refine SeqAt.in_listAt (rZ x) pl.isList (λw hw=>kL f g r fs w^~~~hw) #[.bl _,H,I,rfl,?_]
  rw[show c.toArray.any^rZ x=c.any (rZ x) by simp,pS r fs]
  exact q
 .obtain⟨c,r,pl,k⟩:=I.tuple d
  refine SeqAt.in_tupleAt (rZ x) pl (λw hw=>kL f g r fs w^~~~hw) #[.bl _,H,I,rfl,?_]
  rw[show c.toArray.any^rZ x=c.any (rZ x) by simp,pS r fs]
  exact q
def sI:OpR X (fz .NotIn)^Vw X.K true:=by
 intro e s l H x y v u Q I f i h;rfl';let⟨p,n,rfl,d,g,fs,q⟩:=h;subst i;ac_rfl
 rcases d with d|d
 .obtain⟨c,r,pl,k⟩:=I.list d
  refine SeqAt.notIn_listAt (rZ x) pl.isList (λw hw=>kL f g r fs w^~~~hw) #[.bl _,H,I,rfl,?_]
  rw[show c.toArray.any^rZ x=c.any (rZ x) by simp,pS r fs]
  exact q
 .obtain⟨c,r,pl,k⟩:=I.tuple d
  refine SeqAt.notIn_tupleAt (rZ x) pl (λw hw=>kL f g r fs w^~~~hw) #[.bl _,H,I,rfl,?_]
  rw[show c.toArray.any^rZ x=c.any (rZ x) by simp,pS r fs]
  exact q
def cX:CallR X (.builtin "len") (λi H Q=>∃p d,i= [.ref p]/\(aJ X.K H p d\/fM X.K H p d)/\Q (.int d.length) H):=by
 intro j s n H i o Q I r h;rfl';obtain⟨p,d,rfl,e,q⟩:=h;obtain⟨u,rfl,l⟩:=vals1 r;subst l;have v:=oi;ac_rfl
 rcases e with e|e
 .obtain⟨f,g,pl,m⟩:=I.list e
  have c:=g.length;exact Calls.call_len_list pl.isList (by simp only[cn]<;>lia) #[.int d.length,H,I.tok _,#[s.toks+1,by rw[cn,c]],q]
 .obtain⟨f,g,pl,m⟩:=I.tuple e
  have c:=g.length;exact len_tuple pl (by simp only[cn]<;>lia) #[.int d.length,H,I.tok _,#[s.toks+1,by rw[cn,c]],q]
def sA:CallR X (.type "list") (λB H Q=>∃p f,B= [.ref p]/\(aJ X.K H p f\/fM X.K H p f)/\∀l,H l=none->Q (.ref l)^upd H l^.lst f):=by
 intro j s E H B G Q I r h;let⟨p,f,rfl,k,q⟩:=h;let⟨u,rfl,F⟩:=vals1 r;subst F
 have fin:∀(c:List b_),Vals f c->f.length<=sizeLine->∀(d:Heap)(g:Nat),(∀b C,s.heap.get? b\C->d.get? b\C)->
   d.get? s.heap.objs.size\{cls:= .type "list",dict:=none,data:= .seq c.toArray g,slots:= #[]}->EP X j E Q (.ref s.heap.objs.size) {s with heap:=d}:=λc i m d g t e=>
  #[.ref s.heap.objs.size,_,I.laid (t':=s.toks) t (bh _) (show cp X.prog X.w _ d _^.lst f from#[m,c,g,i,e]),rfl,q _^I.hok.fresh^bh _]
 rcases k with k|k
 .obtain⟨c,i,pl,m⟩:=I.list k
  have v:=i.length;let⟨o,x,y,n,A⟩:=pl.isList;exact call_list_seq p (.inl rfl) x y A (λd g t e=>fin c i m d g t e)^by simp only[cn]<;>lia
 .obtain⟨c,i,pl,m⟩:=I.tuple k
  have v:=i.length;let⟨o,x,y,n,A⟩:=pl;exact call_list_seq p (.inr rfl) x y A (λd g t e=>fin c i m d g t e)^by simp only[cn]<;>lia
def V5(K:ad)(T:String)(x:V)(H:Hp):Prop:=match x with
 | .str _=>T="str"
 | .int _=>T="int"
 | .ref p=>(T="list"/\∃d,aJ K H p d)\/(T="tuple"/\∃o,K.lookup p\o/\o.cls= .type "tuple"/\o.dict=none)\/
   (T="dict"/\((∃c,H p\(.dK c))\/∃c,H p\(.dT c)))\/(T="set"/\∃S n,H p\(.set S n))
 |_=>False
theorem MV(I:Inv X g m H s)(r:RelV x v)(h:V5 X.K T x H):
  s.TypeIs v T/\∀a,v= .ref a->∃l,s.heap.get? a\l/\l.dict=none:=by
 cases x with
 |str z=>
  obtain⟨t,rfl⟩:=r;cases(show T="str" from h);exact#[typeIs_str s z t,λ_ e=>nomatch e]
 |int i=>
  obtain⟨t,rfl⟩:=r;cases(show T="int" from h);exact#[typeIs_int s i t,λ_ e=>nomatch e]
 |ref p=>
  subst r
  rcases h with ⟨rfl,A,q⟩ | ⟨rfl,o,d,u,j⟩ | ⟨rfl,d⟩ | ⟨rfl,S,n,d⟩
  .obtain⟨w,_,pl,_⟩:=I.list q
   refine#[pl.isList.typeIs,λa e=>?_];cases e;obtain⟨o,n,e,c,j,_⟩:=pl;exact#[o,e,j]
  .refine#[#[o,I.cZ p o d,u],λa e=>?_]
   cases e;exact#[o,I.cZ _ o d,j]
  .have z:∃o,s.heap.get? p\o/\o.ExactDict:=by
    rcases d with ⟨y,d⟩ | ⟨y,d⟩
    .obtain⟨_,_,_,_,o,_,_,e,f,_⟩:=I.hok p _ d
     exact#[o,e,f]
    .obtain⟨_,_,_,_,o,_,_,e,f,_⟩:=I.hok p _ d
     exact#[o,e,f]
   obtain⟨o,e,f⟩:=z;refine#[#[o,e,f.1],λa k=>?_];cases k;exact#[o,e,f.2.1]
  .obtain⟨o,_,_,_,e,f,_⟩:=I.hok p _ d
   refine#[#[o,e,f.1],λa k=>?_];cases k;exact#[o,e,f.2.1]
 |_=>exact False.elim h
def ab4(K:ad)(T:String)(r:V->List V->Hp->VK->Prop)(d:TE):TE:=λe H Q=>d e H λx c=>V5 K T x c/\r x [] c Q
def tBM(K:ad)(T:String)(r:V->List V->Hp->VK->Prop)(e:TE)(t:TA):TE:=λc H Q=>e c H λx d=>V5 K T x d/\t c d λf g=>r x f g Q
variable {o e:Expr} {es:List Expr} {to:TE} {t:TA} {name:Str} {apos aM:Pos} {T id:String} {r:V->List V->Hp->VK->Prop}
theorem Vf(i:PlainAttrs T)(slot:Slot T name id)(j:typeOf^.builtin id=pure^.type "method_descriptor")(k:O7 X id r)(l:PE X o to)
  (m:ge o name X.env^fC o X.env=fC o X.env<|>zn) (n:(apos.endLine==aM.line)=true<|>zn):PE X (.Call (.Attribute o name apos) [] [] aM)^ab4 X.K T r to:=by
 intro c s d H Q I h;refine wpAny_Call_method0_late m n (thn (l c s d H _ I h) λv p q=>?_);rfl';let⟨x,w,f,g,y,A⟩:=q;let⟨B,C⟩:=MV f g y;ac_rfl;exact#[T,id,i,slot,j,B,C,adL rfl^PySem.evalArgs_none^k c p d w x [] v [] Q f g .nil A]
theorem gW(l:PlainAttrs T)(slot:Slot T name id)(m:typeOf^.builtin id=pure^.type "method_descriptor")(n:O7 X id r)(p:PE X o to)(q:PA X (e::d) t)
  (u:ge o name X.env^fC o X.env=fC o X.env<|>zn)
  (w:((f8 f^d4 (e::d) X.env).all (λx=>!x.1)&&(il f^g_ [] X.env).all (λx=>x.1.isSome)
   &&decide ((e::d).length+([]:List hT).length+(if ([]:List hT).isEmpty then 0 else 1)<30))=true<|>zn)
  (y:(apos.endLine==f.line)=true<|>zn) (A:d4 (e::d) X.env=(false,fC e X.env)::d4 d X.env<|>zn) (B:(f8 f^d4 d X.env).any (·.1)=false<|>zn):
  PE X (.Call (.Attribute o name apos) (e::d) [] f)^tBM X.K T r to t:=by
 intro c s g H Q I h;refine afh u w y rfl (thn (p c s g H _ I h) λv C E=>?_);rfl';let⟨x,G,i,j,J,L⟩:=E;let⟨M,N⟩:=MV i j J;ac_rfl;exists T,id,l,slot,m,M,N;have k:=q f c C g G _ i L;rw[A] at k ⊢;refine adL (by show(false|| (f8 f^d4 d X.env).any (·.1))=false;rw[B]<;>rfl)^Calls.evalArgs_plain ?_
 exact thn k λO P #[R,S,Y,Z,a]=>n c P g S x R v O Q Y j Z a
end
def M8(X:Cx)(id:String)(r:V->List V->Hp->VK->Prop):Prop:=
 ∀(a:List (Addr×Obj))(s:Shared)(b:St)(H:Hp)(x:V)(c:List V)(v:Value)(d:List Value)(Q:VK),Inv X a b H s->RelV x v->Vals c d->r x c H Q->
  wpAny (model X.prog X.w) X.A (call (.builtin id) (v::d)) (EP X a b Q) X.xe s
def Vals.one(h:Vals [x] a):∃u,a= [u]/\RelV x u:=by
 cases h with|cons r t=>cases t;exact#[_,rfl,r]
def Vals.two{x y:V}(h:Vals [x,y] a):∃u v,a= [u,v]/\RelV x u/\RelV y v:=by
 cases h with
 |cons r t=>
  obtain⟨v,rfl,q⟩:=Vals.one t;exact#[_,v,rfl,r,q]
theorem Vals.zero:∀{a:List Value},Vals [] a->a= []
 |_, .nil=>rfl
theorem Vals.dropLast(h:Vals a b):Vals a.dropLast b.dropLast:=by
 induction h with
 |nil=>exact .nil
 |cons r t c=>
  cases t with
  |nil=>exact .nil
  |cons q d=>exact .cons r c
theorem Vals.eraseIdx:∀{a:List V}{b:List b_}(i:Nat),Vals a b->Vals (a.eraseIdx i)^b.eraseIdx i
 |_,_,_, .nil=> .nil
 |_,_,0, .cons _ t=>t
 |_,_,i+1, .cons r t=> .cons r^Vals.eraseIdx i t
def Hj(l:List c):l.eraseIdx (l.length-1)=l.dropLast:=by
 induction l with
 |nil=>rfl
 |cons a r d=>
  cases r with
  |nil=>rfl
  |cons b r=>
   have e:(a::b::r).length-1=((b::r).length-1)+1:=by
    have f:(a::b::r).length=r.length+2:=rfl;have g:(b::r).length=r.length+1:=rfl;lia
   rw[e,List.eraseIdx_cons_succ,d]
   all_goals rfl
theorem AF:∀(l:List a)(i:Nat),(l.eraseIdx i).length<=l.length
 | [],_=>bh _
 |_::_,0=>lM _
 |_::r,i+1=>Nat.succ_le_succ^AF r i
section
variable {X:Cx} {pins:List (Addr×Obj)} {σ:St} {H:Hp} {s:Shared} {l b:Addr} {xs ys zs:List V}
def Inv.HP{its its':List b_}(I:Inv X pins σ H s)(a:H l\(.lst xs))
  (e:s.heap.get? l\{cls:= .type "list",data:= .seq its.toArray n}) (c:f its.toArray=its'.toArray) (d:Vals ys its') (g:ys.length<=sizeLine):
  Inv X pins σ (upd H l^.lst ys) {s with heap:=s.heap.update l^Obj.mapSeq f,toks:=t'}:=by
 have q:=PySem.IsL.update e f;rw[c] at q;refine I.write (x:=l) (e:=l) (by rw[a];exact trivial) (.inl rfl) (λj u h i=>(Pi s.heap (Obj.mapSeq f)^Ne.symm h).trans i) #[_,q] ?_
 exact#[g,its',_,d,q]
def Inv.Ro{its:List b_}{t':Nat}(I:Inv X pins σ H s)(a:Vals ys its)(c:ys.length<=sizeLine):
  Inv X pins σ (upd H s.heap.objs.size^.lst ys) {s with heap:=s.heap.push {cls:= .type "list",data:= .seq its.toArray},toks:=t'}:=
 I.laid (λ_ _ q=>AC _ q) (bh _) #[c,its,0,a,GM _ rfl]
theorem Inv.fresh(I:Inv X pins σ H s):H s.heap.objs.size=none:=I.hok.fresh^bh _
def Inv.sE(I:Inv X pins σ H s)(a:H l\(.lst xs)):xs.length<=sizeLine/\∃(its:List Value)(n:Nat),Vals xs its/\xs.length=its.length/\s.heap.get? l\{cls:= .type "list",data:= .seq its.toArray n}:=by
 obtain⟨z,its,n,r,e⟩:=I.hok l _ a;exact#[z,its,n,r,r.length,e]
def Oc(h:n<=sizeLine):Builtin.List.listTooLong n=false:=by
 unfold Builtin.List.listTooLong;exact FM ()
end
section
variable {X:Cx}
def Sj:V->List V->Hp->VK->Prop:=λx b H Q=>∃l a y,x= .ref l/\b= [y]/\H l\(.lst a)/\a.length<sizeLine/\Q .aQ^upd H l^.lst (a++ [y])
def jz:M8 X "list.append" Sj:=by
 intro b s j H x k v m Q I d f h;rfl';let⟨l,p,y,rfl,rfl,c,t,q⟩:=h;subst d;let⟨u,rfl,i⟩:=f.one;let⟨z,a,n,r,w,e⟩:=I.sE c;ac_rfl;refine adE F.slot_list_append #[_,e,rfl] F.entry_list_append (F.args_list_append_2 _ _) (PySem.list_append l a.toArray n u^by rw[cn];lia) #[e,?_]
 refine#[.aQ,_,I.HP (its':=a++ [u]) c e (by simp) (r.append^.cons i .nil) ?_,rfl,q]
 rw[eF,Gp];lia
def Sk:V->List V->Hp->VK->Prop:=λx d H Q=>∃l b a c,x= .ref l/\d= [.ref b]/\H l\(.lst a)/\H b\(.lst c)/\a.length+c.length<=sizeLine/\Q .aQ^upd H l^.lst (a++c)
def AQ:M8 X "list.extend" Sk:=by
 intro d s y H x A v B Q I g i h;obtain⟨l,b,C,E,rfl,rfl,f,j,G,q⟩:=h;cases g;obtain⟨u,rfl,k⟩:=i.one;cases k;obtain⟨z,a,n,r,J,e⟩:=I.sE f;obtain⟨L,c,m,o,M,p⟩:=I.sE j;have t:a.toArray.size+c.toArray.size<=sizeLine:=by rw[cn,cn];lia
 have w:¬(!a.toArray.isEmpty&&Builtin.List.listTooLong (a.toArray.size+c.toArray.size))=true:=by
  rw[Oc t,aep];exact dP
 refine adE F.slot_list_extend #[_,e,rfl] F.entry_list_extend (F.args_list_extend_2 _ _)
  (AutoSeq1.list_extend_list_list_0 l a.toArray n b c.toArray m w (by rw[cn];lia) ()) #[e,p,?_]
 refine#[.aQ,_,I.HP (its':=a++c) f e (by simp) (r.append o) ?_,rfl,q]
 rw[eF];omega
def abO:V->List V->Hp->VK->Prop:=λx b H Q=>∃l a y,x= .ref l/\b= []/\H l\(.lst a)/\a[a.length-1]?\y/\Q y^upd H l^.lst a.dropLast
def UY:M8 X "list.pop" abO:=by
 intro c s t H x w v A Q I f g h;rfl';let⟨l,C,y,rfl,rfl,d,j,q⟩:=h;subst f;have b:=g.zero;subst b;let⟨z,a,n,r,k,e⟩:=I.sE d;let⟨u,m,o⟩:=r.get j;ac_rfl
 have p:a.toArray[a.toArray.size-1]?\u:=by
  show a.toArray[a.length-1]?\u;rw[<-gz,<-k];exact m
 refine adE F.slot_list_pop #[_,e,rfl] F.entry_list_pop (F.args_list_pop_1 _) (MeetsSeq.list_pop_last l a.toArray n u p^by rw[cn];lia) #[e,?_]
 refine#[y,_,I.HP (its':=a.dropLast) d e ?_ r.dropLast ?_,o,q]
 .show a.toArray.eraseIdxIfInBounds (a.toArray.size-1)=a.dropLast.toArray
  rw[cn,ad7,Hj]
 .rw[List.length_dropLast]
  lia
def Vy:V->List V->Hp->VK->Prop:=λx b H Q=>∃l a i k y,x= .ref l/\b= [.int i]/\H l\(.lst a)/\-(2<<<63)<=i/\i<2<<<63/\seqIndex? i a.length\k/\a[k]?\y/\Q y^upd H l^.lst^a.eraseIdx k
def N9:M8 X "list.pop" Vy:=by
 intro b s E H x G v J Q I d f h;let⟨l,g,i,k,y,rfl,rfl,c,j,m,o,p,q⟩:=h;cases d;let⟨u,rfl,A⟩:=f.one;let⟨t,rfl⟩:=A;let⟨z,a,n,r,B,e⟩:=I.sE c;let⟨w,hw,C⟩:=r.get p
 refine adE F.slot_list_pop #[_,e,rfl] F.entry_list_pop (F.args_list_pop_2 _ _)
  (MeetsSeq.list_pop_at l a.toArray n i t k w (fitsIndex_both j m) (by rw[cn,<-B];exact o) (by rw[<-gz];exact hw)^by rw[cn];lia) #[e,?_]
 refine#[y,_,I.HP (its':=a.eraseIdx k) c e ?_ (r.eraseIdx k) ?_,C,q]
 .show a.toArray.eraseIdxIfInBounds k=(a.eraseIdx k).toArray
  rw[ad7]
 .have:=AF g k
  lia
def abL:R2:=λx y H Q=>∃l b a c,x= .ref l/\y= .ref b/\H l\(.lst a)/\H b\(.lst c)/\a.length+c.length<=sizeLine/\∀p,H p=none->Q (.ref p)^upd H p^.lst (a++c)
def zI:OpR X (ii .Add) abL:=by
 intro c s t H x y v u Q I f g h;rfl';let⟨l,b,A,B,rfl,rfl,j,k,C,q⟩:=h;subst f;subst g;let⟨z,a,n,r,E,e⟩:=I.sE j;let⟨F,d,G,m,J,o⟩:=I.sE k;ac_rfl;refine PySem.P.add_list e o ?_^by rw[cn,cn];lia
 have p:a.toArray++d.toArray=(a++d).toArray:=by simp
 rw[p];exact#[.ref _,_,I.Ro (t':=s.toks) (r.append m)^by rw[eF];lia,rfl,q _ I.fresh]
end
section
variable {prog:Program} {w:World} {A:Around} {E:Value->Shared->Prop} {s:Shared}
end
section
variable {X:Cx}
end
end L2
namespace Att
open PySem PySem.W PySem.Calls PyProof.Rows
def xg:∀(c:List Int)(d:List b_),WellAll P h d^c.map WData.int->io d c:=by
 intro c
 induction c with
 |nil=>
  intro d w;rw[xT] at w;cases w;exact .nil
 |cons n c e=>
  intro d w;rw[dR] at w;cases w with
  |cons a b=>
   cases a;exact .cons _ _^e _ b
theorem La{l:OpenLaw}(m:l.most\n) 
  (i:l.row.toRowW.claim.pre args=true) (o:WellAll P h vals args):
  ∃a j b,vals= [Value.ref a]/\args= [WData.list^b.map WData.int]/\h.get? a\{cls:= .type "list",data:= .seq j.toArray}/\io j b/\b.length<=n:=by
 have g:WShape.hasAll [] args [.list .int]=true:=(pre_splitW i).1;have k:l.pre.holds [] {args:=args}=true:=(pre_splitW i).2;let⟨d,r,rfl,p,s⟩:=hasAllW_cons g;obtain rfl:=hasAllW_nil s;let⟨A,rfl,t⟩:=hasW_list p;let⟨b,rfl⟩:=items_int t
 have c:b.length<=n:=by
  unfold OpenLaw.pre at k
  have e:(WTm.not^.lt (.lit^.int (n:Int))^.len^.arg 0).holds [] {args:= [.list^b.map .int]}=true:=by
   have e:=(holds_andW k).1;rw[m] at e;exact e
  have f:=condW_of e^w_not^w_lt w_lit^w_len_list^w_arg rfl;rw[aI] at f;refine lI λq=>?_;have u:(n:Int)<((b.length:Nat):Int):=()
  first
   | (rw[B u] at f;exact absurd f ∅)
   | (simp at f;lia)
 cases o with
 |cons v w=>
  cases w;cases v with
  |list x y=>exact#[_,_,b,rfl,rfl,x,xg b _ y,c]
def KR(l:OpenLaw)(args:List WData):l.row.toRowW.claim.post args (.bool true) args=true:=
 postW_of (r:=l.row.toRowW) (X:=(true==true))
  (show WShape.has [] (.bool true) .bool=true by first|rfl|decide|simp[WShape.has,WShape.arms,WShape.armsAll])
  (show(WTm.eq .res^.lit^.bool true).value [] {args:=args,res:=some^.bool true,after:=args}\(.bool (true==true)) from w_eq_bool (w_res rfl) w_lit) rfl
def Ey{l:OpenLaw} 
  (C:l.most\n) (E:d.params.defaults= [])
  (call:∀(w:ei)(e b:c_)(m u:ee->Option b_)(j:Addr)(o:Obj)(v p g:b_)(a:Addr)(i:List b_)(s:List Int),
   Ground q c [] x w e m u b.heap->y w b.heap->
   b.heap.get? j\o->o.data= .func^docDef d.name d.params d.body d.scope v p g->b.heap.CodeRec p d.name->m d.name\(.ref j)->
   b.heap.get? a\{cls:= .type "list",data:= .seq i.toArray}->io i s->s.length<=n->b.gens= #[]->
   gl (d5 l.prog w) callerA (.call (.ref j) #[[.ref a],[]]) (λr t=>r= .ok^.ret^.bool true/\OldK b.heap t.heap/\t.os=b.os/\j6 t.gens) b):
  WalkO q c x y l.row.toRowW d [] (λf i=>dO f i):=by
 intro w e b m u G Y j o v p g F kV H I J A L M B vals as N O P Q wZ;obtain rfl:F= .none:=Dflts.none A E;obtain rfl:kV= .none:=Dflts.noKw A;rfl';let⟨a,i,s,rfl,rfl,S,h,k⟩:=La C N Q;ac_rfl;refine enter_call (acY (call w e b m u j o v p g a i s G Y H (fd_plain I) J L S h k M) λr t T=>?_);let⟨rfl,X,Z,h4⟩:=T;exact#[.inl #[.bool true, .bool true,[],rfl,λ_=>rfl, .bool true,KR l _,λ_=>#[List.Pairwise.nil,λ_ hm=>(nomatch hm)]],X,Z,h4]
section
variable {prog:Program} {w:World} {A:Around} {E:Value->Shared->Prop} {s:Shared} {K:Frag}
end
end Att
namespace L2
open PySem PySem.Spec PyProof.Rows
theorem t5:∀{a:List b_}{b:List Int},io a b->Vals (b.map V.int) a
 |_,_, .nil=> .nil
 |_,_, .cons n t h=> .cons #[t,rfl]^t5 h
def O9(H:Hp):Prop:=∀b,H b=none\/∃o a,H b\(.tI o^.lst a)
theorem N3{P:ec}{w:ei}{K:ad}{l G:ee->Option b_}{Q:pP}{k:Nat}{I a:Addr}{R:gi}{x:ee}{S:Sp}{c:c_}{j:List b_}{p:List Int}
  (T:K.In c.heap) (X:c.heap.Ns eh l) (f:c.heap.Ns builtinsNs G) (Ck:∀x:ee,x≠"__name__"->G x=f_ x) (J:c.heap.NoLimit) (hg:c.gens= #[])
  (C:c.heap.get? a\{cls:= .type "list",data:= .seq j.toArray}) (Y:io j p) (Z:p.length<=sizeLine) (hr:bU k callerA)
  (F:∀base:Heap,K.In base->base.Ns eh l->FnOk P w K l base Q k I R [x] S) (Yq:∀(s:c_)(u:b_),BindsTo s R #[[u],[]] [(x,u)])
  (Ct:∀H:Hp,O9 H->aJ K H a^p.map V.int->S [.ref a] H (λv _=>v= .bl true) λ_ _ _=>False)
  (Yc:∀H e g,Q [] H c (λ_ _ _=>False) e g->False):
  gl (d5 P w) callerA (.call (.ref I) #[[.ref a],[]]) (λr g=>r= .ok^.ret^.bool true/\OldK c.heap g.heap/\g.os=c.os/\j6 g.gens) c:=by
 have rv:=t5 Y;have L:=Y.length
 have i:∀H:Hp,O9 H->aJ K H a^p.map V.int->ik P w H c.heap->(∀b,H b≠none->b=a)->(H a≠none->K.lookup a=none)->
   gl (d5 P w) callerA (.call (.ref I) #[[.ref a],[]]) (λr g=>r= .ok^.ret^.bool true/\OldK c.heap g.heap/\g.os=c.os/\j6 g.gens) c:=by
  intro H hO hS hok hA hK;have GK:∀{b:Addr}{o:Obj},c.heap.get? b\o->H b=none->(uO c.heap H).get? b\o:=λe n=>NR e n
  have Rw:∀{b:Addr}{o:Obj}{t:Array DictEntry}{y:Nat},c.heap.get? b\o->o.data= .dict t y->H b=none:=λ {b o t y} e d=>by
   cases q:H b with
   |none=>rfl
   |some u=>
    have M:b=a:=hA b^by rw[q];simp
    subst M;rw[C] at e;cases e;have d':Data.seq j.toArray _=Data.dict t y:=d;cases d'
  have E:∀{b:Addr}{m:ee->Option b_},c.heap.Ns b m->(uO c.heap H).Ns b m:=λ {b m} #[o,t,y,e,d,r]=>#[o,t,y,GK e^Rw e d,d,r]
  have A:K.In^uO c.heap H:=λb o e=>GK (T b o e) (by
   cases q:H b with
   |none=>rfl
   |some u=>
    have M:b=a:=hA b^by rw[q];simp
    subst M;rw[hK^by rw[q];simp] at e;cases e)
  have hM:Mod K l^uO c.heap H:=#[A,E X,#[G,E f,Ck],let #[mc,h1,h2]:=J;#[mc,E h1,h2]];have e0:Env0 P w K l (uO c.heap H) callerA [] c H:=#[rfl,hM,λb o e=>RC e,afs^JY _ _,trivial,λb f=>absurd (show b∈([]:List Addr) from f)^by simp,hok, .of_eq hg]
  refine acY ((F _ A^E X).run callerA [] c H #[[.ref a],[]] [.ref a] [.ref a] _ _ hr e0 (Yq c^.ref a) (.cons rfl .nil)^Ct H hO hS) λr g h=>?_;cases r with
  |error e=>exact(Yc H e g h).elim
  |ok fl=>
   cases fl with
   |next=>exact False.elim h
   |brk=>exact False.elim h
   |cont=>exact False.elim h
   |ret u=>
    rfl';obtain⟨v,H',os,bare,un,N,r',q⟩:=h;have q':v= .bl true:=q;subst q';ac_rfl;obtain rfl:u=Value.bool true:=r';refine#[rfl,OldK.of_keep λb o e=>?_,os,bare];cases q:H b with
    |none=>exact un.keep b o e q (by intro z;exact absurd (show b∈([]:List Addr) from z)^by simp) (by simp)
    |some u=>
     rcases hO b with z| ⟨ob,xs,z⟩
     .rw[q] at z;cases z
     .have z2:=un.frzs b ob _ z
      obtain⟨e1,_⟩:=hok b _ z;obtain⟨e2,_⟩:=N b _ z2;rw[e] at e1;cases e1;exact e2
 cases O:K.lookup a with
 |some o=>
  have e:=T a o O;rw[C] at e;cases Do e;refine i (λ_=>none) (λ_=> .inl rfl) (.inr #[_,j.toArray,_,O,rfl,rfl,rfl,by rw[cn,L];exact Z,by simpa using rv]) (λb u z=>by have B:(none:Option HO)\u:=z;cases B) (λb z=>absurd rfl z) λz=>absurd rfl z
 |none=>
  refine i (λb=>if b=a then some^.tI {cls:= .type "list",data:= .seq j.toArray}^.lst^p.map V.int else none) (λb=>?_) (.inl^.inr #[{cls:= .type "list",data:= .seq j.toArray},mo rfl]) (λb u z=>?_) (λb z=>?_) λ_=>O
  .by_cases f:b=a
   .exact .inr #[_,_,mo f]
   .exact .inl^tz f
  .by_cases f:b=a
   .have B:=(mo f).symm.trans z
    obtain rfl:=Do B;subst f;exact#[C,by rw[aI];exact Z,j,_,rv,C]
   .have B:=(tz f).symm.trans z
    cases B
  .by_cases f:b=a
   .exact f
   .exact absurd (tz f) z
def Tc{l:cv}{n k:Nat}{q:ec}{i:List ee}{J:(ee->Option b_)->Heap->Prop}{B:ei->Heap->Prop}{d:DefRec}{K:Params->ad}{CX:ei->pP}{sp:ei->Sp}{x:ee}
  (L:l.most\n) (M:n<=sizeLine) (N:d.params.defaults= []) (O:bU k callerA)
  (P:∀(w:ei)(h:Heap),B w h->(K w.params).In h)
  (F:∀(w:ei)(m:ee->Option b_)(r:Addr)(h:Heap),(K w.params).In h->h.Ns eh m->m d.name\(.ref r)->
   ∃y:gi,(∀(s:c_)(u:b_),BindsTo s y #[[u],[]] [(x,u)])/\
    ∀base:Heap,(K w.params).In base->base.Ns eh m->FnOk l.prog w (K w.params) m base (CX w) k r y [x]^sp w)
  (Q:∀(w:ei)(H:Hp)(a:Addr)(t:List Int),t.length<=n->O9 H->aJ (K w.params) H a^t.map V.int->sp w [.ref a] H (λv _=>v= .bl true) λ_ _ _=>False)
  (R:∀(w:ei)(H:Hp)(s:c_)(e:b_)(A:c_),CX w [] H s (λ_ _ _=>False) e A->False):
  d3 q i J B l.row.toRowW d [] (λf C=>dO f C):=by
 refine Att.Ey L N λw E p m mb r o pm cd S a C t G Y ho hd iz X Z j c hg=>?_;have I:=P w _ Y;let⟨y,hb,hF⟩:=F w m r _ I G.T.g X;exact N3 I G.T.g G.T.b G.T.builtins G.T.nolimit hg Z j (jj c M) O hF hb (λH hO hS=>Q w H a t c hO hS) λH e A=>R w H p e A
noncomputable def inClass(s:Stmt)(j:Nat):Stmt:=match s with
 | .ClassDef _ _ _ body _ _ _ _ _ _ _=>body.getD j^.Pass #[0,0,0,0]
 |_=> .Pass #[0,0,0,0]
noncomputable def gY(s:Stmt):Arguments:=match s with
 | .FunctionDef _ a _ _ _ _ _ _ _ _=>a
 |_=>{posonlyargs:= [],args:= [],vararg:=none,kwonlyargs:= [],kw_defaults:= [],kwarg:=none,defaults:= []}
noncomputable def dM(s:Stmt):List Stmt:=match s with
 | .FunctionDef _ _ b _ _ _ _ _ _ _=>b
 |_=> []
noncomputable def ar(s:Stmt):Scope:=match s with
 | .FunctionDef _ _ _ _ _ _ sc _ _ _=>sc
 |_=>{kind:= .function,names:= [],isGenerator:=false,isCoroutine:=false}
abbrev fJ:pP:=λ_ _ _ _ _ _=>False
abbrev E0:XK:=λ_ _ _=>False
def cF:Passes fJ X E0:=λ_ _ _ _ _ _ _ h=>h.elim
structure uB (K:ad) (x qual:ee) (st:Stmt) (f:Addr) (fd:gi):Prop where
 ex:∃(oc:b_)(od:Option Addr)(kV doc pm:b_)(an:Option Addr)(aV ct:b_)(FE:Array^Option b_),
  fd=b5 x qual (gY st) (dM st) (ar st) .none kV doc pm an aV ct/\K.lookup f\#[oc,od, .func fd,FE]/\bj K aV qual=true
 kp:am K^.ref f=true
section
variable {P:Program} {w:World} {K:ad} {mg:Str->Option Value} {base:Heap}
def uB.ok{x a:ee}{st:Stmt}{f:Addr}{e:gi}{N c:List ee}{k:Nat}{d:Sp}(F:uB K x a st f e)(S:aE N c^ar st)(len:∀vs H Q E,d vs H Q E->vs.length=c.length)
  (g:∀(b:b_)(A:f7)(outer:List lE)(s:c_)(H:Hp)(vs:List V)(Q:VK)(E:XK),bU k^A.deeper^jT a (ar st) s.heap.objs.size f b->d vs H Q E->
   ∃t,jX (kU fJ P w K mg base N a (ar st) f b A outer s H E).mG (dM st) t/\t {nx:=λ_ i=>Q .aQ i,rt:=Q} (start N vs) H):FnOk P w K mg base fJ (k+1) f e c d:=by
 rfl';let⟨u,v,kV,l,y,B,b,C,G,rfl,m,n⟩:=F.ex;ac_rfl;refine Qd m n S len λA outer s H vs Q E o p=>?_;let⟨t,h,q⟩:=g b A outer s H vs Q E o p;exact#[t,h.mG,q]
def uB.binds{st:Stmt}{ps:List ee}(F:uB K x a st f j)
  (h:∀(kV b c:b_)(d:Option Addr)(e g:b_)(i:List b_),i.length=ps.length->lf (b5 x a (gY st) (dM st) (ar st) .none kV b c d e g) #[i,[]]=pure^ps.zip i):Binds K j ps []:=by
 rfl';let⟨m,n,kV,b,c,d,e,g,o,rfl,p,q⟩:=F.ex;ac_rfl;exact .all^h kV b c d e g
def nZ{x a:ee}{st:Stmt}{f:Addr}{i:b_}{j e:Option Addr}{m:Array^Option b_}{kV b g d h:b_}(l:K.lookup f\#[i,j, .func^b5 x a (gY st) (dM st) (ar st) .none kV b g e d h,m])
  (c:bj K d a=true) (k:am K^.ref f=true):uB K x a st f^b5 x a (gY st) (dM st) (ar st) .none kV b g e d h:=#[#[i,j,kV,b,g,e,d,h,m,rfl,l,c],k]
end
def bO(h:n<=1000):n<sizeLine:=pC h ∅
section
variable {X:Cx}
def pv(i:Nat){a:ip}(b:X.N[i]?\x<|>zn)(c:ze X.env.scope x<|>xz)(d:(x==("__debug__":ee))=false<|>zm)
  (e:(x==("__classdict__":ee))=false<|>zm):PE X (.Name x a)^yP i:=My b c d e
end
def cL{A B:Prop}(h:B):if false=true then A else B:=by
 rw[tz dP];exact h
def b9{A B:Prop}(h:A):if true=true then A else B:=by
 rw[mo rfl];exact h
def yC{c A B:Prop} [Decidable c] (a:c->A) (b:¬c->B):if c then A else B:=by
 by_cases h:c
 .rw[mo h]
  exact a h
 .rw[tz h]
  exact b h
def aC(H a:Hp):Prop:=∀b o,H b\o->a b\o
def aC.refl(H:Hp):aC H H:=λ_ _ h=>h
def aC.trans{H d e:Hp}(a:aC H d)(b:aC d e):aC H e:=λc o h=>b c o^a c o h
def aC.free{H a:Hp}(e:aC H a)(h:a l=Option.none):H l=Option.none:=by
 cases q:H l with
 |none=>rfl
 |some o=>
  rw[e l o q] at h;cases h
def aC.seq{K:ad}{H b:Hp}{a:Addr}{xs:List V}(e:aC H b)(h:aJ K H a xs):aJ K b a xs:=by
 rcases h with (h| ⟨o,h⟩) |h
 .exact .inl^.inl^e _ _ h
 .exact .inl^.inr #[o,e _ _ h]
 .exact .inr h
noncomputable def jG(env:Env):List (Str×NameKind)->List (Str×Addr)->List (Str×Addr)
 | [],a=>a
 | (n,k)::r,a=>if k==NameKind.free then jG env r ((n,(env.cells.lookup n).getD 0)::a) else jG env r a
def gH(h:∀x∈b.names,x.2= .free->∃c,env.cells.lookup x.1\c):closureFor b env=pure^jG env b.names []:=by
 simp only[closureFor]
 have j:∀(names:List (ee×ix))(d:List (ee×Addr)),(∀x∈names,x.2= .free->∃c,env.cells.lookup x.1\c)->
   (forIn names d λx e=>if (x.snd==NameKind.free)=true then(do let a <-cellOf env x.fst;pure^ForInStep.yield ((x.fst,a)::e)) else pure^ForInStep.yield e)=(pure^jG env names d:j9 _):=by
  intro names
  induction names with
  |nil=>intro d _;rfl
  |cons x r l=>
   obtain⟨n,k⟩:=x;intro d h;rw[afb,jG];have f:=λd=>l d λy m=>h y^dY _ m;cases g:k==NameKind.free with
   |false=>
    simp only[g,fG,PP];exact f d
   |true=>
    have o:k= .free:=by simpa using g
    obtain⟨c,i⟩:=h (n,k) c5 o;simp only at i;simp only[ac4,cellOf,i];exact f _
 rw[j _ _ h];rfl
theorem gG:∀(names:List (ee×ix))(a:List (ee×Addr)),(∀x∈names,x.2= .free->∃c,env.cells.lookup x.1\c)->(∀x c,a.lookup x\c->env.cells.lookup x\c)->
  ∀x c,(jG env names a).lookup x\c->env.cells.lookup x\c
 | [],a,_,b=>b
 | (n,k)::r,a,h,b=>by
  rw[jG]
  split
  .rename_i g
   refine gG r _ (λy d=>h y^dY _ d) λx c e=>?_;let⟨l,f⟩:=h (n,k) c5^~~~g
   rw[wx] at e
   split at e
   .rename_i i
    have j:x=n:=by simpa using i
    subst j;simp only at f;rw[f] at e ⊢;exact e
   .exact b x c e
  .exact gG r a (λy d=>h y^dY _ d) b
theorem qV{env:Env}:∀(names:List (Str×NameKind))(a:List (Str×Addr))(x:Str),((x,NameKind.free)∈names\/∃c,a.lookup x\c)->∃c,(jG env names a).lookup x\c
 | [],a,x,h=>by
  rcases h with h|h
  .cases h
  .exact h
 | (n,k)::r,a,x,h=>by
  rw[jG]
  split
  .rename_i b
   refine qV r _ x ?_
   by_cases e:x=n
   .subst e;exact .inr #[(env.cells.lookup x).getD 0,by simp[wx]]
   .have ne:(x==n)=false:=by simpa using e
    rcases h with h| ⟨c,h⟩
    .rcases dS.mp h with z|z
     .cases z;exact absurd rfl e
     .exact .inl z
    .exact .inr #[c,by rw[wx,ne];exact h]
  .rename_i b
   refine qV r a x ?_
   rcases h with h|h
   .rcases dS.mp h with z|z
    .cases z;exact absurd rfl b
    .exact .inl z
   .exact .inr h
noncomputable def lD(src:List^Option Nat)(a:St):St:=src.map λo=>o.bind λi=>(a[i]?).bind id
def dE(a:Scope)(b:List ee):List^Option Nat->List ee->Prop
 | [],[]=>True
 |none::r,_::n=>dE a b r n
 |some i::r,x::n=>b[i]?\x/\a.names.lookup x\.free/\dE a b r n
 |_,_=>False
theorem dE.len:∀{src:List^Option Nat}{NC:List ee},dE a b src NC->src.length=NC.length
 | [],[],_=>rfl
 |none::r,_::n,h=>by have:=dE.len (src:=r) (NC:=n) h;simp[this]
 |some i::r,_::n,h=>by have:=dE.len (src:=r) (NC:=n) h.2.2;simp[this]
 | [],_::_,h=>h.elim
 |none::_,[],h=>h.elim
 |some _::_,[],h=>h.elim
theorem dE.at{a:Scope}:∀{src:List^Option Nat}{NC:List ee}{j i:Nat}{x:ee},dE a d src NC->src[j]?\(some i)->NC[j]?\x->d[i]?\x/\a.names.lookup x\.free
 | [],[],_,_,_,_,h,_=>by simp at h
 |none::r,_::n,0,_,_,_,h,_=>by simp at h
 |none::r,_::n,j+1,i,x,h,b,c=>dE.at (src:=r) (NC:=n) (j:=j) h (~~~b)^~~~c
 |some k::r,y::n,0,i,x,h,b,c=>by
  have e:k=i:=by simpa using b
  have f:y=x:=by simpa using c
  subst e f;exact#[h.1,h.2.1]
 |some k::r,_::n,j+1,i,x,h,b,c=>dE.at (src:=r) (NC:=n) (j:=j) h.2.2 (~~~b)^~~~c
 | [],_::_,_,_,_,h,_,_=>h.elim
 |none::_,[],_,_,_,h,_,_=>h.elim
 |some _::_,[],_,_,_,h,_,_=>h.elim
structure bD (X:Cx) (scope:Scope):Prop where
 kind:scope.kind= .function
 names:∀x∈scope.names,x.2= .local->scope.names.lookup x.1\.local
 nocell:∀x∈scope.names,x.2≠ .cell
 free:∀x∈scope.names,x.2= .free->X.env.kindOf x.1\.cell\/X.env.kindOf x.1\.free
theorem ic{env:Env}:∀(names:List (Str×NameKind))(x:Str),
  (names.map λ(n,k)=>if (k==NameKind.free&&env.scope.kind== .function&&env.kindOf n==some .cell) then(n,NameKind.cell) else(n,k)).lookup x=
   (names.lookup x).map λk=>if (k==NameKind.free&&env.scope.kind== .function&&env.kindOf x==some .cell) then NameKind.cell else k
 | [],_=>rfl
 | (n,k)::r,x=>by
  have c:=ic (env:=env) r x;show bu x ((if (k==NameKind.free&&env.scope.kind== .function&&env.kindOf n==some .cell)=true then(n,NameKind.cell) else(n,k))::_)=_;cases b:x==n with
  |true=>
   have e:x=n:=by simpa using b
   subst e
   by_cases a:(k==NameKind.free&&env.scope.kind== .function&&env.kindOf x==some .cell)=true
   .rw[mo a,wx,wx]
    simp only[b];show some NameKind.cell\(if _ then _ else _);rw[mo a]
   .rw[tz a,wx,wx]
    simp only[b];show some k\(if _ then _ else _);rw[tz a]
  |false=>
   by_cases a:(k==NameKind.free&&env.scope.kind== .function&&env.kindOf n==some .cell)=true
   .rw[mo a];simp only[wx,b];exact c
   .rw[tz a];simp only[wx,b];exact c
def mem_lookup{names:List (Str×NameKind)}{x:Str}{k:NameKind}(h:names.lookup x\k):(x,k)∈names:=ac3 h
noncomputable def bG(X:Cx)(a:Scope)(NC:List Str)(ex:List Addr)(s:Shared)(H:Hp):Cx:=
 {X with N:=NC,s₀:=s,H₀:=H,env:=compEnvC a (jG X.env a.names []) s.heap.objs.size X.env,outer:=X.stack,stack:=X.stack,ex:=ex,fn:=λ_=>false,pn:= [],xe:=λ_ _=>False}
section
variable {X:Cx} {pins:List (Addr×Obj)} {σ:St} {H:Hp} {s:c_} {scope:Scope} {NC:List ee} {ex:List Addr} {src:List^Option Nat}
theorem bD.cells(c:bD X scope)(ok:X.Ok):∀x∈scope.names,x.2= .free->∃c,X.env.cells.lookup x.1\c:=λx a e=>ok.has x.1^c.free x a e
def bD.Zk(c:bD X scope)(h:(compEnvC scope (jG X.env scope.names []) C X.env).kindOf x\k)(i:k= .cell\/k= .free):scope.names.lookup x\.free:=by
 have a:(j_ scope X.env).names.lookup x\k:=h;unfold j_ at a;rw[ic] at a;cases e:scope.names.lookup x with
 |none=>rw[e] at a;cases a
 |some b=>
  have g:=c.nocell _^mem_lookup e;rw[e] at a;have f:(if (b==NameKind.free&&X.env.scope.kind== .function&&X.env.kindOf x==some .cell) then NameKind.cell else b)=k:=Do a
  by_cases d:b= .free
  .rw[d]
  .have j:(b==NameKind.free)=false:=by simpa using d
   rw[j,afn,afn,tz dP] at f
   rcases i with z|z
   .rw[f] at g;exact absurd z g
   .rw[f] at d;exact absurd z d
def Pp(I:Inv X pins σ H s)(c:bD X scope)(f:∀b∈ex,fH X pins H b)(g:∀b∈ex,b<s.heap.objs.size):(bG X scope NC ex s H).Ok where
 mod:=I.ok.mod
 kind:=c.kind
 glob:=I.ok.glob
 blt:=I.ok.blt
 above:=bh _
 inj:=λx y d i j=>I.ok.inj x y d (gG _ _ (c.cells I.ok) (λ_ _ z=>by cases z) x d i) (gG _ _ (c.cells I.ok) (λ_ _ z=>by cases z) y d j)
 has:=λx k=>qV _ _ x (.inl^mem_lookup^by rcases k with h|h<;>exact c.Zk h^by simp)
 cab:=λ_ _ z=>by cases z
 hd:=I.ok.hd
 frames:=I.ok.frames
 stk:= .inl rfl
 exf:=λb a=>#[bL^g b a,λx d e=>(f b a).2.2.2.2.1 x d^gG _ _ (c.cells I.ok) (λ_ _ z=>by cases z) x d e]
 bs:=I.bs
 bsz:=jj I.ok.bsz I.sz
 noex:=λb o e a=>by
  rcases(f b a).2.2.2.1 with z|z
  .exact I.ok.noex b o e z
  .exact absurd (dj (Da e)^jj I.ok.bsz z) (km _)
 exfs:=λb a z=>(dS.mp^I.FY b z).elim (f b a).2.1 (f b a).2.2.1
 funs:=I.stack
 frf:=I.Bw
theorem CW{tk:Nat}(I:Inv X pins σ H s)(c:bD X scope)(A:dE scope X.N src NC)(E:∀b∈ex,fH X pins H b)(F:∀b∈ex,b<s.heap.objs.size)
  (G:h.Ns s.heap.objs.size^λ_=>none) (J:Heap.SameBut s.heap.objs.size (s.heap.push C) h):
  Inv (bG X scope NC ex s H) [] (lD src σ) H {s with heap:=h,toks:=tk}:=by
 have f:∀b o,s.heap.get? b\o->h.get? b\o:=λb o e=>J.extBut b o (bL^Da e)^AC _ e;have t:∀x d,(jG X.env scope.names []).lookup x\d->X.env.cells.lookup x\d:=λx d=>gG _ _ (c.cells I.ok) (λ_ _ z=>by cases z) x d
 have a:∀d v,s.heap.IsCell d v->h.IsCell d v:=λd v #[o,L,k]=>#[o,f d o L,k];refine#[Pp I c E F,rfl,I.bare,Un.kept f,#[_,G,λj x v M O Y=>?_],λx d e=>?_,I.hok.fresh^bh _,λx d e=>I.freeC x d^t x d e,λp P=>absurd (show p∈([]:List (Addr×Obj)) from P)^by simp,I.hok.kept f,?_]
 .have g:(lD src σ)[j]?\(some v):=O
  unfold lD at g;rw[fm] at g;cases w:src[j]? with
  |none=>rw[w] at g;cases g
  |some o=>
   rw[w] at g;cases o with
   |none=>cases g
   |some i=>
    have n:(σ[i]?).bind id\v:=Do g
    have Q:σ[i]?\(some v):=by
     cases q:σ[i]? with
     |none=>rw[q] at n;cases n
     |some z=>rw[q] at n;exact KF some n
    rfl';let⟨S,y⟩:=A.at w M;have B:=c.free _ (mem_lookup y) rfl;let⟨m,hn,T⟩:=I.loc;let⟨u,r,l⟩:=T i x v S Q^B.elim (λz=> .inr^.inl z)^λz=> .inr^.inr z;ac_rfl;refine#[u,r, .inr #[?_,?_]]
    .show(j_ scope X.env).names.lookup x=_\/(j_ scope X.env).names.lookup x=_
     unfold j_;rw[ic,y]
     by_cases z:(NameKind.free==NameKind.free&&X.env.scope.kind== .function&&X.env.kindOf x==some .cell)=true
     .left;simp only[BP,z,ac4]
     .right;simp only[BP,z];rfl
    .obtain⟨d,k⟩:=qV (env:=X.env) scope.names [] x^.inl^mem_lookup y
     exists d,k
     rcases l with ⟨l,_⟩ | ⟨_,d',e,z⟩
     .exfalso;rcases B with z|z<;>(rw[l] at z;cases z)
     .rw[t x d k] at e;cases e;exact a d _ z
 .obtain⟨v,z⟩:=I.cell x d^t x d e
  exact#[v,a d v z]
 .show(lD src σ).length=NC.length
  unfold lD;rw[aI];exact A.len
def comp_back(I:Inv X pins σ H s)(m:∀b∈ex,fH X pins H b)(J:Inv (bG X scope NC ex s H) l k g c)
  (p:Heap.SameBut s.heap.objs.size c.heap h):Inv X pins σ g {c with heap:=h}:=by
 have up:∀b o,b≠s.heap.objs.size->c.heap.get? b\o->h.get? b\o:=λb o a e=>p.extBut b o a e;have ne:∀b o,s.heap.get? b\o->b≠s.heap.objs.size:=λb o e=>bL^Da e;have u:=J.base;refine I.Jq (ch:=ex) (show c.os=s.os from J.os) #[λb o e n a f=>up b o (ne b o e)^u.keep b o e n a f,λb o e n a f=>?_,u.free,λb o e f=>?_,u.tups,u.frzs,u.tbls] ?_ J.bare λb a=>?_
 .obtain⟨r,q⟩:=u.slot b o e n a f
  exact#[r,up b _ (ne b o e) q]
 .obtain⟨i,q⟩:=u.there b o e f
  exact#[i,up b i (ne b o e) q]
 .intro b o e
  have j:∀b o,g b\o->b≠s.heap.objs.size:=λb o e z=>by
   have:=J.free
   rw[z] at e;have t:g s.heap.objs.size=none:=this;rw[t] at e;cases e
  refine(J.hok b o e).pz (λd v w q=>up d v ?_ q) (λ_ q=>q) λ_ _ q=>q
  rcases w with z|z
  .rw[z];exact j b o e
  .exact j d _ z
 .obtain⟨_,x,_,y,A,B⟩:=m b a
  exact#[y,x,A,B]
end
def kP(X:Cx)(b:List e_)(t:TT):Prop:=
 ∀(a:List (Addr×Obj))(s:c_)(d:St)(H:Hp)(Q:Bool->Hp->Prop),Inv X a d H s->t d H Q->
  d7 (d5 X.prog X.w) X.A (forIn b true λc r=>if r=true then do let ok <-isTrue c X.env^fC c X.env;pure^ForInStep.yield ok else pure^ForInStep.yield r) (TP X a d Q) X.xe s
def MU:TT:=λ_ H Q=>Q true H
def qt:kP X [] MU:=λ_ _ _ H _ I h=>wpAny_tests_nil #[H,I,h]
def Ik(h:PT X c t):kP X [c] t:=λa s b H Q I q=>wpAny_tests_one^h a s b H Q I q
def LCW(J:It)(g:TG)(o:TT)(p:TE)(D:Addr)(Q:VK)(q:St)(H:Hp):Prop:=
 ∃W:Nat->Nat->St->Hp->Prop,(∃m,W 0 m q H)/\∀i m e a,W i m e a->
  (J.stop i a/\Q (.ref D) a)\/
  (J.go i a/\∃N:St->Hp->Prop,(∀f h,N f h->∃j,j<m/\W (i+1) j f h)/\∀x k,J.yld i a x k->g x e k λc r=>o c r λb l=>
   if b=true then p c l λv n=>∃d,n D\(.lst d)/\d.length<sizeLine/\N c^upd n D^.lst (d++ [v]) else N c l)
def SV(c:TI)(g:TG)(d:TT)(e:TE)(src:List^Option Nat):TE:=λa H Q=>c a H λJ b=>∀D,b D=none->LCW J g d e D Q (lD src a)^upd b D^.lst []
section
variable {X:Cx} {elt iter tg:e_} {ifs:List e_} {scope:Scope} {pos:ip} {wi:TI} {g:TG} {tt:TT} {te:TE} {src:List^Option Nat} {NC:List ee}
theorem xX{RR:b_->Addr->k_->c_->Prop}{Q:VK}
  (hc:X.calm=true) (c:bD X scope) (eQ:dE scope X.N src NC) (I2:Inv X j σ I B) (T:Turn X.prog X.w X.K tg J F it tn) (jB:tn 0 B.heap) (f2:∀b∈F,fH X j I b)
  (hg:∀s H,PG (bG X scope NC F s H) tg g) (ht:∀s H,kP (bG X scope NC F s H) ifs tt) (he:∀s H,PE (bG X scope NC F s H) elt te)
  (hW:∀D,I D=none->∃W:Nat->Nat->St->Hp->Prop,(∃m,W 0 m (lD src σ)^upd I D^.lst [])/\∀i m dq I,W i m dq I->
   (J.stop i I/\Q (.ref D) I)\/
   (J.go i I/\∃N:St->Hp->Prop,(∀G a,N G a->∃m',m'<m/\W (i+1) m' G a)/\∀x Y,J.yld i I x Y->g x dq Y λeU H4=>tt eU H4 λb H5=>
    if b=true then te eU H5 λv H6=>∃ys,H6 D\(.lst ys)/\ys.length<sizeLine/\N eU^upd H6 D^.lst (ys++ [v]) else N eU H5))
  (JT:∀D C Y G a M,Inv X j σ Y C->(∀b∈F,fH X j Y b)->Inv (bG X scope NC F C Y) [] G a M->Q (.ref D) a->RR (.ref D) C.heap.objs.size (.ok .next) M):
  d7 (d5 X.prog X.w) X.A (newList []) (λacc wa=>d7 (d5 X.prog X.w) X.A (jo scope X.env.globals (jG X.env scope.names []) [] X.env.qual none .none^some X.env) (λlY wb=>
   gl (d5 X.prog X.w) X.A (.compStart (.ListComp elt [#[tg,iter,ifs,0]] scope pos) 0 (.ref it) acc {lY with scope:=j_ scope X.env}) (RR acc lY.locals) wb) E wa) E B:=by
 rfl';obtain⟨W,⟨m0,w0⟩,turn⟩:=hW B.heap.objs.size I2.fresh;have I3:Inv X j σ (upd I B.heap.objs.size^.lst []) {B with heap:=B.heap.push {cls:= .type "list",data:= .seq ([]:List b_).toArray}}:=I2.Ro (its:= []) (t':=B.toks) .nil^d9 _
 ac_rfl
 have Ks:∀b∈F,b<B.heap.objs.size:=λb l=>by
  let⟨o,e,P⟩:=T.obj _ _ jB b l;exact Da e
 have f3:∀b∈F,fH X j (upd I B.heap.objs.size^.lst []) b:=λb l=>#[by rw[af^bL^Ks b l];exact(f2 b l).1,(f2 b l).2]
 refine acV ?_
 suffices key:∀C:c_,Inv X j σ (upd I B.heap.objs.size^.lst []) C->(∀b o,B.heap.get? b\o->C.heap.get? b\o)->
   d7 (d5 X.prog X.w) X.A (jo scope X.env.globals (jG X.env scope.names []) [] X.env.qual none .none^some X.env) (λlY wb=>
    gl (d5 X.prog X.w) X.A (.compStart (.ListComp elt [#[tg,iter,ifs,0]] scope pos) 0 (.ref it) (.ref B.heap.objs.size) {lY with scope:=j_ scope X.env}) (RR (.ref B.heap.objs.size) lY.locals) wb) E C from
  key _ I3 λb o e=>AC _ e
 intro C I3 up3;have zx:tn 0 C.heap:=T.keep _ _ _ jB λb _ o e=>up3 b o e
 have Kt:∀b∈F,b<C.heap.objs.size:=λb l=>by
  let⟨o,e,P⟩:=T.obj _ _ zx b l;exact Da e
 generalize hH3:upd I B.heap.objs.size^.lst []=Y at I3 f3 w0;refine wpAny_newFunctionEnv c.nocell (by intro y hy;simp at hy) (λh1 E6 Fd=>?_) c.kind
 have I4:=CW (src:=src) (NC:=NC) (ex:=F) (tk:=C.toks+([]:List (ee×b_)).length) I3 c eQ f3 Kt E6 Fd;have SQ:tn 0 h1:=T.keep _ _ _ zx λb l o e=>Fd.extBut b o (bL^Kt b l)^AC _ e;generalize L:bG X scope NC F C Y=k at I4
 have R:∀{a:Hp},(∀b∈F,a b=none)->∀b∈F,fH k [] a b:=λ {a} hn b l=>by
  subst L;refine#[hn b l,bL^Kt b l,λz=>?_, .inl l,λx d e=>?_,λp hp=>absurd (show p∈([]:List (Addr×Obj)) from hp)^by simp]
  .exact(I4.ok.exfs b l) z
  .exact(I4.ok.exf b l).2 x d e
 have Z:gl (d5 X.prog X.w) X.A (.compLoop (.ListComp elt [#[tg,iter,ifs,0]] scope pos) 0 (.ref it) (.ref B.heap.objs.size) k.env) (RR (.ref B.heap.objs.size) C.heap.objs.size)
   {C with heap:=h1,toks:=C.toks+([]:List (ee×b_)).length}:=by
  refine afu rfl (λn M=>∃i G a,Inv k [] G a M/\tn i M.heap/\(∀b∈F,a b=none)/\W i n G a) (λn M hI=>?_) m0 #[0,_,_,I4,SQ,λb l=>(f3 b l).1,w0];let⟨i,G,a,I5,zy,tH,w5⟩:=hI;show d7 _ X.A ((compTurn (.ListComp elt [#[tg,iter,ifs,0]] scope pos) 0 (.ref it) (.ref B.heap.objs.size) k.env).onRaise^λx=>do kv x k.env;theTreesLotGoes x) _ _ M
  refine wpAny_noted ?_;rw[compTurn_list]
  have mG:∀{α:Type}{t:j9 α}{Q:α->c_->Prop}{E:b_->c_->Prop}{s:c_},d7 (d5 k.prog k.w) k.A t Q k.xe s->d7 (d5 X.prog X.w) X.A t Q E s:=λ {α t Q E s} h=>by
   subst L;exact gv h (λ_ _ q=>q) λ_ _ f=>f.elim
  have NQ:k.calm=true:=by subst L;exact hc
  have eP:k.prog=X.prog:=by subst L;rfl
  have ew:k.w=X.w:=by subst L;rfl
  have eK:k.K=X.K:=by subst L;rfl
  have eA:k.A=X.A:=by subst L;rfl
  have YE:PG k tg g:=by subst L;exact hg _ _
  have Y0:kP k ifs tt:=L▸ht _ _;have Yz:PE k elt te:=L▸he _ _;refine a_^W1^a_ ?_
  rcases turn i n G a w5 with ⟨stop,qn⟩ | ⟨go,N,hN,step⟩
  .have hd:=T.done k eP ew eK NQ i [] M G a (notedBy (d5 X.prog X.w) X.A k.env λe M=>RR (.ref B.heap.objs.size) C.heap.objs.size (.error e) M) I5 (R tH) zy stop
   rw[eA] at hd;refine thn hd λr s6 O=>?_;let⟨hr,I6⟩:=O;subst hr;refine ir ?_;subst L;exact JT _ C Y G a s6 I3 f3 I6 qn
  .have hd:=T.item k eP ew eK NQ i [] M G a (notedBy (d5 X.prog X.w) X.A k.env λe M=>RR (.ref B.heap.objs.size) C.heap.objs.size (.error e) M) I5 (R tH) zy go
   rw[eA] at hd;refine thn hd λr s6 O=>?_;rfl';let⟨u,hr,h6⟩:=O;ac_rfl;subst hr;refine a_ (thn h6 λ_ s7 O=>?_);rfl';let⟨x,H7,I7,r7,y7,Bt,Qg⟩:=O;ac_rfl;have O4:=I7.pinned (R Qg)^T.obj _ _ Bt
   have again:∀{S:St}{H8:Hp}{s8:c_},Inv k ([]++oF F s7.heap) S H8 s8->N S H8->∃m,m<n/\∃i G a,Inv k [] G a s8/\tn i s8.heap/\(∀b∈F,a b=none)/\W i m G a:=λ {S H8 s8} I8 n8=>by
    let⟨m',hm,w8⟩:=hN S H8 n8;refine#[m',hm,i+1,S,H8,I8.kN,T.keep _ _ _ Bt λb l o e=>(I8.pin (b,o)^fW _^fW _^fI l e).1,λb l=>?_,w8];let⟨o,e,d⟩:=T.obj _ _ Bt b l;exact(I8.pin (b,o)^fW _^fW _^fI l e).2.1
   refine a_^mG (thn (YE _ s7 G H7 x u _ O4 r7^step x H7 y7) λ_ s8 O=>?_);rfl';let⟨S,H8,I8,q8⟩:=O;ac_rfl;refine a_^mG (thn (Y0 _ s8 S H8 _ I8 q8) λb s9 O=>?_);let⟨H9,I9,q9⟩:=O;cases b with
   |false=>
    rw[tz dP] at q9;exact ir #[L▸rfl,again I9 q9]
   |true=>
    rw[mo rfl] at q9;refine a_^a_^mG (thn (Yz _ s9 S H9 _ I9 q9) λy Be O=>?_);rfl';let⟨v,zd,O3,Si,ys,hD,hz,Sh⟩:=O;ac_rfl;refine a_^mG (thn (jz _ Be S zd (.ref B.heap.objs.size) [v] _ [y] (λ_ a=>N S a) O3 rfl (.cons Si .nil) #[_,ys,v,rfl,rfl,hD,hz,Sh]) λ_ FN O=>?_);rfl';let⟨P,B4,Es,U,K1⟩:=O;ac_rfl;exact ir^ir #[L▸rfl,again Es K1]
 subst L;exact afi Z^T.self _ 0 _ _ _ SQ Z
def KL(i:X.calm=true)(c:bD X scope)(j:dE scope X.N src NC)(k:PI X tg iter wi)
  (l:∀b s H,PG (bG X scope NC b s H) tg g) (n:∀b s H,kP (bG X scope NC b s H) ifs tt) (o:∀b s H,PE (bG X scope NC b s H) elt te)
  (p:(∀x,ey iter X.env x=pure x)<|>xx):PE X (.ListComp elt [#[tg,iter,ifs,0]] scope pos)^SV wi g tt te src:=by
 intro a s e H Q I h;rw[eval_ListComp];refine ade (use:=none) rfl p (gH^c.cells I.ok) c.kind c.names (thn (k a s e H _ I h) λv R r=>thn r λS Y t=>?_);rfl';let⟨it,d,tn,J,H2,rfl,y,T,B,E,F⟩:=t;ac_rfl;refine xX (RR:=λacc C=>compPost (d5 X.prog X.w) X.A X.xe none (EP X a e Q) acc C) (Q:=Q) i c j y T B E (l d) (n d) (o d) F ?_;intro D s3 H3 ax G s' L M f q;let⟨m,O,u⟩:=f.loc;exact#[m,O,λh' P=>#[.ref D,G,comp_back L M f P,rfl,q]]
def VY(b:TI)(g:TG)(c:TT)(d:TE)(src:List^Option Nat)(i:Nat):TS:=λD a H=>SV b g c d src a H λv e=>D.nx (a.set i^some v) e
theorem nB{i:Nat}(hc:X.calm=true)(hN:X.N.Nodup)(gZ:X.N[i]?\x)(hx:Loc X.env.scope x)(c:bD X scope)(eQ:dE scope X.N src NC)(hi:PI X tg iter wi)
  (hg:∀t s H,PG (bG X scope NC t s H) tg g) (ht:∀t s H,kP (bG X scope NC t s H) ifs tt) (he:∀t s H,PE (bG X scope NC t s H) elt te)
  (w6:gs (.ListComp elt [#[tg,iter,ifs,0]] scope pos) (some^.Name x r) S.line X.env=pure true)
  (hf:X.fn x=true\/X.env.scope.names.lookup x\.local<|>xz)
  (hs:(∀x,ey iter X.env x=pure x)<|>xx):PS X (.Assign [.Name x r] (.ListComp elt [#[tg,iter,ifs,0]] scope pos) S)^VY wi g tt te src i:=by
 intro f s u H D I h;rw[exec_Assign_Name_used _ _ _ _ w6];refine a_^W1^a_ ?_;show d7 _ X.A (do let _ <-comprehension (.ListComp elt [#[tg,iter,ifs,0]] scope pos) scope X.env _ (newList []) false (fC iter X.env)^some^jq (.Name x r) X.env) _ _ s
 refine a_ (gv (ade (use:=some^jq (.Name x r) X.env) (Q:=λ_ j=>SP X f D .next j) rfl hs (gH^c.cells I.ok) c.kind c.names
  (thn (hi f s u H _ I h) λv s1 h1=>thn h1 λAB s2 h2=>?_)) (λ_ j hq=>ir^ir hq) λ_ _ e=>e)
 rfl';obtain⟨it,G,tn,J,H2,rfl,I2,T,jB,f2,hW⟩:=h2;ac_rfl;refine xX (RR:=λacc C=>compPost (d5 X.prog X.w) X.A X.xe (some^jq (.Name x r) X.env) (λ_ j=>SP X f D .next j) acc C) (Q:=λv k=>D.nx (u.set i^some v) k) hc c eQ I2 T jB f2 (hg G) (ht G) (he G) hW ?_;intro a l H3 ax k j n f3 L q;obtain⟨m,hn,_⟩:=L.loc;have Y:Inv X f u k j:=comp_back n f3 L (.refl ..);have Z:l.heap.objs.size≠X.env.locals:=jV n.lt
 have nc:∀y d,X.env.cells.lookup y\d->d≠l.heap.objs.size:=λy d e z=>by
  obtain⟨v,hv⟩:=n.cell y d e
  have:=hv.lt
  rw[z] at this;exact absurd this^km _
 have np:∀p∈X.pn++f,p.1≠l.heap.objs.size:=λp B z=>by
  have:=Da (n.pin p B).1
  rw[z] at this;exact absurd this^km _
 rfl';obtain⟨M,es,ep,O,Uq,rC⟩:=id hn;have E:k l.heap.objs.size=none:=L.free;ac_rfl
 have IP:Inv X ((l.heap.objs.size,M)::f) u k j:=Y.vH λp B=>by
  rcases dS.mp B with z|z
  .rw[z]
   exact#[O,E,Z,n.W2^bh _,λv w=>by rw[Uq] at w;cases w]
  .exact Y.pin p^fW _ z
 refine wpAny_assign_Name^kM (x:=x) IP hN gZ hx (v:= .ref a) rfl (λs5 P=>?_) hf;have R:=(P.pin (l.heap.objs.size,M)^fW _ c5).1;refine#[m,#[M,es,ep,R,Uq,rC],λh6 sb=>?_];have Xm:Inv X f (u.set i^some^.ref a) k s5:=P.vH λp B=>P.pin p^fW _^dY _ B;exact#[_,k,Xm.turned (t':=s5.toks) (it:=l.heap.objs.size) (λb o hb e=>sb.extBut b o hb e) E Z (.inr n.sz) nc np,q]
end
def Fh(n:Nat)(c:Nat->St->Hp->Prop)(s:c 0 a H)
  (h:∀i a H,i<n->c i a H->J.go i H) (t:∀i a H,n<=i->c i a H->J.stop i H)
  (u:∀i x a H d,i<n->c i a H->J.yld i H x d->g x a d λf w=>l f w λb q=>
   if b=true then o f q λv r=>∃j,r D\(.lst j)/\j.length<sizeLine/\c (i+1) f^upd r D^.lst (j++ [v]) else c (i+1) f q)
  (A:∀a H,c n a H->Q (.ref D) H):LCW J g l o D Q a H:=by
 refine#[λi m a H=>m=n-i/\i<=n/\c i a H,#[n,by simp,d9 _,s],?_]
 rintro i m a H ⟨rfl,C,p⟩
 by_cases k:i<n
 .exact .inr #[h i a H k p,c (i+1),λE F B=>#[n-(i+1),(),rfl,k,B],λx d y=>u i x a H d k p y]
 .have e:i=n:=()
  subst e;exact .inl #[t _ a H (bh _) p,A a H p]
section
variable {X:Cx} {pins:List (Addr×Obj)} {σ:St} {H:Hp} {s:Shared} {h':Heap} {fp:List Addr}
def Inv.IS{t':Nat}(I:Inv X pins σ H s)(d:∀b∈fp,fH X pins H b)(k:∀b o,b∉fp->s.heap.get? b\o->h'.get? b\o):Inv X pins σ H {s with heap:=h',toks:=t'}:=by
 refine I.step (g':=s.gens) (d':=s.drawn) (ch:=fp) (λb g=>?_) (λb o _ _ a e _=>k b o a e) (λb o _ _ a e _=>#[o.slots,k b o a e]) (λ_ _ _ _ n=>n)
  (λb o a e=>#[o,k b o a e]) (λ_ _ e=>e) (λ_ _ _ e=>e) (λb y e=>#[#[],by rw[e];simp]) (λm h=>?_) (λb u e=>?_) I.bare
 .obtain⟨_,i,_,j,l,p⟩:=d b g
  exact#[j,i,l,p]
 .obtain⟨o,t,w,x,r⟩:=h
  exact#[o,t,w,k _ o (λz=>(d _ z).2.1 rfl) x,r]
 .have f:∀b u,H b\u->b∉fp:=λb u e z=>by rw[(d b z).1] at e;cases e
  refine(I.hok b u e).pz (λc v a q=>k c v ?_ q) (λ_ q=>q) λ_ _ q=>q
  rcases a with z|z
  .rw[z];exact f b u e
  .exact f c _ z
def Inv.Ta(I:Inv X pins σ H s)(f:∀b∈fp,fH X pins H b)(k:∀b o,b∉fp->s.heap.get? b\o->h'.get? b\o)(h:s.heap.objs.size<=t)
  (new:cp X.prog X.w (upd H t o) h' t o):Inv X pins σ (upd H t o) {s with heap:=h',toks:=t'}:=by
 have j:H t=none:=I.hok.fresh h;have up:∀b u,H b\u->upd H t o b\u:=λb u e=>by rw[af^aq e j];exact e
 refine I.step (g':=s.gens) (d':=s.drawn) (ch:=fp) (λb d=>?_) (λb o _ _ a e _=>k b o a e) (λb o _ _ a e _=>#[o.slots,k b o a e]) (λb o _ e n=>?_)
  (λb o a e=>#[o,k b o a e]) (λb F e=>up b _ e) (λb _ _ e=>up b _ e) (λb G e=>#[#[],by rw[up b _ e];simp]) (λm l=>?_) (λb u e=>?_) I.bare
 .obtain⟨_,p,_,x,y,A⟩:=f b d
  exact#[x,p,y,A]
 .rw[af^bL^dj (Da e) h];exact n
 .obtain⟨o,B,C,E,r⟩:=l
  exact#[o,B,C,k _ o (λz=>(f _ z).2.1 rfl) E,r]
 .by_cases d:b=t
  .subst d
   rw[ae] at e;cases Do e;exact new
  .rw[af d] at e
   have i:∀b u,H b\u->b∉fp:=λb u e z=>by rw[(f b z).1] at e;cases e
   refine(I.hok b u e).pz (λc v a q=>k c v ?_ q) (λg q=>up g _ q) λg _ q=>up g _ q
   rcases a with z|z
   .rw[z];exact i b u e
   .exact i c _ z
end
noncomputable def M6(K:ad)(a:Addr):It:=
 #[λi H=>∃b x,aJ K H a b/\b[i]?\x,λi H y c=>∃t x,y= .ref t/\H t=none/\c=upd H t^.tup [.int i,x]/\∀b,aJ K H a b->b[i]?\x,λi H=>∃b,aJ K H a b/\b.length<=i]
def yB(e:h.get? t\{cls:= .type "tuple",data:= .seq [u,v].toArray}):IsTup h t [u,v].toArray:=#[_,e,rfl,_,rfl]
def Lo{P:ec}{w:ei}{K:ad}{es:List e_}{k1}{tp:ip}(a e l:Addr)(ne:e≠l):
  Turn P w K (.Tuple es k1 tp) (M6 K a) [e,l] e (λi h=>(∃g,IsEnum h e l i g)/\h.IsListIter l a i) where
 mem:=by simp
 obj:=λi h st b f=>by
  obtain⟨⟨g,m⟩,o,B,c,d⟩:=st
  rcases dS.mp f with z|z
  .subst z
   exact#[_,m,λv w=>by cases w]
  .have C:b=l:=by simpa using z
   subst C;exact#[o,B,λv z=>by rw[d] at z;cases z]
 keep:=λi h y st k=>by
  obtain⟨⟨g,m⟩,jB⟩:=st;exact#[#[g,k e (by simp) _ m],jB.at λo q=>k l (by simp) o q]
 item:=by
  intro X F hw G T i j s Y H E I r st J;rfl';subst F hw G;let⟨xs,x,A,M⟩:=J;let⟨N,O,p,hz⟩:=I.list A;let⟨u,hu,ru⟩:=O.get M;obtain⟨⟨g,m⟩,n⟩:=st;ac_rfl;refine wpAny_pyNext_enum_item m n p.isList (x:=u) (~~~hu) ne λy wV Q R acC kk=>?_
  have k2:∀b o,b∉ [e,l]->s.heap.get? b\o->y.get? b\o:=λb o f q=>kk b o (λz=>f^by simp[z]) (λz=>f^by simp[z]) q
  have I1:Inv X j Y (upd H s.heap.objs.size^.tup [.int i,x]) {s with heap:=y,toks:=s.toks+1}:=
   I.Ta r k2 (bh _) #[by show 2<=sizeLine;decide,[.int i s.toks,u], .cons #[_,rfl]^.cons ru .nil,yB R]
  refine#[_,rfl,wpAny_letOwnedTupleGo_enum wV λh2 S Z=>?_]
  have lt:∀b∈ [e,l],b<s.heap.objs.size:=λb f=>by
   rcases dS.mp f with z|z
   .rw[z];exact Da m
   .obtain⟨o,B,_⟩:=n
    have C:b=l:=by simpa using z
    rw[C];exact Da B
  have t:∀b∈ [e,l],fH X j (upd H s.heap.objs.size^.tup [.int i,x]) b:=λb f=>#[by rw[af^bL^lt b f];exact(r b f).1,(r b f).2]
  refine#[.ref s.heap.objs.size,_,I1.IS (t':=s.toks+1) t^λb o f q=>Z.extBut b o (λz=>f^by simp[z]) q,rfl,#[_,x,rfl,I.hok.fresh^bh _,rfl,λys hy=>by rw[I.DM hy A];exact M],#[#[u,?_],Q.extBut Z.extBut^Ne.symm ne],λb f=>(t b f).1]
  have z:((i+1:Nat):Int)=(i:Int)+1:=()
  rw[z];exact S
 done:=by
  intro X F hw G T i j s Y H E I r st J;rfl';subst F hw G;let⟨xs,A,M⟩:=J;let⟨N,O,p,hz⟩:=I.list A;have hl:=O.length;obtain⟨⟨g,m⟩,n⟩:=st;ac_rfl;exact wpAny_pyNext_enum_end (I.ok.hd T) m n p.isList (by simp;lia) λy eb=>#[rfl,I.IS (t':=s.toks) r λb o f q=>eb b o (λz=>f^by simp[z]) q]
 self:=λ_ _ _ _ _ st h=>by
  obtain⟨⟨g,m⟩,_⟩:=st;exact wpAny_pyIter_enum m h
section
variable {X:Cx}
def Y8(K:ad)(c:TA):TI:=λd H R=>c d H λe b=>∃a,e= [.ref a]/\(∃f,b a\(.lst f))/\R (M6 K a) b
def A7{k1}(v:Gl X "enumerate")(w:X.mg "enumerate"=none)(x:PA X [a] j)(y:d4 [a] X.env= [(false,fC a X.env)]<|>zn):
  PI X (.Tuple r k1 t) (.Call (.Name "enumerate" p) [a] [] d)^Y8 X.K j:=by
 intro f s A H R I h;refine Call_^kA I v w boot_enumerate^Wp (thn (x d f s A H _ I h) λQ c #[S,B,g,C,E]=>?_) y rfl;rfl';obtain⟨l,e,⟨Y,G⟩,q⟩:=E;subst e;let⟨u,rfl,J⟩:=C.one;subst J;let⟨z,L,n,Z,k,e⟩:=g.sE G;ac_rfl;refine call_enumerate_1 e λh' m i eZ M=>?_;refine wpAny_pyIter_enum m ?_;have N:c.heap.objs.size+1≠c.heap.objs.size:=Nat.succ_ne_self _;refine#[c.heap.objs.size+1,[c.heap.objs.size+1,c.heap.objs.size],_,_,B,rfl,g.kept (t':=c.toks) M,Lo l _ _ N,#[#[_,m],i],λb O=>?_,q]
 have o:c.heap.objs.size<=b:=by
  rcases dS.mp O with z|z
  .rw[z];exact lM _
  .have P:b=c.heap.objs.size:=by simpa using z
   rw[P];exact bh _
 exact g.Qe o^g.hok.fresh o
end
end L2
namespace Wb
abbrev W:=List^List Nat
noncomputable def row(w:W)(p:Nat):List Nat:=w.getD p []
inductive Reach (w:W):Nat->Nat->Prop
 |refl (p):Reach w p p
 |step {p q r}:Reach w p q->r∈row w q->Reach w p r
structure Good (w:W):Prop where
 rng:∀p q,q∈row w p->q<w.length
 irr:∀p,p∉row w p
 nod:∀p,(row w p).Nodup
 sym:∀p q,q∈row w p->p∈row w q
 con:∀p,p<w.length->Reach w 0 p
def ie(h:q∈row w p):p<w.length:=by
 apply GE;intro a;unfold row at h;rw[fu,gP ()] at h
 simp at h
def vL{p:Nat}(h:p<w.length):w[p]?\(row w p):=by
 unfold row;rw[fu,eE h];rfl
def VD(h:w[p]?\r):row w p=r:=by
 unfold row;rw[fu,h];rfl
def Sr(h:w.length<=p):row w p= []:=by
 unfold row;rw[fu,gP h];rfl
def Reach.trans(h:Reach w p q)(a:Reach w q r):Reach w p r:=by
 induction a with
 |refl=>exact h
 |step _ b c=>exact .step c b
def Reach.symm(a:∀p q,q∈row w p->p∈row w q){p q:Nat}(h:Reach w p q):Reach w q p:=by
 induction h with
 |refl=>exact .refl _
 |step _ b c=>exact(Reach.step (.refl _)^a _ _ b).trans c
def Reach.mono{w a:W}(b:∀p q,q∈row w p->q∈row a p){p q:Nat}(h:Reach w p q):Reach a p q:=by
 induction h with
 |refl=>exact .refl _
 |step _ c d=>exact .step d^b _ _ c
noncomputable def ins{a:Type}(b:List a)(i:Nat)(x:a):List a:=b.take i++x::b.drop i
def rh(a:List b)(i:Nat)(x:b):(ins a i x).Perm (x::a):=by
 unfold ins;have h:= @List.perm_middle _ x (a.take i)^a.drop i;rw[lG] at h;exact h
def dN:a∈ins b i x↔a=x\/a∈b:=by
 rw[(rh b i x).mem_iff,dS]
def tR(h:a.Nodup)(c:x∉a):(ins a i x).Nodup:=by
 rw[(rh a i x).nodup_iff,lK];exact#[c,h]
def Ax(a:List b)(i:Nat)(x:b):(ins a i x).length=a.length+1:=by
 rw[(rh a i x).length_eq];rfl
def ins_map(f:a->c)(b:List a)(i:Nat)(x:a):(ins b i x).map f=ins (b.map f) i^f x:=by
 unfold ins;simp[adQ,aeD]
def jQ(h:p<w.length):row (w.set p r) x=if p=x then r else row w x:=by
 unfold row;rw[fu,pD]
 by_cases e:p=x
 .rw[mo e,mo e,mo h];rfl
 .rw[tz e,tz e,fu]
def D6:row (w++ [r]) x=if x=w.length then r else row w x:=by
 unfold row;rw[fu,aec]
 split
 .rw[tz (),fu]
 .split
  .rename_i h e;subst e;simp
  .rename_i h e
   rw[fu,gP^by simp;lia,gP ()]
def NF:Good [[]]:=by
 have a:∀p,row [[]] p= []:=λp=>by
  unfold row;cases p with
  |zero=>rfl
  |succ n=>simp
 refine#[λp q h=>?_,λp h=>?_,λp=>?_,λp q h=>?_,λp h=>?_]
 .rw[a] at h;cases h
 .rw[a] at h;cases h
 .rw[a];exact iN
 .rw[a] at h;cases h
 .have:p=0:=by simp at h;exact h
  subst this;exact .refl _
noncomputable def leaf(w:W)(p i:Nat):W:=(w.set p^ins (row w p) i w.length)++ [[p]]
def rk(w:W)(p i:Nat):(leaf w p i).length=w.length+1:=by unfold leaf;simp
def OE{p i x:Nat}(h:p<w.length):row (leaf w p i) x=if x=w.length then[p] else if p=x then ins (row w p) i w.length else row w x:=by
 unfold leaf;rw[D6,i6,jQ h]
def An{p i:Nat}(g:Good w)(h:p<w.length):Good^leaf w p i:=by
 have b:=λx=>OE (i:=i) (x:=x) h;have d:∀x,w.length∉row w x:=λx a=>km _^g.rng _ _ a
 have mono:∀x q,q∈row w x->q∈row (leaf w p i) x:=λx q c=>by
  have:=ie c
  rw[b,tz ()]
  split
  .rename_i e;subst e;exact dN.mpr^.inr c
  .exact c
 refine#[λx q a=>?_,λx a=>?_,λx=>?_,λx q a=>?_,λx a=>?_]
 .rw[b] at a;rw[rk]
  split at a
  .simp at a;lia
  .split at a
   .rcases dN.mp a with e|e
    .lia
    .have:=g.rng _ _ e;lia
   .have:=g.rng _ _ a;lia
 .rw[b] at a
  split at a
  .simp at a;lia
  .split at a
   .rcases dN.mp a with e|e
    .lia
    .rename_i f;subst f;exact g.irr _ e
   .exact g.irr _ a
 .rw[b];split
  .simp
  .split
   .exact tR (g.nod _)^d _
   .exact g.nod _
 .rw[b] at a
  split at a
  .have e:q=p:=by simpa using a
   subst e
   rename_i e
   rw[b,tz (),mo rfl,e]
   exact dN.mpr^.inl rfl
  .split at a
   .rename_i e;subst e
    rcases dN.mp a with e|e
    .rw[b,mo e];simp
    .exact mono _ _^g.sym _ _ e
   .exact mono _ _^g.sym _ _ a
 .rw[rk] at a
  by_cases e:x=w.length
  .refine Reach.step ((g.con p h).mono mono) ?_
   rw[b,tz (),mo rfl,e]
   exact dN.mpr^.inl rfl
  .exact(g.con x ()).mono mono
noncomputable def zA(w:W)(p i u j:Nat):W:=(w.set p^ins (row w p) i u).set u^ins (row w u) j p
def By(w:W)(p i u j:Nat):(zA w p i u j).length=w.length:=by unfold zA;simp
def Ss{p i u j x:Nat}(a:p<w.length)(b:u<w.length):row (zA w p i u j) x=if u=x then ins (row w u) j p else if p=x then ins (row w p) i u else row w x:=by
 unfold zA;rw[jQ^~~~b,jQ a]
def NH{p i u j:Nat}(g:Good w)(l:p<w.length)(m:u<w.length)(ne:u≠p)(k:u∉row w p):Good^zA w p i u j:=by
 have b:=λx=>Ss (i:=i) (j:=j) (x:=x) l m;have d:p∉row w u:=λh=>k^g.sym _ _ h
 have mono:∀x q,q∈row w x->q∈row (zA w p i u j) x:=λx q f=>by
  rw[b]
  split
  .rename_i e;subst e;exact dN.mpr^.inr f
  .split
   .rename_i e;subst e;exact dN.mpr^.inr f
   .exact f
 refine#[λx q a=>?_,λx a=>?_,λx=>?_,λx q a=>?_,λx a=>?_]
 .rw[b] at a;rw[By]
  split at a
  .rcases dN.mp a with e|e
   .lia
   .exact g.rng _ _ e
  .split at a
   .rcases dN.mp a with e|e
    .lia
    .exact g.rng _ _ e
   .exact g.rng _ _ a
 .rw[b] at a
  split at a
  .rename_i c;subst c
   rcases dN.mp a with e|e
   .exact ne e
   .exact g.irr _ e
  .split at a
   .rename_i c;subst c
    rcases dN.mp a with e|e
    .exact ne e.symm
    .exact g.irr _ e
   .exact g.irr _ a
 .rw[b];split
  .exact tR (g.nod _) d
  .split
   .exact tR (g.nod _) k
   .exact g.nod _
 .rw[b] at a
  split at a
  .rename_i c;subst c
   rcases dN.mp a with e|e
   .subst e;rw[b,tz ne,mo rfl];exact dN.mpr^.inl rfl
   .exact mono _ _^g.sym _ _ e
  .split at a
   .rename_i c;subst c
    rcases dN.mp a with e|e
    .subst e;rw[b,mo rfl];exact dN.mpr^.inl rfl
    .exact mono _ _^g.sym _ _ e
   .exact mono _ _^g.sym _ _ a
 .rw[By] at a;exact(g.con x a).mono mono
theorem NG(g:Good w)(j:i.length=w.length)(into:∀p,p<w.length->ord p<w.length)
  (inj:∀p q,p<w.length->q<w.length->ord p=ord q->p=q) (IK:∀y,y<w.length->∃p,p<w.length/\ord p=y)
  (k:∀p,p<w.length->(row i^ord p).Perm^(row w p).map ord):Good i:=by
 have mem:∀p q,p<w.length->(q∈row i^ord p↔∃a,a∈row w p/\ord a=q):=λp q d=>by
  rw[(k p d).mem_iff,cQ]
 have reach:∀{p q},Reach w p q->Reach i (ord p)^ord q:=λ {p q} h=>by
  induction h with
  |refl=>exact .refl _
  |step _ l n=>exact .step n^(mem _ _^ie l).mpr #[_,l,rfl]
 refine#[λy q c=>?_,λy c=>?_,λy=>?_,λy q c=>?_,λy c=>?_]
 .obtain⟨p,d,rfl⟩:=IK y^by have:=ie c;lia
  let⟨a,f,rfl⟩:=(mem p q d).mp c;rw[j];exact into a^g.rng _ _ f
 .obtain⟨p,d,rfl⟩:=IK y^by have:=ie c;lia
  let⟨a,f,e⟩:=(mem p _ d).mp c
  have:=inj a p (g.rng _ _ f) d e
  subst this;exact g.irr _ f
 .by_cases c:y<w.length
  .obtain⟨p,d,rfl⟩:=IK y c
   rw[(k p d).nodup_iff];unfold c4;rw[kh];refine adf ?_^g.nod p;intro a b f o ne e;exact ne^inj a b (g.rng _ _ f) (g.rng _ _ o) e
  .rw[Sr ()];exact iN
 .obtain⟨p,d,rfl⟩:=IK y^by have:=ie c;lia
  let⟨a,f,rfl⟩:=(mem p q d).mp c;exact(mem a _^g.rng _ _ f).mpr #[p,g.sym _ _ f,rfl]
 .rw[j] at c
  let⟨p,d,rfl⟩:=IK y c;let⟨z,r,s⟩:=IK 0 ()
  have m:=reach^((g.con z r).symm g.sym).trans^g.con p d;rw[s] at m;exact m
noncomputable def jC(l:List Nat)(x:Nat):Nat:=l.getD ((l.idxOf x+1)%l.length) 0
noncomputable def sj(w:W)(d:Nat×Nat):Nat×Nat:=(d.2,jC (row w d.2) d.1)
def aU(w:W)(d:Nat×Nat):Prop:=d.2∈row w d.1
def oN(h:x∈l):l[(l.idxOf x+1)%l.length]?\(jC l x):=by
 have a:0<l.length:=wo h;unfold jC;rw[fu,eE^qQ _ a];rfl
def Li(h:x∈l):jC l x∈l:=cR^oN h
def Rr(f:a<n)(g:b<n)(e:(a+1)%n=(b+1)%n):a=b:=by
 by_cases d:a+1=n
 .by_cases c:b+1=n
  .lia
  .rw[d,aeW,yY ()] at e;lia
 .by_cases c:b+1=n
  .rw[c,aeW,yY ()] at e;lia
  .rw[yY (),yY ()] at e;lia
def Lh(g:l.Nodup)(a:x∈l)(b:y∈l)(e:jC l x=jC l y):x=y:=by
 have o:0<l.length:=wo a;have c:=oN a;have h:=oN b;rw[e] at c;have d:=BS.mpr a;have f:=BS.mpr b;let⟨p,i⟩:=cz.mp c;let⟨r,j⟩:=cz.mp h;have q:=(aeS g).mp^i.trans j.symm;have k:=Rr d f q;have m:=BX d;have n:=BX f;rw[<-m,<-n];simp only[k]
def Od(g:Good w)(h:aU w d):aU w^sj w d:=Li^g.sym _ _ h
def RA(g:Good w)(h:aU w d)(c:aU w e)(q:sj w d=sj w e):d=e:=by
 have a:d.2=e.2:=KF Prod.fst q;have b:jC (row w d.2) d.1=jC (row w e.2) e.1:=KF Prod.snd q;rw[<-a] at b;have f:d.1∈row w d.2:=g.sym _ _ h;have i:e.1∈row w d.2:=by rw[a];exact g.sym _ _ c
 exact acZ (Lh (g.nod _) f i b) a
noncomputable def bo(w:W):List (Nat×Nat):=(ak w.length).flatMap λp=>(row w p).map λq=>(p,q)
def bF:d∈bo w↔aU w d:=by
 unfold bo aU;rw[List.mem_flatMap]
 constructor
 .rintro⟨p,_,h⟩
  let⟨q,a,rfl⟩:=cQ.mp h;exact a
 .intro h
  exact#[d.1,i7.mpr^ie h,cQ.mpr #[d.2,h,rfl]]
theorem bq [DecidableEq b]:∀{l m:List b},l.Nodup->(∀x∈l,x∈m)->l.length<=m.length
 | [],_,_,_=>d9 _
 |a::r,m,g,h=>by
  have c:=lK.mp g;have d:=h a c5;have i:=bq (l:=r) (m:=m.erase a) c.2 λx f=>(List.mem_erase_of_ne^λ(e:x=a)=>c.1^by rw[<-e];exact f).mpr^h x^dY _ f
  rw[List.length_erase_of_mem d] at i
  have:=wo d
  simp only[dQ];lia
def fE(g:Good w)(p:Nat):(row w p).length<=w.length:=by
 have:=bq (m:=ak w.length) (g.nod p) λx a=>i7.mpr^g.rng _ _ a
 simpa using this
theorem Dc{f:b->List c}{k:Nat}:∀{l:List b},(∀x∈l,(f x).length<=k)->(l.flatMap f).length<=l.length*k
 | [],_=>by simp
 |a::r,h=>by
  have e:=Dc (f:=f) (k:=k) (l:=r) λx d=>h x^dY _ d
  have:=h a c5
  rw[Em,eF,dQ,Nat.succ_mul];lia
def gm(g:Good w):(bo w).length<=w.length*w.length:=by
 have:=Dc (f:=λp=>(row w p).map λq=>(p,q)) (k:=w.length) (l:=ak w.length) λx _=>by rw[aI];exact fE g x
 rw[pF] at this;exact this
noncomputable def dH(w:W):Nat->Nat×Nat->Nat×Nat
 |0,d=>d
 |n+1,d=>sj w^dH w n d
theorem iJ(g:Good w)(h:aU w d):∀n,aU w^dH w n d
 |0=>h
 |n+1=>Od g^iJ g h n
theorem AA(m:Nat):∀n,dH w (n+m) d=dH w n^dH w m d
 |0=>by rw[kn];rfl
 |n+1=>by rw[Nat.succ_add];show sj w^dH w (n+m) d=sj w^dH w n^dH w m d;rw[AA m n]
theorem HJ(g:Good w)(h:aU w d)(a:aU w e):∀n,dH w n d=dH w n e->d=e
 |0,q=>q
 |n+1,q=>HJ g h a n^RA g (iJ g h n) (iJ g a n) q
noncomputable def walk(w:W)(d:Nat×Nat)(k:Nat):List (Nat×Nat):=(ak k).map λi=>dH w i d
def t7(w:W)(d:Nat×Nat)(k:Nat):walk w d (k+1)=walk w d k++ [dH w k d]:=by
 unfold walk;rw[aed,dk];rfl
def jD(w:W)(d:Nat×Nat)(k:Nat):(walk w d k).length=k:=by unfold walk;simp
def oP(g:Good w)(h:aU w d){k:Nat}:∀e∈walk w d k,aU w e:=λe a=>by
 obtain⟨i,_,rfl⟩:=cQ.mp a;exact iJ g h i
def qN(g:Good w)(h:aU w d)(a:∀j,0<j->j<k->dH w j d≠d):(walk w d k).Nodup:=by
 unfold walk c4;rw[kh];refine adf ?_ adM;intro i j f b lt e;have l:=i7.mp b;have c:dH w i d=dH w i^dH w (j-i) d:=by rw[<-AA (j-i) i,show i+(j-i)=j by lia];exact e
 exact a (j-i) () () (HJ g h (iJ g h _) i c).symm
def wd(g:Good w)(h:aU w d){k:Nat}(a:∀j,0<j->j<k->dH w j d≠d):k<=(bo w).length:=by
 have:=bq (m:=bo w) (qN g h a) λe b=>bF.mpr^oP g h e b
 rwa [jD] at this
def GR(g:Good w){S:Nat->Prop}(c:S 0)(d:∀p q,S p->q∈row w p->S q):∀p,p<w.length->S p:=λp e=>by
 have:∀{a b},Reach w a b->S a->S b:=λ {a b} h f=>by
  induction h with
  |refl=>exact f
  |step _ i j=>exact d _ _ j i
 exact this (g.con p e) c
def lexLe(a b:Nat×Nat):Prop:=a.1<b.1\/(a.1=b.1/\a.2<=b.2)
def nq(h:lexLe a b)(c:lexLe b a):a=b:=by
 unfold lexLe at h c;exact acZ () ()
noncomputable def fg(a:Nat->List Nat)(n:Nat):List (Nat×Nat):=(ak n).flatMap λp=>((a p).filter λq=>decide (p<q)).map λq=>(p,q)
theorem qq{e c:Type}{R:c->c->Prop}{f:e->List c}:∀{l:List e},(∀x∈l,(f x).Pairwise R)->l.Pairwise (λa b=>∀x∈f a,∀y∈f b,R x y)->(l.flatMap f).Pairwise R
 | [],_,_=>List.Pairwise.nil
 |a::r,h,p=>by
  have g:=List.pairwise_cons.mp p;rw[Em,sV];refine#[h a c5,qq (λx d=>h x^dY _ d) g.2,λx d y i=>?_];let⟨b,j,k⟩:=List.mem_flatMap.mp i;exact g.1 b j x d y k
end Wb
namespace L2
open PySem PySem.Spec PyProof.Rows
section
variable {X:Cx}
theorem Vals.ins{x:V}{u:b_}(r:RelV x u){a:List V}{b:List b_}(i:Nat)(h:Vals a b):Vals (Wb.ins a i x)^Wb.ins b i u:=(h.take i).append^.cons r^h.drop i
def Sl:V->List V->Hp->VK->Prop:=λx b H Q=>∃l a i y,x= .ref l/\b= [.int i,y]/\H l\(.lst a)/\0<=i/\i<=a.length/\a.length<sizeLine/\Q .aQ^upd H l^.lst^Wb.ins a i.toNat y
def ot:M8 X "list.insert" Sl:=by
 intro c s u H x w v A Q I g j h;rfl';let⟨l,C,i,y,rfl,rfl,d,E,G,J,q⟩:=h;subst g;obtain⟨L,f,rfl,⟨t,rfl⟩,m⟩:=j.two;let⟨z,a,n,r,M,e⟩:=I.sE d;have N:=oi;ac_rfl
 have b:¬(!Builtin.List.listFitsIndex i)=true:=by
  rw[fitsIndex_both () ()]
  exact dP
 refine adE F.slot_list_insert #[_,e,rfl] F.entry_list_insert (F.args_list_insert_3 _ _ _) (AutoSeq1.list_insert_list_int_val_1 l a.toArray n i t f b^by rw[cn];lia) #[e,?_]
 refine#[.aQ,_,I.HP (its':=Wb.ins a i.toNat f) d e ?_ (r.ins m i.toNat) ?_,rfl,q]
 .have o:¬i<0:=()
  have p:min i.toNat a.length=i.toNat:=()
  simp only[o,PP,cn,p];apply aeX.mp;unfold Wb.ins;simp;exact sU^by rw[pG];lia
 .rw[Wb.Ax];lia
def Vx(K:ad):V->List V->Hp->VK->Prop:=λx b H Q=>∃(l:Addr)(a:List V)(y:V)(j:Nat)(z:V),x= .ref l/\b= [y]/\H l\(.lst a)/\iy y=true/\a.all iy=true/\a[j]?\z/\tD z y=true/\
 (∀(m:Nat) z,m<j->a[m]?\z->tD z y=false)/\Q (.int j) H
def rz:M8 X "list.index"^Vx X.K:=by
 intro A s Y H x Z v us Q I B C h;rfl';let⟨l,d,y,j,z,rfl,rfl,G,J,fs,f,L,M,q⟩:=h;subst B;let⟨u,rfl,N⟩:=C.one;let⟨eZ,a,n,r,hl,e⟩:=I.sE G;let⟨w,hw,O⟩:=r.get f;ac_rfl
 have P:j<a.toArray.size:=by
  let⟨b,D⟩:=cz.mp hw;simpa using b
 have flat:∀(m:Nat) z,d[m]?\z->iy z=true:=λm z h=>(adS.mp fs) z^cR h
 have g:a.toArray[j]=w:=by
  let⟨b,i⟩:=cz.mp hw;simpa using i
 have bQ:=oi
 have E3:j<d.length:=by
  let⟨b,D⟩:=cz.mp f;exact b
 refine adE F.slot_list_index #[_,e,rfl] F.entry_list_index (F.args_list_index_2 _ _) (SeqAt.list_indexAt l a.toArray n none #[] u (rZ y) j P () ?_ ?_) #[e,λw hw=>kL N J r fs w^~~~hw,?_]
 .rw[g,zE O^flat j z f];exact L
 .intro m R S
  have uP:m<a.length:=by simpa using R
  obtain⟨c,k⟩:∃c,d[m]?\c:=#[_,eE ()]
  let⟨T,o,p⟩:=r.get k
  have t:a.toArray[m]=T:=by
   let⟨b,i⟩:=cz.mp o;simpa using i
  rw[t,zE p^flat m c k];exact M m c S k
 .exact#[.int j,H,I.tok _,#[_,rfl],q]
end
mutual
inductive Dp (K:ad) (H:Hp):V->PyData->Prop
 |aQ:Dp K H .aQ .none
 |bl (b:Bool):Dp K H (.bl b)^.bool b
 |int (i:Int):Dp K H (.int i)^.int i
 |str (x:ee) (h:PyData.strOk x=true):Dp K H (.str x)^.str x
 |lst {a:Addr} {xs:List V} {ds:List PyData}:aJ K H a xs->jr K H xs ds->Dp K H (.ref a)^.list ds
 |tup {a:Addr} {xs:List V} {ds:List PyData}:fM K H a xs->jr K H xs ds->Dp K H (.ref a)^.tuple ds
inductive jr (K:ad) (H:Hp):List V->List PyData->Prop
 |nil:jr K H [] []
 |cons {v:V} {vs:List V} {d:PyData} {ds:List PyData}:Dp K H v d->jr K H vs ds->jr K H (v::vs) (d::ds)
end
section
variable {X:Cx} {pins:List (Addr×Obj)} {σ:St} {H:Hp} {s:Shared}
mutual
theorem Dp.reads(I:Inv X pins σ H s):∀{v:V}{d:PyData}{u:b_},Dp X.K H v d->RelV v u->(∃as,Reads s.heap u d as)/\d.canLay0=true
 |_,_,_, .aQ,r=>by cases r;exact#[#[_, .none],rfl]
 |_,_,_, .bl b,r=>by cases r;exact#[#[_, .bool b],rfl]
 |_,_,_, .int i,r=>by let⟨t,rfl⟩:=r;exact#[#[_, .int i t],rfl]
 |_,_,_, .str x h,r=>by let⟨t,rfl⟩:=r;exact#[#[_, .str x t],by simpa [PyData.canLay0] using h]
 |_,_,_, .lst h a,r=>by
  cases r;let⟨its,rv,pl,hz⟩:=I.list h;obtain⟨⟨as,ra⟩,c⟩:=jr.reads I a rv;let⟨o,ho,hc,n,hd⟩:=pl.isList;exact#[#[_, .list ho hc hd^~~~ra],by simpa [PyData.canLay0] using c]
 |_,_,_, .tup h a,r=>by
  cases r;let⟨its,rv,pl,hz⟩:=I.tuple h;obtain⟨⟨as,ra⟩,c⟩:=jr.reads I a rv;let⟨o,ho,hc,n,hd⟩:=pl;exact#[#[_, .tuple ho hc hd^~~~ra],by simpa [PyData.canLay0] using c]
theorem jr.reads(I:Inv X pins σ H s):∀{vs:List V}{ds:List PyData}{us:List b_},jr X.K H vs ds->Vals vs us->(∃as,ReadsAll s.heap us ds as)/\PyData.canLayAll0 ds=true
 |_,_,_, .nil, .nil=>#[#[_, .nil],by simp[PyData.canLayAll0]]
 |_,_,_, .cons a as, .cons r rs=>by
  obtain⟨⟨x,h1⟩,c1⟩:=Dp.reads I a r;obtain⟨⟨y,h2⟩,c2⟩:=jr.reads I as rs;exact#[#[_, .cons h1 h2],by simp[PyData.canLayAll0,c1,c2]]
end
end
section
variable {X:Cx}
def abM(K:ad):R2:=λx y H Q=>∃d e,Dp K H x d/\Dp K H y e/\d.depth<=64/\Q (.bl^PyData.eqv d e) H
def abN(K:ad):R2:=λx y H Q=>∃d e,Dp K H x d/\Dp K H y e/\d.depth<=64/\Q (.bl (!PyData.eqv d e)) H
def Vb(n:X.A.units+64<cLine):OpR X (fz .Eq)^abM X.K:=by
 intro a s o H x y v u Q I b c h;rfl';let⟨d,e,g,i,r,q⟩:=h;obtain⟨⟨t,j⟩,k⟩:=g.reads I b;obtain⟨⟨bs,l⟩,m⟩:=i.reads I c;ac_rfl;exact SeqAt.compareEq_reads j l k m (by have:=Nat.min_le_left d.depth e.depth;lia) #[.bl _,H,I,rfl,q]
def FD(n:X.A.units+64<cLine):OpR X (fz .NotEq)^abN X.K:=by
 intro a s o H x y v u Q I b c h;rfl';let⟨d,e,g,i,r,q⟩:=h;obtain⟨⟨t,j⟩,k⟩:=g.reads I b;obtain⟨⟨bs,l⟩,m⟩:=i.reads I c;ac_rfl;exact SeqAt.compareNe_reads j l k m (by have:=Nat.min_le_left d.depth e.depth;lia) #[.bl _,H,I,rfl,q]
end
def nD(n:Nat):PyData:= .int n
noncomputable def oV(r:List Nat):PyData:= .list^r.map nD
noncomputable def pA(d:Nat×Nat):PyData:= .tuple [.int d.1, .int d.2]
theorem gq{e:Type}{f:e->PyData}(g:∀a b,PyData.eqv (f a)^f b=true↔a=b):∀c d:List e,PyData.eqvAll (c.map f)^d.map f=true↔c=d
 | [],[]=>by simp[PyData.eqvAll]
 | [],_::_=>by simp[PyData.eqvAll]
 |_::_,[]=>by simp[PyData.eqvAll]
 |a::c,b::d=>by
  have h:=gq g c d;simp[PyData.eqvAll,g,h]
def Ui(a b:Nat):PyData.eqv (nD a)^nD b=true↔a=b:=by
 simp[nD,PyData.eqv];lia
def wQ(a b:List Nat):PyData.eqv (oV a)^oV b=true↔a=b:=by
 unfold oV;rw[PyData.eqv];exact gq Ui a b
def C8(a b:Nat×Nat):PyData.eqv (pA a)^pA b=true↔a=b:=by
 unfold pA;let⟨c,d⟩:=a;let⟨e,f⟩:=b;simp[PyData.eqv,PyData.eqvAll];lia
theorem fi{f:c->PyData}{k:Nat}(d:∀a,(f a).depth<=k):∀b:List c,PyData.depthAll^b.map f<=k
 | []=>by simp[PyData.depthAll]
 |a::b=>by
  have:=d a
  have e:=fi d b;simp[PyData.depthAll];lia
def xY(a:List Nat):(oV a).depth<=2:=by
 unfold oV;rw[PyData.depth]
 have:=fi (f:=nD) (k:=1) (λn=>by simp[nD,PyData.depth]) a
 lia
def xZ(a:Nat×Nat):(pA a).depth<=2:=by simp[pA,PyData.depth,PyData.depthAll]
noncomputable def sQ(w:List^List Nat):PyData:= .list^w.map oV
def wR(a b:List^List Nat):PyData.eqv (sQ a)^sQ b=true↔a=b:=by
 unfold sQ;rw[PyData.eqv];exact gq wQ a b
def x9(a:List^List Nat):(sQ a).depth<=3:=by
 unfold sQ;rw[PyData.depth]
 have:=fi (f:=oV) (k:=2) xY a
 lia
end L2
namespace L2
open PySem PySem.Spec PyProof.Rows
theorem Vals.of_get:∀{a:List V}{b:List b_},a.length=b.length->(∀(k:Nat) x u,a[k]?\x->b[k]?\u->RelV x u)->Vals a b
 | [],[],_,_=> .nil
 | [],_::_,h,_=>by simp at h
 |_::_,[],h,_=>by simp at h
 |x::a,u::b,h,r=> .cons (r 0 x u rfl rfl) (Vals.of_get (~~~h) λk y w c d=>r (k+1) y w (~~~c)^~~~d)
section
variable {X:Cx}
def Ez:CallR X (.builtin "isinstance") (λa H Q=>∃(x:V)(n:String)(t:b_)(b:Bool),a= [x, .ty n]/\kR X.K H x t/\bi X.K t^.type n\b/\Q (.bl b) H):=by
 intro c s k H a l Q I d h;rfl';let⟨x,n,t,b,rfl,g,e,q⟩:=h;let⟨o,p,rfl,i,j⟩:=d.two;subst j;ac_rfl;exact Az I i g e λr=>#[.bl b,H,I.tok _,rfl,q]
def Ca:CallR X (.builtin "sorted") (λf H Q=>∃(p:Addr)(c:List Int),f= [.ref p]/\aJ X.K H p^c.map V.int/\c.length<64/\∀(q:Addr)(a:List Int),H q=none->a.Perm c->a.Pairwise (·<=·)->Q (.ref q)^upd H q^.lst^a.map V.int):=by
 intro g s A H f B Q I j h;rfl';let⟨p,c,rfl,l,E,q⟩:=h;let⟨u,rfl,m⟩:=j.one;subst m;let⟨d,r,pl,k⟩:=I.list l;have n:=r.length;rw[aI] at n;ac_rfl;refine sorted_ints pl.isList (intsAre_of r) () λout a t i v=>?_
 let⟨e,w⟩:=afv s.heap d out;have x:H (s.heap.objs.size+1)=none:=I.hok.fresh^lM _;have F:=i.length_eq;have G:64<=sizeLine:=∅
 refine#[.ref (s.heap.objs.size+1),_,I.laid (t':=s.toks) (λb o y=>afq y) (lM _) (o:= .lst^a.map V.int) #[by rw[aI];lia,out.toList,e,t5 t,by simpa using w],rfl,q _ a x i v]
end
structure kQ (C:e_) (t0 i0 t1 i1:e_) (f0 f1:List e_) (el:Addr->lE->j9 Unit):Prop where
 u:∀(A:f7)(k:Nat)(it:b_)(D:Addr)(env:lE),A.under^.compLoop C k it (.ref D) env=A
 z0:∀(P:ec)(w:ei)(it:b_)(D:Addr)(env:lE),(d5 P w).den^.compLoop C 0 it (.ref D) env=Sem.onRaise (do
   im i0.pos
   match <-lp it with
   |none=>pure^.done .next
   |some v=>
    iG t0 it v
    jq t0 env v
    let ok <-forIn f0 true λc r=>if r=true then do let ok <-isTrue c env^fC c env;pure^ForInStep.yield ok else pure (ForInStep.yield r)
    if ok=true then
     let x <-fC i1 env
     im i1.pos
     let x <-ey i1 env x
     let HH <-hB [x]^pyIter x
     let _ <-runOwn (.compStart C 1 HH (.ref D) env) env
     again (.compLoop C 0 it (.ref D) env)
    else again^.compLoop C 0 it (.ref D) env) (λx=>do kv x env;theTreesLotGoes x)
 z1:∀(P:ec)(w:ei)(it:b_)(D:Addr)(env:lE),(d5 P w).den^.compLoop C 1 it (.ref D) env=Sem.onRaise (do
   im i1.pos
   match <-lp it with
   |none=>pure^.done .next
   |some v=>
    iG t1 it v
    jq t1 env v
    let ok <-forIn f1 true λc r=>if r=true then do let ok <-isTrue c env^fC c env;pure^ForInStep.yield ok else pure (ForInStep.yield r)
    if ok=true then
     el D env
     again (.compLoop C 1 it (.ref D) env)
    else again^.compLoop C 1 it (.ref D) env) (λx=>do kv x env;theTreesLotGoes x)
 b0:∀{P:ec}{w:ei}{A:f7}{R:k_->c_->Prop}{s:c_}{it:b_}{D:Addr}{env:lE},gl (d5 P w) A (.compLoop C 0 it (.ref D) env) R s->
  (∀(Q:b_->c_->Prop)(E:b_->c_->Prop),Q it s->d7 (d5 P w) A (pyIter it) Q E s)->gl (d5 P w) A (.compStart C 0 it (.ref D) env) R s
 b1:∀{P:ec}{w:ei}{A:f7}{R:k_->c_->Prop}{s:c_}{it:b_}{D:Addr}{env:lE},gl (d5 P w) A (.compLoop C 1 it (.ref D) env) R s->
  (∀(Q:b_->c_->Prop)(E:b_->c_->Prop),Q it s->d7 (d5 P w) A (pyIter it) Q E s)->gl (d5 P w) A (.compStart C 1 it (.ref D) env) R s
abbrev M9:=Addr->St->Hp->(Hp->Prop)->Prop
def Pa(X:Cx)(d:Addr->Env->Sem Unit)(e:M9):Prop:=∀(D:Addr)(a:List (Addr×Obj))(s:Shared)(b:St)(H:Hp)(N:Hp->Prop),Inv X a b H s->e D b H N->wpAny (model X.prog X.w) X.A (d D X.env) (λ_ f=>∃c,Inv X a b c f/\N c) X.xe s
section
variable {X XC:Cx} {C elt i0 t0 i1 t1:e_} {f0 f1:List e_} {scope:Scope} {pos:ip} {wi cD:TI} {g g1:TG} {tt bS:TT} {te:TE} {ta:M9} {el:Addr->lE->j9 Unit} {src:List^Option Nat} {NC:List ee}
theorem Lq{a:List (Addr×Obj)}{s:c_}{σ:St}{H:Hp}{it D:Addr}{B:List Addr}{Z:Nat->Heap->Prop}{J:It}{R:k_->c_->Prop}{N:St->Hp->Prop}
  (UC:XC.xe=λ_ _=>False) (hc:XC.calm=true) (I:Inv XC a σ H s) (T:Turn XC.prog XC.w XC.K t1 J B it Z) (st:Z 0 s.heap) (f2:∀b∈B,fH XC a H b)
  (Tw:kQ C t0 i0 t1 i1 f0 f1 el) (hg:PG XC t1 g1) (ht:kP XC f1 bS) (he:Pa XC el ta)
  (hW:∃W:Nat->Nat->St->Hp->Prop,(∃m,W 0 m σ H)/\∀i m dq M,W i m dq M->(J.stop i M/\N dq M)\/
   (J.go i M/\∃O:St->Hp->Prop,(∀j c,O j c->∃g,g<m/\W (i+1) g j c)/\∀x H3,J.yld i M x H3->g1 x dq H3 λX H4=>bS X H4 λb H5=>
    if b=true then ta D X H5^O X else O X H5))
  (hR:∀j c v,Inv XC a j c v->N j c->R (.ok .next) v):
  gl (d5 XC.prog XC.w) XC.A (.compStart C 1 (.ref it) (.ref D) XC.env) R s:=by
 obtain⟨W,⟨m0,w0⟩,P⟩:=hW
 have mG:∀{α:Type}{t:j9 α}{Q:α->c_->Prop}{E:b_->c_->Prop}{s:c_},d7 (d5 XC.prog XC.w) XC.A t Q XC.xe s->d7 (d5 XC.prog XC.w) XC.A t Q E s:=λ {α t Q E s} h=>
  gv h (λ_ _ q=>q) λ_ _ f=>by rw[UC] at f;exact f.elim
 have k:∀{c:Hp},(∀b∈B,c b=none)->∀b∈B,fH XC a c b:=λhn b p=>#[hn b p,(f2 b p).2]
 have S:gl (d5 XC.prog XC.w) XC.A (.compLoop C 1 (.ref it) (.ref D) XC.env) R s:=by
  refine afu rfl (λn v=>∃i j c,Inv XC a j c v/\Z i v.heap/\(∀b∈B,c b=none)/\W i n j c) (λn v hI=>?_) m0 #[0,σ,H,I,st,λb p=>(f2 b p).1,w0];rfl';let⟨i,j,c,I5,zy,tH,w5⟩:=hI;ac_rfl;rw[Tw.u,Tw.z1];refine wpAny_noted ?_;refine a_^W1^a_ ?_
  rcases P i n j c w5 with ⟨stop,qn⟩ | ⟨go,O,hN,step⟩
  .refine thn (T.done XC rfl rfl rfl hc i a v j c _ I5 (k tH) zy stop) λr s6 l=>?_
   let⟨hr,I6⟩:=l;subst hr;exact ir^hR j c s6 I6 qn
  .refine thn (T.item XC rfl rfl rfl hc i a v j c _ I5 (k tH) zy go) λr s6 l=>?_
   rfl';let⟨u,hr,h6⟩:=l;ac_rfl;subst hr;refine a_ (thn h6 λ_ s7 l=>?_);rfl';let⟨x,H7,I7,r7,y7,Bt,Qg⟩:=l;ac_rfl;have O4:=I7.pinned (k Qg)^T.obj _ _ Bt
   have nextT:∀{y:St}{G:Hp}{L:c_},Inv XC (a++oF B s7.heap) y G L->O y G->∃m,m<n/\∃i j c,Inv XC a j c L/\Z i L.heap/\(∀b∈B,c b=none)/\W i m j c:=λ {y G L} Y n8=>by
    let⟨g,hm,w8⟩:=hN y G n8;refine#[g,hm,i+1,y,G,Y.kN,T.keep _ _ _ Bt λb p o e=>(Y.pin (b,o)^fW _^fW _^fI p e).1,λb p=>?_,w8];let⟨o,e,d⟩:=T.obj _ _ Bt b p;exact(Y.pin (b,o)^fW _^fW _^fI p e).2.1
   refine a_^mG (thn (hg _ s7 j H7 x u _ O4 r7^step x H7 y7) λ_ L l=>?_);rfl';let⟨y,G,Y,q8⟩:=l;ac_rfl;refine a_^mG (thn (ht _ L y G _ Y q8) λb s9 l=>?_);let⟨H9,I9,q9⟩:=l;cases b with
   |false=>
    rw[tz dP] at q9;exact ir #[rfl,nextT I9 q9]
   |true=>
    rw[mo rfl] at q9;refine a_^mG (thn (he D _ s9 y H9 _ I9 q9) λ_ FN l=>?_);let⟨B4,Es,K1⟩:=l;exact ir #[rfl,nextT Es K1]
 exact Tw.b1 S λQ E q=>T.self _ 0 _ _ _ st q
def gIn(n:TG)(o:TT)(p:M9)(D:Addr)(J:It)(N:St->Hp->Prop):St->Hp->Prop:=λq H=>
 ∃W:Nat->Nat->St->Hp->Prop,(∃m,W 0 m q H)/\∀i m d a,W i m d a->(J.stop i a/\N d a)\/
  (J.go i a/\∃e:St->Hp->Prop,(∀f h,e f h->∃j,j<m/\W (i+1) j f h)/\∀x k,J.yld i a x k->n x d k λc r=>o c r λb l=>
   if b=true then p D c l^e c else e c l)
def Qj(g:TG)(l:TT)(n:TI)(o:TG)(p:TT)(q:M9)(D:Addr)(J:It)(Q:VK)(r:St)(H:Hp):Prop:=
 ∃W:Nat->Nat->St->Hp->Prop,(∃m,W 0 m r H)/\∀i m d a,W i m d a->
  (J.stop i a/\Q (.ref D) a)\/
  (J.go i a/\∃N:St->Hp->Prop,(∀e f,N e f->∃h,h<m/\W (i+1) h e f)/\∀x j,J.yld i a x j->g x d j λc s=>l c s λb k=>
   if b=true then n c k λt u=>gIn o p q D t N c u else N c k)
theorem BA{k:List (Addr×Obj)}{σ:St}{v:c_}{Y:Hp}{it:Addr}{G:List Addr}{tn:Nat->Heap->Prop}{J:It}{RR:b_->Addr->k_->c_->Prop}{E:b_->c_->Prop}{Q:VK}{o0:Addr->HO}{new:j9 b_}
  (Tw:kQ C t0 i0 t1 i1 f0 f1 el)
  (hc:X.calm=true) (c:bD X scope) (eQ:dE scope X.N src NC) (I2:Inv X k σ Y v) (T:Turn X.prog X.w X.K t0 J G it tn) (jB:tn 0 v.heap) (f2:∀b∈G,fH X k Y b)
  (hg:∀ex s H,PG (bG X scope NC ex s H) t0 g) (ht:∀ex s H,kP (bG X scope NC ex s H) f0 tt) (pJ:∀ex s H,PI (bG X scope NC ex s H) t1 i1 cD) (wW:∀ex s H,PG (bG X scope NC ex s H) t1 g1)
  (xf:∀ex s H,kP (bG X scope NC ex s H) f1 bS) (he:∀ex s H,Pa (bG X scope NC ex s H) el ta) (r9:∀env x,ey i1 env x=pure x)
  (hn:∀(Q':b_->c_->Prop)(E':b_->c_->Prop),(∀B:c_,Inv X k σ (upd Y v.heap.objs.size^o0 v.heap.objs.size) B->(∀b o,v.heap.get? b\o->B.heap.get? b\o)->Q' (.ref v.heap.objs.size) B)->d7 (d5 X.prog X.w) X.A new Q' E' v)
  (hW:∀D,Y D=none->Qj g tt cD g1 bS ta D J Q (lD src σ)^upd Y D^o0 D)
  (JT:∀D B H3 I l L,Inv X k σ H3 B->(∀b∈G,fH X k H3 b)->Inv (bG X scope NC G B H3) [] I l L->Q (.ref D) l->RR (.ref D) B.heap.objs.size (.ok .next) L):
  d7 (d5 X.prog X.w) X.A new (λacc wa=>d7 (d5 X.prog X.w) X.A (jo scope X.env.globals (jG X.env scope.names []) [] X.env.qual none .none^some X.env) (λlY wb=>
   gl (d5 X.prog X.w) X.A (.compStart C 0 (.ref it) acc {lY with scope:=j_ scope X.env}) (RR acc lY.locals) wb) E wa) E v:=by
 rfl';obtain⟨W,⟨m0,w0⟩,turn⟩:=hW v.heap.objs.size I2.fresh;ac_rfl
 have Ks:∀b∈G,b<v.heap.objs.size:=λb j=>by
  let⟨o,e,O⟩:=T.obj _ _ jB b j;exact Da e
 have f3:∀b∈G,fH X k (upd Y v.heap.objs.size^o0 v.heap.objs.size) b:=λb j=>#[by rw[af^bL^Ks b j];exact(f2 b j).1,(f2 b j).2]
 refine hn _ _ λB I3 up3=>?_;have zx:tn 0 B.heap:=T.keep _ _ _ jB λb _ o e=>up3 b o e
 have Kt:∀b∈G,b<B.heap.objs.size:=λb j=>by
  let⟨o,e,O⟩:=T.obj _ _ zx b j;exact Da e
 generalize hH3:upd Y v.heap.objs.size^o0 v.heap.objs.size=H3 at I3 f3 w0;refine wpAny_newFunctionEnv c.nocell (by intro y hy;simp at hy) (λh1 E6 Fd=>?_) c.kind
 have I4:=CW (src:=src) (NC:=NC) (ex:=G) (tk:=B.toks+([]:List (ee×b_)).length) I3 c eQ f3 Kt E6 Fd;have SQ:tn 0 h1:=T.keep _ _ _ zx λb j o e=>Fd.extBut b o (bL^Kt b j)^AC _ e;generalize F:bG X scope NC G B H3=a at I4
 have M:∀{l:Hp},(∀b∈G,l b=none)->∀b∈G,fH a [] l b:=λ {l} hn b j=>by
  subst F;refine#[hn b j,bL^Kt b j,λz=>?_, .inl j,λx d e=>?_,λp hp=>absurd (show p∈([]:List (Addr×Obj)) from hp)^by simp]
  .exact(I4.ok.exfs b j) z
  .exact(I4.ok.exf b j).2 x d e
 have NQ:a.calm=true:=by subst F;exact hc
 have eP:a.prog=X.prog:=by subst F;rfl
 have ew:a.w=X.w:=by subst F;rfl
 have eK:a.K=X.K:=by subst F;rfl
 have eA:a.A=X.A:=by subst F;rfl
 have UC:a.xe=λ_ _=>False:=by subst F;rfl
 have YE:PG a t0 g:=by subst F;exact hg _ _ _
 have Y0:kP a f0 tt:=F▸ht _ _ _;have hiC:PI a t1 i1 cD:=F▸pJ _ _ _;have aa0:PG a t1 g1:=F▸wW _ _ _;have abk:kP a f1 bS:=F▸xf _ _ _;have Yz:Pa a el ta:=F▸he _ _ _
 have mG:∀{α:Type}{t:j9 α}{Q:α->c_->Prop}{E:b_->c_->Prop}{s:c_},d7 (d5 a.prog a.w) a.A t Q a.xe s->d7 (d5 X.prog X.w) X.A t Q E s:=λ {α t Q E s} h=>by
  rw[<-eP,<-ew,<-eA];exact gv h (λ_ _ q=>q) λ_ _ f=>by rw[UC] at f;exact f.elim
 have loop:gl (d5 X.prog X.w) X.A (.compLoop C 0 (.ref it) (.ref v.heap.objs.size) a.env) (RR (.ref v.heap.objs.size) B.heap.objs.size)
   {B with heap:=h1,toks:=B.toks+([]:List (ee×b_)).length}:=by
  refine afu rfl (λn L=>∃i I l,Inv a [] I l L/\tn i L.heap/\(∀b∈G,l b=none)/\W i n I l) (λn L hI=>?_) m0 #[0,_,_,I4,SQ,λb j=>(f3 b j).1,w0];rfl';let⟨i,I,l,I5,zy,tH,w5⟩:=hI;ac_rfl;rw[Tw.u,Tw.z0];refine wpAny_noted ?_;refine a_^W1^a_ ?_
  rcases turn i n I l w5 with ⟨stop,qn⟩ | ⟨go,N,hN,step⟩
  .have hd:=T.done a eP ew eK NQ i [] L I l (notedBy (d5 X.prog X.w) X.A a.env λe L=>RR (.ref v.heap.objs.size) B.heap.objs.size (.error e) L) I5 (M tH) zy stop
   rw[eA] at hd;refine thn hd λr s6 P=>?_;let⟨hr,I6⟩:=P;subst hr;refine ir ?_;subst F;exact JT _ B _ I l s6 I3 f3 I6 qn
  .have hd:=T.item a eP ew eK NQ i [] L I l (notedBy (d5 X.prog X.w) X.A a.env λe L=>RR (.ref v.heap.objs.size) B.heap.objs.size (.error e) L) I5 (M tH) zy go
   rw[eA] at hd;refine thn hd λr s6 P=>?_;let⟨u,hr,h6⟩:=P;subst hr;refine a_ (thn h6 λ_ s7 P=>?_);rfl';let⟨x,H7,I7,r7,y7,Bt,Qg⟩:=P;ac_rfl;have O4:=I7.pinned (M Qg)^T.obj _ _ Bt
   have nextT:∀{S:St}{Z:Hp}{s8:c_},Inv a ([]++oF G s7.heap) S Z s8->N S Z->∃m,m<n/\∃i I l,Inv a [] I l s8/\tn i s8.heap/\(∀b∈G,l b=none)/\W i m I l:=λ {S Z s8} I8 n8=>by
    let⟨m',hm,w8⟩:=hN S Z n8;refine#[m',hm,i+1,S,Z,I8.kN,T.keep _ _ _ Bt λb j o e=>(I8.pin (b,o)^fW _^fW _^fI j e).1,λb j=>?_,w8];let⟨o,e,d⟩:=T.obj _ _ Bt b j;exact(I8.pin (b,o)^fW _^fW _^fI j e).2.1
   refine a_^mG (thn (YE _ s7 I H7 x u _ O4 r7^step x H7 y7) λ_ s8 P=>?_);rfl';let⟨S,Z,I8,q8⟩:=P;ac_rfl;refine a_^mG (thn (Y0 _ s8 S Z _ I8 q8) λb s9 P=>?_);let⟨H9,I9,q9⟩:=P;cases b with
   |false=>
    rw[tz dP] at q9;exact ir #[F▸rfl,nextT I9 q9]
   |true=>
    rw[mo rfl] at q9;refine a_^mG (thn (hiC _ s9 S H9 _ I9 q9) λv1 Be h10=>?_);refine a_^W1^a_^aeu (r9 _ v1)^a_^KB^mG (thn h10 λAB FN h11=>?_);rfl';let⟨HH,fp1,tn1,J1,B4,rfl,Es,T1,ab0,f11,hin⟩:=h11;ac_rfl;refine a_^wpAny_runOwn ?_;have tr:∀(cd:Code)(R:k_->c_->Prop),gl (d5 a.prog a.w) a.A cd R FN->gl (d5 X.prog X.w) X.A cd R FN:=λcd R h=>by rw[eP,ew,eA] at h;exact h
    exact tr _ _ (Lq UC NQ Es T1 ab0 f11 Tw aa0 abk Yz hin λI l L Xl n12=>ir #[F▸rfl,nextT Xl n12])
 subst F;exact Tw.b0 loop λQ E q=>T.self _ 0 _ _ _ SQ q
def acL(c:TE):M9:=λD d H N=>c d H λv b=>∃a,b D\(.lst a)/\a.length<sizeLine/\N^upd b D^.lst (a++ [v])
theorem OT:kQ (.ListComp elt [#[t0,i0,f0,0],#[t1,i1,f1,0]] scope pos) t0 i0 t1 i1 f0 f1 (λD env=>do let _ <-call (.builtin "list.append") [.ref D,<-fC elt env]) where
 u:=λ_ _ _ _ _=>rfl
 z0:=λ_ _ _ _ _=>rfl
 z1:=λ_ _ _ _ _=>rfl
 b0:=λa b=>codeAny_compStart_list a (b _ _ a)
 b1:=λa b=>by
  refine codeAny_of_tree ?_;refine wpAny_notedAt ?_;unfold compStart;refine a_^wpAny_askSetting^wpAny_ite ?_
  split
  .first
    |exact a_^f5^f5 #[rfl,a]
    |exact f5 #[rfl,a]
  .refine a_^wpAny_rule ?_
   exact a_^la^a_^b _ _^f5 #[rfl,a]
def Oi(e:PE X elt te):Pa X (λD env=>do let _ <-call (.builtin "list.append") [.ref D,<-fC elt env])^acL te:=λD a s d H N I h=>
 a_ (thn (e a s d H _ I h) λy f b=>by
  rfl';obtain⟨v,j,k,l,m,n,o,p⟩:=b;ac_rfl;refine a_ (thn (jz _ f d j (.ref D) [v] _ [y] (λ_ q=>N q) k rfl (.cons l .nil) #[_,m,v,rfl,rfl,n,o,p]) λ_ w b=>?_);rfl';obtain⟨_,r,t,_,u⟩:=b;ac_rfl;exact ir #[r,t,u])
def Xh(g:TG)(a:TT)(b:TI)(c:TG)(d:TT)(e:TE)(D:Addr)(J:It)(Q:VK)(f:St)(H:Hp):Prop:=Qj g a b c d (acL e) D J Q f H
def Xf(c:TI)(g:TG)(d:TT)(e:TI)(f:TG)(h:TT)(i:TE)(src:List^Option Nat):TE:=λa H Q=>c a H λJ b=>∀D,b D=none->Xh g d e f h i D J Q (lD src a)^upd b D^.lst []
def EC{a:List (Addr×Obj)}{j:St}{f:c_}{h:Hp}{m:Addr}{i:List Addr}{n:Nat->Heap->Prop}{J:It}{p:b_->Addr->k_->c_->Prop}{E:b_->c_->Prop}{Q:VK}
  (y:X.calm=true) (c:bD X scope) (B:dE scope X.N src NC) (r:Inv X a j h f) (T:Turn X.prog X.w X.K t0 J i m n) (F:n 0 f.heap) (G:∀b∈i,fH X a h b)
  (I:∀d s H,PG (bG X scope NC d s H) t0 g) (L:∀d s H,kP (bG X scope NC d s H) f0 tt) (M:∀d s H,PI (bG X scope NC d s H) t1 i1 cD) (O:∀d s H,PG (bG X scope NC d s H) t1 g1)
  (P:∀d s H,kP (bG X scope NC d s H) f1 bS) (R:∀d s H,PE (bG X scope NC d s H) elt te) (S:∀env x,ey i1 env x=pure x)
  (Y:∀D,h D=none->Xh g tt cD g1 bS te D J Q (lD src j)^upd h D^.lst [])
  (Z:∀D k l C t u,Inv X a j l k->(∀b∈i,fH X a l b)->Inv (bG X scope NC i k l) [] C t u->Q (.ref D) t->p (.ref D) k.heap.objs.size (.ok .next) u):
  d7 (d5 X.prog X.w) X.A (newList []) (λacc wa=>d7 (d5 X.prog X.w) X.A (jo scope X.env.globals (jG X.env scope.names []) [] X.env.qual none .none^some X.env) (λv wb=>
   gl (d5 X.prog X.w) X.A (.compStart (.ListComp elt [#[t0,i0,f0,0],#[t1,i1,f1,0]] scope pos) 0 (.ref m) acc {v with scope:=j_ scope X.env}) (p acc v.locals) wb) E wa) E f:=by
 refine BA (o0:=λ_=> .lst []) OT y c B r T F G I L M O P (λd s H=>Oi^R d s H) S (λQ' E' q=>?_) Y Z;exact acV (q _ (r.Ro (its:= []) (t':=f.toks) .nil^d9 _) λb o e=>AC _ e)
def Vj(e:X.calm=true)(c:bD X scope)(f:dE scope X.N src NC)(i:PI X t0 i0 wi)
  (j:∀a s H,PG (bG X scope NC a s H) t0 g) (k:∀a s H,kP (bG X scope NC a s H) f0 tt) (l:∀a s H,PI (bG X scope NC a s H) t1 i1 cD) (n:∀a s H,PG (bG X scope NC a s H) t1 g1)
  (o:∀a s H,kP (bG X scope NC a s H) f1 bS) (p:∀a s H,PE (bG X scope NC a s H) elt te)
  (q:(∀x,ey i0 X.env x=pure x)<|>xx) (r:(∀env x,ey i1 env x=pure x)<|>wr):
  PE X (.ListComp elt [#[t0,i0,f0,0],#[t1,i1,f1,0]] scope pos)^Xf wi g tt cD g1 bS te src:=by
 intro b s t H Q I h;rw[eval_ListComp];refine ade (use:=none) rfl q (gH^c.cells I.ok) c.kind c.names (thn (i b s t H _ I h) λv S u=>thn u λY Z w=>?_);rfl';let⟨it,fp,tn,J,H2,rfl,A,T,B,E,F⟩:=w;ac_rfl
 exact EC e c f A T B E j k l n o p r F λD s3 H3 ax G s' L M d O=>by
  let⟨m,P,y⟩:=d.loc;exact#[m,P,λh' R=>#[.ref D,G,comp_back L M d R,rfl,O]]
end
end L2
namespace KS
open PySem PySem.W PyProof.Rows
section
variable {prog:Program} {w:World} {A:Around} {E:Value->Shared->Prop} {s:Shared}
def yM(c:s.heap.get? a\(gt "list" b.toArray n))(j:b.length<2)
  (h:G (.done^.ret .none) {s with heap:=sortedHeap s.heap a b b.toArray}):d7 (d5 prog w) A (Builtin.«list.sort» #[[.ref a],[]]) G E s:=by
 rw[list_sort_plain];have m:a<s.heap.objs.size:=Da c;refine a_^listItems_at c rfl^a_^aeE c rfl ?_;obtain⟨l,d⟩:∃k,(s.heap.update a (Obj.mapSeq λ_=> #[])).get? a\(gt "list" #[] k):=#[_,get?_update_seq c^λ_=> #[]];refine a_^afj d rfl^a_^afo^a_^adR^KB ?_;have e:(((s.heap.update a (Obj.mapSeq λ_=> #[])).push^gt "tuple" b.toArray 0).push^gt "list" #[] 0).get? a\(gt "list" #[] l):=AC _^AC _ d;show d7 (d5 prog w) A _ G E {s with heap:=((s.heap.update a (Obj.mapSeq λ_=> #[])).push^gt "tuple" b.toArray 0).push^gt "list" #[] 0}
 dsimp only;have f:b.toArray.size<2:=j;rw[mo f,mo f];refine a_^ir ?_;rw[StateT.run_pure];refine a_^ir ?_;dsimp only
 have g:(d6^SortSt.mk' general' (b.toArray.zip b.toArray) #[] 7 none).map (·.2)=b.toArray:=by
  show(b.toArray.zip b.toArray).map (·.2)=b.toArray;apply aeX.mp;simp[List.map_snd_zip]
 refine a_^afj e rfl^a_^aeE e rfl ?_ (hsz2:=by rw[g];rw[ac6];lia)
 simp only[aeJ,fG,PP];have i:=h;unfold sortedHeap at i;rw[g];exact ir i
def CI(e:s.heap.IsList l a.toArray)(f:a.length<2)(h:G (.ref (s.heap.objs.size+1)) {s with heap:=sortedAll s.heap a a.toArray}):
  d7 (d5 prog w) A (call (.builtin "sorted") [.ref l]) G E s:=by
 refine adz kind_sorted afw afx (afy^.ref l) ?_;unfold Builtin.«sorted»;have b:a.length<=sizeLine:=by rw[ac6];lia
 refine a_ (m:=checkCount "sorted" 1 1 _)^ir^a_^afz e (a_^adR ?_ b) b;have c:((s.heap.push^gt "list" #[] 0).update s.heap.objs.size^Obj.mapSeq (·++a.toArray)).objs.size=s.heap.objs.size+1:=by rw[ads,aeL]
 have d:(((s.heap.push^gt "list" #[] 0).update s.heap.objs.size^Obj.mapSeq (·++a.toArray)).push^gt "list" a.toArray 0).get? (s.heap.objs.size+1)\(gt "list" a.toArray 0):=by
  rw[<-c];exact GM _ rfl
 show d7 (d5 prog w) _ _ _ E {s with heap:=((s.heap.push^gt "list" #[] 0).update s.heap.objs.size^Obj.mapSeq (·++a.toArray)).push^gt "list" a.toArray 0}
 rw[c];exact a_^KB^acS kH #[_,d,rfl] j0 (yM d f #[_,rfl,ir #[_,rfl,h]])^aeq _
end
end KS
namespace L2
open PySem PySem.Spec PyProof.Rows
section
variable {X:Cx} {pins:List (Addr×Obj)} {σ:St} {H:Hp} {s:Shared} {h':Heap}
end
noncomputable def iZ(k:Nat×Nat):List V:= [.int (k.1:Nat), .int (k.2:Nat)]
def rW(H:Hp)(L:List (Addr×(Nat×Nat))):Prop:=∀p∈L,H p.1\(.tup^iZ p.2)
noncomputable def k7(a b:Nat×Nat):Bool:=if a.1=b.1 then decide (a.2<b.2) else decide (a.1<b.1)
def xp(x y:Nat×Nat):k7 x y=true↔x.1<y.1\/(x.1=y.1/\x.2<y.2):=by
 unfold k7
 by_cases e:x.1=y.1
 .rw[mo e,decide_eq_true_iff]
  lia
 .rw[tz e,decide_eq_true_iff]
  lia
def N5(x y z:Nat×Nat)(h:k7 x z=true):k7 x y=true\/k7 y z=true:=by
 rw[xp] at*;rw[xp];lia
def Rh(x y z:Nat×Nat)(h:k7 x y=true)(a:k7 y z=true):k7 x z=true:=by
 rw[xp] at*;lia
def AG(h:k7 b a=false):Wb.lexLe a b:=by
 unfold k7 at h;unfold Wb.lexLe
 by_cases e:b.1=a.1
 .rw[mo e] at h
  have:=On h
  right;lia
 .rw[tz e] at h
  have:=On h
  left;lia
def UM 
  (n:IsTup s.heap x [.int a i, .int b j].toArray) (o:IsTup s.heap y [.int c k, .int d l].toArray)
  (h:C (if a=c then decide (b<d) else decide (a<c)) s):d7 (d5 prog w) A (keyLt' (tuples' true) (.ref x)^.ref y) C E s:=by
 rfl';let⟨u,f,p,v,q⟩:=n;let⟨B,g,p,F,r⟩:=o;ac_rfl;refine PySem.W.kat_lt f q g r ?_;refine PySem.W.kat_cons^adA a i c k prog w _ _ ?_
 by_cases e:a=c
 .rw[mo e] at h
  rw[show(a==c)=true by simpa using e]
  refine PySem.W.kat_yes^PySem.W.kat_cons^adA b j d l prog w _ _ ?_
  by_cases m:b=d
  .rw[show(b==d)=true by simpa using m]
   refine PySem.W.kat_yes^PySem.W.kat_nil ?_;rw[show decide (b<d)=false by simp;lia] at h
   simpa using h
  .rw[show(b==d)=false by simpa using m]
   refine PySem.W.kat_no^PySem.W.kat_one _ _ ?_;exact lt_int h
 .rw[tz e] at h
  rw[show(a==c)=false by simpa using e]
  exact PySem.W.kat_no^oneLt_int h
section
variable {X:Cx}
theorem t6:∀{as:List Addr}{us:List Value},Vals (as.map V.ref) us->us=as.map Value.ref
 | [],_, .nil=>rfl
 |a::as,_, .cons r t=>by cases r;rw[t6 t];rfl
theorem tW:∀b:List Addr,Vals (b.map V.ref)^b.map Value.ref
 | []=> .nil
 |a::b=> .cons rfl^tW b
def Oj(I:Inv X b c H s)(h:H a\(.tup^iZ k)):
  ∃t u,IsTup s.heap a [.int (k.1:Nat) t, .int (k.2:Nat) u].toArray:=by
 rfl';let⟨e,r,p,d⟩:=I.tuple^fM.of h;obtain⟨g,i,rfl,⟨t,rfl⟩,⟨u,rfl⟩⟩:=Vals.two r;ac_rfl;exact#[t,u,p]
end
end L2
set_option maxHeartbeats 4000000
namespace L2
open PySem PySem.Spec PySem.Calls PyProof.Rows PySem.W Builtin Builtin.ObjectAttr
noncomputable def Cw(s:String):Value->Bool
 | .type a=>a==s
 |_=>false
noncomputable def Mm(l:List Value):Bool:=match l with
 |a::b::c::d::r=>Cw "ValueError" a&&Cw "Exception" b&&Cw "BaseException" c&&Cw "object" d&&r.isEmpty
 |_=>false
noncomputable def isRef:Value->Bool
 | .ref _=>true
 |_=>false
noncomputable def rD:List Value->Bool
 | []=>false
 |v::r=>if isRef v then rD r else Mm (v::r)
def zF(h:Cw s v=true):v= .type s:=by
 unfold Cw at h
 split at h
 .rw[acU.mp h]
 .cases h
def Ay(h:Mm l=true):l= [.type "ValueError", .type "Exception", .type "BaseException", .type "object"]:=by
 cases l with
 |nil=>cases h
 |cons a l=>cases l with
  |nil=>cases h
  |cons b l=>cases l with
   |nil=>cases h
   |cons c l=>cases l with
    |nil=>cases h
    |cons d r=>
     have h:(Cw "ValueError" a&&Cw "Exception" b&&Cw "BaseException" c&&Cw "object" d&&r.isEmpty)=true:=h;simp only[BZ] at h;rw[zF h.1.1.1.1,zF h.1.1.1.2,zF h.1.1.2,zF h.1.2,List.isEmpty_iff.mp h.2]
noncomputable def FF(K:Frag)(C:Addr):Bool:=(clsIn K C).any λa=>rD a.mro
structure j7 (K:Frag) (C:Addr):Prop where
 hd:hasDictIn K C=true
 ga:findIn K (.ref C) "__getattribute__"\(some^.builtin "BaseException.__getattribute__")
 gh:findIn K (.ref C) "__getattr__"\none
 sa:findIn K (.ref C) "__setattr__"\(some^.builtin "object.__setattr__")
 ov:FF K C=true
 cl:findIn K (.ref C) "__class__"\(some^.builtin "object.__class__")
 be:mroIn K C^.type "BaseException"\true
 ob:mroIn K C^.type "object"\true
section
variable {prog:Program} {w:World} {A:Around} {E:Value->Shared->Prop} {s:Shared} {K:Frag} {x C:Addr} {ox:Obj} {od:Option Obj} {name:Str}
def Eh{fill a:Bool}{b:Tok}{Q:b_->c_->Prop}(X:K.In s.heap)(I:InstAt s.heap x ox C od)(c:j7 K C)
  (h:d7 (d5 prog w) A.in1 (Builtin.«object.__getattribute__» #[[.ref x, .str name b],[]]) (λfin d=>match fin with| .done^.ret v=>d7 (d5 prog w) A (handedOut v) Q E d|_=>False) (λ_ _=>False) s):
  d7 (d5 prog w) A (getAttrBy (.ref x) (.str name b) fill a) Q E s:=by
 unfold getAttrBy;refine KB^a_^I.type _ _ _ _ (λ_ _ e=>e)^a_^looks_findIn X c.ga _ _ _ _ (λ_ _ e=>e) ?_;dsimp only;rw[show(onTheHeap^.ref C&&Value.builtin "BaseException.__getattribute__"==Value.builtin "object.__getattribute__")=false from by rw[show(Value.builtin "BaseException.__getattribute__"==Value.builtin "object.__getattribute__")=false from by decide+kernel,aep],tz ∅]
 unfold getAttrByItsOwn;refine a_^looks_hook (mc:= .ref C) (r:=none) X c.gh _ _ _ _ (λ_ _ e=>e)^a_^adu^KB ?_;unfold callGetattribute;rw[show(a&&onTheHeap^Value.builtin "BaseException.__getattribute__")=false from aep _,tz ∅]
 unfold boundAndCalled;rw[F.excAttr_ValueError.ga.bind];refine a_^ir ?_;show d7 _ _ (call (.builtin "BaseException.__getattribute__") [.ref x, .str name b]) _ _ _;refine ac2 ?_;refine adt F.excAttr_ValueError.ga.plain F.entry_bexc_ga ?_;refine @check_slot (d5 prog w) _ _ s "BaseException.__getattribute__" "BaseException" "__getattribute__" (.ref x) [.str name b] [] _ (by decide+kernel) (by decide+kernel) (I.type.andThen^looks_mroIn X c.be) (F.args_bexc_ga (.ref x)^.str name b) ?_
 refine gv h (λfin d z=>?_) λ_ _ z=>z.elim
 rcases fin with (_|_|_|_) |_<;>first|exact z|exact z.elim
def LC(X:K.In s.heap)(I:InstAt s.heap x ox C od)(b:findObj K C od name\(.value v))(h:Q (.done^.ret v) s):
  d7 (d5 prog w) A (Builtin.«object.__getattribute__» #[[.ref x, .str name a],[]]) Q E s:=by
 let⟨c,g,d,t,os⟩:=s;have e:=I.type (M:=d5 prog w);have f:=looks_find (M:=d5 prog w) X I b;unfold Builtin.«object.__getattribute__»;refine a_^ir^a_^ir^a_^e.at^a_^f.at ?_;exact ir h
def OY{P:b_->c_->Prop}(X:K.In s.heap)(I:InstAt s.heap x ox C od)(e:findObj K C od name\(.bind g a))
  (h:d7 (d5 prog w) A (call g [a, .ref x, .ref C]) P E s):
  d7 (d5 prog w) A (Builtin.«object.__getattribute__» #[[.ref x, .str name c],[]]) (λfin b=>match fin with| .done^.ret v=>P v b|_=>False) E s:=by
 let⟨f,k,d,t,os⟩:=s;have i:=I.type (M:=d5 prog w);have j:=looks_find (M:=d5 prog w) X I e;unfold Builtin.«object.__getattribute__»;refine a_^ir^a_^ir^a_^i.at^a_^j.at ?_;exact a_^KB (gv h (λv b z=>ir z) λ_ _ z=>z)
def I0(X:K.In s.heap)(I:InstAt s.heap x ox C od)(c:j7 K C)(b:findObj K C od name\(.value v))(d:handedIn v=true)(h:Q v {s with toks:=s.toks+1}):
  d7 (d5 prog w) A (getAttr (.ref x) name a) Q E s:=by
 unfold getAttr;refine a_^wpAny_mkText ?_;refine Eh (s:={s with toks:=s.toks+1}) X I c^LC (s:={s with toks:=s.toks+1}) X I b ?_
 show d7 _ _ (handedOut v) _ _ _;rw[handedOut_of d];exact ir h
def Jc(X:K.In s.heap)(I:InstAt s.heap x ox C od)(c:j7 K C)(b:specialIn K (.builtin "object.__class__") "__get__"\(some^.builtin "getset_descriptor.__get__"))(htk:takesIn K^.builtin "object.__class__"\true)
  (h:Q (some^.ref C) {s with toks:=s.toks+1}):d7 (d5 prog w) A (getAttr? (.ref x) "__class__") Q E s:=by
 have d:findObj K C od "__class__"\(.bind (.builtin "getset_descriptor.__get__")^.builtin "object.__class__"):=by
  let⟨f,e,g⟩:=aeZ c.hd;unfold findObj;rw[e,adT,c.cl,adT];dsimp only;rw[b,adT];dsimp only;rw[htk];rfl
 unfold getAttr? getAttrBy?;refine a_^wpAny_mkText^a_^adu ?_
 have key:d7 (d5 prog w) A.in1 (Builtin.«object.__getattribute__» #[[.ref x, .str "__class__" s.toks],[]]) (λfin a=>match fin with| .done^.ret v=>v= .ref C/\a={s with toks:=s.toks+1} |_=>False) (λ_ _=>False) {s with toks:=s.toks+1}:=by
  refine OY (P:=λv a=>v= .ref C/\a={s with toks:=s.toks+1}) (s:={s with toks:=s.toks+1}) X I d^ac2^class_get (s:={s with toks:=s.toks+1}) (ox:=ox) (od:=od) X I c.ob ?_
  exact#[rfl,rfl]
 refine Eh (s:={s with toks:=s.toks+1}) X I c (gv key (λfin a z=>?_) λ_ _ z=>z.elim)
 rcases fin with (_|_|_|_) |_<;>first|exact z.elim|skip
 let⟨rfl,rfl⟩:=z;exact ir^ir h
def Dw(c:j7 K C)(i:specialIn K (.builtin "object.__class__") "__get__"\(some^.builtin "getset_descriptor.__get__"))(htk:takesIn K^.builtin "object.__class__"\true):
  KitX K (.ref x) (.ref C) (λh=>InstAt h x ox C od) where
 ty:=λ_ _ _ I=>I.type
 it:=λ_ _ X _=>by
  let⟨b,a,s⟩:=aeZ c.hd;unfold clsIn at a
  split at a
  .rename_i j l d m f
   intro r t u v k q;unfold isType loadHead;exact a_^aeo (k _ _^X _ _ f)^ir q
  .cases a
 ne:=λh o y p n B X g=>by
  let⟨b,a,s⟩:=aeZ c.hd;refine sW.mpr λq=>?_;have e:C=o:=Value.ref.inj^acU.mp q;subst e;unfold clsIn at a
  split at a
  .rename_i j l d m f
   have z:=(X _ _ f).symm.trans g;cases z
  .cases a
 ca:=λX I k=>Jc X I c i htk k
end
def K3(self:b_)(e:rD l=true):refuseLoop self "__setattr__" l=pure ⟨⟩:=by
 induction l with
 |nil=>cases e
 |cons v r b=>
  rw[rD] at e;cases a:isRef v with
  |true=>
   rw[mo a] at e;cases v with
   |ref c=>rw[refuseLoop_ref];exact b e
   |_=>cases a
  |false=>
   rw[tz^by rw[a];exact dP] at e
   rw[Ay e];exact F.store_ValueError.passes self
abbrev ck(C t:Addr)(d:Option Addr):Obj:={cls:= .ref C,dict:=d,data:= .fields [.ref t, .none, .none, .none, .bool false, .none].toArray}
section
variable {prog:Program} {w:World} {A:Around} {E:Value->Shared->Prop} {s:Shared} {K:Frag} {x C:Addr} {ox:Obj} {od:Option Obj} {name:Str} {R:Result->Shared->Prop}
theorem BM(X:K.In s.heap)(I:InstAt s.heap x ox C od)(c:j7 K C)(l:takerIn K C name\none)
  (h:∀b,d7 (d5 prog w) A.in1 (storeInOwnDict (.ref x) (.ref C) (.str name i) name v b)
   (λfin j=>match fin with| .done f=>R (.ok f) j| .again k=>k.quiet=true/\gl (d5 prog w) A k R j) (λe j=>R (.error e) j) s):
  gl (d5 prog w) A (.call (.builtin "object.__setattr__") #[[.ref x, .str name i,v],[]]) R s:=by
 rfl';have g:=PySem.F.store_object;let⟨n,o,p⟩:=aeZ c.ov;have sub:Looks (d5 prog w) s.heap (isInstance (.ref x)^.type "object") true:=I.type.andThen^looks_mroIn X c.ob;let⟨d,r,t⟩:=Option.bind_eq_some_iff.mp l;ac_rfl;refine adt g.slot.plain g.entry^@check_slot (d5 prog w) _ _ s "object.__setattr__" "object" "__setattr__" (.ref x) [.str name i,v] [] _ g.kind g.split sub (g.args (.ref x) (.str name i) v) ?_;have u:Looks (d5 prog w) s.heap (mroOf^.ref C) n.mro:=(looks_clsIn X o).andThen .now
 have y:Looks (d5 prog w) s.heap (storeTaker? d) none:=by
  cases d with
  |none=>exact .now
  |some a=>
   let⟨b,B,q⟩:=adN.mp t;refine(looks_takesIn X B).andThen ?_;cases b with
   |true=>cases q
   |false=>exact .now
 rw[osa_eq,refuse_eq];refine a_^a_^I.type.here^a_^u.here ?_;rw[K3 _ p];refine ir^a_^I.type.here^a_^(looks_findIn X r).here^a_^y.here ?_;exact h _
def aac(X:K.In s.heap)(c:j7 K C)(j:s.heap.get? x\(ck C t^some d))(k:s.heap.Ns1 d f)(ne:d≠x)(m:takerIn K C name\none)
  (hw:cm f i) (L:i.length<=sizeLine)
  (h:∀e,e.Ns1 d (λy=>if y=name then some v else f y)->Heap.SameBut d s.heap e->Q ⟨⟩ {s with heap:=e,toks:=s.toks+2}):
  d7 (d5 prog w) A (setAttr (.ref x) name v) Q E s:=by
 rfl';let⟨o,p,g⟩:=tP k;have J:InstAt s.heap x (ck C t^some d) C^some o:=#[j,rfl,rfl,p];let⟨M,q,r⟩:=aeZ c.hd;ac_rfl;refine set_plain X J c.sa (BM (s:={s with toks:=s.toks+1}) X J c m λb=>?_)
 refine a_^ir^a_^a_^aeo j^a_^Looks.here (s:={s with toks:=s.toks+1}) (looks_clsIn X q) ?_
 rw[r];refine ir (a:=some d)^a_^ir^a_ ?_;refine afr (s:={s with toks:=s.toks+1}) k λe l u=>?_
 rfl';let⟨N,B,F,G,H,I⟩:=l.count^PySem.Within.cons name v hw;ac_rfl;refine a_^aeT G (by rw[H];exact aeU^jj I^by rw[dQ];lia) ?_
 exact ir^h _ l u
def aab(X:K.In s.heap)(c:j7 K C)(i:s.heap.get? x\(ck C t none))(u:takerIn K C name\none)
  (h:∀f,f.Ns1 s.heap.objs.size (λy=>if y=name then some v else none)->f.get? x\(ck C t^some s.heap.objs.size)->(∀b o,b≠x->s.heap.get? b\o->f.get? b\o)->Q ⟨⟩ {s with heap:=f,toks:=s.toks+2}):
  d7 (d5 prog w) A (setAttr (.ref x) name v) Q E s:=by
 have J:InstAt s.heap x (ck C t none) C none:=#[i,rfl,rfl,trivial];let⟨P,B,F⟩:=aeZ c.hd;refine set_plain X J c.sa (BM (s:={s with toks:=s.toks+1}) X J c u λb=>?_)
 let⟨a,g,d,l,os⟩:=s;dsimp only at*;have m:(a.push {cls:= .type "dict",data:= .dict #[]}).get? x\(ck C t none):=AC _ i;have n:x≠a.objs.size:=bL^Da i;refine a_^ir^a_^a_^aeo i^a_^Looks.here (s:=#[a,g,d,l+1,os]) (looks_clsIn X B) ?_;rw[F];refine a_^wpAny_alloc' ?_;refine a_^wpAny_update' m ?_;refine ir ?_
 have j:((a.push {cls:= .type "dict",data:= .dict #[]}).update x λo=>{cls:=o.cls,dict:=some a.objs.size,data:=o.data,slots:=o.slots}).get? a.objs.size\{cls:= .type "dict",data:= .dict #[]}:=
  (adl _ _ _ _ n.symm).trans^Heap.get?_push_at rfl rfl
 have pK:((a.push {cls:= .type "dict",data:= .dict #[]}).update x λo=>{cls:=o.cls,dict:=some a.objs.size,data:=o.data,slots:=o.slots}).Ns a.objs.size (λ_=>none):=
  #[_, #[],_,j,rfl,λe G=>absurd G^by simp,λ_=>rfl]
 show d7 _ _ (storeInDict a.objs.size (.str name l) name v) _ _ _;unfold storeInDict newKeyGuard;refine a_^ir^a_ (afr (Heap.Ns1.of_empty pK) λf p q=>?_);rfl';let⟨T,I,L,M,N,O⟩:=p.count^Within.cons name v Within.nil;ac_rfl;refine a_^aeT M (by rw[N];exact aeU^jj O^by rw[dQ,mr,ac6];lia) ?_
 refine ir (h f p ?_ λb Y k r=>?_)
 .exact(q.2 x n).trans^P3 _ m rfl
 .exact(q.2 b^bL^Da r).trans^(adl _ _ _ _ k).trans^AC _ r
end
section
variable {M:Model} {A:Around} {E:Value->Shared->Prop} {h:Heap} {g:Array GenState} {d:Drawn} {t:Nat} {os:OsState}
variable {nm q:Str} {C N:Addr} {bs bm Nf:List Value} {gr:Bool} {sn:List Str} {sub:List Value} {ab:Bool} {col:Option Bool} {dd:Option Addr} {k0 k1 k2 k3 k5:Option Value} {B newId l8:String}
def EB(F:ka B newId l8 Nf)(Yt:(Value.ref C::bm).contains^.type B=true){rest:List b_}{Q:Unit->c_->Prop}(hC:h.get? C\(hH nm q C N bs bm gr sn sub ab col dd k0 k1 k2 k3 k5 newId))
  (hq:Q ⟨⟩ #[h,g,d,t,os]):d7 M A (js newId #[.ref C::rest,[]]) Q E #[h,g,d,t,os]:=by
 have acu:=F.noStar;simp only[js,F.newKind,F.newSplit,F.newRow]
 repeat (first|refine gE hC ?_| (refine g6 hC ?_;rw[Yt]) |refine wpAny_staticBase_exc hC ?_|refine wpAny_madeBy_exc hC ?_|simp only[bne_self_eq_false,fG,if_false]|wp_step)
 exact hq
def Cc(F:ka B newId l8 Nf)(Co:(Value.ref C::bm).contains^.type B=true){e:Addr}{oe:Obj}{rest:List b_}{Q:Unit->c_->Prop}
  (hC:h.get? C\(hH nm q C N bs bm gr sn sub ab col dd k0 k1 k2 k3 k5 newId)) (he:h.get? e\oe) (Hs:oe.cls= .ref C) (hq:Q ⟨⟩ #[h,g,d,t,os]):
  d7 M A (js l8 #[.ref e::rest,[]]) Q E #[h,g,d,t,os]:=by
 have acp:=F.noStar;simp only[js,F.initKind,F.initSplit,F.initRow]
 repeat (first| (with_reducible refine gE he ?_;rw[Hs]) |with_reducible refine gE hC ?_| (with_reducible refine g6 hC ?_;rw[Co]) |wp_step)
 refine wpAny_onRaise ?_
 rw[show ∀(a b:String)(n:Nat),Bind.check #[.positional,"*",B, .self,[#["args", .varPos,false]]] a b n^List.map (λx=>x.fst) ({pos:=Value.ref e::rest}:Args).kw=pure ⟨⟩ from
  λa b n=>check_star_args _ _ _ _ _ _]
 exact f5 hq
end
section
variable {prog:Program} {w:World} {A:Around} {R:Result->Shared->Prop} {h:Heap} {g:Array GenState} {d:Drawn} {t:Nat} {os:OsState}
variable {nm q:Str} {C N:Addr} {bs bm Nf:List Value} {gr:Bool} {sn:List Str} {sub:List Value} {ab:Bool} {col:Option Bool} {dd:Option Addr} {k0 k1 k2 k3 k5:Option Value} {B newId l8:String}
def JJ(F:ka B newId l8 Nf)(Co:(Value.ref C::bm).contains^.type B=true)(Yr:(Value.ref C::bm).contains^.type "AttributeError"=false)(Ys:(Value.ref C::bm).contains^.type "NameError"=false)
  {rest:List b_} (hC:h.get? C\(hH nm q C N bs bm gr sn sub ab col dd k0 k1 k2 k3 k5 newId))
  (hq:R (.ok^.ret^.ref (h.objs.size+1)) #[(h.push {cls:= .type "tuple",data:= .seq rest.toArray}).push^ck C h.objs.size none,g,d,t,os]) (J7:rest.length<=sizeLine):
  gl (d5 prog w) A (.builtin newId #[.ref C::rest,[]]) R #[h,g,d,t,os]:=by
 have acr:=F.ends;refine codeAny_builtinAt F.entry ?_;unfold Builtin.«BaseException.__new__»;refine PySem.wpAt_bind ?_;show PySem.wpAt _ _ _ (stack>>=_) _ _ _;refine PySem.wpAt_bind (PySem.wpAt_stack λp below=>PySem.wpAt_of_wpAny ?_)
 wp_walk
 refine PySem.wpAt_of_wpAny ?_;rw[F.owner]
 repeat (first|with_reducible refine wpAny_madeHere_exc F.canon hC ?_|with_reducible refine gE hC ?_| (with_reducible refine g6 hC ?_;first|rw[Co]|rw[Yr]|rw[Ys]) |wp_step)
 show R _ _;rw[Heap.size_push];exact hq
def yt(F:ka B newId l8 Nf)(Co:(Value.ref C::bm).contains^.type B=true){e t0:Addr}{od:Option Addr}{rest:List b_}(hC:h.get? C\(hH nm q C N bs bm gr sn sub ab col dd k0 k1 k2 k3 k5 newId))(he:h.get? e\(ck C t0 od))
  (hq:∀h' t',h'.get? e\(ck C t' od)->(∀b o,b≠e->h.get? b\o->h'.get? b\o)->R (.ok^.ret .none) #[h',g,d,t,os]) (J7:rest.length<=sizeLine):
  gl (d5 prog w) A (.call (.builtin l8) #[.ref e::rest,[]]) R #[h,g,d,t,os]:=by
 refine codeAny_call_builtin F.init.plain F.initEntry^Cc F Co hC he rfl ?_
 wp_walk
 have jL:e≠h.objs.size:=bL^Heap.lt_size he;refine hq _ h.objs.size ?_ λb o hb ho=>?_
 .rw[Heap.get?_update_self _ (Heap.get?_push_of_some _ he) rfl]
  rfl
 .rw[Heap.get?_update_other _ _^Ne.symm hb]
  exact Heap.get?_push_of_some _ ho
def yT(F:ka B newId l8 Nf)(Co:(Value.ref C::bm).contains^.type B=true)(Yr:(Value.ref C::bm).contains^.type "AttributeError"=false)(Ys:(Value.ref C::bm).contains^.type "NameError"=false)
  {rest:List b_} {init:b_} (hC:h.get? C\(hH nm q C N bs bm gr sn sub ab col dd k0 k1 k2 k3 k5 newId)) (call:Looks (d5 prog w) h (specialOf (.ref C) "__call__")^some^.builtin "type.__call__") (typ:Looks (d5 prog w) h (isInstance (.ref C)^.type "type") true)
  (hi:Looks (d5 prog w) h (typeLookup (.ref C) "__init__")^some init) (hb:∀self,Looks (d5 prog w) h (bindSpecial init self) (init,[self])) (J7:rest.length<=sizeLine)
  (hq:gl (d5 prog w) (A.under^.builtin "type.__call__" #[.ref C::rest,[]]) (.call init #[.ref (h.objs.size+1)::rest,[]]) (InitBack (h.objs.size+1) R) #[(h.push {cls:= .type "tuple",data:= .seq rest.toArray}).push^ck C h.objs.size none,g,d,t,os]):
  gl (d5 prog w) A (.call (.ref C) #[rest,[]]) R #[h,g,d,t,os]:=by
 refine codeAny_of_tree ?_;show d7 _ _ (callAny (.ref C) _) _ _ _;refine nd_load hC ?_;show d7 _ _ (callAny.viaDunder (.ref C) _) _ _ _;unfold callAny.viaDunder;refine a_^call.at ?_;dsimp only;rw[tc_bind];refine a_^f5^a_^f5 ?_;refine f5 (a:=Fin.again^.call (.builtin "type.__call__") #[.ref C::rest,[]])^And.intro rfl ?_;refine codeAny_call_builtin_at (Code.quiet_builtin _^by decide+kernel) entry_typeCall^check_slot tc_kind tc_split typ (tc_args _ _ _) ?_
 have hm:Looks (d5 prog w) h (mroOf^.ref C) (.ref C::bm):=((Looks.ld (part:=none) hC).andThen .now).andThen .now
 have made:Looks (d5 prog w) h (Bind.madeBy^.ref C)^some newId:=by
  intro A Q E s k q;let⟨h2,g2,d2,t2,os2⟩:=s;exact wpAny_madeBy_exc (k _ _ hC) q
 unfold Builtin.«type.__call__»
 repeat (first|simp only[List.isEmpty_cons,fG,if_false]|with_reducible refine ja ?_|lk)
 refine codeAny_call_builtin_code (Code.quiet_builtin _ F.quiet)^EB F Co hC ?_;refine JJ F Co Yr Ys hC ?_ J7;have k:∀b o,h.get? b\o->((h.push {cls:= .type "tuple",data:= .seq rest.toArray}).push^ck C h.objs.size none).get? b\o:=λb o e=>Heap.get?_push_of_some _^Heap.get?_push_of_some _ e;have hx:((h.push {cls:= .type "tuple",data:= .seq rest.toArray}).push^ck C h.objs.size none).get? (h.objs.size+1)\(ck C h.objs.size none):=by heap_get
 have t1:Looks (d5 prog w) ((h.push {cls:= .type "tuple",data:= .seq rest.toArray}).push^ck C h.objs.size none) (typeOf^.ref (h.objs.size+1))^.ref C:=(Looks.ld hx).andThen .now
 have s0:Looks (d5 prog w) h (isSubtype (.ref C)^.ref C) true:=by
  intro A Q E s k q;let⟨h2,g2,d2,t2,os2⟩:=s;refine g6 (k _ _ hC) ?_;rw[show(Value.ref C::bm).contains^.ref C=true by simp]
  exact q
 have s1:=s0.keeps k;have i1:=hi.keeps k;have b1:=(hb^.ref (h.objs.size+1)).keeps k;unfold isInstance callSpecial? specialOf
 repeat (first|with_reducible refine ja ?_|lk)
 refine jk hq λr s' z=>?_
 rcases r with e| (v|_|_|_)<;>first|exact z|exact z.elim|skip
 let⟨rfl,z⟩:=z;exact f5^f5 z
end
noncomputable def rX(C a:Addr)(d:Option Addr):HO:= .ext λh=>∃t,h.get? a\(ck C t d)
noncomputable def B7(a:Addr)(fs:List (ee×V)):HO:= .ext λh=>fs.length<=1000/\∃mA,h.Ns1 a mA/\(∀f,lT (fs.lookup f)^mA f)/\cm mA^fs.map (·.1)
section
variable {P:Program} {w:World} {H:Hp} {h:Heap} {a C:Addr} {d:Option Addr} {fs:List (Str×V)}
def Ga{t:Addr}(e:h.get? a\(ck C t d)):cp P w H h a^rX C a d:=#[#[t,e],#[_,e],λh1 h2 #[t,p] k=>#[t,k _ p]]
def Tf{mA:ee->Option b_}(hl:fs.length<=1000)(n:h.Ns1 a mA)(r:∀f,lT (fs.lookup f)^mA f)(q:cm mA^fs.map (·.1)):cp P w H h a^B7 a fs:=
 #[#[hl,mA,n,r,q],let #[o,_,_,e,_]:=n;#[o,e],λh1 h2 #[hl,mA,#[o,es,ep,e,c],r,q] k=>#[hl,mA,#[o,es,ep,k _ e,c],r,q]]
def zM(hok:ik P w H h)(e:H a\(rX C a d)):∃t,h.get? a\(ck C t d):=(hok a _ e).1
def Gb(hok:ik P w H h)(e:H a\(B7 a fs)):fs.length<=1000/\∃mA,h.Ns1 a mA/\(∀f,lT (fs.lookup f)^mA f)/\cm mA^fs.map (·.1):=(hok a _ e).1
end
section
variable {X:Cx} {pins:List (Addr×Obj)} {σ:St} {H:Hp} {s:Shared}
theorem Inv.V8{a dx:Addr}{o1 o2:HO}{h':Heap}{t':Nat}(I:Inv X pins σ H s)(mu:O8^H a)(lR:s.heap.objs.size<=dx)(k:∀b u,b≠a->s.heap.get? b\u->h'.get? b\u)(Hu:∃u,h'.get? a\u)
  (abx:cp X.prog X.w (upd (upd H a o1) dx o2) h' a o1) (aby:cp X.prog X.w (upd (upd H a o1) dx o2) h' dx o2):Inv X pins σ (upd (upd H a o1) dx o2) {s with heap:=h',toks:=t'}:=by
 have nd:H dx=none:=I.hok.fresh lR
 obtain⟨oa,ha⟩:∃o,H a\o:=by
  cases q:H a with
  |none=>rw[q] at mu;exact mu.elim
  |some o=>exact#[o,rfl]
 have HV:a≠dx:=aq ha nd;have HY:∀c y,H c\(.own y)->c≠a:=λc y r z=>by subst z;rw[r] at mu;exact mu
 have Mw:∀c xs,H c\(.tup xs)->c≠a:=λc xs r z=>by subst z;rw[r] at mu;exact mu
 have abz:∀c o u,H c\(.tI o u)->c≠a:=λc o u r z=>by subst z;rw[r] at mu;exact mu
 have abD:∀c ps,H c\(.IL ps)->c≠a:=λc ps r z=>by subst z;rw[r] at mu;exact mu
 have up:∀b u,b≠a->H b\u->upd (upd H a o1) dx o2 b\u:=λb u hb e=>by rw[af^aq e nd,af hb];exact e
 refine I.un (h':=h') (t':=t') #[λb o e n _ _=>?_,λb o e n _ _=>#[o.slots,?_],λb o e n _=>?_,λb o e _=>?_,λb xs e=>up b _ (Mw b xs e) e,λb o u e=>up b _ (abz b o u e) e,λb ps e=>#[#[],by rw[up b _ (abD b ps e) e];simp]] λb u e=>?_
 .exact k b o (λz=>by rw[z,ha] at n;cases n) e
 .exact k b o (λz=>by rw[z,ha] at n;cases n) e
 .rw[af^λz=>by rw[z] at e;exact absurd (Heap.lt_size e)^Nat.not_lt.mpr lR,af^λz=>by rw[z,ha] at n;cases n];exact n
 .by_cases z:b=a
  .rw[z];exact Hu
  .exact#[o,k b o z e]
 .by_cases z:b=dx
  .subst z;rw[ae] at e;cases e;exact aby
  .rw[af z] at e
   by_cases z2:b=a
   .subst z2;rw[ae] at e;cases e;exact abx
   .rw[af z2] at e
    refine(I.hok b u e).pz (λc v hc q=>k c v ?_ q) (λc q=>up c _ (HY c b q) q) λc xs q=>up c _ (Mw c xs q) q
    rcases hc with y|y
    .rw[y];exact z2
    .exact HY c b y
variable {a C:Addr} {fs:List (Str×V)} {f:Str} {v:V} {A:Around} {E:Value->Shared->Prop}
def Wl(H:Hp)(C a:Addr)(f:ee)(y:V)(fs:List (ee×V))(Q:Hp->Prop):Prop:=
 (fs= []/\H a\(rX C a none)/\∀dx,H dx=none->Q^upd (upd H a^rX C a^some dx) dx^B7 dx [(f,y)])\/
 (∃dx,H a\(rX C a^some dx)/\H dx\(B7 dx fs)/\fs.length<1000/\Q^upd H dx^B7 dx^jP f y fs)
def Gh{y:V}{u:b_}{Q:Unit->c_->Prop}{R:Hp->Prop}(I:Inv X pins σ H s)(c:j7 X.K C)(n:fL X.K C f)(ry:RelV y u)(p:Wl H C a f y fs R)
  (h:∀H' s',Inv X pins σ H' s'->R H'->Q ⟨⟩ s'):d7 (d5 X.prog X.w) A (setAttr (.ref a) f u) Q E s:=by
 rcases p with ⟨rfl,e,q⟩ | ⟨dx,e,ed,hl,q⟩
 .obtain⟨t,et⟩:=zM I.hok e
  refine aab I.cZ c et n.Ll λh' hn hx k=>?_;refine h _ _ (I.V8 (by rw[e];exact True.intro) (bh _) k #[_,hx] (Ga hx) ?_)^q s.heap.objs.size I.fresh
  refine Tf (by simp) hn (λg=>?_)^λg hg=>?_
  .by_cases z:g=f
   .rw[if_pos z,z];simp only[bu,beq_self_eq_true];exact ry
   .rw[if_neg z]
    have hb:(g==f)=false:=beq_eq_false_iff_ne.mpr z;simp only[bu,hb];exact True.intro
  .by_cases z:g=f
   .rw[z];simp
   .rw[if_neg z] at hg;exact absurd rfl hg
 .obtain⟨t,et⟩:=zM I.hok e
  obtain⟨_,mA,hn,r,wi⟩:=Gb I.hok ed
  have ne:dx≠a:=by
   rintro rfl;obtain⟨o,es,ep,eo,hd,_⟩:=hn;rw[et] at eo;cases eo;cases hd
  have hz:(fs.map (·.1)).length<=sizeLine:=by rw[aI,sizeLine_eq];lia
  refine aac I.cZ c et hn ne n.Ll wi hz λh' E4 sb=>h _ _ (I.write (x:=dx) (e:=dx) (by rw[ed];exact True.intro) (.inl rfl) (λb q hb z=>(sb.2 b hb).trans z) (let #[o,_,_,e',_]:=E4;#[o,e']) ?_) q
  refine Tf (by have:=n9 f y fs;lia) E4 (λg=>?_)^λg hg=>?_
  .rw[oj]
   by_cases q:g=f
   .rw[if_pos q,if_pos q];exact ry
   .rw[if_neg q,if_neg q];exact r g
  .by_cases q:g=f
   .rw[q];exact(k6 f y fs).1
   .refine(k6 f y fs).2 g (wi g λz=>hg ?_)
    show(if g=f then some u else mA g)=none;rw[if_neg q];exact z
end
def ZT(K:ad)(ta tv:TE)(f:Str):TS:=λD σ H=>tv σ H λy H1=>ta σ H1 λx H2=>∃a C fs,x= .ref a/\j7 K C/\fL K C f/\Wl H2 C a f y fs λH3=>D.nx σ H3
section
variable {X:Cx} {o e value:Expr} {f:Str} {pos pos' acf:Pos} {ta tv:TE}
def vI(ha:PE X o ta)(hv:PE X value tv)(hs:gs value (some^.Attribute o f pos') pos.line X.env=pure false):PS X (.Assign [.Attribute o f pos'] value pos)^ZT X.K ta tv f:=by
 intro pins s σ H D I h;refine plainObj_wpAny_Assign_Attribute (thn (hv pins s σ H _ I h) λu s1 #[y,H1,I1,ry,q]=>thn (ha pins s1 σ H1 _ I1 q) λov s2 #[x,H2,I2,rx,a,C,fs,ex,c,n,p]=>?_) hs;subst ex;obtain rfl:ov=Value.ref a:=rx;exact Gh I2 c n ry p λH3 s3 I3 q=>#[σ,_,I3,q]
inductive Gy:V->b_->Prop where
 |own (D:Addr):Gy (.ref D)^.ref D
 |blt (n:String):Gy (.ty n)^.type n
end
structure mX (K:ad) (C:Addr):Prop where
 obj:∃nm q N bs bm gr sn sub ab col dd k0 k1 k2 k3 k5,K.lookup C\(hH nm q C N bs bm gr sn sub ab col dd k0 k1 k2 k3 k5 "ValueError.__new__")/\(Value.ref C::bm).contains^.type "ValueError"=true/\
  (Value.ref C::bm).contains^.type "AttributeError"=false/\(Value.ref C::bm).contains^.type "NameError"=false
structure GC (K:ad) (C:Addr) (init:b_):Prop extends mX K C where
 call:bd K (.ref C) "__call__"\(some^.builtin "type.__call__")
 typ:dD K (.ref C)^.type "type"\true
 ini:aj K (.ref C) "__init__"\(some init)
 kp:am K^.ref C=true
def V7{H:Hp}{a:Addr}{o:HO}(e:H a\o):upd H a o=H:=by
 funext b
 by_cases h:b=a
 .rw[h,ae,e]
 .rw[af h]
def V2(C:Addr)(sp:Sp)(E:XK)(t:TA):TE:=λσ H Q=>t σ H λvs H1=>∀e,H1 e=none->sp (.ref e::vs) (upd H1 e^rX C e none) (λv H2=>v= .aQ/\Q (.ref e) H2) E
def V1(K:ad)(t:TA):TE:=λσ H Q=>t σ H λvs H1=>∃a C d y,vs= [.ref a,y]/\H1 a\(rX C a d)/\mX K C/\Q .aQ H1
section
variable {X:Cx} {CX:pP} {k:Nat} {f C:Addr} {fd:FuncData} {ps:List Str} {sp:Sp} {E:XK} {x m:Str} {p pos apos:Pos} {e o:Expr} {es:List Expr} {ta:TE} {t:TA}
theorem K8{pins:List (Addr×Obj)}{σ:St}{H:Hp}{s:c_}{Q:VK}{us:List b_}{vs:List V}(M:GC X.K C^.ref f)(hf:bT X.K^.ref f=true)(F:FnOk X.prog X.w X.K X.mg X.base CX k f fd ps sp)(hr:bU (k+1) X.A)(hb:Binds X.K fd ps [])
  (QV:ps.length<=1000) (hx:Passes CX X E) (I:Inv X pins σ H s) (r:Vals vs us)
  (h:∀e,H e=none->sp (.ref e::vs) (upd H e^rX C e none) (λv H2=>v= .aQ/\Q (.ref e) H2) E):
  d7 (d5 X.prog X.w) X.A (call (.ref C) us) (EP X pins σ Q) X.xe s:=by
 let⟨nm,q,N,bs,bm,gr,sn,sub,ab,col,dd,k0,k1,k2,k3,k5,hC,cB,cA,cN⟩:=M.obj;have hq:=h (s.heap.objs.size+1)^I.hok.fresh^lM _
 have Y4:((s.heap.push {cls:= .type "tuple",data:= .seq us.toArray}).push^ck C s.heap.objs.size none).get? (s.heap.objs.size+1)\(ck C s.heap.objs.size none):=by
  have:=Heap.get?_push_size (s.heap.push {cls:= .type "tuple",data:= .seq us.toArray}) (o:=ck C s.heap.objs.size none) rfl
  rwa [Heap.size_push] at this
 have I2:Inv X pins σ (upd H (s.heap.objs.size+1)^rX C (s.heap.objs.size+1) none) {s with heap:=(s.heap.push {cls:= .type "tuple",data:= .seq us.toArray}).push^ck C s.heap.objs.size none}:=
  I.laid (t':=s.toks) (λb u q=>Heap.get?_push_of_some _^Heap.get?_push_of_some _ q) (lM _)^Ga Y4
 have r2:Vals (V.ref (s.heap.objs.size+1)::vs) (Value.ref (s.heap.objs.size+1)::us):= .cons rfl r
 have hl:((Value.ref (s.heap.objs.size+1)::us)++ []).length=ps.length:=by
  have e:=r2.length;rw[F.len _ _ _ _ hq] at e;rw[ft];exact e.symm
 have hlen:us.length<=sizeLine:=by
  rw[ft,dQ] at hl;exact qT^bO ()
 have Ck:=hb _ (Value.ref (s.heap.objs.size+1)::us) I2.cZ hl;rw[ft] at Ck;let⟨hh,g,d,tk,os⟩:=s
 refine ja^yT (init:= .ref f) PySem.F.excBase_ValueError cB cA cN (I.cZ _ _ hC) (PySem.W.looks_specialIn I.cZ M.call) (PySem.W.looks_instIn I.cZ M.typ) (PySem.W.looks_findIn I.cZ M.ini) (λself=>PySem.W.bind_fn I.cZ self^beq_iff_eq.mp hf) hlen
  (jk (F.run _ X.stack _ _ #[Value.ref (hh.objs.size+1)::us,[]] (Value.ref (hh.objs.size+1)::us) _ _ E (hr.make C us []) (I2.Hh.make C us []) Ck r2 hq) λr s' n0=>?_)
 cases r with
 |error e=>exact hx pins σ _ _ e s' I2 n0
 |ok fl=>
  cases fl with
  |ret u=>
   refine ag λG0 k0=>?_;let⟨v,H',I3,rv,ev,q3⟩:=I2.after n0;subst ev;refine k0 ?_;exact#[rv,#[V.ref (hh.objs.size+1),H',I3,rfl,q3]]
  |next=>exact False.elim n0
  |brk=>exact False.elim n0
  |cont=>exact False.elim n0
def Ou(M:GC X.K C^.ref f)(hf:bT X.K^.ref f=true)(F:FnOk X.prog X.w X.K X.mg X.base CX k f fd ps sp)(hr:bU (k+1) X.A)(hg:Gl X x)(hm:X.mg x\(.ref C))(hb:Binds X.K fd ps [])(QV:ps.length<=1000)(hx:Passes CX X E)
  (ha:PA X (e::es) t) (eJ:(x==("__debug__":ee))=false<|>zm) (he:d4 (e::es) X.env=(false,fC e X.env)::d4 es X.env<|>zn) (bV:(f8 pos^d4 es X.env).any (·.1)=false<|>zn):
  PE X (.Call (.Name x p) (e::es) [] pos)^V2 C sp E t:=by
 intro pins s σ H Q I h;refine wpAny_Call_Name_kw^hU I hg hm ?_ eJ;refine PySem.W.callWith_K (h₀:=X.base) I.ok.mod.kin M.kp (thn (ha pos pins s σ H _ I h) λus s1 #[vs,H1,I1,r,q]=>#[I1.cZ,?_]) he bV;exact K8 M hf F hr hb QV hx I1 r q
def xF{C0:Addr}{pl:j9 Bool}(hg:Gl X x)(hm:X.mg x\(.ref C0))(sg:bd X.K (.ref C0) "__getattribute__"\(some^.builtin "type.__getattribute__"))(rd:dc X.K C0^.type "type"=true)
  (fc:dn X.K (.ref C0) (.type "type") "__init__"\(.val^.builtin "ValueError.__init__")) (ha:PA X (e::es) t) (eJ:(x==("__debug__":ee))=false<|>zm)
  (he:d4 (e::es) X.env=(false,fC e X.env)::d4 es X.env<|>zn) (bV:(f8 pos^d4 es X.env).any (·.1)=false<|>zn)
  (ht:fC (.Call (.Attribute (.Name x p) "__init__" apos) (e::es) [] pos) X.env=(do
   let ov <-fC (.Name x p) X.env
   im apos.atName
   let (f,first) <-hB [ov] (ku ov "__init__" pl)
   callWith pos f first (f8 pos^d4 (e::es) X.env)^il pos^g_ [] X.env)<|>zn):
  PE X (.Call (.Attribute (.Name x p) "__init__" apos) (e::es) [] pos)^V1 X.K t:=by
 intro pins s σ H Q I h;refine PySem.W.methodCall_KW (pl:=pl) (hU I hg hm ?_ eJ) ht;refine PySem.W.method_cls I.cZ sg^PySem.W.cls_value I.cZ rd fc (by decide+kernel) ?_
 refine PyProof.Rows.callWith_builtin1 (thn (ha pos pins _ σ H _ (I.tok _) h) λus s1 #[vs,H1,I1,r1,a,C,d,y,ev,ea,xo,q1]=>?_) he bV;refine ag λG0 k0=>?_;subst ev;obtain⟨u1,u2,rfl,ra,ry⟩:=r1.two;subst ra;obtain⟨nm,q,N,bs,bm,gr,sn,sub,ab,col,dd,k0,k1,k2,k3,k5,hC,cB,cA,cN⟩:=xo.obj;obtain⟨t0,et⟩:=zM I1.hok ea;obtain⟨hh,g,dr,tk,os⟩:=s1;refine k0 ?_;refine ja^yt PySem.F.excBase_ValueError cB (I1.cZ _ _ hC) et (λh' t' UB kk=>?_)^by show 1<=sizeLine;decide
 have I2:=I1.write (x:=a) (e:=a) (o:=rX C a d) (t':=tk) (by rw[ea];exact True.intro) (.inl rfl) (λb u hb q=>kk b u hb q) #[_,UB]^Ga UB
 rw[V7 ea] at I2;exact#[.aQ,H1,I2,rfl,q1]
end
section
variable {X:Cx} {pins:List (Addr×Obj)} {σ:St} {H:Hp} {s:Shared} {A:Around} {E:Value->Shared->Prop} {Q:Value->Shared->Prop} {b:Bool}
end
def bD.of(f:Scope)(e:X.env.scope=f)(k:d.kind= .function)(a:∀x∈d.names,x.2= .local->d.names.lookup x.1\.local)(b:∀x∈d.names,x.2≠ .cell)
  (c:∀x∈d.names,x.2= .free->f.names.lookup x.1\.cell\/f.names.lookup x.1\.free):bD X d:=#[k,a,b,λx g h=>by rw[<-e] at c;exact c x g h]
def Dg{K:ad}{a:Addr}{xs:List V}{g:TG}{k:TS}{D:Ends}{b:St}{H:Hp}(c:Nat->St->Hp->Prop)(o:c 0 b H)(r:∀i b H,i<=xs.length->c i b H->aJ K H a xs)
  (s:∀(i:Nat) x t b H,xs[i]?\x->H t=none->c i b H->g (.ref t) b (upd H t^.tup [.int (i:Int),x]) λf h=>k {D with nx:=c (i+1),ct:=c (i+1),bk:=D.nx} f h) (u:∀b H,c xs.length b H->D.nx b H):
  ∃W:Nat->Nat->St->Hp->Prop,(∃m,W 0 m b H)/\∀i m b H,W i m b H->
   ((M6 K a).stop i H/\D.nx b H)\/((M6 K a).go i H/\∃N:St->Hp->Prop,(∀j d,N j d->∃l,l<m/\W (i+1) l j d)/\∀x d,(M6 K a).yld i H x d->g x b d λf h=>k {D with nx:=N,ct:=N,bk:=D.nx} f h):=by
 refine#[λi m b H=>m=xs.length-i/\i<=xs.length/\c i b H,#[xs.length,by simp,d9 _,o],?_]
 rintro i m b H ⟨rfl,w,p⟩;have q:=r i b H w p
 by_cases n:i<xs.length
 .refine .inr #[#[xs,xs[i],q,by simp[n]],c (i+1),λj d A=>#[xs.length-(i+1),(),rfl,n,A],λx d y=>?_]
  let⟨t,v,rfl,B,rfl,C⟩:=y;exact s i v t b H (C xs q) B p
 .have e:i=xs.length:=()
  subst e;exact .inl #[#[xs,q,bh _],u b H p]
def Du{K:ad}(e:X.K=K<|>zn):zR X^MB K:=by rw[<-e];exact bN
def HL{K:ad}(e:X.K=K<|>zn):zR X^Xb K:=by rw[<-e];exact Mn
def KH{K:ad}(e:X.K=K<|>zn):OpR X (fz .NotIn)^Vw K true:=by rw[<-e];exact sI
structure bJ (K:ad) (mg:Str->Option Value) (x:Str) (st:Stmt) (ps:List Str) where
 f:Addr
 fd:FuncData
 F:uB K x x st f fd
 b:Binds K fd ps []
 m:mg x\(.ref f)
def ay(h:H p=none)(o:HO):aC H^upd H p o:=λb u q=>by rw[af^aq q h];exact q
def small(h:n<=1000):n<=sizeLine:=qT^bO h
abbrev jJ(C t:Addr)(a:Value)(d:Option Addr):Obj:={cls:= .ref C,dict:=d,data:= .fields [.ref t,a, .none, .none, .bool false, .none].toArray}
noncomputable def lO(C a:Addr)(d:Option Addr):HO:= .ext λh=>∃t b,h.get? a\(jJ C t b d)
section
variable {P:Program} {w:World} {H:Hp} {h:Heap} {a C:Addr} {d:Option Addr}
def Qb{tb:b_}(e:h.get? a\(jJ C t tb d)):cp P w H h a^lO C a d:=#[#[t,tb,e],#[_,e],λb c #[t,tb,p] k=>#[t,tb,k _ p]]
def Mb(hok:ik P w H h)(e:H a\(lO C a d)):∃t b,h.get? a\(jJ C t b d):=(hok a _ e).1
end
def GA(h:Heap)(T:Addr):Prop:=∃o a,h.get? T\o/\o.data= .fields a/\a[3]?\.none
section
variable {M:Model} {A:Around} {E:Value->Shared->Prop} {s:Shared}
def AR 
  (P:A.frames\(env::outer)) (w:s.heap.FunFrames base (env::outer)) (R:env.frame\L)
  (y:s.heap.get? e\(jJ C t j d))
  (h:∀k T,s.heap.objs.size<=T->k.get? e\(jJ C t (.ref T) d)->GA k T->(∀b o,s.heap.get? b\o->b≠e->∃p,k.get? b\{o with slots:=p})->
   (∀b o,s.heap.get? b\o->b≠e->b∉uK (env::outer)->k.get? b\o)->Q ⟨⟩ {s with heap:=k}):
  d7 M A (do let a <-frameOf env;let pl <-entryPlaceOf L O;let b <-EntryCells.newEntry g a .none (kG L) .none pl;setField (.ref e) 1 b) (λ_ S=>d7 M A (kF (.ref e) none) Q E S) E s:=by
 have q:(jJ C t j d).data= .fields [.ref t,j, .none, .none, .bool false, .none].toArray:=rfl;have X:1<([.ref t,j, .none, .none, .bool false, .none].toArray:Array b_).size:=by simp
 have r:e∉(env::outer).filterMap (·.frame):=λY=>by
  obtain⟨_,o,m,Z⟩:=w.mem Y;rw[y] at m;injection m with m;subst m;exact Z _ q
 refine a_ (wpAny_frameOf_fun P w R λc n=>?_);refine a_ (wpAny_entryPlaceOf λpl B=>?_);unfold EntryCells.newEntry newFields;refine a_^acV ?_^B.sizeOk5 _ _ _ _ _;have F:c.get? e\(jJ C t j d):=(n.2.1 e r).trans y;have G:=AC (h:=c) {cls:= .type "traceback",dict:=none,data:= .fields ([g, .ref L, .none,kG L, .none]++(if pl.isEmpty then cb 6 Value.none else pl)).toArray} F;refine afp G q X ?_;have H:c.objs.size≠e:=jV^Da F;have I:=adB q (·.setIfInBounds 1^Value.ref c.objs.size);have J:=P3 (Obj.mapFields (·.setIfInBounds 1^Value.ref c.objs.size)) G^ad2 I
 have N:=(Pi (c.push {cls:= .type "traceback",dict:=none,data:= .fields ([g, .ref L, .none,kG L, .none]++(if pl.isEmpty then cb 6 Value.none else pl)).toArray})
  (Obj.mapFields (·.setIfInBounds 1^Value.ref c.objs.size))^Ne.symm H).trans^GM c rfl
 unfold kF;refine a_^acT J I (x:= .ref c.objs.size) (by simp) ?_
 rw[mo (show(Value.ref c.objs.size !=Value.none)=true from by simp)]
 refine afp N rfl (by simp only[cn,eF,dQ,mr]<;>lia) ?_
 have keep:∀b o,b≠e->c.get? b\o->
   (((c.push {cls:= .type "traceback",dict:=none,data:= .fields ([g, .ref L, .none,kG L, .none]++(if pl.isEmpty then cb 6 Value.none else pl)).toArray}).update e^Obj.mapFields (·.setIfInBounds 1^Value.ref c.objs.size)).update c.objs.size
     (Obj.mapFields (·.setIfInBounds 3 ((none:Option Addr).elim Value.none λf=>kG f)))).get? b\o:=λb o l i=>by
  have u:c.objs.size≠b:=jV^Da i;rw[Pi _ _ u,Pi _ _^Ne.symm l];exact AC _ i
 refine h _ c.objs.size (by rw[n.1];exact bh _) ?_ #[_,_,P3 _ N^ad2^adB rfl _,adB rfl _,by first| (simp;done) | (rcases B with rfl| ⟨_,_,_,_,_,_,_,rfl⟩<;>simp)] (λb o i l=>?_)^λb o i l v=>?_
 .rw[Pi _ _ H];exact J
 .obtain⟨p,hs⟩:=n.2.2 b o i
  exact#[p,keep b _ l hs]
 .exact keep b o l^(n.2.1 b v).trans i
def Ko{base:Heap} 
  (G:A.frames\(env::outer)) (H:s.heap.FunFrames base (env::outer)) (r:env.frame\L)
  (u:s.heap.get? e\(jJ C t g d)) (I:g= .none\/∃T,g= .ref T/\T≠e/\GA s.heap T)
  (h:∀c T,s.heap.objs.size<=T->c.get? e\(jJ C t (.ref T) d)->GA c T->(∀b o,s.heap.get? b\o->b≠e->∃J,c.get? b\J)->(∀b o,s.heap.get? b\o->b≠e->g≠ .ref b->∃k,c.get? b\{o with slots:=k})->
   (∀b o,s.heap.get? b\o->b≠e->g≠ .ref b->b∉uK (env::outer)->c.get? b\o)->Q ⟨⟩ {s with heap:=c}):
  d7 M A (kv (.ref e) env) (λ_ N=>d7 M A (kF (.ref e) none) Q E N) E s:=by
 have O:(jJ C t g d).data= .fields [.ref t,g, .none, .none, .bool false, .none].toArray:=rfl;unfold kv;simp only[r];refine a_^acT (x:=g) u O rfl ?_
 rcases I with rfl| ⟨T,rfl,P,Z,R,l,m,i⟩
 .rw[tz ∅]
  exact AR G H r u λc T p v i j y=>h c T p v i (λb o q n=>let #[k,z]:=j b o q n;#[_,z]) (λb o q n _=>j b o q n) λb o q n _=>y b o q n
 .rw[mo (show(Value.ref T !=Value.none)=true from by simp)]
  refine a_^acT l m i ?_;rw[tz (show ¬((Value.none==kG L)=true) from by simp[kG])]
  refine a_^afp l m (BQ.mp i).1 ?_;have a:∀b,b≠T->(s.heap.update T^Obj.mapFields (·.setIfInBounds 3 Value.none)).get? b=s.heap.get? b:=λb f=>Pi _ _^Ne.symm f
  have S:∀b o,s.heap.get? b\o->(∀X,o.data≠ .fields X)->b≠T:=λb o f B q=>by
   rw[q,l] at f;injection f with f;subst f;exact B R m
  have F:=P3 (Obj.mapFields (·.setIfInBounds 3 Value.none)) l^ad2^adB m _;refine AR (s:={s with heap:=s.heap.update T^Obj.mapFields (·.setIfInBounds 3 Value.none)}) G (H.of_keeps λb o f B=>#[o,(a b^S b o f B).trans f,rfl]) r ((a e^Ne.symm P).trans u) λc Y p v i j y=>?_
  refine h c Y (by rw[Heap.size_after_update] at p;exact p) v i (λb o q n=>?_) (λb o q n z=>j b o ((a b λw=>z^by rw[w]).trans q) n) λb o q n z=>y b o ((a b λw=>z^by rw[w]).trans q) n
  by_cases z:b=T
  .subst z
   obtain⟨k,z⟩:=j b _ F n;exact#[_,z]
  .obtain⟨k,z⟩:=j b o ((a b z).trans q) n
   exact#[_,z]
end
def aal(X:Cx)(H:Hp)(h:Heap)(a:Value):Prop:=a= .none\/∃T,a= .ref T/\X.s₀.heap.objs.size<=T/\T≠X.env.locals/\(∀x c,X.env.cells.lookup x\c->c≠T)/\(∀p∈X.pn,p.1≠T)/\H T=none/\GA h T
def zQ(X:Cx)(H:Hp)(s:Shared)(a:Addr):Prop:=∃C t b d,H a\(lO C a d)/\s.heap.get? a\(jJ C t b d)/\aal X H s.heap b
structure Fly (P:Program) (w:World) (outer:List Env) (H:Hp) (s:Shared) (a:Addr) (H':Hp) (s':Shared):Prop where
 os:s'.os=s.os
 bare:AllBare s'.gens
 un:Un (uK outer) [] H H' s.heap s'.heap
 hok:ik P w H' s'.heap
 obj:∃C t tb d,H' a\(lO C a d)/\s'.heap.get? a\(jJ C t tb d)/\(tb= .none\/∃T,tb= .ref T/\s.heap.objs.size<=T/\H' T=none/\GA s'.heap T)
def sX(P:Program)(w:World):pP:=λouter H s E e c=>∃a b,e= .ref a/\Fly P w outer H s a b c/\E e none b
section
variable {X:Cx} {pins:List (Addr×Obj)} {σ:St} {H H':Hp} {s s':Shared} {a:Addr}
def Inv.Pj(I:Inv X pins σ H s):Inv X [] σ H s:=#[I.ok,I.os,I.bare,I.base,I.loc,I.cell,I.free,I.freeC,λp b=>I.pin p^by rw[ft] at b;exact lH _ b,I.hok,I.len]
theorem Mc(I:Inv X pins σ H s)(f:Fly X.prog X.w X.stack H s a H' s'):Inv X [] σ H' s'/\zQ X H' s' a:=by
 rfl';let⟨os,bare,un,hok,C,t,h,d,i,j,k⟩:=f;have l:Inv X pins σ H' s':=I.Jq (ch:= []) os un hok bare^λb z=>absurd z^by simp
 ac_rfl;refine#[l.Pj,C,t,h,d,i,j,k.imp id λ#[T,m,e,n,q]=>#[T,m,jj I.sz e,?_,λx c r z=>?_,λp u z=>?_,n,q]]
 .exact λz=>absurd (dj I.lt e)^by rw[z];exact km _
 .obtain⟨v,o,y,_⟩:=I.cell x c r
  exact absurd (dj (Da y) e)^by rw[z];exact km _
 .have:=(I.pin p^lH _ u).1
  exact absurd (dj (Da this) e)^by rw[z];exact km _
theorem DJ(r:X.stack=X.env::X.outer)(Z:X.env.frame\X.env.locals)(I:Inv X [] σ H s)(f:zQ X H s a)
  (h:∀s',Inv X [] σ H s'->zQ X H s' a->Q ⟨⟩ s'):
  d7 M X.A (kv (.ref a) X.env) (λ_ s'=>d7 M X.A (kF (.ref a) none) Q E s') E s:=by
 let⟨C,t,tb,d,j,h2,B⟩:=f;have fr:s.heap.FunFrames X.base (X.env::X.outer):=by rw[<-r];exact I.stack
 refine Ko (base:=X.base) (by rw[I.ok.frames,r]) fr Z h2 (B.imp id λ#[T,e1,_,_,_,_,P,e7]=>#[T,e1,(λz=>by rw[z,j] at P;cases P),e7]) λk T F G J k0 k1 R=>?_
 have tr:∀b u,H b\u->b≠a->∀o,s.heap.get? b\o->k.get? b\o:=λb u i jL o l=>by
  refine R b o l jL (λz=>?_) λz=>?_
  .rcases B with q| ⟨T,q,_,_,_,_,L,_⟩
   .rw[q] at z;cases z
   .rw[q] at z;cases z;rw[i] at L;cases L
  .have:=I.Bw b^by rw[r];exact z
   rw[i] at this;cases this
 have hok:ik X.prog X.w H k:=λb u i=>by
  by_cases z:b=a
  .subst z;rw[j] at i;cases i;exact Qb G
  .refine(I.hok b u i).pz (λc v g q=>?_) (λ_ q=>q) λ_ _ q=>q
   rcases g with rfl|g
   .exact tr c u i z v q
   .exact tr c _ g (λw=>by rw[w,j] at g;cases g) v q
 have N:H T=none:=I.hok.fresh F;have O:∀c o,s.heap.get? c\o->c≠T:=λc o g z=>absurd (dj (Da g) F)^by rw[z];exact km _
 have fin:∀ch:List Addr,(∀b,tb= .ref b->b∈ch)->(∀b∈ch,(b∈X.ex\/X.s₀.heap.objs.size<=b)/\b≠X.env.locals/\(∀x c,X.env.cells.lookup x\c->c≠b)/\∀p∈X.pn++ [],p.1≠b)->Inv X [] σ H {s with heap:=k}:=λch S h6=>by
  refine I.Jq (s':={s with heap:=k}) (ch:=ch) rfl #[λb o e n i g=>?_,λb o e n _ g=>?_,λb o _ n _=>n,λb o e _=>?_,λ_ _ q=>q,λ_ _ _ q=>q,λ_ ps q=>#[#[],by rw[q];simp]] hok I.bare h6
  .exact R b o e (λz=>by rw[z,j] at n;cases n) (λz=>g^S b z)^by rw[<-r];exact i
  .exact k1 b o e (λz=>by rw[z,j] at n;cases n)^λz=>g^S b z
  .by_cases z:b=a
   .exact#[_,by rw[z];exact G]
   .exact k0 b o e z
 have I':Inv X [] σ H {s with heap:=k}:=by
  rcases B with q| ⟨Y,q,q2,q3,q4,q5,L,q7⟩
  .exact fin [] (λb z=>by rw[q] at z;cases z) λb z=>absurd z^by simp
  .refine fin [Y] (λb z=>by rw[q] at z;cases z;exact c5 ..) λb z=>?_
   have:b=Y:=by simpa using z
   subst this;exact#[.inr q2,q3,q4,λp y=>q5 p^by rw[ft] at y;exact y]
 refine h _ I' #[C,t, .ref T,d,j,G, .inr #[T,rfl,jj I.sz F,?_,λx c g=>?_,λp y=>?_,N,J]]
 .obtain⟨m,⟨o,_,_,l,_⟩,_⟩:=I.loc
  exact(O _ _ l).symm
 .obtain⟨v,o,l,_⟩:=I.cell x c g
  exact O _ _ l
 .exact O _ _ (I.pin p^lH _ y).1
end
def GD(X:Cx)(b:St)(H:Hp)(a:Addr):Prop:=∀s,Inv X [] b H s->zQ X H s a->X.xe (.ref a) s
theorem Qc{P:Program}{w:World}{K:ad}{e:Str->Option Value}{base:Heap}{N:List Str}{c:Str}{b:Scope}{f:Addr}{g:Value}{A:Around}{outer:List Env}{s k:Shared}{H i:Hp}{E:XK}{l:St}{a:Addr}
  (I:Inv (kU (sX P w) P w K e base N c b f g A outer s H E) [] l i k) (m:zQ (kU (sX P w) P w K e base N c b f g A outer s H E) i k a) (h:E (.ref a) none i):(kU (sX P w) P w K e base N c b f g A outer s H E).xe (.ref a) k:=by
 show wpAny _ _ (leaving _ _) _ _ _;unfold leaving;refine wpAny_bind (DJ (X:=kU (sX P w) P w K e base N c b f g A outer s H E) rfl rfl I m λF j n=>?_);rfl';obtain⟨C,t,p,d,q,r,u⟩:=n;ac_rfl;exact#[a,i,rfl,#[j.os,j.bare,j.base,j.hok,C,t,p,d,q,r,u.imp id λ#[T,v,x,_,_,_,y,B]=>#[T,v,x,y,B]],h]
end L2
namespace TS
open PySem PyProof.Rows
noncomputable def fT:Bool->Keyed->Array Keyed->Nat->Nat->Nat->StateT ff j9^Option Nat:=sortPriv%PySem.Builtin.gallop
noncomputable def rq:Array Keyed->Array Keyed->StateT ff j9^Array Keyed:=sortPriv%PySem.Builtin.mergeLo
noncomputable def rp:Array Keyed->Array Keyed->StateT ff j9^Array Keyed:=sortPriv%PySem.Builtin.mergeHi
noncomputable def setMinGallop':Nat->StateT SortSt Sem Unit:=sortPriv%PySem.Builtin.setMinGallop
noncomputable def kT(left:Bool)(key:Keyed)(arr:Array Keyed)(base i:Nat):StateT ff j9^Option Bool:=do
 let x <-gM arr (base+i)
 if left then lt' x key else return (<-lt' key x).map (!·)
def Hm(left:Bool)(key:Keyed)(arr:Array Keyed)(base n a:Nat):fT left key arr base n a=(do
 let mut lastofs:=0
 let mut ofs:=1
 let mut lo:=0
 let mut hi:=0
 let some right <-kT left key arr base a|return none
 if right then
  let b:=n-a
  for _ in [0:n] do
   if ofs>=b then break
   let some more <-kT left key arr base (a+ofs) |return none
   if !more then break
   lastofs:=ofs
   ofs:=2*ofs+1
  lo:=a+lastofs+1
  hi:=a+min ofs b
 else
  let b:=a+1
  for _ in [0:n] do
   if ofs>=b then break
   let some found <-kT left key arr base (a-ofs) |return none
   if found then break
   lastofs:=ofs
   ofs:=2*ofs+1
  lo:=a+1-min ofs b
  hi:=a-lastofs
 for _ in [0:n] do
  if lo>=hi then break
  let m:=lo+(hi-lo) / 2
  let some more <-kT left key arr base m|return none
  if more then lo:=m+1 else hi:=m
 return some hi):=rfl
def iO(O:KeyOrd)(key:Keyed->O.α)(S:Keyed->Prop)(a:h0)(M:Model)(A:f7)(E:b_->c_->Prop)(s:c_):Prop:=
 ∀(x y:Keyed)(st:ff)(Q:Option Bool->ff->Prop),S x->S y->kindOf st=a->Q (some^O.blt (key x)^key y) st->ls M A E s (lt' x y) Q st
section
variable {O:KeyOrd} {key:Keyed->O.α} {S:Keyed->Prop} {k0:SortKind} {M:Model} {A:Around} {E:Value->Shared->Prop} {s:Shared} {st:SortSt}
noncomputable def fh(O:KeyOrd)(key:Keyed->O.α)(left:Bool)(k x:Keyed):Bool:=if left then O.blt (key x)^key k else !O.blt (key k)^key x
def bC{i:Nat}(h:arr[i]?\x)(q:Q x st):wpS M A E s (elem' arr i) Q st:=by
 rw[elem'_eq,h];exact FB q
theorem mq(C:iO O key S k0 M A E s)(d:arr[base+i]?\x)(a:S k)(b:S x)(c:kindOf st=k0)
  (q:Q (some (fh O key left k x)) st):ls M A E s (kT left k arr base i) Q st:=by
 unfold kT;refine Fk^bC d ?_;unfold fh at q;cases left with
 |true=>exact C _ _ _ _ b a c q
 |false=>exact Fk^C _ _ _ _ a b c^FB q
structure Seg (S:Keyed->Prop) (arr:Array Keyed) (base n:Nat) (g:Nat->Keyed):Prop where
 at_:∀i,i<n->arr[base+i]?\(g i)
 mem:∀i,i<n->S^g i
theorem iM(C:iO O key S k0 M A E s){base n a:Nat}(G:Seg S arr base n g)(J:S k)(L:kindOf st=k0)(Z:a<n)
  (mono:∀i j,i<=j->j<n->fh O key left k^g j=true->fh O key left k^g i=true)
  (q:∀p,p<=n->(∀i,i<p->fh O key left k^g i=true)->(∀i,p<=i->i<n->fh O key left k^g i=false)->Q (some p) st):ls M A E s (fT left k arr base n a) Q st:=by
 rw[Hm];refine Fk^mq C (G.at_ _ Z) J (G.mem _ Z) L ?_
 have R:∀i j,i<=j->j<n->fh O key left k^g i=false->fh O key left k^g j=false:=λi j fj hj h=>by
  cases e:fh O key left k^g j with
  |false=>rfl
  |true=>rw[mono i j fj hj e] at h;cases h
 have fin:∀lo b,lo<=b->b<=n->(∀i,i<lo->fh O key left k^g i=true)->(∀i,b<=i->i<n->fh O key left k^g i=false)->
   ls M A E s (do
    let mut lo:=lo
    let mut b:=b
    for _ in [0:n] do
     if lo>=b then break
     let m:=lo+(b-lo) / 2
     let some more <-kT left k arr base m|return none
     if more then lo:=m+1 else b:=m
    return some b) Q st:=by
  intro lo b T hn F y;dsimp only
  refine Fk (SC (SL (I:=λx c f=>f=st/\∃lo b,c=(none,lo,b)/\lo<=b/\b<=n/\b-lo<=n-x/\(∀i,i<lo->fh O key left k^g i=true)/\(∀i,b<=i->i<n->fh O key left k^g i=false))
   (Q:=λc f=>f=st/\∃b,c=(none,b,b)/\b<=n/\(∀i,i<b->fh O key left k^g i=true)/\(∀i,b<=i->i<n->fh O key left k^g i=false)) ?step ?fin #[rfl,lo,b,rfl,T,hn,(),F,y]) ?post)
  case fin=>
   rintro c f ⟨rfl,lo,b,rfl,r,w,t,l,N⟩
   have:lo=b:=()
   subst this;exact#[rfl,lo,rfl,w,l,N]
  case step=>
   rintro x c f _ hx ⟨rfl,lo,b,rfl,r,w,t,l,N⟩;dsimp only
   by_cases v:lo>=b
   .rw[mo v]
    have:lo=b:=()
    subst this;exact FB #[rfl,lo,rfl,w,l,N]
   .rw[tz v]
    have u:lo+(b-lo) / 2<n:=()
    refine Fk^mq C (G.at_ _ u) J (G.mem _ u) L ?_;cases e:fh O key left k^g (lo+(b-lo) / 2) with
    |true=>
     dsimp only;rw[mo rfl];exact FB #[rfl,_,_,rfl,(),w,(),λi b=>mono _ _ () u e,N]
    |false=>
     dsimp only;rw[tz ∅]
     exact FB #[rfl,_,_,rfl,(),(),(),l,λi F y=>R _ _ F y e]
  case post=>
   rintro c f ⟨rfl,b,rfl,X,P,H⟩;exact FB^q _ X P H
 dsimp only;cases e0:fh O key left k^g a with
 |true=>
  rw[mo rfl]
  refine Fk (SC (SL (I:=λx c f=>f=st/\∃d o,c=(none,d,o)/\d<o/\x<o/\a+d<n/\fh O key left k^g (a+d)=true)
   (Q:=λc f=>f=st/\∃d o,c=(none,d,o)/\d<o/\a+d<n/\fh O key left k^g (a+d)=true/\(n-a<=o\/(a+o<n/\fh O key left k^g (a+o)=false))) ?step ?fin2 #[rfl,0,1,rfl,(),(),(),e0]) ?post)
  case fin2=>
   rintro c f ⟨rfl,d,o,rfl,r,w,t,l⟩;exact#[rfl,d,o,rfl,r,t,l, .inl ()]
  case step=>
   rintro x c f _ hx ⟨rfl,d,o,rfl,r,w,t,l⟩;dsimp only
   by_cases v:o>=n-a
   .rw[mo v]
    exact FB #[rfl,d,o,rfl,r,t,l, .inl v]
   .rw[tz v]
    have u:a+o<n:=()
    refine Fk^mq C (G.at_ _ u) J (G.mem _ u) L ?_;cases e:fh O key left k^g (a+o) with
    |true=>
     dsimp only;rw[tz ∅]
     exact FB #[rfl,_,_,rfl,(),(),u,e]
    |false=>
     dsimp only;rw[mo ∅]
     exact FB #[rfl,d,o,rfl,r,t,l, .inr #[u,e]]
  case post=>
   rintro c f ⟨rfl,d,o,rfl,X,P,H,B⟩;refine fin (a+d+1) (a+min o (n-a)) () () (λi b=>mono _ _ () P H)^λi F y=>?_
   rcases B with B| ⟨B,Y⟩
   .lia
   .exact R _ _ () y Y
 |false=>
  rw[tz ∅]
  refine Fk (SC (SL (I:=λx c f=>f=st/\∃d o,c=(none,d,o)/\d<o/\x<o/\d<=a/\fh O key left k^g (a-d)=false)
   (Q:=λc f=>f=st/\∃d o,c=(none,d,o)/\d<o/\d<=a/\fh O key left k^g (a-d)=false/\(a+1<=o\/(o<=a/\fh O key left k^g (a-o)=true))) ?step ?fin2 #[rfl,0,1,rfl,(),(),(),e0]) ?post)
  case fin2=>
   rintro c f ⟨rfl,d,o,rfl,r,w,t,l⟩;exact#[rfl,d,o,rfl,r,t,l, .inl ()]
  case step=>
   rintro x c f _ hx ⟨rfl,d,o,rfl,r,w,t,l⟩;dsimp only
   by_cases v:o>=a+1
   .rw[mo v]
    exact FB #[rfl,d,o,rfl,r,t,l, .inl v]
   .rw[tz v]
    have u:a-o<n:=()
    refine Fk^mq C (G.at_ _ u) J (G.mem _ u) L ?_;cases e:fh O key left k^g (a-o) with
    |true=>
     dsimp only;rw[mo rfl];exact FB #[rfl,d,o,rfl,r,t,l, .inr #[(),e]]
    |false=>
     dsimp only;rw[tz ∅]
     exact FB #[rfl,_,_,rfl,(),(),(),e]
  case post=>
   rintro c f ⟨rfl,d,o,rfl,X,P,H,B⟩;refine fin (a+1-min o (a+1)) (a-d) (by omega) () (λi b=>?_)^λi F y=>R _ _ F y H
   rcases B with B| ⟨B,Y⟩
   .lia
   .exact mono _ _ () () Y
end
section
variable {O:KeyOrd} {key:Keyed->O.α} {S:Keyed->Prop} {k0:SortKind} {M:Model} {A:Around} {E:Value->Shared->Prop} {s:Shared} {st bR:SortSt}
noncomputable def ky(O:KeyOrd)(key:Keyed->O.α)(a:Array Keyed)(i:Nat):O.α:=key (a[i]?.getD (.none, .none))
def jy(h:a[i]? =b[j]?):ky O key a i=ky O key b j:=by unfold ky;rw[h]
def ko(O:KeyOrd)(key:Keyed->O.α)(xs:Array Keyed)(a b:Nat):Prop:=∀i j,a<=i->i<=j->j<b->O.kle (ky O key xs i)^ky O key xs j
def M3(O:KeyOrd)(key:Keyed->O.α)(c:Array Keyed)(a b:Nat):Prop:=∀i j,a<=i->i<=j->j<b->O.kle (ky O key c j)^ky O key c i
structure iP (bR st:SortSt) (lo hi:Nat):Prop where
 perm:(arrOf st).Perm (arrOf bR)
 kind:kindOf st=kindOf bR
 failed:failedOf st=failedOf bR
 pend:pendingOf st=pendingOf bR
 out:∀i,i<lo\/hi<=i->(arrOf st)[i]? =(arrOf bR)[i]?
theorem iP.refl(st:SortSt)(lo a:Nat):iP st st lo a:=#[.refl _,rfl,rfl,rfl,λ_ _=>rfl]
theorem iP.trans{d e:ff}{lo c:Nat}(a:iP bR d lo c)(b:iP d e lo c):iP bR e lo c:=
 #[b.perm.trans a.perm,b.kind.trans a.kind,b.failed.trans a.failed,b.pend.trans a.pend,λi h=>(b.out i h).trans^a.out i h]
theorem iP.size{lo b:Nat}(a:iP bR st lo b):(arrOf st).size=(arrOf bR).size:=a.perm.size_eq
theorem iP.mirror{lo a i j:Nat}(c:lo<=i)(d:j<=a)(b:j<=(d6 st).size):iP st (lz st^mirror (d6 st) i j ((j-i) / 2)) lo a:=
 #[mirror_perm _ _ _ _,rfl,rfl,rfl,λk h=>by
  show(PyProof.Rows.mirror (d6 st) i j ((j-i) / 2))[k]? =_;rw[getElem?_mirror_all b,tz ()]]
theorem iP.bubble{lo a src d:Nat}(b:d<=src)(e:lo<=src-d)(f:src<a)(c:src<(d6 st).size):iP st (lz st^bubble (d6 st) src d) lo a:=
 #[bubble_perm _ _ _,rfl,rfl,rfl,λk h=>by
  show(PyProof.Rows.bubble (d6 st) src d)[k]? =_;rw[getElem?_bubble c d b,tz (),tz ()]]
def tN{i j:Nat}(c:j<=a.size)(k:Nat):ky O key (mirror a i j ((j-i) / 2)) k=if i<=k/\k<j then ky O key a (i+j-1-k) else ky O key a k:=by
 have e:=getElem?_mirror_all (i:=i) c k
 by_cases b:i<=k/\k<j
 .rw[mo b] at e ⊢;exact jy e
 .rw[tz b] at e ⊢;exact jy e
def hJ(c:j<=a.size)(b:∀k,i<=k->k<j->ky O key a k=ky O key a (j-1))(k:Nat):ky O key (mirror a i j ((j-i) / 2)) k=ky O key a k:=by
 rw[tN c]
 split
 .rw[b _ () (),b k () ()]
 .rfl
def AD(f:src<a.size)(g:d<=src)(k:Nat):
  ky O key (bubble a src d) k=if k=src-d then ky O key a src else if src-d<k/\k<=src then ky O key a (k-1) else ky O key a k:=by
 have e:=getElem?_bubble f d g k
 by_cases b:k=src-d
 .rw[mo b] at e ⊢;exact jy e
 .rw[tz b] at e ⊢
  by_cases c:src-d<k/\k<=src
  .rw[mo c] at e ⊢;exact jy e
  .rw[tz c] at e ⊢;exact jy e
structure Ok (S:Keyed->Prop) (k0:SortKind) (st:SortSt):Prop where
 mem:∀p,p∈(arrOf st).toList->S p
 kind:kindOf st=k0
def Ok.step{lo b:Nat}(o:Ok S k0 bR)(a:iP bR st lo b):Ok S k0 st:=
 #[λp c=>o.mem p^(MX.mp a.perm).mem_iff.mp c,a.kind.trans o.kind]
def Ok.at{i:Nat}(o:Ok S k0 st)(a:i<(d6 st).size):(d6 st)[i]?\((d6 st)[i]?.getD (.none, .none))/\S ((d6 st)[i]?.getD (.none, .none)):=by
 have e:(d6 st)[i]? =some (d6 st)[i]:=adq _ i a;rw[e];exact#[rfl,o.mem _^by simp]
def qP(C:iO O key S k0 M A E s)(o:Ok S k0 st)(a:i<(d6 st).size)(b:j<(d6 st).size)
  (q:Q (some^O.blt (ky O key (d6 st) i)^ky O key (d6 st) j) st):ls M A E s (ltAt' i j) Q st:=by
 rw[ltAt'_eq];let⟨c,d⟩:=o.at a;let⟨e,f⟩:=o.at b;refine Fk^adw^Fk^bC c^Fk^bC e^C _ _ _ _ d f o.kind q
theorem wpS_binarySort(C:iO O key S k0 M A E s){lo n ok:Nat}{Q:Bool->ff->Prop}(o:Ok S k0 st)(hn:lo+n<=(d6 st).size)(hok:ok<=n)(J:ko O key (d6 st) lo (lo+ok))
  (h:∀b,iP st b lo (lo+n)->ko O key (d6 b) lo (lo+n)->Q true b):ls M A E s (binarySort' lo n ok) Q st:=by
 rw[binarySort'_eq]
 refine wpS_bind (wpS_mono (wpS_forRange (I:=λk c b=>c=(none,⟨⟩)/\iP st b lo (lo+n)/\ko O key (d6 b) lo (lo+min k n))
  (Q:=λc b=>c=(none,⟨⟩)/\iP st b lo (lo+n)/\ko O key (d6 b) lo (lo+n)) ?step ?fin ?init) ?post)
 case post=>
  rintro c b ⟨rfl,f,e⟩;exact wpS_pure^h b f e
 case init=>
  refine#[rfl, .refl _ _ _,λi j t F L=>?_]
  by_cases p:ok=0
  .have:i=j:=()
   subst this;exact KeyOrd.kle_refl _
  .exact J i j t F ()
 case fin=>
  rintro c b ⟨N,f,e⟩;exists N,f
  rwa [show min (max (max ok 1) n) n=n by lia] at e
 case step=>
  rintro k c b P R ⟨rfl,f,e⟩;rw[show min k n=k by lia] at e
  have T:=o.step f;have eZ:=f.size;have q:lo+k<(d6 b).size:=()
  refine wpS_bind (wpS_mono (wpS_forRange (I:=λx c d=>d=b/\∃l r,c=(none,l,r)/\l<=r/\r<=k/\r-l<=k-x/\
    (∀i,i<l->O.kle (ky O key (d6 b) (lo+i))^ky O key (d6 b) (lo+k))/\(∀i,r<=i->i<k->O.klt (ky O key (d6 b) (lo+k))^ky O key (d6 b) (lo+i)))
   (Q:=λc d=>d=b/\∃l r,c=(none,l,r)/\l<=k/\
    (∀i,i<l->O.kle (ky O key (d6 b) (lo+i))^ky O key (d6 b) (lo+k))/\(∀i,l<=i->i<k->O.klt (ky O key (d6 b) (lo+k))^ky O key (d6 b) (lo+i))) ?istep ?ifin ?iinit) ?ipost)
  case iinit=>exact#[rfl,0,k,rfl,(),(),(),λi t=>by lia,λi p u=>by lia]
  case ifin=>
   rintro c d ⟨rfl,l,r,rfl,v,w,X,g,m⟩
   have:l=r:=()
   subst this;exact#[rfl,l,l,rfl,w,g,m]
  case istep=>
   rintro x c d _ Y ⟨rfl,l,r,rfl,v,w,X,g,m⟩;dsimp only
   by_cases G:l>=r
   .rw[if_pos G]
    have:l=r:=()
    subst this;exact wpS_pure #[rfl,l,l,rfl,w,g,m]
   .rw[if_neg G]
    refine wpS_bind^qP C T q () ?_
    cases H:O.blt (ky O key (d6 d) (lo+k))^ky O key (d6 d) (lo+(l+r) / 2)
    case true=>
     simp only[if_true];refine wpS_pure #[rfl,l,(l+r) / 2,rfl,(),(),(),g,λi p u=>?_]
     exact KeyOrd.klt_of_klt_of_kle H^e _ _ () () ()
    case false=>
     simp only[fG,if_false];refine wpS_pure #[rfl,(l+r) / 2+1,r,rfl,(),(),(),λi p=>?_,m]
     exact KeyOrd.kle_trans (e (lo+i) (lo+(l+r) / 2) () () ()) (show O.kle _ _ from H)
  case ipost=>
   rintro c d ⟨rfl,l,r,rfl,Z,g,m⟩;show ls _ _ _ _ (do moveDown' (lo+k) (lo+l);pure^ForInStep.yield (none,Unit.unit)) _ _
   rw[moveDown'_eq];have ed:lo+k-(lo+l)=k-l:=()
   refine wpS_bind^wpS_modify^wpS_pure #[rfl,f.trans^iP.bubble () () () q,?_]
   rw[show min (k+1) n=k+1 by lia]
   intro i j t F L;show O.kle (ky O key (bubble (d6 d) (lo+k) (lo+k-(lo+l))) i)^ky O key (bubble (d6 d) (lo+k) (lo+k-(lo+l))) j;rw[AD q (),AD q (),show lo+k-(lo+k-(lo+l))=lo+l by lia]
   have y:∀a,lo<=a->a<lo+l->O.kle (ky O key (d6 d) a)^ky O key (d6 d) (lo+k):=λa p u=>by
    have:=g (a-lo) ();rwa [show lo+(a-lo)=a by lia] at this
   have B:∀a,lo+l<=a->a<lo+k->O.klt (ky O key (d6 d) (lo+k))^ky O key (d6 d) a:=λa p u=>by
    have:=m (a-lo) () ();rwa [show lo+(a-lo)=a by lia] at this
   repeat' split
   all_goals first
    | (exfalso;lia)
    |exact KeyOrd.kle_refl _
    |exact y _ () ()
    |exact KeyOrd.kle_of_klt^B _ () ()
    |exact e _ _ () () ()
end
noncomputable def GH(lo a d:Nat):StateT ff j9 AscSt:=
 forIn [a:d] ((none,a):AscSt) λ_ b=>do
  let c <-ltAt' (lo+b.snd) (lo+b.snd-1)
  match c with
  |some e=>if e=true then pure^ForInStep.done (none,b.snd) else pure^ForInStep.yield (none,b.snd+1)
  |_=>pure^ForInStep.done (some none,b.snd)
noncomputable def tailL(lo n b:Nat):StateT ff j9^Option Nat:=do
 jK lo (lo+n)
 let a <-GH lo n b
 match a.fst with
 |some r=>pure r
 |none=>pure^some a.snd
noncomputable def EH(lo n c:Nat):StateT ff j9 DescSt:=
 forIn [n:c] ((none,n,0):DescSt) λ_ a=>do
  let b <-ltAt' (lo+a.snd.fst) (lo+a.snd.fst-1)
  match b with
  |some d=>
   if d=true then
    if a.snd.snd>0 then do
     jK (lo+a.snd.fst-(a.snd.snd+1)) (lo+a.snd.fst)
     pure (ForInStep.yield (none,a.snd.fst+1,0))
    else pure (ForInStep.yield (none,a.snd.fst+1,0))
   else do
    let b <-ltAt' (lo+a.snd.fst-1) (lo+a.snd.fst)
    match b with
    |some e=>
     if e=true then pure (ForInStep.done (none,a.snd.fst,a.snd.snd))
     else pure^ForInStep.yield (none,a.snd.fst+1,a.snd.snd+1)
    |_=>pure^ForInStep.done (some none,a.snd.fst,a.snd.snd)
  |_=>pure^ForInStep.done (some none,a.snd.fst,a.snd.snd)
noncomputable def descP(lo n b:Nat):StateT ff j9^Option Nat:=do
 liftM^rule "list.sort.descending-run"
 let a <-EH lo (n+1) b
 match a.fst with
 |some r=>pure r
 |none=>
  if a.snd.snd>0 then do
   jK (lo+a.snd.fst-(a.snd.snd+1)) (lo+a.snd.fst)
   tailL lo a.snd.fst b
  else tailL lo a.snd.fst b
theorem Cf(lo c:Nat):countRun' lo c=(do
  let a <-GH lo 1 c
  match a.fst with
  |some r=>pure r
  |none=>
   if (a.snd==c)=true then pure (some a.snd)
   else if a.snd>1 then do
    let e <-ltAt' lo (lo+a.snd-1)
    match e with
    |some g=>if g=true then pure^some a.snd else do
      jK lo (lo+a.snd)
      descP lo a.snd c
    |_=>pure none
   else descP lo a.snd c):=by
 rw[countRun'_eq];dsimp only;unfold descP tailL EH GH
 congr 1
 funext a
 obtain⟨r,n⟩:=a;cases r with
 |some r=>rfl
 |none=>
  dsimp only
  split
  .rfl
  .split
   .congr 1
    funext x
    cases x with
    |none=>rfl
    |some g=>
     dsimp only
     split
     .rfl
     .congr 1
      funext _r
      (congr 1;funext _u;congr 1;congr 1;funext s2;obtain⟨d,h,i⟩:=s2;cases d with
 |some d=>rfl
 |none=>(dsimp only;split;(congr 1;funext _v;(congr 1;funext _w;congr 1;(funext s3;obtain⟨b,f⟩:=s3;cases b<;>rfl)));(congr 1;funext _w;congr 1;(funext s3;obtain⟨b,f⟩:=s3;cases b<;>rfl))))
   ·(congr 1;funext _u;congr 1;congr 1;funext s2;obtain⟨d,h,i⟩:=s2;cases d with
 |some d=>rfl
 |none=>(dsimp only;split;(congr 1;funext _v;(congr 1;funext _w;congr 1;(funext s3;obtain⟨b,f⟩:=s3;cases b<;>rfl)));(congr 1;funext _w;congr 1;(funext s3;obtain⟨b,f⟩:=s3;cases b<;>rfl))))
section
variable {O:KeyOrd} {key:Keyed->O.α} {S:Keyed->Prop} {k0:SortKind} {prog:Program} {w:World} {A:Around} {E:Value->Shared->Prop} {s:Shared} {st bR:SortSt}
def Eg(C:iO O key S k0 (d5 prog w) A E s){lo a b:Nat}{Q:AscSt->ff->Prop}(o:Ok S k0 st)(v:lo+b<=(d6 st).size)(y:1<=a)(f:a<=b)(m:ko O key (d6 st) lo (lo+a))
  (h:∀n,a<=n->n<=b->ko O key (d6 st) lo (lo+n)->(n=b\/O.klt (ky O key (d6 st) (lo+n))^ky O key (d6 st) (lo+n-1))->Q (none,n) st):
  ls (d5 prog w) A E s (GH lo a b) Q st:=by
 unfold GH;refine SL (I:=λx c e=>e=st/\c=(none,x)/\ko O key (d6 st) lo (lo+x)) ?step ?fin #[rfl,rfl,m]
 case fin=>
  rintro c e ⟨rfl,rfl,d⟩;rw[show max a b=b by lia] at d ⊢
  exact h b f (bh _) d^.inl rfl
 case step=>
  rintro x c e g p ⟨rfl,rfl,d⟩;dsimp only;refine Fk^qP C o () () ?_
  cases k:O.blt (ky O key (d6 e) (lo+x))^ky O key (d6 e) (lo+x-1)
  case true=>
   simp only[ac4];exact FB^h x g () d^.inr k
  case false=>
   simp only[fG,PP];refine FB #[rfl,rfl,λi j l q B=>?_]
   by_cases r:j<lo+x
   .exact d i j l q r
   .have t:j=lo+x:=()
    subst t
    by_cases u:i=lo+x
    .subst u;exact acR _
    .exact M2 (d i (lo+x-1) l () ()) k
def wg(h:Q ⟨⟩^lz st^mirror (d6 st) i j ((j-i) / 2)):ls (d5 prog w) A E s (jK i j) Q st:=by
 rw[reverseSlice'_eq];exact adF h
def BJ(C:iO O key S k0 (d5 prog w) A E s){lo n a:Nat}{Q:Option Nat->ff->Prop}(o:Ok S k0 st)(f:lo+a<=(d6 st).size)(g:1<=n)(k:n<=a)(l:M3 O key (d6 st) lo (lo+n))
  (h:∀m b,iP st b lo (lo+a)->1<=m->m<=a->ko O key (d6 b) lo (lo+m)->Q (some m) b):ls (d5 prog w) A E s (tailL lo n a) Q st:=by
 unfold tailL;have c:lo+n<=(d6 st).size:=()
 refine Fk^wg ?_;have d:iP st (lz st^mirror (d6 st) lo (lo+n) ((lo+n-lo) / 2)) lo (lo+a):=iP.mirror (bh _) () c
 refine Fk (Eg C (o.step d) (by rw[d.size];exact f) g k ?_ λm p q e _=>FB^h m _ d () q e)
 intro i j r t u;show O.kle (ky O key (mirror (d6 st) lo (lo+n) ((lo+n-lo) / 2)) i)^ky O key (mirror (d6 st) lo (lo+n) ((lo+n-lo) / 2)) j;rw[tN c,tN c,mo (),mo ()]
 exact l _ _ () (by omega) (by omega)
def Ls(C:iO O key S r (d5 prog w) A E s){lo n d:Nat}{Q:DescSt->ff->Prop}(o:Ok S r st)(hn:lo+d<=(d6 st).size)(p:1<=n)(T:n<=d)(X:M3 O key (d6 st) lo (lo+n))
  (h:∀m b a,iP st a lo (lo+d)->n<=m->m<=d->M3 O key (d6 a) lo (lo+m)->b+1<=m->(∀i,lo+m-(b+1)<=i->i<lo+m->ky O key (d6 a) i=ky O key (d6 a) (lo+m-1))->Q (none,m,b) a):
  ls (d5 prog w) A E s (EH lo n d) Q st:=by
 unfold EH
 refine SL (I:=λx c a=>∃b,c=(none,x,b)/\iP st a lo (lo+d)/\M3 O key (d6 a) lo (lo+x)/\b+1<=x/\
   (∀i,lo+x-(b+1)<=i->i<lo+x->ky O key (d6 a) i=ky O key (d6 a) (lo+x-1))) ?step ?fin #[0,rfl, .refl _ _ _,X,(),λi p t=>by congr 1;lia]
 case fin=>
  rintro c a ⟨b,rfl,e,f,q,g⟩;rw[show max n d=d by lia] at f q g ⊢
  exact h d b a e T (bh _) f q g
 case step=>
  intro x c a Y Z u;refine ag λG0 r=>?_;let⟨b,rfl,e,f,q,g⟩:=u;refine r ?_;dsimp only;have H:=o.step e;have hz:=e.size;have J:lo+x<=(d6 a).size:=()
  refine Fk^qP C H () () ?_
  cases L:O.blt (ky O key (d6 a) (lo+x))^ky O key (d6 a) (lo+x-1)
  case true=>
   simp only[ac4]
   have M:∀v:Array Keyed,(∀k,ky O key v k=ky O key (d6 a) k)->M3 O key v lo (lo+(x+1)):=by
    intro v N i j l y hj;rw[N,N]
    by_cases B:j<lo+x
    .exact f i j l y B
    .have F:j=lo+x:=()
     subst F
     by_cases G:i=lo+x
     .subst G;exact acR _
     .exact M2 (SB L)^f i (lo+x-1) l () ()
   by_cases P:b>0
   .rw[mo P]
    refine Fk^wg^FB #[0,rfl,e.trans^iP.mirror () () J,M _^hJ J g,(),λi p t=>by congr 1;lia]
   .rw[tz P]
    exact FB #[0,rfl,e,M _^λ_=>rfl,(),λi p t=>by congr 1;lia]
  case false=>
   simp only[fG,PP];refine Fk^qP C H () () ?_
   cases QL:O.blt (ky O key (d6 a) (lo+x-1))^ky O key (d6 a) (lo+x)
   case true=>
    simp only[ac4];exact FB^h x b a e () () f q g
   case false=>
    simp only[fG,PP];have R:ky O key (d6 a) (lo+x)=ky O key (d6 a) (lo+x-1):=O.total _ _ L QL;refine FB #[b+1,rfl,e,λi j l y hj=>?_,(),λi p t=>?_]
    .by_cases B:j<lo+x
     .exact f i j l y B
     .have F:j=lo+x:=()
      subst F
      by_cases G:i=lo+x
      .subst G;exact acR _
      .rw[R];exact f i (lo+x-1) l () ()
    .rw[show lo+(x+1)-1=lo+x by lia]
     by_cases Uu:i=lo+x
     .subst Uu;rfl
     .rw[R];exact g i () ()
def BC(C:iO O key S k0 (d5 prog w) A E s){lo n b:Nat}{Q:Option Nat->ff->Prop}(o:Ok S k0 st)(u:lo+b<=(d6 st).size)(v:n+1<=b)(x:M3 O key (d6 st) lo (lo+(n+1)))
  (h:∀m a,iP st a lo (lo+b)->1<=m->m<=b->ko O key (d6 a) lo (lo+m)->Q (some m) a):ls (d5 prog w) A E s (descP lo n b) Q st:=by
 unfold descP;refine Fk^adV^ada #[rfl,?_];refine Fk (Ls C o u () v x λm d a c y p q H r=>?_)
 dsimp only;have I:=c.size;have e:lo+m<=(d6 a).size:=()
 by_cases t:d>0
 .rw[mo t]
  have f:iP a (lz a^mirror (d6 a) (lo+m-(d+1)) (lo+m) ((lo+m-(lo+m-(d+1))) / 2)) lo (lo+b):=iP.mirror () () e
  refine Fk^wg (BJ C (o.step^c.trans f) (by rw[f.size];lia) () p ?_ λg k l=>h g k^(c.trans f).trans l)
  intro i j B F G;show O.kle (ky O key (mirror (d6 a) _ _ _) j)^ky O key (mirror (d6 a) _ _ _) i;rw[hJ e r,hJ e r];exact q i j B F G
 .rw[tz t]
  exact BJ C (o.step c) () () p q λg k l=>h g k^c.trans l
def wpS_countRun(C:iO O key S k0 (d5 prog w) A E s){lo a:Nat}{Q:Option Nat->ff->Prop}(o:Ok S k0 st)(y:lo+a<=(d6 st).size)(L:1<=a)
  (h:∀m f,iP st f lo (lo+a)->1<=m->m<=a->ko O key (d6 f) lo (lo+m)->Q (some m) f):ls (d5 prog w) A E s (countRun' lo a) Q st:=by
 rw[Cf];refine Fk (Eg C o y (bh 1) L (λi j d B F=>by have:i=j:=();subst this;exact acR _) λn G H e g=>?_)
 dsimp only
 by_cases l:n=a
 .rw[mo^~~~l]
  exact FB^h n st (.refl _ _ _) G H e
 .rw[tz^~~~l]
  have I:O.klt (ky O key (d6 st) (lo+n))^ky O key (d6 st) (lo+n-1):=g.resolve_left l
  by_cases b:n>1
  .rw[mo b]
   refine Fk^qP C o () () ?_
   cases M:O.blt (ky O key (d6 st) lo)^ky O key (d6 st) (lo+n-1)
   case true=>
    simp only[ac4];exact FB^h n st (.refl _ _ _) G H e
   case false=>
    simp only[fG,PP];have p:lo+n<=(d6 st).size:=()
    have c:∀k,lo<=k->k<lo+n->ky O key (d6 st) k=ky O key (d6 st) (lo+n-1):=by
     intro k J N;have P:=e lo k () J N
     have R:=e k (lo+n-1) J () ()
     exact KeyOrd.kle_antisymm R^M2 M P
    have q:iP st (lz st^mirror (d6 st) lo (lo+n) ((lo+n-lo) / 2)) lo (lo+a):=iP.mirror (bh _) () p
    refine Fk^wg (BC C (o.step q) (by rw[q.size];omega) () ?_ λT X Y=>h T X^q.trans Y)
    intro i j d B F;show O.kle (ky O key (mirror (d6 st) _ _ _) j)^ky O key (mirror (d6 st) _ _ _) i;rw[hJ p c,hJ p c]
    by_cases r:j<lo+n
    .rw[c i d (),c j () r];exact acR _
    .have Z:j=lo+n:=()
     subst Z
     by_cases t:i=lo+n
     .subst t;exact acR _
     .rw[c i d ()];exact SB I
  .rw[tz b]
   have u:n=1:=()
   subst u;refine BC C o y () ?_ h
   intro i j d B F
   by_cases t:i=j
   .subst t;exact acR _
   .have v:i=lo:=()
    have x:j=lo+1:=()
    subst v;subst x;exact SB I
end
section lists
variable (O:KeyOrd) (key:Keyed->O.α)
def LE(x y:Keyed):Prop:=O.kle (key x)^key y
structure MI (l o ra rb:List Keyed):Prop where
 perm:(o++(ra++rb)).Perm l
 so:o.Pairwise (LE O key)
 sa:ra.Pairwise (LE O key)
 sb:rb.Pairwise (LE O key)
 le:∀x∈o,∀y∈ra++rb,LE O key x y
def Res(l r:List Keyed):Prop:=r.Perm l/\r.Pairwise^LE O key
variable {O key}
def MI.om{l o xs e b:List Keyed}(m:MI O key l o (xs++e) b)(h:∀x∈xs,∀y∈b,LE O key x y):MI O key l (o++xs) e b:=by
 let⟨f,g,c⟩:=sV.mp m.sa;refine#[by simpa [kj] using m.perm,sV.mpr #[m.so,f,λx d y a=>m.le x d y^by simp[a]],g,m.sb,λx d y a=>?_]
 rcases cE.mp d with z|z
 .refine m.le x z y ?_
  rcases cE.mp a with u|u<;>simp[u]
 .rcases cE.mp a with u|u
  .exact c x z y u
  .exact h x z y u
def MI.swap(m:MI O key l o a b):MI O key l o b a:=
 #[(List.Perm.append_left o List.perm_append_comm).trans m.perm,m.so,m.sb,m.sa,λx c y d=>m.le x c y^by rcases cE.mp d with u|u<;>simp[u]]
def MI.oq{l o xs a b:List Keyed}(m:MI O key l o a (xs++b))(h:∀x∈xs,∀y∈a,LE O key x y):MI O key l (o++xs) a b:=(m.swap.om h).swap
def MI.Hf(m:MI O key l o a []):Res O key l (o++a):=
 #[by simpa using m.perm,sV.mpr #[m.so,m.sa,λx b y c=>m.le x b y^by simp[c]]]
def MI.Ff(m:MI O key l o a b)(h:∀y∈b,∀x∈a,LE O key y x):Res O key l (o++b++a):=by
 have c:MI O key l o a (b++ []):=by rw[ft];exact m
 exact(c.oq h).Hf
end lists
noncomputable def Fl(a b:Array Keyed)(h e f d:Nat)(out:Array Keyed)(g:Nat):StateT ff j9^ForInStep (Option^Array Keyed×Array Keyed×Nat×Nat×Nat×Nat×Nat):=do
 let c <-gM a d
 let out:Array Keyed:=out.push c
 let d:Nat:=d+1
 if (d+1==a.size)=true then pure (ForInStep.done (some (out++b.extract g b.size++a.extract d a.size),out,d,g,h,e,f))
 else if (decide (e<7)&&decide (f<7))=true then pure (ForInStep.done (none,out,d,g,h,e,f))
 else pure^ForInStep.yield (none,out,d,g,h,e,f)
noncomputable def xr(a b:Array Keyed)(f g i d:Nat)(out:Array Keyed)(e:Nat):StateT ff j9^ForInStep (Option^Array Keyed×Array Keyed×Nat×Nat×Nat×Nat×Nat):=do
 let c <-gM b d
 let out:Array Keyed:=out.push c
 let d:Nat:=d+1
 if (d==b.size)=true then pure (ForInStep.done (some (out++a.extract e a.size++b.extract d b.size),out,e,d,f,g,i))
 else do
  let c <-gM a e
  let h <-fT true c b d (b.size-d) 0
  match h with
  |some k=>
   if k>0 then
    if (d+k==b.size)=true then pure (ForInStep.done (some (out++b.extract d (d+k)++a.extract e a.size++b.extract (d+k) b.size),out++b.extract d (d+k),e,d+k,f,g,k))
    else Fl a b f g k e (out++b.extract d (d+k)) (d+k)
   else Fl a b f g k e out d
  |_=>pure^ForInStep.done (some (out++a.extract e a.size++b.extract d b.size),out,e,d,f,g,i)
noncomputable def tO(a b:Array Keyed)(g i c e:Nat)(out:Array Keyed)(f:Nat):StateT ff j9^ForInStep (Option^Array Keyed×Array Keyed×Nat×Nat×Nat×Nat×Nat):=do
 setMinGallop' f
 let d <-gM b e
 let h <-fT false d a c (a.size-c) 0
 match h with
 |some k=>
  if k>0 then
   if (c+k+1==a.size)=true then pure (ForInStep.done (some (out++a.extract c (c+k)++b.extract e b.size++a.extract (c+k) a.size),out++a.extract c (c+k),c+k,e,f,k,g))
   else if (c+k==a.size)=true then pure (ForInStep.done (some (out++a.extract c (c+k)++a.extract (c+k) a.size++b.extract e b.size),out++a.extract c (c+k),c+k,e,f,k,g))
   else xr a b f k g e (out++a.extract c (c+k)) (c+k)
  else xr a b f k g e out c
 |_=>pure^ForInStep.done (some (out++a.extract c a.size++b.extract e b.size),out,c,e,f,i,g)
noncomputable def Fn(a b:Array Keyed)(c:Option^Array Keyed×Array Keyed×Nat×Nat×Nat×Nat×Nat):StateT ff j9^ForInStep (Option^Array Keyed×Array Keyed×Nat×Nat×Nat×Nat×Nat):=
 if c.2.2.2.2.1>1 then tO a b c.2.2.2.2.2.2 c.2.2.2.2.2.1 c.2.2.1 c.2.2.2.1 c.2.1 (c.2.2.2.2.1-1) else tO a b c.2.2.2.2.2.2 c.2.2.2.2.2.1 c.2.2.1 c.2.2.2.1 c.2.1 c.2.2.2.2.1
noncomputable def Fm(a b:Array Keyed)(e:Nat)(c:Option^Array Keyed×Array Keyed×Nat×Nat×Nat×Nat):StateT ff j9^ForInStep (Option^Array Keyed×Array Keyed×Nat×Nat×Nat×Nat):=do
 let y <-gM b c.2.2.2.1
 let x <-gM a c.2.2.1
 let d <-lt' y x
 match d with
 |some f=>
  if f=true then do
   let y <-gM b c.2.2.2.1
   if (c.2.2.2.1+1==b.size)=true then pure (ForInStep.done (some (c.2.1.push y++a.extract c.2.2.1 a.size++b.extract (c.2.2.2.1+1) b.size),c.2.1.push y,c.2.2.1,c.2.2.2.1+1,0,c.2.2.2.2.2+1))
   else if c.2.2.2.2.2+1>=e then pure (ForInStep.done (none,c.2.1.push y,c.2.2.1,c.2.2.2.1+1,0,c.2.2.2.2.2+1))
   else pure (ForInStep.yield (none,c.2.1.push y,c.2.2.1,c.2.2.2.1+1,0,c.2.2.2.2.2+1))
  else do
   let x <-gM a c.2.2.1
   if (c.2.2.1+1+1==a.size)=true then pure (ForInStep.done (some (c.2.1.push x++b.extract c.2.2.2.1 b.size++a.extract (c.2.2.1+1) a.size),c.2.1.push x,c.2.2.1+1,c.2.2.2.1,c.2.2.2.2.1+1,0))
   else if c.2.2.2.2.1+1>=e then pure (ForInStep.done (none,c.2.1.push x,c.2.2.1+1,c.2.2.2.1,c.2.2.2.2.1+1,0))
   else pure^ForInStep.yield (none,c.2.1.push x,c.2.2.1+1,c.2.2.2.1,c.2.2.2.2.1+1,0)
 |_=>pure^ForInStep.done (some (c.2.1++a.extract c.2.2.1 a.size++b.extract c.2.2.2.1 b.size),c.2.1,c.2.2.1,c.2.2.2.1,c.2.2.2.2.1,c.2.2.2.2.2)
noncomputable def uW(a b:Array Keyed)(f:Option^Array Keyed×Array Keyed×Nat×Nat×Nat):StateT ff j9^ForInStep (Option^Array Keyed×Array Keyed×Nat×Nat×Nat):=do
 let e <-forIn [0:a.size+b.size] (none,f.2.1,f.2.2.1,f.2.2.2.1,0,0) λ_ c=>Fm a b f.2.2.2.2 c
 match e.1 with
 |some r=>pure^ForInStep.done (some r,e.2.1,e.2.2.1,e.2.2.2.1,f.2.2.2.2)
 |none=>do
  liftM^rule "list.sort.gallop"
  let d <-forIn [0:a.size+b.size] (none,e.2.1,e.2.2.1,e.2.2.2.1,f.2.2.2.2+1,e.2.2.2.2.1,e.2.2.2.2.2) λ_ c=>Fn a b c
  match d.1 with
  |some r=>pure^ForInStep.done (some r,d.2.1,d.2.2.1,d.2.2.2.1,d.2.2.2.2.1)
  |none=>do
   setMinGallop' (d.2.2.2.2.1+1)
   pure^ForInStep.yield (none,d.2.1,d.2.2.1,d.2.2.2.1,d.2.2.2.2.1+1)
def eG{b d:Type}{m c:StateT SortSt Sem b}{f a:b->StateT SortSt Sem d}(h:m=c)(g:∀x,f x=a x):m>>=f=c>>=a:=by rw[h,show f=a from funext g]
def EN{a:Type}{n:Nat}{d:a}{f b:Nat->a->StateT ff j9^ForInStep a}(h:∀i c,f i c=b i c):forIn [0:n] d f=forIn [0:n] d b:=by rw[show f=b from funext λi=>funext (h i)]
def f9 [Decidable c] (h:c->x=a) (g:¬c->y=b):(if c then x else y)=if c then a else b:=by
 by_cases e:c
 .rw[mo e,mo e];exact h e
 .rw[tz e,tz e];exact g e
def CA(a b:Array Keyed):rq a b=(do
 rule "list.sort.merge-lo"
 let total:=a.size+b.size
 let done (out:Array Keyed) (c d:Nat):=out++a.extract c a.size++b.extract d b.size
 let e (out:Array Keyed) (c d:Nat):=out++b.extract d b.size++a.extract c a.size
 let mut out:Array Keyed:= [<-elem' b 0].toArray
 let mut c:=0
 let mut d:=1
 if d==b.size then return done out c d
 if c+1==a.size then return e out c d
 let mut minGallop:=gallopOf (<-get)
 for _ in [0:total] do
  let mut acount:=0
  let mut bcount:=0
  for _ in [0:total] do
   let some Jo <-lt' (<-elem' b d) (<-elem' a c) |return done out c d
   if Jo then
    out:=out.push (<-elem' b d);d:=d+1;bcount:=bcount+1;acount:=0
    if d==b.size then return done out c d
    if bcount>=minGallop then break
   else
    out:=out.push (<-elem' a c);c:=c+1;acount:=acount+1;bcount:=0
    if c+1==a.size then return e out c d
    if acount>=minGallop then break
  rule "list.sort.gallop"
  minGallop:=minGallop+1
  for _ in [0:total] do
   if minGallop>1 then minGallop:=minGallop-1
   setMinGallop' minGallop
   let some k <-fT false (<-elem' b d) a c (a.size-c) 0|return done out c d
   acount:=k
   if k>0 then
    out:=out++a.extract c (c+k);c:=c+k
    if c+1==a.size then return e out c d
    if c==a.size then return done out c d
   out:=out.push (<-elem' b d);d:=d+1
   if d==b.size then return done out c d
   let some k <-fT true (<-elem' a c) b d (b.size-d) 0|return done out c d
   bcount:=k
   if k>0 then
    out:=out++b.extract d (d+k);d:=d+k
    if d==b.size then return done out c d
   out:=out.push (<-elem' a c);c:=c+1
   if c+1==a.size then return e out c d
   if acount<7&&bcount<7 then break
  minGallop:=minGallop+1
  setMinGallop' minGallop
 unsupported "internal:list.sort.merge-bound"):=rfl
theorem Fs(a b:Array Keyed):rq a b=(do
 liftM^rule "list.sort.merge-lo"
 let y <-gM b 0
 if (1==b.size)=true then pure ([y].toArray++a.extract 0 a.size++b.extract 1 b.size)
 else if (0+1==a.size)=true then pure ([y].toArray++b.extract 1 b.size++a.extract 0 a.size)
 else do
  let d <-get
  let e <-forIn [0:a.size+b.size] (none, [y].toArray,0,1,gallopOf d) λ_ c=>uW a b c
  match e.1 with
  |some r=>pure r
  |none=>liftM^jd (α:=Array Keyed) "internal:list.sort.merge-bound"):=by
 rw[CA];dsimp only;refine eG rfl λ_=>eG rfl λy=>?_;refine KF (ite _ _)^KF (ite _ _) ?_;refine eG rfl λg=>eG (EN λ_ c=>?_) λu=>?_
 .unfold uW
  refine eG (EN λ_ t=>?_) λt=>?_
  .unfold Fm
   refine eG rfl λ_=>eG rfl λ_=>eG rfl λz=>?_;cases z<;>rfl
  .obtain⟨i,l⟩:=t
   cases i with
   |some r=>rfl
   |none=>
    dsimp only;refine eG rfl λ_=>eG (EN λ_ u=>?_) λu=>?_
    .unfold Fn
     have m:∀h,tO a b u.2.2.2.2.2.2 u.2.2.2.2.2.1 u.2.2.1 u.2.2.2.1 u.2.1 h=tO a b u.2.2.2.2.2.2 u.2.2.2.2.2.1 u.2.2.1 u.2.2.2.1 u.2.1 h:=λ_=>rfl;refine f9 (λ_=>?_)^λ_=>?_
     all_goals
      unfold tO;refine eG rfl λ_=>eG rfl λ_=>eG rfl λz=>?_;cases z with
      |none=>rfl
      |some k=>
       dsimp only;refine f9 (λ_=>?_)^λ_=>?_
       .refine f9 (λ_=>rfl)^λ_=>f9 (λ_=>rfl)^λ_=>?_
        unfold xr;refine eG rfl λ_=>f9 (λ_=>rfl)^λ_=>eG rfl λ_=>eG rfl λz=>?_;cases z with
        |none=>rfl
        |some k=>rfl
       .unfold xr
        refine eG rfl λ_=>f9 (λ_=>rfl)^λ_=>eG rfl λ_=>eG rfl λz=>?_;cases z with
        |none=>rfl
        |some k=>rfl
    .obtain⟨f,j⟩:=u
     cases f<;>rfl
 .obtain⟨f,j⟩:=u
  cases f<;>rfl
structure GS (st av:SortSt):Prop where
 arr:arrOf av=arrOf st
 kind:kindOf av=kindOf st
 failed:failedOf av=failedOf st
 pend:pendingOf av=pendingOf st
def GS.refl(st:SortSt):GS st st:=#[rfl,rfl,rfl,rfl]
theorem GS.trans(x:GS a b)(y:GS b c):GS a c:=#[y.arr.trans x.arr,y.kind.trans x.kind,y.failed.trans x.failed,y.pend.trans x.pend]
def vV(g:Nat):setMinGallop' g=modify λs=>SortSt.mk' (kindOf s) (d6 s) (d_ s) g^hQ s:=rfl
def ext_toList(a:Array Keyed)(i j:Nat):(a.extract i j).toList=(a.toList.drop i).take (j-i):=by
 rw[Array.toList_extract]
def m9(a:Array Keyed)(i:Nat):(a.extract i a.size).toList=a.toList.drop i:=by
 rw[ext_toList,sU^by simp]
def drop_cons{xs:Array Keyed}(h:xs[i]?\x):xs.toList.drop i=x::xs.toList.drop (i+1):=by
 have a:xs.toList[i]?\x:=by rw[<-h];simp
 obtain⟨b,e⟩:=cz.mp a;rw[qR b,e]
def pW(l:List Keyed)(i k:Nat):l.drop i=(l.drop i).take k++l.drop (i+k):=by
 rw[<-List.drop_drop,lG]
def fD{l:List Keyed}{i k:Nat}{x:Keyed}(h:x∈(l.drop i).take k):∃j,j<k/\i+j<l.length/\l[i+j]?\x:=by
 obtain⟨j,a⟩:=jh h;rw[List.getElem?_take] at a
 split at a
 .rename_i c
  rw[Ek] at a;exact#[j,c,(cz.mp a).1,a]
 .cases a
def iA{l:List Keyed}{i:Nat}{x:Keyed}(h:x∈l.drop i):∃j,i+j<l.length/\l[i+j]?\x:=by
 obtain⟨j,a⟩:=jh h;rw[Ek] at a;exact#[j,(cz.mp a).1,a]
section
variable {O:KeyOrd} {key:Keyed->O.α} {S:Keyed->Prop} {k0:SortKind} {M:Model} {A:Around} {E:Value->Shared->Prop} {s:Shared} {st bR:SortSt}
def rR(h:∀a,GS st a->Q ⟨⟩ a):ls M A E s (setMinGallop' g) Q st:=by
 rw[vV];exact adF^h _ #[rfl,rfl,rfl,rfl]
structure kQ (O:KeyOrd) (key:Keyed->O.α) (S:Keyed->Prop) (a b:Array Keyed):Prop where
 ma:∀x∈a.toList,S x
 mb:∀x∈b.toList,S x
 sa:a.toList.Pairwise (LE O key)
 sb:b.toList.Pairwise (LE O key)
 na:1<=a.size
 nb:1<=b.size
 first:∀y,b[0]?\y->∀x∈a.toList,LE O key y x
 last:∀x,a[a.size-1]?\x->∀y∈b.toList,LE O key y x
def kQ.Ff(T:kQ O key S a b)(h:c+1=a.size):∀y∈b.toList.drop d,∀x∈a.toList.drop c,LE O key y x:=λy f x g=>by
 let⟨j,i,e⟩:=iA g;rw[di] at i
 have:c+j=a.size-1:=()
 rw[this] at e;exact T.last x (by rw[<-e];simp) y^List.mem_of_mem_drop f
def gL{l:List Keyed}(h:l.Pairwise^LE O key){i j:Nat}{x y:Keyed}(k:i<=j)(b:l[i]?\x)(a:l[j]?\y):LE O key x y:=by
 by_cases e:i=j
 .subst e
  rw[b] at a;cases a;exact acR _
 .obtain⟨c,d⟩:=cz.mp b
  let⟨f,g⟩:=cz.mp a;rw[<-d,<-g];exact BR.mp h i j c f ()
def rP{xs:Array Keyed}(m:∀x∈xs.toList,S x){i n:Nat}(h:i+n<=xs.size):Seg S xs i n (λj=>xs[i+j]?.getD (.none, .none)):=
 #[λj a=>by
  have:i+j<xs.size:=()
  rw[adq xs (i+j) this];rfl,λj a=>by
  have:i+j<xs.size:=()
  rw[adq xs (i+j) this];exact m _^by simp]
def bI{xs:Array Keyed}{i:Nat}(h:i<xs.size):∃x,xs[i]?\x/\x∈xs.toList/\xs.toList[i]?\x:=by
 refine#[xs[i],adq xs i h,by simp,?_]
 rw[gz];exact adq xs i h
def nu{a:Array Keyed}{i:Nat}{x:Keyed}(h:a[i]?\x):a.toList[i]?\x:=by rw[gz];exact h
def lV{a:Array Keyed}{i:Nat}{x:Keyed}(h:a.toList[i]?\x):a[i]?\x:=by rw[<-gz];exact h
structure IV (O:KeyOrd) (key:Keyed->O.α) (a b out:Array Keyed) (ia ib:Nat):Prop where
 mi:MI O key (a.toList++b.toList) out.toList (a.toList.drop ia) (b.toList.drop ib)
 ha:ia<a.size
 hb:ib<b.size
def IV.xI{a b out:Array Keyed}(v:MI O key (a.toList++b.toList) out.toList (a.toList.drop c)^b.toList.drop d)(e:b[d]?\y)(h:∀x∈a.toList.drop c,LE O key y x):
  MI O key (a.toList++b.toList) (out.push y).toList (a.toList.drop c)^b.toList.drop (d+1):=by
 rw[drop_cons e] at v;rw[BY];exact MI.oq (xs:= [y]) v λx f=>by rw[fX.mp f];exact h
def IV.xH{a b out:Array Keyed}(v:MI O key (a.toList++b.toList) out.toList (a.toList.drop c)^b.toList.drop d)(e:a[c]?\x)(h:∀y∈b.toList.drop d,LE O key x y):
  MI O key (a.toList++b.toList) (out.push x).toList (a.toList.drop (c+1))^b.toList.drop d:=by
 rw[drop_cons e] at v;rw[BY];exact MI.om (xs:= [x]) v λx e=>by rw[fX.mp e];exact h
theorem IV.oq{a b out:Array Keyed}(v:MI O key (a.toList++b.toList) out.toList (a.toList.drop d)^b.toList.drop c)(h:∀y∈(b.toList.drop c).take k,∀x∈a.toList.drop d,LE O key y x):
  MI O key (a.toList++b.toList) (out++b.extract c (c+k)).toList (a.toList.drop d)^b.toList.drop (c+k):=by
 rw[pW b.toList c k] at v;rw[kg,ext_toList,show c+k-c=k by lia]
 exact MI.oq v h
theorem IV.om{a b out:Array Keyed}(v:MI O key (a.toList++b.toList) out.toList (a.toList.drop c)^b.toList.drop d)(h:∀x∈(a.toList.drop c).take k,∀y∈b.toList.drop d,LE O key x y):
  MI O key (a.toList++b.toList) (out++a.extract c (c+k)).toList (a.toList.drop (c+k))^b.toList.drop d:=by
 rw[pW a.toList c k] at v;rw[kg,ext_toList,show c+k-c=k by lia]
 exact MI.om v h
def IV.wM{a b out:Array Keyed}(v:MI O key (a.toList++b.toList) out.toList (a.toList.drop d)^b.toList.drop c)(h:c=b.size):Res O key (a.toList++b.toList) (out++a.extract d a.size++b.extract c b.size).toList:=by
 have e:b.toList.drop c= []:=BU^by rw[di];lia
 rw[kg,kg,m9,m9,e,ft];rw[e] at v;exact v.Hf
def IV.wL{a b out:Array Keyed}(v:MI O key (a.toList++b.toList) out.toList (a.toList.drop c)^b.toList.drop d)(h:c=a.size):Res O key (a.toList++b.toList) (out++a.extract c a.size++b.extract d b.size).toList:=by
 have e:a.toList.drop c= []:=BU^by rw[di];lia
 rw[kg,kg,m9,m9,e,ft];rw[e] at v;exact v.swap.Hf
def IV.last(T:kQ O key S a b)(v:MI O key (a.toList++b.toList) out.toList (a.toList.drop c)^b.toList.drop d)(h:c+1=a.size):Res O key (a.toList++b.toList) (out++b.extract d b.size++a.extract c a.size).toList:=by
 rw[kg,kg,m9,m9];exact v.Ff^T.Ff h
end
section
variable {O:KeyOrd} {key:Keyed->O.α} {S:Keyed->Prop} {k0:SortKind} {M:Model} {A:Around} {E:Value->Shared->Prop} {s:Shared} {st bR:SortSt} {a b:Array Keyed}
def Inv(O:KeyOrd)(key:Keyed->O.α)(a b:Array Keyed)(n:Nat)(out:Array Keyed)(c d:Nat):Prop:=MI O key (a.toList++b.toList) out.toList (a.toList.drop c)^b.toList.drop d/\c+1<a.size/\d<b.size/\n<=c+d
def Fin{d:Type}(O:KeyOrd)(key:Keyed->O.α)(a b:Array Keyed)(n:Nat)(c:Option^Array Keyed×Array Keyed×Nat×Nat×d):Prop:=
 (∃r,c.1\r/\Res O key (a.toList++b.toList) r.toList)\/(c.1=none/\Inv O key a b n c.2.1 c.2.2.1 c.2.2.2.1)
def Out{d:Type}(O:KeyOrd)(key:Keyed->O.α)(a b:Array Keyed)(n:Nat)(r:ForInStep (Option^Array Keyed×Array Keyed×Nat×Nat×d)):Prop:=match r with
 | .done c=>Fin O key a b n c
 | .yield c=>c.1=none/\Inv O key a b n c.2.1 c.2.2.1 c.2.2.2.1
def aak{d:Type}(O:KeyOrd)(key:Keyed->O.α)(a b:Array Keyed)(n:Nat)(r:ForInStep (Option^Array Keyed×Array Keyed×Nat×Nat×d)):Prop:=match r with
 | .done c=>∃r,c.1\r/\Res O key (a.toList++b.toList) r.toList
 | .yield c=>c.1=none/\Inv O key a b n c.2.1 c.2.2.1 c.2.2.2.1
def BI(T:kQ O key S a b)(g:GS bR st)(v:MI O key (a.toList++b.toList) out.toList (a.toList.drop c)^b.toList.drop d)(w:c+1<a.size)(p:d<b.size)(B:n<=c+d)
  (q:∀x,a[c]?\x->∀y∈b.toList.drop d,LE O key x y):ls M A E s (Fl a b o h j c out d) (λr t=>GS bR t/\Out O key a b n r) st:=by
 unfold Fl;rfl';let⟨x,e,F,u⟩:=bI (xs:=a) (i:=c) ()
 ac_rfl;refine Fk^bC e ?_;have k:=IV.xH v e^q x e;dsimp only
 by_cases f:c+1+1=a.size
 .rw[mo^~~~f]
  exact FB #[g, .inl #[_,rfl,IV.last T k f]]
 .rw[tz^~~~f]
  have l:Inv O key a b n (out.push x) (c+1) d:=#[k,(),p,()]
  by_cases m:(decide (h<7)&&decide (j<7))=true
  .rw[mo m]
   exact FB #[g, .inr #[rfl,l]]
  .rw[tz m]
   exact FB #[g,rfl,l]
def BH(C:iO O key S f M A E s)(R:kindOf st=f)(T:kQ O key S a b)(g:GS bR st)(v:MI O key (a.toList++b.toList) out.toList (a.toList.drop d)^b.toList.drop c)(H:d+1<a.size)(hb:c<b.size)(hn:n<=d+c)
  (hy:∀y,b[c]?\y->∀x∈a.toList.drop d,LE O key y x):ls M A E s (xr a b X Y Z c out d) (λr av=>GS bR av/\Out O key a b n r) st:=by
 unfold xr;refine ag λG0 f=>?_;let⟨y,o,my,D⟩:=bI (xs:=b) (i:=c) hb;refine f ?_;refine Fk^bC o ?_;have q:=IV.xI v o^hy y o;dsimp only
 by_cases t:c+1=b.size
 .rw[mo^~~~t]
  exact FB #[g, .inl #[_,rfl,IV.wM q t]]
 .rw[tz^~~~t]
  refine ag λG0 f=>?_;let⟨x,I,mx,lx⟩:=bI (xs:=a) (i:=d) ()
  refine f ?_;refine Fk^bC I ?_
  have w:∀z∈a.toList.drop d,LE O key x z:=λz k=>by
   let⟨j,D,l⟩:=iA k;exact gL T.sa () lx l
  have J:∀j z,c+1+j<b.size->b.toList[c+1+j]?\z->b[c+1+j]?.getD (Value.none,Value.none)=z:=λj z B e=>by rw[lV e];rfl
  refine Fk (iM C (rP T.mb (i:=c+1) (n:=b.size-(c+1)) ()) (T.ma x mx) R () (λi j fj B h=>?_) λp hp pt pf=>?_)
  .obtain⟨yi,e1,_,l1⟩:=bI (xs:=b) (i:=c+1+i) ()
   let⟨yj,e2,D,l2⟩:=bI (xs:=b) (i:=c+1+j) ()
   unfold fh at h ⊢;rw[mo rfl] at h ⊢;rw[e2] at h;rw[e1];exact adC (gL T.sb () l1 l2) h
  .have lo:∀y∈(b.toList.drop (c+1)).take p,∀x∈a.toList.drop d,LE O key y x:=λz k u hu=>by
    let⟨j,B,m,l⟩:=fD k;rw[di] at m
    have:=pt j B
    unfold fh at this;rw[mo rfl,J j z m l] at this;exact M2 (SB this)^w u hu
   have L:∀F,a[d]?\F->∀y∈b.toList.drop (c+1+p),LE O key F y:=λF N z k=>by
    rw[I] at N;cases N;let⟨j,m,l⟩:=iA k;rw[di] at m
    have:=pf (p+j) () ()
    unfold fh at this;rw[mo rfl,J (p+j) z ()^by rw[<-l];congr 1;lia] at this
    exact this
   dsimp only
   by_cases P:p>0
   .rw[mo P]
    have Q:=IV.oq q lo
    by_cases G:c+1+p=b.size
    .rw[mo^~~~G]
     exact FB #[g, .inl #[_,rfl,IV.wM Q G]]
    .rw[tz^~~~G]
     exact BI T g Q H () () L
   .rw[tz P]
    have:p=0:=()
    subst this;exact BI T g q H () () L
def BG(C:iO O key S l M A E s)(Y:kindOf st=l)(T:kQ O key S a b)(g:GS bR st)(iv:Inv O key a b n out c d):ls M A E s (tO a b bc ac c d out Z) (λr av=>GS bR av/\Out O key a b n r) st:=by
 let⟨v,ha,q,hn⟩:=iv;unfold tO;refine Fk (rR λFX L=>?_);have t:kindOf FX=l:=L.kind.trans Y;have m:=g.trans L;refine ag λG0 l=>?_;let⟨y,N,my,ly⟩:=bI (xs:=b) (i:=d) q;refine l ?_;refine Fk^bC N ?_
 have w:∀z∈b.toList.drop d,LE O key y z:=λz f=>by
  let⟨j,D,k⟩:=iA f;exact gL T.sb () ly k
 have P:∀j z,c+j<a.size->a.toList[c+j]?\z->a[c+j]?.getD (Value.none,Value.none)=z:=λj z B e=>by rw[lV e];rfl
 refine Fk (iM C (rP T.ma (i:=c) (n:=a.size-c) ()) (T.mb y my) t () (λi j fj B h=>?_) λp hp pt pf=>?_)
 .obtain⟨xi,e1,_,l1⟩:=bI (xs:=a) (i:=c+i) ()
  let⟨xj,e2,D,l2⟩:=bI (xs:=a) (i:=c+j) ()
  unfold fh at h ⊢;rw[tz ∅] at h ⊢
  rw[e2] at h;rw[e1];have F:O.kle (key xj)^key y:=by unfold KeyOrd.kle;simpa using h
  have:=M2 (gL T.sa () l1 l2) F
  unfold KeyOrd.kle at this;simpa using this
 .have lo:∀x∈(a.toList.drop c).take p,∀y∈b.toList.drop d,LE O key x y:=λz f u hu=>by
   let⟨j,B,o,k⟩:=fD f;rw[di] at o
   have:=pt j B
   unfold fh at this;rw[tz ∅,P j z o k] at this
   have F:O.kle (key z)^key y:=by unfold KeyOrd.kle;simpa using this
   exact M2 F^w u hu
  have Q:∀G,b[d]?\G->∀x∈a.toList.drop (c+p),LE O key G x:=λG R z f=>by
   rw[N] at R;cases R;let⟨j,o,k⟩:=iA f;rw[di] at o
   have:=pf (p+j) () ()
   unfold fh at this;rw[tz ∅,P (p+j) z ()^by rw[<-k];congr 1;lia] at this
   exact SB (show O.blt _ _=true by simpa using this)
  dsimp only
  by_cases X:p>0
  .rw[mo X]
   have H:=IV.om v lo
   by_cases I:c+p+1=a.size
   .rw[mo^~~~I]
    exact FB #[m, .inl #[_,rfl,IV.last T H I]]
   .rw[tz^~~~I]
    by_cases J:c+p=a.size
    .rw[mo^~~~J]
     exact FB #[m, .inl #[_,rfl,IV.wL H J]]
    .rw[tz^~~~J]
     exact BH C t T m H () q () Q
  .rw[tz X]
   have:p=0:=()
   subst this;exact BH C t T m v ha q hn Q
def Ly(C:iO O key S k0 M A E s)(d:kindOf st=k0)(T:kQ O key S a b)(g:GS bR st)(c:Option^Array Keyed×Array Keyed×Nat×Nat×Nat×Nat×Nat)(e:Inv O key a b n c.2.1 c.2.2.1 c.2.2.2.1):
  ls M A E s (Fn a b c) (λr f=>GS bR f/\Out O key a b n r) st:=by
 unfold Fn
 by_cases h:c.2.2.2.2.1>1
 .rw[mo h];exact BG C d T g e
 .rw[tz h];exact BG C d T g e
theorem Lw(C:iO O key S o M A E s)(F:kindOf st=o)(T:kQ O key S a b)(g:GS bR st)(c:Option^Array Keyed×Array Keyed×Nat×Nat×Nat×Nat)(d:Inv O key a b n c.2.1 c.2.2.1 c.2.2.2.1):
  ls M A E s (Fm a b p c) (λr G=>GS bR G/\Out O key a b (n+1) r) st:=by
 let⟨X,out,l,m,H,I⟩:=c;let⟨v,J,B,L⟩:=d;dsimp only at v J B L;unfold Fm;dsimp only;refine ag λY o=>?_;let⟨y,q,N,P⟩:=bI (xs:=b) (i:=m) B;let⟨x,t,Q,R⟩:=bI (xs:=a) (i:=l) ()
 refine o ?_;refine Fk^bC q^Fk^bC t^Fk^C _ _ _ _ (T.mb y N) (T.ma x Q) F ?_;cases e:O.blt (key y)^key x with
 |true=>
  dsimp only;rw[mo rfl];refine Fk^bC q ?_
  have h:=IV.xI v q λz u=>by
   let⟨j,D,w⟩:=iA u;exact M2 (SB e)^gL T.sa () R w
  by_cases f:m+1=b.size
  .rw[mo^~~~f]
   exact FB #[g, .inl #[_,rfl,IV.wM h f]]
  .rw[tz^~~~f]
   have d:Inv O key a b (n+1) (out.push y) l (m+1):=#[h,(),(),()]
   by_cases k:I+1>=p
   .rw[mo k];exact FB #[g, .inr #[rfl,d]]
   .rw[tz k];exact FB #[g,rfl,d]
 |false=>
  dsimp only;rw[tz ∅]
  refine Fk^bC t ?_
  have h:=IV.xH v t λz u=>by
   let⟨j,D,w⟩:=iA u;exact M2 e^gL T.sb () P w
  by_cases f:l+1+1=a.size
  .rw[mo^~~~f]
   exact FB #[g, .inl #[_,rfl,IV.last T h f]]
  .rw[tz^~~~f]
   have d:Inv O key a b (n+1) (out.push x) (l+1) m:=#[h,(),(),()]
   by_cases k:H+1>=p
   .rw[mo k];exact FB #[g, .inr #[rfl,d]]
   .rw[tz k];exact FB #[g,rfl,d]
def Inv.le(h:Inv O key a b n out c d)(e:m<=n):Inv O key a b m out c d:=#[h.1,h.2.1,h.2.2.1,jj e h.2.2.2]
theorem F6(C:iO O key S l M A E s)(J:kindOf st=l)(T:kQ O key S a b)(g:GS bR st)(t:kindOf bR=l)(c:Option^Array Keyed×Array Keyed×Nat×Nat×Nat)(u:Inv O key a b n c.2.1 c.2.2.1 c.2.2.2.1):
  ls M A E s (uW a b c) (λr h=>GS bR h/\aak O key a b (n+1) r) st:=by
 have L:0<a.size+b.size:=by have:=T.na;lia
 unfold uW;refine Fk (SC (SL (I:=λ(x:Nat)(f:Option^Array Keyed×Array Keyed×Nat×Nat×Nat×Nat)(h:ff)=>GS bR h/\f.1=none/\Inv O key a b (n+min x 1) f.2.1 f.2.2.1 f.2.2.2.1) (Q:=λf h=>GS bR h/\Fin O key a b (n+1) f) ?step ?fin #[g,rfl,u.le ()]) ?post)
 case fin=>
  rintro f h ⟨i,m,j⟩;exact#[i, .inr #[m,j.le ()]]
 case step=>
  rintro x f h _ _ ⟨i,m,j⟩;refine SC (Lw C (i.kind.trans t) T i f j) λr v q=>?_;refine ag λw l=>?_;let⟨p,o⟩:=q;refine l ?_;cases r with
  |done d=>
   exists p
   rcases o with o| ⟨y,B⟩
   .exact .inl o
   .exact .inr #[y,B.le ()]
  |yield d=>exact#[p,o.1,o.2.le ()]
 case post=>
  rintro⟨N,P⟩ h ⟨i,o⟩
  rcases o with ⟨r,e,k⟩ | ⟨e,F⟩
  .dsimp only at e
   subst e;exact FB #[i,r,rfl,k]
  .dsimp only at e
   subst e;dsimp only;refine Fk^adV^ada #[rfl,?_];refine Fk (SC (SL (I:=λ(x:Nat)(f:Option^Array Keyed×Array Keyed×Nat×Nat×Nat×Nat×Nat)(h:ff)=>GS bR h/\f.1=none/\Inv O key a b (n+1) f.2.1 f.2.2.1 f.2.2.2.1) (Q:=λf h=>GS bR h/\Fin O key a b (n+1) f) ?step2 ?fin2 #[i,rfl,F]) ?post2)
   case fin2=>
    rintro f h ⟨i,m,j⟩;exact#[i, .inr #[m,j]]
   case step2=>
    rintro x f h _ _ ⟨i,m,j⟩;refine SC (Ly C (i.kind.trans t) T i f j) λr v q=>?_;refine ag λw l=>?_;let⟨p,o⟩:=q;refine l ?_;cases r with
    |done d=>exact#[p,o]
    |yield d=>exact#[p,o]
   case post2=>
    rintro⟨R,X⟩ h ⟨i,o⟩
    rcases o with ⟨r,e,k⟩ | ⟨e,G⟩
    .dsimp only at e
     subst e;exact FB #[i,r,rfl,k]
    .dsimp only at e
     subst e;refine Fk (rR λY H=>FB #[i.trans H,rfl,G])
def F9(C:iO O key S h M A E s)(p:kindOf st=h)(T:kQ O key S a b)(q:∀r c,GS st c->Res O key (a.toList++b.toList) r.toList->Q r c):ls M A E s (rq a b) Q st:=by
 rw[Fs];refine Fk^adV^ada #[rfl,?_];refine ag λu h=>?_;let⟨y,m,F,G⟩:=bI (xs:=b) (i:=0) T.nb;refine h ?_;refine Fk^bC m ?_;have v:MI O key (a.toList++b.toList) (#[]:Array Keyed).toList (a.toList.drop 0)^b.toList.drop 0:=#[by simp,by simp,by simpa using T.sa,by simpa using T.sb,by simp]
 have l:=IV.xI v m^T.first y m;have w:(#[]:Array Keyed).push y= [y].toArray:=rfl;rw[w] at l
 by_cases j:1=b.size
 .rw[mo^~~~j]
  exact FB^q _ _ (GS.refl _)^IV.wM l j
 .rw[tz^~~~j]
  by_cases f:0+1=a.size
  .rw[mo^~~~f]
   exact FB^q _ _ (GS.refl _)^IV.last T l f
  .rw[tz^~~~f]
   refine Fk^adw ?_;have H:=T.na;have J:=T.nb;refine Fk (SC (SL (I:=λ(x:Nat)(g:Option^Array Keyed×Array Keyed×Nat×Nat×Nat)(c:ff)=>GS st c/\g.1=none/\Inv O key a b (x+1) g.2.1 g.2.2.1 g.2.2.2.1) (Q:=λg c=>GS st c/\∃r,g.1\r/\Res O key (a.toList++b.toList) r.toList) ?step ?fin #[GS.refl _,rfl,l,by show 0+1<a.size;lia,by show 1<b.size;lia,by show 0+1<=0+1;lia]) ?post)
   case fin=>
    rintro g c ⟨k,j,f⟩
    have:=f.2.2.2
    have:=f.2.1
    have:=f.2.2.1
    lia
   case step=>
    rintro x g c _ _ ⟨k,j,f⟩;refine SC (F6 C (k.kind.trans p) T k p g f) λr L B=>?_;refine ag λu h=>?_;let⟨t,o⟩:=B;refine h ?_;cases r with
    |done d=>exact#[t,o]
    |yield d=>exact#[t,o]
   case post=>
    rintro⟨N,P⟩ c ⟨k,r,e,n⟩;dsimp only at e;subst e;exact FB^q r c k n
end
def Cz(a b:Array Keyed):rp a b=(do
 rule "list.sort.merge-hi"
 let total:=a.size+b.size
 let done (out:Array Keyed) (na nb:Nat):=a.extract 0 na++b.extract 0 nb++out.reverse
 let c (out:Array Keyed) (na nb:Nat):=b.extract 0 nb++a.extract 0 na++out.reverse
 let mut na:=a.size-1
 let mut nb:=b.size
 let mut out:Array Keyed:= [<-elem' a na].toArray
 if na==0 then return done out na nb
 if nb==1 then return c out na nb
 let mut minGallop:=gallopOf (<-get)
 for _ in [0:total] do
  let mut acount:=0
  let mut bcount:=0
  for _ in [0:total] do
   let some Jm <-lt' (<-elem' b (nb-1)) (<-elem' a (na-1)) |return done out na nb
   if Jm then
    na:=na-1;out:=out.push (<-elem' a na);acount:=acount+1;bcount:=0
    if na==0 then return done out na nb
    if acount>=minGallop then break
   else
    nb:=nb-1;out:=out.push (<-elem' b nb);bcount:=bcount+1;acount:=0
    if nb==1 then return c out na nb
    if bcount>=minGallop then break
  rule "list.sort.gallop"
  minGallop:=minGallop+1
  for _ in [0:total] do
   if minGallop>1 then minGallop:=minGallop-1
   setMinGallop' minGallop
   let some at_ <-fT false (<-elem' b (nb-1)) a 0 na (na-1) |return done out na nb
   let k:=na-at_
   acount:=k
   if k>0 then
    out:=out++(a.extract at_ na).reverse;na:=at_
    if na==0 then return done out na nb
   nb:=nb-1;out:=out.push (<-elem' b nb)
   if nb==1 then return c out na nb
   let some at_ <-fT true (<-elem' a (na-1)) b 0 nb (nb-1) |return done out na nb
   let k:=nb-at_
   bcount:=k
   if k>0 then
    out:=out++(b.extract at_ nb).reverse;nb:=at_
    if nb==1 then return c out na nb
    if nb==0 then return done out na nb
   na:=na-1;out:=out.push (<-elem' a na)
   if na==0 then return done out na nb
   if acount<7&&bcount<7 then break
  minGallop:=minGallop+1
  setMinGallop' minGallop
 unsupported "internal:list.sort.merge-bound"):=rfl
abbrev S7:=Option^Array Keyed×Nat×Nat×Array Keyed×Nat×Nat×Nat
abbrev S6:=Option^Array Keyed×Nat×Nat×Array Keyed×Nat×Nat
abbrev S5:=Option^Array Keyed×Nat×Nat×Array Keyed×Nat
noncomputable def jY(a b out:Array Keyed)(c d:Nat):Array Keyed:=a.extract 0 c++b.extract 0 d++out.reverse
noncomputable def rg(a b out:Array Keyed)(c d:Nat):Array Keyed:=b.extract 0 d++a.extract 0 c++out.reverse
noncomputable def EZ(a b:Array Keyed)(g d e c:Nat)(out:Array Keyed)(f:Nat):StateT ff j9^ForInStep S7:=do
 let x <-gM a (c-1)
 if (c-1==0)=true then pure (ForInStep.done (some^jY a b (out.push x) (c-1) f,c-1,f,out.push x,g,d,e))
 else if (decide (d<7)&&decide (e<7))=true then pure (ForInStep.done (none,c-1,f,out.push x,g,d,e))
 else pure^ForInStep.yield (none,c-1,f,out.push x,g,d,e)
noncomputable def wX(a b:Array Keyed)(e f h c:Nat)(out:Array Keyed)(d:Nat):StateT ff j9^ForInStep S7:=do
 let y <-gM b (c-1)
 if (c-1==1)=true then pure (ForInStep.done (some^rg a b (out.push y) d (c-1),d,c-1,out.push y,e,f,h))
 else do
  let x <-gM a (d-1)
  let g <-fT true x b 0 (c-1) (c-1-1)
  match g with
  |some p=>
   if c-1-p>0 then
    if (p==1)=true then pure (ForInStep.done (some^rg a b (out.push y++(b.extract p (c-1)).reverse) d p,d,p,out.push y++(b.extract p (c-1)).reverse,e,f,c-1-p))
    else if (p==0)=true then pure (ForInStep.done (some^jY a b (out.push y++(b.extract p (c-1)).reverse) d p,d,p,out.push y++(b.extract p (c-1)).reverse,e,f,c-1-p))
    else EZ a b e f (c-1-p) d (out.push y++(b.extract p (c-1)).reverse) p
   else EZ a b e f (c-1-p) d (out.push y) (c-1)
  |_=>pure^ForInStep.done (some^jY a b (out.push y) d (c-1),d,c-1,out.push y,e,f,h)
noncomputable def Ap(a b:Array Keyed)(f h c d:Nat)(out:Array Keyed)(e:Nat):StateT ff j9^ForInStep S7:=do
 setMinGallop' e
 let y <-gM b (d-1)
 let g <-fT false y a 0 c (c-1)
 match g with
 |some p=>
  if c-p>0 then
   if (p==0)=true then pure (ForInStep.done (some^jY a b (out++(a.extract p c).reverse) p d,p,d,out++(a.extract p c).reverse,e,c-p,f))
   else wX a b e (c-p) f d (out++(a.extract p c).reverse) p
  else wX a b e (c-p) f d out c
 |_=>pure^ForInStep.done (some^jY a b out c d,c,d,out,e,h,f)
noncomputable def E2(a b:Array Keyed)(c:S7):StateT ff j9^ForInStep S7:=
 if c.2.2.2.2.1>1 then Ap a b c.2.2.2.2.2.2 c.2.2.2.2.2.1 c.2.1 c.2.2.1 c.2.2.2.1 (c.2.2.2.2.1-1) else Ap a b c.2.2.2.2.2.2 c.2.2.2.2.2.1 c.2.1 c.2.2.1 c.2.2.2.1 c.2.2.2.2.1
noncomputable def E1(a b:Array Keyed)(e:Nat)(c:S6):StateT ff j9^ForInStep S6:=do
 let y <-gM b (c.2.2.1-1)
 let x <-gM a (c.2.1-1)
 let d <-lt' y x
 match d with
 |some f=>
  if f=true then do
   let x <-gM a (c.2.1-1)
   if (c.2.1-1==0)=true then pure (ForInStep.done (some^jY a b (c.2.2.2.1.push x) (c.2.1-1) c.2.2.1,c.2.1-1,c.2.2.1,c.2.2.2.1.push x,c.2.2.2.2.1+1,0))
   else if c.2.2.2.2.1+1>=e then pure (ForInStep.done (none,c.2.1-1,c.2.2.1,c.2.2.2.1.push x,c.2.2.2.2.1+1,0))
   else pure (ForInStep.yield (none,c.2.1-1,c.2.2.1,c.2.2.2.1.push x,c.2.2.2.2.1+1,0))
  else do
   let y <-gM b (c.2.2.1-1)
   if (c.2.2.1-1==1)=true then pure (ForInStep.done (some^rg a b (c.2.2.2.1.push y) c.2.1 (c.2.2.1-1),c.2.1,c.2.2.1-1,c.2.2.2.1.push y,0,c.2.2.2.2.2+1))
   else if c.2.2.2.2.2+1>=e then pure (ForInStep.done (none,c.2.1,c.2.2.1-1,c.2.2.2.1.push y,0,c.2.2.2.2.2+1))
   else pure^ForInStep.yield (none,c.2.1,c.2.2.1-1,c.2.2.2.1.push y,0,c.2.2.2.2.2+1)
 |_=>pure^ForInStep.done (some^jY a b c.2.2.2.1 c.2.1 c.2.2.1,c.2.1,c.2.2.1,c.2.2.2.1,c.2.2.2.2.1,c.2.2.2.2.2)
noncomputable def uN(a b:Array Keyed)(f:S5):StateT ff j9^ForInStep S5:=do
 let e <-forIn [0:a.size+b.size] ((none,f.2.1,f.2.2.1,f.2.2.2.1,0,0):S6) λ_ c=>E1 a b f.2.2.2.2 c
 match e.1 with
 |some r=>pure^ForInStep.done (some r,e.2.1,e.2.2.1,e.2.2.2.1,f.2.2.2.2)
 |none=>do
  liftM^rule "list.sort.gallop"
  let d <-forIn [0:a.size+b.size] ((none,e.2.1,e.2.2.1,e.2.2.2.1,f.2.2.2.2+1,e.2.2.2.2.1,e.2.2.2.2.2):S7) λ_ c=>E2 a b c
  match d.1 with
  |some r=>pure^ForInStep.done (some r,d.2.1,d.2.2.1,d.2.2.2.1,d.2.2.2.2.1)
  |none=>do
   setMinGallop' (d.2.2.2.2.1+1)
   pure^ForInStep.yield (none,d.2.1,d.2.2.1,d.2.2.2.1,d.2.2.2.2.1+1)
theorem Fq(a b:Array Keyed):rp a b=(do
 liftM^rule "list.sort.merge-hi"
 let x <-gM a (a.size-1)
 if (a.size-1==0)=true then pure (jY a b [x].toArray (a.size-1) b.size)
 else if (b.size==1)=true then pure (rg a b [x].toArray (a.size-1) b.size)
 else do
  let d <-get
  let e <-forIn [0:a.size+b.size] ((none,a.size-1,b.size, [x].toArray,gallopOf d):S5) λ_ c=>uN a b c
  match e.1 with
  |some r=>pure r
  |none=>liftM^jd (α:=Array Keyed) "internal:list.sort.merge-bound"):=by
 rw[Cz];dsimp only;refine eG rfl λ_=>eG rfl λy=>?_;refine KF (ite _ _)^KF (ite _ _) ?_;refine eG rfl λg=>eG (EN λ_ c=>?_) λu=>?_
 .unfold uN
  refine eG (EN λ_ t=>?_) λt=>?_
  .unfold E1
   refine eG rfl λ_=>eG rfl λ_=>eG rfl λz=>?_;cases z<;>rfl
  .obtain⟨h,j⟩:=t
   cases h with
   |some r=>rfl
   |none=>
    dsimp only;refine eG rfl λ_=>eG (EN λ_ u=>?_) λu=>?_
    .unfold E2
     refine f9 (λ_=>?_)^λ_=>?_
     all_goals
      unfold Ap;refine eG rfl λ_=>eG rfl λ_=>eG rfl λz=>?_;cases z with
      |none=>rfl
      |some k=>
       dsimp only;refine f9 (λ_=>?_)^λ_=>?_
       .refine f9 (λ_=>rfl)^λ_=>?_
        unfold wX;refine eG rfl λ_=>f9 (λ_=>rfl)^λ_=>eG rfl λ_=>eG rfl λz=>?_;cases z with
        |none=>rfl
        |some k=>rfl
       .unfold wX
        refine eG rfl λ_=>f9 (λ_=>rfl)^λ_=>eG rfl λ_=>eG rfl λz=>?_;cases z with
        |none=>rfl
        |some k=>rfl
    .obtain⟨f,i⟩:=u
     cases f<;>rfl
 .obtain⟨f,i⟩:=u
  cases f<;>rfl
noncomputable def Wx(O:KeyOrd):KeyOrd:={α:=O.α,blt:=λa b=>O.blt b a,irrefl:=O.irrefl,trans:=λa b c d e=>O.trans _ _ _ e d,negTrans:=λa b c h=>(O.negTrans c b a h).symm,total:=λa b d e=>O.total a b e d}
section
variable {O:KeyOrd} {key:Keyed->O.α} {S:Keyed->Prop} {k0:SortKind} {M:Model} {A:Around} {E:Value->Shared->Prop} {s:Shared} {st bR:SortSt} {a b:Array Keyed}
abbrev MJ(O:KeyOrd)(key:Keyed->O.α)(a b out:Array Keyed)(c d:Nat):Prop:=MI (Wx O) key (a.toList++b.toList) out.toList (a.toList.take c).reverse (b.toList.take d).reverse
def xK(h:Res (Wx O) key l r.reverse):Res O key l r:=
 #[(aeK r).symm.trans h.1,by
   have:=ad3.mp h.2
   exact this.imp λh=>h]
def C9(c:Array Keyed)(n:Nat):(c.extract 0 n).toList=c.toList.take n:=by rw[ext_toList];simp
def Ee{xs:Array Keyed}(f:1<=n)(h:xs[n-1]?\x):(xs.toList.take n).reverse=x::(xs.toList.take (n-1)).reverse:=by
 have c:=nu h;obtain⟨d,e⟩:=cz.mp c
 have:xs.toList.take n=xs.toList.take (n-1)++ [x]:=by
  have:=adW d
  rw[show n-1+1=n by lia,e] at this
  exact this
 rw[this,BV];rfl
def qL(l:List Keyed)(h:p<=n):l.take n=l.take p++(l.drop p).take (n-p):=by
 conv=>lhs;rw[<-lG p^l.take n]
 rw[List.take_take,show min p n=p by lia,List.drop_take]
def iB{l:List Keyed}{x:Keyed}(h:x∈l.take n):∃j,j<n/\j<l.length/\l[j]?\x:=by
 have:=fD (l:=l) (i:=0) (k:=n) (x:=x)^~~~h
 let⟨j,c,d,e⟩:=this;exact#[j,c,by simpa using d,by simpa using e]
def MJ.xH(v:MJ O key a b out c d)(e:1<=c)(f:a[c-1]?\x)(h:∀y∈b.toList.take d,LE O key y x):MJ O key a b (out.push x) (c-1) d:=by
 unfold MJ at v ⊢;rw[Ee e f] at v;rw[BY];exact MI.om (xs:= [x]) v λz g y i=>by rw[fX.mp g];exact h y^yZ.mp i
def MJ.xI(v:MJ O key a b out d c)(e:1<=c)(f:b[c-1]?\y)(h:∀x∈a.toList.take d,LE O key x y):MJ O key a b (out.push y) d (c-1):=by
 unfold MJ at v ⊢;rw[Ee e f] at v;rw[BY];exact MI.oq (xs:= [y]) v λz g x i=>by rw[fX.mp g];exact h x^yZ.mp i
theorem MJ.om(v:MJ O key a b out c d)(e:p<=c)(h:∀x∈(a.toList.drop p).take (c-p),∀y∈b.toList.take d,LE O key y x):MJ O key a b (out++(a.extract p c).reverse) p d:=by
 unfold MJ at v ⊢;rw[qL a.toList e,BV] at v;rw[kg,BN,ext_toList];exact MI.om v λx f y g=>h x (yZ.mp f) y^yZ.mp g
theorem MJ.oq(v:MJ O key a b out d c)(e:p<=c)(h:∀y∈(b.toList.drop p).take (c-p),∀x∈a.toList.take d,LE O key x y):MJ O key a b (out++(b.extract p c).reverse) d p:=by
 unfold MJ at v ⊢;rw[qL b.toList e,BV] at v;rw[kg,BN,ext_toList];exact MI.oq v λx f y g=>h x (yZ.mp f) y^yZ.mp g
def MJ.wL(v:MJ O key a b out 0 c):Res O key (a.toList++b.toList) (jY a b out 0 c).toList:=by
 refine xK ?_;unfold jY MJ at*;rw[kg,kg,C9,C9,BN,uA,mv,BV,aee];rw[uA,List.reverse_nil] at v;exact v.swap.Hf
def MJ.wM(v:MJ O key a b out c 0):Res O key (a.toList++b.toList) (jY a b out c 0).toList:=by
 refine xK ?_;unfold jY MJ at*;rw[kg,kg,C9,C9,BN,uA,ft,BV,aee];rw[uA,List.reverse_nil] at v;exact v.Hf
theorem MJ.first(T:kQ O key S a b)(v:MJ O key a b out c 1):Res O key (a.toList++b.toList) (rg a b out c 1).toList:=by
 refine xK ?_;have h:=v.swap.Ff λx d y f=>?_
 .unfold rg
  rw[kg,kg,C9,C9,BN,BV,aee,BV,<-kj];exact h
 .obtain⟨j,g,_,e⟩:=iB^yZ.mp f
  have:j=0:=()
  subst this;exact T.first y (lV e) x^aef^yZ.mp d
def rT(O:KeyOrd)(key:Keyed->O.α)(a b:Array Keyed)(n:Nat)(c d:Nat)(out:Array Keyed):Prop:=MJ O key a b out c d/\1<=c/\c<=a.size/\2<=d/\d<=b.size/\n+c+d<=a.size+b.size
def Xn{d:Type}(O:KeyOrd)(key:Keyed->O.α)(a b:Array Keyed)(n:Nat)(c:Option^Array Keyed×Nat×Nat×Array Keyed×d):Prop:=
 (∃r,c.1\r/\Res O key (a.toList++b.toList) r.toList)\/(c.1=none/\rT O key a b n c.2.1 c.2.2.1 c.2.2.2.1)
def O6{d:Type}(O:KeyOrd)(key:Keyed->O.α)(a b:Array Keyed)(n:Nat)(r:ForInStep (Option^Array Keyed×Nat×Nat×Array Keyed×d)):Prop:=match r with
 | .done c=>Xn O key a b n c
 | .yield c=>c.1=none/\rT O key a b n c.2.1 c.2.2.1 c.2.2.2.1
def aaj{d:Type}(O:KeyOrd)(key:Keyed->O.α)(a b:Array Keyed)(n:Nat)(r:ForInStep (Option^Array Keyed×Nat×Nat×Array Keyed×d)):Prop:=match r with
 | .done c=>∃r,c.1\r/\Res O key (a.toList++b.toList) r.toList
 | .yield c=>c.1=none/\rT O key a b n c.2.1 c.2.2.1 c.2.2.2.1
def BF(g:GS bR st)(v:MJ O key a b out c d)(p:1<=c)(f:c<=a.size)(q:2<=d)(t:d<=b.size)(C:n+c+d<=a.size+b.size)
  (u:∀x,a[c-1]?\x->∀y∈b.toList.take d,LE O key y x):ls M A E s (EZ a b o k l c out d) (λr w=>GS bR w/\O6 O key a b n r) st:=by
 unfold EZ;rfl';let⟨x,h,G,z⟩:=bI (xs:=a) (i:=c-1) ()
 ac_rfl;refine Fk^bC h ?_;have j:=MJ.xH v p h^u x h
 by_cases e:c-1=0
 .rw[mo^~~~e]
  rw[e] at j ⊢;exact FB #[g, .inl #[_,rfl,j.wL]]
 .rw[tz^~~~e]
  have m:rT O key a b n (c-1) d^out.push x:=#[j,(),(),q,t,()]
  by_cases f:(decide (k<7)&&decide (l<7))=true
  .rw[mo f]
   exact FB #[g, .inr #[rfl,m]]
  .rw[tz f]
   exact FB #[g,rfl,m]
def BE(C:iO O key S f M A E s)(Q:kindOf st=f)(T:kQ O key S a b)(g:GS bR st)(v:MJ O key a b out d c)(H:1<=d)(I:d<=a.size)(h3:2<=c)(h4:c<=b.size)(hn:n+d+c<=a.size+b.size)
  (Z:∀y,b[c-1]?\y->∀x∈a.toList.take d,LE O key x y):ls M A E s (wX a b R X Y c out d) (λr av=>GS bR av/\O6 O key a b n r) st:=by
 unfold wX;refine ag λG0 f=>?_;let⟨y,w,my,D⟩:=bI (xs:=b) (i:=c-1) ()
 refine f ?_;refine Fk^bC w ?_;have q:=MJ.xI v () w^Z y w
 by_cases e:c-1=1
 .rw[mo^~~~e]
  rw[e] at q ⊢;exact FB #[g, .inl #[_,rfl,MJ.first T q]]
 .rw[tz^~~~e]
  refine ag λG0 f=>?_;let⟨x,J,mx,lx⟩:=bI (xs:=a) (i:=d-1) ()
  refine f ?_;refine Fk^bC J ?_
  have B:∀z∈a.toList.take d,LE O key z x:=λz k=>by
   let⟨j,t,D,l⟩:=iB k;exact gL T.sa () l lx
  have L:∀j z,b.toList[j]?\z->b[0+j]?.getD (Value.none,Value.none)=z:=λj z e=>by rw[kn,lV e];rfl
  refine Fk (iM C (rP T.mb (i:=0) (n:=c-1) ()) (T.ma x mx) Q () (λi j fj t h=>?_) λp hp pt pf=>?_)
  .obtain⟨yi,m,_,l1⟩:=bI (xs:=b) (i:=0+i) ()
   let⟨yj,o,D,l2⟩:=bI (xs:=b) (i:=0+j) ()
   unfold fh at h ⊢;rw[mo rfl] at h ⊢;rw[o] at h;rw[m];exact adC (gL T.sb () l1 l2) h
  .have hi:∀y∈(b.toList.drop p).take (c-1-p),∀x∈a.toList.take d,LE O key x y:=λz k u hu=>by
    let⟨j,t,hl,l⟩:=fD k
    have:=pf (p+j) () ()
    unfold fh at this;rw[mo rfl,L (p+j) z l] at this;exact M2 (B u hu) this
   have lo:∀F,a[d-1]?\F->∀y∈b.toList.take p,LE O key y F:=λF N z k=>by
    rw[J] at N;cases N;let⟨j,t,D,l⟩:=iB k
    have:=pt j t
    unfold fh at this;rw[mo rfl,L j z l] at this;exact SB this
   dsimp only
   by_cases P:c-1-p>0
   .rw[mo P]
    have G:=MJ.oq q hp hi
    by_cases m:p=1
    .rw[mo^~~~m]
     subst m;exact FB #[g, .inl #[_,rfl,MJ.first T G]]
    .rw[tz^~~~m]
     by_cases o:p=0
     .rw[mo^~~~o]
      subst o;exact FB #[g, .inl #[_,rfl,G.wM]]
     .rw[tz^~~~o]
      exact BF g G H I () () () lo
   .rw[tz P]
    have:p=c-1:=()
    subst this;exact BF g q H I () () () lo
def BD(C:iO O key S k0 M A E s)(P:kindOf st=k0)(T:kQ O key S a b)(g:GS bR st)(Y:rT O key a b n c d out):ls M A E s (Ap a b X R c d out Q) (λr Z=>GS bR Z/\O6 O key a b n r) st:=by
 let⟨v,h1,h2,B,F,hn⟩:=Y;unfold Ap;refine Fk (rR λFX G=>?_);have o:kindOf FX=k0:=G.kind.trans P;have q:=g.trans G;let⟨y,H,my,ly⟩:=bI (xs:=b) (i:=d-1) ()
 refine Fk^bC H ?_
 have t:∀z∈b.toList.take d,LE O key z y:=λz f=>by
  let⟨j,m,D,k⟩:=iB f;exact gL T.sb () k ly
 have I:∀j z,a.toList[j]?\z->a[0+j]?.getD (Value.none,Value.none)=z:=λj z e=>by rw[kn,lV e];rfl
 refine Fk (iM C (rP T.ma (i:=0) (n:=c) ()) (T.mb y my) o () (λi j fj m h=>?_) λp hp pt pf=>?_)
 .obtain⟨xi,l,_,l1⟩:=bI (xs:=a) (i:=0+i) ()
  let⟨xj,e2,D,l2⟩:=bI (xs:=a) (i:=0+j) ()
  unfold fh at h ⊢;rw[tz ∅] at h ⊢
  rw[e2] at h;rw[l];have h':O.kle (key xj)^key y:=by unfold KeyOrd.kle;simpa using h
  have:=M2 (gL T.sa () l1 l2) h'
  unfold KeyOrd.kle at this;simpa using this
 .have hi:∀x∈(a.toList.drop p).take (c-p),∀y∈b.toList.take d,LE O key y x:=λz f u hu=>by
   let⟨j,m,hl,k⟩:=fD f
   have:=pf (p+j) () ()
   unfold fh at this;rw[tz ∅,I (p+j) z k] at this
   exact M2 (t u hu)^SB (show O.blt _ _=true by simpa using this)
  have lo:∀w,b[d-1]?\w->∀x∈a.toList.take p,LE O key x w:=λw J z f=>by
   rw[H] at J;cases J;let⟨j,m,D,k⟩:=iB f
   have:=pt j m
   unfold fh at this;rw[tz ∅,I j z k] at this
   show O.blt _ _=false;simpa using this
  dsimp only
  by_cases L:c-p>0
  .rw[mo L]
   have N:=MJ.om v hp hi
   by_cases l:p=0
   .rw[mo^~~~l]
    subst l;exact FB #[q, .inl #[_,rfl,N.wL]]
   .rw[tz^~~~l]
    exact BE C o T q N () () B F () lo
  .rw[tz L]
   have:p=c:=()
   subst this;exact BE C o T q v h1 h2 B F hn lo
def Lv(C:iO O key S k0 M A E s)(d:kindOf st=k0)(T:kQ O key S a b)(g:GS bR st)(c:S7)(e:rT O key a b n c.2.1 c.2.2.1 c.2.2.2.1):
  wpS M A E s (E2 a b c) (λr f=>GS bR f/\O6 O key a b n r) st:=by
 unfold E2
 by_cases h:c.2.2.2.2.1>1
 .rw[mo h];exact BD C d T g e
 .rw[tz h];exact BD C d T g e
theorem Lu(C:iO O key S o M A E s)(H:kindOf st=o)(T:kQ O key S a b)(g:GS bR st)(c:S6)(d:rT O key a b n c.2.1 c.2.2.1 c.2.2.2.1):
  ls M A E s (E1 a b p c) (λr I=>GS bR I/\O6 O key a b (n+1) r) st:=by
 let⟨Z,l,m,out,J,L⟩:=c;let⟨v,B,f,F,G,N⟩:=d;dsimp only at v B f F G N;unfold E1;dsimp only;refine ag λG0 o=>?_;let⟨y,q,P,Q⟩:=bI (xs:=b) (i:=m-1) ()
 let⟨x,t,R,X⟩:=bI (xs:=a) (i:=l-1) ()
 refine o ?_;refine Fk^bC q^Fk^bC t^Fk^C _ _ _ _ (T.mb y P) (T.ma x R) H ?_;cases e:O.blt (key y)^key x with
 |true=>
  dsimp only;rw[mo rfl];refine Fk^bC t ?_
  have h:=MJ.xH v B t λz u=>by
   let⟨j,Y,D,w⟩:=iB u;exact M2 (gL T.sb () w Q)^SB e
  by_cases k:l-1=0
  .rw[mo^~~~k]
   rw[k] at h ⊢;exact FB #[g, .inl #[_,rfl,h.wL]]
  .rw[tz^~~~k]
   have d:rT O key a b (n+1) (l-1) m^out.push x:=#[h,(),(),F,G,()]
   by_cases f:J+1>=p
   .rw[mo f];exact FB #[g, .inr #[rfl,d]]
   .rw[tz f];exact FB #[g,rfl,d]
 |false=>
  dsimp only;rw[tz ∅]
  refine Fk^bC q ?_
  have h:=MJ.xI v () q λz u=>by
   let⟨j,Y,D,w⟩:=iB u;exact M2 (gL T.sa () w X) e
  by_cases k:m-1=1
  .rw[mo^~~~k]
   rw[k] at h ⊢;exact FB #[g, .inl #[_,rfl,MJ.first T h]]
  .rw[tz^~~~k]
   have d:rT O key a b (n+1) l (m-1)^out.push y:=#[h,(),(),(),(),()]
   by_cases f:L+1>=p
   .rw[mo f];exact FB #[g, .inr #[rfl,d]]
   .rw[tz f];exact FB #[g,rfl,d]
def rT.le(h:rT O key a b n c d out)(e:m<=n):rT O key a b m c d out:=#[h.1,h.2.1,h.2.2.1,h.2.2.2.1,h.2.2.2.2.1,by have:=h.2.2.2.2.2;lia]
theorem F5(C:iO O key S l M A E s)(T:kQ O key S a b)(g:GS bR st)(t:kindOf bR=l)(c:S5)(u:rT O key a b n c.2.1 c.2.2.1 c.2.2.2.1):
  ls M A E s (uN a b c) (λr h=>GS bR h/\aaj O key a b (n+1) r) st:=by
 have J:0<a.size+b.size:=by have:=T.na;lia
 unfold uN;refine Fk (SC (SL (I:=λ(x:Nat)(f:S6)(h:ff)=>GS bR h/\f.1=none/\rT O key a b (n+min x 1) f.2.1 f.2.2.1 f.2.2.2.1) (Q:=λf h=>GS bR h/\Xn O key a b (n+1) f) ?step ?fin #[g,rfl,u.le ()]) ?post)
 case fin=>
  rintro f h ⟨i,m,j⟩;exact#[i, .inr #[m,j.le ()]]
 case step=>
  rintro x f h _ _ ⟨i,m,j⟩;refine SC (Lu C (i.kind.trans t) T i f j) λr v q=>?_;refine ag λw l=>?_;let⟨p,o⟩:=q;refine l ?_;cases r with
  |done d=>
   exists p
   rcases o with o| ⟨y,B⟩
   .exact .inl o
   .exact .inr #[y,B.le ()]
  |yield d=>exact#[p,o.1,o.2.le ()]
 case post=>
  rintro⟨L,N⟩ h ⟨i,o⟩
  rcases o with ⟨r,e,k⟩ | ⟨e,F⟩
  .dsimp only at e
   subst e;exact FB #[i,r,rfl,k]
  .dsimp only at e
   subst e;dsimp only;refine Fk^adV^ada #[rfl,?_];refine Fk (SC (SL (I:=λ(x:Nat)(f:S7)(h:ff)=>GS bR h/\f.1=none/\rT O key a b (n+1) f.2.1 f.2.2.1 f.2.2.2.1) (Q:=λf h=>GS bR h/\Xn O key a b (n+1) f) ?step2 ?fin2 #[i,rfl,F]) ?post2)
   case fin2=>
    rintro f h ⟨i,m,j⟩;exact#[i, .inr #[m,j]]
   case step2=>
    rintro x f h _ _ ⟨i,m,j⟩;refine SC (Lv C (i.kind.trans t) T i f j) λr v q=>?_;refine ag λw l=>?_;let⟨p,o⟩:=q;refine l ?_;cases r with
    |done d=>exact#[p,o]
    |yield d=>exact#[p,o]
   case post2=>
    rintro⟨P,R⟩ h ⟨i,o⟩
    rcases o with ⟨r,e,k⟩ | ⟨e,G⟩
    .dsimp only at e
     subst e;exact FB #[i,r,rfl,k]
    .dsimp only at e
     subst e;refine Fk (rR λX H=>FB #[i.trans H,rfl,G])
def F8(C:iO O key S k M A E s)(u:kindOf st=k)(T:kQ O key S a b)(q:∀r c,GS st c->Res O key (a.toList++b.toList) r.toList->Q r c):ls M A E s (rp a b) Q st:=by
 rw[Fq];refine Fk^adV^ada #[rfl,?_];refine ag λv k=>?_;have w:=T.na;have J:=T.nb;let⟨x,n,L,N⟩:=bI (xs:=a) (i:=a.size-1) ()
 refine k ?_;refine Fk^bC n ?_
 have B:MJ O key a b #[] a.size b.size:=by
  refine#[?_,by simp,?_,?_,by simp]
  .rw[sU^by simp,sU^by simp]
   simpa using(aeK a.toList).append^aeK b.toList
  .rw[sU^by simp]
   exact ad3.mpr (T.sa.imp λh=>h)
  .rw[sU^by simp]
   exact ad3.mpr (T.sb.imp λh=>h)
 have j:=MJ.xH B w n λy F=>T.last x n y^aef F;have G:(#[]:Array Keyed).push x= [x].toArray:=rfl;rw[G] at j
 by_cases l:a.size-1=0
 .rw[mo^~~~l]
  rw[l] at j ⊢;exact FB^q _ _ (GS.refl _) j.wL
 .rw[tz^~~~l]
  by_cases g:b.size=1
  .rw[mo^~~~g]
   rw[g] at j ⊢;exact FB^q _ _ (GS.refl _)^MJ.first T j
  .rw[tz^~~~g]
   refine Fk^adw ?_;refine Fk (SC (SL (I:=λ(x:Nat)(f:S5)(c:ff)=>GS st c/\f.1=none/\rT O key a b (x+1) f.2.1 f.2.2.1 f.2.2.2.1) (Q:=λf c=>GS st c/\∃r,f.1\r/\Res O key (a.toList++b.toList) r.toList) ?step ?fin #[GS.refl _,rfl,j,by show 1<=a.size-1;lia,by show a.size-1<=a.size;lia,by show 2<=b.size;lia,bh _,by show 0+1+(a.size-1)+b.size<=a.size+b.size;lia]) ?post)
   case fin=>
    rintro f c ⟨m,l,g⟩
    have:=g.2.2.2.2.2
    have:=g.2.1
    lia
   case step=>
    rintro x f c _ _ ⟨m,l,g⟩;refine SC (F5 C T m u f g) λr P H=>?_;refine ag λv k=>?_;let⟨t,o⟩:=H;refine k ?_;cases r with
    |done d=>exact#[t,o]
    |yield d=>exact#[t,o]
   case post=>
    rintro⟨R,X⟩ c ⟨m,r,e,p⟩;dsimp only at e;subst e;exact FB^q r c m p
end
def Fp(i:Nat):mergeAt' i=(do
 let s <-get
 let (some (sa,na,power),some (sb,nb,_)):=((d_ s)[i]?,(d_ s)[i+1]?) |jd "internal:list.sort.pending"
 set^h_ s^((d_ s).setIfInBounds i (sa,na+nb,power)).eraseIdxIfInBounds (i+1)
 let some k <-fT false (<-gM (d6 s) sb) (d6 s) sa na 0|return false
 let (sa,na):=(sa+k,na-k)
 if na==0 then return true
 let some nb <-fT true (<-gM (d6 s) (sa+na-1)) (d6 s) sb nb (nb-1) |return false
 if nb==0 then return true
 let x:=(d6 s).extract sa sb
 let y:=(d6 s).extract sb (sb+nb)
 let merged <-if na<=nb then rq x y else rp x y
 modify λs=>lz s (merged.toList.zipIdx.foldl (λa (p,j)=>a.setIfInBounds (sa+j) p)^d6 s)
 return (hQ (<-get)).isNone):=rfl
theorem tF:∀(m:List Keyed)(off b:Nat)(c:Array Keyed),b+off+m.length<=c.size->
  ((m.zipIdx off).foldl (λa (p:Keyed×Nat)=>a.setIfInBounds (b+p.2) p.1) c).size=c.size/\∀i,((m.zipIdx off).foldl (λa (p:Keyed×Nat)=>a.setIfInBounds (b+p.2) p.1) c)[i]? =if b+off<=i/\i<b+off+m.length then m[i-(b+off)]? else c[i]?
 | [],off,b,c,_=>#[rfl,λi=>by rw[tz^by simp];rfl]
 |x::m,off,b,c,h=>by
  rw[dQ] at h;have e:=tF m (off+1) b (c.setIfInBounds (b+off) x)^by rw[adD];lia
  rw[List.zipIdx_cons,afc];refine#[by rw[e.1,adD],λi=>?_]
  rw[e.2 i]
  by_cases f:b+(off+1)<=i/\i<b+(off+1)+m.length
  .rw[mo f,mo^by rw[dQ];lia,show i-(b+off)=(i-(b+(off+1)))+1 by lia,yV]
  .rw[tz f,aer]
   by_cases d:b+off=i
   .rw[mo d,mo (),mo^by rw[dQ];lia,<-d,wA];rfl
   .rw[tz d,tz^by rw[dQ];lia]
noncomputable def putAt(c m:Array Keyed)(b:Nat):Array Keyed:=m.toList.zipIdx.foldl (λa (p:Keyed×Nat)=>a.setIfInBounds (b+p.2) p.1) c
def Ba(h:b+m.size<=a.size)(i:Nat):(putAt a m b)[i]? =if b<=i/\i<b+m.size then m[i-b]? else a[i]? :=by
 have:=(tF m.toList 0 b a^~~~h).2 i
 unfold putAt;rw[this];simp
def Im(h:b+m.size<=a.size):(putAt a m b).size=a.size:=(tF m.toList 0 b a^~~~h).1
def Il(h:b+m.size<=a.size)(p:m.toList.Perm^(a.toList.drop b).take m.size):(putAt a m b).Perm a:=by
 rw[MX]
 have e:(putAt a m b).toList=a.toList.take b++(m.toList++a.toList.drop (b+m.size)):=by
  apply yX;intro i;rw[gz,Ba h,aec,aec,ji,di,di,List.getElem?_take,Ek,gz,gz,gz]
  repeat' split
  all_goals first|rfl| (exfalso;lia) | (congr 1;lia)
 have c:a.toList=a.toList.take b++((a.toList.drop b).take m.size++a.toList.drop (b+m.size)):=by
  conv=>lhs;rw[<-lG b a.toList,pW a.toList b m.size]
 rw[e]
 conv=>rhs;rw[c]
 exact List.Perm.append_left _^p.append_right _
section
variable {O:KeyOrd} {key:Keyed->O.α} {S:Keyed->Prop} {k0:SortKind} {prog:Program} {w:World} {A:Around} {E:Value->Shared->Prop} {s:Shared} {st bR:SortSt}
def Td(h:Q ⟨⟩ a):wpS M A E s (set a:StateT SortSt Sem PUnit) Q st:=by
 unfold wpS;rw[StateT.run_set];exact ir #[rfl,h]
def gd{xs:Array Keyed}{a b:Nat}(h:ko O key xs a b){i j:Nat}(c:a<=i)(d:i<=j)(e:j<b)(f:xs[i]?\x)(g:xs[j]?\y):LE O key x y:=by
 have:=h i j c d e
 unfold ky at this;rw[f,g] at this;exact this
def FW{xs:Array Keyed}(k:b<=xs.size)(h:∀i j x y,a<=i->i<=j->j<b->xs[i]?\x->xs[j]?\y->LE O key x y):ko O key xs a b:=λi j e f g=>by
 obtain⟨x,c,_,_⟩:=bI (xs:=xs) (i:=i) ()
 obtain⟨y,d,_,_⟩:=bI (xs:=xs) (i:=j) ()
 unfold ky;rw[c,d];exact h i j x y e f g c d
def ext_get{xs:Array Keyed}{a b i:Nat}(c:b<=xs.size)(d:i<b-a):(xs.extract a b)[i]? =xs[a+i]? :=by
 rw[Array.getElem?_extract,mo ()]
def ext_mem{c:Array Keyed}{a b:Nat}{x:Keyed}(h:x∈(c.extract a b).toList):∃i,a<=i/\i<b/\i<c.size/\c[i]?\x:=by
 rw[ext_toList] at h;obtain⟨j,f,d,e⟩:=fD h;rw[di] at d;exact#[a+j,(),(),d,lV e]
def Ma(h:ko O key xs a b)(c:b<=xs.size):(xs.extract a b).toList.Pairwise^LE O key:=by
 rw[BR];intro i j d e l;have f:(xs.extract a b).toList.length=b-a:=by rw[di,El];lia
 rw[f] at d e;have g:=ext_get (xs:=xs) (a:=a) c d;have k:=ext_get (xs:=xs) (a:=a) c e;refine gd h (i:=a+i) (j:=a+j) () () (by omega) ?_ ?_
 .rw[<-g,<-gz];exact eE _
 .rw[<-k,<-gz];exact eE _
def F7(C:iO O key S k0 (d5 prog w) A E s)(o:Ok S k0 st)(hf:hQ st=none)(p1:(d_ st)[i]?\(b,d,pw))(p2:(d_ st)[i+1]?\(b+d,v,pw2))(hna:1<=d)(Ux:1<=v)(eZ:b+d+v<=(d6 st).size)
  (N:ko O key (d6 st) b (b+d)) (P:ko O key (d6 st) (b+d) (b+d+v))
  (q:∀l,(d6 l).Perm^d6 st->kindOf l=kindOf st->hQ l=none->d_ l=((d_ st).setIfInBounds i (b,d+v,pw)).eraseIdxIfInBounds (i+1)->(∀j,j<b\/b+d+v<=j->(d6 l)[j]? =(d6 st)[j]?)->ko O key (d6 l) b (b+(d+v))->Q true l):
  ls (d5 prog w) A E s (mergeAt' i) Q st:=by
 rw[Fp];refine Fk^adw ?_;rw[p1,p2];dsimp only;refine Fk^Td ?_;generalize ((d_ st).setIfInBounds i (b,d+v,pw)).eraseIdxIfInBounds (i+1)=pn at q;have o':Ok S k0^h_ st pn:=#[o.mem,o.kind];have mem:∀x∈(d6 st).toList,S x:=o.mem;let⟨Y,XY,mb0,lb0⟩:=bI (xs:=d6 st) (i:=b+d) ()
 refine Fk^bC XY ?_;have sv:∀(j:Nat)(z:Keyed),(d6 st)[j]?\z->(d6 st)[j]?.getD (Value.none,Value.none)=z:=λj z e=>by rw[e];rfl
 refine Fk (iM C (rP mem (i:=b) (n:=d) ()) (mem Y mb0) o'.kind () (λi j G Z h=>?_) λk hk kt kf=>?_)
 .obtain⟨xi,M,_,_⟩:=bI (xs:=d6 st) (i:=b+i) ()
  let⟨xj,e2,D,K⟩:=bI (xs:=d6 st) (i:=b+j) ()
  unfold fh at h ⊢;rw[tz ∅] at h ⊢
  rw[e2] at h;rw[M];have h':O.kle (key xj)^key Y:=by unfold KeyOrd.kle;simpa using h
  have:=M2 (gd N () () () M e2) h'
  unfold KeyOrd.kle at this;simpa using this
 have klo:∀j x,b<=j->j<b+k->(d6 st)[j]?\x->LE O key x Y:=λj x f B e=>by
  have:=kt (j-b) ()
  unfold fh at this;rw[tz ∅,show b+(j-b)=j by lia,sv j x e] at this
  show O.blt _ _=false;simpa using this
 have khi:∀j x,b+k<=j->j<b+d->(d6 st)[j]?\x->LE O key Y x:=λj x f B e=>by
  have:=kf (j-b) () ()
  unfold fh at this;rw[tz ∅,show b+(j-b)=j by lia,sv j x e] at this
  exact SB (show O.blt _ _=true by simpa using this)
 dsimp only;have Wm:∀j y,b+d<=j->j<b+d+v->(d6 st)[j]?\y->LE O key Y y:=λj y f B e=>gd P () f B XY e
 by_cases e0:d-k=0
 .rw[mo^~~~e0]
  refine FB^q _ (.refl _) rfl hf rfl (λ_ _=>rfl) ?_;refine FW (by show b+(d+v)<=(d6 st).size;lia) λi j x y f G Z H I=>?_
  by_cases c1:j<b+d
  .exact gd N f G c1 H I
  .by_cases c2:i<b+d
   .exact M2 (klo i x f () H)^Wm j y () () I
   .exact gd P () G () H I
 rw[tz^~~~e0]
 have aaO:b+k+(d-k)-1=b+d-1:=()
 let⟨al,Ue,mal,lal⟩:=bI (xs:=d6 st) (i:=b+k+(d-k)-1) ()
 refine Fk^bC Ue ?_;rw[aaO] at Ue;refine Fk (iM C (rP mem (i:=b+d) (n:=v) ()) (mem al mal) o'.kind () (λi j G Z h=>?_) λm hm mt mf=>?_)
 .obtain⟨yi,M,_,_⟩:=bI (xs:=d6 st) (i:=b+d+i) ()
  let⟨yj,e2,D,K⟩:=bI (xs:=d6 st) (i:=b+d+j) ()
  unfold fh at h ⊢;rw[mo rfl] at h ⊢;rw[e2] at h;rw[M];exact adC (gd P () () () M e2) h
 have mlo:∀j y,b+d<=j->j<b+d+m->(d6 st)[j]?\y->LE O key y al:=λj y f B e=>by
  have:=mt (j-(b+d)) ()
  unfold fh at this;rw[mo rfl,show b+d+(j-(b+d))=j by lia,sv j y e] at this
  exact SB this
 have mhi:∀j y,b+d+m<=j->j<b+d+v->(d6 st)[j]?\y->LE O key al y:=λj y f B e=>by
  have:=mf (j-(b+d)) () ()
  unfold fh at this;rw[mo rfl,show b+d+(j-(b+d))=j by lia,sv j y e] at this
  exact this
 have xal:∀j x,b<=j->j<b+d->(d6 st)[j]?\x->LE O key x al:=λj x f B e=>gd N f () () e Ue
 dsimp only
 by_cases M:m=0
 .rw[mo^~~~M]
  refine FB^q _ (.refl _) rfl hf rfl (λ_ _=>rfl) ?_;refine FW (by show b+(d+v)<=(d6 st).size;lia) λi j x y f G Z H I=>?_
  by_cases c1:j<b+d
  .exact gd N f G c1 H I
  .by_cases c2:i<b+d
   .exact M2 (xal i x f c2 H)^mhi j y () () I
   .exact gd P () G () H I
 rw[tz^~~~M]
 have T:kQ O key S ((d6 st).extract (b+k) (b+d))^(d6 st).extract (b+d) (b+d+m):=by
  refine#[λx J=>?_,λx J=>?_,Ma (λi j f B h3=>N i j () B h3) (),Ma (λi j f B h3=>P i j f B ()) (),by rw[El];lia,by rw[El];lia,λy hy x J=>?_,λx J y hy=>?_]
  .obtain⟨i,_,_,_,e⟩:=ext_mem J
   exact mem x^cR^nu e
  .obtain⟨i,_,_,_,e⟩:=ext_mem J
   exact mem x^cR^nu e
  .rw[ext_get () ()] at hy
   have NW:(d6 st)[b+d]?\y:=hy;rw[XY] at NW;cases NW;let⟨i,f,B,D,e⟩:=ext_mem J;exact khi i x f B e
  .have hsz2:((d6 st).extract (b+k) (b+d)).size=d-k:=by rw[El];lia
   rw[hsz2,ext_get () ()] at J
   rw[show b+k+(d-k-1)=b+d-1 by lia,Ue] at J;cases J
   let⟨i,f,B,D,e⟩:=ext_mem hy;exact mlo i y f B e
 have szx:((d6 st).extract (b+k) (b+d)).size=d-k:=by rw[El];lia
 have szy:((d6 st).extract (b+d) (b+d+m)).size=m:=by rw[El];lia
 have fin:∀(r:Array Keyed)(l:ff),GS (h_ st pn) l->Res O key (((d6 st).extract (b+k) (b+d)).toList++((d6 st).extract (b+d) (b+d+m)).toList) r.toList->
   ls (d5 prog w) A E s (do
    modify λs=>lz s (r.toList.zipIdx.foldl (λa (p,j)=>a.setIfInBounds (b+k+j) p)^d6 s)
    return (hQ (<-get)).isNone) Q l:=by
  intro r l g u;refine Fk^adF^Fk^adw ?_;have hfl:hQ l=none:=g.failed.trans hf
  have hr:r.size=d-k+m:=by
   have:=u.1.length_eq
   rw[eF,di,di,di,szx,szy] at this;exact this
  have hb:b+k+r.size<=(d6 l).size:=by rw[g.arr];show _<=(d6 st).size;lia
  have acz:(r.toList.zipIdx.foldl (λa (x:Keyed×Nat)=>match x with| (p,j)=>a.setIfInBounds (b+k+j) p)^d6 l)=putAt (d6 l) r (b+k):=rfl
  show ls _ _ _ _ (pure (hQ l).isNone) Q^lz l^putAt (d6 l) r (b+k);rw[hfl];have ga:d6 l=d6 st:=g.arr;rw[ga] at hb ⊢;have Mg:=λi=>Ba hb i;rw[hr] at Mg
  have WV:∀j x,b+k<=j->j<b+d+m->(putAt (d6 st) r (b+k))[j]?\x->∃i,b+k<=i/\i<b+d+m/\(d6 st)[i]?\x:=λj x f B e=>by
   rw[Mg,mo ()] at e
   have hm:=u.1.mem_iff.mp^cR^nu e
   rcases cE.mp hm with z|z
   .obtain⟨i,R,a2,_,X⟩:=ext_mem z
    exact#[i,R,(),X]
   .obtain⟨i,R,a2,_,X⟩:=ext_mem z
    exact#[i,(),a2,X]
  have t:∀j,j<b+k\/b+d+m<=j->(putAt (d6 st) r (b+k))[j]? =(d6 st)[j]? :=λj h=>by rw[Mg,tz ()]
  have Rp:∀i x j y,b<=i->i<b+k->(d6 st)[i]?\x->b+k<=j->j<b+d+v->(d6 st)[j]?\y->LE O key x y:=λi x j y R a2 a3 X a5 a6=>by
   by_cases c:j<b+d
   .exact gd N R () c a3 a6
   .exact M2 (klo i x R a2 a3)^Wm j y () a5 a6
  have Ut:∀i x j y,b<=i->i<b+d+m->(d6 st)[i]?\x->b+d+m<=j->j<b+d+v->(d6 st)[j]?\y->LE O key x y:=λi x j y R a2 a3 X a5 a6=>by
   by_cases c:i<b+d
   .exact M2 (xal i x R c a3)^mhi j y X a5 a6
   .exact gd P () () a5 a3 a6
  refine FB^q _ ?_ g.kind hfl g.pend (λj Z=>t j ()) ?_
  .refine Il hb ?_
   rw[hr];refine u.1.trans ?_;rw[ext_toList,ext_toList,show b+d-(b+k)=d-k by lia,show b+d+m-(b+d)=m by lia]
   have:((d6 st).toList.drop (b+k)).take (d-k+m)=((d6 st).toList.drop (b+k)).take (d-k)++((d6 st).toList.drop (b+d)).take m:=by
    rw[qL _ (show d-k<=d-k+m by lia),List.drop_drop,show b+k+(d-k)=b+d by lia,show d-k+m-(d-k)=m by lia]
   rw[this]
  .refine FW (by show b+(d+v)<=(putAt (d6 st) r (b+k)).size;rw[Im hb];lia) λi j x y f G Z H I=>?_
   have L:(putAt (d6 st) r (b+k))[i]?\x:=H;have F:(putAt (d6 st) r (b+k))[j]?\y:=I
   by_cases ci:i<b+k
   .rw[t i^.inl ci] at L
    by_cases cj:j<b+k
    .rw[t j^.inl cj] at F
     exact gd N f G () L F
    .by_cases cj2:j<b+d+m
     .obtain⟨j',b1,b2,b3⟩:=WV j y () cj2 F
      exact Rp i x j' y f ci L b1 () b3
     .rw[t j^.inr ()] at F
      exact Rp i x j y f ci L () () F
   .by_cases ci2:i<b+d+m
    .by_cases cj2:j<b+d+m
     .rw[Mg,mo ()] at L F
      exact gL u.2 () (nu L)^nu F
     .obtain⟨i',b1,b2,b3⟩:=WV i x () ci2 L
      rw[t j^.inr ()] at F
      exact Ut i' x j y () b2 b3 () () F
    .rw[t i^.inr ()] at L
     rw[t j^.inr ()] at F
     exact gd P () G () L F
 by_cases c:d-k<=m
 .rw[mo c]
  exact Fk (F9 C o'.kind T λr l g u=>fin r l g u)
 .rw[tz c]
  exact Fk (F8 C o'.kind T λr l g u=>fin r l g u)
end
abbrev U1:=Option Unit×Unit
noncomputable def MO(a:Nat):StateT ff j9^ForInStep U1:=do
 let st <-get
 match (if (d_ st).size>1 then(d_ st)[(d_ st).size-2]? else none) with
 |some (_,_,b)=>
  if b<=a then pure (ForInStep.done (none,Unit.unit))
  else do
   let ok <-mergeAt' ((d_ st).size-2)
   if (!ok)=true then pure^ForInStep.done (some ⟨⟩,Unit.unit) else pure^ForInStep.yield (none,Unit.unit)
 |_=>pure^ForInStep.done (none,Unit.unit)
noncomputable def oJ(size lo n:Nat):StateT ff j9^ForInStep (Option Unit×Nat):=do
 let st <-get
 match (d_ st).back? with
 |some (b,a,_)=>do
  let t <-forIn [0:size] ((none,⟨⟩):U1) λ_ _=>MO^power' size (2*b+a) (2*b+a+a+n) size
  match t.1 with
  |some r=>pure^ForInStep.done (some r,lo)
  |none=>do
   modify λs=>h_ s ((d_ s).modify ((d_ s).size-1) λx=>(x.1,x.2.1,power' size (2*b+a) (2*b+a+a+n) size))
   modify λs=>h_ s ((d_ s).push (lo,n,0))
   pure^ForInStep.yield (none,lo+n)
 |_=>do
  modify λs=>h_ s ((d_ s).push (lo,n,0))
  pure^ForInStep.yield (none,lo+n)
noncomputable def FU(size lo:Nat):StateT ff j9^ForInStep (Option Unit×Nat):=
 if lo>=size then pure (ForInStep.done (none,lo))
 else do
  let x <-countRun' lo (size-lo)
  match x with
  |some a=>
   if a<minRun' size size 0 then do
    liftM^rule "list.sort.binary-insertion"
    let ok <-binarySort' lo (min (size-lo)^minRun' size size 0) a
    if (!ok)=true then pure^ForInStep.done (some ⟨⟩,lo) else oJ size lo (min (size-lo)^minRun' size size 0)
   else oJ size lo a
  |_=>pure^ForInStep.done (some ⟨⟩,lo)
noncomputable def Lg:StateT ff j9^ForInStep U1:=do
 let st <-get
 if (d_ st).size<=1 then pure (ForInStep.done (none,Unit.unit))
 else do
  let ok <-mergeAt' (if (if (d_ st).size-2>0 then(d_ st)[(d_ st).size-2-1]?.map (·.2.1) else none).any (·<((d_ st)[(d_ st).size-2+1]?.elim 0 (·.2.1))) then(d_ st).size-2-1 else(d_ st).size-2)
  if (!ok)=true then pure^ForInStep.done (some ⟨⟩,Unit.unit) else pure^ForInStep.yield (none,Unit.unit)
theorem Bn:sortRuns'=(do
 let st <-get
 let c <-forIn [0:(d6 st).size] ((none,0):Option Unit×Nat) λ_ c=>FU (d6 st).size c.2
 match c.1 with
 |some r=>pure r
 |none=>do
  let t <-forIn [0:(d6 st).size] ((none,⟨⟩):U1) λ_ _=>Lg
  match t.1 with
  |some r=>pure r
  |none=>pure ⟨⟩):=by
 rw[sortRuns'_eq];dsimp only;refine eG rfl λst=>eG (EN λ_ c=>?_) λc=>?_
 .unfold FU
  refine f9 (λ_=>rfl)^λ_=>eG rfl λx=>?_;cases x with
  |none=>rfl
  |some f=>
   dsimp only;have i:∀n:Nat,oJ (d6 st).size c.2 n=oJ (d6 st).size c.2 n:=λ_=>rfl;refine f9 (λ_=>eG rfl λ_=>eG rfl λok=>f9 (λ_=>rfl)^λ_=>?_)^λ_=>?_
   all_goals
    unfold oJ;refine eG rfl λd=>?_;cases(d_ d).back? with
    |none=>rfl
    |some e=>
     obtain⟨j,k,l⟩:=e;dsimp only;refine eG (EN λ_ c=>?_) λt=>?_
     .unfold MO
      refine eG rfl λa=>?_;cases(if (d_ a).size>1 then(d_ a)[(d_ a).size-2]? else none) with
      |none=>rfl
      |some e=>rfl
     .obtain⟨b,g⟩:=t
      cases b<;>rfl
 .obtain⟨h,m⟩:=c
  cases h with
  |some r=>rfl
  |none=>
   dsimp only;refine eG (EN λ_ c=>?_) λt=>?_
   .rfl
   .obtain⟨b,g⟩:=t
    cases b<;>rfl
section
variable {O:KeyOrd} {key:Keyed->O.α} {S:Keyed->Prop} {k0:SortKind} {prog:Program} {w:World} {A:Around} {E:Value->Shared->Prop} {s:Shared} {st bR:SortSt}
def kO(O:KeyOrd)(key:Keyed->O.α)(c:Array Keyed):Nat->List (Nat×Nat)->Nat->Prop
 |a,[],b=>a=b
 |a,e::r,b=>e.1=a/\1<=e.2/\ko O key c a (a+e.2)/\kO O key c (a+e.2) r b
theorem kO.app:∀{j g:List (Nat×Nat)}{a b:Nat},kO O key i a (j++g) b↔∃c,kO O key i a j c/\kO O key i c g b
 | [],g,a,b=>#[λh=>#[a,rfl,h],λ#[c,d,f]=>by cases d;exact f]
 |e::j,g,a,b=>by
  constructor
  .rintro⟨d,f,k,n⟩
   obtain⟨c,l,m⟩:=kO.app.mp n;exact#[c,#[d,f,k,l],m]
  .rintro⟨c,⟨d,f,k,l⟩,m⟩
   exact#[d,f,k,kO.app.mpr #[c,l,m]]
theorem kO.le:∀{l:List (Nat×Nat)}{a b:Nat},kO O key c a l b->a+l.length<=b
 | [],a,b,h=>by cases h;simp
 |e::l,a,b,#[_,f,_,d]=>by
  have:=kO.le d
  rw[dQ];lia
def Br(h:∀i,a<=i->i<b->d[i]? =c[i]?)(g:ko O key c a b):ko O key d a b:=λi j e k f=>by
 rw[jy^h i e (),jy^h j () f];exact g i j e k f
theorem kO.congr:∀{l:List (Nat×Nat)}{a b:Nat},(∀i,a<=i->i<b->d[i]? =c[i]?)->kO O key c a l b->kO O key d a l b
 | [],a,b,_,h=>h
 |e::l,a,b,f,#[m,n,o,g]=>by
  have:=kO.le g
  exact#[m,n,Br (λi j k=>f i j ()) o,kO.congr (λi j k=>f i () k) g]
noncomputable def pl(st:SortSt):List (Nat×Nat):=(pendingOf st).toList.map λe=>(e.1,e.2.1)
structure SI (O:KeyOrd) (key:Keyed->O.α) (S:Keyed->Prop) (k0:SortKind) (a0:Array Keyed) (st:SortSt) (lo:Nat):Prop where
 ok:Ok S k0 st
 failed:failedOf st=none
 perm:(arrOf st).Perm a0
 cov:kO O key (arrOf st) 0 (pl st) lo
 le:lo<=a0.size
theorem SI.size{a:Array Keyed}{lo:Nat}(h:SI O key S k0 a st lo):(arrOf st).size=a.size:=h.perm.size_eq
def IZ(C:iO O key S d (d5 prog w) A E s){n:Array Keyed}{lo i:Nat}{Q:Bool->ff->Prop}(h:SI O key S d n st lo)(L:i+1<(d_ st).size)
  (q:∀a,SI O key S d n a lo->(d_ a).size=(d_ st).size-1->(∀j,lo<=j->(d6 a)[j]? =(d6 st)[j]?)->Q true a):ls (d5 prog w) A E s (mergeAt' i) Q st:=by
 have M:(d_ st)[i]? =some (d_ st)[i]:=adq _ i ()
 have N:(d_ st)[i+1]? =some (d_ st)[i+1]:=adq _ (i+1) L
 have o:(d_ st).toList=(d_ st).toList.take i++((d_ st)[i]::(d_ st)[i+1]::(d_ st).toList.drop (i+2)):=by
  conv=>lhs;rw[<-lG i (d_ st).toList]
  congr 1
  rw[qR^by rw[di];omega,qR^by rw[di];omega]
  rfl
 generalize hx:(d_ st)[i]=x at*;generalize hy:(d_ st)[i+1]=y at*;let⟨e,f,P⟩:=x;let⟨sb,g,R⟩:=y;have k:=h.cov;unfold pl at k;refine ag λG0 d=>?_;rw[o,dk,dR,dR] at k;let⟨c,T,X⟩:=kO.app.mp k;let⟨r,t,u,v,B,F,l⟩:=X;refine d ?_;dsimp only at r t u v B F l;subst r;subst v;have Y:=l.le;have eZ:=h.size;have wZ:=h.le;refine F7 C h.ok h.failed M N t B () u F λa G Z b3 b4 m b6=>?_
 have H:(d_ a).toList=(d_ st).toList.take i++((e,f+g,P)::(d_ st).toList.drop (i+2)):=by
  rw[b4,Array.toList_eraseIdxIfInBounds,Array.toList_setIfInBounds]
  conv=>lhs;rw[o]
  have b:((d_ st).toList.take i).length=i:=by rw[ji,di];lia
  rw[List.set_append_right _ _ (),List.eraseIdx_append_of_length_le (),b,wA,show i+1-i=1 by lia]
  rfl
 refine q a #[#[λp hp=>h.ok.mem p^(MX.mp G).mem_iff.mp hp,Z.trans h.ok.kind],b3,G.trans h.perm,?_,h.le] ?_ λj hj=>m j^.inr ()
 .unfold pl
  rw[H,dk,dR];refine kO.app.mpr #[e,kO.congr (λj I J=>m j^.inl J) T,rfl,?_,b6,?_]
  .show 1<=f+g;lia
  .show kO O key (d6 a) (e+(f+g)) _ lo
   rw[<-Nat.add_assoc];exact kO.congr (λj I J=>m j^.inr I) l
 .rw[<-di,H,eF,dQ,ji,pG,di];lia
def Kp(bR st:SortSt)(lo:Nat):Prop:=∀j,lo<=j->(arrOf st)[j]? =(arrOf bR)[j]?
def OX(C:iO O key S k0 (d5 prog w) A E s){f:Array Keyed}{lo g:Nat}(h:SI O key S k0 f st lo)(d:Kp bR st lo):ls (d5 prog w) A E s (MO g) (λr a=>match r with| .done c=>c=(none,⟨⟩)/\SI O key S k0 f a lo/\Kp bR a lo| .yield c=>c=(none,⟨⟩)/\SI O key S k0 f a lo/\Kp bR a lo) st:=by
 unfold MO;refine Fk^adw ?_
 by_cases i:(d_ st).size>1
 .rw[mo i]
  cases e:(d_ st)[(d_ st).size-2]? with
  |none=>exact FB #[rfl,h,d]
  |some x=>
   let⟨o,p,l⟩:=x;dsimp only
   by_cases b:l<=g
   .rw[mo b];exact FB #[rfl,h,d]
   .rw[tz b]
    refine Fk (IZ C h (by omega) λa m _ n=>?_)
    exact FB #[rfl,m,λj k=>(n j k).trans^d j k]
 .rw[tz i]
  exact FB #[rfl,h,d]
def Sb{lo n:Nat}:pl^h_ st^(d_ st).push (lo,n,0)=pl st++ [(lo,n)]:=by
 unfold pl;show((d_ st).push (lo,n,0)).toList.map _=_;rw[BY,dk];rfl
def KP:pl^h_ st ((d_ st).modify i λx=>(x.1,x.2.1,a))=pl st:=by
 unfold pl;show((d_ st).modify i λx=>(x.1,x.2.1,a)).toList.map _=_;apply yX;intro j;rw[fm,fm,gz,gz,Array.getElem?_modify]
 by_cases e:i=j
 .rw[mo e]
  cases(d_ st)[j]? <;>rfl
 .rw[tz e]
def SI.MA{a:Array Keyed}{lo n:Nat}(h:SI O key S k0 a st lo)(b:1<=n)(c:lo+n<=a.size)(d:ko O key (d6 st) lo (lo+n)):SI O key S k0 a (h_ st^(d_ st).push (lo,n,0)) (lo+n):=by
 refine#[#[h.ok.mem,h.ok.kind],h.failed,h.perm,?_,c];rw[Sb];exact kO.app.mpr #[lo,h.cov,rfl,b,d,rfl]
theorem yR(C:iO O key S k0 (d5 prog w) A E s){b:Array Keyed}{lo n:Nat}(h:SI O key S k0 b st lo)(k:1<=n)(l:lo+n<=b.size)(m:ko O key (d6 st) lo (lo+n)):
  ls (d5 prog w) A E s (oJ b.size lo n) (λr a=>match r with| .done c=>False| .yield c=>c=(none,lo+n)/\SI O key S k0 b a (lo+n)) st:=by
 unfold oJ;refine Fk^adw ?_;cases(d_ st).back? with
 |none=>exact Fk^adF^FB #[rfl,h.MA k l m]
 |some e=>
  let⟨p,j,v⟩:=e;dsimp only;refine Fk^SC (SL (I:=λ(x:Nat)(c:U1)(a:ff)=>c=(none,⟨⟩)/\SI O key S k0 b a lo/\Kp st a lo) (Q:=λc a=>c=(none,⟨⟩)/\SI O key S k0 b a lo/\Kp st a lo) (λx c a _ _ g=>?_) (λc a g=>g) #[rfl,h,λ_ _=>rfl]) ?_
  .refine SC (OX C g.2.1 g.2.2) λr y o=>?_
   cases r with
   |done d=>exact o
   |yield d=>exact o
  .rintro c a ⟨rfl,f,q⟩
   dsimp only;refine Fk^adF^Fk^adF^FB #[rfl,?_]
   have t:SI O key S k0 b (h_ a ((d_ a).modify ((d_ a).size-1) λx=>(x.1,x.2.1,power' b.size (2*p+j) (2*p+j+j+n) b.size))) lo:=
    #[#[f.ok.mem,f.ok.kind],f.failed,f.perm,by rw[KP];exact f.cov,f.le]
   exact t.MA k l^Br (λi u B=>q i u) m
def SI.stp{b:Array Keyed}{lo c:Nat}{a:ff}(h:SI O key S k0 b st lo)(t:iP st a lo c):SI O key S k0 b a lo:=
 #[h.ok.step t,t.failed.trans h.failed,t.perm.trans h.perm,by
  have:pl a=pl st:=by unfold pl;rw[t.pend]
  rw[this];exact kO.congr (λi _ d=>t.out i^.inl d) h.cov,h.le]
theorem LA(C:iO O key S k0 (d5 prog w) A E s){a:Array Keyed}{lo:Nat}(h:SI O key S k0 a st lo):
  ls (d5 prog w) A E s (FU a.size lo) (λr b=>match r with| .done c=>c=(none,lo)/\a.size<=lo/\SI O key S k0 a b lo| .yield c=>∃n,1<=n/\c=(none,lo+n)/\SI O key S k0 a b (lo+n)) st:=by
 unfold FU;have t:=h.size;have j:=h.le
 by_cases f:lo>=a.size
 .rw[mo f];exact FB #[rfl,f,h]
 .rw[tz f]
  refine Fk (wpS_countRun C h.ok () () λm u k m1 v g=>?_)
  dsimp only;have e:=h.stp k;have l:=e.size
  by_cases i:m<minRun' a.size a.size 0
  .rw[mo i]
   refine Fk^adV^ada #[rfl,?_];refine Fk (wpS_binarySort C e.ok () () g λx p q=>?_)
   rw[tz ∅]
   refine SC (yR C (e.stp p) () () q) λr b o=>?_
   cases r with
   |done d=>exact o.elim
   |yield d=>exact#[_,(),o.1,o.2]
  .rw[tz i]
   refine SC (yR C e m1 () g) λr b o=>?_
   cases r with
   |done d=>exact o.elim
   |yield d=>exact#[_,m1,o.1,o.2]
def ite_le [Decidable c]:(if c then p-1 else p)<=p:=by split<;>omega
def Lz(C:iO O key S k0 (d5 prog w) A E s)(h:SI O key S k0 a st a.size)(g:(d_ st).size<=max 1 (a.size-x)):
  ls (d5 prog w) A E s Lg (λr b=>match r with| .done c=>c=(none,⟨⟩)/\SI O key S k0 a b a.size/\(d_ b).size<=1| .yield c=>c=(none,⟨⟩)/\SI O key S k0 a b a.size/\(d_ b).size<=max 1 (a.size-(x+1))) st:=by
 unfold Lg;refine Fk^adw ?_
 by_cases d:(d_ st).size<=1
 .rw[mo d];exact FB #[rfl,h,d]
 .rw[tz d]
  refine Fk (IZ C h (pC (Nat.succ_le_succ ite_le) ()) λb f e _=>?_)
  exact FB #[rfl,f,(by omega)]
theorem wpS_sortRuns(C:iO O key S k0 (d5 prog w) A E s){Q:Unit->ff->Prop}(o:Ok S k0 st)(t:hQ st=none)(u:d_ st= #[])(G:1<=(d6 st).size)
  (q:∀a,(d6 a).Perm^d6 st->hQ a=none->ko O key (d6 a) 0 (d6 st).size->Q ⟨⟩ a):ls (d5 prog w) A E s sortRuns' Q st:=by
 rw[Bn];refine Fk^adw ?_;have v:SI O key S k0 (d6 st) st 0:=#[o,t, .refl _,by unfold pl;rw[u];rfl,d9 _]
 refine Fk^SC (SL (I:=λ(x:Nat)(c:Option Unit×Nat)(a:ff)=>∃lo,c=(none,lo)/\min x (d6 st).size<=lo/\SI O key S k0 (d6 st) a lo) (Q:=λc a=>c=(none,(d6 st).size)/\SI O key S k0 (d6 st) a (d6 st).size) (λx c a _ _ b=>?_) (λc a b=>?_) #[0,rfl,(),v]) ?_
 .obtain⟨lo,rfl,y,f⟩:=b
  refine SC (LA C f) λr g o=>?_;cases r with
  |done d=>
   let⟨e,H,h⟩:=o
   have:=h.le
   have j:lo=(d6 st).size:=()
   rw[j] at e h;exact#[e,h]
  |yield d=>
   let⟨n,J,e,h⟩:=o;exact#[lo+n,e,(),h]
 .obtain⟨lo,rfl,y,f⟩:=b
  have:=f.le
  have j:lo=(d6 st).size:=()
  rw[j] at f ⊢;exact#[rfl,f]
 .rintro c a ⟨rfl,f⟩
  dsimp only
  have p:(d_ a).size<=(d6 st).size:=by
   have:=f.cov.le
   unfold pl at this;rw[aI,di] at this;lia
  refine Fk^SC (SL (I:=λ(x:Nat)(c:U1)(a:ff)=>c=(none,⟨⟩)/\SI O key S k0 (d6 st) a (d6 st).size/\(d_ a).size<=max 1 ((d6 st).size-x)) (Q:=λc a=>c=(none,⟨⟩)/\SI O key S k0 (d6 st) a (d6 st).size/\(d_ a).size<=1) (λx c a _ _ b=>?_) (λc a b=>?_) #[rfl,f,()]) ?_
  .refine SC (Lz C b.2.1 b.2.2) λr g o=>?_
   cases r with
   |done d=>exact o
   |yield d=>exact o
  .exact#[b.1,b.2.1,by have:=b.2.2;lia]
  .rintro c g ⟨rfl,k,l⟩
   refine FB^q g k.perm k.failed ?_;have i:=k.cov;have m:(pl g).length<=1:=by unfold pl;rw[aI,di];exact l
   match bV:pl g,m with
   | [],_=>rw[bV] at i;exact absurd i (by show ¬(0=(d6 st).size);lia)
   | [e],_=>
    rw[bV] at i;let⟨L,M,B,F⟩:=i
    have:0+e.2=(d6 st).size:=F
    rw[<-this];exact B
end
section
variable {O:KeyOrd} {key:Keyed->O.α} {S:Keyed->Prop} {k0:SortKind} {prog:Program} {w:World} {A:Around} {E:Value->Shared->Prop} {s:Shared}
def Keeps(s a:Shared):Prop:=∀b o,s.heap.get? b\o->a.heap.get? b\o
def xR(a:List Value):(a.toArray.zip a.toArray).toList=a.map λv=>(v,v):=by
 rw[Array.toList_zip];show List.zip a a=_
 induction a with
 |nil=>rfl
 |cons v r b=>rw[List.zip_cons_cons,dR,b]
def VW(h:ko O key a 0 a.size):a.toList.Pairwise^LE O key:=by
 rw[BR];intro i j c b d;rw[di] at c b;exact gd h (d9 _) (qT d) b (lV^eE _)^lV^eE _
def qj(j:s.heap.get? a\(gt "list" c.toArray n))(R:2<=c.length)(T:c.length<=1000)(ne:∀b o,s.heap.get? b\o->b≠a->True)
  {s0:c_} (k:∀b o,s0.heap.get? b\o->b≠a/\s.heap.get? b\o)
  (B:∀(E:b_->c_->Prop)(d:c_)(m:h0->c_->Prop),Keeps s0 d->m k0 d->d7 (d5 prog w) A (keyKind' c.toArray) m E d)
  (C:∀(E:b_->c_->Prop)(d:c_),Keeps s0 d->iO O key S k0 (d5 prog w) A E d) (mem:∀v∈c,S (v,v))
  (h:∀out:Array Keyed,out.toList.Perm (c.map λv=>(v,v))->out.toList.Pairwise^LE O key->P (.done^.ret .none) {s with heap:=sortedHeap s.heap a c^out.map (·.2)}):
  d7 (d5 prog w) A (Builtin.«list.sort» #[[.ref a],[]]) P E s:=by
 rw[list_sort_plain];have q:a<s.heap.objs.size:=Da j;have X:1000<sizeLine:=∅
 refine a_^listItems_at j rfl ?_;refine a_^aeE j rfl ?_ (by rw[cn];lia)^d9 _
 obtain⟨l,r⟩:∃l,(s.heap.update a (Obj.mapSeq λ_=> #[])).get? a\(gt "list" #[] l):=#[_,get?_update_seq j^λ_=> #[]];refine a_^afj r rfl ?_;refine a_^afo ?_^by show c.length<=_;lia
 refine a_^adR ?_^d9 _;refine KB ?_
 have t:(((s.heap.update a (Obj.mapSeq λ_=> #[])).push^gt "tuple" c.toArray 0).push^gt "list" #[] 0).get? a\(gt "list" #[] l):=by
  rw[adI _ _ _^by rw[aeL,ads];exact bL^xS q,adI _ _ _^by rw[ads];exact bL q]
  exact r
 show d7 (d5 prog w) A _ P E {s with heap:=((s.heap.update a (Obj.mapSeq λ_=> #[])).push^gt "tuple" c.toArray 0).push^gt "list" #[] 0}
 have u:Keeps s0 {s with heap:=((s.heap.update a (Obj.mapSeq λ_=> #[])).push^gt "tuple" c.toArray 0).push^gt "list" #[] 0}:=λb o e=>by
  let⟨F,G⟩:=k b o e;refine AC _^AC _ ?_;rw[adl _ _ _ _ F];exact G
 dsimp only;have Y:c.toArray.size=c.length:=by simp
 have x:¬c.toArray.size<2:=()
 rw[tz x,tz x];refine a_^B _ _ _ u ?_;have g:(c.toArray.zip c.toArray).size=c.length:=by rw[<-di,xR,aI]
 refine a_ (gv (wpS_sortRuns (C _ _ u) (st:=SortSt.mk' k0 (c.toArray.zip c.toArray) #[] 7 none)
   (Q:=λ_ f=>(d6 f).Perm^c.toArray.zip c.toArray/\hQ f=none/\ko O key (d6 f) 0 (c.toArray.zip c.toArray).size)
   #[λp i=>?_,rfl] rfl rfl (by show 1<=(c.toArray.zip c.toArray).size;lia) λf H I J=>#[H,I,J]) ?_ λ_ _ e=>e)
 .have y:p∈(c.toArray.zip c.toArray).toList:=i
  rw[xR] at y;let⟨v,L,rfl⟩:=cQ.mp y;exact mem v L
 rintro⟨⟨⟩,f⟩ d ⟨rfl,i,M,N⟩;dsimp only;have Z:(d6 f).size=c.length:=by rw[i.size_eq,g]
 refine a_^afj t rfl ?_;refine a_^aeE t rfl ?_ (d9 _)^by rw[Array.size_map];lia
 rw[M];simp only[aeJ,fG,PP];refine ir^h (d6 f) ?_ ?_
 .rw[<-xR];exact MX.mp i
 .refine VW ?_
  rw[i.size_eq];exact N
def IE(j:s.heap.IsList l a.toArray)(k:2<=a.length)(n:a.length<=1000)
  (p:∀(E:b_->c_->Prop)(c:c_)(g:h0->c_->Prop),Keeps s c->g k0 c->d7 (d5 prog w) A.in1.in1 (keyKind' a.toArray) g E c)
  (C:∀(E:b_->c_->Prop)(c:c_),Keeps s c->iO O key S k0 (d5 prog w) A.in1.in1 E c) (mem:∀v∈a,S (v,v))
  (h:∀out:Array Keyed,out.toList.Perm (a.map λv=>(v,v))->out.toList.Pairwise^LE O key->Q (.ref (s.heap.objs.size+1)) {s with heap:=sortedAll s.heap a^out.map (·.2)}):
  d7 (d5 prog w) A (call (.builtin "sorted") [.ref l]) Q E s:=by
 have u:1000<sizeLine:=∅
 refine adz kind_sorted afw afx (afy _) ?_;unfold Builtin.«sorted»;refine a_ (m:=checkCount "sorted" 1 1 _)^ir ?_;refine a_^afz j ?_ ()
 refine a_^adR ?_^by show a.length<=_;lia
 have d:((s.heap.push^gt "list" #[] 0).update s.heap.objs.size^Obj.mapSeq (·++a.toArray)).objs.size=s.heap.objs.size+1:=by
  rw[ads,aeL]
 have i:(((s.heap.push^gt "list" #[] 0).update s.heap.objs.size^Obj.mapSeq (·++a.toArray)).push^gt "list" a.toArray 0).get? (s.heap.objs.size+1)\(gt "list" a.toArray 0):=by
  rw[<-d];exact GM _ rfl
 have keep:∀b o,s.heap.get? b\o->(((s.heap.push^gt "list" #[] 0).update s.heap.objs.size^Obj.mapSeq (·++a.toArray)).push^gt "list" a.toArray 0).get? b\o:=λb o q=>by
  have f:b<s.heap.objs.size:=Da q;rw[adI _ _ _^by rw[d];exact bL^xS f,adl _ _ _ _^bL f,adI _ _ _^bL f]
  exact q
 show d7 _ _ _ _ _ {s with heap:=((s.heap.push^gt "list" #[] 0).update s.heap.objs.size^Obj.mapSeq (·++a.toArray)).push^gt "list" a.toArray 0}
 rw[d];refine a_^KB^acS kH #[_,i,rfl] j0 (qj (s0:=s) i k n (λ_ _ _ _=>trivial) (λb o e=>#[bL^xS^Da e,keep b o e]) p C mem λout r t=>#[_,rfl,?_])^aeq _;exact ir #[_,rfl,h out r t]
end
end TS
namespace L2
open PySem PySem.Spec PyProof.Rows
noncomputable def lexOrd:KeyOrd where
 α:=Nat×Nat
 blt:=k7
 irrefl:=λa=>by unfold k7;rw[mo rfl];simp
 trans:=λa b c d e=>Rh _ _ _ d e
 negTrans:=λa b c h=>N5 _ _ _ h
 total:=λa b d e=>Wb.nq (AG e)^AG d
noncomputable def keyOf(L:List (Addr×(Nat×Nat)))(v:Keyed):Nat×Nat:=match v.1 with
 | .ref a=>((L.find? λe=>e.1==a).map (·.2)).getD (0,0)
 |_=>(0,0)
def KJ(h:iZ k=iZ b):k=b:=by
 unfold iZ at h
 injection h with c a
 injection a with a _
 injection c with c
 injection a with a
 exact acZ () ()
def n5(c:rW H L)(d:e∈L)(v:Value):keyOf L (.ref e.1,v)=e.2:=by
 unfold keyOf;dsimp only;cases b:L.find? λx=>x.1==e.1 with
 |none=>exact absurd (Gv.mp b e d) (by simp)
 |some x=>
  have f:=aeM b;have g:=List.find?_some b;have h:x.1=e.1:=by simpa using g
  have a:=c x f;have i:=c e d;rw[h,i] at a
  injection a with a
  injection a with a
  exact(KJ a).symm
theorem kB [DecidableEq a] (f:a->b):∀(l:List b)(L:List a),l.Perm^L.map f->∃M:List a,M.Perm L/\l=M.map f
 | [],L,h=>by
  have:=h.length_eq
  rw[aI] at this
  have:L= []:=List.length_eq_zero_iff.mp this.symm
  subst this;exact#[[], .refl _,rfl]
 |x::r,L,h=>by
  let⟨e,d,rfl⟩:=cQ.mp^h.mem_iff.mp c5;have c:=List.perm_cons_erase d;have g:(f e::r).Perm (f e::(L.erase e).map f):=h.trans^c.map f;let⟨M,m1,rfl⟩:=kB f r (L.erase e)^(List.perm_cons _).mp g;exact#[e::M,(m1.cons e).trans c.symm,rfl]
section
variable {X:Cx}
theorem IF(I:Inv X d Y H s)(E:rW H L)(hz:L.length<=1000)
  (Z:∀(P:List b_->c_->Prop),(∀h' tk,s.heap.objs.size<=h'.objs.size->(∀b o,s.heap.get? b\o->h'.get? b\o)->P (L.map λe=>Value.ref e.1) {s with heap:=h',toks:=tk})->d7 (d5 X.prog X.w) X.A.in1 (collect v) P X.xe s)
  (q:∀(q:Addr)(M:List (Addr×(Nat×Nat))),H q=none->M.Perm L->(M.map (·.2)).Pairwise Wb.lexLe->Q (.ref q)^upd H q^.lst (M.map λe=>V.ref e.1)):
  d7 (d5 X.prog X.w) X.A (call (.builtin "sorted") [v]) (EP X d Y Q) X.xe s:=by
 have dG:1000<sizeLine:=∅
 refine adz kind_sorted afw afx (afy _) ?_;unfold Builtin.«sorted»;refine a_ (m:=checkCount "sorted" 1 1 _)^ir^a_ (Z _ λk S8 F RM=>a_^adR ?_^by rw[aI];lia)
 have G:(k.push^gt "list" (L.map λe=>Value.ref e.1).toArray 0).get? k.objs.size\(gt "list" (L.map λe=>Value.ref e.1).toArray 0):=GM _ rfl;have AN:∀b o,s.heap.get? b\o->b<k.objs.size:=λb o e=>Da^RM b o e
 have fin:∀(M:List (Addr×(Nat×Nat)))(out:Array b_),M.Perm L->(M.map (·.2)).Pairwise Wb.lexLe->out.toList=M.map (λe=>Value.ref e.1)->EP X d Y Q (.ref k.objs.size) {s with heap:=sortedHeap (k.push^gt "list" (L.map λe=>Value.ref e.1).toArray 0) k.objs.size (L.map λe=>Value.ref e.1) out,toks:=S8}:=λM out B ms J=>by
  let⟨c,N⟩:=sortedHeap_at (out:=out) G;refine#[.ref k.objs.size,_,I.laid (t':=S8) (λb o e=>?_) F (o:= .lst (M.map λe=>V.ref e.1)) #[by rw[aI,B.length_eq];lia,out.toList,c,?_,by rw[Array.toArray_toList];exact N],rfl,q _ M (I.hok.fresh F) B ms]
  .rw[sortedHeap_old (bL^AN b o e)^by rw[aeL];exact xS^AN b o e]
   exact AC _^RM b o e
  .rw[J,show(λe:Addr×(Nat×Nat)=>V.ref e.1)=V.ref∘(·.1) from rfl,show(λe:Addr×(Nat×Nat)=>Value.ref e.1)=Value.ref∘(·.1) from rfl,<-dB,<-dB]
   exact tW _
 by_cases h2:L.length<2
 .refine a_^KB^acS kH #[_,G,rfl] j0 (KS.yM G (by rw[aI];exact h2) #[_,rfl,ir #[_,rfl,fin L _ (.refl _) ?_ rfl]])^aeq _
  match L,h2 with
  | [],_=>exact .nil
  | [_],_=>exact Gm _ _
 .have l:∀e∈L,∀j:c_,TS.Keeps s j->∃t u,IsTup j.heap e.1 [.int (e.2.1:Nat) t, .int (e.2.2:Nat) u].toArray:=λe he j C=>by
   refine ag λG0 k0=>?_;let⟨t,u,o,J,N,n,hd⟩:=Oj I^E e he;refine k0 ?_;exact#[t,u,o,C _ _ J,N,n,hd]
  refine a_^KB^acS kH #[_,G,rfl] j0 (TS.qj (s0:=s) (O:=lexOrd) (key:=keyOf L) (S:=λp=>∃e∈L,p=(Value.ref e.1,Value.ref e.1)) (k0:=tuples' true) G (by rw[aI];lia) (by rw[aI];omega) (λ_ _ _ _=>trivial) (λb o e=>#[bL^AN b o e,AC _^RM b o e]) (λE' j P C hq=>?_) (λE' j C x y st P sx sy hk hq=>?_) (λv r=>?_) λout qf J6=>#[_,rfl,ir #[_,rfl,?_]])^aeq _
  .have go:∀(M:List (Addr×(Nat×Nat))),(∀e∈M,e∈L)->∃fs:List b_,PySem.W.KatTups j.heap (M.map λe=>Value.ref e.1) fs/\fs.length=M.length/\∀v∈fs,∃i t,v= .int i t:=by
    intro M
    induction M with
    |nil=>exact λ_=>#[[],PySem.W.KatTups.nil,rfl,λv r=>by cases r]
    |cons e M ih=>
     intro hM;refine ag λG0 k0=>?_;let⟨fs,a,b,c⟩:=ih λx hx=>hM x^dY _ hx;let⟨t,u,o,J,N,n,hd⟩:=l e (hM e c5) j C;refine k0 ?_;refine#[.int (e.2.1:Nat) t::fs,PySem.W.KatTups.cons J N hd rfl a,by simp[b],λv r=>?_]
     rcases dS.mp r with z|z
     .exact#[_,_,z]
     .exact c v z
   let⟨fs,kt,kl,ki⟩:=go L λ_ h=>h;refine PySem.W.kat_kind (T:= .type "int") kt () (λv r=>by let⟨i,t,rfl⟩:=ki v r;exact .now) ∅ ?_
   have hb:(Value.type "int" !=Value.type "tuple")=true:=∅
   rw[hb];exact hq
  .obtain⟨f,m1,rfl⟩:=sx
   let⟨g,R,rfl⟩:=sy;rw[lt'_eq];refine Fk^adw ?_;rw[hk];refine ag λG0 k0=>?_;let⟨t1,t2,k1⟩:=l f m1 j C;let⟨u1,u2,k2⟩:=l g R j C;refine k0 ?_;refine Fk^adV^adu^UM k1 k2 #[rfl,?_]
   have eb:(if ((f.2.1:Nat):Int)=((g.2.1:Nat):Int) then decide (((f.2.2:Nat):Int)<((g.2.2:Nat):Int)) else decide (((f.2.1:Nat):Int)<((g.2.1:Nat):Int)))=lexOrd.blt (keyOf L (.ref f.1, .ref f.1))^keyOf L (.ref g.1, .ref g.1):=by
    rw[n5 E m1,n5 E R];show _=k7 f.2 g.2;unfold k7;simp only[Int.ofNat_inj,Int.ofNat_lt]
   rw[eb];exact FB hq
  .obtain⟨e,he,rfl⟩:=cQ.mp r
   exact#[e,he,rfl]
  .rw[dB] at qf
   let⟨M,B,em⟩:=kB (λe:Addr×(Nat×Nat)=>((Value.ref e.1,Value.ref e.1):Keyed)) out.toList L qf;refine fin M _ B ?_^by rw[Array.toList_map,em,dB];rfl
   rw[em,kh] at J6;rw[kh];refine adf ?_ J6;intro f g m1 R hle;have Hx:k7 (keyOf L (.ref g.1, .ref g.1))^keyOf L (.ref f.1, .ref f.1)=false:=hle;rw[n5 E^B.mem_iff.mp m1,n5 E^B.mem_iff.mp R] at Hx;exact AG Hx
def Cb:CallR X (.builtin "sorted") (λc H Q=>∃(p:Addr)(L:List (Addr×(Nat×Nat))),c= [.ref p]/\aJ X.K H p (L.map λe=>V.ref e.1)/\rW H L/\L.length<=1000/\
  ∀(q:Addr)(M:List (Addr×(Nat×Nat))),H q=none->M.Perm L->(M.map (·.2)).Pairwise Wb.lexLe->Q (.ref q)^upd H q^.lst (M.map λe=>V.ref e.1)):=by
 intro d s n H c us Q I f h;rfl';let⟨p,L,rfl,i,j,k,q⟩:=h;let⟨u,rfl,l⟩:=f.one;subst l;let⟨a,r,pl,g⟩:=I.list i
 have m:a=L.map λe=>Value.ref e.1:=by
  have:=t6 (as:=L.map (·.1)) (us:=a)^by rw[dB];exact r
  rw[this,dB];rfl
 have v:1000<sizeLine:=∅
 ac_rfl;subst m;refine IF I j k (λw h=>afz pl.isList (h _ _ ?_ λb o e=>?_)^by rw[aI];lia) q
 .rw[ads,aeL];exact lM _
 .rw[adl _ _ _ _^bL^Da e];exact AC _ e
end
section
open PySem.SeqAt
open PySem.AutoSeq1 (wpAny_loadPart')
open PySem.MeetsSeq PySem.MeetsSeq2 PySem.MeetsSeq3
def HF{c:List Value}{d:List Int}(h:IntsAre c d){i:Nat}{a:Int}(e:d[i]?\a):∃t,c[i]?\(.int a t):=by
 induction h generalizing i with
 |nil=>simp at e
 |cons b t _ f=>
  cases i with
  |zero=>simp at e;subst e;exact#[t,rfl]
  |succ i=>simp at e;obtain⟨u,g⟩:=f e;exact#[u,by simpa using g]
theorem Rq(l b:Addr)(a j:Array b_)(n H:Nat)(I J:Option Addr)(L M:Array^Option b_)(m f:List Int)(E:io a.toList m)(F:io j.toList f)(k:Nat):
  ∀i:Nat,a.size-i=k->i<=a.size->i<=j.size->Meets (Builtin.«list.__eq__.loop» #[[.ref l, .ref b,kG i,kG 0],[]])
   (λA R s=>s.heap.get? l\{cls:= .type "list",dict:=I,data:= .seq a n,slots:=L}/\s.heap.get? b\{cls:= .type "list",dict:=J,data:= .seq j H,slots:=M}/\
    R (.ok^.ret^.bool^HT.lexLt (m.drop i)^f.drop i) s):=by
 have z1:a.size=m.length:=by rw[<-E.length];simp
 have z2:j.size=f.length:=by rw[<-F.length];simp
 induction k with
 |zero=>
  intro i N O P prog w A R s h;let⟨x,g,d,y,os⟩:=s;let⟨o,p,h⟩:=h
  wp_walk using gj o,gj p
  have r:a[((i:Nat):Int).toNat]? =none:=by simp;lia
  rw[r];have Q:m.drop i= []:=BU ()
  rw[Q] at h
  have S:HT.lexLt []^f.drop i=decide (a.size<j.size):=by
   by_cases c:i<f.length
   .rw[qR c,HT.zl]
    exact(FS ()).symm
   .rw[BU (),HT.AH]
    exact(FM ()).symm
  rw[S] at h
  wp_walk using gj o,gj p
  exact h
 |succ k T=>
  intro i N O P prog w A R s h;let⟨x,g,d,y,os⟩:=s;let⟨o,p,h⟩:=h
  wp_walk using gj o,gj p
  have B:i<m.length:=()
  let⟨t,X⟩:=HF E^eE B;have r:a[((i:Nat):Int).toNat]?\(.int m[i] t):=by rw[nJ,<-gz];exact X
  have Y:((i:Int)+1)=((i+1:Nat):Int):=by push_cast;rfl
  rw[r]
  by_cases c:i<f.length
  .obtain⟨u,Z⟩:=HF F^eE c
   have v:j[((i:Nat):Int).toNat]?\(.int f[i] u):=by rw[nJ,<-gz];exact Z
   rw[v];rw[qR B,qR c,HT.iK] at h;let⟨e,he,G⟩:=HT.Nv A.in1 #[x,g,d,y,os] m[i] t f[i] u;refine a_^he prog w _ _ ?_;cases e with
   |true=>
    rw[mo^G.mp rfl] at h
    wp_walk
    rw[Y]
    exact#[adv aeF _,ado entry_eq_loop (by
     rw[adb aeF _];exact T (i+1) () () () prog w A R _ #[o,p,h])]
   |false=>
    rw[tz^λq=>absurd (G.mpr q) dP] at h
    wp_walk using gj o,gj p
    rw[r,v];have C:=HT.D3 A.in1 #[x,g,d,y,os] m[i] t f[i] u prog w
    wp_walk using C
    exact h
  .have v:j[((i:Nat):Int).toNat]? =none:=by simp;lia
   rw[v];rw[qR B,BU (show f.length<=i by lia),HT.zk] at h
   wp_walk using gj o,gj p
   show R (.ok^.ret^.bool (decide (a.size<j.size))) _;rw[FM ()]
   exact h
end
section
open PySem.SeqAt
open PySem.AutoSeq1 (wpAny_loadPart')
open PySem.MeetsSeq PySem.MeetsSeq2 PySem.MeetsSeq3
def Cy(l b:Addr)(a c:Array b_)(n i:Nat)(j k:Option Addr)(m o:Array^Option b_)(e f:List Int)(r:io a.toList e)(t:io c.toList f):
  Meets (Builtin.«list.__lt__» #[[.ref l, .ref b],[]])
   (λ_ R s=>s.heap.get? l\{cls:= .type "list",dict:=j,data:= .seq a n,slots:=m}/\s.heap.get? b\{cls:= .type "list",dict:=k,data:= .seq c i,slots:=o}/\
    R (.ok^.ret^.bool^HT.lexLt e f) s):=by
 intro prog w A R s h;let⟨u,g,d,v,os⟩:=s;let⟨p,q,h⟩:=h;have x:=AutoSeq1.sub_list_list
 wp_walk using gj p,gj q
 exact#[adv aeF _,ado entry_eq_loop (by
  rw[adb aeF _];exact Rq l b a c n i j k m o e f r t _ 0 rfl (d9 _) (d9 _) prog w A R _ #[p,q,h])]
end
section
variable {prog:Program} {w:World} {A:Around} {E:Value->Shared->Prop} {s:Shared}
theorem Ia(o:s.heap.IsList l a)(p:s.heap.IsList b d)(q:io a.toList e)(r:io d.toList f)(t:A.units<cLine)
  (h:Q (HT.lexLt e f) s):d7 (d5 prog w) A (oneLt' true (.ref l)^.ref b) Q E s:=by
 rfl';obtain⟨⟨cls,v,i,x⟩,g,j,n,k⟩:=id o;obtain⟨⟨y,B,data2,C⟩,G,m,H,c⟩:=id p;ac_rfl;simp only at j k m c;subst j k m c;rw[oneLt'_eq];simp only[ac4];refine a_^wpAny_cRoomFor t ?_;refine a_^wpAny_callSpecialIfBound?_slot #[_,g,rfl] PySem.F.slot_list_lt^adE PySem.F.slot_list_lt #[_,g,rfl] PySem.F.entry_list_lt (PySem.F.args_list_lt_2 _ _) (Cy l b a d n H v B x C e f q r) #[g,G,?_];exact SZ h
end
theorem AI:∀a:List Int,HT.lexLt a a=false
 | []=>rfl
 |x::b=>by rw[HT.iK,mo rfl];exact AI b
theorem Fi:∀a b c:List Int,HT.lexLt a b=true->HT.lexLt b c=true->HT.lexLt a c=true
 | [],[],_,h,_=>by cases h
 | [],_::_,[],_,h=>by cases h
 | [],_::_,_::_,_,_=>rfl
 |_::_,[],_,h,_=>by cases h
 |_::_,_::_,[],_,h=>by cases h
 |x::i,y::j,z::k,g,e=>by
  rw[HT.iK] at*
  by_cases f:x=y
  .rw[mo f] at g
   by_cases d:y=z
   .rw[mo d] at e
    rw[mo^f.trans d];exact Fi i j k g e
   .rw[tz d] at e
    rw[tz^by rw[f];exact d,f];exact e
  .rw[tz f] at g
   have l:=IR g
   by_cases d:y=z
   .rw[tz^by rw[<-d];exact f,<-d];exact g
   .rw[tz d] at e
    have m:=IR e;rw[tz ()]
    exact FS ()
theorem uV:∀a b:List Int,HT.lexLt a b=false->HT.lexLt b a=false->a=b
 | [],[],_,_=>rfl
 | [],_::_,h,_=>by cases h
 |_::_,[],_,h=>by cases h
 |x::f,y::g,c,d=>by
  rw[HT.iK] at*
  by_cases e:x=y
  .rw[mo e] at c
   rw[mo e.symm] at d;rw[e,uV f g c d]
  .rw[tz e] at c
   rw[tz^λz=>e z.symm] at d
   have:=On c
   have:=On d
   lia
def Ri(a b c:List Int)(h:HT.lexLt a c=true):HT.lexLt a b=true\/HT.lexLt b c=true:=by
 cases e:HT.lexLt a b with
 |true=>exact .inl rfl
 |false=>
  right
  cases d:HT.lexLt b a with
  |true=>exact Fi _ _ _ d h
  |false=>rw[<-uV a b e d];exact h
noncomputable def Rn:KeyOrd where
 α:=List Int
 blt:=HT.lexLt
 irrefl:=AI
 trans:=Fi
 negTrans:=Ri
 total:=uV
noncomputable def j4(r:List Nat):List Int:=r.map λ(n:Nat)=>(n:Int)
def qk(a b:List Nat):Prop:=HT.lexLt (j4 b)^j4 a=false
def Jj(H:Hp)(L:List (Addr×List Nat)):Prop:=∀p∈L,H p.1\(.lst^(j4 p.2).map V.int)
def IM(h:(j4 a).map V.int=(j4 b).map V.int):a=b:=by
 unfold j4 at h;rw[dB,dB] at h
 induction a generalizing b with
 |nil=>cases b with
  |nil=>rfl
  |cons y b=>simp at h
 |cons x a d=>
  cases b with
  |nil=>simp at h
  |cons y b=>
   rw[dR,dR] at h
   injection h with e f
   have c:V.int (x:Int)=V.int (y:Int):=e
   injection c with c
   rw[d f,show x=y by lia]
noncomputable def tM(L:List (Addr×List Nat))(v:Keyed):List Int:=match v.1 with
 | .ref a=>((L.find? λe=>e.1==a).map λe=>j4 e.2).getD []
 |_=> []
def n4(c:Jj H L)(d:e∈L)(v:Value):tM L (.ref e.1,v)=j4 e.2:=by
 unfold tM;dsimp only;cases b:L.find? λx=>x.1==e.1 with
 |none=>exact absurd (Gv.mp b e d) (by simp)
 |some x=>
  have f:=aeM b;have g:=List.find?_some b;have h:x.1=e.1:=by simpa using g
  have a:=c x f;have i:=c e d;rw[h,i] at a
  injection a with a
  injection a with a
  show j4 x.2=j4 e.2;rw[IM a]
section
variable {X:Cx}
theorem z5(hu:X.A.units+64<cLine):CallR X (.builtin "sorted") (λY H Q=>∃(p:Addr)(L:List (Addr×List Nat)),Y= [.ref p]/\aJ X.K H p (L.map λe=>V.ref e.1)/\Jj H L/\L.length<=1000/\
  ∀(q:Addr)(M:List (Addr×List Nat)),H q=none->M.Perm L->(M.map (·.2)).Pairwise qk->Q (.ref q)^upd H q^.lst (M.map λe=>V.ref e.1)):=by
 intro Z s σ H Y us Q I rv h;refine ag λG0 k0=>?_;let⟨p,L,rfl,hp,l,hz,q⟩:=h;let⟨u,rfl,ru⟩:=rv.one;subst ru;let⟨d,r,pl,z⟩:=I.list hp;have hl:=r.length;rw[aI] at hl;have dG:1000<sizeLine:=∅
 refine k0 ?_
 have C:d=L.map λe=>Value.ref e.1:=by
  have:=t6 (as:=L.map (·.1)) (us:=d)^by rw[dB];exact r
  rw[this,dB];rfl
 by_cases h2:L.length<2
 .refine KS.CI pl.isList () ?_
  let⟨e,g⟩:=afv s.heap d d.toArray;have E:H (s.heap.objs.size+1)=none:=I.hok.fresh^lM _;refine#[.ref (s.heap.objs.size+1),_,I.laid (t':=s.toks) (λb o F=>afq F) (lM _) (o:= .lst (L.map λe=>V.ref e.1)) #[by rw[aI];lia,d,e,r,g],rfl,q _ L E (.refl _) ?_]
  match L,h2 with
  | [],_=>exact .nil
  | [_],_=>exact Gm _ _
 .have lst:∀e∈L,∀f:c_,TS.Keeps s f->∃a:Array b_,f.heap.IsList e.1 a/\io a.toList^j4 e.2:=λe g f k=>by
   refine ag λG0 k0=>?_;let⟨G,r2,p2,z⟩:=I.list^aJ.of^l e g;let⟨o,J,m,n,hd⟩:=p2.isList;refine k0 ?_;exact#[G.toArray,#[o,k _ _ J,m,n,hd],by simpa using intsAre_of r2]
  refine TS.IE (O:=Rn) (key:=tM L) (S:=λp=>∃e∈L,p=(Value.ref e.1,Value.ref e.1)) (k0:=oneType') pl.isList () () (λE' f Q' k N=>?_) (λE' f k x y st Q' sx sy hk N=>?_) (λv t=>?_) λout qf J6=>?_
  .refine PySem.W.kas_kind (T:= .type "list") () (λv t=>?_) ∅ ∅ N
   rw[C] at t;let⟨e,g,rfl⟩:=cQ.mp t;obtain⟨a,⟨o,J,m,_⟩,_⟩:=lst e g f k;rw[<-m];exact(PySem.W.Looks.ld J).andThen .now
  .obtain⟨i,m1,rfl⟩:=sx
   let⟨j,w,rfl⟩:=sy;rw[lt'_eq];refine Fk^adw ?_;rw[hk,keyLt'_oneType];refine ag λG0 k0=>?_;let⟨i1,l1,n1⟩:=lst i m1 f k;let⟨i2,l2,n2⟩:=lst j w f k;refine k0 ?_;refine Fk^adV^adu^Ia l1 l2 n1 n2 ?_ #[rfl,?_]
   .rw[Around.in1_units,Around.in1_units];lia
   .have eb:HT.lexLt (j4 i.2)^j4 j.2=Rn.blt (tM L (.ref i.1, .ref i.1))^tM L (.ref j.1, .ref j.1):=by
     rw[n4 l m1,n4 l w];rfl
    rw[eb];exact FB N
  .rw[C] at t
   let⟨e,g,rfl⟩:=cQ.mp t;exact#[e,g,rfl]
  .rw[C,dB] at qf
   let⟨M,B,em⟩:=kB (λe:Addr×List Nat=>((Value.ref e.1,Value.ref e.1):Keyed)) out.toList L qf
   have P:(out.map (·.2)).toList=M.map λe=>Value.ref e.1:=by
    rw[Array.toList_map,em,dB];rfl
   let⟨c,m⟩:=afv s.heap d^out.map (·.2);have E:H (s.heap.objs.size+1)=none:=I.hok.fresh^lM _;have J2:=B.length_eq;refine#[.ref (s.heap.objs.size+1),_,I.laid (t':=s.toks) (λb o F=>afq F) (lM _) (o:= .lst (M.map λe=>V.ref e.1)) #[by rw[aI];lia,(out.map (·.2)).toList,c,?_,by rw[Array.toArray_toList];exact m],rfl,q _ M E B ?_]
   .rw[P,show(λe:Addr×List Nat=>V.ref e.1)=V.ref∘(·.1) from rfl,show(λe:Addr×List Nat=>Value.ref e.1)=Value.ref∘(·.1) from rfl,<-dB,<-dB]
    exact tW _
   .rw[em,kh] at J6
    rw[kh];refine adf ?_ J6;intro i j m1 w R;have Hx:HT.lexLt (tM L (.ref j.1, .ref j.1))^tM L (.ref i.1, .ref i.1)=false:=R;rw[n4 l^B.mem_iff.mp m1,n4 l^B.mem_iff.mp w] at Hx;exact Hx
end
end L2
namespace PySem.SetTable
def pR(xs:Array Nat):Prop:=∀i j (a:j<xs.size),i<j->xs[i]! <xs[j]!
def Qm{a:Array Nat}{i d:Nat}(h:i<a.size):a.getD i d=a[i]! :=by
 simp[Array.getD,h]
theorem Am(R:pR h)(j:Nat):∀(f lo g:Nat),g-lo<=f->lo<=g->g<=h.size->(∀i,i<lo->h[i]! <j)->(∀i,g<=i->i<h.size->j<=h[i]!)->
  lo<=below.go h j f lo g/\below.go h j f lo g<=g/\(∀i,i<below.go h j f lo g->h[i]! <j)/\∀i,below.go h j f lo g<=i->i<h.size->j<=h[i]!
 |0,lo,g,m,n,k,a,b=>by
  have:lo=g:=()
  subst this;rw[below.go];exact#[bh _,bh _,a,b]
 |f+1,lo,g,m,n,k,a,b=>by
  rw[below.go]
  by_cases c:lo<g
  .rw[mo c]
   have l:(lo+g) / 2<h.size:=()
   dsimp only;rw[Qm l]
   by_cases d:h[(lo+g) / 2]! <j
   .rw[mo d]
    have:=Am R j f ((lo+g) / 2+1) g (by omega) () k (λi p=>by
     by_cases e:i=(lo+g) / 2
     .rw[e];exact d
     .have:=R i ((lo+g) / 2) l ();lia) b
    exact#[(),this.2.1,this.2.2]
   .rw[tz d]
    have:=Am R j f lo ((lo+g) / 2) () () () a (λi q o=>by
     by_cases e:i=(lo+g) / 2
     .rw[e];lia
     .have:=R ((lo+g) / 2) i o ();lia)
    exact#[this.1,(),this.2.2]
  .rw[tz c]
   have:lo=g:=()
   subst this;exact#[bh _,bh _,a,b]
def lX{xs:Array Nat}(R:pR xs)(j:Nat):below xs j<=xs.size/\(∀i,i<below xs j->xs[i]! <j)/\∀i,below xs j<=i->i<xs.size->j<=xs[i]! :=by
 have:=Am R j xs.size 0 xs.size () (d9 _) (bh _) (λi h=>by lia)^λi a b=>by lia
 exact#[this.2.1,this.2.2]
def below_at(R:pR a)(h:a[i]?\j):below a j=i:=by
 obtain⟨b,e⟩:=BQ.mp h;have g:a[i]! =j:=by simp[b,e]
 obtain⟨k,d,f⟩:=lX R j;apply Nat.le_antisymm
 .apply GE
  intro c
  have:=d i ()
  lia
 .apply GE
  intro c;have l:=f (below a j) (bh _) ()
  have m:=R (below a j) i b ()
  lia
def tX{t:SetTable}(R:pR t.place)(h:t.place[i]?\j):t.slot j= .live i:=by
 unfold slot;rw[below_at R h];simp[h]
def ID{t:li}(R:pR t.place)(a:t.dummies= #[])(h:∀i:Nat,t.place[i]? ≠some j):t.slot j= .empty:=by
 unfold slot
 have b:(t.place[below t.place j]? ==some j)=false:=by
  rw[acQ];exact h _
 dsimp only;rw[tz^by rw[b];exact dP]
 unfold has;rw[a];rfl
noncomputable def pH(mask:Nat)(p:Probe):Probe:=
 if p.more>0 then {p with j:=p.j+1,more:=p.more-1} else
 let (i,perturb):=leap mask p.i p.perturb
 {p with j:=i,more:=runEnd mask i-i,i,perturb}
noncomputable def bR(mask:Nat)(h:Int):Probe:={j:=bits h%(mask+1),more:=runEnd mask (bits h%(mask+1))-bits h%(mask+1),i:=bits h%(mask+1),perturb:=bits h,dummy:=none}
noncomputable def tY(mask:Nat)(h:Int):Nat->Probe
 |0=>bR mask h
 |k+1=>pH mask^tY mask h k
noncomputable def bY(mask:Nat)(h:Int)(k:Nat):Nat:=(tY mask h k).j
def Pm(h:Int):bits h<2<<<64:=by
 unfold bits;have a:0<=h%(2<<<64:Int):=aeg _ ∅
 have b:h%(2<<<64:Int)<2<<<64:=Gw _ ∅
 lia
noncomputable def fq(mask:Nat)(i p:Nat):Nat->Nat×Nat
 |0=>(i,p)
 |r+1=>leap mask (fq mask i p r).1 (fq mask i p r).2
theorem mJ(mask i p:Nat):∀r,(fq mask i p r).2=p / 32<<<r
 |0=>by simp[fq]
 |r+1=>by
  show(fq mask i p r).2 / 32=_;rw[mJ mask i p r,Nat.div_div_eq_div_mul,Nat.pow_succ]
noncomputable def US(mask:Nat)(i:Nat):Nat:=(i*5+1)%(mask+1)
noncomputable def l9(mask:Nat)(i:Nat):Nat->Nat
 |0=>i
 |r+1=>US mask^l9 mask i r
theorem nj(mask i:Nat)(a:Nat):∀b,l9 mask i (a+b)=l9 mask (l9 mask i a) b
 |0=>rfl
 |b+1=>by
  show US mask^l9 mask i (a+b)=_;rw[nj mask i a b];rfl
theorem xN{mask i p a:Nat}(h:(fq mask i p a).2=0):∀r,fq mask i p (a+r)=(l9 mask (fq mask i p a).1 r,0)
 |0=>by rw[Nat.add_zero,l9];exact acZ rfl h
 |r+1=>by
  show leap mask (fq mask i p (a+r)).1 (fq mask i p (a+r)).2=_;rw[xN h r];unfold leap;simp[l9,US]
def zc(mask:Nat):Prop:=mask=7\/mask=31\/mask=127\/mask=511
noncomputable def ZF(mask:Nat):Nat->Nat->List Nat
 |_,0=> []
 |i,n+1=>i::ZF mask (US mask i) n
theorem HU{mask s:Nat}:∀{i n:Nat},s∈ZF mask i n->∃r,r<n/\l9 mask i r=s
 |i,0,h=>by cases h
 |i,n+1,h=>by
  rcases dS.mp h with rfl|h
  .exact#[0,(),rfl]
  .obtain⟨r,a,e⟩:=HU h
   refine#[r+1,(),?_]
   have:=nj mask i 1 r
   rw[show 1+r=r+1 by lia] at this
   rw[this];exact e
def ZH{mask:Nat}(h:zc mask):(∀s,s<=mask->∃r,r<=mask/\l9 mask 0 r=s)/\l9 mask 0 (mask+1)=0:=by
 have key:∀m,(ak (m+1)).all (λs=>(ZF m 0 (m+1)).contains s)=true->∀s,s<=m->∃r,r<=m/\l9 m 0 r=s:=λm a s b=>by
  have:=adS.mp a s^i7.mpr ()
  let⟨r,c,e⟩:=HU^List.contains_iff_mem.mp this;exact#[r,(),e]
 rcases h with rfl|rfl|rfl|rfl
 .exact#[key 7^by decide+kernel,by decide+kernel]
 .exact#[key 31^by decide+kernel,by decide+kernel]
 .exact#[key 127^by decide+kernel,by decide+kernel]
 .exact#[key 511^by decide+kernel,by decide+kernel]
def cover{mask:Nat}(h:zc mask){i s:Nat}(d:i<=mask)(e:s<=mask):∃r,r<=mask/\l9 mask i r=s:=by
 obtain⟨o,per⟩:=ZH h;obtain⟨a,f,rfl⟩:=o i d;obtain⟨b,g,rfl⟩:=o s e
 by_cases c:a<=b
 .refine#[b-a,(),?_]
  rw[<-nj,show a+(b-a)=b by lia]
 .refine#[mask+1-a+b,(),?_]
  rw[<-nj,show a+(mask+1-a+b)=mask+1+b by lia,nj,per]
noncomputable def c8(mask:Nat)(p:Probe):Nat->Probe
 |0=>p
 |k+1=>pH mask^c8 mask p k
theorem mY(mask:Nat)(p:Probe)(a:Nat):∀b,c8 mask p (a+b)=c8 mask (c8 mask p a) b
 |0=>rfl
 |b+1=>by
  show pH mask^c8 mask p (a+b)=_;rw[mY mask p a b];rfl
theorem oK(mask:Nat)(h:Int):∀k,tY mask h k=c8 mask (bR mask h) k
 |0=>rfl
 |k+1=>by
  show pH mask _=pH mask _;rw[oK mask h k]
theorem wF(mask:Nat)(p:Probe):∀c,c<=p.more->c8 mask p c={p with j:=p.j+c,more:=p.more-c}
 |0,_=>rfl
 |c+1,a=>by
  show pH mask^c8 mask p c=_;rw[wF mask p c ()]
  unfold pH;rw[mo^by show p.more-c>0;lia]
  show({p with j:=p.j+c+1,more:=p.more-c-1}:Probe)={p with j:=p.j+(c+1),more:=p.more-(c+1)}
  rw[show p.more-c-1=p.more-(c+1) by lia,show p.j+c+1=p.j+(c+1) by lia]
noncomputable def VX(mask:Nat)(p:Probe)(a:Nat×Nat):Probe:={p with j:=a.1,more:=runEnd mask a.1-a.1,i:=a.1,perturb:=a.2}
def more_le(mask i:Nat):runEnd mask i-i<=9:=by
 unfold runEnd
 split<;>lia
def sZ(mask:Nat)(p:Probe):c8 mask p (p.more+1)=VX mask p^leap mask p.i p.perturb:=by
 show pH mask^c8 mask p p.more=_;rw[wF mask p p.more^bh _];unfold pH;rw[tz^by show ¬p.more-p.more>0;lia]
 rfl
theorem zU(mask:Nat)(p:Probe):∀r,∃k,k<=p.more+1+10*r/\c8 mask p k=VX mask p^fq mask p.i p.perturb (r+1)
 |0=>#[p.more+1,(),sZ mask p]
 |r+1=>by
  let⟨k,a,e⟩:=zU mask p r;have b:=more_le mask (fq mask p.i p.perturb (r+1)).1;refine#[k+((runEnd mask (fq mask p.i p.perturb (r+1)).1-(fq mask p.i p.perturb (r+1)).1)+1),(),?_]
  rw[mY,e];exact sZ mask^VX mask p^fq mask p.i p.perturb (r+1)
def Ir(mask i p:Nat)(r:Nat):(fq mask i p (r+1)).1<=mask:=by
 show(((fq mask i p r).1*5+1+(fq mask i p r).2 / 32)%(mask+1))<=mask
 have:=qQ ((fq mask i p r).1*5+1+(fq mask i p r).2 / 32) (show 0<mask+1 by lia)
 omega
def ME{mask i:Nat}(h:i<=mask):i+(runEnd mask i-i)<=mask:=by
 unfold runEnd
 split<;>lia
structure wD (mask:Nat) (p:Probe):Prop where
 le:p.j+p.more<=mask
 more:p.more<=9
 per:p.perturb<2<<<64
 dum:p.dummy=none
theorem wD.pH{mask:Nat}{p:Probe}(o:wD mask p):wD mask^pH mask p:=by
 unfold SetTable.pH
 split
 .next h=>exact#[by show p.j+1+(p.more-1)<=mask;have:=o.le;lia,by show p.more-1<=9;have:=o.more;lia,o.per,o.dum]
 .refine#[ME^by have:=qQ (p.i*5+1+p.perturb / 32) (show 0<mask+1 by lia);show(p.i*5+1+p.perturb / 32)%(mask+1)<=mask;lia,more_le _ _,?_,o.dum]
  show p.perturb / 32<2<<<64
  have:=o.per
  lia
def wD.start(mask:Nat)(h:Int):wD mask^bR mask h:=#[ME (mask:=mask) (i:=bits h%(mask+1))^by have:=qQ (bits h) (show 0<mask+1 by lia);lia,more_le _ _,Pm h,rfl]
theorem wD.c8{mask:Nat}{p:Probe}(o:wD mask p):∀k,wD mask^c8 mask p k
 |0=>o
 |k+1=>(o.c8 k).pH
def meets{mask:Nat}(f:zc mask){p:Probe}(o:wD mask p){s:Nat}(a:s<=mask):∃k,k<10*turns mask/\(c8 mask p k).j=s:=by
 have z:(fq mask p.i p.perturb 13).2=0:=by
  rw[mJ];exact Nat.div_eq_of_lt^dj o.per ∅
 let⟨r,c,e⟩:=cover f (Ir mask p.i p.perturb 12) a;let⟨k,d,b⟩:=zU mask p (12+r);refine#[k,?_,?_]
 .have:=o.more
  unfold turns;lia
 .rw[b]
  show(fq mask p.i p.perturb (12+r+1)).1=s;rw[show 12+r+1=13+r by lia,xN z]
  exact e
theorem DY(R:pR t.place)(o:t.dummies= #[])(hashAt:Nat->Int)(h:Int):∀(K d:Nat)(p:Probe),p.dummy=none->K<d->(∀i:Nat,t.place[i]? ≠some (c8 t.mask p K).j)->
  ∃e,e<=K/\(∀f,f<e->∃i:Nat,t.place[i]?\(c8 t.mask p f).j/\hashAt i≠h)/\
   (((∀i:Nat,t.place[i]? ≠some (c8 t.mask p e).j)/\probe.go t hashAt h d p\(.empty (c8 t.mask p e).j none))\/
    (∃i:Nat,t.place[i]?\(c8 t.mask p e).j/\hashAt i=h/\probe.go t hashAt h d p\(.candidate (c8 t.mask p e).j i^c8 t.mask p (e+1))))
 |K,0,p,_,v,_=>by lia
 |K,d+1,p,q,v,r=>by
  by_cases c:∃i:Nat,t.place[i]?\p.j
  .obtain⟨i,g⟩:=c
   have s:=tX R g
   by_cases l:hashAt i=h
   .refine#[0,d9 _,λf u=>by lia, .inr #[i,g,l,?_]]
    rw[probe.go,s];dsimp only;rw[mo^~~~l]
    rfl
   .cases K with
    |zero=>exact absurd g^r i
    |succ K=>
     have n:(pH t.mask p).dummy=none:=by
      unfold pH
      split<;>exact q
     have m:∀k,c8 t.mask (pH t.mask p) k=c8 t.mask p (k+1):=λk=>by
      have:=mY t.mask p 1 k
      rw[show 1+k=k+1 by lia] at this
      exact this.symm
     let⟨e,x,a,b⟩:=DY R o hashAt h K d (pH t.mask p) n ()^by rw[m];exact r
     have w:probe.go t hashAt h (d+1) p=probe.go t hashAt h d^pH t.mask p:=by
      rw[probe.go,s];dsimp only;rw[tz^~~~l]
      rfl
     refine#[e+1,(),λf u=>?_,?_]
     .cases f with
      |zero=>exact#[i,g,l]
      |succ f=>
       have:=a f ()
       rw[m] at this;exact this
     .rw[m,m] at b
      rw[w];exact b
  .have c:∀i:Nat,t.place[i]? ≠some p.j:=λi g=>c #[i,g]
   refine#[0,d9 _,λf u=>by lia, .inl #[c,?_]]
   rw[probe.go,ID R o c];dsimp only;rw[q];rfl
structure TOk (t:SetTable) (hs:List Int):Prop where
 few:zc t.mask
 dum:t.dummies= #[]
 rise:pR t.place
 size:t.place.size=hs.length
 le:∀(i j:Nat),t.place[i]?\j->j<=t.mask
 room:t.place.size<=t.mask
 path:∀(i:Nat)(h:Int),hs[i]?\h->∃k,t.place[i]?\(bY t.mask h k)/\∀k',k'<k->∃i':Nat,t.place[i']?\(bY t.mask h k')
def FP(mask:Nat)(h:Int)(k:Nat):bY mask h k<=mask:=by
 unfold bY;rw[oK]
 have:=((wD.start mask h).c8 k).le
 lia
def TOk.empty(T:TOk t a):∃s,s<=t.mask/\∀i:Nat,t.place[i]? ≠some s:=by
 apply GE;intro c
 have all:∀s∈ak (t.mask+1),s∈t.place.toList:=λs a=>by
  apply GE;intro n;refine c #[s,by have:=i7.mp a;lia,λi b=>n ?_]
  rw[<-gz] at b;exact cR b
 have:=Wb.bq adX all
 rw[pF,di] at this
 have:=T.room
 lia
theorem TOk.probe(T:TOk t g)(hashAt:Nat->Int)(h:Int)(k:Nat):
  ∃d,k<=d/\(∀e,k<=e->e<d->∃i:Nat,t.place[i]?\(bY t.mask h e)/\hashAt i≠h)/\
   (((∀i:Nat,t.place[i]? ≠some^bY t.mask h d)/\t.probe hashAt h^tY t.mask h k\(.empty (bY t.mask h d) none))\/
    (∃i:Nat,t.place[i]?\(bY t.mask h d)/\hashAt i=h/\t.probe hashAt h^tY t.mask h k\(.candidate (bY t.mask h d) i^tY t.mask h (d+1)))):=by
 let⟨s,j,l⟩:=T.empty;have o:=(wD.start t.mask h).c8 k;rw[<-oK] at o;let⟨K,m,n⟩:=meets T.few o j;have f:∀c,c8 t.mask (tY t.mask h k) c=tY t.mask h (k+c):=λc=>by rw[oK,oK,<-mY]
 let⟨d,p,a,b⟩:=DY T.rise T.dum hashAt h K (10*turns t.mask) (tY t.mask h k) o.dum m^by rw[n];exact l
 refine#[k+d,(),λe q r=>?_,?_]
 .have:=a (e-k) ()
  rw[f,show k+(e-k)=e by lia] at this
  exact this
 .rw[f,f] at b
  exact b
def mE{xs:Array a}(x:a)(e:p<=xs.size)(i:Nat):(insertAt xs p x)[i]? =if i<p then xs[i]? else if i=p then some x else xs[i-1]? :=by
 rw[<-gz,ae0];have lt:(xs.toList.take p).length=p:=by rw[ji,di];lia
 by_cases c:i<p
 .rw[mo c,i5 (),Gk c,gz]
 .rw[tz c]
  by_cases d:i=p
  .subst d
   rw[mo rfl,lF (),lt,wA];rfl
  .rw[tz d,lF (),lt]
   obtain⟨m,b⟩:∃m,i-p=m+1:=#[i-p-1,()]
   rw[b,yV,Ek,gz]
   congr 1;lia
def iS(xs:Array a)(p:Nat)(x:a):(insertAt xs p x).size=xs.size+1:=by
 rw[<-di,(afk xs p x).length_eq];simp
def kK{a:Array Nat}{i j:Nat}(h:a[i]?\j):a[i]! =j:=by
 obtain⟨b,e⟩:=BQ.mp h;simp[b,e]
def OB{xs:Array Nat}(R:pR xs){j:Nat}(h:∀i:Nat,xs[i]? ≠some j):pR^insertAt xs (below xs j) j:=by
 let⟨t,w,x⟩:=lX R j;have g:=mE (xs:=xs) j t;intro a b y A;rw[iS] at y
 have m:∀i,i<xs.size+1->∃v,(insertAt xs (below xs j) j)[i]?\v/\((i<below xs j/\xs[i]?\v)\/(i=below xs j/\v=j)\/(below xs j<i/\xs[i-1]?\v)):=λi r=>by
  rw[g i]
  by_cases c:i<below xs j
  .rw[mo c,sT ()]
   exact#[_,rfl, .inl #[c,rfl]]
  .rw[tz c]
   by_cases d:i=below xs j
   .rw[mo d];exact#[j,rfl, .inr^.inl #[d,rfl]]
   .rw[tz d,sT ()]
    exact#[_,rfl, .inr^.inr #[(),rfl]]
 let⟨G,B,C⟩:=m a ()
 let⟨H,E,s⟩:=m b ()
 rw[kK B,kK E];have lo:∀i v,i<below xs j->xs[i]?\v->v<j:=λi v n f=>by have:=w i n;rw[kK f] at this;exact this
 have r:∀i v,below xs j<=i->xs[i]?\v->j<v:=λi v n f=>by
  have:=x i n (BQ.mp f).1
  rw[kK f] at this
  have:v≠j:=λz=>h i^by rw[f,z]
  lia
 have o:∀i k v u,xs[i]?\v->xs[k]?\u->i<k->v<u:=λi k v u n f F=>by
  have:=R i k (BQ.mp f).1 F
  rw[kK n,kK f] at this;exact this
 rcases C with ⟨q,p⟩ | ⟨q,rfl⟩ | ⟨q,p⟩
 .rcases s with ⟨l,e⟩ | ⟨l,rfl⟩ | ⟨l,e⟩
  .exact o _ _ _ _ p e A
  .exact lo _ _ q p
  .have:=lo _ _ q p;have:=r (b-1) _ () e;lia
 .rcases s with ⟨l,e⟩ | ⟨l,rfl⟩ | ⟨l,e⟩
  .lia
  .lia
  .exact r (b-1) _ () e
 .rcases s with ⟨l,e⟩ | ⟨l,rfl⟩ | ⟨l,e⟩
  .lia
  .lia
  .exact o _ _ _ _ p e (by omega)
def Sg{xs:Array Nat}(R:pR xs){j s:Nat}:(∃i:Nat,(insertAt xs (below xs j) j)[i]?\s)↔s=j\/∃i:Nat,xs[i]?\s:=by
 obtain⟨a,_,_⟩:=lX R j;have g:=mE (xs:=xs) j a
 constructor
 .rintro⟨i,h⟩
  rw[g i] at h
  split at h
  .exact .inr #[i,h]
  .split at h
   .exact .inl (Do h).symm
   .exact .inr #[_,h]
 .rintro(rfl| ⟨i,h⟩)
  .exact#[below xs s,by rw[g,tz (),mo rfl]]
  .by_cases c:i<below xs j
   .exact#[i,by rw[g,mo c];exact h]
   .exact#[i+1,by rw[g,tz (),tz ()];exact h]
theorem TOk.put(T:TOk t l)(v:∀i:Nat,t.place[i]? ≠some^bY t.mask h k)(w:∀a,a<k->∃i:Nat,t.place[i]?\(bY t.mask h a))(room:t.place.size+1<=t.mask):
  (t.put^bY t.mask h k).2=below t.place^bY t.mask h k/\below t.place^bY t.mask h k<=l.length/\
  TOk (t.put^bY t.mask h k).1 (l.take^below t.place^bY t.mask h k++h::l.drop^below t.place^bY t.mask h k):=by
 let⟨x,A,B⟩:=lX T.rise^bY t.mask h k;have g:=mE (xs:=t.place) (bY t.mask h k) x;have sz:=T.size;have o:=λs=>Sg (s:=s) (j:=bY t.mask h k) T.rise;refine#[rfl,(),T.few,?_,OB T.rise v,?_,?_,?_,?_]
 .show(if has t.dummies _=true then _ else t.dummies)= #[]
  rw[T.dum];rfl
 .show(insertAt t.place _ _).size=_
  rw[iS,eF,ji,dQ,pG];lia
 .intro i j p
  have p:(insertAt t.place (below t.place^bY t.mask h k)^bY t.mask h k)[i]?\j:=p
  rcases(o j).mp #[i,p] with rfl| ⟨u,e⟩
  .exact FP _ _ _
  .exact T.le _ _ e
 .show(insertAt t.place _ _).size<=_
  rw[iS];exact room
 .intro i e b
  show ∃f,(insertAt t.place (below t.place^bY t.mask h k)^bY t.mask h k)[i]?\(bY t.mask e f)/\∀a,a<f->∃u:Nat,(insertAt t.place (below t.place^bY t.mask h k)^bY t.mask h k)[u]?\(bY t.mask e a);have lt:(l.take^below t.place^bY t.mask h k).length=below t.place^bY t.mask h k:=by rw[ji];lia
  by_cases c:i<below t.place^bY t.mask h k
  .rw[i5 (),Gk c] at b
   let⟨f,q,r⟩:=T.path i e b;exact#[f,by rw[g,mo c];exact q,λa n=>(o _).mpr^.inr^r a n]
  .rw[lF (),lt] at b
   by_cases d:i=below t.place^bY t.mask h k
   .rw[d,wA] at b
    cases(Do b);exact#[k,by rw[d,g,tz (),mo rfl],λa n=>(o _).mpr^.inr^w a n]
   .obtain⟨m,y⟩:∃m,i-below t.place^bY t.mask h k=m+1:=#[i-below t.place^bY t.mask h k-1,()]
    rw[y,yV,Ek] at b;let⟨f,q,r⟩:=T.path _ e b;refine#[f,?_,λa n=>(o _).mpr^.inr^r a n];rw[g,tz c,tz d,show i-1=below t.place^bY t.mask h k+m by lia]
    exact q
theorem yF(mask i p:Nat):∀r,fq mask i p (r+1)=fq mask (leap mask i p).1 (leap mask i p).2 r
 |0=>rfl
 |r+1=>by
  show leap mask (fq mask i p (r+1)).1 (fq mask i p (r+1)).2=_;rw[yF mask i p r];rfl
def Own(o:Array^Option Nat)(s:Nat):Prop:=(o.getD s^some 0).isNone=false
theorem Ak{mask:Nat}(e:Array^Option Nat):∀(f:Nat)(p:Probe),p.j=p.i->p.more=runEnd mask p.i-p.i->p.i<=runEnd mask p.i->(∃r,r<f/\¬Own e (fq mask p.i p.perturb r).1)->
  ∃h,layClean.free mask e f p.i p.perturb\(c8 mask p h).j/\¬Own e (c8 mask p h).j/\∀g,g<h->Own e (c8 mask p g).j
 |0,p,_,_,_,#[r,v,_]=>by lia
 |f+1,p,w,F,G,#[r,v,q]=>by
  have run:∀c,c<=p.more->(c8 mask p c).j=p.i+c:=λc t=>by rw[wF mask p c t];show p.j+c=_;rw[w]
  cases l:(ak (runEnd mask p.i+1-p.i)).find? λk=>(e.getD (p.i+k)^some 0).isNone with
  |some k=>
   let⟨x,m,bs,o,y⟩:=List.find?_eq_some_iff_append.mp l;have H:k<runEnd mask p.i+1-p.i:=i7.mp^by rw[o];simp
   have A:m.length=k:=by
    have B:m.length<(ak (runEnd mask p.i+1-p.i)).length:=by rw[o];simp
    have:=BW (n:=runEnd mask p.i+1-p.i) (i:=m.length)^~~~B
    rw[o,lF^bh _,wA] at this;exact(Do this).symm
   refine#[k,?_,?_,λg C=>?_]
   .rw[layClean.free,l,run k ()]
   .rw[run k ()]
    unfold Own;rw[x];exact Bool.noConfusion
   .rw[run g ()]
    have E:g∈m:=by
     have:=BW (n:=runEnd mask p.i+1-p.i) (i:=g) ()
     rw[o,i5 ()] at this
     exact cR this
    have:=y g E
    unfold Own;exact Bool.not_eq_true' _▸this
  |none=>
   have all:=Gv.mp l
   have own:∀c,c<=p.more->Own e (p.i+c):=λc t=>by
    have:=all c^i7.mpr ()
    unfold Own;exact sW.mpr this
   cases r with
   |zero=>exact absurd (own 0^d9 _) q
   |succ r=>
    have u:=sZ mask p
    let⟨h,a,b,c⟩:=Ak e f (VX mask p^leap mask p.i p.perturb) rfl rfl (by
     show(leap mask p.i p.perturb).1<=runEnd mask (leap mask p.i p.perturb).1;unfold runEnd;split<;>lia) #[r,(),by rw[yF] at q;exact q]
    rw[<-u] at a b c;have s:∀k,c8 mask (c8 mask p (p.more+1)) k=c8 mask p (p.more+1+k):=λk=>(mY mask p (p.more+1) k).symm;refine#[p.more+1+h,?_,?_,λg C=>?_]
    .rw[layClean.free,l,<-s,<-a,u];rfl
    .rw[<-s];exact b
    .by_cases d:g<=p.more
     .rw[run g d];exact own g d
     .have:=c (g-(p.more+1)) ()
      rw[s,show p.more+1+(g-(p.more+1))=g by lia] at this
      exact this
structure Laid (mask:Nat) (hs:List Int) (owner:Array^Option Nat) (ss:List Nat):Prop where
 size:owner.size=mask+1
 len:ss.length=hs.length
 nd:ss.Nodup
 le:∀s∈ss,s<=mask
 get:∀s,s<=mask->∀k,owner.getD s^some 0\k↔ss[k]?\s
 path:∀(k:Nat)(h:Int),hs[k]?\h->∃c,ss[k]?\(bY mask h c)/\∀c',c'<c->bY mask h c'∈ss
def Laid.own{mask:Nat}{c:List Int}{a:Array^Option Nat}{b:List Nat}(L:Laid mask c a b){s:Nat}(h:s<=mask):Own a s↔s∈b:=by
 unfold Own
 constructor
 .intro e
  cases o:a.getD s^some 0 with
  |none=>rw[o] at e;cases e
  |some k=>exact cR^(L.get s h k).mp o
 .intro e
  let⟨k,d⟩:=jh e;rw[(L.get s h k).mpr d];rfl
def Km{mask:Nat}(f:zc mask){l:List Int}{g:Array^Option Nat}{m:List Nat}(L:Laid mask l g m)(room:l.length<=mask)(h:Int):
  ∃j,layClean.free mask g (turns mask) (bits h%(mask+1))^bits h\j/\Laid mask (l++ [h]) (g.setIfInBounds j^some l.length) (m++ [j]):=by
 have o:=wD.start mask h
 obtain⟨s,C,F⟩:∃s,s<=mask/\s∉m:=by
  apply GE;intro c
  have all:∀s∈ak (mask+1),s∈m:=λs l=>by
   apply GE;intro n;exact c #[s,by have:=i7.mp l;lia,n]
  have:=Wb.bq adX all
  rw[pF,L.len] at this;lia
 have z:(fq mask (bR mask h).i (bR mask h).perturb 13).2=0:=by
  rw[mJ];exact Nat.div_eq_of_lt^dj o.per ∅
 let⟨r,N,e⟩:=cover f (Ir mask (bR mask h).i (bR mask h).perturb 12) C
 have O:(bR mask h).i<=mask:=by
  have:=qQ (bits h) (show 0<mask+1 by lia)
  show bits h%(mask+1)<=mask;lia
 let⟨p,a,b,c⟩:=Ak g (turns mask) (bR mask h) rfl rfl (by unfold runEnd;split<;>lia) #[13+r,by unfold turns;lia,by
  rw[xN z];show ¬Own g^l9 mask _ r;rw[e,L.own C];exact F]
 have E:∀k,(c8 mask (bR mask h) k).j=bY mask h k:=λk=>by unfold bY;rw[oK]
 rw[E] at a b;have u:=FP mask h p;rw[L.own u] at b;refine#[bY mask h p,a,?_,?_,?_,?_,?_,?_]
 .rw[adD];exact L.size
 .rw[eF,eF,L.len];rfl
 .exact hZ.mpr #[L.nd,by simp,λx t y G z=>b^by rw[<-fX.mp G,<-z];exact t]
 .intro x t
  rcases cE.mp t with t|t
  .exact L.le x t
  .rw[fX.mp t];exact u
 .intro x t k
  have w:(g.setIfInBounds (bY mask h p)^some l.length).getD x^some 0=if bY mask h p=x then some l.length else g.getD x^some 0:=by
   rw[Je,Je,aer]
   by_cases d:bY mask h p=x
   .rw[mo d,mo d,mo^by rw[L.size];lia];rfl
   .rw[tz d,tz d]
  rw[w]
  by_cases d:bY mask h p=x
  .rw[mo d]
   constructor
   .intro e
    cases(Do e);rw[<-L.len,lF^bh _,wA,<-d];rfl
   .intro e
    by_cases q:k<m.length
    .rw[i5 q] at e
     exact absurd (by rw[d];exact cR e) b
    .have:k<(m++ [bY mask h p]).length:=(cz.mp e).1
     rw[eF] at this
     have:k<m.length+1:=this
     rw[show k=m.length by lia,L.len]
  .rw[tz d,L.get x t k]
   constructor
   .intro e
    rw[i5 (cz.mp e).1];exact e
   .intro e
    by_cases q:k<m.length
    .rw[i5 q] at e;exact e
    .have:k<(m++ [bY mask h p]).length:=(cz.mp e).1
     rw[eF] at this
     have:k<m.length+1:=this
     rw[show k=m.length by lia,lF^bh _,wA] at e
     exact absurd (Do e) d
 .intro k H v
  by_cases q:k<l.length
  .rw[i5 q] at v
   let⟨I,w,J⟩:=L.path k H v;exact#[I,by rw[i5^by rw[L.len];exact q];exact w,λA B=>lH _^J A B]
  .have:k<(l++ [h]).length:=(cz.mp v).1
   rw[eF] at this
   have:k<l.length+1:=this
   have M:k=l.length:=()
   subst M;rw[lF^bh _,wA] at v;cases(Do v);refine#[p,by rw[<-L.len,lF^bh _,wA];rfl,λA B=>lH _ ?_]
   have:=c A B
   rw[E] at this;exact(L.own^FP _ _ _).mp this
def Kn(mask:Nat):Laid mask [] (dA (mask+1) none) [] where
 size:=by simp
 len:=rfl
 nd:=iN
 le:=λs h=>by cases h
 get:=λs a k=>by
  rw[Je,Array.getElem?_replicate,mo ()]
  simp
 path:=λk h e=>by cases e
noncomputable def Dz(mask:Nat)(acc:Option (Array^Option Nat×Nat))(h:Int):Option (Array^Option Nat×Nat):=do
 let (owner,k) <-acc
 let j <-layClean.free mask owner (turns mask) (bits h%(mask+1)) (bits h)
 pure (owner.setIfInBounds j^some k,k+1)
theorem DB{mask:Nat}(f:zc mask):∀(b done:List Int)(a:Array^Option Nat)(d:List Nat),Laid mask done a d->done.length+b.length<=mask+1->
  ∃c i,b.foldl (Dz mask)^some (a,done.length)\(c,done.length+b.length)/\Laid mask (done++b) c i
 | [],done,a,d,L,_=>#[a,d,rfl,by rw[ft];exact L]
 |h::b,done,a,d,L,l=>by
  rw[dQ] at l;let⟨j,e,m⟩:=Km f L () h
  have n:Dz mask (some (a,done.length)) h\(a.setIfInBounds j^some done.length,done.length+1):=by
   unfold Dz;simp[e]
  let⟨c,i,g,k⟩:=DB f b (done++ [h]) _ _ m^by rw[eF];show done.length+1+b.length<=_;lia
  refine#[c,i,?_,by rw[kj] at k;exact k]
  rw[afc,n];rw[eF] at g;have g:b.foldl (Dz mask)^some (a.setIfInBounds j^some done.length,done.length+1)\(c,done.length+1+b.length):=g;rw[g,dQ]
  congr 2;lia
def Fg{mask:Nat}(f:zc mask)(b:List Int)(room:b.length<=mask+1):∃a c,layClean mask b.toArray\a/\Laid mask b a c:=by
 rfl';let⟨a,c,e,L⟩:=DB f b [] _ _ (Kn mask)^~~~room
 ac_rfl;refine#[a,c,?_,by simpa using L]
 have:layClean mask b.toArray=(b.foldl (Dz mask)^some (dA (mask+1) none,0)).map (·.1):=by
  unfold layClean;rw[List.foldl_toArray];rfl
 have e:b.foldl (Dz mask)^some (dA (mask+1) none,0)\(a,[].length+b.length):=e;rw[this,e];rfl
noncomputable def fk(mask:Nat)(a:Array^Option Nat):List (Nat×Nat):=(ak (mask+1)).filterMap λj=>(a.getD j none).map (j,·)
def N7{mask:Nat}{b:List Int}{a:Array^Option Nat}{c:List Nat}(L:Laid mask b a c){j k:Nat}:(j,k)∈fk mask a↔c[k]?\j:=by
 unfold fk;rw[aew]
 have dflt:∀s,s<=mask->a.getD s none=a.getD s^some 0:=λs b=>by
  rw[Je,Je,sT^by rw[L.size];lia];rfl
 constructor
 .rintro⟨s,d,e⟩
  have d:=i7.mp d;rw[dflt s ()] at e
  cases o:a.getD s^some 0 with
  |none=>rw[o] at e;cases e
  |some f=>
   rw[o] at e;have e:=Do e;have h:s=j:=(adx e).1;have i:f=k:=(adx e).2;rw[<-h,<-i];exact(L.get s () f).mp o
 .intro e
  have g:=L.le j^cR e;refine#[j,i7.mpr (),?_]
  rw[dflt j g,(L.get j g k).mpr e];rfl
def Kq(mask:Nat)(c:Array^Option Nat):((fk mask c).map (·.1)).Pairwise (·<·):=by
 unfold fk;rw[kh,List.pairwise_filterMap];refine adM.imp λ {a b} h x d y e=>?_;cases f:c.getD a none with
 |none=>rw[f] at d;cases d
 |some i=>
  cases g:c.getD b none with
  |none=>rw[g] at e;cases e
  |some j=>
   rw[f] at d;rw[g] at e;cases(Do d);cases(Do e);exact h
theorem Rg{mask:Nat}(f:zc mask)(l:List Int)(room:l.length<=mask)(finger moves:Nat)(led plain:Bool):
  ∃t g,laid mask finger moves led plain l.toArray\(t,g)/\t.mask=mask/\t.led=led/\t.plain=plain/\t.moves=moves/\g.toList.Perm^ak l.length/\TOk t (g.toList.map λk=>l.getD k 0):=by
 rfl';let⟨d,u,e,L⟩:=Fg f l ()
 have m:=λ {j k:Nat}=>N7 (j:=j) (k:=k) L;have v:=Kq mask d;ac_rfl
 have G:((fk mask d).map (·.2)).Nodup:=by
  rw[Jf,kh];rw[kh] at v;refine v.imp_of_mem λ {a b} H q r z=>?_;let⟨I,J⟩:=a;let⟨M,bk⟩:=b;have A:=m.mp H;have N:=m.mp q;have z:J=bk:=z;rw[z,N] at A
  have:=Do A
  have r:I<M:=r;lia
 have perm:((fk mask d).map (·.2)).Perm^ak l.length:=by
  refine(Jg G adX).mpr λk=>?_;rw[cQ,i7]
  constructor
  .rintro⟨⟨j,k'⟩,h,rfl⟩
   have:=(cz.mp^m.mp h).1
   rw[L.len] at this;exact this
  .intro n
   have O:k<u.length:=by rw[L.len];exact n
   exact#[(u[k],k),m.mpr^eE O,rfl]
 have P:(fk mask d).length=l.length:=by
  have:=perm.length_eq
  simpa using this
 refine#[{mask,place:=((fk mask d).map (·.1)).toArray,dummies:= #[],finger,led,moves,plain},((fk mask d).map (·.2)).toArray,?_,rfl,rfl,rfl,rfl,by simpa using perm,?_]
 .unfold laid
  rw[e];rfl
 have w:∀(i j:Nat),((fk mask d).map (·.1)).toArray[i]?\j↔∃k,(fk mask d)[i]?\(j,k):=λi j=>by
  rw[ad4,fm];cases o:(fk mask d)[i]? with
  |none=>simp
  |some x=>
   let⟨a,b⟩:=x;simp
 have y:∀s,s∈u->∃i:Nat,((fk mask d).map (·.1)).toArray[i]?\s:=λs Q=>by
  let⟨k,n⟩:=jh Q;let⟨i,p⟩:=jh^m.mpr n;exact#[i,(w i s).mpr #[k,p]]
 refine#[f,rfl,?_,?_,?_,?_,?_]
 .intro a b q r
  have q:b<((fk mask d).map (·.1)).length:=q
  have:=BR.mp v a b () q r
  simp[show a<(fk mask d).length by simpa using(show a<((fk mask d).map (·.1)).length by lia),show b<(fk mask d).length by simpa using q]
  simpa using this
 .simp
 .intro i j h
  let⟨k,n⟩:=(w i j).mp h;exact L.le j^cR^m.mp^cR n
 .show((fk mask d).map (·.1)).toArray.size<=mask
  simp[P];exact room
 .intro i B p
  rw[fm] at p;cases o:(fk mask d)[i]? with
  |none=>
   have:(((fk mask d).map (·.2)).toArray.toList)[i]? =none:=by simp[o]
   rw[this] at p;cases p
  |some x=>
   let⟨j,k⟩:=x;have R:(((fk mask d).map (·.2)).toArray.toList)[i]?\k:=by simp[o]
   rw[R] at p;have C:=m.mp^cR o;have n:k<l.length:=by rw[<-L.len];exact(cz.mp C).1
   have S:l[k]?\B:=by
    rw[<-Do p];show _\(l.getD k 0);rw[fu,eE n];rfl
   let⟨c,E,T⟩:=L.path k B S;rw[C] at E;refine#[c,(w i _).mpr #[k,by rw[o,Do E]],λX Y=>y _^T X Y]
end PySem.SetTable
namespace PySem
open SetTable PyProof.Rows
noncomputable def iu(w:World):Bool:=w.params.followText "set-order"
structure oS (bt:Bool) (o:Obj) (es:Array (Int×Value)) (ep:Nat) (t:SetTable):Prop where
 ex:o.ExactSet
 dat:o.data= .set es ep t
 tok:TOk t (es.toList.map (·.1))
 pl:t.plain=true
 ld:t.led= !bt
 few:5*es.size<3*t.mask
theorem TOk.fits(T:TOk t a):t.fits a.length=true:=by
 simp only[SetTable.fits,SetTable.fill,T.dum,T.size,BZ,acU,decide_eq_true_eq,true_and]
 have:=T.room
 rw[T.size] at this;simpa using this
theorem oS.fits(S:oS w o a b t):t.fits a.size=true:=by
 have:=TOk.fits S.tok
 simpa using this
def Nw{mask n:Nat}(f:zc mask)(h:5*n<3*mask):n+1<=mask:=by
 rcases f with rfl|rfl|rfl|rfl<;>lia
def JR{mask n:Nat}(f:zc mask)(a:3*mask<=5*n)(b:5*(n-1)<3*mask)(c:n<=306):zc (sizeAbove^grown n-1)/\5*n<3*(sizeAbove^grown n-1)/\n<=sizeAbove^grown n-1/\sizeAbove^grown n<=512:=by
 rcases f with rfl|rfl|rfl|rfl
 .have:n=5:=()
  subst this;exact#[.inr^.inl rfl,∅,∅,∅]
 .have:n=19:=()
  subst this;exact#[.inr^.inr^.inl rfl,∅,∅,∅]
 .have:n=77:=()
  subst this;exact#[.inr^.inr^.inr rfl,∅,∅,∅]
 .lia
theorem K4{t:li}{c:Array (Int×b_)}(T:TOk t^c.toList.map (·.1))(d:t.tooFull=true)(near:5*(c.size-1)<3*t.mask)(small:c.size<=306):
  ∃f a,t.relaid (c.map (·.1))^grown c.size\(f,a)/\a.toList.Perm^ak c.size/\(a.filterMap (c[·]?)).toList.Perm c.toList/\(a.filterMap (c[·]?)).size=c.size/\
   TOk f^(a.filterMap (c[·]?)).toList.map (·.1)/\f.plain=t.plain/\f.led=t.led/\5*c.size<3*f.mask/\sizeAbove^grown c.size<=512:=by
 have sz:t.place.size=c.size:=by rw[T.size];simp
 have m:3*t.mask<=5*c.size:=by
  unfold SetTable.tooFull SetTable.fill at d;rw[T.dum,sz] at d;simp at d;lia
 rfl';let⟨o,p,q,r⟩:=JR T.few m near small;let⟨f,a,e,em,s,u,n,g,v⟩:=Rg o (c.toList.map (·.1)) (~~~q) t.finger (t.movedTo (sizeAbove^grown c.size-1)) t.led t.plain
 rw[aI,di] at g;ac_rfl
 have i:(a.filterMap (c[·]?)).toList.Perm c.toList:=by
  rw[afl];exact(g.filterMap _).trans^by rw[filterMap_getElem?_range]
 have w:(a.filterMap (c[·]?)).size=c.size:=by rw[<-di,i.length_eq,di]
 refine#[f,a,?_,g,i,w,?_,u,s,by rw[em];exact p,r]
 .unfold SetTable.relaid
  rw[show c.map (·.1)=(c.toList.map (·.1)).toArray by apply aeX.mp;simp]
  exact e
 .have:(a.filterMap (c[·]?)).toList.map (·.1)=a.toList.map λk=>(c.toList.map (·.1)).getD k 0:=by
   rw[afl];have lt:∀k∈a.toList,k<c.size:=λk h=>i7.mp^g.mem_iff.mp h;generalize a.toList=l at lt
   induction l with
   |nil=>rfl
   |cons k l x=>
    have h:=lt k (c5 ..);rw[List.filterMap_cons_some (b:=c[k])^by simp[h],dR,dR,x λj y=>lt j^dY _ y]
    simp[h]
  rw[this];exact v
end PySem
set_option maxHeartbeats 1000000
namespace PySem
open SetTable PyProof.Rows
section
variable {prog:Program} {w:World} {A:Around} {E:Value->Shared->Prop} {s:Shared}
def yK{h:Heap}(g:h.get? a\o)(e:o.data= .set f d t)(b:Array (Int×b_))(c:li):
  (h.update a^Obj.putSet b c).get? a\{o with data:= .set b (d+1) c}:=by
 have:=P3 (Obj.putSet b c) g^by rw[putSet_of b c e];rfl
 rw[putSet_of b c e] at this;exact this
def z9{Q₁:b_->c_->Prop}
  (h:Q₁ (.ref s.heap.objs.size) {s with heap:=s.heap.push {cls:= .type "set",dict:=none,data:= .set #[] 0^.fresh 0 0 (!iu w)}}):
  gl (d5 prog w) A (.call (.builtin "set.__new__") #[[.type "set"],[]]) (wants Q₁ E) s:=by
 refine ady ?_;refine a_^aeu F.newCall_set_0^ir #[adv F.plain_set_new _,ado F.entry_set_new ?_];rw[adb F.plain_set_new _];unfold Builtin.«set.__new__» Builtin.Frozenset.newClass;have a:=sub_set_self;let⟨b,g,d,c,os⟩:=s;dsimp only
 wp_walk
 refine aeY^ir ?_;dsimp only;simp only[newObj];refine a_^wpAny_alloc^ir ?_;exact ir h
theorem EA 
  (h:Q (.ref s.heap.objs.size) {s with heap:=s.heap.push {cls:= .type "set",dict:=none,data:= .set #[] 0^.fresh 0 0 (!iu w)}}):
  d7 (d5 prog w) A (call (.type "set") []) Q E s:=by
 let⟨c,u,i⟩:=F.called_set.mro;have j:=F.called_set.made;have k:=F.called_set.sub;refine ac2^ady ?_;show d7 _ _ (callAny (.type "set") _) _ _ _;refine ir #[aex _^by decide+kernel,ado F.entry_type_call ?_]
 rw[Around.under_plain (weight_type_call_type "set" [] []) rfl];have v:=F.called_set.notType;have x:=F.called_set.canCreate;have l:=F.typeCall_set_0
 repeat (any_goals (first|assumption|wp_step))
 refine acY (z9 (E:=E) (Q₁:=λobj a=>obj= .ref s.heap.objs.size/\a={s with heap:=s.heap.push {cls:= .type "set",dict:=none,data:= .set #[] 0^.fresh 0 0 (!iu w)}}) #[rfl,rfl]) λr a b=>?_
 cases r with
 |error e=>exact b
 |ok m=>
  cases m with
  |ret obj=>
   let⟨rfl,rfl⟩:=b;have n:(s.heap.push {cls:= .type "set",dict:=none,data:= .set #[] 0^.fresh 0 0 (!iu w)}).get? s.heap.objs.size\{cls:= .type "set",dict:=none,data:= .set #[] 0^.fresh 0 0 (!iu w)}:=GM _ rfl;have o:Shared.TypeIs {s with heap:=s.heap.push {cls:= .type "set",dict:=none,data:= .set #[] 0^.fresh 0 0 (!iu w)}} (.ref s.heap.objs.size) "set":=#[_,n,rfl]
   have p:=F.called_set.init.lookup;have q:=F.called_set.init.bind^.ref s.heap.objs.size
   repeat (any_goals (first|assumption|wp_step))
   refine acY (adt (R:=wants (λr g=>r= .none/\Q (.ref s.heap.objs.size) g) E) F.called_set.init.plain F.entry_set_init^check_set_init o ?_) λd g f=>?_
   .unfold Builtin.«set.__init__» noKeywords
    wp_walk
    exact#[rfl,h]
   .cases d with
    |error e=>exact f
    |ok t=>
     cases t with
     |ret r=>
      let⟨rfl,y⟩:=f
      repeat (any_goals (first|assumption|wp_step))
     |_=>exact f.elim
  |_=>exact b.elim
def oS.new(w:ei):oS (iu w) {cls:= .type "set",dict:=none,data:= .set #[] 0^.fresh 0 0 (!iu w)} #[] 0 (.fresh 0 0 (!iu w)) where
 ex:=#[rfl,rfl,rfl]
 dat:=rfl
 tok:=#[.inl rfl,rfl,λi j a=>by simp[SetTable.fresh] at a,rfl,λi j h=>by simp[SetTable.fresh] at h,by simp[SetTable.fresh],λi h e=>by simp at e]
 pl:=rfl
 ld:=rfl
 few:=by simp[SetTable.fresh]
end
section
variable {prog:Program} {w:World} {A:Around} {E:Value->Shared->Prop} {s:Shared}
def ItemsAre.ints(h:ItemsAre (intKind prog w) c b):∀v∈b,∃i t,v= .int i t:=by
 induction h with
 |nil=>intro v a;simp at a
 | @cons k f c b d _ e=>
  intro v a
  rcases dS.mp a with rfl|a
  .obtain⟨t,rfl⟩:=Value.isInt_shape d
   exact#[k,t,rfl]
  .exact e v a
def qO(f:gc (eg prog w) s.heap j a)(h:Q false s):d7 (d5 prog w) A (jp 8^.ref a) Q E s:=by
 have k:=f.typeIs;let⟨o,c,n,l,z,m,p⟩:=f;unfold jp;refine a_^aft k ?_;dsimp only;simp only[adU, ↓reduceIte];refine a_^ir ?_;simp only[aeG,fG, ↓reduceIte];refine a_^adG l m ?_;dsimp only;refine a_ ?_;rw[<-Gx];refine ae1 _ (λb r d=>r.1=none/\d=s/\∀v∈b,∃i t,v=Value.int i t) _ ?_ ?_ _ _ #[rfl,rfl,p.ints]
 .rintro v b r d ⟨e,rfl,g⟩
  let⟨i,t,rfl⟩:=g v c5;refine a_^aeu (show jp 7^.int i t=pure false from by unfold jp;rfl) ?_
  simp only[fG,PP];exact ir #[rfl,rfl,λu q=>g u^dY _ q]
 .rintro⟨x,y⟩ d ⟨e,rfl,_⟩
  simp only at e;subst e;exact ir h
def IY(j:gc (eg prog w) s.heap n b)(stored:List b_)(o:∀y∈stored,∃f a,y=Value.ref a/\gc (eg prog w) s.heap f a)(h:Q false s):
  d7 (d5 prog w) A (searchCouldBeSeen (.ref b) stored) Q E s:=by
 unfold searchCouldBeSeen;refine a_ ?_;refine ae1 _ (λd r g=>r.1=none/\g=s/\∀y∈d,∃f a,y=Value.ref a/\gc (eg prog w) s.heap f a) _ ?_ ?_ _ _ #[rfl,rfl,o]
 .rintro y d r g ⟨i,rfl,k⟩
  let⟨f,a,rfl,l⟩:=k y c5;have m:∀y∈d,∃f a,y=Value.ref a/\gc (eg prog w) g.heap f a:=λy p=>k y^dY _ p;have e:(carriedByValue^Value.ref b&&carriedByValue^Value.ref a)=false:=by simp[carriedByValue]
  dsimp only;rw[e,Bool.or_false]
  by_cases c:(b==a)=true
  .rw[mo c]
   exact ir #[rfl,rfl,m]
  .rw[tz c]
   refine a_^wpAny_eqIsQuiet_tuple j ?_;simp only[aeG,fG,PP];refine a_^wpAny_eqIsQuiet_tuple l ?_;simp only[aeG,fG,PP];refine a_^qO j ?_;simp only[fG,PP];refine a_^qO l ?_;simp only[fG,PP];exact ir #[rfl,rfl,m]
 .rintro⟨q,t⟩ g ⟨i,rfl,_⟩
  simp only at i;subst i;exact ir h
def CL(f:gc (eg prog w) s.heap j a)(h:Q true s):d7 (d5 prog w) A (hashByValue 8^.ref a) Q E s:=by
 rfl';have l:=f.typeIs;let⟨o,c,n,m,k,p,q⟩:=f;ac_rfl;unfold hashByValue;refine a_^aeh l F.slot_tuple_hash.lookup ?_;dsimp only;refine a_^adG m p ?_;refine a_ ?_;show d7 _ _ (forIn c _ _) _ _ s;rw[<-Gx];refine ae1 _ (λb r d=>r.1=none/\d=s/\∀v∈b,∃i t,v=Value.int i t) _ ?_ ?_ _ _ #[rfl,rfl,q.ints]
 .rintro v b r d ⟨e,rfl,g⟩
  let⟨i,t,rfl⟩:=g v c5;refine a_^aeu (show hashByValue 7^.int i t=pure true from by unfold hashByValue;rfl) ?_
  simp only[aeG,fG,PP];exact ir #[rfl,rfl,λu x=>g u^dY _ x]
 .rintro⟨B,C⟩ d ⟨e,rfl,_⟩
  simp only at e;subst e;exact ir h
def Pb(prog:Program)(w:World)(h:Heap)(b:Array (Int×Value)):Prop:=∀(i:Nat)(e:Int×Value),b[i]?\e->∃k a,e=(tupleKeyHash (intKind prog w) k, .ref a)/\IsTupleKey (intKind prog w) h k a
noncomputable def SR(a:Array (Int×Value))(i:Nat):Int:=(a[i]?.map (·.1)).getD 0
def Qa(h:zc m):m%2=1:=by rcases h with rfl|rfl|rfl|rfl<;>rfl
def D4{a:Array Nat}(R:pR a){i j v:Nat}(b:a[i]?\v)(c:a[j]?\v):i=j:=by
 rw[<-below_at R b,<-below_at R c]
theorem sS(hu:A.units<cLine)(ho:s.heap.get? a\o)(S:oS (iu w) o q M t)(P:Pb prog w s.heap q)(hk:gc (eg prog w) s.heap u b)
  (Us:(∃(i:Nat)(c:Addr),q[i]?\(fb (eg prog w) u, .ref c)/\gc (eg prog w) s.heap u c)->∀r:Option Nat,(B=false->r.isSome=true)->Q (.there r) s)
  (EY:(∀(i:Nat)(e:Int×b_),q[i]?\e->∀c,e.2= .ref c->¬gc (eg prog w) s.heap u c)->∀g,(∀i:Nat,t.place[i]? ≠some^bY t.mask (fb (eg prog w) u) g)->(∀j,j<g->∃i:Nat,t.place[i]?\(bY t.mask (fb (eg prog w) u) j))->
   Q (.free (bY t.mask (fb (eg prog w) u) g) false) s):
  d7 (d5 prog w) A (setSearch a (.ref b) (fb (eg prog w) u) B) Q E s:=by
 generalize hh:fb (eg prog w) u=h at*;have T:=S.tok;obtain⟨s0,hs0,N⟩:=T.empty;obtain⟨K,hK,eK⟩:=meets T.few (wD.start t.mask h) hs0;have eK:bY t.mask h K=s0:=by unfold bY;rw[oK];exact eK
 have kb:K<6000:=by
  have:10*turns t.mask<=5260:=by
   rcases T.few with e|e|e|e<;>rw[e]<;>decide
  lia
 have sz:t.place.size=q.size:=by rw[T.size];simp
 have hN:(t.mask%2==0)=false:=by rw[Qa T.few];rfl
 have O:∀(n:Nat)(k:Nat)(l:Nat)(R:Option Probe),K+1-k<=n->n<l->k<=K->R.getD^t.probeStart h=tY t.mask h k->(∀j,j<k->∃i:Nat,t.place[i]?\(bY t.mask h j))->
   (∀(i:Nat) c,q[i]?\(h, .ref c)->gc (eg prog w) s.heap u c->∀C,t.place[i]?\(bY t.mask h C)->k<=C)->
   d7 (d5 prog w) A (hE a (.ref b) h B l R) Q E s:=by
  intro n
  induction n with
  |zero=>intro k l R h1 h2 h3;lia
  |succ n ih=>
   intro k l R h1 h2 h3 h4 h5 h6;obtain⟨f,rfl⟩:∃f,l=f+1:=#[l-1,()]
   unfold hE;refine a_^ac9 ho S.dat S.fits ?_;dsimp only;unfold SetTable.gaveWay;rw[hN];simp only[fG,PP]
   have X:∀(i:Nat)(e:Int×b_),q[i]?\e->SR q i=e.1:=λi e d=>by
    show(q[i]?.map (·.1)).getD 0=e.1;rw[d];rfl
   generalize I:t.probe _ h^R.getD^t.probeStart h=r;have I:t.probe (SR q) h^tY t.mask h k=r:=by rw[<-h4];exact I
   generalize SR q=hA at X I;obtain⟨g,zi,hp,alt⟩:=TOk.probe T hA h k
   have k0K:g<=K:=by
    apply GE;intro c;obtain⟨i,d,_⟩:=hp K h3 ()
    rw[eK] at d;exact N i d
   have U6:∀j,j<g->∃i:Nat,t.place[i]?\(bY t.mask h j):=λj h'=>by
    by_cases c:j<k
    .exact h5 j c
    .obtain⟨i,d,_⟩:=hp j () h'
     exact#[i,d]
   have F:∀(i:Nat) c,q[i]?\(h, .ref c)->gc (eg prog w) s.heap u c->∀C,t.place[i]?\(bY t.mask h C)->g<=C:=λi c d hc C Y=>by
    have hkx:=h6 i c d hc C Y;apply GE;intro z;obtain⟨p,G,jL⟩:=hp C hkx ()
    have:i=p:=D4 T.rise Y G
    subst this;exact jL^X i _ d
   rcases alt with ⟨QF,M⟩ | ⟨i,d,JX,M⟩
   .rw[M] at I
    subst I;dsimp only;refine ir^EY (λi e d c hc Z=>?_) g QF U6;obtain⟨j,a',e1,gS⟩:=P i e d;subst e1;cases hc
    have:j=u:=gS.inj Z
    subst this;rw[hh] at d;obtain⟨ky,hy1,hy2⟩:=T.path i h^by rw[fm,gz,d];rfl
    have lt:=F i _ d Z ky hy1
    by_cases c1:g<ky
    .obtain⟨p,G⟩:=hy2 g c1
     exact QF p G
    .have:ky=g:=()
     subst this;exact QF i hy1
   .rw[M] at I
    subst I;dsimp only
    have Zc:i<q.size:=by
     have:=(BQ.mp d).1
     lia
    obtain⟨j,c,e1,gS⟩:=P i q[i]^sT Zc;have L:q[i]?\(fb (eg prog w) j, .ref c):=by rw[sT Zc,e1]
    have H:d7 (d5 prog w) A (match q[i]? with
      |some (fst,y)=>do
       let m <-hB [y]^eqBool y^Value.ref b
       let J <-setState a
       if (B&&m)=true then pure (SetFound.there none)
        else
         match J.2.snd.sameMemory t.moves t.mask with
         |some same=>
          match if same=true then J.2.snd.slot^bY t.mask h g else Slot.empty with
          |Slot.live p=>
           match J.fst[p]? with
           |some (fst,y')=>do
            let v <-isSame y' y
            let Bv <-pure^if v=true then some p else none
            match Bv with
             |none=>do
              rule "set.search.anew"
              hE a (Value.ref b) h B f none
             |some p=>
              if m=true then pure (SetFound.there^some p)
              else hE a (Value.ref b) h B f^some^tY t.mask h (g+1)
           |none=>do
            let Bv <-pure none
            match Bv with
             |none=>do
              rule "set.search.anew"
              hE a (Value.ref b) h B f none
             |some p=>
              if m=true then pure (SetFound.there^some p)
              else hE a (Value.ref b) h B f^some^tY t.mask h (g+1)
          |x=>do
           let Bv <-pure none
           match Bv with
            |none=>do
             rule "set.search.anew"
             hE a (Value.ref b) h B f none
            |some p=>
             if m=true then pure (SetFound.there^some p)
             else hE a (Value.ref b) h B f^some^tY t.mask h (g+1)
         |x=>jd "set.changed-during-lookup:is-the-new-block-at-the-old-address"
      |x=>jd "internal:set-entry") Q E s:=by
     rw[L];dsimp only;refine a_^KB^wpAny_eqBool_tuple hu gS hk ?_;refine a_^ac9 ho S.dat S.fits ?_;dsimp only;have sm:t.sameMemory t.moves t.mask\true:=by unfold SetTable.sameMemory;simp
     have jL:j≠u->d7 (d5 prog w) A (hE a (Value.ref b) h B f^some^tY t.mask h (g+1)) Q E s:=λne=>by
      by_cases kk:g=K
      .subst kk
       rw[eK] at d;exact absurd d^N i
      refine ih (g+1) f _ () () () rfl (λUJ h''=>?_) λp c' G nh C Y=>?_
      .by_cases z:UJ=g
       .subst z;exact#[i,d]
       .exact U6 UJ ()
      .have l1:=F p c' G nh C Y
       have:C≠g:=λz=>by
        subst z
        have:p=i:=D4 T.rise Y d
        subst this;rw[L] at G;cases G;exact ne^gS.inj nh
       lia
     have there:j=u->∀r:Option Nat,(B=false->r.isSome=true)->Q (.there r) s:=λe=>by
      subst e;rw[hh] at L;exact Us #[i,c,L,gS]
     by_cases e:j=u
     .rw[FS e,Bool.and_true]
      cases B with
      |true=>exact ir (there e none λz=>absurd z ∅)
      |false=>
       simp only[fG,PP];rw[sm];dsimp only;rw[mo rfl,tX T.rise d];dsimp only;rw[L];dsimp only;refine a_^wpAny_isSame_ref_self ?_;refine a_^ir ?_;simp only[ac4];exact ir (there e (some i) λ_=>rfl)
     .rw[FM e,aep]
      simp only[fG,PP];rw[sm];dsimp only;rw[mo rfl,tX T.rise d];dsimp only;rw[L];dsimp only;refine a_^wpAny_isSame_ref_self ?_;refine a_^ir ?_;simp only[ac4];exact jL e
    by_cases led:(!t.led)=true
    .rw[mo led]
     refine a_^IY hk _ (λy hy=>?_) ?_
     .obtain⟨e,he,rfl⟩:=cQ.mp hy
      have he:=(Array.mem_filter.mp^Array.mem_toList_iff.mp he).1;obtain⟨p,G,rfl⟩:=Array.mem_iff_getElem.mp he;obtain⟨UJ,c',e1,aa3⟩:=P p q[p]^sT G;exact#[UJ,c',by rw[e1],aa3]
     .simp only[fG,PP]
      exact H
    .rw[tz led]
     exact H
 refine O (K+1) 0 100000 none (bh _) () (d9 _) rfl (λj h'=>by lia) λi c d hc C _=>d9 _
end
section
variable {prog:Program} {w:World} {A:Around} {E:Value->Shared->Prop} {s:Shared}
def xV(b:Addr)(a:Array (Int×Value)):byScan (.ref b) a=false:=rfl
def CK(k:A.units<cLine)(g:s.heap.get? a\o)(S:oS (iu w) o f j t)(P:Pb prog w s.heap f)(l:gc (eg prog w) s.heap d b)
  (m:(∃(i:Nat)(c:Addr),f[i]?\(fb (eg prog w) d, .ref c)/\gc (eg prog w) s.heap d c)->∀r:Option Nat,r.isSome=true->Q r s)
  (n:(∀(i:Nat)(e:Int×b_),f[i]?\e->∀c,e.2= .ref c->¬gc (eg prog w) s.heap d c)->Q none s):
  d7 (d5 prog w) A (setFind a (.ref b)^fb (eg prog w) d) Q E s:=by
 unfold setFind setFindIn;refine a_^ac9 g S.dat S.fits ?_;dsimp only;rw[xV];simp only[fG,PP];refine a_ (sS k g S P l (λh r p=>?_) λh q _ _=>?_)
 .exact ir^m h r^p rfl
 .exact ir^n h
def F4(hu:A.units<cLine)(n:s.heap.get? a\o)(S:oS (iu w) o d ep t)(P:Pb prog w s.heap d)(N:gc (eg prog w) s.heap g b)(room:d.size<=305)
  (hy:(∃(i:Nat)(c:Addr),d[i]?\(fb (eg prog w) g, .ref c)/\gc (eg prog w) s.heap g c)->Q false s)
  (O:(∀(i:Nat)(e:Int×b_),d[i]?\e->∀c,e.2= .ref c->¬gc (eg prog w) s.heap g c)->∀F R X Aj t',Heap.SameBut a s.heap F->F.get? a\R->oS (iu w) R X Aj t'->X.toList.Perm (d.toList++ [(fb (eg prog w) g, .ref b)])->Q true {s with heap:=F}):
  d7 (d5 prog w) A (setAddHashed a (.ref b)^fb (eg prog w) g) Q E s:=by
 have y:=S.dat;have Y:=S.fits;have T:=S.tok;have sz:t.place.size=d.size:=by rw[T.size];simp
 unfold setAddHashed setAddHashedIn;refine KB^a_^ac9 n y Y ?_;dsimp only;rw[xV];simp only[fG,PP];refine a_ (sS hu n S P N (λh r hr=>?_) λh k G U6=>?_)
 .exact ir^hy h
 .dsimp only
  refine a_^ac9 n y Y ?_;dsimp only;let⟨p1,p2,l⟩:=TOk.put T G U6^by rw[sz];exact Nw T.few S.few
  rw[p1]
  have e:(SetTable.insertAt d (below t.place^bY t.mask (fb (eg prog w) g) k) (fb (eg prog w) g,Value.ref b)).toList.map (·.1)=(d.toList.map (·.1)).take^below t.place^bY t.mask (fb (eg prog w) g) k++fb (eg prog w) g::(d.toList.map (·.1)).drop^below t.place^bY t.mask (fb (eg prog w) g) k:=by
   rw[ae0];simp
  rw[<-e] at l;have pl:(t.put^bY t.mask (fb (eg prog w) g) k).1.plain=true:=S.pl;have ld:(t.put^bY t.mask (fb (eg prog w) g) k).1.led= !iu w:=S.ld;have mk:(t.put^bY t.mask (fb (eg prog w) g) k).1.mask=t.mask:=rfl;generalize hx:((fb (eg prog w) g,Value.ref b):Int×b_)=x at*;generalize hp:below t.place^bY t.mask (fb (eg prog w) g) k=p at*;generalize (t.put^bY t.mask (fb (eg prog w) g) k).1=m at*;rw[mo pl];refine a_^CL N ?_;simp only[ac4,Bool.not_false,Bool.true_and];have q:(SetTable.insertAt d p x).size=d.size+1:=SetTable.iS ..;have H:=afk d p x;rw[BY] at H;refine a_^wpAny_storeSet_of n y ?_^by rw[q];refine fits_of_scanBound ?_;show d.size+1<4096;lia
  have B:=yK n y (SetTable.insertAt d p x) m;have u:=Heap.SameBut.update s.heap a^Obj.putSet (SetTable.insertAt d p x) m
  have I:m.fits (SetTable.insertAt d p x).size=true:=by
   have:=TOk.fits l
   rw[aI,di] at this;exact this
  by_cases j:m.tooFull=true
  .rw[mo j]
   refine ag λG0 k=>?_;let⟨C,f,Z,z,pf,sf,T2,J,l2,f2,L⟩:=K4 l j (by rw[q,mk];have:=S.few;lia)^by rw[q];lia
   refine k ?_;rw[q] at Z f2 L;refine a_ ?_;unfold setRelay;refine a_^ac9 B rfl I ?_;dsimp only;have big:512<=sizeLine:=∅
   rw[tz (),Z]
   have v:(f.filterMap ((SetTable.insertAt d p x)[·]?)).size=d.size+1:=by rw[sf,q]
   refine a_ (aeu (a:=(f.filterMap ((SetTable.insertAt d p x)[·]?),C)) ?_ ?_)
   .show(if ((f.filterMap ((SetTable.insertAt d p x)[·]?)).size !=(SetTable.insertAt d p x).size)=true then _ else pure (f.filterMap ((SetTable.insertAt d p x)[·]?),C))=_
    rw[tz^by rw[sf];simp]
   .dsimp only
    refine wpAny_storeSet_of B rfl ?_^by rw[v];refine fits_of_scanBound ?_;show d.size+1<4096;lia
    have HA:=yK B rfl (f.filterMap ((SetTable.insertAt d p x)[·]?)) C;exact ir^O h _ _ _ _ C (u.trans^Heap.SameBut.update _ a _) HA #[S.ex,rfl,T2,by rw[J];exact pl,by rw[l2];exact ld,by rw[v];exact f2]^pf.trans H
  .rw[tz j]
   refine ir^O h _ _ _ _ m u B #[S.ex,rfl,l,pl,ld,?_] H;have M:m.tooFull=false:=by simpa using j
   unfold SetTable.tooFull SetTable.fill at M;rw[l.dum,l.size] at M;simp at M;lia
variable {a b:Addr} {o:Obj} {es:Array (Int×Value)} {ep:Nat} {t:SetTable} {ks:List Int}
open Classical in
noncomputable def qa(prog:Program)(w:World)(h:Heap)(es:Array (Int×Value))(ks:List Int):Bool:=decide (∃(i:Nat)(c:Addr),es[i]?\(tupleKeyHash (intKind prog w) ks, .ref c)/\IsTupleKey (intKind prog w) h ks c)
def Qz(h:∀(i:Nat)(e:Int×Value),es[i]?\e->∀c,e.2= .ref c->¬IsTupleKey (intKind prog w) s.heap ks c):qa prog w s.heap es ks=false:=by
 classical
 unfold qa;exact FM λ#[i,c,d,f]=>h i _ d c rfl f
def NO(h:∃(i:Nat)(c:Addr),es[i]?\(tupleKeyHash (intKind prog w) ks, .ref c)/\IsTupleKey (intKind prog w) s.heap ks c):qa prog w s.heap es ks=true:=by
 classical
 unfold qa;exact FS h
def we(k:A.units+64<cLine)(d:s.heap.get? a\o)(S:oS (iu w) o es ep t)(P:Pb prog w s.heap es)(e:gc (eg prog w) s.heap ks b)
  (h:∀f,Q (qa prog w s.heap es ks) {s with toks:=f}):d7 (d5 prog w) A (contains (.ref a)^.ref b) Q E s:=by
 have c:s.TypeIs (.ref a) "set":=#[o,d,S.ex.1];unfold contains
 try with_reducible refine KB ?_
 refine a_^aeh c F.slot_set_contains.lookup ?_;show d7 _ _ (if (some^Value.builtin "set.__contains__"==some Value.none)=true then _ else _) _ E s;rw[tz^by rw[beq_builtin_none];exact dP]
 refine a_^wpAny_callSpecialUnlessNone?_slot (name:=Str.ofString "__contains__") c F.slot_set_contains
  (acS F.slot_set_contains c entry_set_contains ?_^F.args_set_contains_2 _ _)
 unfold Builtin.«frozenset.__contains__» Builtin.Frozenset.oneOther;simp only[List.isEmpty_nil,bind_assoc];unfold Builtin.Frozenset.addrOf Builtin.Frozenset.withSetAsKey setContains;refine a_^ir ?_
 try dsimp only
 refine a_^ir ?_
 try dsimp only
 refine a_^wpAny_tryCatch ?_;refine KB ?_;refine a_^wpAny_pyHash_tuple ?_ e ?_
 .show A.units+1<cLine;lia
 refine a_ (CK (s:={s with toks:=s.toks+(ks.length+1)}) ?_ d S P e (λg r i=>?_) λj=>?_)
 .show A.units+1<cLine;lia
 .refine ir ?_
  show d7 _ _ (ret^Value.bool r.isSome) _ _ _;rw[i]
  have:=h (s.toks+(ks.length+1))
  rw[NO g] at this;exact ir #[_,rfl,SZ this]
 .refine ir ?_
  have:=h (s.toks+(ks.length+1))
  rw[Qz j] at this;exact ir #[_,rfl,SZ this]
end
end PySem
set_option maxHeartbeats 4000000
namespace L2
open PySem PySem.Spec PyProof.Rows
inductive FV where
 |int (i:Int) |bl (b:Bool)
inductive XD where
 |vJ (b:Bool) (ps:List (Int×Int)) |fo (ks:List (Int×Int)) (vs:List FV)
inductive D where
 |aQ|bl (b:Bool) |int (i:Int) |str (x:ee) |lst (l:List D) |tup (l:List D) |pN (ns:List Int) |rng (lo hi:Int) |obj (a:Addr) |gf (w:List^List Nat) |set (b:Bool) (l:List Int) |x (k:XD) |err (C:Addr) (ks:List ee) (l:List D)
structure DC where
 K:ad
 C:Addr
def aB(n:Nat):D:= .int n
noncomputable def aD(r:List Nat):D:= .lst^r.map aB
noncomputable def ba(w:List^List Nat):D:= .lst^w.map aD
def aai(a:Array (Int×Value))(b:List Int):Prop:=(∀e∈a.toList,∃k t,e=(hashInt k,Value.int k t))/\b.Nodup/\∃c,IntsAre (a.toList.map (·.2)) c/\c.Perm b
def Wi(b:Bool)(a:Addr)(d:List Int)(h:Heap):Prop:=∃o c e t,h.get? a\o/\oS b o c e t/\aai c d
noncomputable def bP(p:Int×Int):Int:=reduceHash^Builtin.Tuple.tupleHashOf [hashInt p.1,hashInt p.2]
inductive gQ (H:Hp):List (Int×Addr)->List (Int×Int)->Prop
 |nil:gQ H [] []
 |cons {a:Addr} {p:Int×Int} {es:List (Int×Addr)} {ps:List (Int×Int)}:H a\(.tup [.int p.1, .int p.2])->gQ H es ps->gQ H ((bP p,a)::es) (p::ps)
theorem gQ.mono{H a:Hp}(s:aC H a):∀{b:List (Int×Addr)}{c:List (Int×Int)},gQ H b c->gQ a b c
 |_,_, .nil=> .nil
 |_,_, .cons h t=> .cons (s _ _ h)^t.mono s
def gk(b:Bool)(a:Addr)(d:List (Int×Addr))(h:Heap):Prop:=∃o c f t,h.get? a\o/\oS b o c f t/\c.toList.Perm (d.map λe=>(e.1,Value.ref e.2))
def M4:FV->Value->Prop
 | .int i,v=>∃t,v= .int i t
 | .bl b,v=>v= .bool b
inductive MZ:List DictEntry->List (Int×Addr)->List FV->Prop
 |nil:MZ [] [] []
 |cons {e:DictEntry} {l:List DictEntry} {h:Int} {a:Addr} {v:FV} {es:List (Int×Addr)} {vs:List FV}:e.hash=h->e.key= .ref a->M4 v e.val->MZ l es vs->MZ (e::l) ((h,a)::es) (v::vs)
def bZ(a:Addr)(c:List (Int×Addr))(d:List FV)(h:Heap):Prop:=(a==sysModules)=false/\∃o b e,h.get? a\o/\o.ExactDict/\o.data= .dict b e/\MZ b.toList c d
def Nb(H:Hp)(a:Addr)(d:Heap->Prop):XD->Prop
 | .vJ b e=>e.Nodup/\∃c,d=gk b a c/\gQ H c e
 | .fo ks f=>ks.Nodup/\∃c,d=bZ a c f/\gQ H c ks
theorem Nb.mono{H c:Hp}(s:aC H c):∀{k:XD},Nb H a d k->Nb c a d k
 | .vJ _ _,#[n,b,e,p]=>#[n,b,e,p.mono s]
 | .fo _ _,#[n,b,e,p]=>#[n,b,e,p.mono s]
def Jh(H:Hp)(d:Option Addr)(a:List ee)(b:List V):Prop:=(d=none/\a= []/\b= [])\/∃c,d\c/\H c\(B7 c^a.zip b)/\a.length=b.length
theorem Jh.mono{H d:Hp}(s:aC H d)(h:Jh H e f g):Jh d e f g:=h.imp id λ#[i,a,b,c]=>#[i,a,s _ _ b,c]
mutual
inductive Dv (Z:DC) (H:Hp):V->D->Prop
 |aQ:Dv Z H .aQ .aQ
 |bl (b:Bool):Dv Z H (.bl b)^.bl b
 |int (i:Int):Dv Z H (.int i)^.int i
 |str (x:ee) (h:PyData.strOk x=true):Dv Z H (.str x)^.str x
 |lst {a:Addr} {xs:List V} {ds:List D}:H a\(.lst xs)->DvAll Z H xs ds->Dv Z H (.ref a)^.lst ds
 |tup {a:Addr} {xs:List V} {ds:List D}:H a\(.tup xs)->DvAll Z H xs ds->Dv Z H (.ref a)^.tup ds
 |obj (a:Addr):Dv Z H (.ref a)^.obj a
 |rng {a:Addr} {lo hi:Int}:H a\(.rng lo hi)->Dv Z H (.ref a)^.rng lo hi
 |pN {a:Addr} {ns:List Int}:aJ Z.K H a^ns.map V.int->ns.length<=63->Dv Z H (.ref a)^.pN ns
 |gf {p dx R:Addr} {w:List^List Nat}:H p\(.ins Z.C dx [("rows", .ref R)])->Dv Z H (.ref R)^ba w->Wb.Good w->1<=w.length->w.length<=14->Dv Z H (.ref p)^.gf w
 |set {a:Addr} {b:Bool} {ns:List Int}:H a\(.ext^Wi b a ns)->Dv Z H (.ref a)^.set b ns
 |x {a:Addr} {φ:Heap->Prop} {k:XD}:H a\(.ext φ)->Nb H a φ k->Dv Z H (.ref a)^.x k
 |err {a C:Addr} {od:Option Addr} {ks:List ee} {xs:List V} {ds:List D}:H a\(lO C a od)->Jh H od ks xs->DvAll Z H xs ds->Dv Z H (.ref a)^.err C ks ds
inductive DvAll (Z:DC) (H:Hp):List V->List D->Prop
 |nil:DvAll Z H [] []
 |cons {v:V} {vs:List V} {d:D} {ds:List D}:Dv Z H v d->DvAll Z H vs ds->DvAll Z H (v::vs) (d::ds)
end
def aJ.mono{K:ad}{H b:Hp}(s:aC H b)(h:aJ K H a xs):aJ K b a xs:=by
 rcases h with (h| ⟨o,h⟩) |h
 .exact .inl^.inl^s _ _ h
 .exact .inl^.inr #[o,s _ _ h]
 .exact .inr h
section
variable {Z:DC} {H H' G G':Hp}
def Dv.ofInt(h:Dv Z H v^.int i):v= .int i:=by cases h;rfl
def Dv.DS(h:Dv Z H v^.bl b):v= .bl b:=by cases h;rfl
def Dv.k8(h:Dv Z H v^.lst b):∃a xs,v= .ref a/\H a\(.lst xs)/\DvAll Z H xs b:=by cases h with|lst h e=>exact#[_,_,rfl,h,e]
def Dv.xy{v:V}{ds:List D}(h:Dv Z H v^.tup ds):∃a xs,v= .ref a/\H a\(.tup xs)/\DvAll Z H xs ds:=by cases h with|tup h e=>exact#[_,_,rfl,h,e]
def Dv.Fx{v:V}{ns:List Int}(h:Dv Z H v^.pN ns):∃a,v= .ref a/\aJ Z.K H a^ns.map V.int/\ns.length<=63:=by cases h with|pN h z=>exact#[_,rfl,h,z]
def DvAll.Zy(h:DvAll Z H a []):a= []:=by cases h;rfl
def DvAll.Fw(h:DvAll Z H c (d::e)):∃v f,c=v::f/\Dv Z H v d/\DvAll Z H f e:=by cases h with|cons a b=>exact#[_,_,rfl,a,b]
def DvAll.ofOne(h:DvAll Z H c [d]):∃v,c= [v]/\Dv Z H v d:=by
 obtain⟨v,e,rfl,a,b⟩:=h.Fw;rw[b.Zy];exact#[v,rfl,a]
def DvAll.xB(h:DvAll Z H f [d,e]):∃v u,f= [v,u]/\Dv Z H v d/\Dv Z H u e:=by
 obtain⟨v,g,rfl,a,b⟩:=h.Fw;obtain⟨u,rfl,c⟩:=b.ofOne;exact#[v,u,rfl,a,c]
theorem Dv.mono(s:aC H H'){v:V}(h:Dv Z H v d):Dv Z H' v d:=
 Dv.rec (motive_1:=λv d _=>Dv Z H' v d) (motive_2:=λc e _=>DvAll Z H' c e) .aQ .bl .int .str (λh _ a=> .lst (s _ _ h) a) (λh _ a=> .tup (s _ _ h) a) .obj (λh=> .rng^s _ _ h) (λh z=> .pN (h.mono s) z) (λh _ g a b r=> .gf (s _ _ h) r g a b) (λh=> .set^s _ _ h) (λh k=> .x (s _ _ h)^k.mono s) (λh k _ a=> .err (s _ _ h) (k.mono s) a) .nil (λ_ _ a b=> .cons a b) h
def DvAll.ind{p:List V->List D->Prop}(n:p [] [])(c:∀{v:V}{e:List V}{d:D}{f:List D},Dv Z H v d->DvAll Z H e f->p e f->p (v::e) (d::f)){f:List D}(h:DvAll Z H e f):p e f:=
 DvAll.rec (motive_1:=λ_ _ _=>True) (motive_2:=λe f _=>p e f) trivial (λ_=>trivial) (λ_=>trivial) (λ_ _=>trivial) (λ_ _ _=>trivial) (λ_ _ _=>trivial) (λ_=>trivial) (λ_=>trivial) (λ_ _=>trivial) (λ_ _ _ _ _ _=>trivial) (λ_=>trivial) (λ_ _=>trivial) (λ_ _ _ _=>trivial) n (λa b _ q=>c a b q) h
theorem DvAll.mono(s:aC H H')(h:DvAll Z H c d):DvAll Z H' c d:=h.ind .nil λa _ b=> .cons (a.mono s) b
theorem DvAll.length{a:List V}(h:DvAll Z H a b):a.length=b.length:=h.ind (p:=λa b=>a.length=b.length) rfl λ_ _ e=>KF (·+1) e
def DvAll.get{i:Nat}{d:D}(h:DvAll Z H b c)(e:c[i]?\d):∃v,b[i]?\v/\Dv Z H v d:=by
 revert i
 refine h.ind (p:=λb c=>∀{i:Nat},c[i]?\d->∃v,b[i]?\v/\Dv Z H v d) (λe=>by cases e) λa _ f i e=>?_
 cases i with
 |zero=>cases e;exact#[_,rfl,a]
 |succ i=>exact f e
def DvAll.Qn{b:List V}{c:List D}{i:Nat}{v:V}(h:DvAll Z H b c)(e:b[i]?\v):∃d,c[i]?\d/\Dv Z H v d:=by
 revert i
 refine h.ind (p:=λb c=>∀{i:Nat},b[i]?\v->∃d,c[i]?\d/\Dv Z H v d) (λe=>by cases e) λa _ f i e=>?_
 cases i with
 |zero=>cases e;exact#[_,rfl,a]
 |succ i=>exact f e
def DvAll.append(h:DvAll Z H c d)(k:DvAll Z H e f):DvAll Z H (c++e) (d++f):=h.ind (p:=λc d=>DvAll Z H (c++e) (d++f)) k λa _ b=> .cons a b
theorem DvAll.take:∀{b:List V}{c:List D}(n:Nat),DvAll Z H b c->DvAll Z H (b.take n)^c.take n
 |_,_,0,_=>DvAll.nil
 |_,_,n+1, .nil=>DvAll.nil
 |_,_,n+1, .cons a d=>DvAll.cons a^d.take n
theorem DvAll.drop:∀{b:List V}{c:List D}(n:Nat),DvAll Z H b c->DvAll Z H (b.drop n)^c.drop n
 |_,_,0,h=>h
 |_,_,n+1, .nil=>by simpa using DvAll.nil
 |_,_,n+1, .cons a d=>by simpa using d.drop n
theorem DvAll.set{v:V}(h:Dv Z H v d):∀{c:List V}{e:List D}(n:Nat),DvAll Z H c e->DvAll Z H (c.set n v)^e.set n d
 |_,_,_, .nil=> .nil
 |_,_,0, .cons a b=> .cons h b
 |_,_,n+1, .cons a b=> .cons a^DvAll.set h n b
theorem DvAll.ints:∀(a:List Int),DvAll Z H (a.map V.int)^a.map D.int
 | []=> .nil
 |n::a=> .cons (.int n)^DvAll.ints a
def DvAll.snoc{e:List D}(a:DvAll Z H c e)(b:Dv Z H v d):DvAll Z H (c++ [v]) (e++ [d]):=a.append^.cons b .nil
structure Ext (G H G' H':Hp):Prop where
 gg:aC G G'
 sub:aC G' H'
 hh:aC H H'
 off:∀b,H b≠none->G b=none->G' b=none
theorem Ext.refl(s:aC G H):Ext G H G H:=#[.refl _,s, .refl _,λ_ _ h=>h]
theorem Ext.trans{c d f i:Hp}(a:Ext G H c d)(b:Ext c d f i):Ext G H f i:=
 #[a.gg.trans b.gg,b.sub,a.hh.trans b.hh,λx h g=>b.off x (λz=>by
  cases e:H x with
  |none=>exact h e
  |some o=>rw[a.hh x o e] at z;cases z)^a.off x h g]
def Ext.new{o:HO}(s:aC G H)(h:H p=none):Ext G H (upd G p o)^upd H p o:=by
 have a:G p=none:=s.free h;refine#[ay a o,λb u e=>?_,ay h o,λb c a=>?_]
 .by_cases z:b=p
  .subst z;rw[ae] at e ⊢;exact e
  .rw[af z] at e ⊢;exact s b u e
 .have:b≠p:=λz=>c^by rw[z];exact h
  rw[af this];exact a
end
abbrev DN:=List^Option D
structure dZ (Z:DC) (G:Hp) (σ:St) (ρ:DN):Prop where
 len:ρ.length=σ.length
 at_:∀(i:Nat)(d:D),ρ[i]?\(some d)->∃v,σ[i]?\(some v)/\Dv Z G v d
section
variable {Z:DC} {G G' H H':Hp} {σ:St} {ρ:DN}
theorem dZ.mono(e:dZ Z G σ ρ)(s:aC G G'):dZ Z G' σ ρ:=#[e.len,λi d h=>let #[v,a,b]:=e.at_ i d h;#[v,a,b.mono s]]
theorem dZ.set{v:V}(e:dZ Z G σ ρ)(h:Dv Z G v d):dZ Z G (σ.set i^some v)^ρ.set i^some d:=by
 refine#[by rw[i6,i6];exact e.len,λj c a=>?_]
 by_cases z:i=j
 .subst z
  by_cases b:i<ρ.length
  .rw[nI b] at a
   cases Do a;exact#[v,by rw[nI (e.len▸b)],h]
  .rw[Ej^lI b] at a
   rw[gP^lI b] at a;cases a
 .rw[pB z] at a ⊢
  exact e.at_ j c a
end
abbrev aY:=DN->(D->Prop)->Prop
abbrev eB:=DN->(Bool->Prop)->Prop
abbrev ij:=DN->(List D->Prop)->Prop
abbrev jm:=D->D->(D->Prop)->Prop
abbrev eO:=D->DN->(DN->Prop)->Prop
abbrev jW:=DN->(List D->Prop)->Prop
def eL(Z:DC)(t:aY):TE:=λe H Q=>∃(G:Hp)(a:DN)(P:D->Prop),aC G H/\dZ Z G e a/\t a P/\∀d,P d->∀v b c,Ext G H b c->Dv Z b v d->Q v c
def liftT(Z:DC)(t:eB):TT:=λd H Q=>∃(G:Hp)(a:DN)(P:Bool->Prop),aC G H/\dZ Z G d a/\t a P/\∀b,P b->∀e c,Ext G H e c->Q b c
def Fj(Z:DC)(t:ij):TA:=λf H Q=>∃(G:Hp)(a:DN)(P:List D->Prop),aC G H/\dZ Z G f a/\t a P/\∀b,P b->∀c d e,Ext G H d e->DvAll Z d c b->Q c e
def cx(Z:DC)(r:jm):R2:=λx y H Q=>∃(G:Hp)(a b:D)(P:D->Prop),aC G H/\Dv Z G x a/\Dv Z G y b/\r a b P/\∀d,P d->∀v c e,Ext G H c e->Dv Z c v d->Q v e
def mF(Z:DC)(r:List D->(D->Prop)->Prop):List V->Hp->VK->Prop:=λe H Q=>∃(G:Hp)(a:List D)(P:D->Prop),aC G H/\DvAll Z G e a/\r a P/\∀d,P d->∀v b c,Ext G H b c->Dv Z b v d->Q v c
abbrev eS:=List D->(D->Prop)->Prop
def aS(Z:DC)(a:eS):Sp:=λb H Q _=>mF Z a b H Q
def DE(Z:DC)(X:Cx)(e:e_)(t:aY):Prop:=PE X e^eL Z t
def DT(Z:DC)(X:Cx)(e:e_)(t:eB):Prop:=PT X e^liftT Z t
def DA(Z:DC)(X:Cx)(a:List e_)(t:ij):Prop:=PA X a^Fj Z t
def PE.imp{X:Cx}{t t':TE}(h:PE X e t)(f:∀b H Q,t' b H Q->t b H Q):PE X e t':=λa s b H Q I q=>h a s b H Q I^f _ _ _ q
def PT.imp{X:Cx}{t t':TT}(h:PT X e t)(f:∀b H Q,t' b H Q->t b H Q):PT X e t':=λa s b H Q I q=>h a s b H Q I^f _ _ _ q
def PW.imp{X:Cx}{t t':TT}(h:PW X e t)(f:∀b H Q,t' b H Q->t b H Q):PW X e t':=λc a s b H Q I q=>h c a s b H Q I^f _ _ _ q
def PA.imp{X:Cx}{d:List e_}{t t':TA}(h:PA X d t)(f:∀b H Q,t' b H Q->t b H Q):PA X d t':=λc a s b H Q I q=>h c a s b H Q I^f _ _ _ q
def OpR.imp{X:Cx}{f:b_->b_->j9 b_}{r d:R2}(h:OpR X f r)(g:∀x y H Q,d x y H Q->r x y H Q):OpR X f d:=λc s e H x y v u Q I a b q=>h c s e H x y v u Q I a b^g _ _ _ _ q
def CallR.imp{X:Cx}{f:b_}{r d:List V->Hp->VK->Prop}(h:CallR X f r)(g:∀c H Q,d c H Q->r c H Q):CallR X f d:=λb s e H c i Q I a q=>h b s e H c i Q I a^g _ _ _ q
def Ae(i:Nat):aY:=λa P=>∃d,a[i]?\(some d)/\P d
def dC(d:D):aY:=λ_ P=>P d
section
variable {Z:DC} {X:Cx}
def U(i:Nat)(f:X.N[i]?\x<|>zn)(b:ze X.env.scope x<|>xz)(c:(x==("__debug__":ee))=false<|>zm)
  (g:(x==("__classdict__":ee))=false<|>zm):DE Z X (.Name x a)^Ae i:=by
 refine(My f b c g).imp λk H Q h=>?_;rfl';obtain⟨G,m,P,s,e,⟨d,c,p⟩,q⟩:=h;ac_rfl;exact let #[v,b,dv]:=e.at_ i d c;#[v,b,q d p v G H (.refl s) dv]
def aR{i j pos}:DE Z X (.Constant (.int i) j pos)^dC^.int i:=by
 refine aZ.imp λc H Q a=>?_;rfl';let⟨G,f,P,s,e,p,q⟩:=a;ac_rfl;exact q _ p _ G H (.refl s)^.int i
def tq{b j pos}:DE Z X (.Constant (.bool b) j pos)^dC^.bl b:=by
 refine ZK.imp λd H Q a=>?_;rfl';let⟨G,g,P,s,e,p,q⟩:=a;ac_rfl;exact q _ p _ G H (.refl s)^.bl b
def fw{j pos}:DE Z X (.Constant .none j pos)^dC .aQ:=by
 refine Vk.imp λc H Q a=>?_;rfl';let⟨G,f,P,s,e,p,q⟩:=a;ac_rfl;exact q _ p _ G H (.refl s) .aQ
def cK{x j pos}(h:PyData.strOk x=true<|>xh):DE Z X (.Constant (.str x) j pos)^dC^.str x:=by
 refine rH.imp λc H Q a=>?_;rfl';let⟨G,f,P,s,e,p,q⟩:=a;ac_rfl;exact q _ p _ G H (.refl s)^.str x h
def wI(d:Gl X x)(b:∃c,X.mg x\(.int i c))(f:(x==("__debug__":ee))=false<|>zm):DE Z X (.Name x a)^dC^.int i:=by
 let⟨c,b⟩:=b;exact(A6 d b (v:= .int i) #[c,rfl] f).imp λg H Q #[G,h,P,s,e,p,q]=>q _ p _ G H (.refl s)^.int i
def Ni(r:jm)(d e:aY):aY:=λc P=>d c λa=>e c λb=>r a b P
variable {a b c:Expr} {ta tb tc:aY} {pos:Pos}
def AJ:∀f H Q,eL Z (Ni r ta tb) f H Q->F3 (cx Z r) (eL Z ta) (eL Z tb) f H Q:=by
 intro f H Q k;rfl';obtain⟨G,j,P,s,e,h,q⟩:=k;ac_rfl;refine#[G,j,_,s,e,h,λa m v n F g dv=>?_];refine#[n,j,_,g.sub,e.mono g.gg,m,λb o u p I i t=>?_];exact#[p,a,b,P,i.sub,dv.mono i.gg,t,o,λd w x y A B C=>q d w x y A ((g.trans i).trans B) C]
def f6(e:OpR X (ii d)^cx Z r)(f:DE Z X a ta)(g:DE Z X b tb):DE Z X (.BinOp a d b pos)^Ni r ta tb:=(cW e f g).imp AJ
def qW(e:OpR X (fz d)^cx Z r)(f:DE Z X a ta)(g:DE Z X b tb)(h:iq d b=false):DE Z X (.Compare a [d] [b] pos)^Ni r ta tb:=(Ih e f g h).imp AJ
def JB(t:aY):eB:=λe P=>t e λd=>∃k,d= .bl k/\P k
def DL:∀d H Q,liftT Z (JB t) d H Q->Lk (eL Z t) d H Q:=by
 intro d H Q f;rfl';obtain⟨G,i,P,s,e,h,q⟩:=f;ac_rfl;exists G,i,_,s,e,h;rintro _ ⟨k,rfl,p⟩ v j l m dv;cases dv.DS;exact#[k,rfl,q k p j l m]
def bA(f:OpR X (fz d)^cx Z r)(g:DE Z X a ta)(i:DE Z X b tb)(j:iq d b=false):DT Z X (.Compare a [d] [b] pos)^JB^Ni r ta tb:=
 (jO f g i j).imp λe H Q h=>by
  obtain h:=DL e H Q h;exact AJ e H _ h
def ED(r e:jm)(f g tc:aY):aY:=λd P=>f d λx=>g d λy=>r x y λz=>∃k,z= .bl k/\(if k=true then tc d λh=>e y h P else P^.bl false)
def AK:∀f H Q,eL Z (ED r o ta tb tc) f H Q->F0 (cx Z r) (cx Z o) (eL Z ta) (eL Z tb) (eL Z tc) f H Q:=by
 intro f H Q y;rfl';let⟨G,g,P,s,e,h,q⟩:=y;ac_rfl;refine#[G,g,_,s,e,h,λa B v C H1 i dv=>?_];refine#[C,g,_,i.sub,e.mono i.gg,B,λb E u F H2 j p=>?_];exists F,a,b,_,j.sub,dv.mono j.gg,p,E;rintro _ ⟨k,rfl,t⟩ v' w I l J;cases J.DS;exists k,rfl;have x:=(i.trans j).trans l;cases k with
 |false=>exact cL^q _ t _ w I x^.bl false
 |true=>
  refine b9 #[w,g,_,l.sub,e.mono x.gg,t,λc L w' M H4 m N=>?_];exact#[M,b,c,P,m.sub,(p.mono l.gg).mono m.gg,N,L,λd O n R S T Y=>q d O n R S ((x.trans m).trans T) Y]
def Nj(g:OpR X (fz d)^cx Z r)(h:OpR X (fz e)^cx Z f)(i:DE Z X a ta)(j:DE Z X b tb)(k:DE Z X c tc)
  (l:lastMarks [d,e] [b,c]=false<|>ww):DE Z X (.Compare a [d,e] [b,c] pos)^ED r f ta tb tc:=(Ol g h i j k l).imp AK
def C4(i:OpR X (fz d)^cx Z r)(j:OpR X (fz e)^cx Z f)(k:DE Z X a ta)(l:DE Z X b tb)(m:DE Z X c tc)
  (n:lastMarks [d,e] [b,c]=false<|>ww):DT Z X (.Compare a [d,e] [b,c] pos)^JB^ED r f ta tb tc:=
 (Oz i j k l m n).imp λg H Q h=>by
  obtain h:=DL g H Q h;exact AK g H _ h
noncomputable def Ef:D->Bool
 | .aQ=>false
 | .bl b=>b
 | .int i=>i !=0
 | .str x=>x.length !=0
 | .lst l=>!l.isEmpty
 | .tup l=>!l.isEmpty
 | .pN l=>!l.isEmpty
 | .rng lo d=>decide (lo<d)
 | .obj _=>true
 | .gf _=>true
 | .set _ l=>!l.isEmpty
 | .x _=>true
 | .err _ _ _=>true
noncomputable def abm:D->Bool
 | .bl _=>true
 | .int _=>true
 | .lst _=>true
 | .tup _=>true
 | .aQ=>true
 |_=>false
def aaJ(t:aY):eB:=λe P=>t e λd=>abm d=true/\P^Ef d
def yz(h:DvAll Z G d e):d.isEmpty=e.isEmpty:=by cases h<;>rfl
def l6(ha:DE Z X a ta)(he:(∀whole,isTrue a X.env whole=(do let v <-whole;im a.pos;hB [v]^truthy v))<|>xx):DT Z X a^aaJ ta:=by
 refine(OA ha he).imp ?_;intro σ H Q aN;rfl';obtain⟨G,ρ,P,s,e,h,q⟩:=aN;ac_rfl;exists G,ρ,_,s,e,h;rintro d ⟨hd,p⟩ v G1 H1 x1 dv;refine#[Ef d,?_,q _ p G1 H1 x1];cases dv with
 |aQ=>rfl
 |bl b=>rfl
 |int i=>rfl
 |lst h a=>exact .inl #[_,aJ.of^x1.sub _ _ h,by rw[yz a];rfl]
 |tup h a=>exact .inr^.inl #[_,fM.of^x1.sub _ _ h,by rw[yz a];rfl]
 |_=>cases hd
def aat(t u:eB):eB:=λd P=>t d λc=>if c=true then u d P else P false
def dOr(t u:eB):eB:=λd P=>t d λc=>if c=true then P true else u d P
def aaF(t:eB):eB:=λd P=>t d λc=>P (!c)
variable {tA FZ:eB} {rest:List Expr}
def DW(Z:DC)(X:Cx)(e:e_)(t:eB):Prop:=PW X e^liftT Z t
def DW.dt(h:DW Z X e t):DT Z X e t:=PW.pt h
def He(d:DT Z X a tA):DW Z X (.BoolOp .And [a] pos) tA:=Bb d
def Ud(d:DT Z X a tA):DW Z X (.BoolOp .Or [a] pos) tA:=Vv d
def EL(k:DT Z X a tA)(f:DW Z X (.BoolOp .And (b::rest) pos) FZ):DW Z X (.BoolOp .And (a::b::rest) pos)^aat tA FZ:=by
 refine(FI k f).imp ?_;intro t H Q l;rfl';let⟨G,g,P,s,e,h,q⟩:=l;ac_rfl;refine#[G,g,_,s,e,h,λc i j n d=>?_];cases c with
 |true=>exact b9 #[j,g,P,d.sub,e.mono d.gg,i,λb f o p r=>q b f o p^d.trans r]
 |false=>exact cL^q _ i j n d
def XU(k:DT Z X a tA)(f:DW Z X (.BoolOp .Or (b::rest) pos) FZ):DW Z X (.BoolOp .Or (a::b::rest) pos)^dOr tA FZ:=by
 refine(ZO k f).imp ?_;intro t H Q l;rfl';let⟨G,g,P,s,e,h,q⟩:=l;ac_rfl;refine#[G,g,_,s,e,h,λc i j n d=>?_];cases c with
 |false=>exact cL #[j,g,P,d.sub,e.mono d.gg,i,λb f o p r=>q b f o p^d.trans r]
 |true=>exact b9^q _ i j n d
def nV(d:DT Z X a tA):DT Z X (.UnaryOp .Not a pos)^aaF tA:=by
 refine(Mz d).imp ?_;rintro l H Q ⟨G,f,P,s,e,h,q⟩;exact#[G,f,_,s,e,h,λc g i j k=>q _ g i j k]
def Xx(e f:aY):aY:=λd P=>e d λx=>∃c,x= .bl c/\if c=true then f d P else P^.bl false
def XJ(d:aY):aY:=λe P=>d e λx=>∃c,x= .bl c/\P^.bl (!c)
def T4{op}(h:DE Z X a ta):DE Z X (.BoolOp op [a] pos) ta:=Vm h
def LY(k:DE Z X a ta)(f:DE Z X (.BoolOp .And (b::rest) pos) tb):DE Z X (.BoolOp .And (a::b::rest) pos)^Xx ta tb:=by
 refine(Ve k f).imp ?_;intro u H Q l;rfl';let⟨G,g,P,s,e,h,q⟩:=l;ac_rfl;exists G,g,_,s,e,h;rintro _ ⟨c,rfl,i⟩ v j n d dv;cases dv.DS;exists c,rfl;cases c with
 |true=>exact b9 #[j,g,P,d.sub,e.mono d.gg,i,λb f v o p r t=>q b f v o p (d.trans r) t]
 |false=>exact cL^q _ i _ j n d^.bl false
def T3(d:DE Z X a ta):DE Z X (.UnaryOp .Not a pos)^XJ ta:=by
 refine(Vl d).imp ?_;intro n H Q f;rfl';let⟨G,i,P,s,e,h,q⟩:=f;ac_rfl;exists G,i,_,s,e,h;rintro _ ⟨c,rfl,j⟩ v k l m dv;cases dv.DS;exact#[c,rfl,q _ j _ k l m^.bl _]
def dIf(t:eB)(e f:aY):aY:=λd P=>t d λc=>if c=true then e d P else f d P
def XR{c:e_}(g:DT Z X c tA)(o:DE Z X a ta)(f:DE Z X b tb):DE Z X (.IfExp c a b pos)^dIf tA ta tb:=by
 refine(Om g o f).imp ?_;intro t H Q p;rfl';let⟨G,i,P,s,e,h,q⟩:=p;ac_rfl;refine#[G,i,_,s,e,h,λc g n w d=>?_];cases c with
 |true=>exact b9 #[n,i,P,d.sub,e.mono d.gg,g,λb f v j k l m=>q b f v j k (d.trans l) m]
 |false=>exact cL #[n,i,P,d.sub,e.mono d.gg,g,λb f v j k l m=>q b f v j k (d.trans l) m]
def lZ:ij:=λ_ P=>P []
def Pq(e:aY)(t:ij):ij:=λd P=>e d λx=>t d λf=>P (x::f)
variable {es:List Expr} {t:ij} {e:Expr}
def ah:DA Z X [] lZ:=by
 refine az.imp λg H Q d=>?_;rfl';obtain⟨G,i,P,s,e,p,q⟩:=d;ac_rfl;exact q _ p _ G H (.refl s) .nil
def aa(d:DE Z X e ta)(j:DA Z X es t)(k:d4 (e::es) X.env=(false,fC e X.env)::d4 es X.env<|>zn):DA Z X (e::es)^Pq ta t:=by
 refine(ao d j k).imp ?_;intro w H Q l;rfl';let⟨G,g,P,s,e,h,q⟩:=l;ac_rfl;refine#[G,g,_,s,e,h,λa d v n y f dv=>?_];exact#[n,g,_,f.sub,e.mono f.gg,d,λA o B p r i u=>q _ o _ p r (f.trans i)^.cons (dv.mono i.gg) u]
def aaL(t:ij):aY:=λf P=>t f λd=>d.length<=sizeLine/\P^.tup d
def aaC(t:ij):aY:=λf P=>t f λd=>d.length<=sizeLine/\P^.lst d
def bb{d}(h:DA Z X es t):DE Z X (.Tuple es d pos)^aaL t:=by
 refine(vG h).imp ?_;intro n H Q i;rfl';let⟨G,k,P,s,e,h,q⟩:=i;ac_rfl;exists G,k,_,s,e,h;rintro r ⟨l,m⟩ u v w d f;exact#[by rw[f.length];exact l,λp g=>q _ m _ _ _ (d.trans^.new d.sub g)^.tup ae^f.mono^ay (d.sub.free g) _]
def gI(h:DA Z X es t):DE Z X (.List es pos)^aaC t:=by
 refine(fS h).imp ?_;intro n H Q i;rfl';let⟨G,k,P,s,e,h,q⟩:=i;ac_rfl;exists G,k,_,s,e,h;rintro r ⟨l,m⟩ u v w d f;exact#[by rw[f.length];exact l,λp g=>q _ m _ _ _ (d.trans^.new d.sub g)^.lst ae^f.mono^ay (d.sub.free g) _]
def wH(r:List D->(D->Prop)->Prop)(t:ij):aY:=λd P=>t d λf=>r f P
def xq:∀f H Q,eL Z (wH r t) f H Q->Fj Z t f H λg i=>mF Z r g i Q:=by
 intro f H Q k;rfl';obtain⟨G,m,P,s,e,h,q⟩:=k;ac_rfl;exact#[G,m,_,s,e,h,λn o g p i j u=>#[p,n,P,j.sub,u,o,λd w v x y A dv=>q d w v x y (j.trans A) dv]]
def PD(F:FnOk X.prog X.w X.K X.mg X.base fJ k f g i^aS Z d)(m:bU k X.A)(n:Gl X x)(o:X.mg x\(.ref f))(r:am X.K^.ref f=true)(u:Binds X.K g i [])
  (v:DA Z X (e::es) t) (y:(x==("__debug__":ee))=false<|>zm) (B:d4 (e::es) X.env=(false,fC e X.env)::d4 es X.env<|>zn) (C:(f8 pos^d4 es X.env).any (·.1)=false<|>zn):
  DE Z X (.Call (.Name x p) (e::es) [] pos)^wH d t:=
 (bK F m n o r u .nil cF v y B C).imp λE H Q h=>by
  rfl';have h:=xq E H Q h;let⟨G,J,P,s,e,h,q⟩:=h;ac_rfl;exact#[G,J,P,s,e,h,λL M j N l O R=>by show aS Z d (j++ []) l Q E0;rw[ft];exact q L M j N l O R]
theorem aW{id:String}{x:ee}{p:ip}{r:List D->(D->Prop)->Prop}(d:CallR X (.builtin id)^mF Z r)(f:Gl X x)(g:X.mg x=none)(h:f_ x\(.builtin id))(i:DA Z X (e::es) t)(j:x≠"__name__"<|>zm)(k:(x==("__debug__":ee))=false<|>zm)
  (l:d4 (e::es) X.env=(false,fC e X.env)::d4 es X.env<|>zn) (m:(f8 pos^d4 es X.env).any (·.1)=false<|>zn):
  DE Z X (.Call (.Name x p) (e::es) [] pos)^wH r t:=(cU d f g h i j k l m).imp xq
def tu(d:CallR X (.type T)^mF Z r)(f:Gl X x)(g:X.mg x=none)(h:f_ x\(.type T))(i:DA Z X (e::es) t)(j:x≠"__name__"<|>zm)(k:(x==("__debug__":ee))=false<|>zm)
  (l:d4 (e::es) X.env=(false,fC e X.env)::d4 es X.env<|>zn) (m:(f8 pos^d4 es X.env).any (·.1)=false<|>zn):
  DE Z X (.Call (.Name x p) (e::es) [] pos)^wH r t:=(tT d f g h i j k l m).imp xq
end
end L2
namespace L2
open PySem PySem.Spec PyProof.Rows
section
variable {Z:DC} {X:Cx}
def Wq:jm:=λx y P=>match x,y with
 | .int i, .int j=>P^.int (i+j)
 | .lst a, .lst b=>a.length+b.length<=sizeLine/\P^.lst (a++b)
 | .tup a, .tup b=>a≠ []/\a.length+b.length<=sizeLine/\b≠ []/\P^.tup (a++b)
 |_,_=>False
def dI(c:Int->Int->Prop)(g:Int->Int->Int):jm:=λx y P=>match x,y with
 | .int i, .int j=>c i j/\P^.int^g i j
 |_,_=>False
def aaw:jm:=dI OZ λi j=>i / j
def aaD:jm:=dI (λ_ j=>0<j) λi j=>i%j
def Mp(h:OpR X f (rI c λi j=> .int^g i j)):OpR X f^cx Z^dI c g:=by
 refine h.imp ?_;intro x y H Q e;rfl';let⟨G,a,b,P,s,l,m,d,q⟩:=e;ac_rfl;unfold dI at d
 split at d
 .exact#[_,_,l.ofInt,m.ofInt,d.1,q _ d.2 _ G H (.refl s)^.int _]
 .exact d.elim
def Mx:OpR X (ii .FloorDiv)^cx Z aaw:=Mp Ib
def uY:OpR X (ii .Mod)^cx Z aaD:=Mp rA
def iT(e:X.K=Z.K<|>zn):OpR X (ii .Add)^cx Z Wq:=by
 refine(iY.or^zI.or^RP).imp ?_;rintro x y H Q ⟨G,a,b,P,s,h,i,c,q⟩;unfold Wq at c
 split at c
 .exact .inl #[_,_,h.ofInt,i.ofInt,q _ c _ G H (.refl s)^.int _]
 .obtain⟨t,j,rfl,k,d⟩:=h.k8
  let⟨u,l,rfl,m,f⟩:=i.k8;let⟨n,o⟩:=c;refine .inr^.inl #[_,_,_,_,rfl,rfl,s _ _ k,s _ _ m,by rw[d.length,f.length];exact n,λp g=>?_]
  exact q _ o _ _ _ (.new s g)^.lst ae^(d.append f).mono^ay (s.free g) _
 .obtain⟨t,j,rfl,k,d⟩:=h.xy
  let⟨u,l,rfl,m,f⟩:=i.xy;let⟨v,n,r,o⟩:=c;refine .inr^.inr #[_,_,_,_,rfl,rfl,fM.of^s _ _ k,fM.of^s _ _ m,?_,by rw[d.length,f.length];exact n,?_]
  .rintro rfl;cases d;exact v rfl
  .refine#[?_,λ_ p g=>q _ o _ _ _ (.new s g)^.tup ae^(d.append f).mono^ay (s.free g) _]
   rintro rfl;cases f;exact(r rfl).elim
 .exact c.elim
mutual
noncomputable def D.py:D->Option PyData
 | .aQ=>some .none
 | .bl b=>some^.bool b
 | .int i=>some^.int i
 | .str x=>some^.str x
 | .lst l=>(gu l).map PyData.list
 | .tup l=>(gu l).map PyData.tuple
 | .pN _=>none
 | .rng _ _=>none
 | .obj _=>none
 | .gf _=>none
 | .set _ _=>none
 | .x _=>none
 | .err _ _ _=>none
noncomputable def gu:List D->Option^List PyData
 | []=>some []
 |d::ds=>(D.py d).bind λa=>(gu ds).map λas=>a::as
end
def Dv.dp{K:ad}{G:Hp}{v:V}{d:D}(h:Dv Z G v d):∀{e:PyData},d.py\e->Dp K G v e:=by
 refine Dv.rec (motive_1:=λv d _=>∀{e:PyData},d.py\e->Dp K G v e) (motive_2:=λn f _=>∀{g:List PyData},gu f\g->jr K G n g) ?_ ?_ ?_ ?_ ?_ ?_ ?_ ?_ ?_ ?_ ?_ ?_ ?_ ?_ ?_ h
 .intro e h;rw[D.py] at h;cases h;exact .aQ
 .intro b e h;rw[D.py] at h;cases h;exact .bl b
 .intro i e h;rw[D.py] at h;cases h;exact .int i
 .intro x k e h;rw[D.py] at h;cases h;exact .str x k
 .intro a o f q _ j e h
  rw[D.py] at h;cases c:gu f with
  |none=>rw[c] at h;cases h
  |some l=>rw[c] at h;cases h;exact .lst (aJ.of q)^j c
 .intro a o f q _ j e h
  rw[D.py] at h;cases c:gu f with
  |none=>rw[c] at h;cases h
  |some l=>rw[c] at h;cases h;exact .tup (fM.of q)^j c
 .intro a e h;simp[D.py] at h
 .intro a lo u _ e h;simp[D.py] at h
 .intro a r _ _ e h;simp[D.py] at h
 .intro p A R w _ _ _ _ _ _ e h;simp[D.py] at h
 .intro a b r _ e h;simp[D.py] at h
 .intro a B k _ _ e h;simp[D.py] at h
 .intro a C E F o f _ _ _ _ e h;simp[D.py] at h
 .intro g h;rw[gu] at h;cases h;exact .nil
 .intro v n d f _ _ s t g h
  rw[gu] at h;cases c:d.py with
  |none=>rw[c] at h;cases h
  |some x=>
   rw[c] at h;cases m:gu f with
   |none=>rw[m] at h;cases h
   |some y=>rw[m] at h;cases h;exact .cons (s c)^t m
def fM.mono{K:ad}{H b:Hp}(s:aC H b)(h:fM K H a c):fM K b a c:=by
 rcases h with (h| ⟨o,h⟩) |h
 .exact .inl^.inl^s _ _ h
 .exact .inl^.inr #[o,s _ _ h]
 .exact .inr h
theorem Dp.mono{K:ad}{G H:Hp}(s:aC G H){v:V}(h:Dp K G v d):Dp K H v d:=
 Dp.rec (motive_1:=λv d _=>Dp K H v d) (motive_2:=λc e _=>jr K H c e) .aQ .bl .int .str (λh _ a=> .lst (h.mono s) a) (λh _ a=> .tup (h.mono s) a) .nil (λ_ _ a b=> .cons a b) h
def Ws(c:Bool):jm:=λx y P=>∃a b,x.py\a/\y.py\b/\a.depth<=64/\P^.bl^if c then !PyData.eqv a b else PyData.eqv a b
abbrev Ab:jm:=Ws false
abbrev EE:jm:=Ws true
def iU(e:X.A.units+64<cLine):OpR X (fz .Eq)^cx Z Ab:=by
 refine(Vb e).imp ?_;intro x y H Q f;rfl';obtain⟨G,a,b,P,s,h,i,⟨c,d,j,k,l,m⟩,q⟩:=f;ac_rfl;exact#[c,d,(h.dp j).mono s,(i.dp k).mono s,l,q _ m _ G H (.refl s)^.bl _]
def xw(e:X.A.units+64<cLine):OpR X (fz .NotEq)^cx Z EE:=by
 refine(FD e).imp ?_;intro x y H Q f;rfl';obtain⟨G,a,b,P,s,h,i,⟨c,d,j,k,l,m⟩,q⟩:=f;ac_rfl;exact#[c,d,(h.dp j).mono s,(i.dp k).mono s,l,q _ m _ G H (.refl s)^.bl _]
def mZ(h:P^.bl (decide (i=j))):Ab (.int i) (.int j) P:=#[.int i, .int j,rfl,rfl,by simp[PyData.depth],by
 have:PyData.eqv (.int i)^.int j=decide (i=j):=by
  rw[PyData.eqv]
  by_cases z:i=j<;>simp[z]
 simpa [this] using h]
def GV(p:Int->Int->Bool):jm:=λx y P=>match x,y with
 | .int i, .int j=>P^.bl^p i j
 |_,_=>False
def AL(h:OpR X f (K2 λi j=> .bl^p i j)):OpR X f^cx Z^GV p:=by
 refine h.imp ?_;intro x y H Q d;rfl';let⟨G,a,b,P,s,g,k,c,q⟩:=d;ac_rfl;unfold GV at c
 split at c
 .exact#[_,_,g.ofInt,k.ofInt,q _ c _ G H (.refl s)^.bl _]
 .exact c.elim
end
end L2
namespace L2
open PySem PySem.Spec PyProof.Rows
section
variable {Z:DC} {X:Cx}
abbrev dLt:jm:=GV λi j=>decide (i<j)
abbrev dLe:jm:=GV λi j=>decide (i<=j)
abbrev dGt:jm:=GV λi j=>decide (j<i)
def AX:OpR X (fz .Lt)^cx Z dLt:=AL KG
def AW:OpR X (fz .LtE)^cx Z dLe:=AL ZD
def Fu:OpR X (fz .Gt)^cx Z dGt:=AL KC
noncomputable def Kj:D->Bool
 | .aQ=>true
 |_=>false
def Wt(a:Bool):jm:=λx y P=>match y with
 | .aQ=>P^.bl^if a then !Kj x else Kj x
 |_=>False
def Dr(h:Dv Z G v d):decide (v= .aQ)=Kj d:=by cases h<;>rfl
def Fv:OpR X (fz .Is)^cx Z^Wt false:=by
 refine Vc.imp ?_;rintro x y H Q ⟨G,a,b,P,s,d,e,c,q⟩;cases e<;>first|exact c.elim|skip
 exact#[rfl,by rw[Dr d];exact q _ c _ G H (.refl s)^.bl _]
def DR:OpR X (fz .IsNot)^cx Z^Wt true:=by
 refine RQ.imp ?_;rintro x y H Q ⟨G,a,b,P,s,d,e,c,q⟩;cases e<;>first|exact c.elim|skip
 exact#[rfl,by rw[Dr d];exact q _ c _ G H (.refl s)^.bl _]
noncomputable def jx:D->Bool
 | .aQ=>true
 | .bl _=>true
 | .int _=>true
 | .str _=>true
 |_=>false
noncomputable def l7:D->D->Bool
 | .aQ, .aQ=>true
 | .bl a, .bl b=>a==b
 | .bl a, .int b=>(if a then 1 else 0)==b
 | .int a, .bl b=>a==(if b then 1 else 0)
 | .int a, .int b=>a==b
 | .str a, .str b=>a==b
 |_,_=>false
noncomputable def inD(x:D)(l:List D):Bool:=l.any λy=>l7 y x
def uI(h:Dv Z G v d):iy v=jx d:=by cases h<;>rfl
def p8(h:DvAll Z G b c):b.all iy=c.all jx:=h.ind (p:=λb c=>b.all iy=c.all jx) rfl λa _ e=>by rw[aeB,aeB,uI a,e]
def EM(h:Dv Z G v d)(k:Dv Z G u e):tD v u=l7 d e:=by cases h<;>first|rfl| (cases k<;>rfl)
theorem Kg(h:Dv Z G v d):∀{b:List V}{c:List D},DvAll Z G b c->Kf v b=inD d c
 |_,_, .nil=>rfl
 |_,_, .cons a e=>by
  unfold Kf inD;rw[aeC,aeC,EM a h];exact KF _^Kg h e
def TM(a:Bool):jm:=λx y P=>match y with
 | .lst l=>jx x=true/\l.all jx=true/\P^.bl^if a then !inD x l else inD x l
 | .tup l=>jx x=true/\l.all jx=true/\P^.bl^if a then !inD x l else inD x l
 |_=>False
def Sn:∀x y H Q,cx Z (TM c) x y H Q->Vw X.K c x y H Q:=by
 rintro x y H Q ⟨G,a,b,P,s,d,l,f,q⟩;cases l<;>first|exact f.elim|skip
 .rename_i p g m h e
  let⟨i,j,k⟩:=f;refine#[p,g,rfl, .inl^aJ.of^s _ _ h,by rw[uI d];exact i,by rw[p8 e];exact j,?_]
  rw[Kg d e];exact q _ k _ G H (.refl s)^.bl _
 .rename_i p g m h e
  let⟨i,j,k⟩:=f;refine#[p,g,rfl, .inr^fM.of^s _ _ h,by rw[uI d];exact i,by rw[p8 e];exact j,?_]
  rw[Kg d e];exact q _ k _ G H (.refl s)^.bl _
def RB:OpR X (fz .In)^cx Z^TM false:=KD.imp Sn
def Oe:OpR X (fz .NotIn)^cx Z^TM true:=sI.imp Sn
def dIx:jm:=λx y P=>match x,y with
 | .lst l, .int i=>∃d,gF l i\d/\P d
 | .tup l, .int i=>∃d,gF l i\d/\P d
 | .pN l, .int i=>∃n,gF l i\n/\P^.int n
 |_,_=>False
def Ex(h:DvAll Z G b a)(e:gF a i\d):∃v,gF b i\v/\Dv Z G v d:=by
 unfold gF at e ⊢;rw[h.length];cases z:k4 a.length i with
 |none=>rw[z] at e;cases e
 |some j=>rw[z] at e;exact h.get e
def Pf(f:a->b)(l:List a)(i:Int):gF (l.map f) i=(gF l i).map f:=by
 unfold gF;rw[aI];cases k4 l.length i with
 |none=>rfl
 |some j=>show(l.map f)[j]? =_;rw[fm];rfl
variable {a b c e:Expr} {ta tb tc te:aY} {pos:Pos}
def iw(p:DE Z X a ta)(r:DE Z X b tb)(t:X.K=Z.K<|>zn)(u:pQ b<|>wv):DE Z X (.Subscript a b pos)^Ni dIx ta tb:=by
 refine(cV (bN.or Mn) p r u).imp λw H Q h=>?_;rfl';let⟨G,x,P,s,e,h,q⟩:=AJ w H Q h;ac_rfl;refine#[G,x,P,s,e,h,λd y v A B C dv=>?_];rfl';let⟨E,F,I,J,L,M,N⟩:=q d y v A B C dv;ac_rfl;refine#[E,F,I,J,L,M,λO k R S T Y c=>?_];let⟨G,a,b,P,s,l,m,f,q⟩:=N O k R S T Y c;unfold dIx at f
 split at f
 .obtain⟨d,i,j⟩:=f
  let⟨g,o,rfl,h,e⟩:=l.k8;let⟨v,n,dv⟩:=Ex e i;exact .inl #[_,_,_,v,rfl,m.ofInt,aJ.of^s _ _ h,n,q _ j _ G _ (.refl s) dv]
 .obtain⟨d,i,j⟩:=f
  let⟨g,o,rfl,h,e⟩:=l.xy;let⟨v,n,dv⟩:=Ex e i;exact .inr #[_,_,_,v,rfl,m.ofInt,fM.of^s _ _ h,n,q _ j _ G _ (.refl s) dv]
 rotate_left
 .exact f.elim
 .obtain⟨d,i,j⟩:=f
  rfl';let⟨g,rfl,h,o⟩:=l.Fx;ac_rfl;refine .inl #[_,_,_, .int d,rfl,m.ofInt,by rw[t];exact h.mono s,by rw[Pf,i];rfl,q _ j _ G _ (.refl s)^.int d]
noncomputable def cutD{f:Type}(d:List f)(lo g:Option Int):List f:=(d.drop^HT.bX d.length 0 lo).take (HT.bX d.length d.length g-HT.bX d.length 0 lo)
def LU(h:DvAll Z G d f)(lo g:Option Int):DvAll Z G (jb d lo g)^cutD f lo g:=by
 unfold jb cutD;rw[h.length];exact(h.drop _).take _
def Ng(f:d->h)(l:List d)(lo g:Option Int):cutD (l.map f) lo g=(cutD l lo g).map f:=by
 unfold cutD;rw[aI,adQ,aeD]
abbrev M1:=DN->(Option Int->Prop)->Prop
def Py:M1:=λ_ P=>P none
def XM(t:aY):M1:=λf P=>t f λd=>match d with
 | .int i=>P^some i
 |_=>False
def Zl(Z:DC)(t:M1):TO:=λg H Q=>∃(G:Hp)(d:DN)(P:Option Int->Prop),aC G H/\dZ Z G g d/\t d P/\∀o,P o->∀h f,Ext G H h f->Q o f
def DO(Z:DC)(X:Cx)(e:Option e_)(t:M1):Prop:=PO X e^Zl Z t
def PO.imp{e:Option e_}{t t':TO}(h:PO X e t)(f:∀g H Q,t' g H Q->t g H Q):PO X e t':=λd s g H Q I q=>h d s g H Q I^f _ _ _ q
def Ag:DO Z X none Py:=by
 refine A8.imp λg H Q d=>?_;rfl';let⟨G,i,P,s,e,p,q⟩:=d;ac_rfl;exact q _ p G H^.refl s
def Ah(h:DE Z X e te):DO Z X (some e)^XM te:=by
 refine(qr h).imp ?_;intro n H Q g;rfl';let⟨G,j,P,s,e,h,q⟩:=g;ac_rfl;refine#[G,j,_,s,e,h,λd f v k l m dv=>?_];cases dv<;>first|exact f.elim|skip
 exact#[_,rfl,q _ f k l m]
def dSl(g:aY)(h i:M1):aY:=λf P=>g f λx=>h f λlo=>i f λd=>match x with
 | .lst l=>P^.lst^cutD l lo d
 | .tup l=>¬(HT.bX l.length 0 lo=0/\HT.bX l.length l.length d=l.length)/\P^.tup^cutD l lo d
 | .pN l=>P^.lst^(cutD l lo d).map D.int
 |_=>False
variable {lo hi:Option Expr} {tl th:M1} {p2:Pos}
def wJ(r:DE Z X e te)(m:DO Z X lo tl)(g:DO Z X hi th)(t:X.K=Z.K<|>zn):DE Z X (.Subscript e (.Slice lo hi none p2) pos)^dSl te tl th:=by
 refine(rG (vX.or VH) r m g).imp ?_;intro E H Q w;rfl';let⟨G,n,P,s,o,h,q⟩:=w;ac_rfl;refine#[G,n,_,s,o,h,λd A v B I j dv=>?_];refine#[B,n,_,j.sub,o.mono j.gg,A,λl m C J k=>?_];refine#[C,n,_,k.sub,(o.mono j.gg).mono k.gg,m,λu g L M f=>?_];have x:=(j.trans k).trans f;have dv:=(dv.mono k.gg).mono f.gg;cases dv<;>first|exact g.elim|skip
 .rename_i h e
  exact .inl #[_,_,rfl,aJ.of^f.sub _ _ h,λp i=>q _ g _ _ _ (x.trans^.new f.sub i)^.lst ae^(LU e l u).mono^ay (f.sub.free i) _]
 .rename_i h e
  refine .inr #[_,_,rfl,fM.of^f.sub _ _ h,by rw[e.length];exact g.1,λp i=>q _ g.2 _ _ _ (x.trans^.new f.sub i)^.tup ae^(LU e l u).mono^ay (f.sub.free i) _]
 .rename_i h _
  refine .inl #[_,_,rfl,by rw[t];exact h.mono f.sub,λp i=>q _ g _ _ _ (x.trans^.new f.sub i)^.lst ae ?_]
  show DvAll Z _ (cutD _ l u) _;rw[Ng];exact .ints _
def xU:eS:=λd P=>match d with
 | [.lst l]=>P^.int l.length
 | [.tup l]=>P^.int l.length
 | [.pN l]=>P^.int l.length
 |_=>False
def cJ(f:X.K=Z.K<|>zn):CallR X (.builtin "len")^mF Z xU:=by
 refine cX.imp ?_;rintro g H Q ⟨G,i,P,s,dv,d,q⟩;unfold xU at d
 split at d
 .obtain⟨_,rfl,a⟩:=dv.ofOne
  let⟨b,c,rfl,h,e⟩:=a.k8;exact#[_,_,rfl, .inl^aJ.of^s _ _ h,by rw[e.length];exact q _ d _ G H (.refl s)^.int _]
 .obtain⟨_,rfl,a⟩:=dv.ofOne
  let⟨b,c,rfl,h,e⟩:=a.xy;exact#[_,_,rfl, .inr^fM.of^s _ _ h,by rw[e.length];exact q _ d _ G H (.refl s)^.int _]
 .obtain⟨_,rfl,a⟩:=dv.ofOne
  let⟨b,rfl,h,c⟩:=a.Fx;exact#[_,_,rfl, .inl^by rw[f];exact h.mono s,by rw[aI];exact q _ d _ G H (.refl s)^.int _]
 .exact d.elim
def Pg:eS:=λd P=>match d with
 | [.lst l]=>P^.lst l
 | [.tup l]=>P^.lst l
 |_=>False
def z6:CallR X (.type "list")^mF Z Pg:=by
 refine sA.imp ?_;rintro g H Q ⟨G,i,P,s,dv,d,q⟩;unfold Pg at d
 split at d
 .obtain⟨_,rfl,a⟩:=dv.ofOne
  let⟨b,c,rfl,h,e⟩:=a.k8;exact#[_,_,rfl, .inl^aJ.of^s _ _ h,λp f=>q _ d _ _ _ (.new s f)^.lst ae^e.mono^ay (s.free f) _]
 .obtain⟨_,rfl,a⟩:=dv.ofOne
  let⟨b,c,rfl,h,e⟩:=a.xy;exact#[_,_,rfl, .inr^fM.of^s _ _ h,λp f=>q _ d _ _ _ (.new s f)^.lst ae^e.mono^ay (s.free f) _]
 .exact d.elim
noncomputable def isI:String->D->Bool
 |"int", .int _=>true
 |"int", .bl _=>true
 |"bool", .bl _=>true
 |"list", .lst _=>true
 |"tuple", .tup _=>true
 |_,_=>false
noncomputable def Zz(n:String):Bool:=n=="int"||n=="bool"||n=="list"||n=="tuple"
noncomputable def W8:D->Bool
 | .aQ=>true
 | .bl _=>true
 | .int _=>true
 | .str _=>true
 | .lst _=>true
 | .tup _=>true
 |_=>false
def aaB(n:String)(t:aY):aY:=λf P=>t f λd=>W8 d=true/\P^.bl^isI n d
def UP{K:ad}{H:Hp}{v:V}{d:D}{n:String}(hn:Zz n=true)(hd:W8 d=true)(h:Dv Z H v d):∃t,kR K H v t/\bi K t^.type n\(isI n d):=by
 unfold Zz at hn;rw[Bool.or_eq_true,Bool.or_eq_true,Bool.or_eq_true,beq_iff_eq,beq_iff_eq,beq_iff_eq,beq_iff_eq] at hn;cases h with
 |aQ=>exists _, .aQ;rcases hn with ((rfl|rfl) |rfl) |rfl<;>kernel_rfl
 |bl b=>exists _, .bl b;rcases hn with ((rfl|rfl) |rfl) |rfl<;>kernel_rfl
 |int b=>exists _, .int b;rcases hn with ((rfl|rfl) |rfl) |rfl<;>kernel_rfl
 |str b=>exists _, .str b;rcases hn with ((rfl|rfl) |rfl) |rfl<;>kernel_rfl
 |lst h a=>exists _, .lst h;rcases hn with ((rfl|rfl) |rfl) |rfl<;>kernel_rfl
 |tup h a=>exists _, .tup h;rcases hn with ((rfl|rfl) |rfl) |rfl<;>kernel_rfl
 |_=>cases hd
end
section
variable {Z:DC} {X:Cx} {a b c e:Expr} {ta tb tc te:aY} {pos:Pos}
def LZ(n:String)(k:DE Z X a ta)(l:Gl X "isinstance")(m:X.mg "isinstance"=none)(o:Gl X x)(r:X.mg x=none)(u:f_ x\(.type n))(ok:Zz n=true<|>zm)
  (w:x≠"__name__"<|>zm) (y:(x==("__debug__":ee))=false<|>zm) (g:d4 [a, .Name x f] X.env=(false,fC a X.env)::d4 [.Name x f] X.env<|>zn)
  (A:(f8 pos^d4 [.Name x f] X.env).any (·.1)=false<|>zn) (B:d4 [.Name x f] X.env=(false,fC (.Name x f) X.env)::d4 [] X.env<|>zn):
  DE Z X (.Call (.Name "isinstance" p) [a, .Name x f] [] pos)^aaB n ta:=by
 have C:PE X (.Name x f)^tC^.ty n:=Ig o r u rfl w y;refine(cU Ez l m (by decide+kernel) (ao k (ao C az B) g) ∅ ∅ g A).imp ?_
 intro R H Q E;rfl';let⟨G,I,P,s,e,h,q⟩:=E;ac_rfl;exists G,I,_,s,e,h;rintro d ⟨J,L⟩ v M i j dv;let⟨t,N,O⟩:=UP (K:=X.K) (H:=i) ok J^dv.mono j.sub;exact#[v,n,t,_,rfl,N,O,q _ L _ M i j^.bl _]
def og(Z:DC)(g:eO):TG:=λv j H Q=>∃(G:Hp)(f:DN)(d:D)(P:DN->Prop),aC G H/\dZ Z G j f/\Dv Z G v d/\g d f P/\∀h,P h->∀i,dZ Z G i h->Q i H
def DG(Z:DC)(X:Cx)(e:e_)(g:eO):Prop:=PG X e^og Z g
def PG.imp{e:e_}{t t':TG}(h:PG X e t)(f:∀v g H Q,t' v g H Q->t v g H Q):PG X e t':=λd s g H v u Q I r q=>h d s g H v u Q I r^f _ _ _ _ q
def h7(i:Nat):eO:=λd f P=>P^f.set i^some d
def bp(i:Nat)(f:X.N.Nodup)(g:X.N[i]?\x<|>zn)(j:Loc X.env.scope x:=by exact Or.inl rfl)(k:X.fn x=true\/X.env.scope.names.lookup x\.local<|>xz):DG Z X (.Name x l)^h7 i:=by
 refine(cy f g j k).imp λv o H Q m=>?_;rfl';let⟨G,r,d,P,s,e,dv,h,q⟩:=m;ac_rfl;exact q _ h _^e.set dv
abbrev oQ:=List D->DN->(DN->Prop)->Prop
def UU(Z:DC)(g:oQ):B6:=λj k H Q=>∃(G:Hp)(d:DN)(f:List D)(P:DN->Prop),aC G H/\dZ Z G k d/\DvAll Z G j f/\g f d P/\∀h,P h->∀i,dZ Z G i h->Q i H
def Tu(Z:DC)(X:Cx)(d:List e_)(g:oQ):Prop:=Eu X d^UU Z g
def Eu.imp{i:List e_}{t t':B6}(h:Eu X i t)(f:∀v g H Q,t' v g H Q->t v g H Q):Eu X i t':=λd s g H v u Q I r q=>h d s g H v u Q I r^f _ _ _ _ q
def JD:oQ:=λd f P=>d= []/\P f
def zD(g:eO)(f:oQ):oQ:=λh i P=>match h with
 |d::r=>g d i λj=>f r j P
 | []=>False
def jH:Tu Z X [] JD:=by
 refine nA.imp λv g H Q d=>?_;rfl';obtain⟨G,j,k,P,s,e,dv,⟨h,p⟩,q⟩:=d;subst h;cases dv;ac_rfl;exact#[rfl,q _ p _ e]
def cC(i:DG Z X e g)(j:Tu Z X d f)(k:(gB (e::d) X.env).map (·.2)=jq e X.env::(gB d X.env).map (·.2)<|>zn):Tu Z X (e::d)^zD g f:=by
 refine(fZ i j k).imp ?_;intro v u H Q l;rfl';let⟨G,n,x,P,s,e,dv,h,q⟩:=l;ac_rfl;cases dv with
 |nil=>exact h.elim
 |cons a o=>
  refine#[_,_,rfl,G,n,_,_,s,e,a,h,λp r y t=>?_];exact#[G,p,_,P,s,t,o,r,q]
def JE(n:Nat)(f:oQ):eO:=λd g P=>match d with
 | .tup l=>l.length=n/\f l g P
 |_=>False
def l5(n:Nat)(i:X.calm=true)(h:Tu Z X f g)(j:(gB f X.env).length=n<|>zn)(l:(gB f X.env).findIdx? (·.1)=none<|>zn):DG Z X (.Tuple f k pos)^JE n g:=by
 refine(rJ i h j l).imp ?_;rintro v r H Q ⟨G,m,d,P,s,e,dv,h,q⟩;cases dv<;>first|exact h.elim|skip
 rename_i a o t p f
 exact#[a,o,rfl,fM.of^s _ _ p,by rw[f.length];exact h.1,G,m,_,P,s,e,f,h.2,q]
def Gz(Z:DC)(G:Hp)(J:It)(g:List D):Prop:=∀h f,aC G h->aC h f->∀i:Nat,(i<g.length->J.go i f)/\(g.length<=i->J.stop i f)/\
 ∀x j,i<g.length->J.yld i f x j->∃k d,Ext h f k j/\g[i]?\d/\Dv Z k x d
def qi(Z:DC)(i:jW):TI:=λj H R=>∃(G:Hp)(d:DN)(P:List D->Prop),aC G H/\dZ Z G j d/\i d P/\∀f,P f->∀J g h,Ext G H g h->Gz Z g J f->R J h
def DI(Z:DC)(X:Cx)(d e:e_)(f:jW):Prop:=PI X d e^qi Z f
def PI.imp{i e:e_}{t t':TI}(h:PI X i e t)(f:∀g H Q,t' g H Q->t g H Q):PI X i e t':=λd s g H Q I q=>h d s g H Q I^f _ _ _ q
def PX(t:aY):jW:=λf P=>t f λd=>match d with
 | .lst l=>P l
 |_=>False
def HI{K:ad}{a:Addr}(h:G a\(.lst f))(e:DvAll Z G f j):Gz Z G (M7 K a) j:=by
 intro o r k m i;have g:=aJ.of (K:=K)^m _ _^k _ _ h;have l:=e.length;refine#[λn=>#[f,f[i],g,eE (by omega)],λn=>#[f,g,()],?_]
 rintro x s n ⟨rfl,p⟩;let⟨d,q,dv⟩:=e.Qn^p _ g;exact#[o,d, .refl m,q,dv.mono k]
def bE(h:DE Z X e te):DI Z X j e^PX te:=by
 refine(lb h).imp ?_;intro r H Q k;rfl';let⟨G,m,P,s,n,h,q⟩:=k;ac_rfl;refine#[G,m,_,s,n,h,λd f v o p g dv=>?_];cases dv<;>first|exact f.elim|skip
 rename_i i e
 exact#[_,rfl,#[_,aJ.of^g.sub _ _ i],q _ f _ o p g^HI i e]
variable {t:ij}
noncomputable def dF(l:List D):List D:=l.mapIdx λi x=> .tup [.int (i:Int),x]
def T7(t:ij):jW:=λd P=>t d λf=>match f with
 | [.lst l]=>P^dF l
 |_=>False
def Q4{K:ad}{a:Addr}(h:G a\(.lst f))(e:DvAll Z G f g):Gz Z G (M6 K a)^dF g:=by
 intro r s m j i;have k:=aJ.of (K:=K)^j _ _^m _ _ h;have l:=e.length;rw[show(dF g).length=g.length by unfold dF;simp]
 refine#[λn=>#[f,f[i],k,eE ()],λn=>#[f,k,()],?_]
 rintro x u n ⟨t,y,rfl,o,rfl,p⟩;let⟨d,q,dv⟩:=e.Qn^p _ k;refine#[_,_, .new j o,by unfold dF;rw[List.getElem?_mapIdx,q];rfl,?_]
 exact .tup ae^.cons (.int _)^.cons ((dv.mono m).mono^ay (j.free o) _) .nil
def eV{k1}(j:Gl X "enumerate")(k:X.mg "enumerate"=none)(l:DA Z X [a] t)(m:d4 [a] X.env= [(false,fC a X.env)]<|>zn):DI Z X (.Tuple g k1 i) (.Call (.Name "enumerate" p) [a] [] pos)^T7 t:=by
 refine(A7 j k l m).imp ?_;intro x H Q n;rfl';let⟨G,r,P,s,u,h,q⟩:=n;ac_rfl;refine#[G,r,_,s,u,h,λA d B v w f dv=>?_]
 split at d
 .obtain⟨_,rfl,a⟩:=dv.ofOne
  let⟨b,c,rfl,h,e⟩:=a.k8;exact#[_,rfl,#[_,f.sub _ _ h],q _ d _ v w f^Q4 h e]
 .exact d.elim
noncomputable def yO(src:List^Option Nat)(d:DN):DN:=src.map λo=>o.bind λi=>(d[i]?).bind id
theorem dZ.src{ρ:DN}(e:dZ Z G g ρ)(src:List^Option Nat):dZ Z G (lD src g)^yO src ρ:=by
 refine#[by unfold lD yO;simp,λi d h=>?_]
 unfold yO at h;unfold lD;rw[fm] at h ⊢;cases k:src[i]? with
 |none=>rw[k] at h;cases h
 |some o=>
  rw[k] at h;cases o with
  |none=>cases h
  |some j=>
   have f:(ρ[j]?).bind id\d:=Do h;cases m:ρ[j]? with
   |none=>rw[m] at f;cases f
   |some z=>
    rw[m] at f;rfl';have n:z\d:=f;subst n;let⟨v,p,dv⟩:=e.at_ j d m;ac_rfl;exact#[v,by show some^(g[j]?).bind id=_;rw[p];rfl,dv]
def lcW(g:eO)(h:eB)(i:aY):List D->DN->List D->(DN->List D->Prop)->Prop
 | [],j,acc,N=>N j acc
 |x::k,j,acc,N=>g x j λf=>h f λb=>if b=true then i f λd=>acc.length<sizeLine/\lcW g h i k f (acc++ [d]) N else lcW g h i k f acc N
def XH(f:jW)(g:eO)(h:eB)(i:aY)(src:List^Option Nat):aY:=λd P=>f d λj=>lcW g h i j (yO src d) [] λ_ out=>P^.lst out
def sD(g:eO)(f:eB)(h:jW)(i:eO)(j:eB)(k:aY):List D->DN->List D->(List D->Prop)->Prop
 | [],_,acc,P=>P acc
 |x::l,m,acc,P=>g x m λd=>f d λb=>if b=true then h d λn=>lcW i j k n d acc λo p=>sD g f h i j k l o p P else sD g f h i j k l d acc P
def Wu(f:jW)(g:eO)(h:eB)(i:jW)(j:eO)(k:eB)(l:aY)(src:List^Option Nat):aY:=λd P=>f d λm=>sD g h i j k l m (yO src d) [] λout=>P^.lst out
def l0:eB:=λ_ P=>P true
def Eo(Z:DC)(X:Cx)(d:List e_)(t:eB):Prop:=kP X d^liftT Z t
def kP.imp{d:List e_}{t t':TT}(h:kP X d t)(f:∀i H Q,t' i H Q->t i H Q):kP X d t':=λg s i H Q I q=>h g s i H Q I^f _ _ _ q
def eW:Eo Z X [] l0:=by
 refine qt.imp λg H Q d=>?_;rfl';let⟨G,i,P,s,e,p,q⟩:=d;ac_rfl;exact q _ p G H^.refl s
def m8(h:DT Z X c d):Eo Z X [c] d:=Ik h
def CS(Z:DC)(d f:Hp)(g:Addr)(i:DN)(acc:List D)(j:St)(H:Hp):Prop:=
 ∃(G:Hp)(h:List V),aC d G/\aC G H/\aC f H/\(∀b,f b≠none->d b=none->G b=none)/\G g=none/\H g\(.lst h)/\DvAll Z G h acc/\dZ Z G j i
def cO(s:aC H d){b:Addr}(h:H b≠none):d b≠none:=λz=>by
 cases e:H b with
 |none=>exact h e
 |some o=>rw[s b o e] at z;cases z
def kW{d:Type}{l:List d}{i:Nat}{x:d}(h:l[i]?\x):l.drop i=x::l.drop (i+1):=by
 obtain⟨f,e⟩:=cz.mp h;rw[qR f,e]
theorem DH(hA:m f=none)(A:Hp)(it:Gz Z A J n)(i:Nat)(L:DN)(acc:List D)(σ:St)(H:Hp)
  (c:CS Z l m f L acc σ H) (hG:∀G,aC l G->aC A G) (hi:i<n.length) (h:lcW g u w (n.drop i) L acc N):
  J.go i H/\∀x B,J.yld i H x B->og Z g x σ B λp H4=>liftT Z u p H4 λb M=>
   if b=true then eL Z w p M λv O=>∃k,O f\(.lst k)/\k.length<sizeLine/\(∃q r,CS Z l m f q r p^upd O f^.lst (k++ [v])/\lcW g u w (n.drop (i+1)) q r N)
   else ∃q r,CS Z l m f q r p M/\lcW g u w (n.drop (i+1)) q r N:=by
 rfl';let⟨Q,k,R,s2,S,off,gA,T,Y,en⟩:=c;let⟨go,K,yld⟩:=it Q H (hG _ R) s2 i;ac_rfl;refine#[go hi,λx B y=>?_];rfl';let⟨G3,d,C,hd,dv⟩:=yld x B hi y;rw[kW hd] at h;ac_rfl;refine#[G3,L,d,_,C.sub,en.mono C.gg,dv,h,λE F p I=>?_];refine#[G3,E,_,C.sub,I,F,λb hb G5 M s=>?_];have j:=C.trans s;have a:∀{G t:Hp},Ext Q H G t->G f=none:=λx=>x.off f (by rw[T];exact λz=>nomatch z) gA
 have yD:∀{G t:Hp},Ext Q H G t->∀b,m b≠none->l b=none->G b=none:=λx b F h2=>x.off b (cO S F)^off b F h2;cases b with
 |false=>
  refine cL #[E,acc,#[G5,k,R.trans j.gg,j.sub,S.trans j.hh,yD j,a j,j.hh _ _ T,Y.mono j.gg,I.mono s.gg],?_];simpa using hb
 |true=>
  refine b9 #[G5,E,_,s.sub,I.mono s.gg,(~~~hb),λd' iQ v G6 O x6 X=>?_]
  have x:=j.trans x6;refine#[k,x.hh _ _ T,by rw[Y.length];exact iQ.1,E,_,#[G6,k++ [v],R.trans x.gg,λb o e=>?_,λb o e=>?_,yD x,a x,ae,(Y.mono x.gg).snoc X,(I.mono s.gg).mono x6.gg],iQ.2]
  .rw[af^aq e^a x];exact x.sub _ _ e
  .rw[af^aq e hA];exact(S.trans x.hh) _ _ e
def CS.done(c:CS Z h g d n acc p i)(f:Ext G H h g)(q:g d=none):∃j,Ext G H j i/\Dv Z j (.ref d)^.lst acc:=by
 rfl';let⟨s,u,v,w,x,off,k,y,A,E⟩:=c;ac_rfl;refine#[upd s d^.lst u,#[(f.gg.trans v).trans^ay k _,λb o e=>?_,f.hh.trans x,λb l B=>?_], .lst ae^A.mono^ay k _]
 .by_cases z:b=d
  .subst z;rw[ae] at e;cases e;exact y
  .rw[af z] at e;exact w _ _ e
 .have m:=cO f.hh l
  rw[af^λz=>m^by rw[z];exact q]
  exact off b m^f.off b l B
def CS.begin(s:aC d f)(i:f g=none)(l:dZ Z d k j):CS Z d f g j [] k^upd f g^.lst []:=
 #[d,[], .refl _,λb o e=>by rw[af^aq e^s.free i];exact s _ _ e,ay i _,λ_ _ h=>h,s.free i,ae, .nil,l]
variable {tg iter elt:e_} {ifs:List e_} {scope:Scope} {NC:List ee} {src:List^Option Nat} {wi:jW} {g:eO} {tt:eB}
def Mq:∀o H Q,eL Z (XH wi g tt te src) o H Q->SV (qi Z wi) (og Z g) (liftT Z tt) (eL Z te) src o H Q:=by
 intro o H Q E;rfl';let⟨G,F,P,s,y,h,q⟩:=E;ac_rfl;refine#[G,F,_,s,y,h,λd I J A L p B M r=>?_];refine#[λi m u j=>m=d.length-i/\i<=d.length/\∃l acc,CS Z A L M l acc u j/\lcW g tt te (d.drop i) l acc λ_ out=>P^.lst out,#[_,rfl,d9 _,_,[], .begin p.sub r^(y.mono p.gg).src src,I],?_];intro i m u j N;rfl';let⟨rfl,a,l,acc,c,v⟩:=N;ac_rfl
 by_cases C:i<d.length
 .obtain⟨O,k⟩:=DH r A B i l acc u j c (λ_ s=>s) C v
  exact .inr #[O,_,λb t n=>#[d.length-(i+1),(by omega),rfl,C,n],k]
 .have e:d.drop i= []:=qS ()
  rfl';rw[e] at v;let⟨R,x,dv⟩:=c.done p r;let⟨S,X,T,Y,f⟩:=c;ac_rfl;exact .inl #[(B S j T Y i).2.1 (),q _ v _ R j x dv]
def nQ(f:X.calm=true)(c:bD X scope)(h:dE scope X.N src NC)(i:DI Z X tg iter wi)
  (j:∀d s H,DG Z (bG X scope NC d s H) tg g) (k:∀d s H,Eo Z (bG X scope NC d s H) ifs tt) (l:∀d s H,DE Z (bG X scope NC d s H) elt te)
  (m:(∀x,ey iter X.env x=pure x)<|>xx):DE Z X (.ListComp elt [#[tg,iter,ifs,0]] scope pos)^XH wi g tt te src:=(KL f c h i j k l m).imp Mq
variable {t0 i0 t1 i1:Expr} {f0 f1:List Expr} {cD:jW} {g1:eO} {bS:eB}
def Rm:∀σ H Q,eL Z (Wu wi g tt cD g1 bS te src) σ H Q->Xf (qi Z wi) (og Z g) (liftT Z tt) (qi Z cD) (og Z g1) (liftT Z bS) (eL Z te) src σ H Q:=by
 intro σ H Q aN;rfl';let⟨G,ρ,P,s,en,h,q⟩:=aN;ac_rfl;refine#[G,ρ,_,s,en,h,λl hd J E r x1 it j hA=>?_];refine#[λi m dq F=>m=l.length-i/\i<=l.length/\∃u acc,CS Z E r j u acc dq F/\sD g tt cD g1 bS te (l.drop i) u acc λout=>P^.lst out,#[_,rfl,d9 _,_,[], .begin x1.sub hA^(en.mono x1.gg).src src,hd],?_];intro i m dq F jE;rfl';let⟨rfl,hi,u,acc,c,hl⟩:=jE;ac_rfl
 by_cases bQ:i<l.length
 .have c0:=c
  rfl';let⟨R,p,S,s2,s3,off,gA,mB,bH,P5⟩:=c;let⟨go,f,yld⟩:=it R F S s2 i;ac_rfl;refine .inr #[go bQ,λT I=>∃Y a,CS Z E r j Y a T I/\sD g tt cD g1 bS te (l.drop (i+1)) Y a λout=>P^.lst out,λT I n=>#[l.length-(i+1),(by omega),rfl,bQ,n],λx H3 y=>?_]
  rfl';let⟨G3,d,x3,EV,dv⟩:=yld x H3 bQ y;rw[kW EV] at hl;ac_rfl;refine#[G3,u,d,_,x3.sub,P5.mono x3.gg,dv,hl,λt L eU pZ=>?_];refine#[G3,t,_,x3.sub,pZ,L,λb X G5 H5 x5=>?_];have w:=x3.trans x5;have uZ:∀{G M:Hp},Ext R F G M->G j=none:=λx=>x.off j (by rw[mB];exact λz=>nomatch z) gA
  have yD:∀{G M:Hp},Ext R F G M->∀b,r b≠none->E b=none->G b=none:=λx b L h2=>x.off b (cO s3 L)^off b L h2;cases b with
  |false=>exact cL #[t,acc,#[G5,p,S.trans w.gg,w.sub,s3.trans w.hh,yD w,uZ w,w.hh _ _ mB,bH.mono w.gg,pZ.mono x5.gg],by simpa using X]
  |true=>
   refine b9 #[G5,t,_,x5.sub,pZ.mono x5.gg,(~~~X),λN YB J1 G6 H6 x6 HH=>?_]
   have x:=w.trans x6;have c6:CS Z G6 H6 j t acc eU H6->True:=λ_=>trivial
   refine#[λk m qU A=>m=N.length-k/\k<=N.length/\∃(B2:DN)(GF:List D),(∃(G:Hp)(p:List V),aC G6 G/\aC G A/\aC r A/\(∀b,r b≠none->E b=none->G b=none)/\G j=none/\A j\(.lst p)/\DvAll Z G p GF/\dZ Z G qU B2)/\
    lcW g1 bS te (N.drop k) B2 GF λu zT=>sD g tt cD g1 bS te (l.drop (i+1)) u zT λout=>P^.lst out,
    #[_,rfl,d9 _,t,acc,#[G6,p, .refl _,x.sub,s3.trans x.hh,yD x,uZ x,x.hh _ _ mB,bH.mono x.gg,(pZ.mono x5.gg).mono x6.gg],YB],?_]
   intro k m qU A jE;rfl';obtain⟨rfl,hk,B2,GF,⟨G7,Wc,a1,a2,a3,a4,a5,a6,a7,a8⟩,r8⟩:=jE;ac_rfl;have X4:aC E G6:=S.trans x.gg
   by_cases Aq:k<N.length
   .obtain⟨X7,_,Th⟩:=HH G7 A a1 a2 k
    refine .inr #[X7 Aq,λT I=>∃(Y:DN)(a:List D),(∃(G:Hp)(p:List V),aC G6 G/\aC G I/\aC r I/\(∀b,r b≠none->E b=none->G b=none)/\G j=none/\I j\(.lst p)/\DvAll Z G p a/\dZ Z G T Y)/\
     lcW g1 bS te (N.drop (k+1)) Y a λu zT=>sD g tt cD g1 bS te (l.drop (i+1)) u zT λout=>P^.lst out,λT I n=>#[N.length-(k+1),(by omega),rfl,Aq,n],λy H8 hy=>?_]
    rfl';let⟨G8,d8,x8,Yw,XT⟩:=Th y H8 Aq hy;rw[kW Yw] at r8;ac_rfl;refine#[G8,B2,d8,_,x8.sub,a8.mono x8.gg,XT,r8,λCO h9 σ9 Cg=>?_];refine#[G8,CO,_,x8.sub,Cg,h9,λb X O1 zd zB=>?_];have B:=x8.trans zB;have oA:∀{G M:Hp},Ext G7 A G M->G j=none:=λx=>x.off j (by rw[a6];exact λz=>nomatch z) a5
    have oB:∀{G M:Hp},Ext G7 A G M->∀b,r b≠none->E b=none->G b=none:=λx b L h2=>x.off b (cO a3 L)^a4 b L h2;cases b with
    |false=>exact cL #[CO,GF,#[O1,Wc,a1.trans B.gg,B.sub,a3.trans B.hh,oB B,oA B,B.hh _ _ a6,a7.mono B.gg,Cg.mono zB.gg],by simpa using X]
    |true=>
     refine b9 #[O1,CO,_,zB.sub,Cg.mono zB.gg,(~~~X),λd' iQ v Xk B4 LB P4=>?_]
     have C:=B.trans LB;refine#[Wc,C.hh _ _ a6,by rw[a7.length];exact iQ.1,CO,_,#[Xk,Wc++ [v],a1.trans C.gg,λb o e=>?_,λb o e=>?_,oB C,oA C,ae,(a7.mono C.gg).snoc P4,(Cg.mono zB.gg).mono LB.gg],iQ.2]
     .rw[af^aq e^oA C];exact C.sub _ _ e
     .rw[af^aq e hA];exact(a3.trans C.hh) _ _ e
   .have e:N.drop k= []:=qS ()
    rw[e] at r8;exact .inl #[(HH G7 A a1 a2 k).2.1 (),B2,GF,#[G7,Wc,X4.trans a1,a2,a3,a4,a5,a6,a7,a8],r8]
 .have e:l.drop i= []:=qS ()
  rfl';rw[e] at hl;let⟨G',x,dv⟩:=c.done x1 hA;let⟨R,p,S,s2,f⟩:=c;ac_rfl;exact .inl #[(it R F S s2 i).2.1 (),q _ hl _ G' F x dv]
def TY(f:X.calm=true)(c:bD X scope)(h:dE scope X.N src NC)(i:DI Z X t0 i0 wi)
  (j:∀d s H,DG Z (bG X scope NC d s H) t0 g) (k:∀d s H,Eo Z (bG X scope NC d s H) f0 tt) (l:∀d s H,DI Z (bG X scope NC d s H) t1 i1 cD) (m:∀d s H,DG Z (bG X scope NC d s H) t1 g1)
  (n:∀d s H,Eo Z (bG X scope NC d s H) f1 bS) (o:∀d s H,DE Z (bG X scope NC d s H) elt te)
  (p:(∀x,ey i0 X.env x=pure x)<|>xx) (q:(∀env x,ey i1 env x=pure x)<|>wr):
  DE Z X (.ListComp elt [#[t0,i0,f0,0],#[t1,i1,f1,0]] scope pos)^Wu wi g tt cD g1 bS te src:=(Vj f c h i j k l m n o p q).imp Rm
end
inductive c7 (R:V->D->List Addr->Prop):List V->List D->List Addr->Prop
 |nil:c7 R [] [] []
 |cons {v:V} {vs:List V} {d:D} {ds:List D} {f fs:List Addr}:R v d f->c7 R vs ds fs->c7 R (v::vs) (d::ds) (f++fs)
noncomputable def isL:D->Bool
 | .lst _=>true
 |_=>false
def Own(Z:DC)(G H:Hp):Nat->V->D->List Addr->Prop
 |0,v,d,c=>Dv Z G v d/\c= []
 |n+1,v,d,c=>(∃a e g i,v= .ref a/\d= .lst g/\H a\(.lst e)/\c=a::i/\c7 (Own Z G H n) e g i)\/(1<=n/\∃a e g,v= .ref a/\d= .tup g/\G a\(.tup e)/\c7 (λv d f=>(isL d=true/\Own Z G H n v d f)\/(isL d=false/\Dv Z G v d/\f= [])) e g c)\/(∃a h,v= .ref a/\H a\(.ext h)/\c= [a]/\((n=98/\∃b j,d= .set b j/\h=Wi b a j)\/(n=97/\∃k,d= .x k/\Nb G a h k)))
theorem Own.lst{Z:DC}{G H:Hp}{n:Nat}{v:V}{c:List D}{d:List Addr}(o:Own Z G H (n+1) v (.lst c) d):∃a xs f g,v= .ref a/\D.lst c= .lst f/\H a\(.lst xs)/\d=a::g/\c7 (Own Z G H n) xs f g:=by
 rcases o with o| ⟨_,a,xs,c,_,e,_⟩ | ⟨a,h,_,_,_,⟨_,b,i,e,_⟩ | ⟨_,k,e,_⟩⟩
 .exact o
 .cases e
 .cases e
 .cases e
def Own.xA(o:Own Z G H 98 v (.x k) d):∃a c,v= .ref a/\H a\(.ext c)/\d= [a]/\Nb G a c k:=by
 rcases o with ⟨_,_,_,_,_,e,_⟩ | ⟨_,a,j,l,_,e,_⟩ | ⟨a,c,f,g,h,⟨_,b,m,e,n⟩ | ⟨_,k,e,i⟩⟩
 .cases e
 .cases e
 .cases e
 .cases e;exact#[a,c,f,g,h,i]
def Own.one{d:D}(o:Own Z G H 1 v d b):∃a c e f,v= .ref a/\d= .lst e/\H a\(.lst c)/\b=a::f/\c7 (Own Z G H 0) c e f:=by
 rcases o with o| ⟨z,_⟩ | ⟨_,_,_,_,_,⟨z,_⟩ | ⟨z,_⟩⟩
 .exact o
 .exact absurd z ∅
 .exact absurd z ∅
 .exact absurd z ∅
def c7.imp{i:List V}(o:c7 R i j c)(h:∀v d f,(∀b∈f,b∈c)->R v d f->g v d f):c7 g i j c:=by
 induction o with
 |nil=>exact .nil
 |cons a _ k=>exact .cons (h _ _ _ (λb e=>lH _ e) a) (k λv d f l r=>h v d f (λb e=>fW _^l b e) r)
theorem c7.length{a:List V}(o:c7 R a b c):a.length=b.length:=by
 induction o with
 |nil=>rfl
 |cons _ _ d=>exact KF (·+1) d
section
variable {Z:DC} {G G' H H':Hp}
theorem Own.keep:∀{v:V}{d:D}{g:List Addr},Own Z G H n v d g->aC G G'->(∀b∈g,H' b=H b)->Own Z G' H' n v d g:=by
 induction n with
 |zero=>exact λh s _=>#[h.1.mono s,h.2]
 |succ n u=>
  intro v d g h s k
  rcases h with ⟨a,j,l,w,c,m,e,i,o⟩ | ⟨p,a,j,l,c,m,e,o⟩ | ⟨a,x,c,e,i,y⟩
  .subst i
   exact .inl #[a,j,l,w,c,m,by rw[k a (c5 ..)];exact e,rfl,o.imp λv d f t r=>u r s λb q=>k b^dY _^t b q]
  .exact .inr^.inl #[p,a,j,l,c,m,s _ _ e,o.imp λv d f t r=>r.imp (λr=>#[r.1,u r.2 s λb q=>k b^t b q]) λr=>#[r.1,r.2.1.mono s,r.2.2]]
  .exact .inr^.inr #[a,x,c,by rw[k a^by rw[i];exact c5 ..];exact e,i,y.imp id λ#[p,k,A,B]=>#[p,k,A,B.mono s]]
def c7.Wz(o:c7 R e g h)(k:∀v d f,(∀b∈f,b∈h)->R v d f->Dv Z G' v d):DvAll Z G' e g:=by
 induction o with
 |nil=>exact .nil
 |cons a _ i=>exact .cons (k _ _ _ (λb c=>lH _ c) a) (i λv d f j r=>k v d f (λb c=>fW _^j b c) r)
def Own.Wy(o:HO->Prop)(y:∀j,o^.lst j)(t:∀u,o^.ext u):∀{v:V}{d:D}{l:List Addr},Own Z G H n v d l->aC G G'->(∀b∈l,∀x,o x->H b\x->G' b\x)->Dv Z G' v d:=by
 induction n with
 |zero=>exact λh s _=>h.1.mono s
 |succ n w=>
  intro v d l h s k
  rcases h with ⟨a,j,A,C,i,c,g,e,m⟩ | ⟨_,a,j,A,i,c,g,m⟩ | ⟨a,u,i,g,e,B⟩
  .subst e i c
   exact .lst (k a (c5 ..) _ (y _) g) (m.Wz λv d f e r=>w r s λb p=>k b^dY _^e b p)
  .subst i c
   exact .tup (s _ _ g) (m.Wz λv d f e r=>r.elim (λr=>w r.2 s λb p=>k b^e b p) λr=>r.2.1.mono s)
  .subst i e
   rcases B with ⟨_,b,E,c,q⟩ | ⟨_,F,c,q⟩
   .subst c q
    exact .set^k a (c5 ..) _ (t _) g
   .subst c
    exact .x (k a (c5 ..) _ (t _) g)^q.mono s
def Own.dv{d:D}(h:Own Z G H n v d a)(s:aC G G')(k:∀b∈a,∀o,H b\o->G' b\o):Dv Z G' v d:=h.Wy (λ_=>True) (λ_=>trivial) (λ_=>trivial) s λb c x _ e=>k b c x e
def c7.flat(o:c7 (Own Z G H 0) b c d):DvAll Z G b c/\d= []:=by
 induction o with
 |nil=>exact#[.nil,rfl]
 |cons a _ e=>exact#[.cons a.1 e.1,by rw[a.2,e.2];rfl]
def DvAll.own(h:DvAll Z G c d):c7 (Own Z G H 0) c d []:=h.ind (p:=λc d=>c7 (Own Z G H 0) c d []) .nil λa _ b=> .cons (f:= []) (fs:= []) #[a,rfl] b
end
mutual
noncomputable def qm:D->Bool
 | .aQ=>true
 | .bl _=>true
 | .int _=>true
 | .str _=>true
 | .tup l=>Mv l
 |_=>false
noncomputable def Mv:List D->Bool
 | []=>true
 |d::ds=>qm d&&Mv ds
end
theorem Dv.qm(k:∀b xs,G b\(.tup xs)->e b\(.tup xs))(h:Dv Z G v d):L2.qm d=true->Dv Z e v d:=by
 have c:∀{p:Prop}{d:D},L2.qm d=false->L2.qm d=true->p:=λa b=>by rw[a] at b;cases b
 refine Dv.rec (motive_1:=λv d _=>L2.qm d=true->Dv Z e v d) (motive_2:=λj g _=>Mv g=true->DvAll Z e j g) (λ_=> .aQ) (λb _=> .bl b) (λi _=> .int i) (λx h _=> .str x h) (λ_ _ _=>c^by rw[L2.qm]<;>simp) (λh _ l f=> .tup (k _ _ h)^l^by rw[L2.qm] at f;exact f) (λ_=>c^by rw[L2.qm]<;>simp) (λ_=>c^by rw[L2.qm]<;>simp) (λ_ _=>c^by rw[L2.qm]<;>simp) (λ_ _ _ _ _ _=>c^by rw[L2.qm]<;>simp) (λ_=>c^by rw[L2.qm]<;>simp) (λ_ _=>c^by rw[L2.qm]<;>simp) (λ_ _ _ _=>c^by rw[L2.qm]<;>simp) (λ_=> .nil) (λ_ _ m n f=>?_) h
 rw[Mv,BZ] at f;exact .cons (m f.1)^n f.2
noncomputable def RT:HO->Bool
 | .lst _=>true
 | .ext _=>true
 |_=>false
def Own.dvL(h:Own Z G H n v d c)(s:aC G a)(k:∀b∈c,∀o,RT o=true->H b\o->a b\o):Dv Z a v d:=h.Wy (λo=>RT o=true) (λ_=>rfl) (λ_=>rfl) s k
structure Bs where
 G₀:Hp
 H₀:Hp
 Gf:Hp
structure SIx (Z:DC) (B:Bs) (md:List Nat) (ρ:DN) (σ:St) (H G:Hp) (fp:Nat->List Addr):Prop where
 ex:Ext B.G₀ B.H₀ G H
 fl:aC B.Gf G
 len:ρ.length=σ.length
 at_:∀(i:Nat)(d:D),ρ[i]?\(some d)->∃v,σ[i]?\(some v)/\Own Z G H (md.getD i 0) v d (fp i)
 nd:∀i,(fp i).Nodup
 ap:∀i j b,i≠j->b∈fp i->b∉fp j
 nw:∀i b,b∈fp i->B.H₀ b=none/\H b≠none/\G b=none
def SI(Z:DC)(B:Bs)(a:List Nat)(b:DN)(c:St)(H:Hp):Prop:=∃G d,SIx Z B a b c H G d
noncomputable def cG:List Nat->DN->DN
 |_,[]=> []
 | [],o::a=>o::a
 |0::b,o::a=>o::cG b a
 | (_+1)::b,_::a=>none::cG b a
theorem tV:∀(a:List Nat)(b:DN),(cG a b).length=b.length
 |a,[]=>by cases a<;>rfl
 | [],o::b=>rfl
 |0::a,o::b=>by rw[cG,dQ,tV a b,dQ]
 | (_+1)::a,_::b=>by rw[cG,dQ,tV a b,dQ]
theorem xG:∀(c:List Nat)(e:DN)(i:Nat),(cG c e)[i]?\(some d)->c.getD i 0=0/\e[i]?\(some d)
 |c,[],i,h=>by cases c<;>simp[cG] at h
 | [],o::e,i,h=>#[by simp,h]
 |0::c,o::e,0,h=>#[rfl,by simpa [cG] using h]
 |0::c,o::e,i+1,h=>by
  rw[cG,yV] at h;obtain⟨a,b⟩:=xG c e i h;exact#[by rw[List.getD_cons_succ];exact a,by rw[yV];exact b]
 | (_+1)::c,_::e,0,h=>by simp[cG] at h
 | (_+1)::c,_::e,i+1,h=>by
  rw[cG,yV] at h;obtain⟨a,b⟩:=xG c e i h;exact#[by rw[List.getD_cons_succ];exact a,by rw[yV];exact b]
noncomputable def IU(b:List Nat):Bool->DN->DN
 |true,a=>a
 |false,a=>cG b a
def uH:Bool->D->Prop
 |true,d=>qm d=true
 |false,_=>True
section
variable {Z:DC} {B:Bs} {md:List Nat} {ρ:DN} {σ:St} {H G:Hp} {fp:Nat->List Addr}
def KZ(h:(cG md ρ)[i]?\(some d)):md.getD i 0=0/\ρ[i]?\(some d):=xG md ρ i h
def SIx.uG(S:SIx Z B md ρ σ H G fp):dZ Z G σ^cG md ρ:=by
 refine#[by rw[tV];exact S.len,λi d h=>?_]
 let⟨z,h⟩:=KZ h;let⟨v,a,o⟩:=S.at_ i d h;rw[z] at o;exact#[v,a,o.1]
def SIx.aaQ(S:SIx Z B md ρ σ H G fp):dZ Z H σ ρ:=by
 refine#[S.len,λi d h=>?_];obtain⟨v,a,o⟩:=S.at_ i d h;exact#[v,a,o.dv S.ex.sub λb _ u e=>e]
theorem SIx.grow{c f:Hp}(S:SIx Z B md ρ σ H G fp)(x:Ext G H c f):SIx Z B md ρ σ f c fp where
 ex:=S.ex.trans x
 fl:=S.fl.trans x.gg
 len:=S.len
 at_:=λi d h=>by
  obtain⟨v,j,o⟩:=S.at_ i d h;refine#[v,j,o.keep x.gg λb a=>?_];cases e:H b with
  |none=>exact absurd e (S.nw i b a).2.1
  |some u=>exact x.hh _ _ e
 nd:=S.nd
 ap:=S.ap
 nw:=λi b a=>let #[k,g,l]:=S.nw i b a;#[k,cO x.hh g,x.off b g l]
def Ext.all(s:aC G H)(x:Ext H H b a):Ext G H G a:=#[.refl _,s.trans x.hh,x.hh,λ_ _ h=>h]
open Classical in
noncomputable def j5(G H:Hp)(fp:Nat->List Addr):Hp:=λb=>if ∃i,b∈fp i then(match H b with|some (.lst xs)=>some (.lst xs) |some (.ext φ)=>some (.ext φ) |_=>none) else G b
open Classical in
noncomputable def xl(G:Hp)(fp:Nat->List Addr):Hp:=λb=>if ∃i,b∈fp i then none else G b
def OW(i:Nat)(h:b∈fp i)(a:RT o=true)(e:H b\o):j5 G H fp b\o:=by
 unfold j5;rw[mo #[i,h],e];cases o<;>first|rfl|cases a
def t9(h:¬∃i,b∈fp i):j5 G H fp b=G b:=tz h
def SIx.WB(S:SIx Z B md ρ σ H G fp):aC G^j5 G H fp/\aC (j5 G H fp) H/\dZ Z (j5 G H fp) σ ρ:=by
 have c:aC G^j5 G H fp:=λb o e=>by
  by_cases h:∃i,b∈fp i
  .obtain⟨i,f⟩:=h
   rw[(S.nw i b f).2.2] at e;cases e
  .rw[t9 h];exact e
 refine#[c,λb o e=>?_,S.len,λi d h=>?_]
 .by_cases h:∃i,b∈fp i
  .unfold j5 at e
   rw[mo h] at e
   split at e
   .next l a=>rw[a];exact e
   .next m a=>rw[a];exact e
   .cases e
  .rw[t9 h] at e;exact S.ex.sub _ _ e
 .obtain⟨v,g,o⟩:=S.at_ i d h
  exact#[v,g,o.dvL c λb j u k a=>OW i j k a]
def SIx.abG(S:SIx Z B md ρ σ H G fp)(x:Ext (j5 G H fp) H a g):Ext G H (xl a fp) g/\∀b d,a b\(.tup d)->xl a fp b\(.tup d):=by
 let⟨j,l,m⟩:=S.WB;refine#[#[λb o e=>?_,λb o e=>?_,x.hh,λb f k=>?_],λb d e=>?_]
 .have h:¬∃i,b∈fp i:=by
   rintro⟨i,c⟩;rw[(S.nw i b c).2.2] at e;cases e
  unfold xl;rw[tz h];exact x.gg _ _^j _ _ e
 .unfold xl at e
  split at e
  .cases e
  .exact x.sub _ _ e
 .unfold xl
  split
  .rfl
  .next h=>exact x.off b f^by rw[t9 h];exact k
 .have h:¬∃i,b∈fp i:=by
   rintro⟨i,c⟩;have f:=(S.nw i b c).2.1;cases hw:j5 G H fp b with
   |none=>rw[x.off b f hw] at e;cases e
   |some o=>
    have:=x.gg _ _ hw
    rw[e] at this;cases Do this;unfold j5 at hw;rw[mo #[i,c]] at hw
    split at hw<;>cases hw
  unfold xl;rw[tz h];exact e
theorem SIx.ev(S:SIx Z B md ρ σ H G fp)(m:Bool)(h:t (IU md m ρ) P)
  (f:∀d,P d->uH m d/\∀v b a,SIx Z B md ρ σ a b fp->Ext G H b a->Dv Z b v d->Q v a):eL Z t σ H Q:=by
 cases m with
 |false=>exact#[G,_,P,S.ex.sub,S.uG,h,λd c v b a x dv=>(f d c).2 v b a (S.grow x) x dv]
 |true=>
  let⟨j,i,e⟩:=S.WB;refine#[j5 G H fp,_,P,i,e,h,λd c v b a x dv=>?_];let⟨g,k⟩:=S.abG x;exact(f d c).2 v _ a (S.grow g) g^dv.qm k (f d c).1
def SIx.evT(S:SIx Z B md ρ σ H G fp)(h:t ρ P)(c:∀b,P b->∀a,SIx Z B md ρ σ a G fp->Q b a):liftT Z t σ H Q:=
 #[H,ρ,P, .refl _,S.aaQ,h,λb d e a x=>c b d a^S.grow^Ext.all S.ex.sub x]
def SIx.pq(S:SIx Z B md ρ σ H G fp)(l:md.getD i 0=0)(dv:Dv Z G v d):SIx Z B md (ρ.set i^some d) (σ.set i^some v) H G (λj=>if j=i then[] else fp j) where
 ex:=S.ex
 fl:=S.fl
 len:=by rw[i6,i6];exact S.len
 at_:=λj c h=>by
  by_cases z:i=j
  .subst z
   by_cases a:i<ρ.length
   .rw[nI a] at h
    cases Do h;exact#[v,nI^by rw[<-S.len];exact a,by rw[l,mo rfl];exact#[dv,rfl]]
   .rw[Ej^lI a,gP^lI a] at h;cases h
  .rw[pB z] at h ⊢
   rw[tz^Ne.symm z];exact S.at_ j c h
 nd:=λj=>by split;exact iN;exact S.nd j
 ap:=λj k b ne e f=>by
  split at e
  .cases e
  .split at f
   .cases f
   .exact S.ap j k b ne e f
 nw:=λj b g=>by
  split at g
  .cases g
  .exact S.nw j b g
def SIx.Sz{f:List Addr}(S:SIx Z B md ρ σ H G fp)(m:md.getD i 0=n)(o:Own Z G H n v d f)(nd:f.Nodup)(nw:∀b∈f,B.H₀ b=none/\H b≠none/\G b=none)(ap:∀b∈f,∀j,j≠i->b∉fp j):
  SIx Z B md (ρ.set i^some d) (σ.set i^some v) H G (λj=>if j=i then f else fp j) where
 ex:=S.ex
 fl:=S.fl
 len:=by rw[i6,i6];exact S.len
 at_:=λj c h=>by
  by_cases z:i=j
  .subst z
   by_cases e:i<ρ.length
   .rw[nI e] at h
    cases Do h;exact#[v,nI^by rw[<-S.len];exact e,by rw[m,mo rfl];exact o]
   .rw[Ej^lI e,gP^lI e] at h;cases h
  .rw[pB z] at h ⊢
   rw[tz^Ne.symm z];exact S.at_ j c h
 nd:=λj=>by split;exact nd;exact S.nd j
 ap:=λj k b ne g a=>by
  split at g
  .next z=>
   rw[tz^λw=>ne^z.trans w.symm] at a;exact ap b g k (λw=>ne^z.trans w.symm) a
  .next z=>
   split at a
   .exact ap b a j z g
   .exact S.ap j k b ne g a
 nw:=λj b l=>by
  split at l
  .exact nw b l
  .exact S.nw j b l
noncomputable def plus(G H:Hp)(F:Addr->Prop):Hp:=λb=>open Classical in if F b then H b else G b
def jN(h:F b):plus G H F b=H b:=by unfold plus;rw[mo h]
def gK(h:¬F b):plus G H F b=G b:=by unfold plus;rw[tz h]
def rK(s:aC G H):aC (plus G H F) H:=λb o e=>by
 by_cases h:F b
 .rw[jN h] at e;exact e
 .rw[gK h] at e;exact s _ _ e
def iL(s:aC G H):aC G^plus G H F:=λb o e=>by
 by_cases h:F b
 .rw[jN h];exact s _ _ e
 .rw[gK h];exact e
def SIx.evR(S:SIx Z B md ρ σ H G fp)(h:t ρ P)(g:∀d,P d->∀v a c,Ext B.G₀ B.H₀ a c->Dv Z a v d->Q v c):eL Z t σ H Q:=by
 let F:Addr->Prop:=λb=>∃i,b∈fp i
 have s:=S.ex.sub
 have j:Ext B.G₀ B.H₀ (plus G H F) H:=#[S.ex.gg.trans^iL s,rK s,S.ex.hh,λb f k=>by
  rw[gK^λ#[i,l]=>f (S.nw i b l).1];exact S.ex.off b f k]
 refine#[plus G H F,ρ,P,rK s,#[S.len,λi d h=>?_],h,λd m v a c x dv=>g d m v a c (j.trans x) dv];obtain⟨v,n,o⟩:=S.at_ i d h;exact#[v,n,o.dv (iL s) λb f u e=>by rw[jN #[i,f]];exact e]
end
structure fB where
 nx:DN->Prop
 rt:D->Prop
 bk:DN->Prop:=λ_=>False
 ct:DN->Prop:=λ_=>False
 xc:DN->D->Prop:=λ_ _=>False
abbrev dJ:=fB->DN->Prop
structure Meets (Z:DC) (X:Cx) (B:Bs) (md:List Nat) (rn:Nat) (E:fB) (Dn:Ends):Prop where
 nx:∀ρ,E.nx ρ->∀σ H,SI Z B md ρ σ H->Dn.nx σ H
 rt:∀d,E.rt d->∀v f G' H',Ext B.G₀ B.H₀ G' H'->Own Z G' H' rn v d f->f.Nodup->(∀b∈f,B.H₀ b=none/\H' b≠none/\G' b=none)->Dn.rt v H'
 bk:∀ρ,E.bk ρ->∀σ H,SI Z B md ρ σ H->Dn.bk σ H
 ct:∀ρ,E.ct ρ->∀σ H,SI Z B md ρ σ H->Dn.ct σ H
 xc:∀ρ d,E.xc ρ d->∀σ H G fp a,SIx Z B md ρ σ H G fp->Dv Z G (.ref a) d->GD X σ H a
def oh(Z:DC)(X:Cx)(a:List Nat)(c:Nat)(t:dJ):TS:=λd e H=>∃(B:Bs)(b:DN)(E:fB),SI Z B a b e H/\t E b/\Meets Z X B a c E d
def DSt(Z:DC)(X:Cx)(a:List Nat)(b:Nat)(st:Stmt)(t:dJ):Prop:=PS X st^oh Z X a b t
def nM(Z:DC)(X:Cx)(a:List Nat)(b:Nat)(c:List Stmt)(t:dJ):Prop:=jX X c^oh Z X a b t
def PS.imp{X:Cx}{st:Stmt}{t t':TS}(h:PS X st t)(f:∀D b H,t' D b H->t D b H):PS X st t':=λa s b H D I q=>h a s b H D I^f _ _ _ q
def jX.imp{X:Cx}{st:List Stmt}{t t':TS}(h:jX X st t)(f:∀D b H,t' D b H->t D b H):jX X st t':=λa s b H D I q=>h a s b H D I^f _ _ _ q
section
variable {Z:DC} {X:Cx} {md:List Nat} {rn:Nat} {st:Stmt} {Bx:List Stmt} {t u:dJ} {e:Expr} {te:aY} {pos:Pos}
def Jz:dJ:=λE a=>E.nx a
def LW(t u:dJ):dJ:=λE a=>t {E with nx:=u E} a
def bf:nM Z X md rn [] Jz:=by
 refine qs.imp λD b H a=>?_;obtain⟨B,c,E,S,h,M⟩:=a;exact M.nx _ h _ _ S
def aw(a:DSt Z X md rn st t)(b:nM Z X md rn Bx u):nM Z X md rn (st::Bx)^LW t u:=by
 refine(aF a b).imp λD k H c=>?_;rfl';let⟨B,f,E,S,h,M⟩:=c;ac_rfl;exact#[B,f,_,S,h,#[λg i m n j=>#[B,g,E,j,i,M],M.rt,M.bk,M.ct,M.xc]]
def au(a:DSt Z X md rn st t):nM Z X md rn [st] t:=bB a
def dss_never:nM Z X md rn Bx (λ_ _=>False):=by
 refine KW.imp λD b H a=>?_;obtain⟨B,c,E,S,h,M⟩:=a;exact h
def C2:DSt Z X md rn st (λ_ _=>False):=by
 refine Oy.imp λD b H a=>?_;obtain⟨B,c,E,S,h,M⟩:=a;exact h
def aaI(a:aY):dJ:=λE b=>a b E.rt
def aO(a:DE Z X e te):DSt Z X md 0 (.Return (some e) pos)^aaI te:=by
 refine(h8 a).imp λD l H c=>?_;rfl';obtain⟨B,n,E,⟨G,o,S⟩,h,M⟩:=c;ac_rfl;exact S.evR h λd g v i j x dv=>M.rt d g v [] i j x #[dv,rfl] iN^λb k=>by cases k
def Pr(c:eB)(t u:dJ):dJ:=λE a=>c a λb=>if b=true then t E a else u E a
def cw(j:DT Z X c tc)(k:nM Z X md rn a t)(d:nM Z X md rn b u):DSt Z X md rn (.If c a b pos)^Pr tc t u:=by
 refine(A9 j k d).imp ?_;intro D n H l;rfl';obtain⟨B,f,E,⟨G,g,S⟩,h,M⟩:=l;ac_rfl;refine S.evT h λb d p i=>?_;cases b with
 |true=>exact b9 #[B,f,E,#[G,g,i],(d),M]
 |false=>exact cL #[B,f,E,#[G,g,i],(d),M]
def Ww(b:List Nat)(m:Bool)(i:Nat)(c:aY):dJ:=λE a=>c (IU b m a) λd=>uH m d/\E.nx^a.set i^some d
def bM(m:Bool)(i:Nat)(g:X.N.Nodup)(j:DE Z X e k)(l:c.getD i 0=0<|>zn)(n:X.N[i]?\x<|>zn)(o:Loc X.env.scope x<|>xz)(p:gs e (some^.Name x a) b.line X.env=pure false<|>zn)
  (q:X.fn x=true\/X.env.scope.names.lookup x\.local<|>xz):DSt Z X c A (.Assign [.Name x a] e b)^Ww c m i k:=by
 refine(bW g n o j p q).imp ?_;intro D C H r;rfl';obtain⟨B,I,E,⟨G,J,S⟩,h,M⟩:=r;ac_rfl;exact S.ev m h λd f=>#[f.1,λv w L y x dv=>M.nx _ f.2 _ _ #[w,_,y.pq l dv]]
def kI(i:Nat){NC:List ee}{src:List^Option Nat}(q:X.calm=true)(r:X.N.Nodup)(c:bD X a)(w:dE a X.N src NC)(y:DI Z X k iter n)
  (A:∀j s H,DG Z (bG X a NC j s H) k g) (C:∀j s H,Eo Z (bG X a NC j s H) f o) (F:∀j s H,DE Z (bG X a NC j s H) b te)
  (I:gs (.ListComp b [#[k,iter,f,0]] a pos) (some^.Name x l) m.line X.env=pure true<|>zn) (J:md.getD i 0=0<|>zn) (L:X.N[i]?\x<|>zn) (O:Loc X.env.scope x<|>xz)
  (P:X.fn x=true\/X.env.scope.names.lookup x\.local<|>xz)
  (Q:(∀x,ey iter X.env x=pure x)<|>xx):DSt Z X md rn (.Assign [.Name x l] (.ListComp b [#[k,iter,f,0]] a pos) m)^Ww md false i^XH n g o te src:=by
 refine(nB q r L O c w y A C F I P Q).imp ?_;intro D R H T;rfl';obtain⟨B,ρ,E,⟨G,fp,S⟩,h,M⟩:=T;ac_rfl;refine Mq R H _ (S.ev false h λd p=>#[p.1,λv e H' t x dv=>M.nx _ p.2 _ _ #[e,_,t.pq J dv]])
end
end L2
namespace L2
open PySem PySem.Spec PyProof.Rows
section
variable {Z:DC} {X:Cx} {B:Bs} {md:List Nat} {rn:Nat} {ρ:DN} {σ:St} {H G:Hp} {fp:Nat->List Addr}
def Mo(Z:DC)(a:List Nat)(g:eO):TG:=λv f H Q=>∃(B:Bs)(b:DN)(d:D)(P:DN->Prop)(G:Hp)(h:Nat->List Addr),SIx Z B a b f H G h/\Dv Z G v d/\g d b P/\∀c,P c->∀e i,SIx Z B a c e H G i->Q e H
def Rl(Z:DC)(a:List Nat)(g:oQ):B6:=λf h H Q=>∃(B:Bs)(b:DN)(c:List D)(P:DN->Prop)(G:Hp)(i:Nat->List Addr),SIx Z B a b h H G i/\DvAll Z G f c/\g c b P/\∀d,P d->∀e j,SIx Z B a d e H G j->Q e H
def M0(Z:DC)(X:Cx)(a:List Nat)(e:e_)(g:eO):Prop:=PG X e^Mo Z a g
def LP(Z:DC)(X:Cx)(a:List Nat)(b:List e_)(g:oQ):Prop:=Eu X b^Rl Z a g
def aL(i:Nat)(b:X.N.Nodup)(c:e.getD i 0=0<|>zn)(f:X.N[i]?\x<|>zn)(g:Loc X.env.scope x<|>xz)(j:X.fn x=true\/X.env.scope.names.lookup x\.local<|>xz):M0 Z X e (.Name x a)^h7 i:=by
 refine(cy b f g j).imp λv m H Q k=>?_;rfl';let⟨B,o,d,P,G,p,S,dv,h,q⟩:=k;ac_rfl;exact q _ h _ _^S.pq c dv
def cT:LP Z X md [] JD:=by
 refine nA.imp λv c H Q a=>?_;rfl';obtain⟨B,e,f,P,G,g,S,dv,⟨h,p⟩,q⟩:=a;subst h;cases dv;ac_rfl;exact#[rfl,q _ p _ _ S]
def aP(d:M0 Z X md e g)(f:LP Z X md b c)(i:(gB (e::b) X.env).map (·.2)=jq e X.env::(gB b X.env).map (·.2)<|>zn):LP Z X md (e::b)^zD g c:=by
 refine(fZ d f i).imp ?_;intro v t H Q j;rfl';let⟨B,l,w,P,G,m,S,dv,h,q⟩:=j;ac_rfl;cases dv with
 |nil=>exact h.elim
 |cons a n=>exact#[_,_,rfl,B,l,_,_,G,m,S,a,h,λo p x r s=>#[B,o,_,P,G,r,s,n,p,q]]
def fO(n:Nat)(f:X.calm=true)(h:LP Z X md b e)(g:(gB b X.env).length=n<|>zn)(i:(gB b X.env).findIdx? (·.1)=none<|>zn):M0 Z X md (.Tuple b k c)^JE n e:=by
 refine(rJ f h g i).imp ?_;rintro v p H Q ⟨B,j,d,P,G,l,S,dv,h,q⟩;cases dv<;>first|exact h.elim|skip
 rename_i a m r o b
 exact#[a,m,rfl,fM.of^S.ex.sub _ _ o,by rw[b.length];exact h.1,B,j,_,P,G,l,S,b,h.2,q]
def aav(b:List Nat)(c:aY)(g:eO):dJ:=λE a=>c (cG b a) λd=>g d a E.nx
def EJ(i:DE Z X e c)(j:M0 Z X md a g)(k:jt [a] e b.line X.env=pure false<|>zn)(hw:ju [a] e X.env=pure none<|>zn)
  (l:(gB [a] X.env).map (·.2)= [jq a X.env]<|>zn):DSt Z X md rn (.Assign [a] e b)^aav md c g:=by
 refine(rL i j k hw l).imp ?_;intro D w H m;rfl';obtain⟨B,o,E,⟨G,p,S⟩,h,M⟩:=m;ac_rfl;exact S.ev false h λd q=>#[trivial,λv f A r x dv=>#[B,o,d,E.nx,f,p,r,dv,q,λC s F t u=>M.nx _ s _ _ #[f,t,u]]]
def j8(g:eO)(a:dJ)(E:fB):List D->DN->Prop
 | [],b=>E.nx b
 |x::c,b=>g x b λd=>a {nx:=j8 g a E c,ct:=j8 g a E c,bk:=E.nx,rt:=E.rt,xc:=E.xc} d
def aay(b:List Nat)(m:Bool)(c:jW)(g:eO)(d:dJ):dJ:=λE a=>c (IU b m a) λe=>j8 g d E e a
def Dh(S:SIx Z B md h c H G fp)(P:Gz Z G J k)(Q:j8 g r E k h)(M:Meets Z X B md rn E q):
  ∃W:Nat->Nat->St->Hp->Prop,(∃m,W 0 m c H)/\∀i m c H,W i m c H->
   (J.stop i H/\q.nx c H)\/(J.go i H/\∃N:St->Hp->Prop,(∀j a,N j a->∃I,I<m/\W (i+1) I j a)/\∀x a,J.yld i H x a->Mo Z md g x c a λL v=>oh Z X md rn r {q with nx:=N,ct:=N,bk:=q.nx} L v):=by
 let p:Bs:={B with Gf:=G}
 have back:∀h c H,SI Z p md h c H->SI Z B md h c H:=λh c H #[s,t,f]=>#[s,t,#[f.ex,S.fl.trans f.fl,f.len,f.at_,f.nd,f.ap,f.nw]];have R:SIx Z p md h c H G fp:=#[S.ex, .refl _,S.len,S.at_,S.nd,S.ap,S.nw];refine#[λi m c H=>m=k.length-i/\i<=k.length/\∃h,SI Z p md h c H/\j8 g r E (k.drop i) h,#[_,rfl,d9 _,h,#[G,fp,R],Q],?_];intro i m L v T;rfl';obtain⟨rfl,hi,dm,⟨s,t,f⟩,u⟩:=T;obtain⟨go,stop,yld⟩:=P s v f.fl f.ex.sub i;ac_rfl
 by_cases A:i<k.length
 .refine .inr #[go A,λj a=>∃l,SI Z p md l j a/\j8 g r E (k.drop (i+1)) l,λj a n=>#[k.length-(i+1),(by omega),rfl,A,n],λx a y=>?_]
  rfl';obtain⟨O,d,x3,EV,dv⟩:=yld x a A y;rw[kW EV] at u;ac_rfl;refine#[p,dm,d,_,O,t,f.grow x3,dv,u,λC h4 eU F S4=>?_];exact#[p,C,_,#[O,F,S4],h4,#[λl o j a b=>#[l,b,o],M.rt,λl o j a b=>M.nx _ o _ _^back _ _ _ b,λl o j a b=>#[l,b,o],λl d o j a G' tG a' b mw=>M.xc l d o j a G' tG a' #[b.ex,S.fl.trans b.fl,b.len,b.at_,b.nd,b.ap,b.nw] mw]]
 .have e:k.drop i= []:=qS ()
  rw[e] at u;exact .inl #[stop (),M.nx _ u _ _^back _ _ _ #[s,t,f]]
variable {tg iter:Expr} {body:List Stmt} {wi:jW} {g:eO} {tb:dJ} {pos:Pos}
def dW(a:X.calm=true)(b:PassesOwn (d5 X.prog X.w) X.A X.env X.xe)(c:DI Z X tg iter wi)(d:M0 Z X md tg g)(e:nM Z X md rn body tb)
  (f:(∀x,ey iter X.env x=pure x)<|>xx):DSt Z X md rn (.For tg iter body [] pos)^aay md false wi g tb:=by
 refine(kC b a c d e f).imp ?_;intro D n H i;rfl';obtain⟨B,p,E,⟨G,q,S⟩,h,M⟩:=i;ac_rfl;exact#[G,_,_,S.ex.sub,S.uG,h,λr k J s t l m=>Dh (S.grow l) m k M]
variable {a b e:Expr} {ta te:aY} {t:ij}
def LX(c:eB)(i:dJ):dJ:=λE d=>∃W:Nat->DN->Prop,(∃m,W m d)/\∀m d,W m d->c d λb=>if b=true then i {nx:=λh=>∃f,f<m/\W f h,ct:=λh=>∃f,f<m/\W f h,bk:=E.nx,rt:=E.rt,xc:=E.xc} d else E.nx d
def wN(C:PassesOwn (d5 X.prog X.w) X.A X.env X.xe)(F:DT Z X c tc)(l:nM Z X md rn body tb):DSt Z X md rn (.While c body [] pos)^LX tc tb:=by
 refine(D1 C F l).imp ?_;intro D s H p;rfl';obtain⟨B,n,E,S,⟨W,⟨m0,J⟩,h⟩,M⟩:=p;ac_rfl;refine#[λm s H=>∃n,SI Z B md n s H/\W m n,#[m0,n,S,J],?_];intro m P Q p;rfl';obtain⟨u,⟨v,x,L⟩,N⟩:=p;ac_rfl;refine L.evT (h m u N) λb l i y=>?_;cases b with
 |false=>exact cL^M.nx _ (l) _ _ #[v,x,y]
 |true=>
  refine b9 #[λo i=>∃d f,f<m/\SI Z B md d o i/\W f d,λo i #[d,f,j,k,O]=>#[f,j,d,k,O],B,u,_,#[v,x,y],(l),?_];exact#[λd #[f,j,k] o i r=>#[d,f,j,r,k],M.rt,M.nx,λd #[f,j,k] o i r=>#[d,f,j,r,k],M.xc]
abbrev mT:=DN->(List D->Prop)->Prop
def AM(Z:DC)(n:Nat)(t:mT):TE:=λj H Q=>∃(G:Hp)(h:DN)(P:List D->Prop),aC G H/\dZ Z G j h/\t h P/\∀i,P i->∀v f d c,Ext G H d c->Own Z d c n v (.lst i) f->f.Nodup->(∀b∈f,H b=none/\c b≠none/\d b=none)->Q v c
def DF(Z:DC)(X:Cx)(n:Nat)(e:e_)(t:mT):Prop:=PE X e^AM Z n t
def Ext.side(x:Ext G H d c)(f:c p=none):Ext G H d^upd c p o:=
 #[x.gg,λb u e=>by rw[af^aq e^x.sub.free f];exact x.sub _ _ e,x.hh.trans^ay f _,x.off]
def A5(x:Ext G H d f)(i:f p=none)(dv:DvAll Z d c h):
  Own Z d (upd f p^.lst c) 1 (.ref p) (.lst h) [p]/\([p]:List Addr).Nodup/\∀b∈([p]:List Addr),H b=none/\(upd f p^.lst c) b≠none/\d b=none:=by
 refine#[.inl #[p,c,h,[],rfl,rfl,ae,rfl,dv.own],by simp,λb j=>?_]
 have:b=p:=by simpa using j
 subst this;exact#[x.hh.free i,(ae▸λz=>nomatch z),x.sub.free i]
def aaR(t:ij):mT:=λd P=>t d λc=>c.length<=sizeLine/\P c
def kq(h:DA Z X c t):DF Z X 1 (.List c pos)^aaR t:=by
 refine(fS h).imp ?_;intro v H Q j;rfl';let⟨G,l,P,s,e,h,q⟩:=j;ac_rfl;exists G,l,_,s,e,h;rintro x ⟨m,n⟩ y A C d f;refine#[by rw[f.length];exact m,λp i=>?_]
 let⟨o,r,u⟩:=A5 d i f;exact q _ n _ _ _ _ (d.side i) o r u
def P9(c:aY):mT:=λf P=>c f λd=>match d with
 | .lst l=>P l
 | .tup l=>P l
 |_=>False
def PR{x:ee}{p:ip}(I:x="list")(n:Gl X x)(o:X.mg x=none)(r:f_ x\(.type "list"))(u:DE Z X a ta)(w:x≠"__name__"<|>zm)(y:(x==("__debug__":ee))=false<|>zm)
  (m:d4 [a] X.env=(false,fC a X.env)::d4 [] X.env<|>zn) (A:(f8 pos^d4 [] X.env).any (·.1)=false<|>zn):DF Z X 1 (.Call (.Name x p) [a] [] pos)^P9 ta:=by
 refine(tT sA n o r (ao u az m) w y m A).imp ?_;intro J H Q C;rfl';let⟨G,F,P,s,e,h,q⟩:=C;ac_rfl;refine#[G,F,_,s,e,h,λd i v M N c dv=>?_];cases dv<;>first|exact i.elim|skip
 .rename_i h e
  refine#[_,_,rfl, .inl^aJ.of^c.sub _ _ h,λp f=>?_];let⟨j,k,l⟩:=A5 c f e;exact q _ i _ _ _ _ (c.side f) j k l
 .rename_i h e
  refine#[_,_,rfl, .inr^fM.of^c.sub _ _ h,λp f=>?_];let⟨j,k,l⟩:=A5 c f e;exact q _ i _ _ _ _ (c.side f) j k l
def fLC(d:jW)(g:eO)(f:eB)(h:aY)(src:List^Option Nat):mT:=λc P=>d c λi=>lcW g f h i (yO src c) [] λ_ out=>P out
def Rk:∀u H Q,AM Z 1 (fLC wi g r te src) u H Q->SV (qi Z wi) (og Z g) (liftT Z r) (eL Z te) src u H Q:=by
 intro u H Q O;rfl';let⟨G,S,P,s,w,h,q⟩:=O;ac_rfl;refine#[G,S,_,s,w,h,λf T J C Y d E j x=>?_];refine#[λi m y k=>m=f.length-i/\i<=f.length/\∃o acc,CS Z C Y j o acc y k/\lcW g r te (f.drop i) o acc λ_ out=>P out,#[_,rfl,d9 _,_,[], .begin d.sub x^(w.mono d.gg).src src,T],?_];rintro i m y k ⟨rfl,hi,o,acc,c,A⟩
 by_cases F:i<f.length
 .obtain⟨a,l⟩:=DH x C E i o acc y k c (λ_ s=>s) F A
  exact .inr #[a,_,λax H' n=>#[f.length-(i+1),(),rfl,F,n],l]
 .have e:f.drop i= []:=qS ()
  rfl';rw[e] at A;let⟨I,t,L,M,B,off,X,N,bH,w⟩:=c;ac_rfl;refine .inl #[(E I k L M i).2.1 (),q _ A (.ref j) [j] I k #[d.gg.trans L,M,d.hh.trans B,λb p hg=>off b (cO d.hh p)^d.off b p hg] (.inl #[j,t,acc,[],rfl,rfl,N,rfl,bH.own]) (by simp) λb p=>?_]
  have:b=j:=by simpa using p
  subst this;exact#[d.hh.free x,(by rw[N];exact λz=>nomatch z),X]
variable {elt:e_} {ifs:List e_} {scope:Scope} {NC:List ee} {src:List^Option Nat} {tt:eB}
def Wv(d:List Nat)(i:Nat)(t:mT):dJ:=λE c=>t (cG d c) λf=>E.nx^c.set i^some^.lst f
def DQ{t:mT}(p:md.getD i 0=n)(S:SIx Z B md ρ σ H G fp)(h:t (cG md ρ) λl=>E.nx^ρ.set i^some^.lst l)(M:Meets Z X B md rn E k):AM Z n t σ H λv m=>k.nx (σ.set i^some v) m:=by
 refine#[G,_,_,S.ex.sub,S.uG,h,λl q v f r m x o s d=>?_];refine M.nx _ q _ _ #[r,_,(S.grow x).Sz p o s (λb c=>#[S.ex.hh.free (d b c).1,(d b c).2]) λb c j _ u=>(S.nw j b u).2.1 (d b c).1]
def kr(i:Nat){t:mT}(j:X.N.Nodup)(k:DF Z X n e t)(l:f.getD i 0=n<|>zn)(m:X.N[i]?\x<|>zn)(o:Loc X.env.scope x<|>xz)(p:gs e (some^.Name x c) d.line X.env=pure false<|>zn)
  (q:X.fn x=true\/X.env.scope.names.lookup x\.local<|>xz):DSt Z X f u (.Assign [.Name x c] e d)^Wv f i t:=by
 refine(bW j m o k p q).imp ?_;intro D v H r;rfl';obtain⟨B,y,E,⟨G,A,S⟩,h,M⟩:=r;ac_rfl;exact DQ l S h M
def Nr(i:Nat)(k:X.calm=true)(l:X.N.Nodup)(c:bD X scope)(m:dE scope X.N src NC)(n:DI Z X tg iter wi)
  (o:∀d s H,DG Z (bG X scope NC d s H) tg g) (p:∀d s H,Eo Z (bG X scope NC d s H) ifs tt) (q:∀d s H,DE Z (bG X scope NC d s H) elt te)
  (r:gs (.ListComp elt [#[tg,iter,ifs,0]] scope pos) (some^.Name x f) j.line X.env=pure true<|>zn) (u:md.getD i 0=1<|>zn) (v:X.N[i]?\x<|>zn) (w:Loc X.env.scope x<|>xz)
  (y:X.fn x=true\/X.env.scope.names.lookup x\.local<|>xz)
  (A:(∀x,ey iter X.env x=pure x)<|>xx):DSt Z X md rn (.Assign [.Name x f] (.ListComp elt [#[tg,iter,ifs,0]] scope pos) j)^Wv md i^fLC wi g tt te src:=by
 refine(nB k l v w c m n o p q r y A).imp ?_;intro D C H F;rfl';obtain⟨B,L,E,⟨G,O,S⟩,h,M⟩:=F;ac_rfl;exact Rk C H _^DQ u S h M
end
section
variable {Z:DC} {X:Cx} {B:Bs} {md:List Nat} {rn:Nat} {ρ:DN} {σ:St} {H G:Hp} {fp:Nat->List Addr} {a e k o:Expr} {ta te tk tp:aY} {pos apos aM p2:Pos}
def SIx.mut{b:Addr}(S:SIx Z B md ρ σ H G fp)(r:σ[i]?\(some v))(n:b∈fp i)(o:Own Z G (upd H b c) (md.getD i 0) v m^fp i):SIx Z B md (ρ.set i^some m) σ (upd H b c) G fp where
 ex:=by
  let⟨d,p,f⟩:=S.nw i b n;exact#[S.ex.gg,λx u e=>by rw[af^aq e f];exact S.ex.sub _ _ e,λx u e=>by rw[af^aq e d];exact S.ex.hh _ _ e,S.ex.off]
 fl:=S.fl
 len:=by rw[i6];exact S.len
 at_:=λj w h=>by
  by_cases z:i=j
  .subst z
   by_cases g:i<ρ.length
   .rw[nI g] at h
    cases Do h;exact#[v,r,o]
   .rw[Ej^lI g,gP^lI g] at h;cases h
  .rw[pB z] at h
   let⟨u,s,t⟩:=S.at_ j w h;exact#[u,s,t.keep (.refl _) λx l=>af λq=>S.ap i j b z n (q▸l)]
 nd:=S.nd
 ap:=S.ap
 nw:=λj x l=>by
  let⟨d,p,f⟩:=S.nw j x l;refine#[d,?_,f]
  by_cases z:x=b
  .rw[z,ae];exact λq=>nomatch q
  .rw[af z];exact p
theorem SIx.one{i:Nat}{d:D}(S:SIx Z B md ρ σ H G fp)(j:md.getD i 0=1)(h:ρ[i]?\(some d)):∃l b c,d= .lst c/\σ[i]?\(some^.ref l)/\H l\(.lst b)/\DvAll Z G b c/\
  ∀f g,DvAll Z G f g->SIx Z B md (ρ.set i^some^.lst g) σ (upd H l^.lst f) G fp:=by
 rfl';let⟨v,m,o⟩:=S.at_ i d h;rw[j] at o;let⟨l,b,c,u,rfl,rfl,q,n,r⟩:=o.one;let⟨dv,rfl⟩:=r.flat;ac_rfl;refine#[l,b,c,rfl,m,q,dv,λf g s=>S.mut m (by rw[n];simp) ?_]
 rw[j,n];exact .inl #[l,f,g,[],rfl,rfl,ae,rfl,s.own]
theorem c7.rY:∀{n:List V}{q:List D}{m:List Addr}(p:Nat){dp:D},c7 (Own Z G H 1) n q m->m.Nodup->q[p]?\dp->∃l c g,dp= .lst g/\n[p]?\(.ref l)/\H l\(.lst c)/\DvAll Z G c g/\l∈m/\
  ∀i j,DvAll Z G i j->c7 (Own Z G (upd H l^.lst i) 1) n (q.set p^.lst j) m
 |_,_,_,_,_, .nil,_,h=>by simp at h
 |_,_,_,0,dp, .cons (f:=f) (fs:=fs) a s,t,h=>by
  simp at h;subst h;rfl';let⟨l,c,g,m,rfl,rfl,E,w,F⟩:=a.one;let⟨dv,rfl⟩:=F.flat;subst w;ac_rfl;refine#[l,c,g,rfl,rfl,E,dv,by simp,λi j x=> .cons (.inl #[l,i,j,[],rfl,rfl,ae,rfl,x.own]) (s.imp λv d f w r=>r.keep (.refl _) λb y=>af λz=>?_)]
  have:=(lK.mp t).1
  exact this (z▸w _ y)
 |_,_,_,p+1,dp, .cons (f:=f) (fs:=fs) a s,t,h=>by
  rfl';let⟨Q,I,J⟩:=hZ.mp t;let⟨l,c,g,L,M,N,O,A,P⟩:=c7.rY p (dp:=dp) s I^~~~h
  ac_rfl;refine#[l,c,g,L,by simpa using M,N,O,fW _ A,λi j x=>?_]
  refine .cons (a.keep (.refl _) λb y=>af λz=>?_)^P i j x;exact J b y l A z
def SIx.two(S:SIx Z B md ρ σ H G fp)(n:md.getD i 0=2)(h:ρ[i]?\(some^.lst c))(w:c[p]?\dp):∃T b l d f,dp= .lst f/\σ[i]?\(some^.ref T)/\H T\(.lst b)/\b.length=c.length/\b[p]?\(.ref l)/\H l\(.lst d)/\DvAll Z G d f/\
  ∀g j,DvAll Z G g j->SIx Z B md (ρ.set i^some^.lst^c.set p^.lst j) σ (upd H l^.lst g) G fp:=by
 rfl';let⟨v,q,o⟩:=S.at_ i _ h;rw[n] at o;let⟨T,b,y,A,rfl,C,r,m,s⟩:=o.lst;cases C;have t:=S.nd i;rw[m] at t;let⟨E,F⟩:=lK.mp t;let⟨l,d,f,I,J,L,M,u,N⟩:=c7.rY p s F w;ac_rfl;refine#[T,b,l,d,f,I,q,r,s.length,J,L,M,λg j O=>S.mut q (by rw[m];exact dY _ u) ?_]
 rw[n,m];exact .inl #[T,b,_,A,rfl,rfl,by rw[af^λz=>E^by rw[z];exact u];exact r,rfl,N g j O]
def ty_list{K:ad}{l:Addr}{b:List V}(h:H l\(.lst b)):V5 K "list" (.ref l) H:= .inl #[rfl,_,aJ.of h]
def aau(f:List Nat)(m:Bool)(i:Nat)(g:aY):dJ:=λE b=>∃c,b[i]?\(some^.lst c)/\g (IU f m b) λd=>uH m d/\c.length<sizeLine/\E.nx^b.set i^some^.lst (c++ [d])
def nU(m:Bool)(i:Nat)(t:DE Z X e te)(g:md.getD i 0=1<|>zn)(u:X.N[i]?\x<|>zn)(w:ze X.env.scope x<|>xz)(f:(x==("__debug__":ee))=false<|>zm)(y:(x==("__classdict__":ee))=false<|>zm)
  (A:ge (.Name x b) "append" X.env^fC (.Name x b) X.env=fC (.Name x b) X.env<|>zn)
  (C:((f8 aM^d4 [e] X.env).all (λx=>!x.1)&&(il aM^g_ [] X.env).all (λx=>x.1.isSome)&&decide (([e]:List e_).length+([]:List hT).length+(if ([]:List hT).isEmpty then 0 else 1)<30))=true<|>zn)
  (F:(apos.endLine==aM.line)=true<|>zn) (j:d4 [e] X.env=(false,fC e X.env)::d4 [] X.env<|>zn) (I:(f8 aM^d4 [] X.env).any (·.1)=false<|>zn)
  (J:gs (.Call (.Attribute (.Name x b) "append" apos) [e] [] aM) none pos.line X.env=pure false<|>zn):
  DSt Z X md rn (.Expr (.Call (.Attribute (.Name x b) "append" apos) [e] [] aM) pos)^aau md m i te:=by
 refine(dh (gW GT adg adh jz (pv i u w f y) (ao t az j) A C F j I) J).imp ?_;intro D σ H L;rfl';obtain⟨B,ρ,E,⟨G,O,S⟩,⟨ds,p,h⟩,M⟩:=L;ac_rfl;rfl';let⟨l,xs,c,n,q,P,z⟩:=S.one g p;ac_rfl;refine#[_,q,ty_list P,S.ev m h λd f=>#[f.1,λv Q H' R x dv=>?_]];rfl';let⟨c,T,Y⟩:=f;let⟨l',a,i8,k,r,o,s,put⟩:=R.one g p;cases k;ac_rfl;rw[q] at r;cases r;exact#[l,a,v,rfl,rfl,o,by rw[s.length];exact T,M.nx _ Y _ _ #[Q,O,put _ _^s.snoc dv]]
def Xy(g:List Nat)(m:Bool)(i:Nat)(h l:aY):dJ:=λE b=>∃c,b[i]?\(some^.lst c)/\h b λn=>∃p j f,n= .int p/\k4 c.length p\j/\c[j]?\(.lst f)/\
 l (IU g m b) λd=>uH m d/\f.length<sizeLine/\E.nx^b.set i^some^.lst^c.set j^.lst (f++ [d])
def TB(d:b.length=n)(h:k4 n i\j)(e:b[j]?\v):gF b i\v:=by unfold gF;rw[d,h];exact e
def PZ(m:Bool)(i:Nat)(R:DE Z X k tp)(Y:DE Z X e te)(y:md.getD i 0=2<|>zn)(a:pQ k<|>wv)(hi:X.N[i]?\x<|>zn)(hv:ze X.env.scope x<|>xz)(n:(x==("__debug__":ee))=false<|>zm)(iz:(x==("__classdict__":ee))=false<|>zm)
  (fQ:ge (.Subscript (.Name x b) k c) "append" X.env^fC (.Subscript (.Name x b) k c) X.env=fC (.Subscript (.Name x b) k c) X.env<|>zn)
  (kY:((f8 aM^d4 [e] X.env).all (λx=>!x.1)&&(il aM^g_ [] X.env).all (λx=>x.1.isSome)&&decide (([e]:List e_).length+([]:List hT).length+(if ([]:List hT).isEmpty then 0 else 1)<30))=true<|>zn)
  (dG:(apos.endLine==aM.line)=true<|>zn) (A:d4 [e] X.env=(false,fC e X.env)::d4 [] X.env<|>zn) (fR:(f8 aM^d4 [] X.env).any (·.1)=false<|>zn)
  (w6:gs (.Call (.Attribute (.Subscript (.Name x b) k c) "append" apos) [e] [] aM) none pos.line X.env=pure false<|>zn):
  DSt Z X md rn (.Expr (.Call (.Attribute (.Subscript (.Name x b) k c) "append" apos) [e] [] aM) pos)^Xy md m i tp te:=by
 refine(dh (gW GT adg adh jz (cV bN (pv i hi hv n iz) R a) (ao Y az A) fQ kY dG A fR) w6).imp ?_;intro D σ H aN;rfl';obtain⟨B,ρ,E,⟨G,fp,S⟩,⟨pI,q,h⟩,M⟩:=aN;let⟨v0,r,o⟩:=S.at_ i _ q;ac_rfl;refine#[_,r,S.ev true h ?_];rintro _ ⟨p,j,ds,rfl,hj,n,h⟩;refine#[rfl,λv1 G1 H1 F x1 P2=>?_];rfl';cases P2.ofInt;let⟨T,I,l,xs,i8,e1,J,L,e4,O,e6,bH,f⟩:=F.two y q n;rw[J] at r;cases r;ac_rfl;refine#[T,I,p, .ref l,rfl,rfl,aJ.of L,TB e4 hj O,ty_list e6,F.ev m h λd s=>#[s.1,λv G' H' S' x dv=>?_]];rfl';let⟨T',t,l',jU,m7,u,P,JG,e4',g,w,Q,put⟩:=S'.two y q n;cases u;ac_rfl;rw[J] at P;cases P
 have:t=I:=by
  have:=x.hh _ _ L
  rw[JG] at this;cases this;rfl
 rw[this,O] at g;cases g;exact#[l,jU,v,rfl,rfl,w,by rw[Q.length];exact s.2.1,M.nx _ s.2.2 _ _ #[G',fp,put _ _^Q.snoc dv]]
def TU(f:List Nat)(m:Bool)(i:Nat)(g h:aY):dJ:=λE b=>h (IU f m b) λd=>uH m d/\∃c,b[i]?\(some^.lst c)/\g b λl=>∃k j,l= .int k/\k4 c.length k\j/\E.nx^b.set i^some^.lst^c.set j d
def C3(m:Bool)(i:Nat)(A:DE Z X k tk)(C:DE Z X e te)(r:md.getD i 0=1<|>zn)(F:X.N[i]?\x<|>zn)(I:ze X.env.scope x<|>xz)(g:(x==("__debug__":ee))=false<|>zm)(J:(x==("__classdict__":ee))=false<|>zm)
  (L:(∀v,jq (.Subscript (.Name x b) k c) X.env v=(do
   let n <-hB [v]^fC (.Name x b) X.env
   let q <-hB [v,n] (fC k X.env)
   im c
   hB [v,n,q] (setItem n q v)
   release [v,n,q] []))<|>xx)
  (O:jt [.Subscript (.Name x b) k c] e pos.line X.env=pure false<|>zn) (hw:ju [.Subscript (.Name x b) k c] e X.env=pure none<|>zn)
  (p:(gB [.Subscript (.Name x b) k c] X.env).map (·.2)= [jq (.Subscript (.Name x b) k c) X.env]<|>zn):DSt Z X md rn (.Assign [.Subscript (.Name x b) k c] e pos)^TU md m i tk te:=by
 refine(rL C (FG (pv i F I g J) A set_list L) O hw p).imp ?_;intro D σ H P;rfl';obtain⟨B,ρ,E,⟨G,Q,S⟩,h,M⟩:=P;ac_rfl;refine S.ev m h λd g=>#[g.1,λv G' H' t x dv=>?_];rfl';obtain⟨_,ds,p,h⟩:=g;obtain⟨l,xs,_,_,u,e3,_⟩:=t.one r p;ac_rfl;refine#[_,u,t.ev true h ?_];rintro _ ⟨k,j,rfl,R,T⟩;refine#[rfl,λv1 Y H1 a o P2=>?_];rfl';cases P2.ofInt;obtain⟨l',jU,i8,e1,w,JG,y,put⟩:=a.one r p;cases e1;ac_rfl;rw[u] at w;cases w;exact#[l,jU,k,j,rfl,rfl,JG,by rw[y.length];exact R,M.nx _ T _ _ #[Y,Q,put _ _^y.set (dv.mono o.gg) j]]
def aaH(f:List Nat)(i j:Nat):dJ:=λE b=>∃c d,b[j]?\(some^.lst (c++ [d]))/\E.nx^(b.set j^some^.lst c).set i^some d
def Ua(i j:Nat)(u:X.N.Nodup)(w:f.getD i 0=0<|>zn)(A:f.getD j 0=1<|>zn)(C:X.N[i]?\x<|>zn)(I:Loc X.env.scope x<|>xz)
  (J:X.N[j]?\y<|>zn) (L:ze X.env.scope y<|>xz) (O:(y==("__debug__":ee))=false<|>zm) (P:(y==("__classdict__":ee))=false<|>zm)
  (Q:ge (.Name y py) "pop" X.env^fC (.Name y py) X.env=fC (.Name y py) X.env<|>zn) (R:(b.endLine==r.line)=true<|>zn)
  (T:gs (.Call (.Attribute (.Name y py) "pop" b) [] [] r) (some^.Name x q) g.line X.env=pure false<|>zn)
  (Y:X.fn x=true\/X.env.scope.names.lookup x\.local<|>xz):DSt Z X f rn (.Assign [.Name x q] (.Call (.Attribute (.Name y py) "pop" b) [] [] r) g)^aaH f i j:=by
 refine(bW u C I (Vf GT PySem.F.slot_list_pop PySem.F.type_list_pop UY (pv j J L O P) Q R) T Y).imp ?_;intro D σ H a;rfl';obtain⟨B,ρ,E,⟨G,fp,S⟩,⟨n,d,k,h⟩,M⟩:=a;ac_rfl;rfl';let⟨l,c,i8,o,e2,s,p,put⟩:=S.one A k;cases o;have t:c.length=n.length+1:=by rw[p.length];simp
 let⟨v,Kc,dv⟩:=p.get (i:=c.length-1) (d:=d)^by rw[t];simp
 ac_rfl;refine#[_,e2,ty_list s,l,c,v,rfl,rfl,s,Kc,M.nx _ h _ _ #[G,_,(put c.dropLast n ?_).pq w dv]]
 have:=p.take n.length
 rw[List.take_left'] at this
 .rw[List.dropLast_eq_take,t];exact this
 .rfl
def SIx.Vz(S:SIx Z B md ρ σ H G fp)(h:ρ[j]?\(some d)):∃v,σ[j]?\(some v)/\Dv Z (plus G H λb=>b∈fp j) v d/\SIx Z B md (ρ.set j none) σ H (plus G H λb=>b∈fp j) (λk=>if k=j then[] else fp k):=by
 have s:=S.ex.sub;let⟨v,m,o⟩:=S.at_ j d h;refine#[v,m,o.dv (iL s) λb g u e=>by rw[jN g];exact e,?_]
 refine#[#[S.ex.gg.trans^iL s,rK s,S.ex.hh,λb g n=>?_],S.fl.trans^iL s,by rw[i6];exact S.len,λk c f=>?_,λk=>by split;exact iN;exact S.nd k,λk p b ne f i=>?_,λk b g=>?_]
 .rw[gK^λz=>g (S.nw j b z).1];exact S.ex.off b g n
 .by_cases z:j=k
  .subst z
   by_cases l:j<ρ.length
   .rw[nI l] at f;cases f
   .rw[Ej^lI l,gP^lI l] at f;cases f
  .rw[pB z] at f
   let⟨u,q,r⟩:=S.at_ k c f;exact#[u,q,by rw[tz^Ne.symm z];exact r.keep (iL s) λ_ _=>rfl]
 .split at f
  .cases f
  .split at i
   .cases i
   .exact S.ap k p b ne f i
 .split at g
  .cases g
  .next z=>
   let⟨t,x,y⟩:=S.nw k b g;exact#[t,x,by rw[gK^λw=>S.ap k j b z g w];exact y]
end
structure aag (mg:Str->Option Value):Prop where
 len:mg "len"=none
 range:mg "range"=none
 max:mg "max"=none
 min:mg "min"=none
 enumerate:mg "enumerate"=none
 zip:mg "zip"=none
 sorted:mg "sorted"=none
 all:mg "all"=none
 isinstance:mg "isinstance"=none
 int:mg "int"=none
 bool:mg "bool"=none
 list:mg "list"=none
 tuple:mg "tuple"=none
 sum:mg "sum"=none
 reversed:mg "reversed"=none
def LR:bootBuiltins "min"\(.builtin "min"):=by decide+kernel
def Pk:bootBuiltins "bool"\(.type "bool"):=by decide+kernel
def TF:bootBuiltins "int"\(.type "int"):=by decide+kernel
def pT:bootBuiltins "list"\(.type "list"):=by decide+kernel
def kS:bootBuiltins "sorted"\(.builtin "sorted"):=by decide+kernel
def cH:bootBuiltins "len"\(.builtin "len"):=by decide+kernel
section
variable {P:Program} {w:World} {K:ad} {mg:Str->Option Value} {base:Heap} {Z:DC}
noncomputable def oM(N:List Str)(a:List D):DN:=a.map some++cb (N.length-a.length) none
def HN(Z:DC)(n:Nat)(g:eS):Sp:=λh H Q _=>∃(G:Hp)(e:List D)(P:D->Prop),aC G H/\DvAll Z G h e/\g e P/\∀d,P d->∀v f c a,Ext G H c a->Own Z c a n v d f->f.Nodup->(∀b∈f,H b=none/\a b≠none/\c b=none)->Q v a
def Own.pure(x:Ext G H c a)(o:Own Z c a n v d f)(i:∀b∈f,H b=none/\a b≠none/\c b=none):∃h,Ext G H h a/\Dv Z h v d:=by
 refine#[plus c a λb=>b∈f,#[x.gg.trans^iL x.sub,rK x.sub,x.hh,λb g j=>?_],o.dv (iL x.sub) λb g u e=>by rw[jN g];exact e]
 rw[gK^λz=>g (i b z).1];exact x.off b g j
def spF:∀a H Q E,aS Z b a H Q E->HN Z n b a H Q E:=by
 intro a H Q E c;rfl';obtain⟨G,g,P,s,dv,h,q⟩:=c;ac_rfl;exact#[G,g,P,s,dv,h,λd i v f t j x o u k=>let #[l,m,p]:=o.pure x k;q d i v l j m p]
theorem Ny(l:Nat){x a:Str}{st:Stmt}{f:Addr}{o:FuncData}{N g:List Str}{k:Nat}{m:eS}(F:uB K x a st f o)(S:aE N g (ar st))(p:List Nat)(y:∀i,i<g.length->p.getD i 0=0)(len:∀c P,m c P->c.length=g.length)
  (B:∀(j:Value)(A:Around)(outer:List Env)(s:Shared)(H:Hp)(E:XK)(c:List D)(R:D->Prop),bU k (A.deeper (envOfC a (ar st) s.heap.objs.size f j))->m c R->
   ∃t,nM Z (kU fJ P w K mg base N a (ar st) f j A outer s H E).mG p l (dM st) t/\t {nx:=λ_=>l=0/\R .aQ,rt:=R} (oM N c)):FnOk P w K mg base fJ (k+1) f o g (HN Z l m):=by
 refine F.ok S (λC H Q E h=>?_) (λj A outer s H C Q E I h=>?_)
 .obtain⟨G,c,R,s,dv,h,q⟩:=h
  rw[dv.length];exact len _ _ h
 rfl';obtain⟨G,c,R,L,dv,h,q⟩:=h;have n:=q;obtain⟨t,M,O⟩:=B j A outer s H E c R I h;have hl:=len _ _ h;ac_rfl;refine#[_,M,#[G,H,G],_,_,#[G,λ_=> [],?_],O,#[λρ r ax T #[X,fp,Y]=>q _ r.2 _ [] X T Y.ex (by rw[r.1];exact#[.aQ,rfl]) iN (λb hb=>by cases hb),n,λ_ z=>z.elim,λ_ z=>z.elim,λ_ _ z=>z.elim]]
 refine#[.refl L, .refl _,by unfold oM start;simp[dv.length],λi d e=>?_,λ_=>iN,(λ_ _ _ _ z=>by cases z),(λ_ _ z=>by cases z)]
 unfold oM at e
 have u:i<c.length:=by
  apply GE;intro z;rw[lF (~~~lI z),yU] at e
  split at e<;>cases e
 rw[i5 (~~~u),fm] at e
 have iQ:c[i]?\d:=by
  cases z:c[i]? with
  |none=>rw[z] at e;cases e
  |some d'=>rw[z] at e;cases e;rfl
 obtain⟨v,hv,mw⟩:=dv.get iQ;refine#[v,?_,by rw[y i ()];exact#[mw,rfl]]
 unfold start;rw[i5 (by simpa [dv.length] using u),fm,hv];rfl
def bg{x c:ee}{st:Stmt}{f:Addr}{m:gi}{N e:List ee}{k:Nat}{j:eS}(F:uB K x c st f m)(S:aE N e^ar st)(l:List Nat)(n:∀i,i<e.length->l.getD i 0=0)(len:∀d P,j d P->d.length=e.length)
  (o:∀(g:b_)(A:f7)(outer:List lE)(s:c_)(H:Hp)(E:XK)(d:List D)(R:D->Prop),bU k^A.deeper^jT c (ar st) s.heap.objs.size f g->j d R->
   ∃t,nM Z (kU fJ P w K mg base N c (ar st) f g A outer s H E).mG l 0 (dM st) t/\t {nx:=λ_=>0=0/\R .aQ,rt:=R}^oM N d):FnOk P w K mg base fJ (k+1) f m e^aS Z j:=
 (Ny 0 F S l n len λg A outer s H E d R p h=>let #[t,a,b]:=o g A outer s H E d R p h;#[t,a,b]).imp spF
end
section
variable {Z:DC} {X:Cx} {a b c e o:Expr} {ta tb te:aY} {t:ij} {es:List Expr} {pos apos:Pos}
def aaE(f:aY):aY:=λg P=>f g λd=>match d with
 | .int i=>P^.int (-i)
 |_=>False
def TZ(g:DE Z X a ta):DE Z X (.UnaryOp .USub a pos)^aaE ta:=by
 refine(ZM V6 g).imp ?_;intro r H Q i;rfl';let⟨G,k,P,s,l,h,q⟩:=i;ac_rfl;refine#[G,k,_,s,l,h,λd f v m n p dv=>?_];cases dv<;>first|exact f.elim|skip
 exact#[_,rfl,q _ f _ m n p^.int _]
theorem pY:∀{d:List V}{f:List Int},DvAll Z G d^f.map D.int->d=f.map V.int
 |d,[],h=>by cases h;rfl
 |d,b::bs,h=>by
  cases h with
  |cons a g=>cases a;rw[pY g];rfl
def LQ:eS:=λg P=>∃d:List Int,g= [.lst^d.map D.int]/\d.length<64/\∀f:List Int,f.Perm d->f.Pairwise (·<=·)->P^.lst^f.map D.int
def CT:CallR X (.builtin "sorted")^mF Z LQ:=by
 refine Ca.imp ?_;rintro n H Q ⟨G,r,P,s,dv,⟨f,rfl,g,i⟩,q⟩;cases dv with
 |cons a j=>
  cases j;cases a with
  |lst h e=>
   refine#[_,f,rfl,aJ.of (pY e▸s _ _ h),g,λp d k l m=>?_];exact q _ (i d l m) _ _ _ (.new s k)^.lst ae^.ints d
noncomputable def pairD(k:Nat×Nat):D:= .tup [.int (k.1:Nat), .int (k.2:Nat)]
def TC:eS:=λg P=>∃d:List (Nat×Nat),g= [.lst^d.map pairD]/\d.length<=1000/\∀f:List (Nat×Nat),f.Perm d->f.Pairwise Wb.lexLe->P^.lst^f.map pairD
theorem C6:∀{d:List V}{f:List (Nat×Nat)},DvAll Z G d^f.map pairD->∃L:List (Addr×(Nat×Nat)),d=L.map (λe=>V.ref e.1)/\L.map (·.2)=f/\rW G L
 |d,[],h=>by cases h;exact#[[],rfl,rfl,λp g=>by cases g]
 |d,n::f,h=>by
  cases h with
  |cons a j=>
   let⟨L,k,l,m⟩:=C6 j;unfold pairD at a;cases a with
   | @tup p r x g e=>
    refine#[(p,n)::L,by rw[k];rfl,by rw[<-l];rfl,λq i=>?_]
    rcases dS.mp i with rfl|i
    .have:r=iZ n:=by
      cases e with
      |cons s u=>
       cases u with
       |cons v w=>cases s;cases v;cases w;rfl
     rw[<-this];exact g
    .exact m q i
theorem rW.dv:∀{L:List (Addr×(Nat×Nat))},rW G L->DvAll Z G (L.map λe=>V.ref e.1)^(L.map (·.2)).map pairD
 | [],_=> .nil
 |x::L,h=> .cons (.tup (h x (c5 ..))^.cons (.int _)^.cons (.int _) .nil) (rW.dv λp d=>h p^dY _ d)
def CU:CallR X (.builtin "sorted")^mF Z TC:=by
 refine Cb.imp ?_;rintro v H Q ⟨G,k,P,s,dv,⟨f,rfl,w,d⟩,q⟩;cases dv with
 |cons a l=>
  cases l;cases a with
  | @lst p y k h e=>
   let⟨L,rfl,g,i⟩:=C6 e;have A:L.length=f.length:=by rw[<-g];simp
   refine#[_,L,rfl,aJ.of^s _ _ h,λp d=>s _ _^i p d,(),λp M j m1 m=>?_]
   have n:(M.map (·.2)).Perm f:=by rw[<-g];exact m1.map _
   have r:rW (upd G p^.lst (M.map λe=>V.ref e.1)) M:=λx u=>ay (s.free j) _ _ _^i x^m1.mem_iff.mp u;exact q _ (d _ n m) _ _ _ (.new s j)^.lst ae r.dv
def TN(g h:aY):aY:=λf P=>g f λd=>∃l,d= .lst l/\h f λy=>jx y=true/\l.all jx=true/\∃(j:Nat)(z:D),l[j]?\z/\l7 z y=true/\(∀(m:Nat) z,m<j->l[m]?\z->l7 z y=false)/\P^.int (j:Nat)
theorem C1(E:DE Z X o ta)(F:DE Z X e tb)
  (I:ge o "index" X.env^fC o X.env=fC o X.env<|>zn)
  (J:((f8 d^d4 [e] X.env).all (λx=>!x.1)&&(il d^g_ [] X.env).all (λx=>x.1.isSome)&&decide (([e]:List e_).length+([]:List hT).length+(if ([]:List hT).isEmpty then 0 else 1)<30))=true<|>zn)
  (L:(apos.endLine==d.line)=true<|>zn) (r:d4 [e] X.env=(false,fC e X.env)::d4 [] X.env<|>zn) (M:(f8 d^d4 [] X.env).any (·.1)=false<|>zn):
  DE Z X (.Call (.Attribute o "index" apos) [e] [] d)^TN ta tb:=by
 refine(gW GT adm adn rz E (ao F az r) I J L r M).imp ?_;intro σ H Q N;rfl';let⟨G,A,P,s,B,h,q⟩:=N;ac_rfl;exists G,A,_,s,B,h;rintro _ ⟨l,rfl,R⟩ v S H1 f dv;cases dv with
 | @lst p T ds C e=>
  refine#[ty_list^f.sub _ _ C,S,A,_,f.sub,B.mono f.gg,R,λy Y u a b i k=>?_];rfl';let⟨c,t,j,z,h3,h4,h5,h6⟩:=Y;have n:=e.mono i.gg;let⟨w,hw,dw⟩:=n.get h3;ac_rfl;refine#[p,T,u,j,w,rfl,rfl,i.hh _ _^f.sub _ _ C,by rw[uI k];exact c,by rw[p8 n];exact t,hw,by rw[EM dw k];exact h4,λm z' hm hz=>?_,q _ h6 _ a b (f.trans i)^.int _]
  let⟨d',iQ,mw⟩:=n.Qn hz;rw[EM mw k];exact h5 m d' hm iQ
end
structure GB (Z:DC):Prop where
 cl:zO Z.K Z.C
 nR:fL Z.K Z.C "rows"
section
variable {Z:DC} {X:Cx} {a b c e o:Expr} {ta tb te:aY} {t:ij} {es:List Expr} {pos apos:Pos}
def XO(f:aY):aY:=λg P=>f g λd=>∃w,d= .gf w/\P^ba w
def uE(T:GB Z)(i:DE Z X o ta)(d:X.K=Z.K<|>zn)(j:ge o "rows" X.env^fC o X.env=fC o X.env<|>zn):DE Z X (.Attribute o "rows" apos)^XO ta:=by
 refine(Vi i j).imp ?_;intro E H Q k;rfl';let⟨G,m,P,s,n,h,q⟩:=k;ac_rfl;exists G,m,_,s,n,h;rintro _ ⟨w,rfl,r⟩ v u x f dv;cases dv with
 | @gf p y R w A B g I J=>exact#[p,Z.C,y,_, .ref R,rfl,f.sub _ _ A,by rw[d];exact T.cl,by rw[d];exact T.nR,rfl,q _ r _ u x f B]
def Jy(g:eS)(h:aY)(t:ij):aY:=λf P=>h f λd=>∃w,d= .gf w/\t f λi=>g (.gf w::i) P
def DK(y:([("rows",V.ref 0)]:List (Str×V)).lookup m=none):∀j H Q,eL Z (Jy i ta t) j H Q->Lj Z.C m (aS Z i) [] E0 (eL Z ta) (Fj Z t) j H Q:=by
 intro j H Q A;rfl';obtain⟨G,u,P,s,x,h,q⟩:=A;ac_rfl;exists G,u,_,s,x,h;rintro _ ⟨w,rfl,k⟩ v E c f dv;have l:=dv;cases dv with
 | @gf p F R w I e g o X=>
  refine#[p,F,_,rfl,f.sub _ _ I,?_,E,u,_,f.sub,x.mono f.gg,k,λds J L M N n O=>?_]
  .have S:(m==("rows":Str))=false:=by
    cases z:(m==("rows":Str)) with
    |false=>rfl
    |true=>simp[bu,z] at y
   simp[bu,S]
  .show aS Z i (V.ref p::(L++ [])) N Q E0
   rw[ft];exact#[M,_,P,n.sub, .cons (l.mono n.gg) O,J,λd k v T Y a r=>q d k v T Y ((f.trans n).trans a) r]
variable {sd:eS} {k:Nat} {f:Addr} {fd:FuncData} {ps:List Str} {m:Str}
def GY(T:GB Z)(h:DE Z X o ta)(i:Meth Z.K Z.C m f)(F:FnOk X.prog X.w X.K X.mg X.base fJ k f fd ps^aS Z sd)(j:bU k X.A)(l:Binds X.K fd ps [])(n:DA Z X (e::es) t)(d:X.K=Z.K<|>zn)
  (p:([("rows",V.ref 0)]:List (ee×V)).lookup m=none<|>zm) (q:d4 (e::es) X.env=(false,fC e X.env)::d4 es X.env<|>zn) (r:(f8 pos^d4 es X.env).any (·.1)=false<|>zn)
  (s:fC (.Call (.Attribute o m apos) (e::es) [] pos) X.env=(do
   let g <-fC o X.env
   im apos.atName
   let (f,first) <-hB [g] (ku g m pl)
   callWith pos f first (f8 pos^d4 (e::es) X.env)^il pos^g_ [] X.env)<|>zn):DE Z X (.Call (.Attribute o m apos) (e::es) [] pos)^Jy sd ta t:=
 (RZ (pl:=pl) h (by rw[d];exact T.cl) (by rw[d];exact i) F j l .nil cF n q r s).imp^DK p
def fY(T:GB Z)(l:DE Z X o ta)(n:Meth Z.K Z.C m f)(F:FnOk X.prog X.w X.K X.mg X.base fJ k f fd ps^aS Z sd)(r:bU k X.A)(u:Binds X.K fd ps [])(i:X.K=Z.K<|>zn)
  (x:([("rows",V.ref 0)]:List (ee×V)).lookup m=none<|>zm)
  (y:fC (.Call (.Attribute o m apos) [] [] pos) X.env=(do
   let j <-fC o X.env
   im apos.atName
   let (f,first) <-hB [j] (ku j m pl)
   callWith pos f first (f8 pos^d4 [] X.env)^il pos^g_ [] X.env)<|>zn):DE Z X (.Call (.Attribute o m apos) [] [] pos)^Jy sd ta lZ:=
 (Oq (pl:=pl) l (by rw[i];exact T.cl) (by rw[i];exact n) F r u .nil cF y).imp λB H Q h=>by
  rfl';obtain⟨G,I,P,s,J,h,q⟩:=DK x B H Q h;ac_rfl;refine#[G,I,P,s,J,h,λd L v M N O dv=>?_];rfl';obtain⟨p,R,fs,S,Y,a,b,aG,P',c,e,t,q'⟩:=q d L v M N O dv;ac_rfl;exact#[p,R,fs,S,Y,a,q' _ t _ b _ (.refl c) .nil]
def Bo(Z:DC):Sp:=λi H Q _=>∃(p h:Addr)(v:V)(G:Hp)(w:List^List Nat),i= [.ref p,v]/\H p\(.ins Z.C h [])/\aC G H/\G p=none/\Dv Z G v^ba w/\Wb.Good w/\1<=w.length/\w.length<=14/\
 ∀(R:Addr)(d g:Hp),aC G d->aC d g->(∀b o,H b\o->b≠p->g b\o)->(∀b,H b≠none->G b=none->d b=none)->g p\(.ins Z.C h [("rows", .ref R)])->Dv Z d (.ref R)^ba w->Q .aQ g
def XI(t:ij):aY:=λd P=>t d λg=>∃w,g= [ba w]/\Wb.Good w/\1<=w.length/\w.length<=14/\P^.gf w
theorem PF(M:Mk Z.K Z.C f)(F:FnOk X.prog X.w X.K X.mg X.base fJ k f fd ps^Bo Z)(L:bU (k+1) X.A)(r:Gl X x)(N:X.mg x\(.ref Z.C))(l:Binds X.K fd ps [])
  (O:DA Z X (e::es) t) (S:X.K=Z.K<|>zn) (T:(x==("__debug__":ee))=false<|>zm) (Y:d4 (e::es) X.env=(false,fC e X.env)::d4 es X.env<|>zn) (a:(f8 pos^d4 es X.env).any (·.1)=false<|>zn):
  DE Z X (.Call (.Name x p) (e::es) [] pos)^XI t:=by
 refine(RY (by rw[S];exact M) F L r N l .nil cF O T Y a).imp ?_
 intro σ H Q c;rfl';let⟨G,ρ,P,s,en,h,q⟩:=c;ac_rfl;exists G,ρ,_,s,en,h;rintro _ ⟨w,rfl,g,B,h14,hp⟩ vs G1 H1 d u p n i lR ne;cases u with
 | @cons v _ _ _ dv u=>
  cases u;have uQ:upd H1 n (.own p) p=none:=by rw[af^Ne.symm ne];exact i
  have y:=(ay lR^.own p).trans^ay uQ^.ins Z.C n [];refine#[p,n,v,G1,w,rfl,ae,d.sub.trans y,d.sub.free i,dv,g,B,h14,λR E H2 g1 g2 kp off NV Ai=>#[rfl,?_]];have I:E p=none:=off p (by rw[ae];exact λz=>nomatch z)^d.sub.free i
  refine q _ hp _ (upd E p^.ins Z.C n [("rows", .ref R)]) H2 #[(d.gg.trans g1).trans^ay I _,λb o e=>?_,λb o e=>?_,λb l r=>?_]^.gf ae (Ai.mono^ay I _) g B h14
  .by_cases z:b=p
   .subst z;rw[ae] at e;cases e;exact NV
   .rw[af z] at e;exact g2 _ _ e
  .have J:=d.hh _ _ e
   exact kp b o (y _ _ J)^aq J i
  .have j:=cO d.hh l
   have nb:b≠p:=λz=>j^by rw[z];exact i
   rw[af nb];exact off b (cO y j)^d.off b l r
end
section
variable {Z:DC} {X:Cx} {pos:Pos}
def N4(g:eO)(a:mT):List D->DN->List D->(List D->Prop)->Prop
 | [],_,acc,N=>N acc
 |x::c,d,acc,N=>g x d λb=>a b λe=>acc.length<sizeLine/\N4 g a c b (acc++ [.lst e]) N
def WC(b:jW)(g:eO)(c:mT)(src:List^Option Nat):mT:=λa P=>b a λd=>N4 g c d (yO src a) [] P
def CSF(Z:DC)(n:Nat)(d a:Hp)(c:Addr)(f:DN)(acc:List D)(g:St)(H:Hp):Prop:=
 ∃(G:Hp)(e:List V)(fs:List Addr),aC d G/\aC G H/\aC a H/\(∀b,a b≠none->d b=none->G b=none)/\H c\(.lst e)/\c7 (Own Z G H n) e acc fs/\(c::fs).Nodup/\(∀b∈c::fs,a b=none/\H b≠none/\G b=none)/\dZ Z G g f
theorem c7.snoc:∀{b:List V}{c:List D}{fs:List Addr}{v:V}{d:D}{f:List Addr},c7 R b c fs->R v d f->c7 R (b++ [v]) (c++ [d]) (fs++f)
 |_,_,_,v,d,f, .nil,r=>by simpa using c7.cons r .nil
 |_,_,_,v,d,f, .cons a e,r=>by rw[kj];exact .cons a^e.snoc r
def N6:∀Y H Q,AM Z (n+1) (WC wi g L src) Y H Q->SV (qi Z wi) (og Z g) MU (AM Z n L) src Y H Q:=by
 intro Y H Q aN;rfl';let⟨G,ρ,P,s,en,h,q⟩:=aN;ac_rfl;refine#[G,ρ,_,s,en,h,λu hd J G1 H1 p it l w=>?_];refine#[λi m dq t=>m=u.length-i/\i<=u.length/\∃M acc,CSF Z n G1 H1 l M acc dq t/\N4 g L (u.drop i) M acc P,#[_,rfl,d9 _,_,[],#[G1,[],[], .refl _,λb o e=>?_,ay w _,λ_ _ h=>h,ae, .nil,by simp,λb j=>?_,(en.mono p.gg).src src],hd],?_]
 .rw[af^aq e^p.sub.free w];exact p.sub _ _ e
 .have:b=l:=by simpa using j
  subst this;exact#[w,(by rw[ae];exact λz=>nomatch z),p.sub.free w]
 intro i m dq t jE;rfl';obtain⟨rfl,hi,M,acc,⟨G2,N,fs,O,s2,R,off,mB,ol,nd,A,P5⟩,S⟩:=jE;ac_rfl
 by_cases bQ:i<u.length
 .obtain⟨go,_,yld⟩:=it G2 t O s2 i
  refine .inr #[go bQ,λax H'=>∃aG lU,CSF Z n G1 H1 l aG lU ax H'/\N4 g L (u.drop (i+1)) aG lU P,λax H' k=>#[u.length-(i+1),(by omega),rfl,bQ,k],λx H3 y=>?_]
  let⟨G3,d,C,EV,dv⟩:=yld x H3 bQ y;rw[kW EV] at S;refine#[G3,M,d,_,C.sub,P5.mono C.gg,dv,S,λbw h1 eU pZ=>?_];unfold MU;dsimp only;rw[mo rfl];refine#[G3,bw,_,C.sub,pZ,h1,λi8 iQ v f G6 H6 x6 ow fnd E=>?_];have x:=C.trans x6;have T:l∈l::fs:=c5 ..
  have B:∀b∈l::fs,H6 b=t b/\G6 b=none:=λb j=>by
   let⟨D,q2,q3⟩:=A b j;refine#[?_,x.off b q2 q3];cases e:t b with
   |none=>exact absurd e q2
   |some o=>exact x.hh _ _ e
  have hA6:H6 l\(.lst N):=by rw[(B l T).1];exact mB
  have F:∀b∈f,t b=none:=λb j=>C.hh.free (E b j).1;have I:∀b∈f,∀c∈l::fs,b≠c:=λb j c hc z=>(A c hc).2.1^by rw[<-z];exact F b j
  refine#[N,hA6,by rw[ol.length];exact iQ.1,bw,_,#[G6,N++ [v],fs++f,O.trans x.gg,λb o e=>?_,λb o e=>?_,λb j hg=>x.off b (cO R j)^off b j hg,ae,?_,?_,λb j=>?_,pZ.mono x6.gg],iQ.2]
  .rw[af^aq e (B l T).2];exact x.sub _ _ e
  .rw[af^aq e w];exact(R.trans x.hh) _ _ e
  .refine c7.snoc (ol.imp λv d f' hf r=>r.keep x.gg λb j=>?_) (ow.keep (.refl _) λb j=>?_)
   .have Cj:b∈fs:=hf b j
    rw[af^λz=>(lK.mp nd).1^by rw[<-z];exact Cj]
    exact(B b^dY _ Cj).1
   .exact af^I b j l T
  .rw[<-List.cons_append]
   exact hZ.mpr #[nd,fnd,λa ha b j=>Ne.symm^I b j a ha]
  .rw[<-List.cons_append] at j
   by_cases z:b=l
   .subst z
    exact#[w,(by rw[ae];exact λz=>nomatch z),(B b T).2]
   .rcases cE.mp j with j|j
    .rw[af z,(B b j).1]
     exact#[(A b j).1,(A b j).2.1,(B b j).2]
    .rw[af z]
     exact#[R.free^F b j,(E b j).2]
 .have e:u.drop i= []:=qS ()
  rw[e] at S;refine .inl #[(it G2 t O s2 i).2.1 (),q _ S (.ref l) (l::fs) G2 t #[p.gg.trans O,s2,p.hh.trans R,λb j hg=>off b (cO p.hh j)^p.off b j hg] (.inl #[l,N,acc,fs,rfl,rfl,mB,rfl,ol]) nd λb j=>#[p.hh.free (A b j).1,(A b j).2]]
variable {tg iter elt:e_} {scope:Scope} {NC:List ee} {src:List^Option Nat} {wi:jW} {g:eO} {tf:mT} {md:List Nat} {rn:Nat}
end
abbrev gJ:=inClass
structure Et (Z:DC) (m qual:Str) (st:Stmt) (ps:List Str) where
 f:Addr
 fd:FuncData
 F:uB Z.K m qual st f fd
 b:Binds Z.K fd ps []
 m:Meth Z.K Z.C m f
def vZ(K:ad):Sp:=λc H Q _=>∃(a:Addr)(b:List Int),c= [.ref a]/\aJ K H a^b.map V.int/\b.length<=63/\∀d,Q (.bl true) d
def FR:eS:=λb P=>∃a:List Int,b= [.pN a]/\a.length<=63/\P^.bl true
def UR{Z:DC}:∀b H Q E,vZ Z.K b H Q E->aS Z FR b H Q E:=by
 rintro b H Q E ⟨a,c,rfl,f,e,q⟩;exact#[H,[.pN c],λd=>d= .bl true, .refl _, .cons (.pN f e) .nil,#[c,rfl,e,rfl],λd g v i h x dv=>by subst g;cases dv;exact q h]
def aaa(k:Nat){l:cv}{q:ec}{e:List ee}{o:(ee->Option b_)->Heap->Prop}{m:ei->Heap->Prop}{d:DefRec}{K:Params->ad}(H:3*k<150)(p:l.most\63)(r:d.params.defaults= [])
  (t:∀(w:ei)(h:Heap),m w h->(K w.params).In h)
  (F:∀(w:ei)(g:ee->Option b_)(i:Addr)(h:Heap),(K w.params).In h->h.Ns eh g->g d.name\(.ref i)->
   ∃j:gi,(∀(s:c_)(u:b_),BindsTo s j #[[u],[]] [("_law_script",u)])/\∀base:Heap,(K w.params).In base->base.Ns eh g->FnOk l.prog w (K w.params) g base fJ k i j ["_law_script"]^vZ^K w.params):
  d3 q e o m l.row.toRowW d [] (λf v=>dO f v):=
 L2.Tc (n:=63) (k:=50) (x:="_law_script") (CX:=λ_=>fJ) (sp:=λw=>vZ^K w.params) p ∅ r #[rfl,∅,∅] t (λw g i h a b c=>by
  let⟨j,A,B⟩:=F w g i h a b c;exact#[j,A,λbase x y=>(B base x y).mono ()]) (λ_ _ a C E _ G=>#[a,C,rfl,G,E,λ_=>rfl]) λ_ _ _ _ _ z=>z
def cY{c:Bool}{A B:Prop}(a:c=true->A)(b:c=false->B):if c=true then A else B:=by
 cases c with
 |true=>exact b9^a rfl
 |false=>exact cL^b rfl
theorem qh{ρ:DN}(a:g->D)(p:g->Bool)(f:g->D):∀(d:List g)(c:DN)(acc:List D)(N:DN->List D->Prop),(∀y∈d,∀(Y:D->Prop)(q:Prop),(p y=true->Y^f y)->(p y=false->q)->j (ρ.set i^some^a y) λb=>if b=true then n (ρ.set i^some^a y) Y else q)->
  (∃o,c=ρ.set i o)->acc.length+d.length<=sizeLine->(∀c,N c (acc++(d.filter p).map f))->lcW (h7 i) j n (d.map a) c acc N
 | [],c,acc,N,_,_,_,h=>by
  show N c acc;simpa using h c
 |y::d,c,acc,N,k,#[o,r],e,h=>by
  show j (c.set i^some^a y) _;rw[r,List.set_set];rw[dQ] at e;refine k y (c5 ..) _ _ (λl=>#[(),?_])^λl=>?_
  .refine qh a p f d _ (acc++ [f y]) N (λz e=>k z^dY _ e) #[_,rfl] (by simp;lia) λm=>?_
   have:=h m
   rw[adY,l] at this;simpa using this
  .refine qh a p f d _ acc N (λz e=>k z^dY _ e) #[_,rfl] () λm=>?_
   have:=h m
   rw[adY,l] at this;simpa using this
def n6{ρ:DN}(a:c->D)(f:c->D)(b:List c)(N:DN->List D->Prop)(j:∀y∈b,∀(Y:D->Prop),Y^f y->g (ρ.set i^some^a y) Y)(k:ρ[i]?\none)(l:b.length<=sizeLine)(h:∀d,N d^b.map f):lcW (h7 i) l0 g (b.map a) ρ [] N:=by
 refine qh (ρ:=ρ) a (λ_=>true) f b ρ [] N (λy m Y o n _=>?_) #[none,?_] (~~~l) λd=>by rw[aem.mpr^λ_ _=>rfl,mv];exact h d
 .unfold l0
  dsimp only;rw[mo rfl];exact j y m Y^n rfl
 .obtain⟨p,e⟩:=cz.mp k
  rw[<-e,List.set_getElem_self]
theorem Df(I:Nat->DN->Prop):∀(b:List D)(k:Nat)(a:DN),I k a->(∀(j:Nat)(d:D)(a:DN),b[j]?\d->I (k+j) a->∀A:DN->Prop,(∀a,I (k+j+1) a->A a)->g d a λn=>m {nx:=A,ct:=A,bk:=E.nx,rt:=E.rt,xc:=E.xc} n)->
  (∀a,I (k+b.length) a->E.nx a)->j8 g m E b a
 | [],k,a,c,e,f=>f a c
 |d::b,k,a,c,e,f=>by
  refine e 0 d a rfl c _ λo p=>?_
  exact Df I b (k+1) o p (λj q h r i A s=>by
   refine e (j+1) q h (~~~r) (by rw[show k+(j+1)=k+1+j by lia];exact i) A λl t=>s l ?_
   rw[show k+1+j+1=k+(j+1)+1 by lia];exact t)^λh i=>f h^by rw[dQ,show k+(b.length+1)=k+1+b.length by lia];exact i
def b8(I:Nat->DN->Prop)(e:I 0 a)(f:∀(j:Nat)(d:D)(a:DN),b[j]?\d->I j a->∀A:DN->Prop,(∀a,I (j+1) a->A a)->g d a λi=>c {nx:=A,ct:=A,bk:=E.nx,rt:=E.rt,xc:=E.xc} i)
  (k:∀a,I b.length a->E.nx a):j8 g c E b a:=Df I b 0 a e (λj d a l h A m=>f j d a l (~~~h) A λn o=>m n^~~~o)^λa h=>k a^~~~h
def t8(I:Nat->DN->Prop)(m0:Nat)(g:I m0 a)(h:∀m a,I m a->c a λb=>if b=true then f {nx:=λe=>∃d,d<m/\I d e,ct:=λe=>∃d,d<m/\I d e,bk:=E.nx,rt:=E.rt,xc:=E.xc} a else E.nx a):LX c f E a:=#[I,#[m0,g],h]
section
variable {X:Cx} {elt t0 i0 t1 i1:e_} {f0 f1:List e_} {scope:Scope} {pos:ip} {wi cD:TI} {g g1:TG} {tt bS:TT} {te:TE} {src:List^Option Nat} {NC:List ee}
end
section
variable {Z:DC} {X:Cx} {md:List Nat} {rn:Nat} {elt t0 i0 t1 i1:e_} {f0 f1:List e_} {scope:Scope} {pos:ip} {wi cD:jW} {g g1:eO} {tt bS:eB} {te:aY} {src:List^Option Nat} {NC:List ee}
end
section
variable {Z:DC} {X:Cx} {md:List Nat} {rn:Nat} {e:Expr} {pos:Pos}
end
def jw{l:List D}{j:Nat}{d:D}(h:(dF l)[j]?\d):∃x,l[j]?\x/\d= .tup [.int (j:Int),x]:=by
 unfold dF at h;rw[List.getElem?_mapIdx] at h;cases e:l[j]? with
 |none=>rw[e] at h;cases h
 |some x=>rw[e] at h;cases h;exact#[x,rfl,rfl]
def fP(l:List D):(dF l).length=l.length:=by unfold dF;simp
def dg{a b:Type}{f:a->b}{l:List a}{j:Nat}{y:b}(h:(l.map f)[j]?\y):∃x,l[j]?\x/\y=f x:=by
 rw[fm] at h;cases e:l[j]? with
 |none=>rw[e] at h;cases h
 |some x=>rw[e] at h;cases h;exact#[x,rfl,rfl]
def kJ(r:List Nat):(r.map aB).all jx=true:=by simp[aB,jx]
def Aw{r:List Nat}{p:Nat}:inD (aB p)^r.map aB=decide (p∈r):=by
 unfold inD;rw[List.any_map]
 have:((λy=>l7 y^aB p)∘aB)=λq:Nat=>decide (q=p):=by
  funext q
  simp[aB,l7,Function.comp]
  by_cases z:q=p
  .simp[z]
  .have:¬(q:Int)=(p:Int):=()
   simp[z,this]
 rw[this]
 by_cases h:p∈r
 .rw[FS h,ae2];exact#[p,h,by simp]
 .rw[FM h]
  apply sW.mpr;intro z;rw[ae2] at z;let⟨q,a,e⟩:=z
  exact h (by have:q=p:=by simpa using e
              rw[<-this];exact a)
def iI{p:Nat}(h:l[p]?\d):gF l (p:Int)\d:=c9 h
def BB(h:p<w.length):(w.map aD)[p]?\(aD^Wb.row w p):=by
 rw[fm,Wb.vL h];rfl
section
variable {Z:DC} {X:Cx} {md:List Nat} {rn:Nat} {e:Expr} {te:aY} {pos:Pos}
end
def Xj(h:A):l0 a (λb=>if b=true then A else B):=by
 unfold l0;dsimp only;rw[mo rfl];exact h
def abn{c:Bool}{A B:Prop}(e:c=false)(h:B):if c=true then A else B:=by rw[tz^by rw[e];exact dP];exact h
theorem jF(I:DN->Prop)(c:m->D)(p:m->Bool)(f:m->D):∀(i:List m)(e:DN)(acc:List D)(N:DN->List D->Prop),(∀y∈i,∀e,I e->∀(Y:DN->D->Prop)(u:DN->Prop),(∀a,I a->p y=true->Y a^f y)->(∀a,I a->p y=false->u a)->g (c y) e λa=>k a λb=>if b=true then l a^Y a else u a)->
  I e->acc.length+i.length<=sizeLine->(∀e,I e->N e (acc++(i.filter p).map f))->lcW g k l (i.map c) e acc N
 | [],e,acc,N,_,n,_,h=>by
  show N e acc;simpa using h e n
 |y::i,e,acc,N,o,n,j,h=>by
  rw[dQ] at j;refine o y (c5 ..) e n (λa d=>acc.length<sizeLine/\lcW g k l (i.map c) a (acc++ [d]) N) (λa=>lcW g k l (i.map c) a acc N) (λa q r=>#[(),?_])^λa q r=>?_
  .refine jF I c p f i _ (acc++ [f y]) N (λz j=>o z^dY _ j) q (by simp;lia) λs t=>?_
   have:=h s t
   rw[adY,r] at this;simpa using this
  .refine jF I c p f i _ acc N (λz j=>o z^dY _ j) q () λs t=>?_
   have:=h s t
   rw[adY,r] at this;simpa using this
def WO(h:b.length=1):∃d,b= [d]:=by
 cases b with
 |nil=>cases h
 |cons a l=>
  cases l with
  |nil=>exact#[a,rfl]
  |cons _ _=>cases h
def WQ(h:b.length=2):∃e c,b= [e,c]:=by
 cases b with
 |nil=>cases h
 |cons a l=>
  let⟨c,rfl⟩:=WO^Nat.succ.inj h;exact#[a,c,rfl]
def abr(h:b.length=3):∃f c d,b= [f,c,d]:=by
 cases b with
 |nil=>cases h
 |cons a l=>
  let⟨c,d,rfl⟩:=WQ^Nat.succ.inj h;exact#[a,c,d,rfl]
section
variable {Z:DC} {X:Cx}
end
def bD.nest(k:f.kind= .function)(a:∀x∈f.names,x.2= .local->f.names.lookup x.1\.local)(b:∀x∈f.names,x.2≠ .cell)
  (d:∀x∈f.names,x.2= .free->c.names.lookup x.1\.free):bD (bG X c NC g s H) f where
 kind:=k
 names:=a
 nocell:=b
 free:=λx i e=>by
  have h:(bG X c NC g s H).env.kindOf x.1=(c.names.lookup x.1).map λk=>if (k==NameKind.free&&X.env.scope.kind== .function&&X.env.kindOf x.1==some .cell) then NameKind.cell else k:=ic c.names x.1;rw[h,d x i e,BP]
  split
  .exact .inl rfl
  .exact .inr rfl
section
variable {Z:DC} {X:Cx} {e:Expr} {es:List Expr} {t:ij} {pos:Pos}
def aH{a:eS}{k j:Nat}{x:ee}{st:Stmt}{c:List ee}{p:ip}(d:bJ X.K X.mg x st c)(F:FnOk X.prog X.w X.K X.mg X.base fJ k d.f d.fd c^aS Z a)(g:bU j X.A)(h:DA Z X (e::es) t)(i:Gl X x<|>zn)(l:k<=j<|>xa)
  (n:(x==("__debug__":ee))=false<|>zm) (o:d4 (e::es) X.env=(false,fC e X.env)::d4 es X.env<|>zn) (q:(f8 pos^d4 es X.env).any (·.1)=false<|>zn):
  DE Z X (.Call (.Name x p) (e::es) [] pos)^wH a t:=PD F (g.mono l) i d.m d.F.kp d.b h n o q
def pU(f:Scope)(e:X.env.scope=f<|>zn)(k:d.kind= .function<|>zn)(a:(∀x∈d.names,x.2= .local->d.names.lookup x.1\.local)<|>xh)(b:(∀x∈d.names,x.2≠ .cell)<|>xh)
  (c:(∀x∈d.names,x.2= .free->f.names.lookup x.1\.cell\/f.names.lookup x.1\.free)<|>xh):bD X d:=bD.of f e k a b c
def Wo{NC:List Str}(k:f.kind= .function<|>zn)(a:(∀x∈f.names,x.2= .local->f.names.lookup x.1\.local)<|>xh)(b:(∀x∈f.names,x.2≠ .cell)<|>xh)
  (d:(∀x∈f.names,x.2= .free->c.names.lookup x.1\.free)<|>xh):bD (bG X c NC g s H) f:=bD.nest k a b d
end
section
variable {K:ad} {h:Heap} {mg:Str->Option Value}
abbrev Tv(K:ad)(x:ee)(d:Addr):Prop:=aA K eh x\(some^.ref d)
abbrev B5(K:ad)(x a:ee)(st:Stmt)(d:Addr)(b c:Option Addr)(e:Array^Option b_)(f kV g i j k:b_):Prop:=K.lookup d\#[f,b, .func^b5 x a (gY st) (dM st) (ar st) .none kV g i c j k,e]
noncomputable def bJ.of{x:ee}{st:Stmt}{e:List ee}{d:Addr}{o f:Option Addr}{p:Array^Option b_}{q kV r g n i:b_}(X:K.In h)(G:h.Ns eh mg)(a:Tv K x d)(l:B5 K x x st d o f p q kV r g n i)(c:bj K n x=true)(k:am K^.ref d=true)
  (b:∀(kV j g:b_)(f:Option Addr)(s i:b_)(m:List b_),m.length=e.length->lf (b5 x x (gY st) (dM st) (ar st) .none kV j g f s i) #[m,[]]=pure^e.zip m):bJ K mg x st e:=
 #[d,_,nZ l c k,(nZ l c k).binds b,Os X G a]
noncomputable def Et.of{Z:DC}{m e:ee}{st:Stmt}{g:List ee}{d:Addr}{r i:Option Addr}{s:Array^Option b_}{t kV u j q n:b_}(a:aj Z.K (.ref Z.C) m\(some^.ref d))(f:bT Z.K^.ref d=true)(l:B5 Z.K m e st d r i s t kV u j q n)(c:bj Z.K q e=true)(k:am Z.K^.ref d=true)
  (b:∀(kV o j:b_)(i:Option Addr)(v n:b_)(p:List b_),p.length=g.length->lf (b5 m e (gY st) (dM st) (ar st) .none kV o j i v n) #[p,[]]=pure^g.zip p):Et Z m e st g:=
 #[d,_,nZ l c k,(nZ l c k).binds b,#[a,f,k]]
end
end L2
namespace Wb
noncomputable def jv(w:W):Nat:=(w.map dz).sum
theorem uF{r:List Nat}:∀{w:W}{p:Nat},p<w.length->jv^w.set p r+(row w p).length=jv w+r.length
 | [],_,h=>by simp at h
 |a::w,0,_=>by simp[jv,row];lia
 |a::w,p+1,h=>by
  have b:=uF (r:=r) (w:=w) (p:=p)^~~~h
  have e:row (a::w) (p+1)=row w p:=by simp[row]
  rw[e];simp only[jv,List.set_cons_succ,dR,List.sum_cons] at b ⊢;lia
def Np(w:W)(r:List Nat):jv (w++ [r])=jv w+r.length:=by simp[jv]
def Nl(h:p<w.length):jv^leaf w p i=jv w+2:=by
 unfold leaf
 have:=uF (r:=ins (row w p) i w.length) h
 rw[Ax] at this;rw[Np];simp;lia
def PN{w:W}{p i u j:Nat}(a:p<w.length)(c:u<w.length)(ne:u≠p):jv^zA w p i u j=jv w+2:=by
 unfold zA;have d:=uF (r:=ins (row w p) i u) a;have b:=uF (w:=w.set p^ins (row w p) i u) (r:=ins (row w u) j p) (p:=u)^~~~c
 rw[jQ a,tz^Ne.symm ne] at b;rw[Ax] at d b;lia
def Ov{l c:List Nat}(h:l.Perm c):l.sum=c.sum:=by
 induction h with
 |nil=>rfl
 |cons x _ d=>simp[d]
 |swap x y l=>simp;lia
 |trans _ _ a b=>exact a.trans b
def wK(w:W):jv w=((ak w.length).map λp=>(row w p).length).sum:=by
 unfold jv
 congr 1
 refine List.ext_getElem (by simp) λi b c=>?_
 rw[adZ,adZ,List.getElem_range];have a:i<w.length:=by simpa using b
 have:=vL a
 rw[eE a] at this;rw[Do this]
def PM{ord:List Nat}(f:a.length=w.length)(d:ord.Perm^ak w.length)(g:∀p,p<w.length->(row a^ord.getD p 0).Perm ((row w p).map λx=>ord.getD x 0)):jv a=jv w:=by
 rw[wK a,f,wK w,<-Ov (d.map λp=>(row a p).length)]
 congr 1
 have b:ord.length=w.length:=by rw[d.length_eq,pF]
 refine List.ext_getElem (by simp[b]) λi j h=>?_
 rw[adZ,adZ,List.getElem_range];have c:i<w.length:=by simpa using h
 have e:ord.getD i 0=ord[i]'(by rw[b];exact c):=by rw[fu,eE^by rw[b];exact c];rfl
 have:=(g i c).length_eq
 rw[aI,e] at this;exact this
def Af(w:W):(bo w).length=jv w:=by
 rw[wK];unfold bo;rw[List.length_flatMap]
 congr 1
 apply aen;intro p _;rw[aI]
def fN(g:Good w):(bo w).Nodup:=by
 unfold bo c4;refine qq (λp _=>?_) ?_
 .rw[kh]
  exact(g.nod p).imp λne e=>ne^KF Prod.snd e
 .refine List.Pairwise.imp ?_ adM
  intro a b lt x c y d e;let⟨f,h,rfl⟩:=cQ.mp c;let⟨f,h,rfl⟩:=cQ.mp d
  have:=KF Prod.fst e
  simp at this;lia
def gy(w:W):fg (row w) w.length=(bo w).filter λd=>decide (d.1<d.2):=by
 unfold fg bo;rw[List.filter_flatMap]
 congr 1
 funext p
 rw[List.filter_map];rfl
def Lm(g:Good w):2*(fg (row w) w.length).length<=jv w:=by
 rw[gy,<-Af];have i:=List.length_eq_countP_add_countP (λd:Nat×Nat=>decide (d.1<d.2)) (l:=bo w)
 have p:((bo w).filter λd=>decide (d.1<d.2)).length<=((bo w).filter λd=>decide (d.2<d.1)).length:=by
  have:=bq (l:=((bo w).filter λd=>decide (d.1<d.2)).map λd=>(d.2,d.1)) (m:=(bo w).filter λd=>decide (d.2<d.1)) ?_ ?_
  .rwa [aI] at this
  .unfold c4
   rw[kh];refine List.Pairwise.imp ?_^(fN g).filter _;intro a b ne e;have j:=KF Prod.fst e;have k:=KF Prod.snd e;exact ne^acZ k j
  .intro x n
   let⟨d,o,rfl⟩:=cQ.mp n;let⟨c,f⟩:=wy.mp o;refine wy.mpr #[bF.mpr^g.sym _ _^bF.mp c,?_];simpa using f
 have q:((bo w).filter λd=>decide (d.2<d.1)).length<=(bo w).countP λd=>!decide (d.1<d.2):=by
  rw[<-aes];apply List.countP_mono_left;intro d _ h;simp at h ⊢;lia
 rw[aes] at i
 have r:(bo w).countP (λd=>!decide (d.1<d.2))=List.countP (λa=>decide ¬(decide (a.1<a.2)=true))^bo w:=by
  congr 1
  funext d
  by_cases h:d.1<d.2<;>simp[h]
 lia
structure RI (w:W) (bs:List Bool) (ws ex:List Nat) (c:Nat):Prop where
 len:bs.length=w.length
 z:bs[0]?\true
 wt:∀x∈ws,bs[x]?\true
 cl:∀x,bs[x]?\true->x∈ws\/x∈ex\/∀q∈row w x,bs[q]?\true
 cnt:bs.count false+ws.length<=c
def RI.pop(h:RI w bs (b++ [p]) [] (c+1)):RI w bs b [p] c:=
 #[h.len,h.z,λx a=>h.wt x^lH _ a,λx a=>by
  rcases h.cl x a with q|q|q
  .rcases cE.mp q with q|q
   .exact .inl q
   .exact .inr^.inl q
  .cases q
  .exact .inr^.inr q,by have:=h.cnt;rw[eF] at this;simp at this;lia]
def RI.push(h:RI w bs d f c)(i:bs[q]?\false):RI w (bs.set q true) (d++ [q]) f c:=by
 let⟨b,g⟩:=cz.mp i
 have up:∀x,bs[x]?\true->(bs.set q true)[x]?\true:=λx a=>by
  rw[pD]
  by_cases e:q=x
  .rw[mo e,mo b]
  .rw[tz e];exact a
 refine#[by rw[i6];exact h.len,up _ h.z,λx a=>?_,λx a=>?_,?_]
 .rcases cE.mp a with z|z
  .exact up _^h.wt x z
  .have:x=q:=by simpa using z
   rw[this,pD,mo rfl,mo b]
 .by_cases e:q=x
  .exact .inl^by rw[e];simp
  .rw[pD,tz e] at a
   rcases h.cl x a with z|z|z
   .exact .inl^lH _ z
   .exact .inr^.inl z
   .exact .inr (.inr λy j=>up _^z y j)
 .have k:=h.cnt
  have:0<bs.count false:=aey.mpr^by rw[<-g];exact nK b
  rw[aet b,g,eF];simp;lia
def RI.close(h:RI w bs a [p] c)(b:∀q∈row w p,bs[q]?\true):RI w bs a [] c:=
 #[h.len,h.z,h.wt,λx d=>by
  rcases h.cl x d with q|q|q
  .exact .inl q
  .have:x=p:=by simpa using q
   rw[this];exact .inr^.inr b
  .exact .inr^.inr q,h.cnt]
def RI.all(g:Good w)(h:RI w bs [] [] c):bs=cb w.length true:=by
 have:=GR g (S:=λx=>bs[x]?\true) h.z λp q b d=>by
  rcases h.cl p b with z|z|z
  .cases z
  .cases z
  .exact z q d
 refine yX λi=>?_
 by_cases a:i<w.length
 .rw[this i a,yU,mo a]
 .rw[gP^by rw[h.len];lia,gP^by simp;lia]
structure CP (w:W):Prop where
 rng:∀p q,q∈row w p->q<w.length
 irr:∀p,p∉row w p
 nod:∀p,(row w p).Nodup
 sym:∀p q,q∈row w p->p∈row w q
def Good.near(g:Good w):CP w:=#[g.rng,g.irr,g.nod,g.sym]
def CP.good(n:CP w)(h:∀p,p<w.length->Reach w 0 p):Good w:=#[n.rng,n.irr,n.nod,n.sym,h]
end Wb
namespace L2
open PySem PySem.Spec PyProof.Rows
section
variable {X:Cx} {Z:DC} {pins:List (Addr×Obj)} {σ:St} {H:Hp} {s:Shared}
open Classical in
open Classical in
theorem CQ{f:Nat->Int}(g:Int->Int->Bool)(hg:∀a b,g a b=decide (a<b)):∀k,argBest (λi j=>g (f i) (f j)) k<=k/\∀i,i<=k->f (argBest (λi j=>g (f i) (f j)) k)<=f i
 |0=>#[bh _,λi h=>by(obtain rfl:i=0:=();exact Int.le_refl _)]
 |k+1=>by
  obtain⟨h1,h2⟩:=CQ (f:=f) g hg k;unfold argBest;simp only[hg] at h1 h2 ⊢
  by_cases c:f (k+1)<f (argBest (λi j=>decide (f i<f j)) k)
  .rw[mo (FS c)]
   refine#[bh _,λi hi=>?_]
   by_cases z:i=k+1
   .subst z;exact Int.le_refl _
   .have:=h2 i ();lia
  .rw[tz (~~~c)]
   refine#[(),λi hi=>?_]
   by_cases z:i=k+1
   .subst z;omega
   .exact h2 i ()
def Ju(R:X.calm=true):CallR X (.builtin "min") (λM H Q=>∃(p:Addr)(c:List Int),M= [.ref p]/\H p\(.lst^c.map V.int)/\c≠ []/\∀n∈c,(∀m∈c,n<=m)->Q (.int n) H):=by
 intro N s σ H M us Q I S h;obtain⟨p,c,rfl,T,C,q⟩:=h;obtain⟨u,rfl,Y⟩:=S.one;subst Y;obtain⟨d,r,pl,hz⟩:=I.list^aJ.of T;have Z:=r.length;rw[aI] at Z;have WL:0<c.length:=Gs.mpr C
 have E:∀i:Nat,(g:i<c.length)->∃t,d[i]?\(.int c[i] t):=λi g=>by
  obtain⟨w,hw,Bd⟩:=r.get (i:=i) (x:= .int c[i])^by rw[fm,eE g];rfl
  obtain⟨t,rfl⟩:=Bd;exact#[t,hw]
 refine call_min_walk^wpAny_pyIter_list pl.isList ?_
 have jL:p≠s.heap.objs.size:=by
  obtain⟨o,F,_⟩:=pl.isList;exact bL^Da F
 let f:Nat->Int:=λi=>c.getD i 0
 have B:∀k,(y:k<c.length)->f k=c[k]:=λk y=>by
  show c.getD k 0=_;rw[fu,eE y];rfl
 refine#[_,_,_,d.toArray.size,_,_,λi j=>(λa b=>decide (a<b)) (f i)^f j,rfl,Walks.list (show X.A.in1.handled=none from I.ok.hd R) s.heap.objs.size p jL d.toArray,#[#[_,GM _ rfl,rfl,rfl],pl.isList.push _],?_,?_,?_,?_]
 .intro b hb
  have:b=s.heap.objs.size\/b=p:=by simpa using hb
  obtain⟨o,F,_⟩:=pl.isList;have lt:=Da F;have e:(s.heap.push {cls:= .type "list_iterator",data:= .fields [.ref p, .int 0 0].toArray}).objs.size=s.heap.objs.size+1:=by simp[Heap.push]
  rcases this with rfl|rfl
  .exact Nat.lt_of_lt_of_eq (BO _) e.symm
  .exact Nat.lt_of_lt_of_eq (xS lt) e.symm
 .rw[cn];lia
 .intro i j u v s' Q' E' Ka Kc hq
  have G:d[i]?\u:=by simpa using Ka
  have l:d[j]?\v:=by simpa using Kc
  have g:i<c.length:=by have:=(cz.mp G).1;lia
  have O:j<c.length:=by have:=(cz.mp l).1;lia
  obtain⟨t1,h1⟩:=E i g;obtain⟨t2,h2⟩:=E j O;rw[h1] at G;rw[h2] at l;obtain rfl:=Do G;cases Do l;have n0:Q' (.bool (decide (c[i]<c[j]))) s':=by rw[<-B i g,<-B j O];exact hq
  exact HT.D3 _ _ _ _ _ _ _ _ _ _ n0
 .intro v h' tk P kk
  have kept:∀b o,s.heap.get? b\o->h'.get? b\o:=λb o e=>kk b o (by simp;exact bL^Da e)^AC _ e
  obtain⟨y,J⟩:=CQ (f:=f) (λa b=>decide (a<b)) (λ_ _=>rfl) (d.toArray.size-1);generalize argBest (λi j=>(λa b=>decide (a<b)) (f i)^f j) (d.toArray.size-1)=k at P y J;rw[cn] at y J;have L:k<c.length:=()
  have l:d[k]?\v:=by simpa using P
  obtain⟨t,ht⟩:=E k L;rw[ht] at l;cases Do l;refine#[.int c[k],H,I.kept kept,#[t,rfl],q _ (nK L) λm uP=>?_];obtain⟨i,g,rfl⟩:=List.mem_iff_getElem.mp uP
  have:=J i ()
  rw[B i g,B k L] at this;exact this
def Xt:eS:=λb P=>∃a:List Int,b= [.lst^a.map D.int]/\a≠ []/\∀n∈a,(∀m∈a,n<=m)->P^.int n
def GP(b:X.calm=true):CallR X (.builtin "min")^mF Z Xt:=by
 refine(Ju b).imp ?_;intro l H Q c;rfl';obtain⟨G,o,P,s,dv,⟨f,rfl,g,i⟩,q⟩:=c;let⟨v,rfl,a⟩:=dv.ofOne;let⟨p,r,rfl,h,e⟩:=a.k8;ac_rfl;rw[pY e] at h;exact#[p,f,rfl,s _ _ h,g,λn j k=>q _ (i n j k) _ G H (.refl s)^.int n]
end
section
variable {X:Cx} {Z:DC}
end
structure IsW (Z:DC):Prop where
 ha:aj Z.K (.ref Z.C) "__class__"\(some^.builtin "object.__class__")
 hn:bd Z.K (.builtin "object.__class__") "__get__"\(some^.builtin "getset_descriptor.__get__")
 htk:cr Z.K^.builtin "object.__class__"\true
 hm:b7 Z.K Z.C^.type "object"\true
 hk:bi Z.K (.ref Z.C)^.ref Z.C\true
section
variable {Z:DC} {X:Cx} {a:Expr} {ta:aY} {pos:Pos}
def B8:CallR X (.builtin "isinstance") (λc H Q=>∃(x:V)(C:Addr)(t:b_)(b:Bool),c= [x, .ref C]/\kR X.K H x t/\bi X.K t^.ref C\b/\Q (.bl b) H):=by
 intro d s k H c l Q I f h;let⟨x,n,t,b,rfl,g,e,q⟩:=h;let⟨m,o,rfl,i,j⟩:=f.two;cases j;exact Az I i g e λp=>#[.bl b,H,I.tok _,rfl,q]
def TR(t:aY):aY:=λb P=>t b λd=>∃w,d= .gf w/\P^.bl true
def Nk(T:GB Z)(W:IsW Z)(j:DE Z X a ta)(k:Gl X "isinstance")(l:X.mg "isinstance"=none)(m:Gl X "Web")(n:X.mg "Web"\(.ref Z.C))(c:X.K=Z.K<|>zn)(f:d4 [a, .Name "Web" b] X.env=(false,fC a X.env)::d4 [.Name "Web" b] X.env<|>zn)
  (o:(f8 pos^d4 [.Name "Web" b] X.env).any (·.1)=false<|>zn) (r:d4 [.Name "Web" b] X.env=(false,fC (.Name "Web" b) X.env)::d4 [] X.env<|>zn):
  DE Z X (.Call (.Name "isinstance" p) [a, .Name "Web" b] [] pos)^TR ta:=by
 have t:PE X (.Name "Web" b)^tC^.ref Z.C:=A6 m n (v:= .ref Z.C) rfl ∅
 refine(cU B8 k l (by decide+kernel) (ao j (ao t az r) f) ∅ ∅ f o).imp ?_
 rintro B H Q ⟨G,u,P,s,e,h,q⟩;exists G,u,_,s,e,h;rintro d ⟨w,rfl,x⟩ v y A i dv;cases dv with
 | @gf p E R w hw F g I J=>
  exact#[_,Z.C,_,true,rfl, .ins (i.sub _ _ hw) (by rw[c];exact T.cl) (by rw[c];exact W.ha) (by rw[c];exact W.hn) (by rw[c];exact W.htk)^by rw[c];exact W.hm,by rw[c];exact W.hk,q _ x _ y A i^.bl _]
end
open PySem.Calls PySem.W
section
variable {X:Cx} {C:Addr} {x:Str} {p pos:Pos} {e:Expr} {es:List Expr} {te:TE} {t:TA}
def S0(C:Addr)(t:TA):TE:=λb H Q=>t b H λc a=>c.length<=1000/\∀e,a e=none->Q (.ref e)^upd a e^rX C e none
def Iu(M:GC X.K C^.builtin "ValueError.__init__")(I:Inv X a f H s)(G:c.length<=1000)(h:∀e,H e=none->Q (.ref e)^upd H e^rX C e none):
  d7 (d5 X.prog X.w) X.A (call (.ref C) c) (EP X a f Q) X.xe s:=by
 let⟨J,q,N,bs,L,O,P,sub,R,l,S,T,Y,Z,p,t,i,j,m,n⟩:=M.obj;have r:=h (s.heap.objs.size+1)^I.hok.fresh^lM _;have k:c.length<=sizeLine:=by rw[ac6];lia
 have v:((s.heap.push {cls:= .type "tuple",data:= .seq c.toArray}).push^ck C s.heap.objs.size none).get? (s.heap.objs.size+1)\(ck C s.heap.objs.size none):=by
  have:=GM (s.heap.push {cls:= .type "tuple",data:= .seq c.toArray}) (o:=ck C s.heap.objs.size none) rfl
  rwa [adp] at this
 let⟨y,g,d,B,os⟩:=s
 refine ac2^yT (init:= .builtin "ValueError.__init__") ac8 j m n (I.cZ _ _ i) (ae8 I.cZ M.call) (PySem.W.looks_instIn I.cZ M.typ) (aea I.cZ M.ini)
  (λself=>PySem.W.Looks.of_pure^ac8.init.bind self) k ?_
 refine yt ac8 j (AC _^AC _^I.cZ _ _ i) v (λx t' E F=>?_) k;refine#[rfl,#[V.ref (y.objs.size+1),_,I.laid (t':=B) (λb u q=>F b u ?_^AC _^AC _ q) (lM _)^Ga E,rfl,r]];exact bL^xS^Da q
def KN(M:GC X.K C^.builtin "ValueError.__init__")(c:Gl X x)(d:X.mg x\(.ref C))(f:PA X (e::es) t)(g:(x==("__debug__":ee))=false<|>zm)
  (i:d4 (e::es) X.env=(false,fC e X.env)::d4 es X.env<|>zn) (j:(f8 pos^d4 es X.env).any (·.1)=false<|>zn):
  PE X (.Call (.Name x p) (e::es) [] pos)^S0 C t:=by
 intro a s k H Q I h;refine UV^hU I c d ?_ g;refine ac0 (h₀:=X.base) I.ok.mod.kin M.kp (thn (f pos a s k H _ I h) λm n #[o,u,b,r,l,q]=>#[b.cZ,?_]) i j;exact Iu M b (by rw[mv,<-r.length];exact l) q
def V0(X:Cx)(f:TE):TS:=λ_ b H=>f b H λv c=>∃a C d,v= .ref a/\c a\(rX C a d)/\mX X.K C/\mroIn X.K C^.type "BaseException"\true/\GD X b (upd c a^lO C a d) a
def DZ(y:X.calm=true)(B:PE X e te):PS X (.Raise (some e) none pos)^V0 X te:=by
 intro c s m H D I h;rw[arm_exec_Raise];refine a_^la ?_;simp only[evalOpt,Option.map];unfold raiseStmt;refine a_^a_ (thn (B c s m H _ I h) λu f #[v,E,l,F,a,C,d,ev,n,G,j,q]=>a_^la^f5 ?_);subst ev;obtain rfl:u=Value.ref a:=F;let⟨t,k⟩:=zM l.hok n;let⟨Z,p,N,bs,J,gr,sn,sub,ab,L,dd,r,k1,k2,k3,k5,w,cB,cA,cN⟩:=G.obj;have i:=l.cZ _ _ w
 have M:(Value.ref C::J).contains^.type "BaseException"=true:=by
  unfold mroIn clsIn at j;rw[w] at j;simpa using j
 have O:Inv X c m (upd E a^lO C a d) f:=by
  refine ag λG0 r=>?_;have P:=l.write (x:=a) (e:=a) (o:=lO C a d) (h':=f.heap) (t':=f.toks) (by rw[n];exact True.intro) (.inl rfl) (λb u j q=>q) #[_,k]^Qb (tb:= .none) k
  let⟨Q,g,R,S,os⟩:=f;refine r ?_;exact P
 have T:X.xe (.ref a) f:=q f O.Pj #[C,t, .none,d,ae,k, .inl rfl];have Y:X.A.handled=none:=I.ok.hd y;let⟨Q,g,R,S,os⟩:=f
 repeat (first|with_reducible refine gE k ?_|with_reducible refine gE i ?_| (with_reducible refine g6 i ?_;rw[M]) |wp_step)
 exact wpAny_raiseNew_none Y T
end
section
variable {X:Cx} {k:Nat} {f C:Addr} {fd:FuncData} {ps:List Str} {sp:Sp} {x m:Str} {p pos apos:Pos} {e o:Expr} {es:List Expr} {ta:TE} {t:TA}
def Nc(X:Cx)(b:St):XK:=λe _ c=>∃a,e= .ref a/\GD X b c a
theorem Su{pins:List (Addr×Obj)}{σ:St}{H:Hp}{s:c_}{Q:VK}{us:List b_}{vs:List V}(F:FnOk X.prog X.w X.K X.mg X.base (sX X.prog X.w) k f fd ps sp)(hr:bU k X.A)(hb:Binds X.K fd ps [])
  (I:Inv X pins σ H s) (r:Vals vs us) (h:sp vs H Q^Nc X σ):d7 (d5 X.prog X.w) X.A (call (.ref f) us) (EP X pins σ Q) X.xe s:=by
 have hl:(us++ []).length=ps.length:=by rw[ft,<-r.length];exact F.len _ _ _ _ h
 have Ck:=hb s us I.cZ hl;rw[ft] at Ck;refine ja (jk (F.run X.A X.stack s H #[us,[]] us vs Q (Nc X σ) hr I.Hh Ck r h) λr s' hq=>?_);cases r with
 |error e=>
  rfl';let⟨a,H',rfl,fl,a',ea,q⟩:=hq;cases ea;let⟨I2,f2⟩:=Mc I fl;ac_rfl;exact q s' I2 f2
 |ok fl=>
  cases fl with
  |ret u=>exact I.after hq
  |next=>exact False.elim hq
  |brk=>exact False.elim hq
  |cont=>exact False.elim hq
def MR(X:Cx)(b:Sp)(t:TA):TE:=λa H Q=>t a H λc d=>b c d Q^Nc X a
def DX(F:FnOk X.prog X.w X.K X.mg X.base (sX X.prog X.w) k f fd ps sp)(c:bU k X.A)(d:Gl X x)(g:X.mg x\(.ref f))(i:am X.K^.ref f=true)(j:Binds X.K fd ps [])
  (l:PA X (e::es) t) (n:(x==("__debug__":ee))=false<|>zm) (u:d4 (e::es) X.env=(false,fC e X.env)::d4 es X.env<|>zn) (v:(f8 pos^d4 es X.env).any (·.1)=false<|>zn):
  PE X (.Call (.Name x p) (e::es) [] pos)^MR X sp t:=by
 intro a s y H Q I h;refine UV^hU I d g ?_ n;refine ac0 (h₀:=X.base) I.ok.mod.kin i (thn (l pos a s y H _ I h) λB E #[G,J,b,r,q]=>#[b.cZ,?_]) u v;exact Su F c j b r q
end
section
variable {X:Cx} {pins:List (Addr×Obj)} {σ:St} {H:Hp} {s:Shared}
theorem uM(I:Inv X pins σ H s)(O:X.N.Nodup)(F:X.N[i]?\x)(P:X.env.scope.names.lookup x\.local)
  (h:∀G,Inv X pins (σ.set i none) H G->Q ⟨⟩ G):d7 M A (do bindName X.env x .none;unbindBehindTheSuite X.env x u) Q E s:=by
 let⟨m,J,R⟩:=id I.loc;have S:(X.env.scope.kind== .class|| (X.env.scope.kind== .module&&X.env.locals !=X.env.globals))=false:=by rw[I.ok.kind];rfl
 have T:i<σ.length:=by rw[I.len];exact(cz.mp F).1
 have z7:=I.z7;refine wpAny_nameGoes_keeps P J S λY v Z f=>?_;rfl';let⟨oL,D,K,Ar,U⟩:=id J;ac_rfl
 have a:ik X.prog X.w H Y:=λb ob e=>by
  refine(I.hok b ob e).pz (λc L r q=>(f.2 c ?_).trans q) (λ_ q=>q) λ_ _ q=>q;rintro rfl
  rcases r with rfl|r
  .rw[I.free] at e;cases e
  .rw[I.free] at r;cases r
 refine h _ #[I.ok,I.os,I.bare,#[λb o e n B l=>?_,λb o e n B l=>?_,I.base.free,λb o e l=>?_,I.base.tups,I.base.frzs,I.base.tbls],#[_,Z,λj y v' g t e3=>?_],λy c e=>?_,I.free,I.freeC,λp hp=>?_,a,by simpa using I.len]
 .exact(f.2 b^bL^dj (Da e) I.ok.above).trans^I.base.keep b o e n B l
 .obtain⟨sl,g⟩:=I.base.slot b o e n B l
  exact#[sl,(f.2 b^bL^dj (Da e) I.ok.above).trans g]
 .obtain⟨o',g⟩:=I.base.there b o e l
  exact#[o',(f.2 b^bL^dj (Da e) I.ok.above).trans g]
 .by_cases C:j=i
  .subst C
   rw[nI T] at t;cases Do t
  .rw[pB^Ne.symm C] at t
   let⟨u',r',q⟩:=R j y v' g t e3;exists u',r'
   rcases q with ⟨k,e⟩ | ⟨k,c,e,z⟩
   .refine .inl #[k,?_]
    have:y≠x:=λe=>C^xv O g (e▸F)
    simp[this,e]
   .exact .inr #[k,c,e,z.sameBut f^z7 y c e]
 .obtain⟨L,z⟩:=I.cell y c e
  exact#[L,z.sameBut f^z7 y c e]
 .obtain⟨e,n,ne,nf,d⟩:=I.pin p hp
  exact#[(f.2 p.1 ne).trans e,n,ne,nf,d]
def Hr{K:ad}{C:Addr}{b:Value}{r:Bool}{f q:Str}{N:Addr}{bs e:List Value}{g:Bool}{h:List Str}{sub:List Value}{i:Bool}{c:Option Bool}{j:Option Addr}{k l m n o:Option Value}{a:String}
  (p:K.lookup C\(excClassObj f q C N bs e g h sub i c j k l m n o a)) (d:mroIn K C b\r):(Value.ref C::e).contains b=r:=by
 unfold mroIn clsIn at d;rw[p] at d;simpa using d
def Hk{M:Model}{A:f7}{E:b_->c_->Prop}{Q:Bool->c_->Prop}{K:ad}{a C e t:Addr}{j:b_}{d:Option Addr}{b:Bool}(X:K.In s.heap)(k:s.heap.get? a\(jJ C t j d))(l:mX K C)(m:mX K e)(n:mroIn K e^.type "BaseException"\true)(o:mroIn K C^.ref e\b)
  (h:Q b s):d7 M A (excMatches (.ref a)^.ref e) Q E s:=by
 let⟨T,Y,N,bs,Z,H,sn,sub,ab,p,dd,k0,k1,k2,k3,k5,i,z⟩:=l.obj;let⟨q,r,N',u,v,w,x,y,B,F,G,I,J,L,O,P,c,z⟩:=m.obj;have R:=Hr i o;have S:=Hr c n
 replace i:=X _ _ i
 replace c:=X _ _ c
 have f:=tc_notTuple;let⟨hp,g,dr,tk,os⟩:=s;unfold excMatches
 repeat (first|with_reducible refine gE k ?_|with_reducible refine gE c ?_| (with_reducible refine g6 c ?_;rw[S]) | (with_reducible refine g6 i ?_;rw[R]) |wp_step)
 cases b<;>(wp_walk;exact h)
end
abbrev Cx.pK(X:Cx)(a:Addr):Cx:={X with A:=X.A.mark^some^.ref a,calm:=false,xe:=λ_ _=>False}
abbrev Cx.tr(X:Cx)(pn:List (Addr×Obj))(E:Value->Shared->Prop):Cx:={X with pn:=pn,xe:=E}
section
variable {X:Cx} {pins pn:List (Addr×Obj)} {σ:St} {H:Hp} {s:Shared} {E:Value->Shared->Prop} {a:Addr}
theorem Inv.pK(I:Inv X pins σ H s)(a:Addr):Inv (X.pK a) pins σ H s:=
 #[#[I.ok.mod,I.ok.kind,I.ok.glob,I.ok.blt,I.ok.above,I.ok.inj,I.ok.has,I.ok.cab,(λz=>nomatch z),I.ok.frames,I.ok.stk,I.ok.exf,I.ok.bs,I.ok.bsz,I.ok.noex,I.ok.exfs,I.ok.funs,I.ok.frf],I.os,I.bare,I.base,I.loc,I.cell,I.free,I.freeC,I.pin,I.hok,I.len]
def Inv.qM(ok:X.Ok)(I:Inv (X.pK a) pins σ H s):Inv X pins σ H s:=#[ok,I.os,I.bare,I.base,I.loc,I.cell,I.free,I.freeC,I.pin,I.hok,I.len]
theorem Inv.tr(I:Inv X pins σ H s)(E:b_->c_->Prop):Inv (X.tr (X.pn++pins) E) [] σ H s:=
 #[#[I.ok.mod,I.ok.kind,I.ok.glob,I.ok.blt,I.ok.above,I.ok.inj,I.ok.has,I.ok.cab,I.ok.hd,I.ok.frames,I.ok.stk,I.ok.exf,I.ok.bs,I.ok.bsz,I.ok.noex,I.ok.exfs,I.ok.funs,I.ok.frf],I.os,I.bare,I.base,I.loc,I.cell,I.free,I.freeC,λp b=>I.pin p^by rw[ft] at b;exact b,I.hok,I.len]
def Inv.IT(ok:X.Ok)(I:Inv (X.tr (X.pn++pins) E) [] σ H s):Inv X pins σ H s:=#[ok,I.os,I.bare,I.base,I.loc,I.cell,I.free,I.freeC,λp b=>I.pin p^by rw[ft];exact b,I.hok,I.len]
def uJ{X:Cx}(f:zQ X H s a)(h:Q ⟨⟩ s):d7 M A (kF (.ref a) none) Q E s:=by
 rfl';let⟨C,t,l,d,i,c,b⟩:=f;ac_rfl
 rcases b with rfl| ⟨T,rfl,_,_,_,_,_,o,j,e,g,b⟩
 .unfold kF
  refine a_^acT (x:= .none) c rfl rfl ?_;rw[tz ∅]
  exact ir h
 .refine wpAny_setFlight_none c rfl rfl e g (BQ.mp b).1 ?_
  rw[Heap.update_setField_same _ _ o j 3 .none e g b];exact h
end
noncomputable def aaP:Option Nat->Ends->Ends
 |none,D=>D
 |some i,D=>{nx:=λa H=>D.nx (a.set i none) H,rt:=D.rt,bk:=λa H=>D.bk (a.set i none) H,ct:=λa H=>D.ct (a.set i none) H}
noncomputable def abW:Option Nat->Addr->St->St
 |none,_,b=>b
 |some i,a,b=>b.set i^some^.ref a
abbrev O2:=List (Addr×Option Nat×(Addr->TS))
def F2(K:ad):O2->Ends->St->Hp->Addr->Addr->Prop
 | [],_,_,_,_,_=>False
 | (d,n,e)::r,D,c,H,a,C=>∃b,mroIn K C^.ref d\b/\if b=true then e a (aaP n D) (abW n a c) H else F2 K r D c H a C
def PH(X:Cx)(e:List ExceptHandler)(l:O2):Prop:=
 ∀(b:List (Addr×Obj))(c:St)(H:Hp)(s:Shared)(a C:Addr)(d:Option Addr)(D:Ends),Inv X b c H s->zQ X H s a->H a\(lO C a d)->mX X.K C->F2 X.K l D c H a C->wpAny (model X.prog X.w) X.A (handleBy (.ref a) X.env e) (SP X b D) X.xe s
section
variable {X:Cx} {pos p:Pos} {c n:Str} {Cm:Addr} {uC:Stmt} {oO:List Stmt} {rest:List ExceptHandler} {l:O2} {th:Addr->TS}
def Vo:PH X [] []:=λ_ _ _ _ _ _ _ _ _ _ _ _ h=>h.elim
def Hl{h:Heap}(e:lO C a d=lO f a i)(g:h.get? a\(jJ C t b d)):C=f:=by
 have:=KF (λo=>match o with|HO.ext k=>k h|_=>True) e
 have m:∃t b,h.get? a\(jJ f t b i):=by
  have:(∃t b,h.get? a\(jJ C t b d))=(∃t b,h.get? a\(jJ f t b i)):=this
  rw[<-this];exact#[t,b,g]
 obtain⟨r,q,j⟩:=m;rw[g] at j;cases j;rfl
theorem Sa(hg:Gl X c)(hm:X.mg c\(.ref Cm))(xm:mX X.K Cm)(qb:mroIn X.K Cm^.type "BaseException"\true)(hs:∀a,jX (X.pK a) (uC::oO)^th a)(hr:PH X rest l)(eJ:(c==("__debug__":ee))=false<|>zm):
  PH X (.ExceptHandler (some^.Name c p) none (uC::oO) pos::rest) ((Cm,none,th)::l):=by
 intro pins σ H s a C d D I fl ha xc h;rfl';let⟨C',t,tb,d',h1,h2,h3⟩:=id fl;have eC:C'=C:=Hl (Option.some.inj^h1.symm.trans ha) h2;subst eC;let⟨b,hb,h⟩:=h;ac_rfl;refine wpAny_handleBy_cons (codeAny_handlers_test (gv (hU (I.pK a) hg hm ?_ eJ) (λ_ _ x=>x) λ_ _ z=>z))^by intro q;cases q
 refine Hk I.cZ h2 xc xm qb hb ?_;cases b with
 |false=>exact hr pins σ H s a C' d D I fl ha xc h
 |true=>
  refine codeAny_handlers_suite^uJ fl ?_;refine gv (hs a pins s σ H D (I.pK a) h) (λf s1 q=>?_) λ_ _ z=>z.elim;cases f with
  |next=>let⟨ax,H',I',q⟩:=q;exact#[ax,H',I'.qM I.ok,q]
  |brk=>let⟨ax,H',I',q⟩:=q;exact#[ax,H',I'.qM I.ok,q]
  |cont=>let⟨ax,H',I',q⟩:=q;exact#[ax,H',I'.qM I.ok,q]
  |ret u=>let⟨v,ax,H',I',r,q⟩:=q;exact#[v,ax,H',I'.qM I.ok,r,q]
theorem ZN(i:Nat)(hN:X.N.Nodup)(hi:X.N[i]?\n)(hk:X.env.scope.names.lookup n\.local)(hg:Gl X c)(hm:X.mg c\(.ref Cm))(xm:mX X.K Cm)(qb:mroIn X.K Cm^.type "BaseException"\true)(hs:∀a,jX (X.pK a) (uC::oO)^th a)(hr:PH X rest l)(eJ:(c==("__debug__":ee))=false<|>zm):
  PH X (.ExceptHandler (some^.Name c p) (some n) (uC::oO) pos::rest) ((Cm,some i,th)::l):=by
 intro pins σ H s a C d D I fl ha xc h;rfl';let⟨C',t,tb,d',h1,h2,h3⟩:=id fl;have eC:C'=C:=Hl (Option.some.inj^h1.symm.trans ha) h2;subst eC;let⟨b,hb,h⟩:=h;ac_rfl;refine wpAny_handleBy_cons (codeAny_handlers_test (gv (hU (I.pK a) hg hm ?_ eJ) (λ_ _ x=>x) λ_ _ z=>z))^by intro q;cases q
 refine Hk I.cZ h2 xc xm qb hb ?_;cases b with
 |false=>exact hr pins σ H s a C' d D I fl ha xc h
 |true=>
  refine codeAny_handlers_suite_as^uJ fl ?_;refine kM (X:=X.pK a) (v:= .ref a) (I.pK a) hN hi (.inl hk) rfl (λs1 I1=>?_)^.inr hk;refine gv (hs a pins s1 _ H _ I1 h) (λf s2 q=>?_) λ_ _ z=>z.elim;cases f with
  |next=>let⟨ax,H',I',q⟩:=q;exact uM (I'.qM I.ok) hN hi hk λs3 I3=>#[_,H',I3,q]
  |brk=>let⟨ax,H',I',q⟩:=q;exact uM (I'.qM I.ok) hN hi hk λs3 I3=>#[_,H',I3,q]
  |cont=>let⟨ax,H',I',q⟩:=q;exact uM (I'.qM I.ok) hN hi hk λs3 I3=>#[_,H',I3,q]
  |ret u=>let⟨v,ax,H',I',r,q⟩:=q;exact uM (I'.qM I.ok) hN hi hk λs3 I3=>#[v,_,H',I3,r,q]
def acd(X:Cx)(g:List (Addr×Obj)->(Value->Shared->Prop)->TS)(h:TS)(l:O2):TS:=λD i H=>∀e E,(∀f b a C d,b a\(lO C a d)->mX X.K C->F2 X.K l D f b a C->GD (X.tr e E) f b a)->g e E {D with nx:=h D} i H
theorem Vt{body orelse:List Stmt}{h₀:iF}{hs:List iF}{tb:List (Addr×Obj)->(b_->c_->Prop)->TS}{to:TS}(lS:X.stack=X.env::X.outer)(QI:X.env.frame\X.env.locals)
  (hb:∀pn E,jX (X.tr pn E) body^tb pn E) (ho:jX X orelse to) (hh:PH X (h₀::hs) l):PS X (.Try body (h₀::hs) orelse [] pos)^acd X tb to l:=by
 intro pins s σ H D I h;refine wpAny_Try_except ?_
 let E':b_->c_->Prop:=λe s₁=>d7 (d5 X.prog X.w) X.A (kv e X.env) (λ_ Ed=>d7 (d5 X.prog X.w) X.A (kF e none) (λ_ wa=>d7 (d5 X.prog X.w) X.A (handleBy e X.env (h₀::hs)) (SP X pins D) X.xe wa) X.xe Ed) X.xe s₁
 have hw:=h (X.pn++pins) E' λax H' a C d h1 h2 h3=>by
  intro s1 I1 f1;refine DJ (X:=X.tr (X.pn++pins) E') lS QI I1 f1 λs2 I2 f2=>?_;rfl';have I2':=I2.IT I.ok;obtain⟨C',t,tb,d',g1,g2,g3⟩:=f2;ac_rfl;refine hh pins ax H' s2 a C d D I2' #[C',t,tb,d',g1,g2,g3.imp id λ#[T,e1,e2,e3,e4,e5,e6]=>#[T,e1,e2,e3,e4,λp hp=>e5 p^lH _ hp,e6]] h1 h2 h3
 refine gv (hb _ E' [] s σ H _ (I.tr E') hw) (λf s1 q=>?_) λ_ _ z=>z;cases f with
 |next=>obtain⟨ax,H',I',q⟩:=q;exact ho pins s1 ax H' D (I'.IT I.ok) q
 |brk=>obtain⟨ax,H',I',q⟩:=q;exact#[ax,H',I'.IT I.ok,q]
 |cont=>obtain⟨ax,H',I',q⟩:=q;exact#[ax,H',I'.IT I.ok,q]
 |ret u=>obtain⟨v,ax,H',I',r,q⟩:=q;exact#[v,ax,H',I'.IT I.ok,r,q]
end
def Cv:(ak 100).all (λn=>decide ((Str.ofString^toString (n:Int)).length<=3))=true:=by decide+kernel
def int_text{i:Int}(a:0<=i)(b:i<100):(Str.ofString^toString i).length<=3/\i.natAbs.log2<1920:=by
 obtain⟨n,rfl⟩:∃n:Nat,i=n:=#[i.toNat,()]
 refine#[IR^adS.mp Cv n^i7.mpr (),?_]
 have:(n:Int).natAbs=n:=by simp
 rw[this];exact pC (Nat.log2_le_self n) ()
section
variable {X:Cx} {a b:Str} {x y:Expr} {k1 k2:Option String} {p1 p2 p3 p4 pos:Pos} {tx ty:TE}
def tF4(d e:TE):TE:=λc H Q=>d c H λv f=>∃i,v= .int i/\0<=i/\i<100/\e c f λu g=>∃j,u= .int j/\0<=j/\j<100/\∀z,Q (.str z) g
def ZL{k1 k2}(o:PE X x tx)(p:PE X y ty)(ha:a.length<=1000)(hb:b.length<=1000):
  PE X (.JoinedStr [.Constant (.str a) k1 p1, .FormattedValue x (-1) none p2, .Constant (.str b) k2 p3, .FormattedValue y (-1) none p4] pos)^tF4 tx ty:=by
 intro c s e H Q I h;have z1:(Str.empty++a).length<=1000:=by rw[aeH];show 0+_<=_;lia
 have sz:∀n,n<=3000->n<=sizeLine:=λn hn=>by rw[ac6];lia
 refine wpAny_JoinedStr ?_;refine thn (rH (X:=X) (x:=a) (j:=k1) (pos:=p1) c s e H (λv f=>v= .str a/\f=H) I #[rfl,rfl]) λu q #[v,r,w,d,ev,g]=>?_;subst ev g;obtain⟨A,rfl⟩:∃t,u= .str a t:=d;refine#[a,A,rfl,sz _ (),?_]
 refine aeI (thn (o c q e r _ w h) λu s2 k=>?_);rfl';let⟨v,m,C,d,i,ev,E,F,G⟩:=k;ac_rfl;subst ev;obtain⟨t2,rfl⟩:∃t,u= .int i t:=d;let⟨n1,J⟩:=int_text E F;refine wpAny_formatField_int J ?_;have z2:(Str.empty++a++Str.ofString^toString i).length<=1003:=by rw[aeH];lia
 refine#[_,_,rfl,sz _ (),?_]
 refine thn (rH (X:=X) (x:=b) (j:=k2) (pos:=p3) c _ e m (λv f=>v= .str b/\f=m) (C.tok _) #[rfl,rfl]) λu L #[v,M,N,d,ev,g]=>?_;subst ev g;obtain⟨O,rfl⟩:∃t,u= .str b t:=d;have z3:(Str.empty++a++Str.ofString^toString i++b).length<=2003:=by rw[aeH];lia
 refine#[b,O,rfl,sz _ (),?_]
 refine aeI (thn (p c L e M _ N G) λu s4 k=>?_);rfl';let⟨v,P,R,d,j,ev,S,T,Y⟩:=k;ac_rfl;subst ev;obtain⟨t4,rfl⟩:∃t,u= .int j t:=d;let⟨m1,Z⟩:=int_text S T;refine wpAny_formatField_int Z ?_;have z4:(Str.empty++a++Str.ofString^toString i++b++Str.ofString^toString j).length<=2006:=by rw[aeH];lia
 refine#[_,_,rfl,sz _ (),sz _ (),?_]
 exact#[.str _,P,(R.tok _).tok _,#[_,rfl],Y _]
end
abbrev En:=List D->(D->Prop)->(D->Prop)->Prop
def hV(Z:DC)(f:En):Sp:=λg H Q E=>∃(G:Hp)(e:List D)(P R:D->Prop),aC G H/\DvAll Z G g e/\f e P R/\(∀d,P d->∀v b c,Ext G H b c->Dv Z b v d->Q v c)/\∀d,R d->∀a b c,Ext G H b c->Dv Z b (.ref a) d->E (.ref a) none c
section
variable {P:Program} {w:World} {K:ad} {mg:Str->Option Value} {base:Heap} {Z:DC}
def uB.okX{x a:ee}{st:Stmt}{f:Addr}{g:gi}{N d:List ee}{k:Nat}{e:Sp}{h:pP}(F:uB K x a st f g)(S:aE N d^ar st)(len:∀b H Q E,e b H Q E->b.length=d.length)
  (i:∀(c:b_)(A:f7)(outer:List lE)(s:c_)(H:Hp)(b:List V)(Q:VK)(E:XK),bU k^A.deeper^jT a (ar st) s.heap.objs.size f c->e b H Q E->
   ∃t,jX (kU h P w K mg base N a (ar st) f c A outer s H E) (dM st) t/\t {nx:=λ_ j=>Q .aQ j,rt:=Q} (start N b) H):FnOk P w K mg base h (k+1) f g d e:=by
 rfl';let⟨u,v,kV,m,y,B,c,C,G,rfl,n,o⟩:=F.ex;ac_rfl;exact Qd n o S len λA outer s H b Q E p q=>i c A outer s H b Q E p q
theorem ng{x b:ee}{st:Stmt}{f:Addr}{B:gi}{N m:List ee}{k:Nat}{p:En}(F:uB K x b st f B)(S:aE N m^ar st)(C:List Nat)(J:∀i,i<m.length->C.getD i 0=0)(len:∀c P R,p c P R->c.length=m.length)
  (L:∀(n:b_)(A:f7)(outer:List lE)(s:c_)(H:Hp)(E:XK)(c:List D)(R g:D->Prop),bU k^A.deeper^jT b (ar st) s.heap.objs.size f n->p c R g->
   ∃t,nM Z (kU (sX P w) P w K mg base N b (ar st) f n A outer s H E) C 0 (dM st) t/\t {nx:=λ_=>R .aQ,rt:=R,xc:=λ_ d=>g d}^oM N c):FnOk P w K mg base (sX P w) (k+1) f B m^hV Z p:=by
 refine F.okX S (λM H Q E h=>?_)^λn A outer s H M Q E O h=>?_
 .obtain⟨G,c,R,g,s,dv,h,q⟩:=h
  rw[dv.length];exact len _ _ _ h
 rfl';let⟨G,c,R,g,X,dv,h,q,Y⟩:=h;let⟨t,ht,hq⟩:=L n A outer s H E c R g O h;have hl:=len _ _ _ h;ac_rfl;refine#[_,ht,#[G,H,G],_,_,#[G,λ_=> [],?_],hq,#[λρ UE ax j #[l,fp,r]=>q _ UE _ l j r.ex .aQ,λd u v f l j x o nd nw=>q d u v l j x o.1,λ_ z=>z.elim,λ_ z=>z.elim,λρ d u ax j l fp a r y s2 I2 f2=>Qc I2 f2^Y d u a l j r.ex y]];refine#[.refl X, .refl _,by unfold oM start;simp[dv.length],λi d e=>?_,λ_=>iN,(λ_ _ _ _ z=>by cases z),(λ_ _ z=>by cases z)]
 unfold oM at e
 have I:i<c.length:=by
  apply GE;intro z;rw[lF^~~~lI z,yU] at e
  split at e<;>cases e
 rw[i5^~~~I,fm] at e
 have iQ:c[i]?\d:=by
  cases z:c[i]? with
  |none=>rw[z] at e;cases e
  |some d'=>rw[z] at e;cases e;rfl
 let⟨v,hv,y⟩:=dv.get iQ;refine#[v,?_,by rw[J i ()];exact#[y,rfl]]
 unfold start;rw[i5^by simpa [dv.length] using I,fm,hv];rfl
end
section
variable {Z:DC} {X:Cx} {md:List Nat} {rn:Nat} {st:Stmt} {Bx:List Stmt} {t:ij} {e x1 y1:Expr} {es:List Expr} {tx ty:aY} {sd:En} {k j:Nat} {x:Str} {ps:List Str} {p pos aM:Pos}
def LV(b:List Nat)(c:En)(t:ij)(K:fB->DN->D->Prop):dJ:=λE a=>t (cG b a) λd=>c d (K E a)^E.xc a
def xW{B:Bs}{b:DN}{g:St}{H G:Hp}{i:Nat->List Addr}{E:fB}{r:Ends}{K:D->Prop}{Q:VK}(S:SIx Z B md b g H G i)(h:t (cG md b) λl=>sd l K^E.xc b)(M:Meets Z X B md rn E r)
  (q:∀d,K d->∀v c f,SIx Z B md b g f c i->Dv Z c v d->Q v f):MR X (hV Z sd) (Fj Z t) g H Q:=by
 refine#[G,_,_,S.ex.sub,S.uG,h,λl s y u A n w=>?_];have o:=S.grow n;exact#[u,l,K,E.xc b,n.sub,w,s,λd m v c f x dv=>q d m v c f (o.grow x) dv,λd m a c f x dv=>#[a,rfl,M.xc b d m g f c i a (o.grow x) dv]]
def qY(d:bJ X.K X.mg x st ps)(F:FnOk X.prog X.w X.K X.mg X.base (sX X.prog X.w) k d.f d.fd ps^hV Z sd)(c:bU j X.A)(g:DA Z X (e::es) t)(i:Gl X x<|>zn)(l:k<=j<|>xa)
  (n:(x==("__debug__":ee))=false<|>zm) (o:d4 (e::es) X.env=(false,fC e X.env)::d4 es X.env<|>zn) (q:(f8 aM^d4 es X.env).any (·.1)=false<|>zn) (r:gs (.Call (.Name x p) (e::es) [] aM) none pos.line X.env=pure false<|>zn):
  DSt Z X md rn (.Expr (.Call (.Name x p) (e::es) [] aM) pos) (LV md sd t λE a _=>E.nx a):=by
 refine(dh (DX F (c.mono l) i d.m d.F.kp d.b g n o q) r).imp ?_;intro D L H s;rfl';obtain⟨B,a,E,⟨G,y,S⟩,h,M⟩:=s;ac_rfl;exact xW S h M λd C v I O J dv=>M.nx _ C _ _ #[I,y,J]
def P1(i:Nat)(g:X.N.Nodup)(d:bJ X.K X.mg x st ps)(F:FnOk X.prog X.w X.K X.mg X.base (sX X.prog X.w) k d.f d.fd ps^hV Z sd)(l:bU j X.A)(n:DA Z X (e::es) t)(o:Gl X x<|>zn)(q:k<=j<|>xa)
  (r:(x==("__debug__":ee))=false<|>zm) (s:d4 (e::es) X.env=(false,fC e X.env)::d4 es X.env<|>zn) (u:(f8 aM^d4 es X.env).any (·.1)=false<|>zn) (C:gs (.Call (.Name x p) (e::es) [] aM) (some^.Name y a) pos.line X.env=pure false<|>zn)
  (I:md.getD i 0=0<|>zn) (J:X.N[i]?\y<|>zn) (L:Loc X.env.scope y<|>xz) (O:X.fn y=true\/X.env.scope.names.lookup y\.local<|>xz):
  DSt Z X md rn (.Assign [.Name y a] (.Call (.Name x p) (e::es) [] aM) pos) (LV md sd t λE c d=>E.nx^c.set i^some d):=by
 refine(bW g J L (DX F (l.mono q) o d.m d.F.kp d.b n r s u) C O).imp ?_;intro D σ H P;rfl';obtain⟨B,c,E,⟨G,fp,S⟩,h,M⟩:=P;ac_rfl;exact xW S h M λd R v T H' Y dv=>M.nx _ R _ _ #[T,_,Y.pq I dv]
structure XE (K:ad) (C:Addr):Prop where
 cls:j7 K C
 obj:mX K C
def Lr(H:Hp)(a:Addr)(o u:HO):upd (upd H a o) a u=upd H a u:=by
 funext b
 by_cases h:b=a
 .rw[h,ae,ae]
 .rw[af h,af h,af h]
def Pz(b:List Nat)(C:Addr)(c f:aY):dJ:=λE a=>c (cG b a) λd=>∃i,d= .int i/\0<=i/\i<100/\f (cG b a) λd=>∃j,d= .int j/\0<=j/\j<100/\E.xc a^.err C [] []
def Io(S:SIx Z B md b c H G d)(h:E.xc b^.err C [] [])(M:Meets Z X B md rn E f)(g:H a=none):GD X c (upd (upd H a^rX C a none) a^lO C a none) a:=by
 rw[Lr];have x:Ext G H (upd G a^lO C a none)^upd H a^lO C a none:= .new S.ex.sub g;exact M.xc b _ h c _ _ d a (S.grow x)^.err ae (.inl #[rfl,rfl,rfl]) .nil
def JF{k1 k2}(u:X.calm=true)(M:GC X.K C^.builtin "ValueError.__init__")(r:XE X.K C)(w:X.mg x\(.ref C))(y:DE Z X c tx)(A:DE Z X y1 ty)(F:Gl X x<|>zn)(o:a.length<=1000<|>xh)(I:b.length<=1000<|>xh)(J:(x==("__debug__":ee))=false<|>zm)
  (s:d4 [.JoinedStr [.Constant (.str a) k1 f, .FormattedValue c (-1) none g, .Constant (.str b) k2 l, .FormattedValue y1 (-1) none m] n] X.env=(false,fC (.JoinedStr [.Constant (.str a) k1 f, .FormattedValue c (-1) none g, .Constant (.str b) k2 l, .FormattedValue y1 (-1) none m] n) X.env)::d4 [] X.env<|>zn) (L:(f8 aM^d4 [] X.env).any (·.1)=false<|>zn):
  DSt Z X md rn (.Raise (some^.Call (.Name x p) [.JoinedStr [.Constant (.str a) k1 f, .FormattedValue c (-1) none g, .Constant (.str b) k2 l, .FormattedValue y1 (-1) none m] n] [] aM) none pos)^Pz md C tx ty:=by
 refine(DZ u^KN M F w (ao (ZL y A o I) az s) J s L).imp ?_;intro D t H N;rfl';obtain⟨B,ρ,E,⟨G,fp,S⟩,h,M⟩:=N;ac_rfl;exists G,_,_,S.ex.sub,S.uG,h;rintro d ⟨i,rfl,P,Q,h⟩ v R H1 c dv;exists i,dv.ofInt,P,Q;have q:=S.grow c;exists R,_,_,q.ex.sub,q.uG,h;rintro d ⟨j,rfl,T,Y,h⟩ v G2 H2 e dv;refine#[j,dv.ofInt,T,Y,λz=>?_];have k:=q.grow e;refine#[by show 1<=1000;decide,λa o=>#[a,C,none,rfl,ae,r.obj,r.cls.be,Io k h M o]]
noncomputable def P6:Option Nat->fB->fB
 |none,E=>{E with xc:=λ_ _=>False}
 |some i,E=>{nx:=λa=>E.nx^a.set i none,rt:=E.rt,bk:=λa=>E.bk^a.set i none,ct:=λa=>E.ct^a.set i none}
noncomputable def Sy:Option Nat->D->DN->DN
 |none,_,a=>a
 |some i,d,a=>a.set i^some d
abbrev Er:=List (Addr×Option Nat×dJ)
def XG(K:ad)(C:Addr):Er->fB->DN->D->Prop
 | [],_,_,_=>False
 | (c,n,f)::r,E,a,d=>∃b,b7 K C^.ref c\b/\if b=true then f (P6 n E)^Sy n d a else XG K C r E a d
def XF(K:ad)(l:Er)(E:fB)(a:DN):D->Prop
 | .err C b c=>mX K C/\XG K C l E a^.err C b c
 |_=>False
def aaK(K:ad)(tb a:dJ)(l:Er):dJ:=λE b=>tb {E with nx:=a E,xc:=XF K l E} b
def SIx.drop{i:Nat}(S:SIx Z B md a d H G f):SIx Z B md (a.set i none) (d.set i none) H G f where
 ex:=S.ex
 fl:=S.fl
 len:=by rw[i6,i6];exact S.len
 at_:=λj c h=>by
  by_cases z:i=j
  .subst z
   by_cases b:i<a.length
   .rw[nI b] at h;cases h
   .rw[Ej^lI b,gP^lI b] at h;cases h
  .rw[pB z] at h ⊢
   exact S.at_ j c h
 nd:=S.nd
 ap:=S.ap
 nw:=S.nw
noncomputable def WS(Z:DC)(X:Cx)(b:List Nat)(d:Nat)(l:Er):O2:=l.map λc=>(c.1,c.2.1,λa=>oh Z (X.pK a) b d c.2.2)
def okH(a:List Nat)(l:Er):Prop:=∀c∈l,∀i,c.2.1\i->a.getD i 0=0
def DHs(Z:DC)(X:Cx)(a:List Nat)(b:Nat)(c:List iF)(l:Er):Prop:=PH X c^WS Z X a b l/\okH a l
theorem Dl{B:Bs}{E:fB}{s:Ends}(M:Meets Z X B md rn E s){q:DN}{u:St}{H G:Hp}{v:Nat->List Addr}(S:SIx Z B md q u H G v){a C:Addr}{d:D}(dv:Dv Z G (.ref a) d){K:ad}:∀(l:Er),okH md l->XG K C l E q d->F2 K (WS Z X md rn l) s u H a C
 | [],_,h=>h
 | (L,n,F)::r,ok,#[b,I,h]=>by
  exists b,I;cases b with
  |false=>exact cL^Dl M S dv r (λc J=>ok c^dY _ J)^h
  |true=>
   have h:F (P6 n E)^Sy n d q:=h;refine b9 ?_;cases n with
   |none=>exact#[B,q,_,#[G,v,S],h,#[M.nx,M.rt,M.bk,M.ct,λ_ _ z=>z.elim]]
   |some i=>
    refine#[B,_,_,#[G,_,S.pq (ok _ (c5 ..) i rfl) dv],h,#[λw f y A #[g,m,o]=>M.nx _ f _ _ #[g,m,o.drop],M.rt,λw f y A #[g,m,o]=>M.bk _ f _ _ #[g,m,o.drop],λw f y A #[g,m,o]=>M.ct _ f _ _ #[g,m,o.drop],λ_ _ z=>z.elim]]
def L8(v:∀g E,nM Z (X.tr g E) md rn c tb)(w:nM Z X md rn b o)(q:DHs Z X md rn (f::n) l)(y:X.stack=X.env::X.outer<|>zn)(A:X.env.frame\X.env.locals<|>zn):
  DSt Z X md rn (.Try c (f::n) b [] pos)^aaK X.K tb o l:=by
 refine(Vt (tb:=λg E=>oh Z (X.tr g E) md rn tb) y A v w q.1).imp ?_;intro Q R H F g T I;rfl';let⟨B,L,E,S,h,M⟩:=F;ac_rfl;refine#[B,L,_,S,h,#[λr N s u i=>#[B,r,E,i,N,M],M.rt,M.bk,M.ct,λr d m s u G e a i dv=>?_]];cases d<;>first|exact False.elim m|skip
 rename_i C j k
 have O:=dv;cases dv with
 |err P p t=>exact I s u a C _ (i.ex.sub _ _ P) m.1^Dl M i O l q.2 m.2
def L4:DHs Z X md rn [] []:=#[Vo,λc a=>by cases a]
variable {c n:Str} {Cm:Addr} {uC:Stmt} {oO:List Stmt} {rest:List ExceptHandler} {l:Er} {th:dJ}
def GZ(g:X.mg c\(.ref Cm))(d:XE X.K Cm)(h:∀a,nM Z (X.pK a) md rn (m::oO) th)(f:DHs Z X md rn rest l)(o:Gl X c<|>zn)(q:(c==("__debug__":ee))=false<|>zm):
  DHs Z X md rn (.ExceptHandler (some^.Name c p) none (m::oO) pos::rest) ((Cm,none,th)::l):=
 #[Sa o g d.obj d.cls.be h f.1 q,λc b=>by
  rcases dS.mp b with rfl|b
  .intro i z;cases z
  .exact f.2 c b]
def EI(i:Nat)(g:X.N.Nodup)(h:X.mg c\(.ref Cm))(d:XE X.K Cm)(m:∀a,nM Z (X.pK a) md rn (o::oO) th)(f:DHs Z X md rn rest l)(q:Gl X c<|>zn)(r:(c==("__debug__":ee))=false<|>zm)(s:X.N[i]?\n<|>zn)(u:X.env.scope.names.lookup n\.local<|>zn)(v:md.getD i 0=0<|>zn):
  DHs Z X md rn (.ExceptHandler (some^.Name c p) (some n) (o::oO) pos::rest) ((Cm,some i,th)::l):=
 #[ZN i g s u q h d.obj d.cls.be m f.1 r,λc b=>by
  rcases dS.mp b with rfl|b
  .intro i z;cases z;exact v
  .exact f.2 c b]
end
section
variable {X:Cx}
def Hi(hok:ik P w H h)(e:H a\(lO C a b))(k:Jh H b c d):∃f b,PySem.W.InstAt h a f C b:=by
 obtain⟨t,j,e⟩:=Mb hok e
 rcases k with ⟨rfl,_,_⟩ | ⟨l,rfl,g,_⟩
 .exact#[_,none,e,rfl,rfl,trivial]
 .obtain⟨_,m,⟨o,_,_,i,_⟩,_⟩:=Gb hok g
  exact#[_,some o,e,rfl,rfl,i]
structure M5 (K:ad):Prop where
 hn:bd K (.builtin "object.__class__") "__get__"\(some^.builtin "getset_descriptor.__get__")
 htk:cr K^.builtin "object.__class__"\true
theorem B9(i:M5 X.K):
  CallR X (.builtin "isinstance") (λg H Q=>∃(a C:Addr)(f:Option Addr)(j:List Str)(k:List V)(c:V)(d:Value)(b:Bool),g= [.ref a,c]/\H a\(lO C a f)/\Jh H f j k/\j7 X.K C/\Gy c d/\bi X.K (.ref C) d\b/\Q (.bl b) H):=by
 intro l s B H g E Q I o h;rfl';obtain⟨a,C,f,j,k,c,d,b,rfl,r,t,u,v,e,q⟩:=h;obtain⟨G,w,rfl,x,m⟩:=o.two;subst x;obtain⟨L,y,J⟩:=Hi I.hok r t;ac_rfl
 have A:w=d:=by
  cases v with
  |own D=>exact m
  |blt n=>exact m
 subst A;exact UF (Dw u i.hn i.htk) I.cZ J e (λz=>nomatch z) λM=>#[.bl b,H,I.tok _,rfl,q]
inductive sY:List V->List Value->Prop where
 |nil:sY [] []
 |cons {c:V} {cu:Value} {cs:List V} {tm:List Value}:Gy c cu->sY cs tm->sY (c::cs) (cu::tm)
theorem sY.vals:∀{c:List V}{d e:List Value},sY c d->Vals c e->e=d
 |_,_,_, .nil, .nil=>rfl
 |_,_,_, .cons a b, .cons r t=>by
  rw[b.vals t];cases a with
  |own D=>rw[show _=Value.ref D from r]
  |blt n=>rw[show _=Value.type n from r]
def zZ(i:M5 X.K):
  CallR X (.builtin "isinstance") (λk H Q=>∃(a C c:Addr)(d:Option Addr)(l:List ee)(m f:List V)(g:List b_)(b:Bool),k= [.ref a, .ref c]/\H a\(lO C a d)/\Jh H d l m/\j7 X.K C/\H c\(.tup f)/\sY f g/\cM X.K (.ref C) g\b/\Q (.bl b) H):=by
 intro p s O H k P Q I j h;rfl';let⟨a,C,c,d,l,m,f,g,b,rfl,v,x,y,A,B,e,q⟩:=h;let⟨S,T,rfl,E,F⟩:=j.two;subst E;subst F;let⟨Y,G,J⟩:=Hi I.hok v x;let⟨u,L,j,o,M,r,n,t⟩:=(show cp X.prog X.w H s.heap c^.tup f from I.hok c _ A);have N:=B.vals j;subst N;let⟨Z,d,da,sl⟩:=o;ac_rfl;dsimp only at r t;subst r t;exact PySem.W.kia_tup (Dw y i.hn i.htk) I.cZ J M e (λz=>nomatch z) λtk=>#[.bl b,H,I.tok _,rfl,q]
end
section
variable {Z:DC} {X:Cx} {a c:Expr} {cs:List Expr} {ta:aY} {p pos:Pos}
def TQ(K:ad)(e:b_)(t:aY):aY:=λf P=>t f λd=>match d with
 | .err C _ _=>j7 K C/\∃b,bi K (.ref C) e\b/\P^.bl b
 |_=>False
def m6{K:ad}{f:V}{g:b_}(i:M5 K)(n:Gy f g)(o:PE X c^tC f)(r:DE Z X a ta)(t:Gl X "isinstance")(u:X.mg "isinstance"=none)(l:d4 [a,c] X.env=(false,fC a X.env)::d4 [c] X.env<|>zn)
  (w:(f8 pos^d4 [c] X.env).any (·.1)=false<|>zn) (x:d4 [c] X.env=(false,fC c X.env)::d4 [] X.env<|>zn) (y:X.K=K<|>zn):
  DE Z X (.Call (.Name "isinstance" p) [a,c] [] pos)^TQ K g ta:=by
 subst y;refine(cU (B9 i) t u (by decide+kernel) (ao r (ao o az x) l) ∅ ∅ l w).imp ?_
 intro Y H Q A;rfl';let⟨G,E,P,s,e,h,q⟩:=A;ac_rfl;refine#[G,E,_,s,e,h,λd m v F I k dv=>?_];cases dv<;>first|exact m.elim|skip
 rename_i a C J L M ds N O h3
 rfl';let⟨R,b,S,T⟩:=m;ac_rfl;exact#[a,C,J,L,M,f,g,b,rfl,k.sub _ _ N,O.mono k.sub,R,n,S,q _ T _ F I k^.bl _]
def gb(b:X.mg x\(.ref C))(d:Gl X x<|>zn)(e:(x==("__debug__":ee))=false<|>zm):PE X (.Name x pos)^tC^.ref C:=A6 d b (v:= .ref C) rfl e
def ZJ(b:X.mg "ValueError"=none)(d:Gl X "ValueError"<|>zn):PE X (.Name "ValueError" pos)^tC^.ty "ValueError":=Ig d b (by decide+kernel) rfl ∅ ∅
def Xp(X:Cx):List e_->List V->Prop
 | [],[]=>True
 |e::b,v::d=>PE X e^tC v/\d4 (e::b) X.env=(false,fC e X.env)::d4 b X.env/\Xp X b d
 |_,_=>False
theorem RU:∀{b:List Expr}{d:List V},Xp X b d->PA X b (λj H Q=>Q d H)
 | [],[],_=>az
 |e::b,v::d,#[f,g,i]=>ao f (RU i) g
 | [],_::_,h=>h.elim
 |_::_,[],h=>h.elim
def Pt(K:ad)(e:List b_)(t:aY):aY:=λf P=>t f λd=>match d with
 | .err C _ _=>j7 K C/\∃b,cM K (.ref C) e\b/\P^.bl b
 |_=>False
def JC{K:ad}{f:Nat}{g:ip}{j:List V}{k:List b_}(i:M5 K)(r:sY j k)(t:Xp X cs j)(c:j.length<=1000)(u:DE Z X a ta)(w:Gl X "isinstance")(x:X.mg "isinstance"=none)(n:d4 [a, .Tuple cs f g] X.env=(false,fC a X.env)::d4 [.Tuple cs f g] X.env<|>zn)
  (y:(f8 pos^d4 [.Tuple cs f g] X.env).any (·.1)=false<|>zn) (A:d4 [.Tuple cs f g] X.env=(false,fC (.Tuple cs f g) X.env)::d4 [] X.env<|>zn) (B:X.K=K<|>zn):
  DE Z X (.Call (.Name "isinstance" p) [a, .Tuple cs f g] [] pos)^Pt K k ta:=by
 subst B;refine(cU (zZ i) w x (by decide+kernel) (ao u (ao (vG^RU t) az A) n) ∅ ∅ n y).imp ?_
 intro σ H Q E;rfl';let⟨G,I,P,s,e,h,q⟩:=E;ac_rfl;refine#[G,I,_,s,e,h,λd o v G1 H1 f dv=>?_];cases dv<;>first|exact o.elim|skip
 rename_i a C J L M ds N O h3
 rfl';let⟨R,b,S,T⟩:=o;ac_rfl;refine#[by rw[ac6];lia,λY m=>?_]
 exact#[a,C,Y,J,L,M,j,k,b,rfl,(ay m _) _ _^f.sub _ _ N,(O.mono f.sub).mono^ay m _,R,ae,r,S,q _ T _ _ _ (f.trans^.new f.sub m)^.bl _]
def XA(K:ad)(f:Str)(t:aY):aY:=λb P=>t b λd=>match d with
 | .err C e g=>j7 K C/\fL K C f/\∃y,(e.zip g).lookup f\y/\P y
 |_=>False
theorem MW:∀{b:List Str}{d:List V}{e:List D},DvAll Z G d e->(b.zip e).lookup f\y->∃v,(b.zip d).lookup f\v/\Dv Z G v y
 | [],_,_,_,h=>by cases h
 |k::b,_,_, .nil,h=>by cases h
 |k::b,_,_, .cons a g,h=>by
  rw[List.zip_cons_cons] at h ⊢
  by_cases z:(f==k)=true
  .rw[bu,z] at h
   cases Do h;exact#[_,by rw[bu,z],a]
  .have z:(f==k)=false:=by simpa using z
   rw[bu,z] at h;obtain⟨v,i,j⟩:=MW g h;exact#[v,by rw[bu,z];exact i,j]
def Z3(K:ad)(e:TE)(f:ee):TE:=λg H Q=>e g H λx b=>∃a C d fs v,x= .ref a/\b a\(lO C a^some d)/\b d\(B7 d fs)/\j7 K C/\fL K C f/\fs.lookup f\v/\Q v b
def RX(k:PE X e i)(m:ge e f X.env^fC e X.env=fC e X.env):PE X (.Attribute e f pos)^Z3 X.K i f:=by
 intro b s w H Q I h;refine GJ m (thn (k b s w H _ I h) λu R y=>?_);rfl';let⟨x,B,d,E,a,C,S,fs,v,F,G,J,c,n,l,q⟩:=y;ac_rfl;subst F;obtain rfl:u=Value.ref a:=E;rfl';let⟨t,T,e⟩:=Mb d.hok G;let⟨g,L,M,r,p⟩:=Gb d.hok J;let⟨u,N,j⟩:=lT.some_of (v:=v) (o:=L f)^by rw[<-l];exact r f
 let⟨od,O,P⟩:=tP M;ac_rfl;exact I0 d.cZ (od:=some od) #[e,rfl,rfl,O] c (PySem.W.findObj_own c.hd n rfl^by rw[P,N]) (Ao j) #[v,B,d.tok _,j,q]
def uD{K:ad}{f:ee}(i:M5 K)(l:DE Z X a ta)(m:ge a f X.env^fC a X.env=fC a X.env<|>zn)(n:X.K=K<|>zn):DE Z X (.Attribute a f pos)^XA K f ta:=by
 subst n;refine(RX l m).imp ?_;intro R H Q o;rfl';let⟨G,t,P,s,e,h,q⟩:=o;ac_rfl;refine#[G,t,_,s,e,h,λd j v w x g dv=>?_];cases dv<;>first|exact j.elim|skip
 rename_i a C S T Y c A B E
 rfl';let⟨F,I,y,k,J⟩:=j;let⟨u,L,M⟩:=MW E k;ac_rfl
 rcases B with ⟨_,rfl,_⟩ | ⟨N,rfl,O,_⟩
 .cases k
 .exact#[a,C,N,_,u,rfl,g.sub _ _ A,g.sub _ _ O,F,I,L,q _ J _ w x g M]
end
section
variable {P:Program} {w:World} {K:ad} {mg:Str->Option Value} {base:Heap} {Z:DC}
end
section
variable {Z:DC} {X:Cx} {e:Expr} {es:List Expr} {t:ij} {pos:Pos}
end
noncomputable def S9:List Value->Bool
 | []=>false
 |v::r=>if isRef v then Mm r else Mm (v::r)
def OR(h:S9 a=true):a= [.type "ValueError", .type "Exception", .type "BaseException", .type "object"]\/∃M,a= [.ref M, .type "ValueError", .type "Exception", .type "BaseException", .type "object"]:=by
 cases a with
 |nil=>cases h
 |cons v r=>
  rw[S9] at h;cases b:isRef v with
  |true=>
   rw[mo b] at h;cases v with
   |ref M=>rw[Ay h];exact .inr #[M,rfl]
   |_=>cases b
  |false=>
   rw[tz^by rw[b];exact dP] at h
   exact .inl^Ay h
def Tg{K:ad}{C N:Addr}{d:ClassData}{e:List b_}{f q:ee}{bs s:List b_}{g:Bool}{h:List ee}{sub:List b_}{i:Bool}{c:Option Bool}{j:Option Addr}{k l m n o:Option b_}
  (t:cf K C=true) (u:aj K (.ref C) "__getattribute__"\(some^.builtin "BaseException.__getattribute__")) (v:aj K (.ref C) "__getattr__"\none)
  (w:aj K (.ref C) "__setattr__"\(some^.builtin "object.__setattr__")) (x:aj K (.ref C) "__class__"\(some^.builtin "object.__class__"))
  (p:dV K C\d) (r:d.mro= .ref C::e) (lo:K.lookup C\(hH f q C N bs s g h sub i c j k l m n o "ValueError.__new__")) (y:s=e) (A:S9 e=true):XE K C:=by
 have a:∀b,b7 K C b\((Value.ref C::e).contains b):=λb=>by
  unfold b7;rw[p,adT,r];rfl
 subst y
 rcases OR A with rfl| ⟨M,rfl⟩
 .refine#[#[t,u,v,w,?_,x,?_,?_],#[f,q,N,bs,_,g,h,sub,i,c,j,k,l,m,n,o,lo,rfl,rfl,rfl]]
  .unfold FF
   rw[p];show rD d.mro=true;rw[r];rfl
  .rw[a];rfl
  .rw[a];rfl
 .refine#[#[t,u,v,w,?_,x,?_,?_],#[f,q,N,bs,_,g,h,sub,i,c,j,k,l,m,n,o,lo,rfl,rfl,rfl]]
  .unfold FF
   rw[p];show rD d.mro=true;rw[r];rfl
  .rw[a];rfl
  .rw[a];rfl
structure Ew (K:ad) (C:Addr) (qual:ee) (st:Stmt) (ps:List ee) where
 f:Addr
 fd:gi
 F:uB K "__init__" qual st f fd
 b:Binds K fd ps []
 made:GC K C (.ref f)
 fn:bT K^.ref f=true
structure XBs (K:ad) (mg:ee->Option b_) (M:Addr):Prop where
 m:mg "MapError"\(.ref M)
 sg:bd K (.ref M) "__getattribute__"\(some^.builtin "type.__getattribute__")
 rd:dc K M^.type "type"=true
 fc:dn K (.ref M) (.type "type") "__init__"\(.val^.builtin "ValueError.__init__")
def FQ(Z:DC)(C:Addr)(g:List ee)(ok:List D->Prop):Sp:=λj H Q _=>∃(a:Addr)(h:List V)(G:Hp)(f:List D),j= .ref a::h/\H a\(rX C a none)/\G a=none/\aC G H/\DvAll Z G h f/\ok f/\f.length=g.length/\
 ∀c i d e,aC G d->aC d e->(∀b o,b≠a->H b\o->e b\o)->(∀b,H b≠none->G b=none->d b=none)->e a\(rX C a^some c)->H c=none->e c\(B7 c^g.zip i)->d c=none->DvAll Z d i f->Q .aQ e
section
variable {Z:DC} {X:Cx} {md:List Nat} {rn:Nat} {st:Stmt} {t:ij} {e:Expr} {es:List Expr} {k j:Nat} {x qual:Str} {ps:List Str} {p pos aM:Pos}
def PB(d:List Nat)(C:Addr)(b:List ee)(ok:List D->Prop)(t:ij):dJ:=λE c=>t (cG d c) λa=>ok a/\a.length=b.length/\E.xc c^.err C b a
def tw(hc:X.calm=true)(I:Ew X.K C qual st T)(F:FnOk X.prog X.w X.K X.mg X.base fJ k I.f I.fd T^FQ Z C m ok)(hr:bU j X.A)(Y:XE X.K C)(hm:X.mg x\(.ref C))(g:DA Z X (e::es) t)(s:Gl X x<|>zn)(hk:k+1<=j<|>xa)(QV:T.length<=1000<|>zm)
  (eJ:(x==("__debug__":ee))=false<|>zm) (he:d4 (e::es) X.env=(false,fC e X.env)::d4 es X.env<|>zn) (bV:(f8 aM^d4 es X.env).any (·.1)=false<|>zn):
  DSt Z X md rn (.Raise (some^.Call (.Name x p) (e::es) [] aM) none pos)^PB md C m ok t:=by
 refine(DZ hc^Ou I.made I.fn F (hr.mono hk) s hm I.b QV cF g eJ he bV).imp ?_;intro D σ H aN;rfl';obtain⟨B,ρ,E,⟨G,fp,S⟩,h,M⟩:=aN;ac_rfl;refine#[G,_,_,S.ex.sub,S.uG,h,λds v vs n H1 y bH a g=>?_];rfl';let⟨ok,hl,hx⟩:=v;ac_rfl;have S1:=S.grow y;have J:n a=none:=y.sub.free g;refine#[a,vs,n,ds,rfl,ae,J,y.sub.trans^ay g _,bH,ok,hl,λd zs q H' g1 g2 g3 g4 g5 r g7 g8 g9=>#[rfl,a,C,some d,rfl,g5,Y.obj,Y.cls.be,?_]];have l:d≠a:=λz=>by rw[z,ae] at r;cases r
 have L:H1 d=none:=by rw[af l] at r;exact r
 have N:n d=none:=g1.free g8;have O:q a=none:=g4 a (by rw[ae];exact λz=>nomatch z) J
 have x2:Ext n H1 (upd (upd q d^B7 d^m.zip zs) a^lO C a^some d)^upd H' a^lO C a^some d:=by
  refine#[λb o c=>?_,λb o c=>?_,λb o c=>?_,λb P s=>?_]
  .rw[af^aq c J,af^aq c N];exact g1 _ _ c
  .by_cases z:b=a
   .rw[z,ae] at c ⊢;exact c
   .rw[af z] at c ⊢
    by_cases Q:b=d
    .rw[Q,ae] at c;cases c;rw[Q];exact g7
    .rw[af Q] at c;exact g2 _ _ c
  .have i:b≠a:=aq c g
   rw[af i];exact g3 b o i^by rw[af i];exact c
  .have i:b≠a:=λz=>P^by rw[z];exact g
   have R:b≠d:=λz=>P^by rw[z];exact L
   rw[af i,af R];exact g4 b (by rw[af i];exact P) s
 have s2:aC q^upd (upd q d^B7 d^m.zip zs) a^lO C a^some d:=λb o c=>by rw[af^aq c O,af^aq c g8];exact c
 exact M.xc ρ _ hx σ _ _ fp a (S1.grow x2)^.err ae (.inr #[d,rfl,by rw[af l,ae],by rw[g9.length];exact hl.symm])^g9.mono s2
end
section
variable {Z:DC} {X:Cx} {a:Expr} {ta:aY} {p p1 p2 p3 p4 pos:Pos}
end
section
variable {P:Program} {w:World} {K:ad} {mg:Str->Option Value} {base:Heap} {CX:pP} {k:Nat} {f:Addr} {fd:FuncData} {ps:List Str} {sp SG:Sp}
def FnOk.up(F:FnOk P w K mg base fJ k f fd ps sp):FnOk P w K mg base CX k f fd ps sp:=
 #[F.len,λA outer s H a b c Q E d g i j h=>acY (F.run A outer s H a b c Q E d g i j h) λr m q=>by
  cases r with
  |error e=>exact False.elim q
  |ok l=>cases l<;>exact q]
def FnOk.or(F:FnOk P w K mg base CX k f fd ps sp)(c:FnOk P w K mg base CX k f fd ps SG):FnOk P w K mg base CX k f fd ps (λa H Q E=>sp a H Q E\/SG a H Q E):=
 #[λa H Q E h=>h.elim (F.len a H Q E)^c.len a H Q E,λA outer s H b d a Q E e g i j h=>h.elim (F.run A outer s H b d a Q E e g i j)^c.run A outer s H b d a Q E e g i j]
end
section
variable {X:Cx} {k:Nat} {f C:Addr} {fd:FuncData} {ps:List Str} {sp:Sp} {x:Str} {p pos:Pos} {e:Expr} {es:List Expr} {t:TA}
theorem K7{pins:List (Addr×Obj)}{σ:St}{H:Hp}{s:c_}{Q:VK}{us:List b_}{vs:List V}(M:Mk X.K C f)(F:FnOk X.prog X.w X.K X.mg X.base (sX X.prog X.w) k f fd ps sp)(hr:bU (k+1) X.A)(hb:Binds X.K fd ps [])
  (I:Inv X pins σ H s) (r:Vals vs us)
  (h:∀x dx,H x=none->H dx=none->dx≠x->sp (.ref x::vs) (upd (upd H dx^.own x) x^.ins C dx []) (λv H2=>v= .aQ/\Q (.ref x) H2)^Nc X σ):
  d7 (d5 X.prog X.w) X.A (call (.ref C) us) (EP X pins σ Q) X.xe s:=by
 have hq:=h (s.heap.objs.size+1) s.heap.objs.size (I.hok.fresh^lM _) (I.hok.fresh^bh _)^bL^BO _;have I2:=Inv.made (C:=C) I;have r2:Vals (V.ref (s.heap.objs.size+1)::vs) (Value.ref (s.heap.objs.size+1)::us):= .cons rfl r
 have hl:(Value.ref (s.heap.objs.size+1)::us++ []).length=ps.length:=by
  have e:=r2.length;rw[F.len _ _ _ _ hq] at e;rw[ft];exact e.symm
 have Ck:=hb _ (Value.ref (s.heap.objs.size+1)::us) I2.cZ hl;rw[ft] at Ck
 refine ja^DP (f:=f) I.cZ M.makes M.init (beq_iff_eq.mp M.fn) (jk (F.run _ X.stack _ _ #[Value.ref (s.heap.objs.size+1)::us,[]] (Value.ref (s.heap.objs.size+1)::us) _ _ (Nc X σ) (hr.make C us [])
  (I2.Hh.make C us []) Ck r2 hq) λr s' n0=>?_)
 cases r with
 |error e=>
  rfl';let⟨a,H',rfl,fl,a',ea,q⟩:=n0;cases ea;let⟨I3,f3⟩:=Mc I2 fl;ac_rfl;exact q s' I3 f3
 |ok fl=>
  cases fl with
  |ret u=>
   rfl';let⟨v,H',I3,rv,ev,q3⟩:=I2.after n0;subst ev;ac_rfl;exact#[rv,#[V.ref (s.heap.objs.size+1),H',I3,rfl,q3]]
  |next=>exact False.elim n0
  |brk=>exact False.elim n0
  |cont=>exact False.elim n0
def VZ(X:Cx)(C:Addr)(d:Sp)(t:TA):TE:=λc H Q=>t c H λg b=>∀x a,b x=none->b a=none->a≠x->d (.ref x::g) (upd (upd b a^.own x) x^.ins C a []) (λv h=>v= .aQ/\Q (.ref x) h)^Nc X c
def Oo(M:Mk X.K C f)(F:FnOk X.prog X.w X.K X.mg X.base (sX X.prog X.w) k f fd ps sp)(c:bU (k+1) X.A)(d:Gl X x)(g:X.mg x\(.ref C))(i:Binds X.K fd ps [])
  (j:PA X (e::es) t) (l:(x==("__debug__":ee))=false<|>zm) (m:d4 (e::es) X.env=(false,fC e X.env)::d4 es X.env<|>zn) (n:(f8 pos^d4 es X.env).any (·.1)=false<|>zn):
  PE X (.Call (.Name x p) (e::es) [] pos)^VZ X C sp t:=by
 intro a s o H Q I h;refine UV^hU I d g ?_ l;refine ac0 (h₀:=X.base) I.ok.mod.kin M.kp (thn (j pos a s o H _ I h) λu v #[y,B,b,r,q]=>#[b.cZ,?_]) m n;exact K7 M F c i b r q
end
section
variable {Z:DC} {X:Cx} {md:List Nat} {rn k j:Nat} {f:Addr} {fd:FuncData} {ps:List Str} {t:ij} {e:Expr} {es:List Expr} {x:Str} {p pos aM:Pos}
end
def fK(K:ad)(x:ee)(st:Stmt):Prop:=∃(d:Addr)(b c:Option Addr)(e:Array^Option b_)(f kV g h a i:b_),Tv K x d/\B5 K x x st d b c e f kV g h a i/\bj K a x=true/\am K^.ref d=true
def Jk(K:ad)(C:Addr)(m a:ee)(st:Stmt):Prop:=∃(d:Addr)(c e:Option Addr)(f:Array^Option b_)(g kV h i b j:b_),aj K (.ref C) m\(some^.ref d)/\bT K^.ref d=true/\B5 K m a st d c e f g kV h i b j/\bj K b a=true/\am K^.ref d=true
abbrev rV(K:ad)(x:Str):Prop:=aA K mainGlobals x\none
section
variable {K:ad} {h:Heap} {mg:Str->Option Value}
def dfH{x:ee}{st:Stmt}{d:Addr}{e f:Option Addr}{g:Array^Option b_}{i kV j m b n:b_}(a:Tv K x d)(l:B5 K x x st d e f g i kV j m b n)(c:bj K b x=true)(k:am K^.ref d=true):fK K x st:=#[_,_,_,_,_,_,_,_,_,_,a,l,c,k]
def mfH{C:Addr}{m b:ee}{st:Stmt}{d:Addr}{g i:Option Addr}{j:Array^Option b_}{n kV o p e q:b_}(a:aj K (.ref C) m\(some^.ref d))(f:bT K^.ref d=true)(l:B5 K m b st d g i j n kV o p e q)(c:bj K e b=true)(k:am K^.ref d=true):Jk K C m b st:=#[_,_,_,_,_,_,_,_,_,_,a,f,l,c,k]
noncomputable def bJ.ch{x:ee}{st:Stmt}{d:List ee}(X:K.In h)(G:h.Ns eh mg)(e:fK K x st)
  (b:∀(kV f i:b_)(j:Option Addr)(m n:b_)(g:List b_),g.length=d.length->lf (b5 x x (gY st) (dM st) (ar st) .none kV f i j m n) #[g,[]]=pure^d.zip g):bJ K mg x st d:=
 Classical.choice (by
  let⟨o,p,q,r,s,t,u,v,w,y,a,l,c,k⟩:=e;exact#[.of X G a l c k b])
noncomputable def Et.ch{Z:DC}{m d:ee}{st:Stmt}{g:List ee}(e:Jk Z.K Z.C m d st)
  (b:∀(kV i n:b_)(o:Option Addr)(p q:b_)(j:List b_),j.length=g.length->lf (b5 m d (gY st) (dM st) (ar st) .none kV i n o p q) #[j,[]]=pure^g.zip j):Et Z m d st g:=
 Classical.choice (by
  let⟨h,r,s,t,u,v,w,x,y,z,a,f,l,c,k⟩:=e;exact#[.of a f l c k b])
end
abbrev Dk(P:Program)(w:World)(base:Heap)(k:Nat){K:ad}{a:Str->Option Value}{x:Str}{st:Stmt}{b:List Str}(D:bJ K a x st b)(c:Sp):Prop:=FnOk P w K a base fJ k D.f D.fd b c
abbrev Dx(P:Program)(w:World)(base:Heap)(k:Nat){K:ad}{a:Str->Option Value}{x:Str}{st:Stmt}{b:List Str}(D:bJ K a x st b)(c:Sp):Prop:=FnOk P w K a base (sX P w) k D.f D.fd b c
section
variable {K:ad} {E M:Addr}
def Tx{p:Addr->Prop}:∀a∈([]:List Addr),p a:=λ_ h=>nomatch h
def Pe{p:Addr->Prop}{a:Addr}{l:List Addr}(h:p a)(k:∀x∈l,p x):∀x∈a::l,p x:=λx b=>by
 rcases dS.mp b with rfl|b
 .exact h
 .exact k x b
structure KitX (K:ad) (E:Addr) (Zf Mf Mt:List Addr):Prop where
 ve:bi K (.ref E)^.type "ValueError"\true
 zf:∀a∈Zf,bi K (.ref E)^.ref a\false
 mf:∀a∈Mf,b7 K E^.ref a\false
 mt:∀a∈Mt,b7 K E^.ref a\true
variable {Zf Mf Mt:List Addr}
def rj:bi K t t\true:=by unfold bi;exact mo^adU _
def KitX.z(h:KitX K E Zf Mf Mt)(i:Nat)(e:Zf[i]?\a):bi K (.ref E)^.ref a\false:=h.zf a^cR e
def KitX.m0(h:KitX K E Zf Mf Mt)(i:Nat)(e:Mf[i]?\a):b7 K E^.ref a\false:=h.mf a^cR e
def KitX.m1(h:KitX K E Zf Mf Mt)(i:Nat)(e:Mt[i]?\a):b7 K E^.ref a\true:=h.mt a^cR e
theorem KitX.any(h:KitX K E Zf Mf Mt):∀(d:List Nat){f:List Value},f.map some=d.map (λi=>(Zf[i]?).map Value.ref)->cM K (.ref E) f\false
 | [],[],_=>rfl
 |i::d,c::f,e=>by
  obtain⟨b,g⟩:=List.cons.inj e;have b:some c=(Zf[i]?).map Value.ref:=b;cases z:Zf[i]? with
  |none=>rw[z] at b;cases b
  |some a=>
   rw[z] at b;cases b;rw[cM,h.z i z];exact h.any d g
structure Na (K:ad) (C:Addr) (init:b_):Prop where
 call:bd K (.ref C) "__call__"\(some^.builtin "type.__call__")
 typ:dD K (.ref C)^.type "type"\true
 ini:aj K (.ref C) "__init__"\(some init)
 kp:am K^.ref C=true
def O5(K:ad)(E:Addr)(a:ee)(st:Stmt):Prop:=∃(J:Addr)(c d:Option Addr)(e:Array^Option b_)(f g h i b j:b_),Na K E^.ref J/\bT K^.ref J=true/\B5 K "__init__" a st J c d e f g h i b j/\bj K b a=true/\am K^.ref J=true
def jnH{e:ee}{st:Stmt}{J:Addr}{h i:Option Addr}{j:Array^Option b_}{n o p q g r:b_}(a:bd K (.ref E) "__call__"\(some^.builtin "type.__call__"))(b:dD K (.ref E)^.type "type"\true)
  (c:aj K (.ref E) "__init__"\(some^.ref J)) (d:am K^.ref E=true) (f:bT K^.ref J=true) (l:B5 K "__init__" e st J h i j n o p q g r) (m:bj K g e=true) (k:am K^.ref J=true):O5 K E e st:=
 #[_,_,_,_,_,_,_,_,_,_,#[a,b,c,d],f,l,m,k]
def Na.mk'(h:Na K E init)(o:mX K E):GC K E init:=#[o,h.call,h.typ,h.ini,h.kp]
noncomputable def Ew.ch{a:ee}{st:Stmt}{c:List ee}(e:O5 K E a st)(o:mX K E)
  (b:∀(kV d h:b_)(i:Option Addr)(j n:b_)(g:List b_),g.length=c.length->lf (b5 "__init__" a (gY st) (dM st) (ar st) .none kV d h i j n) #[g,[]]=pure^c.zip g):Ew K E a st c:=
 Classical.choice (by
  let⟨J,p,q,r,s,t,u,v,w,y,x,f,l,m,k⟩:=e;exact#[#[J,_,nZ l m k,(nZ l m k).binds b,x.mk' o,f]])
structure Pd (K:ad) (M C:Addr):Prop where
 xe:XE K C
def V9{N:Addr}{b:ClassData}{c q:ee}{bs:List b_}{d:Bool}{e:List ee}{sub:List b_}{f:Bool}{a:Option Bool}{g:Option Addr}{h i j k l:Option b_}
  (m:cf K E=true) (n:aj K (.ref E) "__getattribute__"\(some^.builtin "BaseException.__getattribute__")) (o:aj K (.ref E) "__getattr__"\none)
  (p:aj K (.ref E) "__setattr__"\(some^.builtin "object.__setattr__")) (r:aj K (.ref E) "__class__"\(some^.builtin "object.__class__"))
  (s:dV K E\b) (t:b.mro= .ref E:: [.ref M, .type "ValueError", .type "Exception", .type "BaseException", .type "object"])
  (lo:K.lookup E\(hH c q E N bs [.ref M, .type "ValueError", .type "Exception", .type "BaseException", .type "object"] d e sub f a g h i j k l "ValueError.__new__")):Pd K M E:=#[Tg m n o p r s t lo rfl rfl]
structure XEt (K:ad) (C:Addr):Prop where
 xe:XE K C
def Wa{N:Addr}{b:ClassData}{c q:ee}{bs:List b_}{d:Bool}{e:List ee}{sub:List b_}{f:Bool}{a:Option Bool}{g:Option Addr}{h i j k l:Option b_}
  (m:cf K E=true) (n:aj K (.ref E) "__getattribute__"\(some^.builtin "BaseException.__getattribute__")) (o:aj K (.ref E) "__getattr__"\none)
  (p:aj K (.ref E) "__setattr__"\(some^.builtin "object.__setattr__")) (r:aj K (.ref E) "__class__"\(some^.builtin "object.__class__"))
  (s:dV K E\b) (t:b.mro= .ref E:: [.type "ValueError", .type "Exception", .type "BaseException", .type "object"])
  (lo:K.lookup E\(hH c q E N bs [.type "ValueError", .type "Exception", .type "BaseException", .type "object"] d e sub f a g h i j k l "ValueError.__new__")):XEt K E:=#[Tg m n o p r s t lo rfl rfl]
end
end L2
namespace wC
open PySem L2 Wb
noncomputable def top(i:Nat):Stmt:=PySem.Challenge.pw_mapdye_k74_crossed.main.body.getD i^.Pass #[0,0,0,0]
abbrev mR:Stmt:=top 21
abbrev qA:Stmt:=top 22
abbrev Bj:Stmt:=top 23
abbrev qz:Stmt:=top 24
abbrev mQ:Stmt:=top 25
abbrev qy:Stmt:=top 28
abbrev lq:Stmt:=top 29
abbrev mS:Stmt:=top 30
abbrev lB:Stmt:=top 31
abbrev mP:Stmt:=top 32
abbrev eM:Stmt:=top 33
abbrev lu:Stmt:=top 34
abbrev lA:Stmt:=top 35
abbrev qB:Stmt:=top 38
abbrev ig:Stmt:=top 39
abbrev i3:Stmt:=top 40
abbrev fA:Stmt:=top 41
abbrev oI:Stmt:=top 42
abbrev vM:Stmt:=top 44
abbrev sM:Stmt:=top 45
abbrev qw:Stmt:=top 46
abbrev vN:Stmt:=top 47
abbrev vO:Stmt:=top 48
abbrev oH:Stmt:=top 49
abbrev mO:Stmt:=top 50
abbrev yH:Stmt:=top 51
abbrev oW:Stmt:=top 52
abbrev yI:Stmt:=top 53
abbrev gx:Stmt:=top 54
abbrev mM:Stmt:=top 55
abbrev j3:Stmt:=top 56
abbrev kE:Stmt:=top 57
abbrev mN:Stmt:=top 58
abbrev fe:Stmt:=top 59
abbrev jR:Stmt:=top 60
abbrev lj:Stmt:=top 61
abbrev mL:Stmt:=top 62
abbrev Bk:Stmt:=top 63
abbrev fV:Stmt:=L2.gJ (top 36) 0
abbrev qv:Stmt:=L2.gJ (top 36) 1
abbrev kD:Stmt:=L2.gJ (top 36) 2
abbrev mj:Stmt:=L2.gJ (top 36) 3
abbrev yG:Stmt:=L2.gJ (top 36) 4
abbrev mK:Stmt:=L2.gJ (top 36) 5
abbrev gw:Stmt:=L2.gJ (top 9) 0
def jf:aE ["self","counted"] ["self","counted"]^ar gw:=by bv_omega
abbrev iD:Stmt:=L2.gJ (top 18) 0
def kc:aE ["self","tie"] ["self","tie"]^ar iD:=by bv_omega
abbrev iE:Stmt:=L2.gJ (top 19) 0
def ke:aE ["self","one","other"] ["self","one","other"]^ar iE:=by bv_omega
def qJ:aE ["web","side","sides","p","q"] ["web","side"]^ar mR:=by bv_omega
def Ea:aE ["web","walked","told","side","sides","step"] ["web"]^ar qA:=by bv_omega
def D9:aE ["web"] ["web"]^ar Bj:=by bv_omega
def vT:aE ["web","points","ties","rounds"] ["web"]^ar qz:=by bv_omega
def qI:aE ["web"] ["web"]^ar mQ:=by bv_omega
def vS:aE ["thing","many"] ["thing","many"]^ar qy:=by bv_omega
def oZ:aE ["rows","p","row","q"] ["rows"]^ar lq:=by bv_omega
def qK:aE ["rows","p","row"] ["rows"]^ar mS:=by bv_omega
def pj:aE ["rows","p","row","place","q"] ["rows"]^ar lB:=by bv_omega
def qH:aE ["rows","p","row","q"] ["rows"]^ar mP:=by bv_omega
def i4:aE ["rows","reached","waiting","p","q"] ["rows"]^ar eM:=by bv_omega
def o9:aE ["rows","q","reached"] ["rows"]^ar lu:=by bv_omega
def ph:aE ["rows","fault"] ["rows"]^ar lA:=by bv_omega
def vU:aE ["land"] ["land"]^ar qB:=by bv_omega
def nG:aE ["web"] ["web"]^ar ig:=by bv_omega
def lC:aE ["web","number_of","a","b"] ["web","number_of"]^ar i3:=by bv_omega
def jS:aE ["rows","one","row","shared"] ["rows"]^ar fA:=by bv_omega
def yJ:aE ["web","number_of","rows"] ["web"]^ar oI:=by bv_omega
def sO:aE ["_law_turns","_law_side","_law_p","_law_q"] ["_law_turns","_law_side"]^ar oH:=by bv_omega
def qG:aE ["_law_turns","_law_side","_law_found","_law_here"] ["_law_turns","_law_side"]^ar mO:=by bv_omega
def oY:aE ["_law_turns","_law_some","_law_found"] ["_law_turns"]^ar gx:=by bv_omega
def qE:aE ["_law_turns","_law_found","_law_seen","_law_p","_law_turn","_law_q","_law_side"] ["_law_turns"]^ar mM:=by bv_omega
def nE:aE ["_law_turns","_law_found","_law_number","_law_sides","_law_side"] ["_law_turns"]^ar j3:=by bv_omega
def sP:aE ["_law_turns","_law_ties_here","_law_a","_law_turn"] ["_law_turns"]^ar kE:=by bv_omega
def qF:aE ["_law_turns"] ["_law_turns"]^ar mN:=by bv_omega
def jg:aE ["_law_rows","_law_one","_law_row","_law_some"] ["_law_rows"]^ar fe:=by bv_omega
def vR:aE ["_law_turns","_law_rounds","_law_ties_here","_law_by_side_here","_law_bare","_law_rows"] ["_law_turns"]^ar jR:=by bv_omega
def oX:aE ["_law_web_here","_law_told","_law_found","_law_rows","e"] ["_law_web_here"]^ar lj:=by bv_omega
def qD:aE ["_law_web_here","_law_told","e"] ["_law_web_here"]^ar mL:=by bv_omega
def MN:aE ["_law_script","_law_most","_law_turns","_law_web_here","_law_due_here"] ["_law_script"]^ar Bk:=by bv_omega
def gO:aE ["self","turns","rows","fault"] ["self","turns"]^ar fV:=by bv_omega
def vP:aE ["self"] ["self"]^ar qv:=by bv_omega
def sN:aE ["self"] ["self"]^ar kD:=by bv_omega
def vQ:aE ["self"] ["self"]^ar mj:=by bv_omega
def qC:aE ["self","p","q","row"] ["self","p","q"]^ar mK:=by bv_omega
set_option genInjectivity false in
structure Txt (Z:DC) (mg:Str->Option Value) where
 B:aag mg
 u0:mg "set"=none
 u1:bJ Z.K mg "round_from" mR ["web","side"]
 u2:bJ Z.K mg "lands" qA ["web"]
 u3:bJ Z.K mg "count" Bj ["web"]
 u4:bJ Z.K mg "is_plane" qz ["web"]
 u5:bJ Z.K mg "need_plane" mQ ["web"]
 u6:bJ Z.K mg "is_among" qy ["thing","many"]
 u7:bJ Z.K mg "alien_fault" lq ["rows"]
 u8:bJ Z.K mg "self_fault" mS ["rows"]
 u9:bJ Z.K mg "twice_fault" lB ["rows"]
 ua:bJ Z.K mg "lone_fault" mP ["rows"]
 ub:bJ Z.K mg "reached_from_first" eM ["rows"]
 uc:bJ Z.K mg "apart_fault" lu ["rows"]
 ud:bJ Z.K mg "first_fault" lA ["rows"]
 ue:bJ Z.K mg "sides_of" qB ["land"]
 uf:bJ Z.K mg "land_numbers" ig ["web"]
 ug:bJ Z.K mg "need_no_bridge" i3 ["web","number_of"]
 uh:bJ Z.K mg "need_none_shared" fA ["rows"]
 ui:bJ Z.K mg "crossed" oI ["web"]
 uj:bJ Z.K mg "_law_cell" vM ["_law_script","_law_k"]
 uk:bJ Z.K mg "_law_mixed" sM ["_law_script","_law_turn"]
 ul:bJ Z.K mg "_law_digits" qw ["_law_script","_law_at"]
 um:bJ Z.K mg "_law_take" vN ["_law_left","_law_many"]
 un:bJ Z.K mg "_law_tree" vO ["_law_many","_law_left"]
 uo:bJ Z.K mg "_law_next" oH ["_law_turns","_law_side"]
 up:bJ Z.K mg "_law_round" mO ["_law_turns","_law_side"]
 uq:bJ Z.K mg "_law_tie" yH ["_law_turns","_law_left","_law_plane_here"]
 ur:bJ Z.K mg "_law_renamed" oW ["_law_turns","_law_order","_law_left"]
 us:bJ Z.K mg "_law_web" yI ["_law_script","_law_most","_law_plane_here"]
 ut:bJ Z.K mg "_law_leafed" gx ["_law_turns"]
 uu:bJ Z.K mg "_law_lands" mM ["_law_turns"]
 uv:bJ Z.K mg "_law_by_side" j3 ["_law_turns"]
 uw:bJ Z.K mg "_law_ties" kE ["_law_turns"]
 ux:bJ Z.K mg "_law_plane" mN ["_law_turns"]
 uy:bJ Z.K mg "_law_least_shared" fe ["_law_rows"]
 uz:bJ Z.K mg "_law_due" jR ["_law_turns"]
 v0:bJ Z.K mg "_law_answer" lj ["_law_web_here"]
 v1:bJ Z.K mg "_law_kinds" mL ["_law_web_here"]
 v2:bJ Z.K mg "law" Bk ["_law_script"]
 W:GB Z
 mC:mg "Web"\(.ref Z.C)
 v3:Addr
 v4:FuncData
 v5:uB Z.K "__init__" "Web.__init__" fV v3 v4
 v6:Mk Z.K Z.C v3
 v7:Binds Z.K v4 ["self","turns"] []
 v8:Et Z "many" "Web.many" qv ["self"]
 v9:Et Z "turns" "Web.turns" kD ["self"]
 va:Et Z "ties" "Web.ties" mj ["self"]
 vb:Et Z "tied" "Web.tied" yG ["self","a","b"]
 vc:Et Z "behind" "Web.behind" mK ["self","p","q"]
 iW:IsW Z
 iX:M5 Z.K
 vd:mg "ValueError"=none
 ve:Addr
 vf:mg "MapError"\(.ref ve)
 vg:Addr
 vh:mg "TooMany"\(.ref vg)
 vi:Addr
 vj:mg "TooSmall"\(.ref vi)
 vk:Addr
 vl:mg "NoWeb"\(.ref vk)
 vm:Addr
 vn:mg "NotPlane"\(.ref vm)
 vo:Addr
 vp:mg "NoText"\(.ref vo)
 vq:Addr
 vr:mg "NoCorner"\(.ref vq)
 vs:Addr
 vt:mg "NoRing"\(.ref vs)
 vu:Addr
 vv:mg "Alike"\(.ref vu)
 vw:Addr
 vx:mg "TooFew"\(.ref vw)
 vy:Addr
 vz:mg "NotFree"\(.ref vy)
 y0:Addr
 y1:mg "NotFilled"\(.ref y0)
 y2:Addr
 y3:mg "Odd"\(.ref y2)
 y4:Addr
 y5:mg "Bridge"\(.ref y4)
 y6:Addr
 y7:mg "Shared"\(.ref y6)
 y8:XE Z.K ve
 y9:XE Z.K vg
 ya:XE Z.K vm
 yb:XE Z.K y4
 yc:XE Z.K y6
 xb:XBs Z.K mg ve
 yd:Ew Z.K vm "NotPlane.__init__" gw ["self","counted"]
 ye:fL Z.K vm "counted"
 yf:KitX Z.K vm [vg,vi,vk,vo,vq,vs,vu,vw,vy,y0,y2,y4,y6] [vg,y4,y6] [ve,vm]
 yg:Ew Z.K y4 "Bridge.__init__" iD ["self","tie"]
 yh:fL Z.K y4 "tie"
 yi:KitX Z.K y4 [vg,vi,vk,vm,vo,vq,vs,vu,vw,vy,y0,y2,y6] [vg,vm,y6] [ve,y4]
 yj:Ew Z.K y6 "Shared.__init__" iE ["self","one","other"]
 yk:fL Z.K y6 "one"
 yl:fL Z.K y6 "other"
 ym:KitX Z.K y6 [vg,vi,vk,vm,vo,vq,vs,vu,vw,vy,y0,y2,y4] [vg,vm,y4] [ve,y6]
 yn:GC Z.K vg (.builtin "ValueError.__init__")
 yo:KitX Z.K vg [vi,vk,vm,vo,vq,vs,vu,vw,vy,y0,y2,y4,y6] [vm,y4,y6] [ve,vg]
 yp:∃tk,mg "__name__"\(.str "law_mapdye_k74_crossed" tk)
 yq:∃tk,mg "MOST_POINTS"\(.int 14 tk)
variable {P:Program} {w:World} {mg:Str->Option Value} {base:Heap} {Z:DC} (T:Txt Z mg)
def SH:eS:=λa P=>∃(i n:Int),a= [.int i, .int n]/\P^.bl (decide (0<=i/\i<n))
def FA:Dk P w base 1 T.u6^aS Z SH:=by
 have d:=vS.nd;refine bg T.u6.F vS [0,0] ∅ (λb R h=>by let⟨g,j,rfl,k⟩:=h;rfl)^λe A outer s H E b R c h=>?_
 have f:=c.units;exists _,(au^aO^LY (LZ "int" (U 0) rfl T.B.isinstance rfl T.B.int TF)^LY (T3^LZ "bool" (U 0) rfl T.B.isinstance rfl T.B.bool Pk)^T4^Nj AW AX aR (U 0)^U 1);let⟨i,n,rfl,q⟩:=h;refine#[_,rfl,rfl,true,rfl,b9 #[_,rfl,rfl,false,rfl,true,rfl,b9 #[_,rfl,?_]]];refine#[_,rfl,cY (λa=>#[_,rfl,?_])^λa=>?_]
 .have a:0<=i:=IR a
  show R^.bl (decide (i<n));rw[show decide (i<n)=decide (0<=i/\i<n) by simp[a]]
  exact q
 .have a:¬0<=i:=On a
  rw[show decide (0<=i/\i<n)=false by simp[a]] at q
  exact q
def zL:eS:=λa P=>∃(w:W),a= [ba w]/\CP w/\1<=w.length/\w.length<=14/\P .aQ
def yQ{w:W}(h:(dF^w.map aD)[j]?\d):j<w.length/\d= .tup [.int (j:Int),aD^row w j]:=by
 let⟨x,b,rfl⟩:=jw h;let⟨r,a,rfl⟩:=dg b;have c:j<w.length:=(cz.mp a).1;exists c;rw[VD a]
def zu:Dk P w base 2 T.u7^aS Z zL:=by
 have c:=oZ.nd;refine bg T.u7.F oZ [0,0,0,0] ∅ (λm R h=>by let⟨z,rfl,D⟩:=h;rfl)^λv A outer s H E m R l h=>?_
 have y:=l.units
 refine#[_,(aw (dW rfl Gc (eV rfl T.B.enumerate^aa (U 0) ah) (fO 2 rfl^aP (aL 1 c)^aP (aL 2 c) cT)^au^dW rfl Gc (bE^U 2) (aL 3 c)^au^cw (nV^l6^aH T.u6 (FA T) l^aa (U 3)^aa (aW cJ rfl T.B.len cH^aa (U 0) ah) ah) (au^aO^bb^aa cK^aa (U 1)^aa (U 3) ah) bf)
   (au^aO fw)),?_]
 let⟨a,rfl,g,C,h14,q⟩:=h;refine#[_,rfl,b8 (λ_ e=>∃f i b,e= [some^ba a,f,i,b]) #[_,_,_,rfl] ?_ ?_]
 .rintro j d _ n ⟨f,i,b,rfl⟩ A o
  let⟨G,rfl⟩:=yQ n;exists rfl,rfl;refine#[_,rfl,b8 (λ_ e=>∃b,e= [some^ba a,some^.int (j:Int),some^aD^row a j,b]) #[_,rfl] ?_ ?_]
  .rintro k I _ p ⟨r,rfl⟩ J t
   let⟨x,u,rfl⟩:=dg p;refine#[_,rfl,_,rfl,_,_,rfl,#[rfl,?_]];have L:x<a.length:=g.rng _ _^cR u;rw[show decide ((0:Int)<=(x:Int)/\(x:Int)<((a.map aD).length:Int))=true by simp;lia]
   exact cL^t _ #[_,rfl]
  .rintro _ ⟨r,rfl⟩
   exact o _ #[_,_,_,rfl]
 .rintro _ ⟨f,i,b,rfl⟩
  exact q
def A4:Dk P w base 1 T.u8^aS Z zL:=by
 have f:=qK.nd;refine bg T.u8.F qK [0,0,0] ∅ (λi R h=>by let⟨x,rfl,y⟩:=h;rfl)^λo A outer s H E i R k h=>?_
 have t:=k.units
 refine#[_,(aw (dW rfl Gc (eV rfl T.B.enumerate^aa (U 0) ah) (fO 2 rfl^aP (aL 1 f)^aP (aL 2 f) cT)^au^cw (bA RB (U 1) (U 2)^by with_unfolding_all rfl) (au^aO^bb^aa cK^aa (U 1)^aa (U 1) ah) bf)
   (au^aO fw)),?_]
 let⟨a,rfl,g,u,h14,q⟩:=h;refine#[_,rfl,b8 (λ_ l=>∃b c,l= [some^ba a,b,c]) #[_,_,rfl] ?_ ?_]
 .rintro j d _ m ⟨b,c,rfl⟩ A n
  let⟨v,rfl⟩:=yQ m;exists rfl,rfl;exists _,rfl,_,rfl,rfl,kJ _,_,rfl
  have e:inD (.int (j:Int))^(row a j).map aB=false:=by
   have:=Aw (r:=row a j) (p:=j)
   rw[FM^g.irr j] at this;exact this
  rw[tz dP,e];exact cL^n _ #[_,_,rfl]
 .rintro _ ⟨b,c,rfl⟩
  exact q
def Aa(l:List a)(k:Nat)(h:k<=l.length):cutD l none^some (k:Int)=l.take k:=by
 unfold cutD;have b:HT.bX l.length 0 none=0:=rfl
 have c:HT.bX l.length l.length^some (k:Int)=k:=by
  simp only[HT.bX]
  split<;>lia
 rw[b,c];simp
def zw:Dk P w base 1 T.u9^aS Z zL:=by
 have f:=pj.nd;refine bg T.u9.F pj [0,0,0,0,0] ∅ (λr R h=>by let⟨D,rfl,K⟩:=h;rfl)^λO A outer s H E r R t h=>?_
 have Q:=t.units
 refine#[_,(aw (dW rfl Gc (eV rfl T.B.enumerate^aa (U 0) ah) (fO 2 rfl^aP (aL 1 f)^aP (aL 2 f) cT)^au^dW rfl Gc (eV rfl T.B.enumerate^aa (U 2) ah) (fO 2 rfl^aP (aL 3 f)^aP (aL 4 f) cT)^au^cw (bA RB (U 4) (wJ (U 2) Ag^Ah^U 3)^by with_unfolding_all rfl) (au^aO^bb^aa cK^aa (U 1)^aa (U 4) ah) bf)
   (au^aO fw)),?_]
 let⟨a,rfl,g,S,h14,q⟩:=h;refine#[_,rfl,b8 (λ_ i=>∃l n b c,i= [some^ba a,l,n,b,c]) #[_,_,_,_,rfl] ?_ ?_]
 .rintro j d _ u ⟨l,n,b,c,rfl⟩ A v
  let⟨X,rfl⟩:=yQ u;exists rfl,rfl;refine#[_,rfl,b8 (λ_ i=>∃b c,i= [some^ba a,some^.int (j:Int),some^aD^row a j,b,c]) #[_,_,rfl] ?_ ?_]
  .rintro k Y _ C ⟨G,I,rfl⟩ A' J
   let⟨y,L,rfl⟩:=jw C;let⟨x,p,rfl⟩:=dg L;have gS:k<(row a j).length:=(cz.mp p).1;exists rfl,rfl;exists _,rfl,_,rfl,_,rfl;have M:cutD ((row a j).map aB) none^some (k:Int)=((row a j).take k).map aB:=by rw[Aa _ _^by simp;lia,adQ]
   refine(?_:TM false (aB x) (.lst^cutD ((row a j).map aB) none^some (k:Int)) _);rw[M];exists rfl,kJ _,_,rfl
   have e:inD (aB x)^((row a j).take k).map aB=false:=by
    rw[Aw,FM];intro z;let⟨m,o⟩:=jh z
    have N:m<k:=by
     have:=(cz.mp o).1
     rw[ji] at this;lia
    rw[Gk N] at o;exact absurd ((List.getElem?_inj ()^g.nod j).mp^o.trans p.symm) ()
   rw[tz dP,e];exact cL^J _ #[_,_,rfl]
  .rintro _ ⟨G,I,rfl⟩
   exact v _ #[_,_,_,_,rfl]
 .rintro _ ⟨l,n,b,c,rfl⟩
  exact q
def A1:Dk P w base 1 T.ua^aS Z zL:=by
 have f:=qH.nd;refine bg T.ua.F qH [0,0,0,0] ∅ (λn R h=>by let⟨z,rfl,D⟩:=h;rfl)^λJ A outer s H E n R o h=>?_
 have L:=o.units
 refine#[_,(aw (dW rfl Gc (eV rfl T.B.enumerate^aa (U 0) ah) (fO 2 rfl^aP (aL 1 f)^aP (aL 2 f) cT)^au^dW rfl Gc (bE^U 2) (aL 3 f)^au^cw (bA Oe (U 1) (iw (U 0)^U 3)^by with_unfolding_all rfl) (au^aO^bb^aa cK^aa (U 1)^aa (U 3) ah) bf)
   (au^aO fw)),?_]
 let⟨a,rfl,g,M,h14,q⟩:=h;refine#[_,rfl,b8 (λ_ i=>∃l m b,i= [some^ba a,l,m,b]) #[_,_,_,rfl] ?_ ?_]
 .rintro j d _ t ⟨l,m,b,rfl⟩ A u
  let⟨N,rfl⟩:=yQ t;exists rfl,rfl;refine#[_,rfl,b8 (λ_ i=>∃b,i= [some^ba a,some^.int (j:Int),some^aD^row a j,b]) #[_,rfl] ?_ ?_]
  .rintro k O _ v ⟨y,rfl⟩ Q C
   let⟨x,G,rfl⟩:=dg v;have c:=cR G;have I:x<a.length:=g.rng _ _ c;exists _,rfl,_,rfl,_,rfl,_,iI^BB I,rfl,kJ _,_,rfl
   have e:inD (.int (j:Int))^(row a x).map aB=true:=by
    have:=Aw (r:=row a x) (p:=j)
    rw[FS^g.sym _ _ c] at this;exact this
   rw[mo rfl,e];exact cL^C _ #[_,rfl]
  .rintro _ ⟨y,rfl⟩
   exact u _ #[_,_,_,rfl]
 .rintro _ ⟨l,m,b,rfl⟩
  exact q
noncomputable def zg(bs:List Bool):List D:=bs.map D.bl
def Pn{bs:List Bool}{i:Nat}{b:Bool}(h:bs[i]?\b):(zg bs)[i]?\(.bl b):=by unfold zg;rw[fm,h];rfl
def GO(bs:List Bool)(i:Nat)(b:Bool):(zg bs).set i^.bl b=zg^bs.set i b:=by unfold zg;rw[afA]
def GN(bs:List Bool):(zg bs).length=bs.length:=aI _
def Ds{n k:Nat}(h:k<n):k4 n (k:Int)\k:=by unfold k4;rw[mo (),mo ()];simp
def Lf:eS:=λa P=>∃(w:W),a= [ba w]/\CP w/\1<=w.length/\w.length<=14/\∀bs m,RI w bs [] [] m->(∀x,bs[x]?\true->Reach w 0 x)->P^.lst^zg bs
def Met(w:W)(bs:List Bool):Prop:=∀x,bs[x]?\true->Reach w 0 x
def oz:Dk P w base 1 T.ub^aS Z Lf:=by
 have B:=i4.nd;refine bg T.ub.F i4 [0,1,1,0,0] ∅ (λds R h=>by let⟨K,rfl,V⟩:=h;rfl)^λaV A outer s H E ds R hr h=>?_
 have hu:=hr.units
 refine#[_,(aw (Nr 1 (NC:= ["row"]) (src:= [none]) rfl B (pU^ar eM) trivial (bE^U 0) (λ_ _ _=>(bp 0 (show(["row"]:List ee).Nodup from by decide+kernel))) (λ_ _ _=>eW)^λ_ _ _=>tq)
   (aw (C3 false 1 aR tq)
   (aw (kr 2 B^kq^aa aR ah)
   (aw (wN Gc (l6^U 2)^aw (Ua 3 2 B)
   (au^dW rfl Gc (bE^iw (U 0)^U 3) (aL 4 B)^au^cw (nV^l6^iw (U 1)^U 4) (aw (C3 false 1 (U 4) tq)
   (au^nU false 2^U 4)) bf))
   (au^aO^U 1))))),?_]
 let⟨c,rfl,g,h1,h14,q⟩:=h;refine#[_,rfl,n6 (ρ:= [none]) aD (λ_=> .bl false) c _ (λy b Y h=>h) rfl (small ()) λaG=>?_]
 have e0:c.map (λ_=>D.bl false)=zg^cb c.length false:=by unfold zg;rw[List.map_replicate,List.map_const']
 rw[e0];refine#[trivial,_,rfl,0,0,rfl,by rw[GN,yW];exact Ds (k:=0) (),?_]
 rw[GO];refine#[by show 1<=sizeLine;decide,?_]
 refine t8 (λm ρ=>∃(bs:List Bool)(l:List Nat)(S C:Option D),ρ= [some^ba c,some^.lst^zg bs,some^.lst^l.map aB,S,C]/\RI c bs l [] m/\Met c bs/\m<=14/\bs.count false+l.length=m) c.length ?_ ?_
 .refine#[_,[0],none,none,rfl,#[by simp,?_,?_,λx d=>?_,?_],λx d=>?_,h14,?_]
  .rw[pD,mo rfl,mo^by rw[yW];lia]
  .intro x d
   have:x=0:=by simpa using d
   rw[this,pD,mo rfl,mo^by rw[yW];lia]
  .by_cases e:0=x
   .exact .inl^by rw[<-e];simp
   .rw[pD,tz e,yU] at d
    split at d<;>cases d
  .rw[aet^by rw[yW];lia,aeN,afm]
   simp;lia
  .by_cases e:0=x
   .rw[<-e];exact .refl _
   .rw[pD,tz e,yU] at d
    split at d<;>cases d
  .rw[aet^by rw[yW];lia,aeN,afm]
   simp;lia
 .rintro m _ ⟨bs,l,S,C,rfl,G,mt,hc,o⟩
  exists _,rfl,rfl
  rcases List.eq_nil_or_concat l with rfl| ⟨i,p,e⟩
  .exact cL #[_,rfl,q bs m G mt]
  .rw[List.concat_eq_append] at e
   subst e;rw[show Ef^.lst^(i++ [p]).map aB=true by simp[Ef]]
   refine b9 ?_;rw[eF] at o;simp only[Gp] at o;obtain⟨r,rfl⟩:∃r,m=r+1:=#[m-1,()]
   have N:=G.pop;have X:bs[p]?\true:=G.wt p^by simp
   have J6:p<c.length:=by rw[<-G.len];exact(cz.mp X).1
   refine#[i.map aB,aB p,by rw[dk];rfl,?_]
   refine#[_,rfl,_,rfl,_,iI^BB J6,b8 (λj ρ=>∃(a:List Bool)(f:List Nat)(C:Option D),ρ= [some^ba c,some^.lst^zg a,some^.lst^f.map aB,some^aB p,C]/\RI c a f [p] r/\Met c a/\(∀k y,k<j->(row c p)[k]?\y->a[y]?\true)/\a.count false+f.length=r) ?_ ?_ ?_]
   .exact#[bs,i,_,rfl,N,mt,(λk n t=>by lia),()]
   .rintro j x _ d ⟨a,f,o5,rfl,u,I,J,O⟩ A hA
    let⟨n,L,rfl⟩:=dg d;have YS:=g.rng _ _^cR L;have Q:n<a.length:=by rw[u.len];exact YS
    have v:a[n]?\(a[n]):=eE Q;exists _,rfl,_,rfl,_,iI^Pn v,rfl;generalize a[n]=bn at v;cases bn with
    |true=>
     refine cL^hA _ #[a,f,_,rfl,u,I,λk y t b=>?_,O]
     by_cases e:k=j
     .rw[e,L] at b;cases b;exact v
     .exact J k y () b
    |false=>
     refine b9 ?_;refine#[trivial,_,rfl,_,rfl,_,n,rfl,by rw[GN];exact Ds Q,?_]
     rw[GO];have M:=u.push v;have acx:=M.cnt;refine#[_,rfl,_,rfl,trivial,bO^by rw[aI];lia,?_]
     have er:f.map aB++ [aB n]=(f++ [n]).map aB:=by rw[dk];rfl
     rw[er];refine hA _ #[a.set n true,f++ [n],_,rfl,M,λy b=>?_,λk y t b=>?_,?_]
     .by_cases e:n=y
      .rw[<-e];exact .step (mt p X)^cR L
      .rw[pD,tz e] at b;exact I y b
     .rw[pD]
      by_cases e:n=y
      .rw[mo e,mo Q]
      .rw[tz e]
       refine J k y ?_ b;apply GE;intro z
       have:k=j:=()
       rw[this,L] at b;cases b;exact e rfl
     .obtain⟨hl,he⟩:=cz.mp v
      have:0<a.count false:=aey.mpr^by rw[<-he];exact nK hl
      rw[aet hl,he,eF];simp;lia
   .rintro _ ⟨a,f,o5,rfl,u,I,J,O⟩
    have M:=u.close λy b=>by
     let⟨k,t⟩:=jh b;exact J k y (by rw[aI];exact(cz.mp t).1) t
    exact#[r,(),a,f,_,_,rfl,M,I,(),O]
def IG:eS:=λa P=>∃(w:W),a= [ba w]/\CP w/\1<=w.length/\w.length<=14/\(Good w->P .aQ)/\(¬Good w->∀q,P^.tup [.str "apart", .int 0,aB q])
def zv:Dk P w base 2 T.uc^aS Z IG:=by
 have i:=o9.nd;refine bg T.uc.F o9 [0,0,0] ∅ (λr R h=>by let⟨z,rfl,D⟩:=h;rfl)^λM A outer s H E r R l h=>?_
 have N:=l.units
 refine#[_,(aw (dW rfl Gc (eV rfl T.B.enumerate^aa (aH T.ub (oz T) l^aa (U 0) ah) ah) (fO 2 rfl^aP (aL 1 i)^aP (aL 2 i) cT)^au^cw (nV^l6^U 2) (au^aO^bb^aa cK^aa aR^aa (U 1) ah) bf)
   (au^aO fw)),?_]
 let⟨n,rfl,g,t,h14,u,v⟩:=h;refine#[_,rfl,n,rfl,g,t,h14,λbs m o mt=>b8 (λk C=>(∀x,x<k->bs[x]?\true)/\∃c f,C= [some^ba n,c,f]) #[λx q=>absurd q^Nat.not_lt_zero x,_,_,rfl] ?_ ?_]
 .rintro j d _ G ⟨up,c,f,rfl⟩ A I
  let⟨y,J,rfl⟩:=jw G;let⟨b,a,rfl⟩:=dg J;exists rfl,rfl;cases b with
  |true=>
   refine#[_,rfl,rfl,cL^I _ #[λx q=>?_,_,_,rfl]]
   by_cases e:x=j
   .rw[e];exact a
   .exact up x ()
  |false=>
   refine#[_,rfl,rfl,b9 #[_,rfl,by show 3<=sizeLine;decide,v (λL=>?_) j]]
   have:=o.all L
   rw[this,yU] at a
   split at a<;>cases a
 .rintro _ ⟨up,c,f,rfl⟩
  refine u (g.good λp O=>mt p^up p ?_)
  have:=o.len
  unfold zg dF;simp;lia
def oU:Dk P w base 3 T.ud^aS Z IG:=by
 have b:=ph.nd;refine bg T.ud.F ph [0,0] ∅ (λf R h=>by let⟨m,rfl,n⟩:=h;rfl)^λk A outer s H E f R a h=>?_
 have l:=a.units
 refine#[_,(aw (bM false 1 b^aH T.u7 (zu T) a^aa (U 0) ah)
   (aw (cw (bA Fv (U 1) fw^aX _) (au^bM false 1 b^aH T.u8 (A4 T) a^aa (U 0) ah) bf)
   (aw (cw (bA Fv (U 1) fw^aX _) (au^bM false 1 b^aH T.u9 (zw T) a^aa (U 0) ah) bf)
   (aw (cw (bA Fv (U 1) fw^aX _) (au^bM false 1 b^aH T.ua (A1 T) a^aa (U 0) ah) bf)
   (aw (cw (bA Fv (U 1) fw^aX _) (au^bM false 1 b^aH T.uc (zv T) a^aa (U 0) ah) bf)
   (au^aO^U 1)))))),?_]
 let⟨c,rfl,g,d,h14,i,j⟩:=h;exists _,rfl,c,rfl,g,d,h14,trivial;refine#[_,rfl,_,rfl,b9 #[_,rfl,c,rfl,g,d,h14,trivial,?_]];refine#[_,rfl,_,rfl,b9 #[_,rfl,c,rfl,g,d,h14,trivial,?_]];refine#[_,rfl,_,rfl,b9 #[_,rfl,c,rfl,g,d,h14,trivial,?_]];refine#[_,rfl,_,rfl,b9 #[_,rfl,c,rfl,g,d,h14,λe=>#[trivial,_,rfl,i e],λe q=>#[trivial,_,rfl,j e q]]]
def nz{P:ec}{w:ei}{base:Heap}{Z:DC}(T:Txt Z m):FnOk P w Z.K m base fJ 4 T.v3 T.v4 ["self","turns"]^Bo Z:=by
 have Ql:=oU (P:=P) (w:=w) (base:=base) T;have n:=gO.nd;refine T.v5.ok gO (λL H Q E h=>?_)^λaV A outer s H L Q E r h=>?_
 .obtain⟨p,u,v,G,a,rfl,_⟩:=h;rfl
 let⟨p,u,v,G,a,rfl,x,M,N,dv,g,O,h14,q⟩:=h;have hu:=r.units
 refine#[_,aF (t:=oh Z _ [0,0,0,0] 0 _)
   (cw (nV^C4 AW AW aR (aW cJ rfl T.B.len cH^aa (U 1) ah)^wI rfl T.yq) (au C2) bf)
  (aF (t:=oh Z _ [0,0,0,0] 0 _)
   (kI 2 (NC:= ["row"]) (src:= [none]) rfl n (pU^ar fV) trivial (bE^U 1) (λ_ _ _=>(bp 0 (show(["row"]:List ee).Nodup from by decide+kernel))) (λ_ _ _=>eW)^λ_ _ _=>(tu z6 rfl T.B.list pT^aa (U 0) ah))
  (aF (t:=oh Z _ [0,0,0,0] 0 _)
   (bM false 3 n^aH T.ud (oU T) r^aa (U 2) ah)
  (aF (t:=oh Z _ [0,0,0,0] 0 _)
   (cw (bA DR (U 3) fw^aX _) (au C2) bf)
  (bB^Vr (pv 0) (pv 2) rfl)))),?_]
 have F:(a.map aD).length=a.length:=aI _;refine#[#[G,H,G],[some^.obj p,some^ba a,none,none],{nx:=λρ=>ρ= [some^.obj p,some^ba a,none,none],rt:=λ_=>False},#[G,λ_=> [],?_],?_,#[?_,λ_ z=>z.elim,λ_ z=>z.elim,λ_ z=>z.elim,λ_ _ z=>z.elim]]
 .refine#[.refl M, .refl _,rfl,λi d c=>?_,λ_=>iN,(λ_ _ _ _ z=>by cases z),(λ_ _ z=>by cases z)]
  match i,c with
  |0,c=>cases c;exact#[_,rfl, .obj p,rfl]
  |1,c=>cases c;exact#[_,rfl,dv,rfl]
  |2,c=>cases c
  |3,c=>cases c
  |i+4,c=>cases c
 .have S:D.bl (decide ((1:Int)<=((a.map aD).length:Int)))= .bl true:=KF D.bl^FS^by rw[F];lia
  have X:D.bl (decide (((a.map aD).length:Int)<=14))= .bl true:=KF D.bl^FS^by rw[F];lia
  exact#[_,rfl,true,S,b9 #[true,X,cL rfl]]
 rintro _ rfl LO H1 S1;refine#[#[G,H,G],_,{nx:=λρ=>ρ= [some^.obj p,some^ba a,some^ba a,none],rt:=λ_=>False},S1,?_,#[?_,λ_ z=>z.elim,λ_ z=>z.elim,λ_ z=>z.elim,λ_ _ z=>z.elim]]
 .exact#[_,rfl,n6 (ρ:= [none]) aD aD a _ (λy hy Y h=>#[_,rfl,h]) rfl (small ()) λaG=>#[trivial,rfl]]
 rintro _ rfl dq H2 S2;refine#[#[G,H,G],_,{nx:=λρ=>ρ= [some^.obj p,some^ba a,some^ba a,some .aQ],rt:=λ_=>False},S2,?_,#[?_,λ_ z=>z.elim,λ_ z=>z.elim,λ_ z=>z.elim,λ_ _ z=>z.elim]]
 .exact#[_,rfl,a,rfl,g.near,O,h14,λ_=>#[trivial,rfl],λz=>absurd g z]
 rintro _ rfl zC H3 S3;refine#[#[G,H,G],_,{nx:=λρ=>ρ= [some^.obj p,some^ba a,some^ba a,some .aQ],rt:=λ_=>False},S3,?_,#[?_,λ_ z=>z.elim,λ_ z=>z.elim,λ_ z=>z.elim,λ_ _ z=>z.elim]]
 .exact#[_,rfl,_,rfl,cL rfl]
 rintro _ rfl eU H4 ⟨I,fp,f⟩;let⟨v0,se,o0⟩:=f.at_ 0 _ rfl;let⟨v2,HD,o2⟩:=f.at_ 2 _ rfl;let⟨d0,V⟩:=o0;let⟨J,V⟩:=o2;cases d0;have k:=J;cases J with
 | @lst R xs ds hR e=>
  have l:=f.ex.hh _ _ x;refine#[_,HD,_,se,p,Z.C,u,[],rfl,l,T.W.cl,T.W.nR,∅,?_]
  have g4:I p=none:=f.ex.off p (by show H p≠none;rw[x];exact λz=>nomatch z) N
  refine q R I _ f.ex.gg (λb o j=>?_) (λb o j nb=>?_) f.ex.off ae k
  .rw[af^aq j g4];exact f.ex.sub _ _ j
  .rw[af nb];exact f.ex.hh _ _ j
def VO:eS:=λa P=>∃(w:W),a= [.gf w]/\P^.int (w.length:Int)
def ou:FnOk P w Z.K mg base fJ 1 T.v8.f T.v8.fd ["self"]^aS Z VO:=by
 have d:=vP.nd;refine bg T.v8.F vP [0] ∅ (λb R h=>by let⟨i,rfl,j⟩:=h;rfl)^λe A outer s H E b R c h=>?_
 have g:=c.units;exists _,(au^aO^aW cJ rfl T.B.len cH^aa (uE T.W^U 0) ah);let⟨a,rfl,q⟩:=h;exists _,rfl,a,rfl;refine(?_:R^.int ((a.map aD).length:Int));rw[aI];exact q
def SO:eS:=λa P=>∃(w:W),a= [.gf w]/\w.length<=14/\P^ba w
def sF:FnOk P w Z.K mg base fJ 1 T.v9.f T.v9.fd ["self"]^aS Z SO:=by
 have d:=sN.nd;refine bg T.v9.F sN [0] ∅ (λb R h=>by let⟨k,rfl,l⟩:=h;rfl)^λe A outer s H E b R c h=>?_
 have g:=c.units;refine#[_,(au^aO^nQ (NC:= ["row"]) (src:= [none]) rfl (pU^ar kD) trivial (bE^uE T.W^U 0) (λ_ _ _=>(bp 0 (show(["row"]:List ee).Nodup from by decide+kernel))) (λ_ _ _=>eW)^λ_ _ _=>(tu z6 rfl T.B.list pT^aa (U 0) ah)),?_]
 let⟨a,rfl,h14,q⟩:=h;exact#[_,rfl,a,rfl,n6 (ρ:= [none]) aD aD a _ (λy i Y h=>#[_,rfl,h]) rfl (small ()) λj=>q]
end wC
namespace L2
open PySem PySem.Spec PyProof.Rows
section
variable {X:Cx}
variable {o e:Expr} {es:List Expr} {to:TE} {t:TA} {name:Str} {apos aM:Pos} {id:String} {r:V->List V->Hp->VK->Prop}
end
section
variable {Z:DC} {X:Cx} {B:Bs} {md:List Nat} {rn:Nat} {ρ:DN} {σ:St} {H G:Hp} {fp:Nat->List Addr} {a e k o:Expr} {ta te tk tp:aY} {pos apos aM p2:Pos}
def aax(g:List Nat)(i:Nat)(h:aY):dJ:=λE b=>∃c,b[i]?\(some^.lst c)/\h (cG g b) λd=>∃f,d= .lst f/\c.length+f.length<=sizeLine/\E.nx^b.set i^some^.lst (c++f)
def T9(i:Nat)(t:DE Z X e te)(g:md.getD i 0=1<|>zn)(u:X.N[i]?\x<|>zn)(w:ze X.env.scope x<|>xz)(f:(x==("__debug__":ee))=false<|>zm)(y:(x==("__classdict__":ee))=false<|>zm)
  (A:ge (.Name x c) "extend" X.env^fC (.Name x c) X.env=fC (.Name x c) X.env<|>zn)
  (C:((f8 aM^d4 [e] X.env).all (λx=>!x.1)&&(il aM^g_ [] X.env).all (λx=>x.1.isSome)&&decide (([e]:List e_).length+([]:List hT).length+(if ([]:List hT).isEmpty then 0 else 1)<30))=true<|>zn)
  (F:(apos.endLine==aM.line)=true<|>zn) (j:d4 [e] X.env=(false,fC e X.env)::d4 [] X.env<|>zn) (I:(f8 aM^d4 [] X.env).any (·.1)=false<|>zn)
  (J:gs (.Call (.Attribute (.Name x c) "extend" apos) [e] [] aM) none pos.line X.env=pure false<|>zn):
  DSt Z X md rn (.Expr (.Call (.Attribute (.Name x c) "extend" apos) [e] [] aM) pos)^aax md i te:=by
 refine(dh (gW GT ae3 ae4 AQ (pv i u w f y) (ao t az j) A C F j I) J).imp ?_;rintro D σ H ⟨B,ρ,E,⟨G,L,S⟩,⟨ds,m,h⟩,M⟩;let⟨l,xs,z,K,n,O,U⟩:=S.one g m;refine#[_,n,ty_list O,S.ev false h λd f=>#[trivial,λv P H' p x dv=>?_]];let⟨zs,rfl,Q,R⟩:=f;let⟨l',T,i8,Y,q,a,r,put⟩:=p.one g m;cases Y;rw[n] at q;cases q;cases dv with
 | @lst b k _ o s=>
  exact#[l,b,T,k,rfl,rfl,a,p.ex.sub _ _ o,by rw[r.length,s.length];exact Q,M.nx _ R _ _ #[P,L,put _ _^r.append s]]
end
def gk.ok{P:ec}{w:ei}{H:Hp}{a:Addr}(x:gk b a d h):cp P w H h a^.ext^gk b a d:=by
 refine#[x,let #[o,_,_,_,c,_]:=x;#[o,c],λg i p k=>?_];obtain⟨o,e,f,t,c,r⟩:=p;exact#[o,e,f,t,k o c,r]
theorem gQ.mem:∀{b:List (Int×Addr)}{c:List (Int×Int)},gQ H b c->∀e∈b,∃p∈c,e.1=bP p/\H e.2\(.tup [.int p.1, .int p.2])
 |_,_, .nil,e,a=>nomatch a
 |_,_, .cons (p:=p) h t,e,a=>by
  rcases dS.mp a with rfl|a
  .exact#[p,c5 ..,rfl,h]
  .obtain⟨q,d,f⟩:=t.mem e a
   exact#[q,dY _ d,f]
theorem gQ.WU:∀{c:List (Int×Addr)}{d:List (Int×Int)},gQ H c d->∀p∈d,∃a,(bP p,a)∈c/\H a\(.tup [.int p.1, .int p.2])
 |_,_, .nil,p,b=>nomatch b
 |_,_, .cons (a:=a) h t,p,b=>by
  rcases dS.mp b with rfl|b
  .exact#[a,c5 ..,h]
  .obtain⟨e,f,g⟩:=t.WU p b
   exact#[e,dY _ f,g]
theorem gQ.len:∀{a:List (Int×Addr)}{b:List (Int×Int)},gQ H a b->a.length=b.length
 |_,_, .nil=>rfl
 |_,_, .cons _ t=>KF (·+1) t.len
theorem gQ.snoc(h:H a\(.tup [.int p.1, .int p.2])):∀{b:List (Int×Addr)}{c:List (Int×Int)},gQ H b c->gQ H (b++ [(bP p,a)]) (c++ [p])
 |_,_, .nil=> .cons h .nil
 |_,_, .cons h' t=> .cons h'^gQ.snoc h t
section
variable {X:Cx} {pins:List (Addr×Obj)} {σ:St} {H:Hp} {s:Shared}
def Inv.sL{p:Int×Int}(I:Inv X pins σ H s)(h:H a\(.tup [.int p.1, .int p.2])):gc (eg X.prog X.w) s.heap [p.1,p.2] a:=by
 rfl';obtain⟨c,r,⟨o,d,e,n,f⟩,_⟩:=I.tuple^fM.of h;obtain⟨i,j,rfl,⟨t,rfl⟩,⟨u,rfl⟩⟩:=Vals.two r;ac_rfl;exact#[o,_,n,d,e,f, .cons (by simp[eg,Value.isInt])^.cons (by simp[eg,Value.isInt]) .nil]
def Inv.pq(I:Inv X pins σ H s)(h:H a\(.ext^gk b a c)):gk b a c s.heap:=(I.hok a _ h).1
def oE(P:Program)(w:World)(p:Int×Int):tupleKeyHash (intKind P w) [p.1,p.2]=bP p:=rfl
def Inv.pes(I:Inv X pins σ H s)(g:gQ H b f)(h:a.toList.Perm (b.map λe=>(e.1,Value.ref e.2))):Pb X.prog X.w s.heap a:=λi e c=>by
 rfl';have k:e∈a.toList:=by rw[<-gz] at c;exact cR c
 let⟨d,l,rfl⟩:=cQ.mp^h.mem_iff.mp k;let⟨p,j,m,n⟩:=g.mem d l;ac_rfl;exact#[[p.1,p.2],d.2,by rw[oE,m],I.sL n]
def Inv.qa{h:List (Int×Addr)}{j:List (Int×Int)}{b:Array (Int×b_)}(I:Inv X pins σ H s)(k:gQ H h j)(l:b.toList.Perm (h.map λe=>(e.1,Value.ref e.2)))(p:Int×Int):
  (∃(i:Nat)(c:Addr),b[i]?\(fb (eg X.prog X.w) [p.1,p.2], .ref c)/\gc (eg X.prog X.w) s.heap [p.1,p.2] c)↔p∈j:=by
 constructor
 .rintro⟨i,c,d,f⟩
  have g:(fb (eg X.prog X.w) [p.1,p.2],Value.ref c)∈b.toList:=by rw[<-gz] at d;exact cR d
  let⟨m,r,t⟩:=cQ.mp^l.mem_iff.mp g;let⟨q,u,x,n⟩:=k.mem m r
  have:m.2=c:=by have:=(adx t).2;injection this
  rw[this] at n
  have:=(I.sL n).inj f
  simp at this
  have:q=p:=acZ this.1 this.2
  rw[<-this];exact u
 .intro v
  let⟨a,d,f⟩:=k.WU p v;have g:(bP p,Value.ref a)∈b.toList:=l.mem_iff.mpr^cQ.mpr #[_,d,rfl];let⟨i,o⟩:=Gq.mp g;rw[gz] at o;exact#[i,a,by rw[oE];exact o,I.sL f]
def Ot(d:Gl X "set")(f:X.mg "set"=none):PE X (.Call (.Name "set" p) [] [] a) (λg H Q=>∀q,H q=none->Q (.ref q)^upd H q^.ext^gk (iu X.w) q []):=by
 intro c s g H Q I h;refine UV^kA I d f (u:= .type "set") (by decide+kernel) ?_ ∅ ∅
 refine PyProof.Rows.callWith_type rfl^PyProof.Rows.evalArgs_nil3^EA ?_;have i:=I.hok.fresh^bh _;exact#[.ref s.heap.objs.size,_,I.laid (t':=s.toks) (λb o e=>AC _ e) (bh _) (o:= .ext^gk (iu X.w) s.heap.objs.size [])^gk.ok #[_,_,_,_,GM _ rfl,oS.new X.w, .refl _],rfl,h _ i]
def abl(i:X.A.units+64<cLine)(I:Inv X pins σ H s)(j:H c\(.tup [.int p.1, .int p.2]))(k:H a\(.ext^gk (iu X.w) a e))(f:gQ H e b)
  (h:∀d,Q (decide (p∈b)) {s with toks:=d}):d7 (d5 X.prog X.w) X.A (contains (.ref a)^.ref c) Q E s:=by
 rfl';let⟨o,m,r,t,n,S,g⟩:=I.pq k;ac_rfl;refine we i n S (I.pes f g) (I.sL j) λd=>?_
 have:PySem.qa X.prog X.w s.heap m [p.1,p.2]=decide (p∈b):=by
  classical
  unfold PySem.qa;exact ad0.mpr^I.qa f g p
 rw[this];exact h d
def KI(f:X.A.units+64<cLine):OpR X (fz .NotIn) (λx y H Q=>∃c a b d p,x= .ref c/\y= .ref a/\H c\(.tup [.int p.1, .int p.2])/\H a\(.ext^gk (iu X.w) a b)/\gQ H b d/\Q (.bl (!decide (p∈d))) H):=by
 intro e s n H x y v u Q I g i h;rfl';let⟨c,a,b,d,p,rfl,rfl,k,l,m,q⟩:=h;ac_rfl;cases g;cases i;exact a_ (abl f I k l m λr=>ir #[.bl _,H,I.tok _,rfl,q])
def Rt(hu:X.A.units+64<cLine):O7 X "set.add" (λx k H Q=>∃l c d a p,x= .ref l/\k= [.ref c]/\H c\(.tup [.int p.1, .int p.2])/\H l\(.ext^gk (iu X.w) l d)/\gQ H d a/\a.length<=300/\
  (p∈a->Q .aQ H)/\(p∉a->Q .aQ^upd H l^.ext^gk (iu X.w) l (d++ [(bP p,c)]))):=by
 intro m s σ H x k v us Q I C E h;rfl';let⟨l,c,d,a,p,rfl,rfl,J,n,g,hz,L,M⟩:=h;subst C;let⟨u,rfl,N⟩:=E.one;subst N;let⟨o,O,ep,t,q,S,f⟩:=I.pq n;have P:s.TypeIs (.ref l) "set":=#[o,q,S.ex.1];ac_rfl;refine acS F.slot_set_add P F.entry_set_add ?_^F.args_set_add_2 _ _;unfold Builtin.«set.add» Builtin.Frozenset.oneOther;simp only[List.isEmpty_nil,bind_assoc];unfold Builtin.Frozenset.addrOf setAdd;refine a_^ir ?_
 try dsimp only
 refine a_^ir ?_
 try dsimp only
 refine a_ ?_;refine KB ?_;have r:=I.sL J;refine a_^wpAny_pyHash_tuple ?_ r ?_
 .show X.A.units+1<cLine;lia
 have sz:O.size=a.length:=by
  have:=f.length_eq
  rw[di,aI,g.len] at this;exact this
 refine F4 (s:={s with toks:=s.toks+([p.1,p.2].length+1)}) (by show X.A.units+1<cLine;lia) q S (I.pes g f) r () (λR=>?_) λT h' y Y Z t' sb B S' KQ=>?_
 .show d7 _ _ (ret Value.none) _ _ _
  exact ir #[_,rfl, .aQ,H,I.tok _,rfl,L^(I.qa g f p).mp R]
 .show d7 _ _ (ret Value.none) _ _ _
  have j:p∉a:=λz=>by
   let⟨i,c',h1,h2⟩:=(I.qa g f p).mpr z;exact T i _ h1 c' rfl h2
  have I':=I.write (h':=h') (t':=s.toks+([p.1,p.2].length+1)) (x:=l) (e:=l) (o:= .ext^gk (iu X.w) l (d++ [(bP p,c)])) (by rw[n];trivial) (.inl rfl) (λb u hb e=>sb.extBut b u hb e) #[y,B]^gk.ok #[y,Y,Z,t',B,S',by
   rw[dk];exact KQ.trans^f.append_right _]
  exact ir #[_,rfl, .aQ,_,I',rfl,M j]
def ab5(b:Bool)(r:V->List V->Hp->VK->Prop)(d:TE)(t:TA):TE:=λa H Q=>d a H λx c=>(∃p e,x= .ref p/\c p\(.ext^gk b p e))/\t a c λf g=>r x f g Q
variable {o e:Expr} {es:List Expr} {to:TE} {t:TA} {name:Str} {apos aM:Pos} {id:String} {r:V->List V->Hp->VK->Prop}
theorem Vg{b:Bool}(n:PlainAttrs "set")(slot:Slot "set" name id)(q:typeOf^.builtin id=pure^.type "method_descriptor")(u:O7 X id r)(w:PE X o to)(y:PA X (e::d) t)
  (A:ge o name X.env^fC o X.env=fC o X.env<|>zn)
  (B:((f8 f^d4 (e::d) X.env).all (λx=>!x.1)&&(il f^g_ [] X.env).all (λx=>x.1.isSome)
   &&decide ((e::d).length+([]:List hT).length+(if ([]:List hT).isEmpty then 0 else 1)<30))=true<|>zn)
  (C:(apos.endLine==f.line)=true<|>zn) (E:d4 (e::d) X.env=(false,fC e X.env)::d4 d X.env<|>zn) (F:(f8 f^d4 d X.env).any (·.1)=false<|>zn):
  PE X (.Call (.Attribute o name apos) (e::d) [] f)^ab5 b r to t:=by
 intro c s i H Q I h;refine afh A B C rfl (thn (w c s i H _ I h) λv G J=>?_);rfl';let⟨x,M,k,N,O,P⟩:=J;ac_rfl;rfl';let⟨p,nX,rfl,R⟩:=O;subst N;let⟨l,j,z,D,g,S,K⟩:=k.pq R;ac_rfl;refine#["set",id,n,slot,q,#[l,g,S.ex.1],λa T=>?_,?_]
 .cases T;exact#[l,g,S.ex.2.1]
 have m:=y f c G i M _ k P;rw[E] at m ⊢;refine adL (by show(false|| (f8 f^d4 d X.env).any (·.1))=false;rw[F]<;>rfl)^Calls.evalArgs_plain ?_
 exact thn m λY Z #[vs,H2,I2,r2,q2]=>u c Z i H2 (.ref p) vs (.ref p) Y Q I2 rfl r2 q2
end
noncomputable def HE(a:List (Int×Int))(p:Int×Int):List (Int×Int):=if p∈a then a else a++ [p]
section
variable {Z:DC} {X:Cx} {B:Bs} {md:List Nat} {rn:Nat} {ρ:DN} {σ:St} {H G:Hp} {fp:Nat->List Addr} {a e k o:Expr} {ta te tk tp:aY} {pos apos aM p2:Pos}
noncomputable def KU(p:Int×Int):D:= .tup [.int p.1, .int p.2]
def Dv.DU(h:Dv Z G v^KU p):∃c,v= .ref c/\G c\(.tup [.int p.1, .int p.2]):=by
 rfl';let⟨c,l,rfl,b,f⟩:=Dv.xy h;let⟨m,n,rfl,g,i⟩:=f.xB;rw[g.ofInt,i.ofInt] at b;ac_rfl;exact#[c,rfl,b]
def aaA(w:ei)(c:Bool):jm:=λa b P=>∃p d,a=KU p/\b= .x^.vJ (iu w) d/\P^.bl^if c=true then !decide (p∈d) else decide (p∈d)
def Ky(d:X.A.units+64<cLine):OpR X (fz .NotIn)^cx Z^aaA X.w true:=by
 refine(KI d).imp ?_;rintro x y H Q ⟨G,a,b,P,s,f,g,⟨p,i,rfl,rfl,h⟩,q⟩;let⟨c,rfl,j⟩:=f.DU;cases g with
 |x l ok=>
  rfl';let⟨e,n,rfl,r⟩:=ok;ac_rfl;exact#[c,_,n,i,p,rfl,rfl,s _ _ j,s _ _ l,r.mono s,q _ h _ G H (.refl s)^.bl _]
def TV(w:ei)(i:Nat):dJ:=λE b=>E.nx^b.set i^some^.x^.vJ (iu w) []
def Nt(i:Nat)(n:X.N.Nodup)(q:Gl X "set")(r:X.mg "set"=none)(s:t.getD i 0=98<|>zn)(u:X.N[i]?\x<|>zn)(v:Loc X.env.scope x<|>xz)(y:gs (.Call (.Name "set" p) [] [] A) (some^.Name x d) m.line X.env=pure false<|>zn)
  (C:X.fn x=true\/X.env.scope.names.lookup x\.local<|>xz):DSt Z X t O (.Assign [.Name x d] (.Call (.Name "set" p) [] [] A) m)^TV X.w i:=by
 refine(bW n u v (Ot q r) y C).imp ?_;intro D P H F;rfl';obtain⟨B,R,E,⟨G,T,S⟩,h,M⟩:=F;ac_rfl;intro c g;have J:G c=none:=S.ex.sub.free g;have x:Ext G H G^upd H c^.ext^gk (iu X.w) c []:=#[.refl _,S.ex.sub.trans^ay g _,ay g _,λ_ _ z=>z];refine M.nx _ h _ _ #[G,_,(S.grow x).Sz s (f:= [c]) (.inr^.inr #[c,_,rfl,ae,rfl, .inr #[rfl,_,rfl,iN,[],rfl, .nil]]) (by simp) (λb l=>?_) λb l j _ L=>?_]
 .rw[fX] at l;subst l
  exact#[S.ex.hh.free g,(by rw[ae];exact λz=>nomatch z),J]
 .rw[fX] at l;subst l
  exact(S.nw j _ L).2.1 g
def Xw(w:ei)(f:List Nat)(m:Bool)(i:Nat)(g:aY):dJ:=λE b=>∃c,b[i]?\(some^.x^.vJ (iu w) c)/\g (IU f m b) λd=>∃p,d=KU p/\c.length<=300/\E.nx^b.set i^some^.x^.vJ (iu w)^HE c p
def PY(m:Bool)(i:Nat)(hu:X.A.units+64<cLine)(he:DE Z X e te)(s:md.getD i 0=98<|>zn)(hi:X.N[i]?\x<|>zn)(hv:ze X.env.scope x<|>xz)(t:(x==("__debug__":ee))=false<|>zm)(iz:(x==("__classdict__":ee))=false<|>zm)
  (fQ:ge (.Name x g) "add" X.env^fC (.Name x g) X.env=fC (.Name x g) X.env<|>zn)
  (kY:((f8 aM^d4 [e] X.env).all (λx=>!x.1)&&(il aM^g_ [] X.env).all (λx=>x.1.isSome)&&decide (([e]:List e_).length+([]:List hT).length+(if ([]:List hT).isEmpty then 0 else 1)<30))=true<|>zn)
  (dG:(apos.endLine==aM.line)=true<|>zn) (I:d4 [e] X.env=(false,fC e X.env)::d4 [] X.env<|>zn) (fR:(f8 aM^d4 [] X.env).any (·.1)=false<|>zn)
  (w6:gs (.Call (.Attribute (.Name x g) "add" apos) [e] [] aM) none pos.line X.env=pure false<|>zn):
  DSt Z X md rn (.Expr (.Call (.Attribute (.Name x g) "add" apos) [e] [] aM) pos)^Xw X.w md m i te:=by
 refine(dh (Vg (b:=iu X.w) PySem.F.plainAttrs_set PySem.F.slot_set_add PySem.F.type_set_add (Rt hu) (pv i hi hv t iz) (ao he az I) fQ kY dG I fR) w6).imp ?_;intro D σ H aN;rfl';obtain⟨B,J,E,⟨G,L,S⟩,⟨O,n,h⟩,M⟩:=aN;ac_rfl;rfl';let⟨v0,y,P⟩:=S.at_ i _ n;rw[s] at P;let⟨l,φ,rfl,hl,f,nd,es,rfl,pe⟩:=P.xA;ac_rfl;refine#[_,y,#[l,_,rfl,hl],S.ev m h λd t=>?_];let⟨p,rfl,hz,q⟩:=t;refine#[by cases m<;>trivial,λv Q H' C x dv=>?_]
 rfl';let⟨c,rfl,R⟩:=dv.DU;let⟨v1,T,Y⟩:=C.at_ i _ n;rw[y] at T;ac_rfl;cases Do T;rfl';rw[s] at Y;let⟨l',φ',e',Cr,k,CD,nX,rfl,o⟩:=Y.xA;cases e';ac_rfl;refine#[l,c,nX,O,p,rfl,rfl,x.sub _ _ R,Cr,o.mono x.sub,hz,λr=>?_,λr=>?_]
 .rw[HE,mo r] at q
  refine M.nx _ q _ _ #[Q,L,?_]
  have e:J.set i^some^.x^.vJ (iu X.w) O=J:=by
   refine yX λj=>?_
   by_cases z:i=j
   .subst z
    have bQ:=(cz.mp n).1;rw[nI bQ,n]
   .rw[pB z]
  rw[e];exact C
 .rw[HE,tz r] at q
  refine M.nx _ q _ _ #[Q,L,C.mut y (b:=l) (by rw[k];simp) ?_]
  rw[s,k];refine .inr^.inr #[l,_,rfl,ae,rfl, .inr #[rfl,_,rfl,?_,_,rfl,o.snoc R]];rw[hZ];refine#[CD,by simp,λa ha b hb z=>r ?_]
  rw[fX] at hb;rw[<-hb,<-z];exact ha
end
section
variable {Z:DC} {X:Cx}
def Ph:eS:=λa P=>∃L:List^List Nat,a= [.lst^L.map aD]/\L.length<=1000/\∀M:List^List Nat,M.Perm L->M.Pairwise qk->P^.lst^M.map aD
def Uc(h:Dv Z G v^aD r):∃a,v= .ref a/\G a\(.lst^(j4 r).map V.int):=by
 let⟨a,d,rfl,b,c⟩:=Dv.k8 h
 have:d=(j4 r).map V.int:=by
  have e:r.map aB=(j4 r).map D.int:=by unfold j4;rw[dB];rfl
  rw[e] at c;exact pY c
 rw[this] at b;exact#[a,rfl,b]
def VB(h:G a\(.lst^(j4 r).map V.int)):Dv Z G (.ref a)^aD r:=by
 have e:aD r= .lst^(j4 r).map D.int:=by unfold aD j4;rw[dB];rfl
 rw[e];exact .lst h^.ints _
theorem C5:∀{b:List V}{L:List^List Nat},DvAll Z G b^L.map aD->∃A:List (Addr×List Nat),b=A.map (λe=>V.ref e.1)/\A.map (·.2)=L/\Jj G A
 |b,[],h=>by cases h;exact#[[],rfl,rfl,λp c=>by cases c]
 |b,r::L,h=>by
  cases h with
  |cons a f=>
   let⟨A,g,i,j⟩:=C5 f;let⟨p,rfl,c⟩:=Uc a;refine#[(p,r)::A,by rw[g];rfl,by rw[<-i];rfl,λq d=>?_]
   rcases dS.mp d with rfl|d
   .exact c
   .exact j q d
theorem Jj.dv:∀{L:List (Addr×List Nat)},Jj G L->DvAll Z G (L.map λe=>V.ref e.1)^(L.map (·.2)).map aD
 | [],_=> .nil
 |x::L,h=> .cons (VB^h x (c5 ..)) (Jj.dv λp a=>h p^dY _ a)
def Jv(i:X.A.units+64<cLine):CallR X (.builtin "sorted")^mF Z Ph:=by
 refine(z5 i).imp ?_;rintro r H Q ⟨G,j,P,s,dv,⟨c,rfl,t,b⟩,q⟩;cases dv with
 |cons a k=>
  cases k;cases a with
  | @lst p u j h e=>
   let⟨L,rfl,d,f⟩:=C5 e;have v:L.length=c.length:=by rw[<-d];simp
   refine#[_,L,rfl,aJ.of^s _ _ h,λp b=>s _ _^f p b,(),λp M g m1 l=>?_]
   have m:(M.map (·.2)).Perm c:=by rw[<-d];exact m1.map _
   have n:Jj (upd G p^.lst (M.map λe=>V.ref e.1)) M:=λx o=>ay (s.free g) _ _ _^f x^m1.mem_iff.mp o;exact q _ (b _ m l) _ _ _ (.new s g)^.lst ae n.dv
end
section
variable {Z:DC} {X:Cx} {md:List Nat} {rn:Nat} {a b:Expr} {pos:Pos} {ta:ij}
def aaG(d:List Nat)(i j:Nat)(e:ij):dJ:=λE c=>e (cG d c) λf=>∃a b,f= [a,b]/\E.nx^(c.set i^some a).set j^some b
def L7(i j:Nat){kt k2 KY}(d:X.calm=true)(e:X.N.Nodup)(f:DA Z X [a,b] ta)(g:X.N[i]?\x<|>zn)(k:X.N[j]?\y<|>zn)(l:i≠j<|>zm)(m:md.getD i 0=0<|>zn)(n:md.getD j 0=0<|>zn)
  (o:X.env.scope.names.lookup x\.local<|>zn) (p:X.env.scope.names.lookup y\.local<|>zn)
  (hw:ju [.Tuple [.Name x c, .Name y py] kt pt] (.Tuple [a,b] k2 KY) X.env=pure^some [x,y]<|>zn)
  (q:jt [.Tuple [.Name x c, .Name y py] kt pt] (.Tuple [a,b] k2 KY) pos.line X.env=pure false<|>zn):
  DSt Z X md rn (.Assign [.Tuple [.Name x c, .Name y py] kt pt] (.Tuple [a,b] k2 KY) pos)^aaG md i j ta:=by
 refine(Vs d e g k l o p f hw q).imp ?_;intro D J H r;rfl';obtain⟨B,t,E,⟨G,O,S⟩,h,M⟩:=r;ac_rfl;exists G,cG md t,_,S.ex.sub,S.uG,h;rintro _ ⟨a,b,rfl,w⟩ P A Q x C;let⟨v,u,rfl,F,I⟩:=C.xB;exact#[v,u,rfl,M.nx _ w _ _ #[A,_,((S.grow x).pq m F).pq n I]]
end
section
variable {Z:DC} {X:Cx} {o e:Expr} {ta tb:aY} {apos:Pos}
def N8:O7 X "list.count" (λx b H Q=>∃(l:Addr)(a:List Int)(k:Int),x= .ref l/\b= [.int k]/\H l\(.lst^a.map V.int)/\Q (.int (a.count k:Nat)) H):=by
 intro c s m H x b v n Q I d f h;let⟨l,a,k,rfl,rfl,g,q⟩:=h;cases d;let⟨u,rfl,i⟩:=f.one;let⟨p,rfl⟩:=i;let⟨j,r,pl,t⟩:=I.list^aJ.of g;exact count_list_ints pl.isList (intsAre_of r) #[.int _,H,I.tok _,#[_,rfl],q]
def TL(c f:aY):aY:=λa P=>c a λd=>∃b:List Int,d= .lst^b.map D.int/\f a λy=>∃k:Int,y= .int k/\P^.int (b.count k:Nat)
theorem CZ(j:DE Z X o ta)(l:DE Z X e tb)
  (m:ge o "count" X.env^fC o X.env=fC o X.env<|>zn)
  (n:((f8 a^d4 [e] X.env).all (λx=>!x.1)&&(il a^g_ [] X.env).all (λx=>x.1.isSome)&&decide (([e]:List e_).length+([]:List hT).length+(if ([]:List hT).isEmpty then 0 else 1)<30))=true<|>zn)
  (r:(apos.endLine==a.line)=true<|>zn) (c:d4 [e] X.env=(false,fC e X.env)::d4 [] X.env<|>zn) (t:(f8 a^d4 [] X.env).any (·.1)=false<|>zn):
  DE Z X (.Call (.Attribute o "count" apos) [e] [] a)^TL ta tb:=by
 refine(gW GT PySem.F.slot_list_count PySem.F.type_list_count N8 j (ao l az c) m n r c t).imp ?_;rintro M H Q ⟨G,d,P,s,f,h,q⟩;exists G,d,_,s,f,h;rintro _ ⟨w,rfl,A⟩ v B N b dv;cases dv with
 | @lst p O R g e=>
  refine#[ty_list^b.sub _ _ g,B,d,_,b.sub,f.mono b.gg,A,λy C u E I i J=>?_];let⟨k,rfl,L⟩:=C;cases J;exact#[p,w,k,rfl,rfl,by rw[<-pY e];exact i.hh _ _^b.sub _ _ g,q _ L _ E I (b.trans i)^.int _]
end
def bZ.ok{P:ec}{w:ei}{H:Hp}{a:Addr}{vs:List FV}(x:bZ a c vs h):cp P w H h a^.ext^bZ a c vs:=by
 refine#[x,let #[_,o,_,_,b,_]:=x;#[o,b],λf g p k=>?_];obtain⟨z,o,d,e,b,r⟩:=p;exact#[z,o,d,e,k o b,r]
inductive mU (H:Hp):List (Int×Addr)->List (Int×Int)->List FV->List (List Int×Addr×Value)->Prop
 |nil:mU H [] [] [] []
 |cons {a:Addr} {p:Int×Int} {v:FV} {u:Value} {es:List (Int×Addr)} {ks:List (Int×Int)} {vs:List FV} {xs:List (List Int×Addr×Value)}:H a\(.tup [.int p.1, .int p.2])->M4 v u->mU H es ks vs xs->mU H ((bP p,a)::es) (p::ks) (v::vs) (([p.1,p.2],a,u)::xs)
theorem mU.keys:∀{c:List (Int×Addr)}{a:List (Int×Int)}{d:List FV}{b:List (List Int×Addr×Value)},mU H c a d b->b.map (·.1)=a.map λp=> [p.1,p.2]
 |_,_,_,_, .nil=>rfl
 |_,_,_,_, .cons _ _ t=>by rw[dR,dR,t.keys]
theorem mU.len:∀{b:List (Int×Addr)}{a:List (Int×Int)}{c:List FV}{xs:List (List Int×Addr×Value)},mU H b a c xs->xs.length=a.length
 |_,_,_,_, .nil=>rfl
 |_,_,_,_, .cons _ _ t=>KF (·+1) t.len
theorem mU.snoc(b:H a\(.tup [.int p.1, .int p.2]))(h:M4 v u):∀{c:List (Int×Addr)}{d:List (Int×Int)}{e:List FV}{f:List (List Int×Addr×b_)},mU H c d e f->mU H (c++ [(bP p,a)]) (d++ [p]) (e++ [v]) (f++ [([p.1,p.2],a,u)])
 |_,_,_,_, .nil=> .cons b h .nil
 |_,_,_,_, .cons k' g t=> .cons k' g^mU.snoc b h t
def yr(P:ec)(w:ei)(p:Int×Int)(a:Addr)(u:b_):ln (hX^eg P w) ([p.1,p.2],a,u)=#[bP p, .ref a,u]:=by
 unfold ln;rw[show(hX^eg P w).hash [p.1,p.2]=bP p from oE P w p]
def XW(d:MZ l b g):∀{c:List (Int×Int)},gQ H b c->∃f,mU H b c g f/\∀(P:ec)(w:ei),l=f.map^ln^hX^eg P w:=by
 induction d with
 |nil=>intro c i;cases i;exact#[[], .nil,λ_ _=>rfl]
 | @cons e l h a v b g j k m d n=>
  intro c i;cases i with
  | @cons _ p _ r h t=>
   let⟨f,o,q⟩:=n t;refine#[([p.1,p.2],a,e.val)::f, .cons h m o,λP w=>?_];rw[dR,<-q P w,yr];let⟨s,u,ev⟩:=e;simp only at j k ⊢;rw[j,k]
def P8{e:List (Int×Int)}(d:mU H a e b c):MZ (c.map^ln^hX^eg P w) a b:=by
 induction d with
 |nil=>exact .nil
 |cons _ h t f=>
  rw[dR,yr];exact .cons rfl rfl h f
def mU.isKey(I:Inv X a e H s)(d:mU H f g i c):∀x∈c,IsTupleKey (intKind X.prog X.w) s.heap x.1 x.2.1:=by
 induction d with
 |nil=>intro x b;cases b
 |cons h _ _ j=>
  intro x b
  rcases dS.mp b with rfl|b
  .exact I.sL h
  .exact j x b
def lW{K:Type} [DecidableEq K] {b:List (K×Addr×Value)} {k:K}:(atKey b k).isSome=true↔k∈b.map (·.1):=by
 unfold atKey;rw[Option.isSome_map,List.find?_isSome,cQ]
 constructor
 .rintro⟨x,a,e⟩;exact#[x,a,IR e]
 .rintro⟨x,a,e⟩;exact#[x,a,FS e]
def rF{p:Int×Int}{a:List (Int×Int)}: [p.1,p.2]∈a.map (λp=> [p.1,p.2])↔p∈a:=by
 rw[cQ]
 constructor
 .rintro⟨q,b,e⟩
  simp at e;rw[<-show q=p from acZ e.1 e.2];exact b
 .intro h;exact#[p,h,rfl]
def Ie{c:List (Int×Int)}(h:c.Nodup):(c.map λp=> [p.1,p.2]).Nodup:=by
 rw[Jf,kh];rw[Jf] at h;exact h.imp λ {a b} n e=>n^by simp at e;exact acZ e.1 e.2
section
variable {X:Cx} {pins:List (Addr×Obj)} {σ:St} {H:Hp} {s:Shared}
def Inv.T8(I:Inv X pins σ H s)(h:H a\(.ext^bZ a b e))(f:gQ H b c)(g:c.Nodup):
  (a==i_)=false/\∃xs,mU H b c e xs/\s.heap.DictOfH (hX^eg X.prog X.w) a xs:=by
 rfl';let⟨z,o,j,k,l,m,n,p⟩:=(I.hok a _ h).1;let⟨xs,d,q⟩:=XW p f;ac_rfl;exact#[z,xs,d,o,j,k,l,m,n,q _ _,d.isKey I,by rw[d.keys];exact Ie g]
def RW:PE X (.Dict [] [] b) (λd H Q=>∀q,H q=none->Q (.ref q)^upd H q^.ext^bZ q [] []):=by
 intro c s d H Q I h;have e:=I.hok.fresh^bh s.heap.objs.size;refine wpAny_Dict_empty #[.ref s.heap.objs.size,_,I.laid (a:=s.heap.objs.size) (t':=s.toks) (λ_ _ q=>AC _ q) (bh _) (o:= .ext^bZ s.heap.objs.size [] [])^bZ.ok #[?_,_, #[],0,GM _ rfl,#[rfl,rfl,rfl],rfl, .nil],rfl,h _ e];have f:eh<s.heap.objs.size:=(I.mod.glob.keeps I.bk).lt;have g:i_<s.heap.objs.size:=Nat.lt_trans ∅ f
 exact acQ.mpr^Ne.symm^bL g
def Ic(F:X.A.units+64<cLine):OpR X (fz .NotIn) (λx y H Q=>∃c a d b g p,x= .ref c/\y= .ref a/\H c\(.tup [.int p.1, .int p.2])/\H a\(.ext^bZ a d g)/\gQ H d b/\b.Nodup/\Q (.bl (!decide (p∈b))) H):=by
 intro i s G H x y v u Q I l m h;rfl';let⟨c,a,d,b,g,p,rfl,rfl,o,r,t,B,q⟩:=h;ac_rfl;cases l;cases m;rfl';let⟨z,C,j,E⟩:=I.T8 r t B;ac_rfl
 have:(atKey C [p.1,p.2]).isSome=decide (p∈b):=by
  by_cases e:p∈b
  .rw[FS e];exact lW.mpr^by rw[j.keys];exact rF.mpr e
  .rw[FM e]
   apply sW.mpr;exact λz=>e^rF.mp^by rw[<-j.keys];exact lW.mp z
 exact PyProof.Rows.wpAny_notIn_heap (knd:=hX^eg X.prog X.w) (k:= [p.1,p.2]) (by show X.A.units+1<cLine;lia) (I.sL o) z E^by rw[this];exact#[.bl _,H,I.tok _,rfl,q]
noncomputable def vF:FV->V
 | .int i=> .int i
 | .bl b=> .bl b
def Md(h:RelV (vF f) u):M4 f u:=by
 cases f with
 |int i=>exact h
 |bl b=>exact h
variable {o i value:Expr} {td ti tv:TE} {pos pos':Pos}
def Z8(h j k:TE):TS:=λD b H=>k b H λv l=>h b l λx m=>j b m λy d=>∃a c f e g p fv,x= .ref a/\y= .ref c/\v=vF fv/\d a\(.ext^bZ a f g)/\d c\(.tup [.int p.1, .int p.2])/\gQ d f e/\e.Nodup/\p∉e/\e.length<=300/\D.nx b^upd d a^.ext^bZ a (f++ [(bP p,c)]) (g++ [fv])
def Sf(hu:X.A.units+64<cLine)(G:PE X o td)(J:PE X i ti)(L:PE X value tv)(M:gs value (some^.Subscript o i pos') pos.line X.env=pure false<|>zn):PS X (.Assign [.Subscript o i pos'] value pos)^Z8 td ti tv:=by
 intro d s f H D I h;refine wpAny_Assign_Subscript (thn (L d s f H _ I h) λr N #[v,O,P,Q,R]=>thn (G d N f O _ P R) λu S #[x,T,Y,Z,q2]=>thn (J d S f T _ Y q2) λiv s3 #[y,H3,g,ry,a,c,m,ks,n,p,fv,e1,e2,e3,t,B,pe,nd,np,hz,q3]=>?_) M;subst e1 e2 e3;cases Z;cases ry;let⟨z,j,l,hm⟩:=g.T8 t pe nd;refine wpAny_setItem_heap (knd:=hX^eg X.prog X.w) (k:= [p.1,p.2]) (by show X.A.units+1<cLine;lia) (g.sL B) hm (λh' C sb=>?_)^small^by rw[l.len];lia
 have na:atKey j [p.1,p.2]=none:=by
  cases e:atKey j [p.1,p.2] with
  |none=>rfl
  |some q=>exact absurd (rF.mp^by rw[<-l.keys];exact lW.mp^by rw[e];rfl) np
 rw[storedH_new na] at C;rfl';have x2:mU H3 (m++ [(bP p,c)]) (ks++ [p]) (n++ [fv]) (j++ [([p.1,p.2],c,r)]):=l.snoc B^Md Q;let⟨E,XX,Aj,F,uQ,iQ,wV,K,U⟩:=C;have I':=g.write (h':=h') (t':=s3.toks+(hX^eg X.prog X.w).draws [p.1,p.2]) (x:=a) (e:=a) (o:= .ext^bZ a (m++ [(bP p,c)]) (n++ [fv])) (by rw[t];trivial) (.inl rfl) (λb u hb e=>sb.extBut b u hb e) #[E,F]^bZ.ok #[z,E,XX,Aj,F,uQ,iQ,by rw[wV];exact P8 x2]
 ac_rfl;exact#[f,_,I',q3]
end
section
variable {Z:DC} {X:Cx} {B:Bs} {md:List Nat} {rn:Nat} {ρ:DN} {σ:St} {H G:Hp} {fp:Nat->List Addr} {a e k o:Expr} {ta te tk tp:aY} {pos apos aM p2:Pos}
def aaz(c:Bool):jm:=λa b P=>∃p d f,a=KU p/\b= .x^.fo d f/\P^.bl^if c=true then !decide (p∈d) else decide (p∈d)
def Kx(d:X.A.units+64<cLine):OpR X (fz .NotIn)^cx Z^aaz true:=by
 refine(Ic d).imp ?_;rintro x y H Q ⟨G,a,b,P,s,f,g,⟨p,i,j,rfl,rfl,h⟩,q⟩;let⟨c,rfl,l⟩:=f.DU;cases g with
 |x m ok=>
  rfl';let⟨r,t,rfl,u⟩:=ok;ac_rfl;exact#[c,_,t,i,j,p,rfl,rfl,s _ _ l,s _ _ m,u.mono s,r,q _ h _ G H (.refl s)^.bl _]
def Xz(i:Nat):dJ:=λE b=>E.nx^b.set i^some^.x^.fo [] []
def Hb(i:Nat)(n:X.N.Nodup)(p:q.getD i 0=98<|>zn)(r:X.N[i]?\x<|>zn)(s:Loc X.env.scope x<|>xz)(t:gs (.Dict [] [] u) (some^.Name x d) m.line X.env=pure false<|>zn)
  (v:X.fn x=true\/X.env.scope.names.lookup x\.local<|>xz):DSt Z X q F (.Assign [.Name x d] (.Dict [] [] u) m)^Xz i:=by
 refine(bW n r s RW t v).imp ?_;intro D I H w;rfl';obtain⟨B,L,E,⟨G,O,S⟩,h,M⟩:=w;ac_rfl;intro c g;have A:G c=none:=S.ex.sub.free g;have x:Ext G H G^upd H c^.ext^bZ c [] []:=#[.refl _,S.ex.sub.trans^ay g _,ay g _,λ_ _ z=>z];refine M.nx _ h _ _ #[G,_,(S.grow x).Sz p (f:= [c]) (.inr^.inr #[c,_,rfl,ae,rfl, .inr #[rfl,_,rfl,iN,[],rfl, .nil]]) (by simp) (λb l=>?_) λb l j _ C=>?_]
 .rw[fX] at l;subst l
  exact#[S.ex.hh.free g,(by rw[ae];exact λz=>nomatch z),A]
 .rw[fX] at l;subst l
  exact(S.nw j _ C).2.1 g
noncomputable def Qh:FV->D
 | .int i=> .int i
 | .bl b=> .bl b
def Dv.W4(h:Dv Z G v^Qh f):v=vF f:=by
 cases f with
 |int i=>exact h.ofInt
 |bl b=>exact h.DS
def XQ(f:List Nat)(i:Nat)(h j:aY):dJ:=λE b=>j (cG f b) λd=>∃fv c g,d=Qh fv/\b[i]?\(some^.x^.fo c g)/\h (cG f b) λl=>∃p,l=KU p/\p∉c/\c.length<=300/\E.nx^b.set i^some^.x^.fo (c++ [p]) (g++ [fv])
def Hd(i:Nat)(T:X.A.units+64<cLine)(Y:DE Z X k tk)(o:DE Z X e te)(m:md.getD i 0=98<|>zn)(hi:X.N[i]?\x<|>zn)(hv:ze X.env.scope x<|>xz)(n:(x==("__debug__":ee))=false<|>zm)(iz:(x==("__classdict__":ee))=false<|>zm)
  (hs:gs e (some^.Subscript (.Name x r) k g) pos.line X.env=pure false<|>zn):DSt Z X md rn (.Assign [.Subscript (.Name x r) k g] e pos)^XQ md i tk te:=by
 refine(Sf T (pv i hi hv n iz) Y o hs).imp ?_;intro D σ H aN;rfl';obtain⟨B,ρ,E,⟨G,fp,S⟩,h,M⟩:=aN;ac_rfl;refine S.ev false h λd n=>#[trivial,λv G1 H1 s x1 dv=>?_];rfl';let⟨fv,ks,vs,rfl,t,h2⟩:=n;ac_rfl;obtain rfl:=dv.W4;rfl';let⟨v0,q,w⟩:=s.at_ i _ t;rw[m] at w;let⟨l,φ,rfl,hl,f,nd,es,rfl,pe⟩:=w.xA;ac_rfl;refine#[_,q,s.ev false h2 λkd Uv=>#[trivial,λu G2 H2 y C du=>?_]];rfl';let⟨p,rfl,F,hz,hn⟩:=Uv;let⟨c,rfl,I⟩:=du.DU;let⟨v1,J,L⟩:=y.at_ i _ t;rw[q] at J;ac_rfl;cases Do J;rfl';rw[m] at L;let⟨l',φ',e',Cr,O,P,nX,rfl,Q⟩:=L.xA;cases e';ac_rfl;refine#[l,c,nX,ks,vs,p,fv,rfl,rfl,rfl,Cr,C.sub _ _ I,Q.mono C.sub,P,F,hz,M.nx _ hn _ _ #[G2,fp,y.mut q (b:=l) (by rw[O];simp) ?_]]
 rw[m,O];refine .inr^.inr #[l,_,rfl,ae,rfl, .inr #[rfl,_,rfl,?_,_,rfl,Q.snoc I]];rw[hZ];refine#[P,by simp,λa ha b R z=>F ?_]
 rw[fX] at R;rw[<-R,<-z];exact ha
end
end L2
namespace Wb
def gX(w:W)(d:Nat×Nat)(r:List (Nat×Nat)):Prop:=∃k,0<k/\dH w k d=d/\(∀j,0<j->j<k->dH w j d≠d)/\r=walk w d k
def nv:e∈walk w d k↔∃i,i<k/\e=dH w i d:=by
 unfold walk;rw[cQ]
 constructor
 .rintro⟨i,a,rfl⟩;exact#[i,i7.mp a,rfl]
 .rintro⟨i,a,rfl⟩;exact#[i,i7.mpr a,rfl]
def gX.first(h:gX w d r):d∈r:=by
 obtain⟨k,a,_,_,rfl⟩:=h;exact nv.mpr #[0,a,rfl]
def gX.next(h:gX w d r)(a:e∈r):sj w e∈r:=by
 obtain⟨k,b,f,_,rfl⟩:=h;obtain⟨i,g,rfl⟩:=nv.mp a
 by_cases c:i+1<k
 .exact nv.mpr #[i+1,c,rfl]
 .have:i+1=k:=()
  refine nv.mpr #[0,b,?_];show dH w (i+1) d=d;rw[this];exact f
theorem gX.iter(h:gX w d r)(a:e∈r):∀n,dH w n e∈r
 |0=>a
 |n+1=>h.next^h.iter a n
def gX.back(h:gX w d r)(a:e∈r):∃n,dH w n e=d:=by
 obtain⟨k,c,b,_,rfl⟩:=h;obtain⟨i,f,rfl⟩:=nv.mp a;exists k-i;rw[<-AA i (k-i),show k-i+i=k by lia]
 exact b
def gX.nodup(g:Good w)(h:gX w d r)(a:aU w d):r.Nodup:=by
 obtain⟨k,c,e,b,rfl⟩:=h;exact qN g a b
def gX.bo(g:Good w)(h:gX w d r)(a:aU w d):∀e∈r,aU w e:=by
 obtain⟨k,b,c,f,rfl⟩:=h;exact oP g a
structure Wk (w:W) (ds:List (Nat×Nat)) (i:Nat) (rs:List^List (Nat×Nat)):Prop where
 rnd:∀r∈rs,∃d,gX w d r/\aU w d/\∀e∈r,lexLe d e
 nod:rs.flatten.Nodup
 met:∀j e,j<i->ds[j]?\e->e∈rs.flatten
def Wk.zero(w:W)(a:List (Nat×Nat)):Wk w a 0 []:=#[(λr h=>by cases h),iN,(λj e h=>by lia)]
def Wk.skip(h:Wk w a i b)(g:a[i]?\d)(k:d∈b.flatten):Wk w a (i+1) b:=
 #[h.rnd,h.nod,λj e l f=>by
  by_cases c:j=i
  .subst c;rw[g] at f;cases f;exact k
  .exact h.met j e () f]
def Wk.take(g:Good w){k:List (Nat×Nat)}(all:∀e,aU w e->e∈k)(dart:∀e∈k,aU w e)(srt:k.Pairwise lexLe){i:Nat}{o:List^List (Nat×Nat)}(h:Wk w k i o)(p:k[i]?\d)(u:d∉o.flatten)(l:gX w d r):Wk w k (i+1) (o++ [r]):=by
 have s:aU w d:=dart d^cR p
 have off:∀e∈r,e∉o.flatten:=λe f v=>by
  let⟨q,t,x⟩:=lJ.mp v;let⟨L,y,D,K⟩:=h.rnd q t;let⟨n,A⟩:=l.back f;exact u^lJ.mpr #[q,t,by rw[<-A];exact y.iter x n]
 refine#[λq B=>?_,?_,λj e m f=>?_]
 .rcases cE.mp B with z|z
  .exact h.rnd q z
  .rw[fX.mp z]
   refine#[d,l,s,λe f=>?_];let⟨j,m⟩:=jh^all e^l.bo g s e f
   by_cases c:j<i
   .exact absurd (h.met j e c m)^off e f
   .by_cases C:j=i
    .subst C;rw[p] at m;cases m
     exact .inr #[rfl,bh _]
    .obtain⟨E,F⟩:=cz.mp p
     let⟨G,H⟩:=cz.mp m;rw[<-F,<-H];exact BR.mp srt i j E G ()
 .rw[wq,hZ]
  refine#[h.nod,by simpa using l.nodup g s,λa I b J e=>?_]
  subst e;exact off a (~~~J) I
 .rw[wq,cE]
  by_cases c:j=i
  .subst c;rw[p] at f;cases f
   exact .inr^~~~l.first
  .exact .inl^h.met j e () f
def Wk.fin(g:Good w)(all:∀e,aU w e->e∈a)(h:Wk w a a.length b):b.flatten.Perm^bo w:=by
 have sub:∀e,e∈b.flatten↔e∈bo w:=λe=>by
  rw[bF]
  constructor
  .intro c
   let⟨r,i,k⟩:=lJ.mp c;let⟨d,R,l,m⟩:=h.rnd r i;exact R.bo g l e k
  .intro c
   let⟨j,f⟩:=jh^all e c;exact h.met j e (cz.mp f).1 f
 exact(Jg h.nod^fN g).mpr sub
structure cg (w:W) (rs:List^List (Nat×Nat)):Prop where
 rnd:∀r∈rs,∃d,gX w d r/\aU w d/\∀e∈r,lexLe d e
 perm:rs.flatten.Perm^bo w
def cg.RD(R:cg w a)(p:b.Perm a):cg w b:=
 #[λr c=>R.rnd r^p.mem_iff.mp c,(p.flatten).trans R.perm]
def pV(g:Good w)(h:aU w d):d.1≠d.2:=λe=>g.irr d.1^by have:d.2∈row w d.1:=h;rw[<-e] at this;exact this
def Jp{w:W}(g:Good w){f:List (Nat×Nat)}(l:f.Perm^fg (row w) w.length):(f++f.map λt=>(t.2,t.1)).Perm^bo w:=by
 have e:=gy w;have n:=fN g
 have m:∀t,t∈f↔aU w t/\t.1<t.2:=λt=>by
  rw[l.mem_iff,e,wy,bF,decide_eq_true_eq]
 have i:f.Nodup:=l.nodup_iff.mpr^by rw[e];exact n.filter _
 refine(Jg ?_ n).mpr λd=>?_
 .rw[hZ]
  refine#[i,?_,λa o b p z=>?_]
  .rw[Jf,kh]
   rw[Jf] at i;exact i.imp λ {a b} h z=>h^acZ (adx z).2 (adx z).1
  .obtain⟨c,j,rfl⟩:=cQ.mp p
   have k:=((m a).mp o).2;have q:=((m c).mp j).2;rw[z] at k;have k:c.2<c.1:=k;lia
 .rw[cE,cQ,bF]
  constructor
  .rintro(h| ⟨c,j,rfl⟩)
   .exact((m d).mp h).1
   .exact g.sym _ _ ((m c).mp j).1
  .intro h
   rcases Nat.lt_or_gt_of_ne^pV g h with c|c
   .exact .inl^(m d).mpr #[h,c]
   .exact .inr #[(d.2,d.1),(m _).mpr #[g.sym _ _ h,c],rfl]
def gX.uniq(h:gX w d r)(b:gX w d a):r=a:=by
 let⟨k,e,f,g,rfl⟩:=h;let⟨m,i,j,l,rfl⟩:=b
 rcases Nat.lt_trichotomy k m with c|c|c
 .exact absurd f^l k e c
 .rw[c]
 .exact absurd j^g m i c
def cg.sub{f b:List^List (Nat×Nat)}(R:cg w f)(g:cg w b):∀r∈f,r∈b:=λr j=>by
 let⟨d,c,k,l⟩:=R.rnd r j;have m:d∈b.flatten:=g.perm.mem_iff.mpr^bF.mpr k;let⟨o,h,a⟩:=lJ.mp m;let⟨p,i,u,q⟩:=g.rnd o h;let⟨n,s⟩:=i.back a;have t:lexLe d p:=by rw[<-s];exact l _^c.iter c.first n
 have e:=nq t^q d a;subst e;rw[c.uniq i];exact h
def cg.ne{w:W}{a:List^List (Nat×Nat)}(R:cg w a):∀r∈a,r≠ []:=λr b z=>by
 let⟨d,c,e⟩:=R.rnd r b
 have:=c.first
 rw[z] at this;cases this
theorem yu:∀{l:List^List c},l.flatten.Nodup->(∀r∈l,r≠ [])->l.Nodup
 | [],_,_=>iN
 |a::l,h,b=>by
  rw[wu,hZ] at h;refine lK.mpr #[λd=>?_,yu h.2.1 λr e=>b r^dY _ e];cases a with
  |nil=>exact b [] (c5 ..) rfl
  |cons x a=>exact h.2.2 x (c5 ..) x (lJ.mpr #[_,d,c5 ..]) rfl
def cg.nodup(g:Good w)(R:cg w a):a.Nodup:=yu (R.perm.nodup_iff.mpr^fN g) R.ne
abbrev iR(a:List^List (Nat×Nat)):List^List Nat:=a.map λr=>r.map (·.1)
def Kr(h:L2.qk a b)(c:L2.qk b a):a=b:=by
 have:=L2.uV (L2.j4 a) (L2.j4 b) c h
 exact L2.IM^by rw[this]
def cg.uniq(g:Good w)(R:cg w a)(c:cg w b)(s:(iR a).Pairwise L2.qk)(d:(iR b).Pairwise L2.qk):iR a=iR b:=by
 have e:a.Perm b:=(Jg (R.nodup g)^c.nodup g).mpr λr=>#[R.sub c r,c.sub R r];exact adi (λ_ _ _ _=>Kr) s d^e.map _
open Classical in
noncomputable def xk(w:W):List (List Nat):=if h:∃rs,cg w rs/\(iR rs).Pairwise L2.qk then iR h.choose else[]
def Dy(g:Good w)(R:cg w a)(s:(iR a).Pairwise L2.qk):xk w=iR a:=by
 have h:∃a,cg w a/\(iR a).Pairwise L2.qk:=#[a,R,s];unfold xk;rw[dif_pos h];exact h.choose_spec.1.uniq g R h.choose_spec.2 s
def Sq(h:gX w d r)(a:i<r.length):r.getD ((i+1)%r.length) (0,0)=sj w^r.getD i (0,0):=by
 let⟨k,b,f,l,rfl⟩:=h;rw[jD] at a ⊢
 have at_:∀j,j<k->(walk w d k).getD j (0,0)=dH w j d:=λj g=>by
  unfold walk;rw[fu,fm,BW g];rfl
 rw[at_ i a]
 by_cases c:i+1<k
 .rw[yY c,at_ _ c];rfl
 .have e:i+1=k:=()
  rw[e,aeW,at_ 0 b];show d=dH w (i+1) d;rw[e,f]
def Dj(r:List (Nat×Nat))(i:Nat):(r.map (·.1)).getD i 0=(r.getD i (0,0)).1:=by
 rw[fu,fu,fm];cases r[i]? <;>rfl
end Wb
namespace PySem
abbrev nO(h:Heap)(z TI TO a:Addr)(f:Bool):Prop:=
 h.get? z\{cls:= .type "zip",dict:=none,data:= .fields [rawInt a, .bool f, .bool false, .ref TI, .ref TO].toArray,slots:= #[]}
section
variable {prog:Program} {w:World} {A:Around} {E:Value->Shared->Prop} {s:Shared}
theorem Ei(b:nO s.heap z TI TO a f)(g:s.heap.get? a\e)
  (d:∀c,nO c z TI TO a true->Heap.SameBut z s.heap c->Q false {s with heap:=c}):d7 (d5 prog w) A (Builtin.SmallTypes.ownedTupleIsFree^.ref z) Q E s:=by
 unfold Builtin.SmallTypes.ownedTupleIsFree;refine a_^acT b rfl (x:=kG a) rfl ?_;show d7 _ _ (loadIfAlive^(a:Int).toNat>>=_) _ _ _;rw[nJ];refine a_^PySem.W.kdx_alive g ?_;simp only[Option.isNone_some,fG,PP];refine a_^acT b rfl (x:= .bool f) rfl ?_;cases f with
 |true=>
  rw[tz (show ¬((Value.bool true !=Value.bool true)=true) from dP)];exact ir^d _ b^Heap.SameBut.refl _ _
 |false=>
  rw[mo (show(Value.bool false !=Value.bool true)=true from rfl)];exact a_ (wpAny_setField_rec b (by simp) λh i j=>ir^d _ i j)
def CN{z TI TO b d j k a:Addr}{f:Bool}{H:Obj}{n p:Nat}{C F:Array b_}{x y:b_}{Q:b_->c_->Prop}(D:kZ z TI TO b d j k)
  (q:nO s.heap z TI TO a f) (I:s.heap.get? a\H) (J:IsPair s.heap TI (.ref b)^.ref d)
  (L:s.heap.IsListIter b j n) (M:s.heap.IsListIter d k p) (N:s.heap.IsList j C) (O:s.heap.IsList k F) (P:C[n]?\x) (R:F[p]?\y)
  (S:∀g,nO g z TI TO a true->g.IsListIter b j (n+1)->g.IsListIter d k (p+1)->IsPair g s.heap.objs.size x y->g.objs.size=s.heap.objs.size+1->
   (∀c o,c≠z->c≠b->c≠d->s.heap.get? c\o->g.get? c\o)->Q (.ref s.heap.objs.size) {s with heap:=g}):
  d7 (d5 prog w) A (Builtin.«zip.__next__» #[[.ref z],[]]) (λfin T=>∃v,fin= .done^.ret v/\Q v T) E s:=by
 show d7 _ _ (field (.ref z) 2>>=_) _ _ _;refine a_^acT q rfl (x:= .bool false) rfl ?_;refine a_^acT q rfl (x:= .ref TI) rfl ?_;refine a_^adG J rfl ?_;refine a_ (Ei q I λG X h=>?_);simp only[fG,PP];refine a_ ?_;simp only[<-Gx,afb,List.forIn_nil];refine a_^a_^KB ?_;show d7 _ _ (Builtin.SmallTypes.nextOf^.ref b>>=_) _ _ _;refine a_ (adO (L.extBut h.extBut D.i1z) (N.extBut h.extBut D.l1z) P λQ2 Y i=>ir ?_);refine ir ?_;refine a_^a_^KB ?_;show d7 _ _ (Builtin.SmallTypes.nextOf^.ref d>>=_) _ _ _
 refine a_ (adO ((M.extBut h.extBut D.i2z).extBut i.extBut D.i12.symm)
  ((O.extBut h.extBut D.l2z).extBut i.extBut D.l2i1) R λl Z m=>ir ?_)
 refine ir^ir ?_;refine a_^afo ?_^by show 2<=sizeLine;decide
 have r:l.objs.size=s.heap.objs.size:=by rw[m.1,i.1,h.1]
 have Y7:nO l z TI TO a true:=m.extBut _ _ D.i2z.symm^i.extBut _ _ D.i1z.symm X;refine ir #[_,rfl,?_];show Q (.ref l.objs.size) _;rw[r];have YJ:∀c o,c≠z->c≠b->c≠d->s.heap.get? c\o->l.get? c\o:=λc o t u B e=>m.extBut _ _ B^i.extBut _ _ u^h.extBut _ _ t e;exact S _ (AC _ Y7) ((Y.extBut m.extBut D.i12).at λo e=>AC _ e) (Z.at λo e=>AC _ e) (r▸GM _ rfl) (by rw[adp,r]) λc o t u B e=>AC _^YJ c o t u B e
theorem Gi(B:A.handled=none)(D:kZ z TI TO d g j k)
  (q:nO s.heap z TI TO a f) (L:s.heap.get? a\J) (M:IsPair s.heap TI (.ref d)^.ref g)
  (C:s.heap.IsListIter d j l) (N:s.heap.IsListIter g k m) (F:s.heap.IsList j n) (O:s.heap.IsList k p) (P:n[l]? =none\/p[m]? =none)
  (G:∀r e,(∀c o,c≠z->c≠d->c≠g->s.heap.get? c\o->r.get? c\o)->(∃o,r.get? e\o/\o.cls= .type "StopIteration")->E (.ref e) {s with heap:=r}):
  d7 (d5 prog w) A (Builtin.«zip.__next__» #[[.ref z],[]]) Q E s:=by
 show d7 _ _ (field (.ref z) 2>>=_) _ _ _;refine a_^acT q rfl (x:= .bool false) rfl ?_;refine a_^acT q rfl (x:= .ref TI) rfl ?_;refine a_^adG M rfl ?_;refine a_ (Ei q L λH Y b=>?_);simp only[fG,PP];refine a_ ?_;simp only[<-Gx,afb,List.forIn_nil];refine a_^a_^KB ?_;show d7 _ _ (Builtin.SmallTypes.nextOf^.ref d>>=_) _ _ _;cases t:n[l]? with
 |none=>
  exact a_ (wpAny_nextOf_list_end B (C.extBut b.extBut D.i1z) (F.extBut b.extBut D.l1z) t λI e i u=>G I e (λc o v y _ x=>i _ _ y^b.extBut _ _ v x) u)
 |some x=>
  have R:p[m]? =none:=by rcases P with h|h;rw[t] at h;cases h;exact h
  refine a_ (adO (C.extBut b.extBut D.i1z) (F.extBut b.extBut D.l1z) t λI Z i=>ir ?_);refine ir ?_;refine a_^a_^KB ?_;show d7 _ _ (Builtin.SmallTypes.nextOf^.ref g>>=_) _ _ _
  exact a_ (wpAny_nextOf_list_end B ((N.extBut b.extBut D.i2z).extBut i.extBut D.i12.symm)
   ((O.extBut b.extBut D.l2z).extBut i.extBut D.l2i1) R λS e T u=>G S e (λc o v y X x=>T _ _ X^i.extBut _ _ y^b.extBut _ _ v x) u)
end
namespace F
def Kv:typeLookup (.type "zip") "__len__"=pure none:=by rw[typeLookup_type,builtinLookup_eq_fast];kernel_rfl
def HX:typeLookup (.type "zip") "__length_hint__"=pure none:=by rw[typeLookup_type,builtinLookup_eq_fast];kernel_rfl
end F
structure ZS (z TI TO i1 i2 l1 l2 S:Addr) (xs ys:Array Value) (k:Nat) (h:Heap):Prop where
 ti:IsPair h TI (.ref i1) (.ref i2)
 s1:h.IsListIter i1 l1 k
 s2:h.IsListIter i2 l2 k
 m1:h.IsList l1 xs
 m2:h.IsList l2 ys
 zz:(IsZip h z TI TO .none/\∃a b,IsPair h TO a b)\/∃a f oa,nO h z TI TO a f/\h.get? a\oa/\a≠z/\a≠i1/\a≠i2/\a≠S
section
variable {prog:Program} {w:World} {A:Around} {E:Value->Shared->Prop} {s:Shared} {z TI TO i1 i2 l1 l2 S:Addr} {xs ys:Array Value} {k:Nat}
def ZS.keep(x:ZS z TI TO i1 i2 l1 l2 S xs ys k h)(i:∀b o,b≠S->h.get? b\o->g.get? b\o)(l:∀b∈ [z,TI,TO,i1,i2,l1,l2],b<S):ZS z TI TO i1 i2 l1 l2 S xs ys k g:=by
 have n:∀b∈ [z,TI,TO,i1,i2,l1,l2],∀o,h.get? b\o->g.get? b\o:=λb m o e=>i b o (bL^l b m) e;refine#[n TI (by simp) _ x.ti,x.s1.at λo e=>n i1 (by simp) o e,x.s2.at λo e=>n i2 (by simp) o e,x.m1.at λo e=>n l1 (by simp) o e,x.m2.at λo e=>n l2 (by simp) o e,?_]
 rcases x.zz with ⟨a,b,c,d⟩ | ⟨a,f,p,q,r,t,u,v,j⟩
 .exact .inl #[n z (by simp) _ a,b,c,n TO (by simp) _ d]
 .exact .inr #[a,f,p,n z (by simp) _ q,i _ _ j r,t,u,v,j]
def Tp{x y:b_}(D:kZ z TI TO i1 i2 l1 l2)(st:ZS z TI TO i1 i2 l1 l2 S xs ys k s.heap)(M:S<s.heap.objs.size)(v:xs[k]?\x)(B:ys[k]?\y)
  (C:∀g,ZS z TI TO i1 i2 l1 l2 S xs ys (k+1) g->IsPair g s.heap.objs.size x y->g.objs.size=s.heap.objs.size+1->
   (∀c o,c≠z->c≠TO->c≠i1->c≠i2->s.heap.get? c\o->g.get? c\o)->Q (some^.ref s.heap.objs.size) {s with heap:=g}):
  d7 (d5 prog w) A (lp^.ref z) Q E s:=by
 let⟨i,n,p,j,l,zz⟩:=st;have lt:∀{c o},s.heap.get? c\o->s.heap.objs.size≠c:=λe=>jV^Da e;have N:s.heap.objs.size≠i1:=by let⟨K,e,U⟩:=n;exact lt e
 have O:s.heap.objs.size≠i2:=by let⟨K,e,U⟩:=p;exact lt e
 rcases zz with ⟨h,a,b,P⟩ | ⟨a,f,R,h,G,H,I,J,T⟩
 .refine wpAny_pyNext_zip_item D h i P n p j l v B λg q b2 r t m u d=>?_
  exact C g #[d _ _ D.TIz D.TITO D.TIi1 D.TIi2 i,r,t,j.at λo e=>d _ o D.l1z D.l1TO D.l1i1 D.l1i2 e,l.at λo e=>d _ o D.l2z D.l2TO D.l2i1 D.l2i2 e, .inr #[_,false,_,q,m,lt h,N,O,jV M]] m u d
 .have L:s.TypeIs (.ref z) "zip":=#[_,h,rfl]
  unfold lp
  refine a_^adu^adH (name:=Str.ofString "__next__") L aei
   (acS aei L F.entry_zip_next
    (CN D h G i n p j l v B λg q r t m u d=>ir ?_)^F.args_zip_next_1 _)
  exact C g #[d _ _ D.TIz D.TIi1 D.TIi2 i,r,t,j.at λo e=>d _ o D.l1z D.l1i1 D.l1i2 e,l.at λo e=>d _ o D.l2z D.l2i1 D.l2i2 e, .inr #[a,true,R,q,d _ _ H I J G,H,I,J,T]] m u λc o X _ Y Z e=>d c o X Y Z e
def Tn(h:A.handled=none)(D:kZ z TI TO i1 i2 l1 l2)(st:ZS z TI TO i1 i2 l1 l2 S xs ys k s.heap)(i:xs[k]? =none\/ys[k]? =none)
  (j:∀g,(∀c o,c≠z->c≠TO->c≠i1->c≠i2->s.heap.get? c\o->g.get? c\o)->Q none {s with heap:=g}):d7 (d5 prog w) A (lp^.ref z) Q E s:=by
 let⟨l,m,n,p,q,zz⟩:=st
 rcases zz with ⟨d,a,b,t⟩ | ⟨a,f,I,d,u,J,L,M,N⟩
 .exact wpAny_pyNext_zip_end h D d l t m n p q i j
 .have r:s.TypeIs (.ref z) "zip":=#[_,d,rfl]
  unfold lp
  refine a_^adu^adH (name:=Str.ofString "__next__") r aei
   (acS aei r F.entry_zip_next (Gi h D d u l m n p q i λg e v x=>?_)^F.args_zip_next_1 _)
  let⟨o,y,B⟩:=x;refine a_^wpAny_isInstance (T:="StopIteration") (b:=true) #[o,y,B] isSubtype_stop ?_;exact ir (j _ λc o C _ G H e=>v c o C G H e)
structure ZG (xs ys:Array Value) (lo:Addr) (h:Heap) (as:List Addr):Prop where
 rise:as.Pairwise (·<·)
 above:∀a∈as,lo<a
 pairs:∀(j:Nat)(a:Addr),as[j]?\a->∃x y,xs[j]?\x/\ys[j]?\y/\IsPair h a x y
theorem Tq(hh:A.handled=none)(D:kZ z TI TO i1 i2 l1 l2)(m:∀b∈ [z,TI,TO,i1,i2,l1,l2],b<S)(hn:min xs.size ys.size<=sizeLine)(u:b_){h₁:Heap}
  (hR:∀g r acc c f,(∀b o,b≠S->b≠z->b≠TO->b≠i1->b≠i2->h₁.get? b\o->g.get? b\o)->g.get? S\{cls:= .type "list",dict:=none,data:= .seq acc c,slots:= #[]}->f.length=min xs.size ys.size->ZG xs ys S g f->
   acc.toList=f.map Value.ref->R (.ok^.ret u) {s with heap:=g,toks:=r}):
  ∀(n i:Nat)(h:Heap)(r c:Nat)(acc:Array b_)(f:List Addr),min xs.size ys.size-i=n->i<=min xs.size ys.size->ZS z TI TO i1 i2 l1 l2 S xs ys i h->
   (∀b o,b≠S->b≠z->b≠TO->b≠i1->b≠i2->h₁.get? b\o->h.get? b\o)->
   h.get? S\{cls:= .type "list",dict:=none,data:= .seq acc c,slots:= #[]}->acc.toList=f.map Value.ref->f.length=i->ZG xs ys S h f->
   gl (d5 prog w) A (.builtin "list.extend.loop" #[[.ref S, .ref z,u],[]]) R {s with heap:=h,toks:=r}:=by
 have nS:∀b∈ [z,TI,TO,i1,i2,l1,l2],b≠S:=λb d=>bL^m b d;intro n
 induction n with
 |zero=>
  intro i h r c acc f hk hi M N I J v p;have hin:i=min xs.size ys.size:=()
  refine ado aeO ?_;rw[adb ac1 _];show d7 _ A.in1 (lp^.ref z>>=_) _ _ _;refine a_ (Tn (s:={s with heap:=h,toks:=r}) (A:=A.in1) hh D M (by simp only[Array.getElem?_eq_none_iff];lia) λg he=>?_)
  have O:∀b,S<=b->b≠z/\b≠TO/\b≠i1/\b≠i2:=λb d=>#[jV^dj (m z^by simp) d,jV^dj (m TO^by simp) d,jV^dj (m i1^by simp) d,jV^dj (m i2^by simp) d]
  have up:∀b o,S<=b->h.get? b\o->g.get? b\o:=λb o d e=>let #[P,Q,T,X]:=O b d;he b o P Q T X e;refine ir^hR g r acc c f (λb o L q B C F e=>he b o q B C F^N b o L q B C F e) (up S _ (bh _) I) () #[p.rise,p.above,λj a l=>?_] J
  obtain⟨x,y,Y,Z,k⟩:=p.pairs j a l;exact#[x,y,Y,Z,up a _ (qT^p.above a^cR l) k]
 |succ n ih=>
  intro i h r c acc f hk hi M N I J v p;have bQ:i<min xs.size ys.size:=()
  have Uu:i<xs.size:=()
  have G:i<ys.size:=()
  have eZ:acc.size=i:=by rw[<-di,J,aI,v]
  have E:S<h.objs.size:=Da I;refine ado aeO ?_;rw[adb ac1 _];show d7 _ A.in1 (lp^.ref z>>=_) _ _ _;refine a_ (Tp (s:={s with heap:=h,toks:=r}) (x:=xs[i]) (y:=ys[i]) D M E (sT Uu) (sT G) λg abi ht hz hkp=>?_)
  dsimp only at ht hz hkp ⊢;have O:∀b,S<=b->b≠z/\b≠TO/\b≠i1/\b≠i2:=λb d=>#[jV^dj (m z^by simp) d,jV^dj (m TO^by simp) d,jV^dj (m i1^by simp) d,jV^dj (m i2^by simp) d]
  have H:∀b o,S<=b->h.get? b\o->g.get? b\o:=λb o d e=>let #[P,Q,T,X]:=O b d;hkp b o P Q T X e;have Uo:=H S _ (bh _) I;have up:∀b o,b≠S->g.get? b\o->(g.update S^Obj.mapSeq (·.push^Value.ref h.objs.size)).get? b\o:=λb o d e=>(Pi _ _^Ne.symm d).trans e;show d7 _ A.in1 (updateSeq S (·.push^Value.ref h.objs.size)>>=_) _ _ _;refine a_ ?_
  refine aej Uo rfl (ir #[adv ac1 _,ih (i+1) _ r _ (acc.push^Value.ref h.objs.size) (f++ [h.objs.size]) () bQ (abi.keep up m)
   (λb o L q B C F e=>up b o L^hkp b o q B C F^N b o L q B C F e) (P3 _ Uo rfl) (by rw[BY,J,dk];rfl) (by rw[eF,v];rfl) #[?_,?_,?_]]) (by rw[eZ];lia)^by show(acc.push^Value.ref h.objs.size).size<=sizeLine+1;rw[Array.size_push,eZ];lia
  .refine sV.mpr #[p.rise,Gm _ _,λa t b d=>?_]
   rw[fX.mp d];obtain⟨j,l⟩:=Gq.mp t;obtain⟨_,_,_,_,e⟩:=p.pairs j a l;exact Da e
  .intro a t
   rcases cE.mp t with t|t
   .exact p.above a t
   .rw[fX.mp t];exact E
  .intro j b l
   rcases Nat.lt_trichotomy j f.length with q|q|q
   .rw[i5 q] at l
    obtain⟨x',y',Y,Z,k⟩:=p.pairs j b l;have d:=p.above b^cR l;exact#[x',y',Y,Z,up b _ (jV d)^H b _ (qT d) k]
   .subst q
    have d:h.objs.size=b:=by simpa using l
    subst d;exact#[_,_,by rw[v];exact sT Uu,by rw[v];exact sT G,up _ _ (jV E) ht]
   .have YR:(f++ [h.objs.size])[j]? =none:=gP^by rw[eF,Gp];lia
    rw[YR] at l;cases l
def To(a:s.TypeIs (.ref z) "zip")(h:Q true s):d7 (d5 prog w) A (Builtin.List.listLengthHint^.ref z) Q E s:=by
 unfold Builtin.List.listLengthHint;refine a_^aeh a F.Kv ?_;refine a_^aeh a F.HX ?_;exact ir h
def LL(C:A.handled=none)(D:kZ z TI TO i1 i2 l1 l2)(n:∀b∈ [z,TI,TO,i1,i2,l1,l2],b<S)(st:ZS z TI TO i1 i2 l1 l2 S xs ys 0 s.heap)(t:s.TypeIs (.ref z) "zip")(F:min xs.size ys.size<=sizeLine)(g:b_)(c₀:Nat)
  (hz:∃u,IsZip s.heap z TI TO u) (p:s.heap.get? S\{cls:= .type "list",data:= .seq #[] c₀})
  (G:∀l i acc c q,(∀b o,b≠S->b≠z->b≠TO->b≠i1->b≠i2->s.heap.get? b\o->l.get? b\o)->l.get? S\{cls:= .type "list",dict:=none,data:= .seq acc c,slots:= #[]}->q.length=min xs.size ys.size->ZG xs ys S l q->
   acc.toList=q.map Value.ref->R (.ok^.ret g) {s with heap:=l,toks:=i}):
  d7 (d5 prog w) A.in1 (Builtin.List.listExtendWith (.ref S) (.ref z) g)
   (λfin m=>match fin with| .done f=>R (.ok f) m| .again v=>v.quiet=true/\gl (d5 prog w) A v R m) (λe m=>R (.error e) m) s:=by
 have r:S≠z:=jV^n z^by simp
 let⟨u,hz⟩:=hz
 have key:∀(h:Heap)(d i:Nat),(∀b o,b≠S->s.heap.get? b\o->h.get? b\o)->
   h.get? S\{cls:= .type "list",data:= .seq #[] d}->gl (d5 prog w) A (.builtin "list.extend.loop" #[[.ref S, .ref z,g],[]]) R {s with heap:=h,toks:=i}:=by
  intro h d i x H;exact Tq (s:=s) (h₁:=s.heap) C D n F g G _ 0 h i d #[] [] rfl (d9 _) (st.keep x n) (λb o I _ _ _ _ e=>x b o I e) H rfl rfl #[List.Pairwise.nil,(λ_ J=>nomatch J),(λj a L=>by simp at L)]
 unfold Builtin.List.listExtendWith;refine a_^aft (T:="zip") t ?_;have M:Builtin.List.listSameRef (.ref S)^.ref z=false:=by simp[Builtin.List.listSameRef,r]
 have N:(Value.type "zip"==Value.type "list")=false:=∅
 have O:(Value.type "zip"==Value.type "tuple")=false:=∅
 simp only[M,N,O,Bool.or_false,fG,PP];refine a_^wpAny_pyIter_zip hz ?_;refine a_^KB^To t ?_;refine wpAny_ite_split (λ_=>?_)^λ_=>ir #[adv ac1 _,key _ c₀ _ (λb o _ e=>e) p];refine a_^ada ?_;refine a_ ?_;show d7 _ _ (updateSeq S (·.push .none)>>=λ_=>updateSeq S (·.pop)) _ _ _;refine a_^aej p rfl ?_;have y:=P3 (Obj.mapSeq (·.push Value.none)) p rfl;refine aej (hz:=by seq_fits) y rfl ?_
 have P:=P3 (Obj.mapSeq (·.pop)) y rfl;refine ir #[adv ac1 _,key _ _ _ (λb o B e=>?_) P];exact(Pi _ _^Ne.symm B).trans^(Pi _ _^Ne.symm B).trans e
def Tj(t:A.handled=none)(D:kZ z TI TO i1 i2 l1 l2)(st:∀S,ZS z TI TO i1 i2 l1 l2 S xs ys 0 s.heap)(u:IsZip s.heap z TI TO .none)(h:∀b∈ [z,TI,TO,i1,i2,l1,l2],b<s.heap.objs.size)(v:min xs.size ys.size<=sizeLine)
  (q:∀d j acc c f,(∀b o,b≠z->b≠TO->b≠i1->b≠i2->s.heap.get? b\o->d.get? b\o)->d.get? s.heap.objs.size\{cls:= .type "list",dict:=none,data:= .seq acc c,slots:= #[]}->f.length=min xs.size ys.size->ZG xs ys s.heap.objs.size d f->
   acc.toList=f.map Value.ref->Q (.ref s.heap.objs.size) {s with heap:=d,toks:=j}):
  d7 (d5 prog w) A (call (.type "list") [.ref z]) Q E s:=by
 refine callType_codes (Q₁:=λobj a=>obj= .ref s.heap.objs.size/\a={s with heap:=s.heap.push {cls:= .type "list",data:= .seq #[]}}) PySem.F.called_list (PySem.F.typeCall_list_1 _) PySem.F.entry_list_init
  (code_list_new _ #[rfl,rfl]) λobj a g=>?_
 obtain⟨rfl,rfl⟩:=g;generalize l:s.heap.objs.size=S at h q ⊢;have i:(s.heap.push {cls:= .type "list",data:= .seq #[]}).get? S\{cls:= .type "list",data:= .seq #[]}:=by rw[<-l];exact GM _ rfl
 have m:∀b o,s.heap.get? b\o->(s.heap.push {cls:= .type "list",data:= .seq #[]}).get? b\o:=λb o e=>AC _ e;exists #[_,i,rfl],PySem.F.args_list_init_2 _ _;show d7 _ A.in1.in1 (do let n <-Builtin.List.listItems^.ref S;Builtin.List.listUpdate (.ref S)^λ_=> #[];letGo n.toList.reverse;Builtin.List.listExtendWith (.ref S) (.ref z) .none) _ _ _
 refine a_ ?_;unfold Builtin.List.listItems;refine a_^adG i rfl^ir ?_;show d7 _ _ (updateSeq S (λ_=> #[])>>=λ_=>letGo (#[]:Array b_).toList.reverse>>=λ_=>Builtin.List.listExtendWith (.ref S) (.ref z) .none) _ _ _;refine a_^aej i rfl ?_;have y:=P3 (Obj.mapSeq^λ_=>(#[]:Array b_)) i rfl
 have p:∀b o,b≠S->s.heap.get? b\o->((s.heap.push {cls:= .type "list",data:= .seq #[]}).update S^Obj.mapSeq^λ_=>(#[]:Array b_)).get? b\o:=
  λb o B e=>(Pi _ _^Ne.symm B).trans^m b o e
 refine a_^wpAny_letGo ?_;have r:=p z _ (bL^h z^by simp) u
 refine LL (A:=A.in1) (c₀:=0) t D h ((st S).keep p h) #[_,r,rfl] v .none #[_,r] y^λd j acc c f C G H I J=>?_;exact#[rfl,q d j acc c f (λb o L M N O e=>C b o (λx=>km S^by have:=Da e;rw[l,x] at this;exact this) L M N O^p b o (λx=>km S^by have:=Da e;rw[l,x] at this;exact this) e) G H I J]
end
end PySem
namespace L2
open PySem PySem.Spec PyProof.Rows
noncomputable def zH(H:Hp)(q:Addr)(a:List Addr)(xs c:List V):Hp:=λb=>if b=q then some^.lst^a.map V.ref else if b∈a then some^.tup [xs.getD (a.idxOf b) .aQ,c.getD (a.idxOf b) .aQ] else H b
section
variable {X:Cx} {Z:DC} {G H H':Hp} {q:Addr} {as:List Addr} {xs ys:List V} {pins:List (Addr×Obj)} {σ:St} {s:Shared} {h':Heap}
def zN(c:H q=none)(d:∀a∈as,H a=none)(e:H b\o):zH H q as xs ys b\o:=by
 unfold zH;rw[tz (λz=>by rw[z,c] at e;cases e),tz (λz=>by rw[d b z] at e;cases e)];exact e
def aad{a:Addr}{j:Nat}{x y:V}(c:as.Nodup)(d:q∉as)(e:as[j]?\a)(f:xs[j]?\x)(g:ys[j]?\y):zH H q as xs ys a\(.tup [x,y]):=by
 let⟨h,rfl⟩:=cz.mp e;have b:as[j]∈as:=nK h;unfold zH;rw[tz^λz:as[j]=q=>d^by rw[<-z];exact b,mo b,c.idxOf_getElem,fu,f,fu,g];rfl
theorem Inv.abq{t':Nat}(I:Inv X pins σ H s)(k:∀b u,s.heap.get? b\u->h'.get? b\u)(a:∀b o,H b\o->H' b\o)
  (d:∀b o,H b=none->H' b\o->s.heap.objs.size<=b/\cp X.prog X.w H' h' b o):Inv X pins σ H' {s with heap:=h',toks:=t'}:=by
 refine I.un #[λb o e _ _ _=>k b o e,λb o e _ _ _=>#[o.slots,k b o e],λb o e n _=>?_,λb o e _=>#[o,k b o e],λb f e=>a b _ e,λb o u e=>a b _ e,λb g e=>#[#[],by rw[a b _ e];simp]] λb o e=>?_
 .cases z:H' b with
  |none=>rfl
  |some u=>exact absurd (d b u n z).1^Nat.not_le.mpr^Da e
 .cases z:H b with
  |none=>exact(d b o z e).2
  |some u=>
   rw[a b u z] at e;cases Do e;exact(I.hok b o z).pz (λc v _ q=>k c v q) (λc q=>a c _ q) λc f q=>a c _ q
def LJ(n a b:Nat)(c:a<n)(d:b<n):ZipApart (n+4) (n+2) (n+3) n (n+1) a b:=
 #[show n+2≠n+4 by lia,show n+3≠n+4 by lia,show n≠n+4 by lia,show n+1≠n+4 by lia,show n+2≠n+3 by lia,show n+2≠n by lia,show n+2≠n+1 by lia,show n+3≠n by lia,show n+3≠n+1 by lia,show n≠n+1 by lia,
  show a≠n+4 by lia,show a≠n+3 by lia,show a≠n by lia,show a≠n+1 by lia,show b≠n+4 by lia,show b≠n+3 by lia,show b≠n by lia,show b≠n+1 by lia]
theorem DvAll.of_get:∀{a:List V}{b:List D},a.length=b.length->(∀(k:Nat) x d,a[k]?\x->b[k]?\d->Dv Z G x d)->DvAll Z G a b
 | [],[],_,_=> .nil
 | [],_::_,h,_=>by simp at h
 |_::_,[],h,_=>by simp at h
 |x::a,u::f,h,r=> .cons (r 0 x u rfl rfl) (DvAll.of_get (~~~h) λk y w c e=>r (k+1) y w (~~~c)^~~~e)
def OQ(K:ad)(h:TA):TE:=λi H Q=>h i H λj b=>∃f g d e,j= [.ref f, .ref g]/\aJ K b f d/\aJ K b g e/\
 ∀q c,c.length=min d.length e.length->c.Nodup->q∉c->b q=none->(∀a∈c,b a=none)->Q (.ref q)^zH b q c d e
theorem Ii(hc:X.calm=true)(YF:Gl X "list")(J2:X.mg "list"=none)(YG:Gl X "zip")(J3:X.mg "zip"=none)(R:PA X [a,b] ta)
  (hs:d4 [.Call (.Name "zip" l) [a,b] [] M] X.env=(false,fC (.Call (.Name "zip" l) [a,b] [] M) X.env)::d4 [] X.env<|>zn) (bV:(f8 m^d4 [] X.env).any (·.1)=false<|>zn)
  (jZ:d4 [a,b] X.env= [(false,fC a X.env),(false,fC b X.env)]<|>zn) (Uz:d4 [b] X.env= [(false,fC b X.env)]<|>zn):
  PE X (.Call (.Name "list" p) [.Call (.Name "zip" l) [a,b] [] M] [] m)^OQ X.K ta:=by
 intro t s σ H Q I h;refine UV^kA I YF J2 pT ?_;refine Wp ?_ hs bV;rw[hs];show d7 _ _ (spliced ((false,fC _ X.env)::f8 m^d4 [] X.env)) _ _ s;refine Calls.spliced_cons ?_;refine Call_^kA I YG J3 (show f_ "zip"\(.type "zip") by decide+kernel)^Wp (thn (R M t s σ H _ I h) λus f #[vs,T,y,r1,q1]=>?_) (by rw[jZ,Uz])^by rw[Uz];rfl
 rfl';let⟨N,O,Y,G,e,wY,qd,q⟩:=q1;subst e;let⟨u1,u2,rfl,Z,ru2⟩:=r1.two;subst Z;subst ru2;let⟨acG,A,p1,NX⟩:=y.list wY;let⟨uT,B,l,Q0⟩:=y.list qd;have e1:=A.length;have e2:=B.length;have AN:N<f.heap.objs.size:=by let⟨o,ho,U⟩:=p1.isList;exact Da ho
 have Ks:O<f.heap.objs.size:=by let⟨o,ho,U⟩:=l.isList;exact Da ho
 ac_rfl;refine call_zip_2 p1.isList l.isList λg hz Qt Qu h1 h2 eZ kk=>?_;refine Calls.spliced_nil ?_;have D:=LJ f.heap.objs.size N O AN Ks;have m1:=p1.isList.at λo e=>kk N o e;have m2:=l.isList.at λo e=>kk O o e;refine Tj (s:={f with heap:=g}) (I.ok.hd hc) D (λS=>#[Qt,h1,h2,m1,m2, .inl #[hz,_,_,Qu]]) hz (λb d=>?_) (by simp only[cn];lia) λh3 tk acc c i hk hS hl C yx=>?_
 .show b<g.objs.size
  rw[eZ];generalize f.heap.objs.size=n at d AN Ks;simp only[dS,List.not_mem_nil,or_false] at d;show b<n+5
  rcases d with z|z|z|z|z|z|z<;>rw[z]
  .show n+4<n+5;lia
  .show n+2<n+5;lia
  .show n+3<n+5;lia
  .show n<n+5;lia
  .show n+1<n+5;lia
  .show N<n+5;exact dj AN ()
  .show O<n+5;exact dj Ks ()
 .have zj:∀b o,f.heap.get? b\o->h3.get? b\o:=λb o e=>by
   have d:=Da e;refine hk b o ?_ ?_ ?_ ?_^kk b o e<;>(intro z;rw[z] at d;revert d;generalize f.heap.objs.size=n;intro d;exact absurd d^by show ¬(_<n);lia)
  have P:f.heap.objs.size<=g.objs.size:=by rw[eZ];exact Nat.le_add_right _ _
  have mD:h3.get? g.objs.size\{cls:= .type "list",dict:=none,data:= .seq acc c,slots:= #[]}:=hS;have pK:i.Nodup:=C.rise.imp λh=>bL h;have hqa:g.objs.size∉i:=λr=>km _^C.above _ r;have E:T g.objs.size=none:=y.hok.fresh P;have F:∀a∈i,T a=none:=λa R=>y.hok.fresh^jj P^qT^C.above a R;have Cr:i.length=min Y.length G.length:=by rw[hl,cn,cn];lia
  refine#[.ref g.objs.size,zH T g.objs.size i Y G,Inv.abq (s:=f) (t':=tk) y zj (λb o e=>zN E F e)^λb o n e=>?_,rfl,q _ i Cr pK hqa E F];unfold zH at e
  by_cases d:b=g.objs.size
  .rw[mo d] at e
   obtain rfl:=Do e;subst d;refine#[P,by rw[aI,Cr];lia,acc.toList,c,?_,by simpa using mD]
   rw[yx]
   exact Vals.of_get (by simp) λk x w J hw=>by
    rw[fm] at J hw;cases z:i[k]? with
    |none=>rw[z] at J;cases J
    |some a=>rw[z] at J hw;cases J;cases hw;rfl
  .rw[tz d] at e
   by_cases r:b∈i
   .obtain⟨j,hj⟩:=Gq.mp r
    let⟨hjl,hjb⟩:=cz.mp hj;let⟨u,v,e3,e4,e5⟩:=C.pairs j b hj;have Hw:j<Y.length:=()
    have L:j<G.length:=()
    let⟨u',Ka,ru⟩:=A.get^eE Hw;let⟨v',Kc,rv⟩:=B.get^eE L;have eu:u'=u:=by rw[ad4,Ka] at e3;exact Do e3
    have ev:v'=v:=by rw[ad4,Kc] at e4;exact Do e4
    subst eu ev;rw[mo r] at e;have ez:i.idxOf b=j:=by rw[<-hjb];exact pK.idxOf_getElem j hjl
    rw[ez,fu,fu,eE Hw,eE L] at e;cases Do e;exact#[jj P^qT^C.above _ r,by show 2<=sizeLine;decide,[u',v'], .cons ru^.cons rv .nil,yB e5]
   .rw[tz r,n] at e;cases e
def Wd{G H:Hp}(s:aC G H)(c:H q=none)(d:∀a∈as,H a=none):Ext G H (zH G q as xs ys)^zH H q as xs ys:=by
 refine#[λb o e=>zN (s.free c) (λa m=>s.free^d a m) e,λb o e=>?_,λb o e=>zN c d e,λb f g=>?_]
 .unfold zH at e ⊢
  by_cases h:b=q
  .rw[mo h] at e ⊢;exact e
  .rw[tz h] at e ⊢
   by_cases i:b∈as
   .rw[mo i] at e ⊢;exact e
   .rw[tz i] at e ⊢;exact s b o e
 .unfold zH
  rw[tz^λz=>f^by rw[z];exact c,tz^λz=>f^d b z];exact g
def Nh(t:ij):aY:=λa P=>t a λb=>match b with
 | [.lst l, .lst m]=>P^.lst ((l.zip m).map λp=> .tup [p.1,p.2])
 |_=>False
theorem GX(J:X.calm=true)(L:Gl X "list")(M:X.mg "list"=none)(N:Gl X "zip")(O:X.mg "zip"=none)(R:DA Z X [a,b] t)
  (S:d4 [.Call (.Name "zip" r) [a,b] [] u] X.env=(false,fC (.Call (.Name "zip" r) [a,b] [] u) X.env)::d4 [] X.env<|>zn) (T:(f8 g^d4 [] X.env).any (·.1)=false<|>zn)
  (Y:d4 [a,b] X.env= [(false,fC a X.env),(false,fC b X.env)]<|>zn) (Uz:d4 [b] X.env= [(false,fC b X.env)]<|>zn):
  DE Z X (.Call (.Name "list" p) [.Call (.Name "zip" r) [a,b] [] u] [] g)^Nh t:=by
 refine(Ii J L M N O R S T Y Uz).imp ?_;rintro σ H Q ⟨G,ρ,P,s,en,h,q⟩;refine#[G,ρ,_,s,en,h,λds c vs j H1 f dv=>?_]
 have Ht:∃l m,ds= [.lst l, .lst m]/\P^.lst ((l.zip m).map λp=> .tup [p.1,p.2]):=by
  split at c
  .exact#[_,_,rfl,c]
  .exact c.elim
 rfl';let⟨l,m,rfl,c⟩:=Ht;let⟨v1,v2,rfl,d1,d2⟩:=dv.xB;let⟨a1,xs,rfl,k1,B⟩:=d1.k8;let⟨a2,C,rfl,k2,E⟩:=d2.k8;ac_rfl;refine#[a1,a2,xs,C,rfl,aJ.of^f.sub _ _ k1,aJ.of^f.sub _ _ k2,λp n hl hn w F has=>?_];have gp:j p=none:=f.sub.free F;have ga:∀a∈n,j a=none:=λa m=>f.sub.free^has a m;have I:aC j^zH j p n xs C:=λb o e=>zN gp ga e;have g1:=B.length;have g2:=E.length;refine q _ c _ _ _ (f.trans^Wd f.sub F has)^.lst (xs:=n.map V.ref) (by unfold zH;rw[mo rfl]) ?_
 refine DvAll.of_get (by rw[aI,aI,List.length_zip,hl,g1,g2]) λk v d i c=>?_
 rw[fm] at i c;cases z:n[k]? with
 |none=>rw[z] at i;cases i
 |some b=>
  rw[z] at i;obtain rfl:=Do i;cases A:(l.zip m)[k]? with
  |none=>rw[A] at c;cases c
  |some pr=>
   rw[A] at c;obtain rfl:=Do c;let⟨c1,c2⟩:=aeP.mp A;let⟨x,hx,dx⟩:=B.get c1;let⟨y,hy,dy⟩:=E.get c2;exact .tup (aad hn w z hx hy)^.cons (dx.mono I)^.cons (dy.mono I) .nil
end
theorem mU.at{H:Hp}{i:List (Int×Addr)}{b:List (Int×Int)}{xs:List (List Int×Addr×b_)}(d:mU H i b c xs):∀{j:Nat}{p:Int×Int}{fv:FV},b.Nodup->b[j]?\p->c[j]?\fv->∃a u,atKey xs [p.1,p.2]\(a,u)/\M4 fv u:=by
 induction d with
 |nil=>intro j p fv _ h;cases h
 | @cons a q v u i b c xs x m t n=>
  intro j p fv o g k;have l:=lK.mp o;cases j with
  |zero=>
   cases g;cases k;exact#[a,u,by simp[atKey],m]
  |succ j=>
   let⟨r,s,e,f⟩:=n l.2 g k;refine#[r,s,?_,f]
   have w:¬([q.1,q.2]= [p.1,p.2]):=λz=>l.1 (by
    simp at z;rw[show q=p from acZ z.1 z.2];exact cR g)
   unfold atKey at e ⊢;rw[List.find?_cons_of_neg^~~~w];exact e
section
variable {X:Cx} {Z:DC} {a b:Expr} {ta tb:aY} {pos:Pos}
def Qi(h:M4 f u):RelV (vF f) u:=by
 cases f with
 |int i=>exact h
 |bl b=>exact h
def Xa:R2:=λx y H Q=>∃(c a:Addr)(e:List (Int×Addr))(d:List (Int×Int))(f:List FV)(p:Int×Int)(j:Nat)(fv:FV),x= .ref a/\y= .ref c/\H c\(.tup [.int p.1, .int p.2])/\H a\(.ext^bZ a e f)/\gQ H e d/\d.Nodup/\d[j]?\p/\f[j]?\fv/\Q (vF fv) H
def UH(O:X.A.units+64<cLine):zR X Xa:=by
 intro e f d s l H x y v u Q I m n h o;rfl';let⟨c,a,R,S,T,p,j,fv,rfl,rfl,B,C,E,g,F,G,q⟩:=h;subst m;subst n;let⟨z,Y,J,i⟩:=I.T8 C E g;let⟨b,u,L,M⟩:=J.at g F G;ac_rfl
 exact adK (x:=u) i.typeIs slot_dict_getitem.lookup
  (wpAny_getItem_heap (knd:=hX^eg X.prog X.w) (k:= [p.1,p.2]) (p:=(b,u)) (Q:=λr N=>r=u/\EP X d l Q r N) (tupleKind_room_in1 ()) (I.sL B) i L #[rfl,vF fv,H,I.tok _,Qi M,q]) o
def Pu:jm:=λa b P=>∃(p:Int×Int)(c:List (Int×Int))(d:List FV)(j:Nat)(fv:FV),a= .x^.fo c d/\b=KU p/\c[j]?\p/\d[j]?\fv/\P^Qh fv
def Dv.fv(f:FV):Dv Z G (vF f)^Qh f:=by
 cases f with
 |int i=>exact .int i
 |bl b=>exact .bl b
def Q7(h:cx Z Pu x y H Q):Xa x y H Q:=by
 revert h
 rintro⟨G,a,b,P,s,d,e,⟨p,f,g,j,fv,rfl,rfl,i,k,h⟩,q⟩;let⟨c,rfl,l⟩:=e.DU;cases d with
 |x m ok=>
  rfl';let⟨o,r,rfl,t⟩:=ok;ac_rfl;exact#[c,_,r,f,g,p,j,fv,rfl,rfl,s _ _ l,s _ _ m,t.mono s,o,i,k,q _ h _ G H (.refl s)^.fv fv]
def qX(g:X.A.units+64<cLine)(i:DE Z X a ta)(j:DE Z X b tb)(f:pQ b<|>wv):DE Z X (.Subscript a b pos)^Ni Pu ta tb:=by
 have k:zR X^cx Z Pu:=λc d e s l H x y v u Q I m n h f=>UH g c d e s l H x y v u Q I m n (Q7 h) f;exact(cV k i j f).imp AJ
end
def StK(D:Addr)(v e:V)(H:Hp)(N:Hp->Prop):Prop:=∃c b a d p fv,v= .ref c/\e=vF fv/\H D\(.ext^bZ D b d)/\H c\(.tup [.int p.1, .int p.2])/\gQ H b a/\a.Nodup/\p∉a/\a.length<=300/\N^upd H D^.ext^bZ D (b++ [(bP p,c)]) (d++ [fv])
theorem SA(hu:X.A.units+64<cLine)(j:Inv X d n H s)(t:H c\(.tup [.int p.1, .int p.2]))(v:H a\(.ext^bZ a f i))(G:gQ H f g)(I:g.Nodup)(J:p∉g)(hz:g.length<=300)(L:RelV (vF fv) r)
  (h:∀y h',Inv X d n (upd H a^.ext^bZ a (f++ [(bP p,c)]) (i++ [fv])) {s with heap:=h',toks:=y}->Q ⟨⟩ {s with heap:=h',toks:=y}):d7 (d5 X.prog X.w) X.A (dictSet a (.ref c) r) Q E s:=by
 let⟨z,l,m,M⟩:=j.T8 v G I;refine wpAny_dictSet_heap (knd:=hX^eg X.prog X.w) (k:= [p.1,p.2]) (by show X.A.units<cLine;lia) (j.sL t) M (λh' B N=>?_)^small^by rw[m.len];lia
 have O:atKey l [p.1,p.2]=none:=by
  cases e:atKey l [p.1,p.2] with
  |none=>rfl
  |some q=>exact absurd (rF.mp^by rw[<-m.keys];exact lW.mp^by rw[e];rfl) J
 rw[storedH_new O] at B;rfl';have R:mU H (f++ [(bP p,c)]) (g++ [p]) (i++ [fv]) (l++ [([p.1,p.2],c,r)]):=m.snoc t^Md L;let⟨C,S,T,F,Y,Z,wV,D,K⟩:=B;ac_rfl;exact h _ _^j.write (h':=h') (t':=s.toks+(hX^eg X.prog X.w).draws [p.1,p.2]) (x:=a) (e:=a) (o:= .ext^bZ a (f++ [(bP p,c)]) (i++ [fv])) (by rw[v];trivial) (.inl rfl) (λb u hb e=>N.extBut b u hb e) #[C,F]^bZ.ok #[z,C,S,T,F,Y,Z,by rw[wV];exact P8 R]
section
variable {X XC:Cx} {kx vx i0 t0 i1 t1:e_} {f0 f1:List e_} {scope:Scope} {pos:ip} {wi cD:TI} {g g1:TG} {tt bS:TT} {tk tv:TE} {src:List^Option Nat} {NC:List ee}
theorem OS:kQ (.DictComp kx vx [#[t0,i0,f0,0],#[t1,i1,f1,0]] scope pos) t0 i0 t1 i1 f0 f1 (λD env=>do
  let b <-fC kx env
  let d <-hB [b] (fC vx env)
  im {kx.pos with endLine:=vx.pos.endLine,endCol:=vx.pos.endCol}
  hB [b,d]^dictSet D b d) where
 u:=λ_ _ _ _ _=>rfl
 z0:=λ_ _ _ _ _=>rfl
 z1:=λ_ _ _ _ _=>rfl
 b0:=λa c=>codeAny_compStart_dict a (c _ _ a)
 b1:=λa c=>by
  refine codeAny_of_tree ?_;refine wpAny_notedAt ?_;unfold compStart;refine a_^wpAny_askSetting^wpAny_ite ?_
  split
  .first
    |exact a_^f5^f5 #[rfl,a]
    |exact f5 #[rfl,a]
  .refine a_^wpAny_rule ?_
   exact a_^la^a_^c _ _^f5 #[rfl,a]
def acD(b c:TE):M9:=λD a H N=>b a H λv d=>c a d λe f=>StK D v e f N
def Oh(l:X.A.units+64<cLine)(m:PE X kx i)(n:PE X vx tv):Pa X (λD env=>do
  let b <-fC kx env
  let j <-hB [b] (fC vx env)
  im {kx.pos with endLine:=vx.pos.endLine,endCol:=vx.pos.endCol}
  hB [b,j]^dictSet D b j)^acD i tv:=λD a s k H N I h=>
 a_ (thn (m a s k H _ I h) λy o d=>by
  rfl';obtain⟨v,r,t,u,w⟩:=d;ac_rfl;refine a_^KB (thn (n a o k r _ t w) λQ R d=>?_);rfl';obtain⟨S,T,x,f,c,Y,Z,g,p,fv,B,C,E,F,G,J,L,M,O⟩:=d;ac_rfl;subst B C;subst u;exact a_^W1^KB (SA l x F E G J L M f λi h' P=>#[_,P,O]))
def SX(g:TG)(a:TT)(b:TI)(c:TG)(d:TT)(e f:TE)(D:Addr)(J:It)(Q:VK)(h:St)(H:Hp):Prop:=Qj g a b c d (acD e f) D J Q h H
def Xe(c:TI)(g:TG)(d:TT)(e:TI)(f:TG)(h:TT)(i j:TE)(src:List^Option Nat):TE:=λa H Q=>c a H λJ b=>∀D,b D=none->SX g d e f h i j D J Q (lD src a)^upd b D^.ext^bZ D [] []
def Cd{f:List (Addr×Obj)}{l:St}{h:c_}{i:Hp}{t:Addr}{j:List Addr}{u:Nat->Heap->Prop}{J:It}{v:b_->Addr->k_->c_->Prop}{E:b_->c_->Prop}{Q:VK}
  (F:X.A.units+64<cLine) (G:X.calm=true) (c:bD X scope) (I:dE scope X.N src NC) (k:Inv X f l i h) (T:Turn X.prog X.w X.K t0 J j t u) (L:u 0 h.heap) (M:∀b∈j,fH X f i b)
  (m:∀d s H,PG (bG X scope NC d s H) t0 g) (O:∀d s H,kP (bG X scope NC d s H) f0 tt) (P:∀d s H,PI (bG X scope NC d s H) t1 i1 cD) (R:∀d s H,PG (bG X scope NC d s H) t1 g1)
  (S:∀d s H,kP (bG X scope NC d s H) f1 bS) (Y:∀d s H,PE (bG X scope NC d s H) kx tk) (Z:∀d s H,PE (bG X scope NC d s H) vx tv) (r9:∀env x,ey i1 env x=pure x)
  (hW:∀D,i D=none->SX g tt cD g1 bS tk tv D J Q (lD src l)^upd i D^.ext^bZ D [] [])
  (JT:∀D n p ax y B,Inv X f l p n->(∀b∈j,fH X f p b)->Inv (bG X scope NC j n p) [] ax y B->Q (.ref D) y->v (.ref D) n.heap.objs.size (.ok .next) B):
  d7 (d5 X.prog X.w) X.A newDict (λacc wa=>d7 (d5 X.prog X.w) X.A (jo scope X.env.globals (jG X.env scope.names []) [] X.env.qual none .none^some X.env) (λC wb=>
   gl (d5 X.prog X.w) X.A (.compStart (.DictComp kx vx [#[t0,i0,f0,0],#[t1,i1,f1,0]] scope pos) 0 (.ref t) acc {C with scope:=j_ scope X.env}) (v acc C.locals) wb) E wa) E h:=by
 have r:(h.heap.objs.size==i_)=false:=by
  have m:eh<h.heap.objs.size:=(k.mod.glob.keeps k.bk).lt;have hs:i_<h.heap.objs.size:=Nat.lt_trans ∅ m
  exact acQ.mpr^Ne.symm^bL hs
 refine BA (o0:=λD=> .ext^bZ D [] []) OS G c I k T L M m O P R S (λd s H=>Oh F (Y d s H)^Z d s H) r9 (λQ' E' q=>?_) hW JT;simp only[newDict,newObj];exact a_^wpAny_alloc^ir (q _ (k.laid (a:=h.heap.objs.size) (t':=h.toks) (λ_ _ q=>AC _ q) (bh _) (o:= .ext^bZ h.heap.objs.size [] [])^bZ.ok #[r,_, #[],0,GM _ rfl,#[rfl,rfl,rfl],rfl, .nil]) λb o e=>AC _ e)
def Vh(e:X.A.units+64<cLine)(f:X.calm=true)(c:bD X scope)(i:dE scope X.N src NC)(j:PI X t0 i0 wi)
  (k:∀a s H,PG (bG X scope NC a s H) t0 g) (l:∀a s H,kP (bG X scope NC a s H) f0 tt) (n:∀a s H,PI (bG X scope NC a s H) t1 i1 cD) (o:∀a s H,PG (bG X scope NC a s H) t1 g1)
  (p:∀a s H,kP (bG X scope NC a s H) f1 bS) (q:∀a s H,PE (bG X scope NC a s H) kx tk) (r:∀a s H,PE (bG X scope NC a s H) vx tv)
  (t:(∀x,ey i0 X.env x=pure x)<|>xx) (u:(∀env x,ey i1 env x=pure x)<|>wr):
  PE X (.DictComp kx vx [#[t0,i0,f0,0],#[t1,i1,f1,0]] scope pos)^Xe wi g tt cD g1 bS tk tv src:=by
 intro b s w H Q I h;rw[arm_eval_DictComp];refine ade (use:=none) rfl t (gH^c.cells I.ok) c.kind c.names (thn (j b s w H _ I h) λv Z y=>thn y λAB s2 B=>?_);rfl';let⟨it,fp,tn,J,H2,rfl,E,T,F,G,L⟩:=B;ac_rfl
 exact Cd e f c i E T F G k l n o p q r u L λD s3 H3 ax M s' O P d R=>by
  let⟨m,S,z⟩:=d.loc;exact#[m,S,λh' Y=>#[.ref D,M,comp_back O P d Y,rfl,R]]
end
section
variable {Z:DC} {X:Cx} {kx vx:e_} {tk tv:aY} {scope:Scope} {NC:List ee} {src:List^Option Nat} {wi:jW} {g:eO} {tt:eB} {pos:ip}
def lcWK(g:eO)(e:eB)(f h:aY):List D->DN->List (Int×Int)->List FV->(DN->List (Int×Int)->List FV->Prop)->Prop
 | [],i,a,d,N=>N i a d
 |x::j,i,a,d,N=>g x i λc=>e c λb=>if b=true then f c λk=>h c λl=>∃p fv,k=KU p/\l=Qh fv/\p∉a/\a.length<=300/\lcWK g e f h j c (a++ [p]) (d++ [fv]) N else lcWK g e f h j c a d N
def lcWK2(g:eO)(e:eB)(f:jW)(h:eO)(i:eB)(j k:aY):List D->DN->List (Int×Int)->List FV->(List (Int×Int)->List FV->Prop)->Prop
 | [],_,a,c,P=>P a c
 |x::l,m,a,c,P=>g x m λd=>e d λb=>if b=true then f d λn=>lcWK h i j k n d a c λo p q=>lcWK2 g e f h i j k l o p q P else lcWK2 g e f h i j k l d a c P
def Wr(b:jW)(g:eO)(c:eB)(d:jW)(e:eO)(f:eB)(h i:aY)(src:List^Option Nat):aY:=λa P=>b a λj=>lcWK2 g c d e f h i j (yO src a) [] [] λk l=>P^.x^.fo k l
def MY(Z:DC)(c d:Hp)(a:Addr)(h:DN)(e:List (Int×Int))(i:List FV)(j:St)(H:Hp):Prop:=
 ∃(G:Hp)(f:List (Int×Addr)),aC c G/\aC G H/\aC d H/\(∀b,d b≠none->c b=none->G b=none)/\G a=none/\H a\(.ext^bZ a f i)/\gQ G f e/\e.Nodup/\dZ Z G j h
def MY.done{s:St}(c:MY Z i f a r k h s j)(d:Ext G H i f)(t:f a=none):∃l,Ext G H l j/\Dv Z l (.ref a)^.x^.fo k h:=by
 rfl';let⟨v,m,w,y,A,off,n,B,C,E,J⟩:=c;ac_rfl;refine#[upd v a^.ext^bZ a m h,#[(d.gg.trans w).trans^ay n _,λb o e=>?_,d.hh.trans A,λb p F=>?_], .x ae #[E,m,rfl,C.mono^ay n _]]
 .by_cases z:b=a
  .subst z;rw[ae] at e;cases e;exact B
  .rw[af z] at e;exact y _ _ e
 .have q:=cO d.hh p
  rw[af^λz=>q^by rw[z];exact t]
  exact off b q^d.off b p F
def MY.begin(s:aC a c)(f:c d=none)(k:dZ Z a j i):MY Z a c d i [] [] j^upd c d^.ext^bZ d [] []:=
 #[a,[], .refl _,λb o e=>by rw[af^aq e^s.free f];exact s _ _ e,ay f _,λ_ _ h=>h,s.free f,ae, .nil,iN,k]
variable {t0 i0 t1 i1:Expr} {f0 f1:List Expr} {cD:jW} {g1:eO} {bS:eB}
def Rj:∀σ H Q,eL Z (Wr wi g tt cD g1 bS tk tv src) σ H Q->Xe (qi Z wi) (og Z g) (liftT Z tt) (qi Z cD) (og Z g1) (liftT Z bS) (eL Z tk) (eL Z tv) src σ H Q:=by
 intro σ H Q aN;rfl';let⟨G,ρ,P,s,en,h,q⟩:=aN;ac_rfl;refine#[G,ρ,_,s,en,h,λt hd J M B x1 it r hA=>?_];refine#[λi m dq N=>m=t.length-i/\i<=t.length/\∃C j l,MY Z M B r C j l dq N/\lcWK2 g tt cD g1 bS tk tv (t.drop i) C j l λj l=>P^.x^.fo j l,#[_,rfl,d9 _,_,[],[], .begin x1.sub hA^(en.mono x1.gg).src src,hd],?_];intro i m dq N jE;rfl';let⟨rfl,hi,C,j,l,c,hl⟩:=jE;ac_rfl
 by_cases bQ:i<t.length
 .have c0:=c
  rfl';let⟨G2,u,s1,s2,s3,off,gA,mB,Vn,nd,P5⟩:=c;let⟨go,f,yld⟩:=it G2 N s1 s2 i;ac_rfl;refine .inr #[go bQ,λax O=>∃aG X IW,MY Z M B r aG X IW ax O/\lcWK2 g tt cD g1 bS tk tv (t.drop (i+1)) aG X IW λj l=>P^.x^.fo j l,λax O n=>#[t.length-(i+1),(by omega),rfl,bQ,n],λx H3 y=>?_]
  rfl';let⟨G3,d,x3,EV,dv⟩:=yld x H3 bQ y;rw[kW EV] at hl;ac_rfl;refine#[G3,C,d,_,x3.sub,P5.mono x3.gg,dv,hl,λbw R eU pZ=>?_];refine#[G3,bw,_,x3.sub,pZ,R,λb w G5 H5 x5=>?_];have E:=x3.trans x5;have uZ:∀{G S:Hp},Ext G2 N G S->G r=none:=λx=>x.off r (by rw[mB];exact λz=>nomatch z) gA
  have yD:∀{G S:Hp},Ext G2 N G S->∀b,B b≠none->M b=none->G b=none:=λx b R h2=>x.off b (cO s3 R)^off b R h2;cases b with
  |false=>exact cL #[bw,j,l,#[G5,u,s1.trans E.gg,E.sub,s3.trans E.hh,yD E,uZ E,E.hh _ _ mB,Vn.mono E.gg,nd,pZ.mono x5.gg],by simpa using w]
  |true=>
   refine b9 #[G5,bw,_,x5.sub,pZ.mono x5.gg,(~~~w),λT YB J1 G6 H6 x6 HH=>?_]
   have x:=E.trans x6
   refine#[λk m qU F=>m=T.length-k/\k<=T.length/\∃(B2:DN)(Y:List (Int×Int))(OU:List FV),(∃(G:Hp)(u:List (Int×Addr)),aC G6 G/\aC G F/\aC B F/\(∀b,B b≠none->M b=none->G b=none)/\G r=none/\F r\(.ext^bZ r u OU)/\gQ G u Y/\Y.Nodup/\dZ Z G qU B2)/\
    lcWK g1 bS tk tv (T.drop k) B2 Y OU λC Rf Tb=>lcWK2 g tt cD g1 bS tk tv (t.drop (i+1)) C Rf Tb λj l=>P^.x^.fo j l,
    #[_,rfl,d9 _,bw,j,l,#[G6,u, .refl _,x.sub,s3.trans x.hh,yD x,uZ x,x.hh _ _ mB,Vn.mono x.gg,nd,(pZ.mono x5.gg).mono x6.gg],YB],?_]
   intro k m qU F jE;rfl';obtain⟨rfl,hk,B2,Y,OU,⟨G7,XZ,a1,a2,a3,a4,a5,a6,a7,U0,a8⟩,r8⟩:=jE;ac_rfl;have X4:aC M G6:=s1.trans x.gg
   by_cases Aq:k<T.length
   .obtain⟨X7,_,Th⟩:=HH G7 F a1 a2 k
    refine .inr #[X7 Aq,λax O=>∃(aG:DN)(X:List (Int×Int))(IW:List FV),(∃(G:Hp)(u:List (Int×Addr)),aC G6 G/\aC G O/\aC B O/\(∀b,B b≠none->M b=none->G b=none)/\G r=none/\O r\(.ext^bZ r u IW)/\gQ G u X/\X.Nodup/\dZ Z G ax aG)/\
     lcWK g1 bS tk tv (T.drop (k+1)) aG X IW λC Rf Tb=>lcWK2 g tt cD g1 bS tk tv (t.drop (i+1)) C Rf Tb λj l=>P^.x^.fo j l,λax O n=>#[T.length-(k+1),(by omega),rfl,Aq,n],λy H8 hy=>?_]
    rfl';let⟨G8,d8,x8,Yw,XT⟩:=Th y H8 Aq hy;rw[kW Yw] at r8;ac_rfl;refine#[G8,B2,d8,_,x8.sub,a8.mono x8.gg,XT,r8,λCO h9 σ9 Cg=>?_];refine#[G8,CO,_,x8.sub,Cg,h9,λb w O1 zd zB=>?_];have I:=x8.trans zB;have oA:∀{G S:Hp},Ext G7 F G S->G r=none:=λx=>x.off r (by rw[a6];exact λz=>nomatch z) a5
    have oB:∀{G S:Hp},Ext G7 F G S->∀b,B b≠none->M b=none->G b=none:=λx b R h2=>x.off b (cO a3 R)^a4 b R h2;cases b with
    |false=>exact cL #[CO,Y,OU,#[O1,XZ,a1.trans I.gg,I.sub,a3.trans I.hh,oB I,oA I,I.hh _ _ a6,a7.mono I.gg,U0,Cg.mono zB.gg],by simpa using w]
    |true=>
     refine b9 #[O1,CO,_,zB.sub,Cg.mono zB.gg,(by rw[mo rfl] at w;exact w),λkd Uv v Xk B4 LB P4=>?_]
     refine#[Xk,CO,_,LB.sub,(Cg.mono zB.gg).mono LB.gg,Uv,λvd hvd v2 G12 H12 Te aaN=>?_];rfl';let⟨p,fv,rfl,rfl,np,hz,hn⟩:=hvd;let⟨c,rfl,nh⟩:=P4.DU;obtain rfl:=aaN.W4;ac_rfl;have A:=(I.trans LB).trans Te;have Cn:=Te.gg _ _ nh;refine#[c,XZ,Y,OU,p,fv,rfl,rfl,A.hh _ _ a6,Te.sub _ _ Cn,(a7.mono A.gg).mono Te.sub,U0,np,hz,CO,_,_,#[G12,_,a1.trans A.gg,λb o e=>?_,λb o e=>?_,oB A,oA A,ae,(a7.mono A.gg).snoc Cn,?_,((Cg.mono zB.gg).mono LB.gg).mono Te.gg],hn]
     .rw[af^aq e^oA A];exact A.sub _ _ e
     .rw[af^aq e hA];exact(a3.trans A.hh) _ _ e
     .rw[hZ]
      refine#[U0,by simp,λa ha b w z=>np ?_]
      rw[fX] at w;rw[<-w,<-z];exact ha
   .have e:T.drop k= []:=qS ()
    rw[e] at r8;exact .inl #[(HH G7 F a1 a2 k).2.1 (),B2,Y,OU,#[G7,XZ,X4.trans a1,a2,a3,a4,a5,a6,a7,U0,a8],r8]
 .have e:t.drop i= []:=qS ()
  rfl';rw[e] at hl;let⟨G',x,dv⟩:=c.done x1 hA;let⟨G2,u,s1,s2,f⟩:=c;ac_rfl;exact .inl #[(it G2 N s1 s2 i).2.1 (),q _ hl _ G' N x dv]
def TX(b:X.A.units+64<cLine)(d:X.calm=true)(c:bD X scope)(e:dE scope X.N src NC)(f:DI Z X t0 i0 wi)
  (h:∀a s H,DG Z (bG X scope NC a s H) t0 g) (i:∀a s H,Eo Z (bG X scope NC a s H) f0 tt) (j:∀a s H,DI Z (bG X scope NC a s H) t1 i1 cD) (k:∀a s H,DG Z (bG X scope NC a s H) t1 g1)
  (l:∀a s H,Eo Z (bG X scope NC a s H) f1 bS) (m:∀a s H,DE Z (bG X scope NC a s H) kx tk) (n:∀a s H,DE Z (bG X scope NC a s H) vx tv)
  (o:(∀x,ey i0 X.env x=pure x)<|>xx) (p:(∀env x,ey i1 env x=pure x)<|>wr):
  DE Z X (.DictComp kx vx [#[t0,i0,f0,0],#[t1,i1,f1,0]] scope pos)^Wr wi g tt cD g1 bS tk tv src:=(Vh b d c e f h i j k l m n o p).imp Rj
end
end L2
namespace Wb
abbrev Dt:=Nat×Nat
def su(w:W)(a:List^List Dt):Prop:=∀r∈a,∃d,gX w d r/\aU w d
def su.dart(g:Good w)(h:su w a):∀e∈a.flatten,aU w e:=λe b=>by
 obtain⟨r,c,f⟩:=lJ.mp b;obtain⟨d,R,i⟩:=h r c;exact R.bo g i e f
end Wb
namespace L2
open PySem PySem.Spec PyProof.Rows
section
variable {Z:DC} {X:Cx} {md:List Nat} {rn:Nat} {k tg:Expr} {tk:aY} {g:eO} {pos:Pos}
def XB(d:List Nat)(j:Nat)(e:aY)(g:eO)(f:dJ):dJ:=λE a=>∃b,a[j]?\(some^.lst b)/\e (IU d true a) λh=>∃(n:Int)(c:List D),h= .int n/\gF b n\(.lst c)/\j8 g f E c a
def P0(j:Nat)(C:X.calm=true)(F:PassesOwn (d5 X.prog X.w) X.A X.env X.xe)(I:DE Z X k tk)(J:M0 Z X md tg g)(L:nM Z X md rn c l)(O:md.getD j 0=1<|>zn)
  (P:X.N[j]?\y<|>zn) (Q:ze X.env.scope y<|>xz) (R:(y==("__debug__":ee))=false<|>zm) (T:(y==("__classdict__":ee))=false<|>zm)
  (Y:pQ k<|>wv) (hs:(∀x,ey (.Subscript (.Name y py) k i) X.env x=pure x)<|>xx):DSt Z X md rn (.For tg (.Subscript (.Name y py) k i) c [] pos)^XB md j tk g l:=by
 refine(kC F C (lb^cV bN (pv j P Q R T) I Y) J L hs).imp ?_;intro Dn σ H aN;rfl';obtain⟨B,ρ,E,⟨G,fp,S⟩,⟨pI,p,h⟩,M⟩:=aN;ac_rfl;rfl';let⟨v0,q,o⟩:=S.at_ j _ p;ac_rfl;refine#[_,q,S.ev true h ?_];rintro _ ⟨n,ds,rfl,QA,hf⟩;refine#[rfl,λv G1 H1 e x1 P2=>?_];rfl';cases P2.ofInt;let⟨v1,r,s⟩:=e.at_ j _ p;rw[q] at r;cases r;rw[O] at s;let⟨a,xs,pX,mz,rfl,e1,ha,d,ol⟩:=s.one;cases e1;let⟨UD,d⟩:=ol.flat;let⟨u,hu,du⟩:=Ex UD QA;let⟨b,ys,rfl,t,f⟩:=du.k8;ac_rfl;exact#[a,xs,n, .ref b,rfl,rfl,aJ.of ha,hu,b,rfl,#[_,aJ.of^e.ex.sub _ _ t],Dh e (HI t f) hf M]
end
end L2
namespace wC
open PySem L2 Wb
variable {P:Program} {w:World} {mg:Str->Option Value} {base:Heap} {Z:DC} (T:Txt Z mg)
def Zn(a b:Int)(h:0<b):0<=a%b/\a%b<b:=#[aeg _ (),Gw _ h]
def Uh{P:D->Prop}(h:P^.bl (decide (i=j))):dC (.int j) a (λb=>Ab (.int i) b P):=mZ h
def Jw(l:List a)(k:Nat)(h:k<=l.length):cutD l (some (k:Int)) none=l.drop k:=by
 unfold cutD
 have b:HT.bX l.length 0^some (k:Int)=k:=by
  simp only[HT.bX]
  split<;>lia
 have c:HT.bX l.length l.length none=l.length:=rfl;rw[b,c];exact sU^by simp
def vK{w:W}(h:p<w.length):gF (w.map aD) (p:Int)\(aD^row w p):=iI^BB h
def HW{a:List Nat}(h:p<a.length):gF (a.map aB) (p:Int)\(aB^a.getD p 0):=iI^by rw[fm,fu,eE h];rfl
theorem Fo:∀(b:List Nat)(m:Nat),m<b.idxOf x->b[m]? ≠some x
 | [],m,h=>by simp at h
 |a::b,m,h=>by
  rw[List.idxOf_cons] at h
  by_cases e:(a==x)=true
  .rw[e] at h;simp at h
  .rw[sW.mpr e] at h
   cases m with
   |zero=>intro z;simp at z;exact e (by simp[z])
   |succ m=>rw[yV];exact Fo b m^~~~h
def Kh{a:List Nat}{x:Nat}{P:D->Prop}(h:x∈a)(q:P^aB^a.idxOf x):jx^aB x=true/\(a.map aB).all jx=true/\∃(j:Nat)(z:D),(a.map aB)[j]?\z/\l7 z^aB x=true/\(∀(m:Nat) z,m<j->(a.map aB)[m]?\z->l7 z^aB x=false)/\P^.int (j:Nat):=by
 have b:=BS.mpr h;have e:a[a.idxOf x]?\x:=by rw[eE b];exact KF some^BX b
 refine#[rfl,kJ _,a.idxOf x,aB x,by rw[fm,e];rfl,by simp[l7,aB],λm z c d=>?_,q]
 let⟨y,f,rfl⟩:=dg d
 have:y≠x:=by
  rintro rfl;exact Fo _ _ c f
 have:¬((y:Int)=(x:Int)):=()
 simpa [l7,aB] using this
def kz{a:List Nat}{x:Nat}(h:x∈a):(a.map aB)[a.idxOf x]?\(aB x)/\l7 (aB x)^aB x=true/\∀(m:Nat) z,m<a.idxOf x->(a.map aB)[m]?\z->l7 z^aB x=false:=by
 have:=Kh (P:=λd=>d=aB^a.idxOf x) h rfl
 let⟨o,p,j,z,i,k,l,n⟩:=this;have b:=BS.mpr h;have e:a[a.idxOf x]?\x:=by rw[eE b];exact KF some^BX b
 refine#[by rw[fm,e];rfl,by simp[l7,aB],λm z c f=>?_]
 let⟨y,g,rfl⟩:=dg f
 have:y≠x:=by
  rintro rfl;exact Fo _ _ c g
 have:¬((y:Int)=(x:Int)):=()
 simpa [l7,aB] using this
theorem lg{g:b->PyData}(h:∀a,(f a).py\(g a)):∀l:List b,gu^l.map f\(l.map g)
 | []=>rfl
 |a::l=>by
  have:=lg h l
  rw[dR,gu,h a,this];rfl
def FJ(r:List Nat):(aD r).py\(oV r):=by
 unfold aD oV;rw[D.py,lg (g:=nD)^λn=>rfl];rfl
def FK(w:W):(ba w).py\(sQ w):=by
 unfold ba sQ;rw[D.py,lg (g:=oV) FJ];rfl
def P7(a b:List Nat):PyData.eqv (oV a)^oV b=decide (a=b):=by
 by_cases e:a=b
 .rw[FS e];exact(wQ a b).mpr e
 .rw[FM e]
  apply sW.mpr;exact λz=>e^(wQ a b).mp z
def Pw{v w:List Nat}{P:D->Prop}(h:P^.bl (!decide (v=w))):EE (aD v) (aD w) P:=by
 refine#[_,_,FJ v,FJ w,by have:=xY v;lia,?_]
 rw[mo rfl,P7];exact h
variable {P:Program} {w:World} {mg:Str->Option Value} {base:Heap} {Z:DC} (T:Txt Z mg)
theorem Eb{P:D->Prop}(g:L.length<64)(h:∀M:List Nat,M.Perm L->M.Pairwise (·<=·)->P^aD M):LQ [aD L] P:=by
 refine#[L.map λ(n:Nat)=>(n:Int),by unfold aD;rw[dB];rfl,by rw[aI];exact g,λc f srt=>?_]
 have e:∀m∈c,((m.toNat:Nat):Int)=m:=λm d=>by
  let⟨n,k,rfl⟩:=cQ.mp^f.mem_iff.mp d;simp
 have i:(c.map Int.toNat).Perm L:=by
  have:=f.map Int.toNat
  rw[dB] at this;rw[show(Int.toNat∘λ(n:Nat)=>(n:Int))=id from by funext n;simp] at this
  simpa using this
 have:=h (c.map Int.toNat) i (by
  rw[kh];exact srt.imp λ {a b} j=>Int.toNat_le_toNat j)
 unfold aD at this;rw[dB] at this;rw[show c.map D.int=c.map (aB∘Int.toNat) from aen λm d=>by show D.int m=aB m.toNat;unfold aB;rw[e m d]]
 exact this
noncomputable def gU(k:Nat×Nat):PyData:= .tuple [nD k.1,nD k.2]
def K0(k:Nat×Nat):(pairD k).py\(gU k):=by
 unfold pairD;rw[D.py,gu,gu,gu];rfl
def q0(a b:Nat×Nat):PyData.eqv (gU a)^gU b=true↔a=b:=by
 unfold gU nD;simp[PyData.eqv,PyData.eqvAll]
 constructor
 .rintro⟨c,d⟩;exact acZ () ()
 .rintro rfl;exact#[rfl,rfl]
def EG(l:List (Nat×Nat)):(PyData.list^l.map gU).depth<=64:=by
 rw[PyData.depth]
 have:=fi (f:=gU) (k:=10) (λn=>by unfold gU nD;simp[PyData.depth,PyData.depthAll]) l
 lia
def xJ(l:List (Nat×Nat)):(D.lst^l.map pairD).py\(.list^l.map gU):=by rw[D.py,lg K0];rfl
def JH(l m:List (Nat×Nat)):PyData.eqv (.list^l.map gU)^.list^m.map gU=decide (l=m):=by
 rw[PyData.eqv]
 by_cases e:l=m
 .rw[FS e];exact(gq q0 l m).mpr e
 .rw[FM e]
  apply sW.mpr;exact λz=>e^(gq q0 l m).mp z
def Jx{l m:List (Nat×Nat)}{P:D->Prop}(h:P^.bl (decide (l=m))):Ab (.lst^l.map pairD) (.lst^m.map pairD) P:=by
 exists _,_,xJ l,xJ m,EG l;rw[tz dP,JH];exact h
variable {P:Program} {w:World} {mg:Str->Option Value} {base:Heap} {Z:DC} (T:Txt Z mg)
noncomputable def zz(d:Nat×Nat):Int×Int:=(d.1,d.2)
def Wg(h:zz a=zz b):a=b:=acZ (by have:=(adx h).1;lia)^by have:=(adx h).2;lia
def rS{d:Nat×Nat}{l:List (Nat×Nat)}:zz d∈l.map zz↔d∈l:=by
 rw[cQ];exact#[λ#[a,b,e]=>by rw[<-Wg e];exact b,λh=>#[d,h,rfl]]
def VS:eS:=λb P=>∃(w:W),b= [.gf w]/\Good w/\w.length<=14/\∀a:List (Nat×Nat),a.Perm^fg (row w) w.length->a.Pairwise lexLe->P^.lst^a.map pairD
theorem WN(I:DN->Prop)(J:n->DN->Prop)(l:n->D)(f:n->List t)(u:t->D)(p:n->t->Bool)(k:n->t->A)(d:A->D)(F:∀y G,J y G->I G):∀(j:List n)(i:DN)(acc:List A)(P:List D->Prop),
  (∀y∈j,∀i,I i->∀(Y:DN->List D->Prop),(∀a,J y a->Y a^(f y).map u)->g (l y) i λa=>x a^Y a)->
  (∀y∈j,∀b∈f y,∀i,J y i->∀(Y:DN->D->Prop)(v:DN->Prop),(∀a,J y a->p y b=true->Y a^d^k y b)->(∀a,J y a->p y b=false->v a)->q (u b) i λa=>r a λc=>if c=true then s a^Y a else v a)->
  I i->acc.length+(j.flatMap λy=>((f y).filter^p y).map^k y).length<=sizeLine->(∀y∈j,acc.length+(j.flatMap λy=>((f y).filter^p y).map^k y).length+(f y).length<=sizeLine)->P^(acc++j.flatMap λy=>((f y).filter^p y).map^k y).map d->sD g l0 x q r s (j.map l) i (acc.map d) P
 | [],i,acc,P,_,_,H,_,_,h=>by
  show P^acc.map d;simpa using h
 |y::j,i,acc,P,L,M,H,m,N,h=>by
  have B:=N y (c5 ..);rw[Em,eF] at m B;refine L y (c5 ..) i H (λa O=>lcW q r s O a (acc.map d) λo Q=>sD g l0 x q r s (j.map l) o Q P) λa C=>?_;refine jF (J y) u (p y) (λb=>d^k y b) (f y) a (acc.map d) _ (λb R o E Y v S X=>?_) C (by rw[aI];lia) λo E=>?_
  .exact M y (c5 ..) b R o E Y v S X
  .have e:acc.map d++((f y).filter^p y).map (λb=>d^k y b)=(acc++((f y).filter^p y).map^k y).map d:=by rw[dk,dB];rfl
   rw[e];refine WN I J l f u p k d F j o (acc++((f y).filter^p y).map^k y) P (λz m=>L z^dY _ m) (λz m=>M z^dY _ m) (F y o E) (by rw[eF];lia) (λz m=>?_) ?_
   .have:=N z^dY _ m
    rw[Em,eF] at this;rw[eF];lia
   .rw[Em] at h
    rw[kj];exact h
def iV:FnOk P w Z.K mg base fJ 1 T.va.f T.va.fd ["self"]^aS Z VS:=by
 have M:=vQ.nd;refine bg T.va.F vQ [0] ∅ (λu R h=>by let⟨z,rfl,V⟩:=h;rfl)^λN A outer s H E u R v h=>?_
 have O:=v.units;refine#[_,(au^aO^aW CU rfl T.B.sorted kS^aa (TY (NC:= ["p","row","q"]) (src:= [none,none,none]) rfl (pU^ar mj) trivial (eV rfl T.B.enumerate^aa (uE T.W^U 0) ah) (λ_ _ _=>(l5 2 rfl^cC (bp 0 (show(["p","row","q"]:List ee).Nodup from by decide+kernel))^cC (bp 1 (show(["p","row","q"]:List ee).Nodup from by decide+kernel)) jH)) (λ_ _ _=>eW) (λ_ _ _=>(bE^U 1)) (λ_ _ _=>(bp 2 (show(["p","row","q"]:List ee).Nodup from by decide+kernel))) (λ_ _ _=>(m8^bA AX (U 0) (U 2)^aX _))^λ_ _ _=>(bb^aa (U 0)^aa (U 2) ah)) ah),?_]
 let⟨a,rfl,g,h14,q⟩:=h
 have x:dF^a.map aD=(ak a.length).map λ(j:Nat)=>D.tup [.int (j:Int),aD^row a j]:=by
  refine yX λj=>?_;rw[fm]
  by_cases lt:j<a.length
  .rw[BW lt]
   cases e:(dF^a.map aD)[j]? with
   |none=>
    have:=aeQ.mp e
    rw[fP,aI] at this;lia
   |some d=>rw[(yQ e).2];rfl
  .rw[gP^by rw[fP,aI];lia,gP^by rw[pF];lia];rfl
 have k:((ak a.length).flatMap λp=>((row a p).filter λq=>decide (p<q)).map λq=>(p,q))=fg (row a) a.length:=rfl
 have C:∀n,n<=a.length->(fg (row a) n).length<=n*14:=λn=>by
  induction n with
  |zero=>intro _;exact bh _
  |succ n G=>
   intro h
   have:=G ()
   have Q:=fE g n;have S:=Gr (λq=>decide (n<q))^row a n;unfold fg at this ⊢;rw[aed,List.flatMap_append,eF];simp only[Em,List.flatMap_nil,ft,aI];lia
 have I:=C a.length^bh _;exists _,rfl,a,rfl;refine(?_:sD _ _ _ _ _ _ (dF^a.map aD) _ _ _);rw[x];refine WN (λi=>∃o r c,i= [o,r,c]) (λp i=>∃c,i= [some^aB p,some^aD^row a p,c]) _ (λp=>row a p) aB (λp q=>decide (p<q)) (λp q=>(p,q)) pairD (λy i #[c,e]=>#[_,_,_,e]) (ak a.length) _ [] _ (λp t J l Y m=>?_) (λp t b X J l Y Nn m L=>?_) #[none,none,none,rfl] ?_ (λp t=>?_) ?_
 .obtain⟨o,r,c,rfl⟩:=l
  exact#[rfl,rfl,_,rfl,m _ #[_,rfl]]
 .obtain⟨c,rfl⟩:=l
  exists _,rfl,_,rfl,_,rfl;refine(?_:if decide ((p:Int)<(b:Int))=true then _ else _);rw[show decide ((p:Int)<(b:Int))=decide (p<b) from ad0.mpr ()]
  exact cY (λe=>#[_,rfl,_,rfl,by show 2<=sizeLine;decide,m _ #[_,rfl] e])^λe=>L _ #[_,rfl] e
 .rw[k,mr,kn];exact small ()
 .have:=fE g p
  rw[k,mr,kn];exact small ()
 .rw[k,mv]
  exact#[_,rfl,(),q]
def OI:eS:=λa P=>∃(w:W)(p q:Nat),a= [.gf w,aB p,aB q]/\Good w/\q∈row w p/\P^aB^jC (row w p) q
def qo:FnOk P w Z.K mg base fJ 1 T.vc.f T.vc.fd ["self","p","q"]^aS Z OI:=by
 have k:=qC.nd;refine bg T.vc.F qC [0,0,0,0] ∅ (λl R h=>by let⟨x,y,z,rfl,C⟩:=h;rfl)^λt A outer s H E l R m h=>?_
 have u:=m.units
 refine#[_,(aw (bM false 3 k^iw (uE T.W^U 0)^U 1)
   (au^aO^iw (U 3)^f6 uY (f6 iT (C1 (U 3)^U 2) aR)^aW cJ rfl T.B.len cH^aa (U 3) ah)),?_]
 let⟨a,p,b,rfl,g,c,q⟩:=h;have n:=ie c;have v:=fE g p;have e:((row a p).map aB).length=(row a p).length:=aI _;have d:0<(row a p).length:=wo c;have o:(0:Int)<(((row a p).map aB).length:Int):=by rw[e];lia
 exists _,rfl,a,rfl,_,rfl,_,vK n,trivial;exists _,rfl,_,rfl,_,rfl,_,rfl,rfl,kJ _,_,_,(kz c).1,(kz c).2.1,(kz c).2.2;exists _,rfl,o;have em:(((row a p).idxOf b:Nat):Int)+1=(((row a p).idxOf b+1:Nat):Int):=()
 have r:((((row a p).idxOf b:Nat):Int)+1)%(((row a p).map aB).length:Int)=((((row a p).idxOf b+1)%(row a p).length:Nat):Int):=by rw[e,em,ae5]
 refine#[aB^jC (row a p) b,?_,q];show gF ((row a p).map aB)^(λi j=>i%j) _ _=_;dsimp only;rw[r];exact HW^qQ _ d
def CY{P:D->Prop}(h:P^.bl (!decide (a=b))):EE (pairD a) (pairD b) P:=by
 refine#[_,_,K0 a,K0 b,by unfold gU nD;simp[PyData.depth,PyData.depthAll],?_]
 have:PyData.eqv (gU a)^gU b=decide (a=b):=by
  by_cases e:a=b
  .rw[FS e];exact(q0 a b).mpr e
  .rw[FM e]
   apply sW.mpr;exact λz=>e^(q0 a b).mp z
 rw[mo rfl,this];exact h
def Bp:eS:=λa P=>∃(w:W)(d:Nat×Nat),a= [.gf w,pairD d]/\Good w/\w.length<=14/\aU w d/\∀r,gX w d r->P^.lst^r.map pairD
def A2:Dk P w base 2 T.u1^aS Z Bp:=by
 have f:=qJ.nd;refine bg T.u1.F qJ [0,0,1,0,0] ∅ (λr R h=>by let⟨z,D,rfl,I⟩:=h;rfl)^λy A outer s H E r R l h=>?_
 have t:=l.units
 refine#[_,(aw (kr 2 f^kq^aa (U 1) ah)
   (aw (EJ (U 1)^fO 2 rfl^aP (aL 3 f)^aP (aL 4 f) cT)
   (aw (L7 3 4 rfl f^aa (U 4)^aa (GY T.W (U 0) T.vc.m (qo T) (l.mono ∅) T.vc.b^aa (U 4)^aa (U 3) ah) ah)
   (aw (wN Gc (bA (xw t) (bb^aa (U 3)^aa (U 4) ah) (U 1)^aX _)^aw (nU false 2^bb^aa (U 3)^aa (U 4) ah)
   (au^L7 3 4 rfl f^aa (U 4)^aa (GY T.W (U 0) T.vc.m (qo T) (l.mono ∅) T.vc.b^aa (U 4)^aa (U 3) ah) ah))
   (au^aO^U 2))))),?_]
 let⟨a,d,rfl,g,h14,n,q⟩:=h;have B:=gm g;have C:a.length*a.length<=14*14:=wz h14 h14;refine#[_,rfl,by show 1<=sizeLine;decide,?_]
 exists _,rfl,rfl,rfl;exists _,rfl,_,rfl,a,rfl,_,rfl,_,rfl,a,d.2,d.1,rfl,g,g.sym _ _ n,_,_,rfl;refine t8 (λm u=>∃k,0<k/\m+k=(bo a).length+1/\(∀j,0<j->j<k->dH a j d≠d)/\u= [some^.gf a,some^pairD d,some^.lst^(walk a d k).map pairD,some^aB (dH a k d).1,some^aB (dH a k d).2]) (bo a).length #[1,(),rfl,λj i p=>by lia,rfl] ?_
 rintro m _ ⟨k,v,G,o,rfl⟩;have x:=iJ g n k;refine#[_,rfl,_,rfl,by show 2<=sizeLine;decide,_,rfl,?_]
 refine(?_:EE (pairD^dH a k d) (pairD d) _);refine CY #[_,rfl,cY (λe=>?_)^λe=>?_]
 .have ne:dH a k d≠d:=by simpa using e
  have lt:k<(bo a).length:=by
   have:=wd g n (k:=k+1) λj i p=>by
    by_cases c:j=k
    .subst c;exact ne
    .exact o j i ()
   lia
  refine#[_,rfl,_,rfl,_,rfl,by show 2<=sizeLine;decide,trivial,bO^by rw[aI,jD];lia,?_]
  exists _,rfl,_,rfl,a,rfl,_,rfl,_,rfl,a,(dH a k d).2,(dH a k d).1,rfl,g,g.sym _ _ x,_,_,rfl;refine#[m-1,(),k+1,(),(),λj i p=>?_,?_]
  .by_cases c:j=k
   .subst c;exact ne
   .exact o j i ()
  .rw[t7,dk];rfl
 .have e:dH a k d=d:=by simpa using e
  exact#[_,rfl,q _ #[k,v,e,o,rfl]]
noncomputable def zG(a:List^List (Nat×Nat)):D:= .lst^(a.map λr=>r.map (·.1)).map aD
def IH:eS:=λb P=>∃(w:W),b= [.gf w]/\Good w/\1<=w.length/\w.length<=14/\(w.length=1->P^.lst [aD [0]])/\(2<=w.length->∀a,cg w a->xk w=iR a->P^.lst^(xk w).map aD)
def NY(h:d∉l):HE (l.map zz)^zz d=(l++ [d]).map zz:=by
 unfold HE;rw[tz^λz=>h^rS.mp z,dk];rfl
def xE:Dk P w base 3 T.u2^aS Z IH:=by
 have G:=Ea.nd;refine bg T.u2.F Ea [0,98,1,0,0,0] ∅ (λu R h=>by let⟨K,rfl,V⟩:=h;rfl)^λaV A outer s H E u R n h=>?_
 have O:=n.units
 refine#[_,(aw (cw (bA (iU O) (fY T.W (U 0) T.v8.m (ou T) (n.mono ∅) T.v8.b) aR^aX _) (au^aO^gI^aa (gI^aa aR ah) ah) bf)
   (aw (Nt 1 G rfl T.u0)
   (aw (kr 2 G^kq ah)
   (aw (dW rfl Gc (bE^aW CU rfl T.B.sorted kS^aa (f6 iT (fY T.W (U 0) T.va.m (iV T) (n.mono ∅) T.va.b)^nQ (NC:= ["a","b"]) (src:= [none,none]) rfl (pU^ar qA) trivial (bE^fY T.W (U 0) T.va.m (iV T) (n.mono ∅) T.va.b) (λ_ _ _=>(l5 2 rfl^cC (bp 0 (show(["a","b"]:List ee).Nodup from by decide+kernel))^cC (bp 1 (show(["a","b"]:List ee).Nodup from by decide+kernel)) jH)) (λ_ _ _=>eW)^λ_ _ _=>(bb^aa (U 1)^aa (U 0) ah)) ah) (aL 3 G)^au^cw (bA (Ky O) (U 3) (U 1)^by with_unfolding_all rfl) (aw (bM false 4 G^aH T.u1 (A2 T) n^aa (U 0)^aa (U 3) ah)
   (aw (dW rfl Gc (bE^U 4) (aL 5 G)^au^PY false 1 O^U 5)
   (au^nU false 2^nQ (NC:= ["p","q"]) (src:= [none,none]) rfl (pU^ar qA) trivial (bE^U 4) (λ_ _ _=>(l5 2 rfl^cC (bp 0 (show(["p","q"]:List ee).Nodup from by decide+kernel))^cC (bp 1 (show(["p","q"]:List ee).Nodup from by decide+kernel)) jH)) (λ_ _ _=>eW)^λ_ _ _=>(U 0)))) bf)
   (au^aO^aW (Jv O) rfl T.B.sorted kS^aa (U 2) ah))))),?_]
 let⟨j,rfl,g,h1,h14,q1,q2⟩:=h;have c1:=gm g;have c2:j.length*j.length<=14*14:=wz h14 h14;have lw:(j.map aD).length=j.length:=aI _;exists _,rfl,j,rfl,j,rfl;refine Uh #[_,rfl,cY (λe=>?_)^λe=>?_]
 .have e:j.length=1:=by have:=IR e;lia
  exact#[by show 1<=sizeLine;decide,by show 1<=sizeLine;decide,q1 e]
 have n2:2<=j.length:=by have:=On e;lia
 refine#[by show 0<=sizeLine;decide,?_]
 refine#[_,rfl,j,rfl,j,rfl,g,h14,λts C srt=>?_];have tl:=Lm g;rw[<-Af] at tl;have tl2:=C.length_eq;refine#[_,rfl,j,rfl,j,rfl,g,h14,λv Vp MP=>?_];have e2:v=ts:=adi (λ_ _ _ _=>nq) MP srt^Vp.trans C.symm;subst e2;refine jF (λy=>∃I J,y= [I,J]) pairD (λ_=>true) (λt=>pairD (t.2,t.1)) v _ [] _ (λt ht X L Y Nn hY hN=>?_) #[none,none,rfl] (by rw[mr,kn];exact small ()) λX L=>?_
 .obtain⟨I,J,rfl⟩:=L
  exact#[rfl,rfl,Xj #[_,rfl,_,rfl,by show 2<=sizeLine;decide,hY _ #[_,_,rfl] rfl]]
 have pd:=Jp g C;have pl:=pd.length_eq;rw[eF,aI] at pl;have ef:v.filter (λ_=>true)=v:=by simp
 rw[mv,ef];refine#[by rw[aI,aI];exact small (),?_]
 have ej:(.lst (v.map pairD++v.map λt=>pairD (t.2,t.1)):D)= .lst^(v++v.map λt=>(t.2,t.1)).map pairD:=by rw[dk,dB];rfl
 dsimp only[lZ];rw[ej];refine#[_,rfl,by rw[eF,aI];lia,λu Q abZ=>?_]
 have Q:=Q.trans pd;have all:∀e,aU j e->e∈u:=λe h=>Q.mem_iff.mpr^bF.mpr h;have dart:∀e∈u,aU j e:=λe h=>bF.mp^Q.mem_iff.mp h;clear C Vp srt MP ej pd ef;refine b8 (λi y=>∃(f:List^List (Nat×Nat))(o3 o4 p:Option D),y= [some^.gf j,some^.x^.vJ (iu w)^f.flatten.map zz,some^zG f,o3,o4,p]/\Wk j u i f) #[[],none,none,none,rfl,Wk.zero j u] ?_ ?_
 .rintro i d _ hd ⟨f,o3,o4,p,rfl,hw⟩ A S
  let⟨e,he,rfl⟩:=dg hd;have de:=dart e^cR he;exists _,rfl,_,rfl,zz e,f.flatten.map zz,rfl,rfl,_,rfl;refine(?_:if (if true=true then !decide (zz e∈f.flatten.map zz) else _)=true then _ else _);rw[mo rfl,show decide (zz e∈f.flatten.map zz)=decide (e∈f.flatten) from ad0.mpr rS]
  have sub:∀x∈f.flatten,x∈bo j:=λx q=>by
   let⟨r,n,Y5⟩:=lJ.mp q;let⟨d,R,dd,K⟩:=hw.rnd r n;exact bF.mpr^R.bo g dd x Y5
  have fl:=bq hw.nod sub;refine cY (λc=>?_)^λc=>?_
  .have c:e∉f.flatten:=by simpa using c
   refine#[_,rfl,_,rfl,j,e,rfl,g,h14,de,λr R=>#[trivial,?_]];have N:=hw.take g all dart abZ he c R;have rd:∀x∈r,x∈bo j:=λx q=>bF.mpr^R.bo g de x q;have rl:=bq (R.nodup g de) rd;have Zo:(f.flatten++r).Nodup:=by have:=N.nod;rw[wq] at this;simpa using this
   have Uk:(f.flatten++r).length<=(bo j).length:=bq Zo λx q=>(cE.mp q).elim (sub x)^rd x;rw[eF] at Uk;exists _,rfl;refine b8 (λk y=>∃p,y= [some^.gf j,some^.x^.vJ (iu w)^(f.flatten++r.take k).map zz,some^zG f,some^pairD e,some^.lst^r.map pairD,p]) #[p,by rw[uA,ft];rfl] ?_ ?_
   .rintro k d _ hd ⟨p,rfl⟩ A S
    let⟨x,q,rfl⟩:=dg hd;have hk:=(cz.mp q).1;have tk:r.take (k+1)=r.take k++ [x]:=by rw[zb,q];rfl
    have nx:x∉f.flatten++r.take k:=λz=>by
     have sp:f.flatten++r=(f.flatten++r.take k)++(x::r.drop (k+1)):=by
      rw[kj,<-cz.mp q|>.2,adP,lG]
     rw[sp] at Zo;exact(hZ.mp Zo).2.2 x z x (c5 ..) rfl
    refine#[_,rfl,_,rfl,zz x,rfl,by rw[aI,eF,ji];lia,?_]
    rw[NY nx,kj,<-tk];exact S _ #[_,rfl]
   .rintro _ ⟨p,rfl⟩
    rw[aI,za]
    have dl:f.length<=300:=by
     have h:∀o:List^List (Nat×Nat),(∀r∈o,r≠ [])->o.length<=o.flatten.length:=λo=>by
      induction o with
      |nil=>intro _;exact bh _
      |cons a l ih=>
       intro h;have h1:=Gs.mpr^h a (c5 ..);have h2:=ih λr n=>h r^dY _ n;rw[wu,eF,dQ];lia
     have:=h f λr n z=>by
      let⟨d,R,K,V⟩:=hw.rnd r n
      have:=R.first
      rw[z] at this;cases this
     lia
    exists _,rfl,_,rfl;refine jF (λy=>∃I J,y= [I,J]) pairD (λ_=>true) (λt=>aB t.1) r _ [] _ (λt ht X L Y Nn hY hN=>?_) #[none,none,rfl] (by rw[mr,kn];exact small ()) λX L=>?_
    .obtain⟨I,J,rfl⟩:=L
     exact#[rfl,rfl,Xj #[_,rfl,hY _ #[_,_,rfl] rfl]]
    rw[mv,show r.filter (λ_=>true)=r by simp]
    refine#[trivial,bO^by rw[aI,aI];lia,?_]
    refine S _ #[f++ [r],some^pairD e,some^.lst^r.map pairD,p,?_,N]
    have e1:zG (f++ [r])= .lst ((f.map λr=>r.map (·.1)).map aD++ [.lst (r.map λt=>aB t.1)]):=by
     unfold zG aD;rw[dk,dk];simp only[dR,xT,dB];rfl
    rw[e1,wq,show[r].flatten=r by simp];rfl
  .have c:e∈f.flatten:=by simpa using c
   exact S _ #[f,_,_,_,rfl,hw.skip he c]
 .rintro _ ⟨f,o3,o4,p,rfl,hw⟩
  have hw:Wk j u u.length f:=by rw[aI] at hw;exact hw
  have fin:=hw.fin g all;have R:cg j f:=#[hw.rnd,fin]
  have dl:f.length<=300:=by
   have h:∀o:List^List (Nat×Nat),(∀r∈o,r≠ [])->o.length<=o.flatten.length:=λo=>by
    induction o with
    |nil=>intro _;exact bh _
    |cons a l ih=>
     intro h;have h1:=Gs.mpr^h a (c5 ..);have h2:=ih λr n=>h r^dY _ n;rw[wu,eF,dQ];lia
   have:=h f λr n z=>by
    let⟨d,R,K,V⟩:=hw.rnd r n
    have:=R.first
    rw[z] at this;cases this
   have:=fin.length_eq
   lia
  refine#[_,rfl,f.map^λr=>r.map (·.1),rfl,by rw[aI];lia,λM C srt=>?_]
  let⟨o,p',rfl⟩:=L2.kB (λr:List (Nat×Nat)=>r.map (·.1)) M f C;have R':=R.RD p';have e:=Dy g R' srt
  have:=q2 n2 o R' e
  rw[e] at this;exact this
variable {P:Program} {w:World} {mg:Str->Option Value} {base:Heap} {Z:DC} (T:Txt Z mg)
noncomputable def vW(l:List Nat):List (Nat×Nat):=(ak l.length).map λk=>(l.getD k 0,l.getD ((k+1)%l.length) 0)
def LK(l:List Nat):l.zip (l.drop 1++l.take 1)=vW l:=by
 refine yX λi=>?_;unfold vW;rw[fm]
 by_cases h:i<l.length
 .rw[BW h,BP]
  refine aeP.mpr #[by rw[fu,eE h];rfl,?_]
  by_cases c:i+1<l.length
  .rw[i5^by rw[pG];lia,Ek,yY c,show 1+i=i+1 by lia,eE c];show _\(l.getD (i+1) 0);rw[fu,eE c];rfl
  .have e:i+1=l.length:=()
   rw[lF^by rw[pG];lia,pG,e,aeW,show i-(l.length-1)=0 by lia]
   cases l with
   |nil=>simp at h
   |cons a l=>rfl
 .rw[gP^by rw[List.length_zip,eF,pG,ji];omega,gP^by rw[pF];lia];rfl
noncomputable def pO(l:List Nat):List (Nat×Nat):=if 1<l.length then vW l else[]
def Bq:eS:=λa P=>∃(l:List Nat),a= [aD l]/\l.length<=300/\P^.lst^(pO l).map pairD
def vC:Dk P w base 1 T.ue^aS Z Bq:=by
 have f:=vU.nd;refine bg T.ue.F vU [0] ∅ (λd R h=>by let⟨m,rfl,n⟩:=h;rfl)^λg A outer s H E d R e h=>?_
 have i:=e.units;exists _,(au^aO^XR (bA Fu (aW cJ rfl T.B.len cH^aa (U 0) ah) aR^aX _) (GX rfl rfl T.B.list rfl T.B.zip^aa (U 0)^aa (f6 iT (wJ (U 0) (Ah aR) Ag)^wJ (U 0) Ag^Ah aR) ah)^gI ah);let⟨l,rfl,j,q⟩:=h;have k:(l.map aB).length=l.length:=aI _;unfold pO at q;exists _,rfl,_,rfl;refine(?_:if decide ((1:Int)<((l.map aB).length:Int))=true then _ else _);refine cY (λc=>?_)^λc=>?_
 .have c:1<l.length:=by have:=IR c;lia
  rw[mo c] at q;exists _,rfl,_,rfl,_,rfl;have a:cutD (l.map aB) (some ((1:Nat):Int)) none=(l.drop 1).map aB:=by rw[Jw _ _ (),aeD]
  have b:cutD (l.map aB) none^some ((1:Nat):Int)=(l.take 1).map aB:=by rw[Aa _ _ (),adQ]
  refine#[small^by rw[show cutD (l.map aB) (some 1) none=_ from a,show cutD (l.map aB) none^some 1=_ from b,aI,aI,pG,ji];lia,?_]
  refine(?_:R^.lst (((l.map aB).zip (cutD (l.map aB) (some ((1:Nat):Int)) none++cutD (l.map aB) none^some ((1:Nat):Int))).map λp=> .tup [p.1,p.2]));rw[a,b,<-dk,List.zip_map,LK,dB];exact q
 .have c:¬1<l.length:=by have:=On c;lia
  rw[tz c] at q;exact#[by show 0<=sizeLine;decide,q]
noncomputable def qu(a:List^List (Nat×Nat)):List (Int×Int):=a.flatten.map zz
noncomputable def i9(n:Nat):List^List (Nat×Nat)->List FV
 | []=> []
 |r::a=>r.map (λ_=>FV.int (n:Int))++i9 (n+1) a
def RS(w:W)(a:List^List (Nat×Nat)):Prop:=(w.length=1/\a= [[]])\/(2<=w.length/\cg w a/\xk w=iR a)
noncomputable def wO:Nat->List D->List D
 |_,[]=> []
 |n,x::l=> .tup [.int (n:Int),x]::wO (n+1) l
theorem C7:∀(l:List D)(n:Nat),wO n l=l.mapIdx λi x=> .tup [.int ((n+i:Nat):Int),x]
 | [],n=>rfl
 |x::l,n=>by
  rw[List.mapIdx_cons];show _::wO (n+1) l=_;rw[C7 l (n+1)]
  congr 1
  congr 1
  funext i x
  rw[show n+1+i=n+(i+1) by lia]
def Hg(l:List D):dF l=wO 0 l:=by
 rw[C7];unfold dF
 congr 1
 funext i x
 rw[kn]
theorem IC:∀(c:List (Nat×Nat))(o:Option D)(b:List (Nat×Nat))(d:List FV),(b++c).Nodup->(b++c).length<=300->(∀o,N [some^aB n,x,o] ((b++c).map zz) (d++c.map λ_=>FV.int (n:Int)))->
  lcWK (h7 2) l0 (Ae 2) (Ae 0) (c.map pairD) [some^aB n,x,o] (b.map zz) d N
 | [],o,b,d,_,_,h=>by
  have:=h o
  rw[ft,xT,ft] at this;exact this
 |s::c,o,b,d,f,g,h=>by
  have e:b++s::c=(b++ [s])++c:=by simp
  have i:s∉b:=λm=>by
   rw[hZ] at f;exact f.2.2 s m s (c5 ..) rfl
  simp only[dR,lcWK,h7,l0, ↓reduceIte];refine#[_,rfl,_,rfl,zz s,FV.int (n:Int),rfl,rfl,(λz=>i^rS.mp z),by rw[aI];rw[eF] at g;lia,?_]
  have:=IC c (some^pairD s) (b++ [s]) (d++ [FV.int (n:Int)]) (e▸f) (e▸g) λo=>by
   have:=h o
   rw[e,dR,show ∀(a:FV)(l:List FV),d++a::l=d++ [a]++l from λa l=>by simp] at this;exact this
  rw[dk] at this;exact this
theorem AV{N:List (Int×Int)->List FV->Prop}:∀(a:List^List Nat)(n:Nat)(e f d:Option D)(b:List (Nat×Nat))(c:List FV),(∀r∈a,r.length<=300)->(b++(a.map pO).flatten).Nodup->(b++(a.map pO).flatten).length<=300->
  N ((b++(a.map pO).flatten).map zz) (c++i9 n^a.map pO)->
  lcWK2 (JE 2^zD (h7 0)^zD (h7 1) JD) l0 (PX^wH Bq^Pq (Ae 1) lZ) (h7 2) l0 (Ae 2) (Ae 0) (wO n^a.map aD) [e,f,d] (b.map zz) c N
 | [],n,e,f,d,b,c,_,_,_,h=>by
  rw[xT,List.flatten_nil,ft] at h;unfold i9 at h;rw[ft] at h;exact h
 |r::a,n,e,f,d,b,c,j,g,i,h=>by
  rw[dR,wu,<-kj] at g i h;simp only[dR,wO,lcWK2,l0, ↓reduceIte];exists rfl,rfl;exists _,rfl,r,rfl,j r (c5 ..);refine IC (pO r) d b c (hZ.mp g).1 (by rw[eF] at i;lia) λo=>?_
  refine AV a (n+1) _ _ _ (b++pO r) _ (λx k=>j x^dY _ k) g i ?_;unfold i9 at h;rw[<-kj] at h;exact h
def Lb{w:W}(h:gX w d r):vW^r.map (·.1)=r:=by
 refine yX λi=>?_;unfold vW;rw[fm,aI]
 by_cases a:i<r.length
 .have b:r.getD i (0,0)=r[i]:=by rw[fu,eE a];rfl
  rw[BW a,eE a,BP,Dj,Dj,Sq h a,b];rfl
 .rw[gP^by rw[pF];lia,gP ()];rfl
def Ip{w:W}(g:Good w)(h:gX w d r)(b:aU w d):1<r.length:=by
 obtain⟨k,c,a,_,rfl⟩:=h;rw[jD];apply GE;intro z;obtain rfl:k=1:=()
 have a:sj w d=d:=a;exact pV g b (KF Prod.fst a).symm
theorem rO{w:W}(g:Good w)(R:cg w a):(iR a).map pO=a:=by
 unfold iR;rw[dB];refine(aen (g:=id) λr c=>?_).trans^List.map_id _;let⟨d,b,e,f⟩:=R.rnd r c;show pO^r.map (·.1)=r;unfold pO;rw[mo^by rw[aI];exact Ip g b e,Lb b]
def rN{w:W}(g:Good w)(h14:w.length<=14)(R:cg w a):a.flatten.Nodup/\a.flatten.length<=196/\∀r∈a,r.length<=196:=by
 have c:=gm g;have d:w.length*w.length<=14*14:=wz h14 h14;have e:=R.perm.length_eq;refine#[R.perm.nodup_iff.mpr^fN g,(),λr b=>?_]
 have:=(aez b).length_le
 lia
def Le:eS:=λb P=>∃(w:W),b= [.gf w]/\Good w/\1<=w.length/\w.length<=14/\∀a,RS w a->P^.x^.fo (qu a)^i9 0 a
def xD:Dk P w base 4 T.uf^aS Z Le:=by
 have y:=nG.nd;refine bg T.uf.F nG [0] ∅ (λk R h=>by let⟨z,rfl,D⟩:=h;rfl)^λC A outer s H E k R f h=>?_
 have l:=f.units;refine#[_,(au^aO^TX (NC:= ["number","land","side"]) (src:= [none,none,none]) l rfl (pU^ar ig) trivial (eV rfl T.B.enumerate^aa (aH T.u2 (xE T) f^aa (U 0) ah) ah) (λ_ _ _=>(l5 2 rfl^cC (bp 0 (show(["number","land","side"]:List ee).Nodup from by decide+kernel))^cC (bp 1 (show(["number","land","side"]:List ee).Nodup from by decide+kernel)) jH)) (λ_ _ _=>eW) (λ_ _ _=>(bE^aH T.ue (vC T) f^aa (U 1) ah)) (λ_ _ _=>(bp 2 (show(["number","land","side"]:List ee).Nodup from by decide+kernel))) (λ_ _ _=>eW) (λ_ _ _=>(U 2))^λ_ _ _=>(U 0)),?_]
 let⟨m,rfl,g,n,h14,q⟩:=h;refine#[_,rfl,m,rfl,g,n,h14,λo=>?_,λp d R e=>?_]
 .have:=AV (N:=λt u=>R^.x^.fo t u) [[0]] 0 none none none [] [] (λr f=>by rw[fX] at f;subst f;decide) ∅ ∅^q [[]]^.inl #[o,rfl]
  rw[<-Hg] at this;exact this
 .obtain⟨a,b,c⟩:=rN g h14 R
  have i:=rO g R;rw[e];refine(?_:lcWK2 _ _ _ _ _ _ _ (dF^(iR d).map aD) _ _ _ _);rw[Hg];refine AV (iR d) 0 none none none [] [] (λr f=>?_) (by rw[i];exact a) (by rw[i];show d.flatten.length<=300;lia)^by rw[i];exact q d^.inr #[p,R,e]
  let⟨j,v,rfl⟩:=cQ.mp f
  have:=c j v
  show(j.map (·.1)).length<=300;rw[aI];lia
end wC
namespace Ep
open PySem L2
noncomputable def top(i:Nat):Stmt:=PySem.Challenge.pw_mapdye_k74_crossed.main.body.getD i^.Pass #[0,0,0,0]
abbrev Bf:Stmt:=top 44
abbrev zJ:Stmt:=top 45
abbrev Bg:Stmt:=top 46
abbrev xO:Stmt:=top 47
def VL(K:ad):Sp:=λd H Q _=>∃(a:Addr)(b:List Int)(k:Int),d= [.ref a, .int k]/\aJ K H a^b.map V.int/\b.length<=63/\0<=k/\k<=100/\∀(v:Int)(c:Hp),aC H c->Q (.int v) c
section
variable {P:Program} {w:World} {K:ad} {mg:Str->Option Value} {base:Heap}
def VF:aE ["_law_script","_law_k"] ["_law_script","_law_k"]^ar Bf:=by bv_omega
def A0(D:bJ K mg "_law_cell" Bf ["_law_script","_law_k"]):FnOk P w K mg base fJ 1 D.f D.fd ["_law_script","_law_k"]^VL K:=by
 refine D.F.ok VF (λn H Q E h=>?_)^λC A outer s H n Q E G h=>?_
 .obtain⟨a,b,k,rfl,_⟩:=h
  rfl
 let⟨a,b,k,rfl,o,I,J,L,q⟩:=h;refine#[_,bB^h8^cV bN (cW zI (rG vX (pv 0) (qr^pv 1)^qr^cW iY (pv 1) aZ)^fS^ao aZ az) aZ^λ_ _=>rfl,?_];refine#[_,rfl,_,rfl,k,rfl,_,rfl,_,_,rfl,rfl,_,rfl,a,_,rfl,o,λp t=>?_];refine#[by show 1<=sizeLine;decide,λg l=>?_]
 have ne:p≠g:=aq (ae (H:=H) (a:=p)) l;have c:=nP (b.map V.int) (some k)^some (k+1);rw[aI] at c;refine#[p,g,_,_,rfl,rfl,by rw[af ne];exact ae,ae,small^by show _+1<=1000;lia,λm i=>?_]
 have u:aC H^upd (upd (upd H p^.lst^jb (b.map V.int) (some k)^some (k+1)) g^.lst [.int 0]) m^.lst (jb (b.map V.int) (some k)^some (k+1)++ [.int 0]):=
  (ay t _).trans^(ay l _).trans^ay i _
 have d:∃v:Int,gF (jb (b.map V.int) (some k)^some (k+1)++ [V.int 0]) 0\(.int v):=by
  have:∀x∈jb (b.map V.int) (some k)^some (k+1)++ [V.int 0],∃v,x=V.int v:=λx y=>by
   rcases cE.mp y with z|z
   .unfold jb at z
    let⟨v,M,rfl⟩:=cQ.mp^List.mem_of_mem_drop^aef z;exact#[v,rfl]
   .exact#[0,by simpa using z]
  cases e:jb (b.map V.int) (some k)^some (k+1)++ [V.int 0] with
  |nil=>simp at e
  |cons x r=>
   let⟨v,rfl⟩:=this x^by rw[e];exact c5
   exact#[v,c9 (j:=0) rfl]
 let⟨v,B⟩:=d;exact#[m,_,0, .int v,rfl,rfl,aJ.of ae,B,q v _ u]
end
def boot_max:bootBuiltins "max"\(.builtin "max"):=by decide+kernel
def boot_min:bootBuiltins "min"\(.builtin "min"):=by decide+kernel
def SN(K:ad):Sp:=λd H Q _=>∃(a:Addr)(b:List Int)(k:Int),d= [.ref a, .int k]/\aJ K H a^b.map V.int/\b.length<=63/\∀(v:Int)(c:Hp),aC H c->Q (.int v) c
structure B3 (mg:Str->Option Value):Prop where
 len:mg "len"=none
 range:mg "range"=none
 max:mg "max"=none
 min:mg "min"=none
 enumerate:mg "enumerate"=none
 zip:mg "zip"=none
 sorted:mg "sorted"=none
 all:mg "all"=none
 isinstance:mg "isinstance"=none
 int:mg "int"=none
 bool:mg "bool"=none
 list:mg "list"=none
 tuple:mg "tuple"=none
section
variable {P:Program} {w:World} {K:ad} {mg:Str->Option Value} {base:Heap}
def Iz:aE ["_law_script","_law_turn","_law_number","_law_k","_law_part"] ["_law_script","_law_turn"]^ar zJ:=by bv_omega
def Of(B:B3 mg)(C:bJ K mg "_law_cell" Bf ["_law_script","_law_k"])(D:bJ K mg "_law_mixed" zJ ["_law_script","_law_turn"]):FnOk P w K mg base fJ 2 D.f D.fd ["_law_script","_law_turn"]^SN K:=by
 refine D.F.ok Iz (λu H Q E h=>?_)^λL A outer s H u Q E x h=>?_
 .obtain⟨a,c,k,rfl,_⟩:=h
  rfl
 let⟨a,c,k,rfl,r,y,q⟩:=h;have d:=Iz.nd
 refine#[_,aF (bW (i:=2) d rfl (Or.inl rfl) aZ)
  (aF (kC Gc rfl (tU rfl B.range^ao (cU (Js rfl) rfl B.max boot_max^ao aZ^ao (cU (Jt rfl) rfl B.min boot_min^ao aZ^ao (cU cX rfl B.len ac5^ao (pv 0) az) az) az) az) (cy (i:=3) d rfl^Or.inl rfl)
   (aF (bW (i:=4) d rfl (Or.inl rfl)^cW rA (cW rB (cW iY (cW iY (cW iY (cW rA (bK (A0 C) x rfl C.m C.F.kp C.b .nil cF^ao (pv 0)^ao (pv 3) az) aZ)^cW rB aZ^pv 3)^cW rB aZ^pv 1) aZ) aZ) aZ)
    (bB^bW (i:=2) d rfl (Or.inl rfl)^cW iY (cW rB (pv 2) aZ)^cW rA (cW rB (pv 4)^pv 4) aZ)))
  (bB^h8^pv 2)),?_]
 exists _,rfl,a,_,rfl, .inl r,_,_,rfl,_,_,rfl,_,rfl;have G:(c.map V.int).length=c.length:=aI _;rw[G]
 have I:(if (if (c.length:Int)<63 then(c.length:Int) else 63)>12 then(if (c.length:Int)<63 then(c.length:Int) else 63) else 12)<=63/\0<=(if (if (c.length:Int)<63 then(c.length:Int) else 63)>12 then(if (c.length:Int)<63 then(c.length:Int) else 63) else(12:Int)):=by
  repeat' split
  all_goals lia
 generalize (if (if (c.length:Int)<63 then(c.length:Int) else 63)>12 then(if (c.length:Int)<63 then(c.length:Int) else 63) else(12:Int))=n at I;refine#[(),(),nY (λi g j=>∃num l o,g= [some^.ref a,some^.int k,some^.int num,l,o]/\aC H j) #[_,_,_,rfl,aC.refl _] (λi g j M p=>?_)^λg j p=>?_]
 .obtain⟨num,l,o,rfl,e⟩:=p
  have N:(0:Int)+(i:Int)=(i:Int):=()
  refine#[_,rfl,_,rfl,a,c,_,rfl,e.seq r,y,(),(),λv O J=>?_]
  refine#[_,_,rfl,rfl,(by show(0:Int)<2147483647;decide),?_]
  refine#[_,rfl,_,_,rfl,rfl, .inl #[∅,∅],_,_,rfl,rfl,?_]
  refine#[_,rfl,_,_,rfl,rfl, .inl #[∅,∅],_,_,rfl,rfl,_,_,rfl,rfl,?_]
  refine#[_,_,rfl,rfl, .inr #[∅,∅],_,_,rfl,rfl,(by show(0:Int)<2147483647;decide),?_]
  generalize t:((v%2147483647+40692*(0+(i:Int))+7*k+1)*48271)%2147483647=part;have R:0<=part:=by rw[<-t];exact aeg _ ∅
  have S:part<2147483647:=by rw[<-t];exact Gw _ ∅
  refine#[_,rfl,_,_,rfl,rfl, .inr #[∅,∅],?_]
  refine#[_,rfl,_,rfl,_,_,rfl,rfl, .inl #[(),()],_,_,rfl,rfl,(by show(0:Int)<2147483629;decide),_,_,rfl,rfl,?_]
  exact#[_,_,_,rfl,e.trans J]
 .obtain⟨num,l,o,rfl,e⟩:=p
  exact#[_,rfl,q _ _ e]
def OL(K:ad):Sp:=λe H Q _=>∃(a:Addr)(d:List Int)(k:Int),e= [.ref a, .int k]/\aJ K H a^d.map V.int/\d.length<=63/\0<=k/\k<=100/\
 ∀(r:Addr)(b:List Int)(c:Hp),aC H c->H r=none->c r\(.lst^b.map V.int)->b≠ []->b.length<=2->Q (.ref r) c
def OG:aE ["_law_script","_law_at"] ["_law_script","_law_at"]^ar Bg:=by bv_omega
def KA(B:B3 mg)(C:bJ K mg "_law_cell" Bf ["_law_script","_law_k"])(M:bJ K mg "_law_mixed" zJ ["_law_script","_law_turn"])(D:bJ K mg "_law_digits" Bg ["_law_script","_law_at"]):FnOk P w K mg base fJ 3 D.f D.fd ["_law_script","_law_at"]^OL K:=by
 refine D.F.ok OG (λG H Q E h=>?_)^λN A outer s H G Q E j h=>?_
 .obtain⟨a,c,k,rfl,_⟩:=h
  rfl
 let⟨a,c,k,rfl,l,n,t,u,q⟩:=h;have x:=(A0 (P:=P) (w:=w) (base:=base) C).mono (show 1<=2 by decide)
 have y:=Of (P:=P) (w:=w) (base:=base) B C M
 refine#[_,aF (A9 (jO KG (bK x j rfl C.m C.F.kp C.b .nil cF^ao (pv 0)^ao (pv 1) az) (cW Vd aZ aZ)^aX _)
   (bB^h8^fS^ao (bK y j rfl M.m M.F.kp M.b .nil cF^ao (pv 0)^ao (pv 1) az) az) qs)
  (bB^h8^fS^ao (bK x j rfl C.m C.F.kp C.b .nil cF^ao (pv 0)^ao (pv 1) az)^ao (bK y j rfl M.m M.F.kp M.b .nil cF^ao (pv 0)^ao (pv 1) az) az),?_]
 refine#[_,rfl,_,rfl,a,c,k,rfl,l,n,t,u,λv O d=>?_];refine#[_,_,rfl,rfl,#[∅,∅,∅],_,_,rfl,rfl,_,rfl,?_]
 refine yC (λ_=>?_)^λ_=>?_
 .refine#[_,rfl,_,rfl,a,c,k,rfl,d.seq l,n,λp I o=>?_]
  refine#[by show 1<=sizeLine;decide,λr e=>?_]
  have g:=d.trans o;exact q r [p] _ (g.trans^ay e _) (g.free e) ae (by simp)^by simp
 .refine#[_,rfl,_,rfl,a,c,k,rfl,d.seq l,n,t,u,λp I o=>?_]
  refine#[_,rfl,_,rfl,a,c,k,rfl,(d.trans o).seq l,n,λJ R L=>?_];refine#[by show 2<=sizeLine;decide,λr e=>?_]
  have i:=(d.trans o).trans L;exact q r [p,J] _ (i.trans^ay e _) (i.free e) ae (by simp)^by simp
def VR:Sp:=λc H Q _=>∃(l:Addr)(a:List Int)(m:Int),c= [.ref l, .int m]/\H l\(.lst^a.map V.int)/\a≠ []/\a.length<=1000/\0<m/\m<1073741824/\
 ∀(d:Int)(b:List Int),0<=d->d<m->b≠ []->b.length<=a.length->Q (.int d)^upd H l^.lst^b.map V.int
def MK:aE ["_law_left","_law_many","_law_digit"] ["_law_left","_law_many"]^ar xO:=by bv_omega
def vD(B:B3 mg)(D:bJ K mg "_law_take" xO ["_law_left","_law_many"]):FnOk P w K mg base fJ 1 D.f D.fd ["_law_left","_law_many"] VR:=by
 refine D.F.ok MK (λy H Q E h=>?_)^λO A outer s H y Q E R h=>?_
 .obtain⟨a,g,k,rfl,_⟩:=h
  rfl
 let⟨l,g,m,rfl,d,C,S,o,G,q⟩:=h;have I:=MK.nd
 refine#[_,aF (A9 (PW.pt^FI (jO KG (cV bN (pv 0) aZ^λ_ _=>rfl) aZ^aX _)^Bb^jO KC (cU cX rfl B.len ac5^ao (pv 0) az) aZ^aX _)
   (bB^dh^gW GT PySem.F.slot_list_pop PySem.F.type_list_pop N9 (pv 0)^ao aZ az) qs)
  (aF (bW (i:=2) I rfl (Or.inl rfl)^cW rA (cV bN (pv 0) aZ^λ_ _=>rfl)^pv 1)
  (aF (rL (cW Ib (cV bN (pv 0) aZ^λ_ _=>rfl)^pv 1)^FG (pv 0) aZ set_list)
  (bB^h8^pv 2))),?_]
 have fin:∀(b:List Int),b≠ []->b.length<=g.length->∀e,e=H\/e=upd H l^.lst^b.map V.int->e l\(.lst^b.map V.int)->
   (SY (MQ (F3 (rI (λ_ j=>0<j) λi j=>V.int (i%j)) (F3 (MB K) (yP 0)^tC^.int 0)^yP 1)^Al 2)^SY (MQ (F3 (rI OZ λi j=>V.int (i / j)) (F3 (MB K) (yP 0)^tC^.int 0)^yP 1)^WD (yP 0) (tC^.int 0) Sm)^Xi^yP 2)
    {nx:=λ_ J=>Q .aQ J,rt:=Q} (start ["_law_left","_law_many","_law_digit"] [.ref l, .int m]) e:=by
  intro b p L e t u
  obtain⟨x,r,rfl⟩:∃x r,b=x::r:=by
   cases b with
   |nil=>exact absurd rfl p
   |cons x r=>exact#[x,r,rfl]
  exists _,rfl,l,_,0, .int x,rfl,rfl,aJ.of u,c9 (j:=0) rfl,_,rfl,_,_,rfl,rfl,o;exists _,rfl,l,_,0, .int x,rfl,rfl,aJ.of u,c9 (j:=0) rfl,_,rfl,_,_,rfl,rfl,#[o,G];refine#[_,rfl,l,_,0,0,rfl,rfl,u,?_,?_]
  .show k4 (r.length+1|>λn=>((x::r).map V.int).length) 0\0
   unfold k4;rw[mo ∅,mo^by simp]
   rfl
  .refine#[_,rfl,?_]
   have M:upd e l^.lst^((x::r).map V.int).set 0^.int (x / m)=upd H l^.lst^((x / m)::r).map V.int:=by
    rcases t with z|z
    .rw[z];rfl
    .rw[z,wc];rfl
   rw[M];exact q (x%m) ((x / m)::r) (aeg _ ()) (Gw _ o) (by simp)^~~~L
 obtain⟨x,r,rfl⟩:∃x r,g=x::r:=by
  cases g with
  |nil=>exact absurd rfl C
  |cons x r=>exact#[x,r,rfl]
 exists _,rfl,l,_,0, .int x,rfl,rfl,aJ.of d,c9 (j:=0) rfl,_,_,rfl,rfl,_,rfl;refine yC (λ_=>?_)^λ_=>?_
 .refine#[_,rfl,l,_,rfl, .inl^aJ.of d,_,_,rfl,rfl,_,rfl,?_]
  refine yC (λc=>?_)^λ_=>?_
  .have N:=IR c
   have v:r≠ []:=by
    intro z;subst z;simp at N
   refine#[_,rfl, .inl #[rfl,_,aJ.of d],l,_,0,0, .int x,rfl,rfl,d,∅,∅,?_,rfl,?_]
   .simp[seqIndex?]
   .exact fin r v (by simp) _ (.inr rfl) ae
  .exact fin (x::r) (by simp) (bh _) _ (.inl rfl) d
 .exact cL^fin (x::r) (by simp) (bh _) _ (.inl rfl) d
end
open Wb
abbrev K9:Stmt:=top 48
noncomputable def bz(r:List Nat):List V:=r.map λ(n:Nat)=>V.int (n:Int)
def Off(S:List Addr)(H a:Hp):Prop:=∀b o,b∉S->H b\o->a b\o
def Off.trans{S:List Addr}{H d e:Hp}(a:Off S H d)(b:Off S d e):Off S H e:=λc o f h=>b c o f^a c o f h
def Off.of_same{S:List Addr}{H a:Hp}(h:aC H a):Off S H a:=λb o _ e=>h b o e
def Off.put{S:List Addr}(h:a∈S\/H a=none):Off S H^upd H a o:=λb u c e=>by
 rw[af^λz=>?_]
 .exact e
 .rcases h with h|h
  .rw[z] at c;exact c h
  .rw[z,h] at e;cases e
structure aK (H:Hp) (T:Addr) (as:List Addr) (w:W):Prop where
 top:H T\(.lst^as.map V.ref)
 nod:as.Nodup
 nT:T∉as
 len:as.length=w.length
 row:∀(i:Nat) a,as[i]?\a->H a\(.lst^bz^Wb.row w i)
def aK.keep{T:Addr}(R:aK H T c w)(h:∀b,b=T\/b∈c->d b=H b):aK d T c w:=
 #[by rw[h T^.inl rfl];exact R.top,R.nod,R.nT,R.len,λi a e=>by rw[h a^.inr^cR e];exact R.row i a e]
def aK.off{S:List Addr}(R:aK H T b w)(h:Off S H c)(d:T∉S)(f:∀a∈b,a∉S):aK c T b w:=
 #[h _ _ d R.top,R.nod,R.nT,R.len,λi a e=>h _ _ (f a^cR e)^R.row i a e]
def aK.at{H:Hp}{T:Addr}{b:List Addr}(R:aK H T b w){p:Nat}(c:p<w.length):∃a,b[p]?\a/\H a\(.lst^bz^Wb.row w p):=by
 have:p<b.length:=by rw[R.len];exact c
 exact#[_,eE this,R.row p _^eE this]
def get_inj{b:Type}{l:List b}(h:l.Nodup){i j:Nat}{a:b}(c:l[i]?\a)(d:l[j]?\a):i=j:=by
 let⟨g,e⟩:=cz.mp c;let⟨k,f⟩:=cz.mp d;exact(aeS h).mp^e.trans f.symm
def aK.put{d:List Addr}(R:aK H T d w)(f:d[p]?\a)(h:∀b,b=T\/b∈d->b≠a->g b=H b)(e:g a\(.lst^bz r)):aK g T d^w.set p r:=by
 have k:p<w.length:=by rw[<-R.len];exact(cz.mp f).1
 have l:=cR f;refine#[by rw[h T (.inl rfl)^λz=>R.nT^by rw[z];exact l];exact R.top,R.nod,R.nT,by rw[R.len,i6],λi b c=>?_]
 rw[jQ k]
 by_cases j:p=i
 .subst j
  rw[f] at c;cases c;rw[mo rfl];exact e
 .rw[tz j,h b (.inr^cR c)^λz=>j^get_inj R.nod f^by rw[<-z];exact c]
  exact R.row i b c
def aK.snoc(R:aK H T c w){r:List Nat}(j:a∉c)(k:a≠T)(h:∀b,b∈c->f b=H b)(l:f T\(.lst^(c++ [a]).map V.ref))(e:f a\(.lst^bz r)):aK f T (c++ [a]) (w++ [r]):=by
 refine#[l,?_,λz=>?_,by simp[R.len],λi b d=>?_]
 .rw[hZ]
  exact#[R.nod,by simp,λx g y m z=>by
   have:y=a:=by simpa using m
   rw[this] at z;rw[z] at g;exact j g]
 .rcases cE.mp z with z|z
  .exact R.nT z
  .have n:T=a:=by simpa using z
   exact k n.symm
 .rw[D6]
  by_cases o:i<c.length
  .rw[i5 o] at d
   rw[tz^by rw[<-R.len];lia,h b^cR d]
   exact R.row i b d
  .have p:i=c.length:=by
    have:=(cz.mp d).1
    simp at this;lia
   subst p;rw[lF^bh _] at d;simp at d;rw[mo R.len,<-d];exact e
def cc(r:List Nat):(bz r).length=r.length:=aI _
def rM(r:List Nat)(i n:Nat):bz^ins r i n=ins (bz r) i^.int (n:Int):=ins_map _ _ _ _
def VT:Sp:=λf H Q _=>∃(l:Addr)(c:List Int)(m:Nat),f= [.int (m:Int), .ref l]/\H l\(.lst^c.map V.int)/\c≠ []/\c.length<=2/\1<=m/\m<=14/\
 ∀(T:Addr)(e:List Addr)(w:W)(d:List Int)(b:Hp),Off [l] H b->H T=none->(∀a∈e,H a=none)->aK b T e w->Good w->w.length=m->b l\(.lst^d.map V.int)->d≠ []->d.length<=2->jv w+2=2*m->Q (.ref T) b
section
variable {P:Program} {w:World} {K:ad} {mg:Str->Option Value} {base:Heap}
def ML:aE ["_law_many","_law_left","_law_turns","_law_new","_law_p"] ["_law_many","_law_left"]^ar K9:=by bv_omega
def RJ(B:B3 mg)(Tk:bJ K mg "_law_take" xO ["_law_left","_law_many"])(D:bJ K mg "_law_tree" K9 ["_law_many","_law_left"]):FnOk P w K mg base fJ 2 D.f D.fd ["_law_many","_law_left"] VT:=by
 refine D.F.ok ML (λvs H Q E h=>?_) (λaV A outer s H vs Q E hr h=>?_)
 .obtain⟨a,ns,k,rfl,_⟩:=h
  rfl
 obtain⟨l,ns,m,rfl,N,jL,hz,h1,h14,q⟩:=h;have S:=ML.nd;have gT:=vD (P:=P) (w:=w) (base:=base) B Tk
 refine#[_,aF (bW (i:=2) S rfl (Or.inl rfl) (fS (ao (fS az) az)))
  (aF (kC Gc rfl (KO rfl B.range (ao aZ (ao (pv 0) az))) (cy (i:=3) S rfl (Or.inl rfl))
   (aF (bW (i:=4) S rfl (Or.inl rfl) (bK gT hr rfl Tk.m Tk.F.kp Tk.b .nil cF (ao (pv 1) (ao (pv 3) az))))
   (aF (dh (gW GT adj adk ot (cV bN (pv 2) (pv 4) (λ_ _=>rfl))
     (ao (bK gT hr rfl Tk.m Tk.F.kp Tk.b .nil cF (ao (pv 1) (ao (cW iY (cU cX rfl B.len ac5 (ao (cV bN (pv 2) (pv 4) (λ_ _=>rfl)) az)) aZ) az))) (ao (pv 3) az))))
   (bB (dh (gW GT adg adh jz (pv 2) (ao (fS (ao (pv 4) az)) az)))))))
  (bB (h8 (pv 2)))),?_]
 refine#[by show 0<=sizeLine;decide,λG X=>#[by show 1<=sizeLine;decide,λT I=>?_]]
 have Y:T≠G:=λz=>by rw[z,ae] at I;cases I
 have Z:H T=none:=by rw[af Y] at I;exact I
 have O:l≠T:=aq N Z;have nl0:l≠G:=aq N X;refine#[_,rfl,1,(m:Int),rfl,#[∅,∅,(),()],?_]
 refine nY (λi σ u=>∃n w x o3 o4,σ= [some (.int (m:Int)),some (.ref l),some (.ref T),o3,o4]/\Off [l] H u/\(∀a∈n,H a=none)/\aK u T n w/\Good w/\w.length=i+1/\u l\(.lst (x.map V.int))/\x≠ []/\x.length<=2/\jv w=2*i) ?_ (λi σ u hi hP=>?_) (λσ u hP=>?_)
 .refine#[[G],[[]],ns,_,_,rfl,(Off.put (.inr X)).trans (Off.put (.inr I)),λa v=>?_,#[ae,by simp,by simpa using Y,rfl,λi a e=>?_],NF,rfl,?_,jL,hz,rfl]
  .have:a=G:=by simpa using v
   rw[this];exact X
  .cases i with
   |zero=>
    have:a=G:=by simpa using e.symm
    rw[this,af (Ne.symm Y),ae];rfl
   |succ i=>simp at e
  .rw[af O,af nl0];exact N
 .obtain⟨n,t,x,o3,o4,rfl,off,J,R,g,L,Cr,QN,Ke,hdg⟩:=hP
  have ni:l∉n:=λz=>by have:=J l z;rw[N] at this;cases this
  refine#[_,rfl,_,rfl,l,x,_,rfl,Cr,QN,(),(),(),λd pX d0 d1 sC NX=>?_]
  have R1:aK (upd u l (.lst (pX.map V.int))) T n t:=R.keep λb c=>by
   refine af λz=>?_
   rcases c with c|c
   .exact O (z.symm.trans c)
   .rw[z] at c;exact ni c
  obtain⟨p,rfl⟩:=wk d0;have hp:p<t.length:=()
  obtain⟨a,v,jM⟩:=R1.at hp;have U3:l≠a:=λz=>ni (by rw[z];exact cR v)
  have rY:gF (n.map V.ref) ((p:Nat):Int)\(.ref a):=c9 (by rw[fm,v];rfl)
  exists _,rfl,_,rfl,T,_,_,_,rfl,rfl,aJ.of R1.top,rY, .inl #[rfl,_,aJ.of jM];exists _,rfl,_,rfl,_,rfl,T,_,_,_,rfl,rfl,aJ.of R1.top,rY,a,_,rfl, .inl (aJ.of jM),_,_,rfl,rfl;have rl:=fE g p;rw[cc];refine#[l,pX,_,rfl,ae,sC,(by lia),(by lia),(by lia),λd2 m7 e0 e1 yy Q0=>?_]
  rw[wc]
  have R2:aK (upd u l (.lst (m7.map V.int))) T n t:=R.keep λb c=>by
   refine af λz=>?_
   rcases c with c|c
   .exact O (z.symm.trans c)
   .rw[z] at c;exact ni c
  have J8:=R2.row p a v;refine#[_,rfl,a,_,d2,_,rfl,rfl,J8,e0,by rw[cc];lia,pC (by rw[cc];exact rl) (bO ()),?_]
  obtain⟨j,rfl⟩:=wk e0;have ew:(1:Int)+(i:Int)=((t.length:Nat):Int):=()
  rw[ew,nJ,<-rM];have y:aK (upd (upd u l (.lst (m7.map V.int))) a (.lst (bz (ins (row t p) j t.length)))) T n (t.set p (ins (row t p) j t.length)):=R2.put v (λb _ c=>af c) ae;refine#[_,rfl, .inl #[rfl,_,aJ.of y.top],_,rfl,by show 1<=sizeLine;decide,λr C=>?_]
  have Zw:r≠T:=Ne.symm (aq y.top C)
  have Ry:r∉n:=λz=>by
   obtain⟨k,hk⟩:=jh z
   have:=y.row k r hk
   rw[C] at this;cases this
  have Zx:r≠l:=λz=>by
   rw[z,af U3,ae] at C;cases C
  refine#[T,_, .ref r,rfl,rfl,by rw[af (Ne.symm Zw)];exact y.top,pC (by rw[aI,y.len,i6];exact bh _) (bO ()),?_]
  have M:H r=none:=by
   cases e:H r with
   |none=>rfl
   |some o=>
    have:=off r o (~~~Zx) e
    rw[af (λz=>Ry (by rw[z];exact cR v)),af Zx] at C
    rw[C] at this;cases this
  have haH:H a=none:=J a (cR v);refine#[n++ [r],leaf t p j,m7,_,_,rfl,?_,λb c=>?_,?_,An g hp,by rw[rk];lia,?_,yy,(),by rw[Nl hp];lia]
  .intro b o c e
   have hbl:b≠l:=by simpa using c
   rw[af (λz=>by rw[z,Z] at e;cases e),af (λz=>by rw[z,M] at e;cases e),af (λz=>by rw[z,haH] at e;cases e),af hbl]
   exact off b o c e
  .rcases cE.mp c with z|z
   .exact J b z
   .have:b=r:=by simpa using z
    rw[this];exact M
  .refine y.snoc (r:= [p]) Ry Zw (λb c=>?_) ?_ ?_
   .rw[af (λz=>y.nT (by rw[<-z];exact c)),af (λz=>Ry (by rw[<-z];exact c))]
   .rw[ae,dk];rfl
   .rw[af Zw,ae];rfl
  .rw[af O,af (Ne.symm Zx),af U3,ae]
 .obtain⟨n,t,x,o3,o4,rfl,off,J,R,g,L,Cr,QN,Ke,hdg⟩:=hP
  exact#[_,rfl,q T n t x u off Z J R g () Cr QN Ke ()]
end
abbrev Bh:Stmt:=top 49
abbrev zK:Stmt:=top 50
def jA{r:List Nat}{i n:Nat}(h:r[i]?\n):(bz r)[i]?\(.int (n:Int)):=by unfold bz;rw[fm,h];rfl
def oG(r:List Nat):(bz r).all iy=true:=by
 rw[adS];intro x a;obtain⟨n,_,rfl⟩:=cQ.mp a;rfl
def xM{r:List Nat}{i:Nat}{z:V}(h:(bz r)[i]?\z):∃n,r[i]?\n/\z= .int (n:Int):=by
 unfold bz at h;rw[fm] at h;cases e:r[i]? with
 |none=>rw[e] at h;cases h
 |some n=>rw[e] at h;cases h;exact#[n,rfl,rfl]
def uR{r:List Nat}{p:Nat}(h:p∈r):r[r.idxOf p]?\p:=by
 have lt:=BS.mpr h;rw[eE lt,BX lt]
def UG{r:List Nat}(a:r.Nodup){p m n:Nat}(h:p∈r)(b:m<r.idxOf p)(e:r[m]?\n):n≠p:=λz=>by
 rw[z] at e
 have:=get_inj a e^uR h
 lia
def qZ(p:Nat):tD (.int (p:Int))^.int (p:Int)=true:=by simp[tD]
def tQ{r:List Nat}(a:r.Nodup){p:Nat}(h:p∈r)(m:Nat)(z:V)(b:m<r.idxOf p)(c:(bz r)[m]?\z):tD z^.int (p:Int)=false:=by
 let⟨n,d,rfl⟩:=xM c
 have:=UG a h b d
 simp[tD];lia
def FT:Sp:=λb H Q _=>∃(T a:Addr)(c:List Addr)(w:W)(d:Nat×Nat),b= [.ref T, .ref a]/\aK H T c w/\Good w/\w.length<=14/\H a\(.tup^iZ d)/\aU w d/\
 ∀t,H t=none->Q (.ref t)^upd H t^.tup^iZ^sj w d
section
variable {P:Program} {w:World} {K:ad} {mg:Str->Option Value} {base:Heap}
def MH:aE ["_law_turns","_law_side","_law_p","_law_q"] ["_law_turns","_law_side"]^ar Bh:=by bv_omega
def RH(B:B3 mg)(D:bJ K mg "_law_next" Bh ["_law_turns","_law_side"]):FnOk P w K mg base fJ 1 D.f D.fd ["_law_turns","_law_side"] FT:=by
 refine D.F.ok MH (λr H Q E h=>?_)^λG A outer s H r Q E I h=>?_
 .obtain⟨T,k,l,w,d,rfl,_⟩:=h
  rfl
 obtain⟨T,k,l,c,⟨p,b⟩,rfl,R,g,h14,u,m,q⟩:=h;have n:=MH.nd
 refine#[_,aF (rL (pv 1)^rJ rfl^fZ (cy (i:=2) n rfl^Or.inl rfl)^fZ (cy (i:=3) n rfl^Or.inl rfl) nA)
  (bB^h8^vG^ao (pv 3)^ao (cV bN (cV bN (pv 0) (pv 3)^λ_ _=>rfl)
   (cW rA (cW iY (gW GT adm adn rz (cV bN (pv 0) (pv 3)^λ_ _=>rfl)^ao (pv 2) az) aZ)
    (cU cX rfl B.len ac5^ao (cV bN (pv 0) (pv 3)^λ_ _=>rfl) az))^λ_ _=>rfl) az),?_]
 have e:p∈row c b:=g.sym _ _ m;have v:b<c.length:=g.rng _ _ m;let⟨a,x,j⟩:=R.at v;have rY:gF (l.map V.ref) ((b:Nat):Int)\(.ref a):=c9^by rw[fm,x];rfl
 have o:0<(row c b).length:=wo e;exists _,rfl,k,_,rfl,fM.of u,rfl,_,_,rfl,_,_,rfl,rfl;exists _,rfl,_,rfl,_,rfl,T,_,_,_,rfl,rfl,aJ.of R.top,rY;exists _,rfl,_,rfl,T,_,_,_,rfl,rfl,aJ.of R.top,rY, .inl #[rfl,_,aJ.of j],_,rfl;exists a,_,_,(row c b).idxOf p,_,rfl,rfl,j,rfl,oG _,jA^uR e,qZ p,tQ (g.nod _) e;exists _,_,rfl,rfl,_,rfl,_,rfl,T,_,_,_,rfl,rfl,aJ.of R.top,rY,a,_,rfl, .inl^aJ.of j,_,_,rfl,rfl;rw[cc];refine#[(),?_]
 have em:((((row c b).idxOf p:Nat):Int)+1)%((row c b).length:Int)=((((row c b).idxOf p+1)%(row c b).length:Nat):Int):=by rw[ae5,Int.natCast_add];rfl
 have y:gF (bz^row c b) (((((row c b).idxOf p:Nat):Int)+1)%((row c b).length:Int))\(.int (jC (row c b) p:Nat)):=by
  rw[em];exact c9^jA^oN e
 refine#[a,_,_,_,rfl,rfl,aJ.of j,y,by show 2<=sizeLine;decide,λt C=>?_]
 exact q t C
def Bp:Sp:=λc H Q _=>∃(T b:Addr)(f:List Addr)(w:W)(d:Nat×Nat),c= [.ref T, .ref b]/\aK H T f w/\Good w/\w.length<=14/\H b\(.tup^iZ d)/\aU w d/\
 ∀(F:Addr)(L:List (Addr×(Nat×Nat)))(k:Nat)(a:Hp),aC H a->H F=none->a F\(.lst (L.map λe=>V.ref e.1))->rW a L->L.map (·.2)=walk w d k->0<k->dH w k d=d->(∀j,0<j->j<k->dH w j d≠d)->Q (.ref F) a
def IA:aE ["_law_turns","_law_side","_law_found","_law_here"] ["_law_turns","_law_side"]^ar zK:=by bv_omega
def G9{K:ad}(h:H a\(.tup^iZ d)):Dp K H (.ref a)^pA d:= .tup (fM.of h)^.cons (.int _)^.cons (.int _) .nil
def Og(B:B3 mg)(r:bJ K mg "_law_next" Bh ["_law_turns","_law_side"])(D:bJ K mg "_law_round" zK ["_law_turns","_law_side"]):FnOk P w K mg base fJ 2 D.f D.fd ["_law_turns","_law_side"] Bp:=by
 refine D.F.ok IA (λvs H Q E h=>?_)^λaV A outer s H vs Q E hr h=>?_
 .obtain⟨T,p,x,w,d,rfl,_⟩:=h
  rfl
 let⟨T,p,x,l,d,rfl,R,g,h14,M,hd,q⟩:=h;have nd:=IA.nd;have gN:=RH (P:=P) (w:=w) (base:=base) B r
 refine#[_,aF (bW (i:=2) nd rfl (Or.inl rfl)^fS^ao (pv 1) az)
  (aF (bW (i:=3) nd rfl (Or.inl rfl)^bK gN hr rfl r.m r.F.kp r.b .nil cF^ao (pv 0)^ao (pv 1) az)
  (aF (D1 Gc (jO (FD hr.units) (pv 3) (pv 1)^aX _)
   (aF (dh^gW GT adg adh jz (pv 2)^ao (pv 3) az)
    (bB^bW (i:=3) nd rfl (Or.inl rfl)^bK gN hr rfl r.m r.F.kp r.b .nil cF^ao (pv 0)^ao (pv 3) az)))
  (bB^h8^pv 2))),?_]
 refine#[_,rfl,by show 1<=sizeLine;decide,λF C=>?_]
 have N:aC H^upd H F^.lst [.ref p]:=ay C _;have R1:aK (upd H F^.lst [.ref p]) T x l:=R.off (S:= []) (Off.of_same N) (by simp)^by simp
 refine#[_,rfl,_,rfl,T,p,x,l,d,rfl,R1,g,h14,N _ _ M,hd,λt O=>?_];have dl:=gm g;have hw:l.length*l.length<=196:=wz h14 h14
 refine OV (λX n=>∃(k:Nat)(L:List (Addr×(Nat×Nat)))(t:Addr),X= [some^.ref T,some^.ref p,some^.ref F,some^.ref t]/\0<k/\L.map (·.2)=walk l d k/\(∀j,0<j->j<k->dH l j d≠d)/\aC H n/\n F\(.lst (L.map λe=>V.ref e.1))/\rW n L/\n t\(.tup^iZ^dH l k d))
  (λX n=>(bo l).length+1-(match n F with|some^.lst xs=>xs.length|_=>0)) ?_ (λX n hP=>?_)^λX H Q Q' hq h=>?_
 .have nFt:F≠t:=λz=>by rw[<-z,ae] at O;cases O
  have nsF:p≠F:=aq M C;refine#[1,[(p,d)],t,rfl,(),rfl,λj h1 h2=>by lia,N.trans^ay O _,by rw[af nFt];exact ae,λe he=>?_,ae]
  have wV:e=(p,d):=by simpa using he
  rw[wV];exact(N.trans^ay O _) _ _ M
 .obtain⟨k,L,t,rfl,hk,hL,Hz,sm,u,Ml,v⟩:=hP
  refine#[_,rfl,_,rfl,_,_,G9 v,G9^sm _ _ M,by have:=xZ^dH l k d;lia,_,rfl,?_]
  refine yC (λc=>?_)^λc=>?_
  .have jL:dH l k d≠d:=λz=>by
    rw[(C8 _ _).mpr z] at c;cases c
   have WK:∀j,0<j->j<k+1->dH l j d≠d:=λj h1 h2=>by
    by_cases hj:j=k
    .rw[hj];exact jL
    .exact Hz j h1 ()
   have Uv:=wd g hd WK;have lL:L.length=k:=by have:=KF dz hL;rw[aI,jD] at this;exact this
   refine#[_,rfl, .inl #[rfl,_,aJ.of u],_,rfl,F,_, .ref t,rfl,rfl,u,pC (by rw[aI,lL];exact bh _)^bO (),?_]
   have nFH:H F=none:=C;have VI:aC H^upd n F^.lst ((L.map λe=>V.ref e.1)++ [.ref t]):=λb o e=>by rw[af^aq e C];exact sm b o e
   have R2:aK (upd n F^.lst ((L.map λe=>V.ref e.1)++ [.ref t])) T x l:=R.off (S:= []) (Off.of_same VI) (by simp)^by simp
   have G:t≠F:=λz=>by rw[z,u] at v;cases v
   refine#[_,rfl,_,rfl,T,t,x,l,dH l k d,rfl,R2,g,h14,by rw[af G];exact v,iJ g hd k,λY I=>?_]
   have Rz:Y≠F:=λz=>by rw[z,ae] at I;cases I
   have J:n Y=none:=by rw[af Rz] at I;exact I
   refine#[#[k+1,L++ [(t,dH l k d)],Y,rfl,(),?_,WK,VI.trans^ay I _,?_,λe he=>?_,ae],?_]
   .rw[dk,hL,t7];rfl
   .rw[af^Ne.symm Rz,ae,dk];rfl
   .rcases cE.mp he with z|z
    .have Z:=Ml e z
     rw[af^aq Z J,af^λy=>by rw[y,u] at Z;cases Z]
     exact Z
    .have z':e=(t,dH l k d):=by simpa using z
     rw[z'];show upd _ Y _ t=_;rw[af^aq v J,af G];exact v
   .show(bo l).length+1-_<(bo l).length+1-_
    rw[af^Ne.symm Rz,ae,u];simp only[eF,aI,Gp];lia
  .have heq:dH l k d=d:=by
    apply GE;intro z;apply c
    have:PyData.eqv (pA^dH l k d)^pA d=false:=by
     cases y:PyData.eqv (pA^dH l k d)^pA d with
     |false=>rfl
     |true=>exact absurd ((C8 _ _).mp y) z
    rw[this];rfl
   exact#[_,rfl,q F L k n sm C u Ml hL hk heq Hz]
 .obtain⟨v1,e1,v2,e2,d',e',a,b,c,k,ek,q⟩:=h
  exact#[v1,e1,v2,e2,d',e',a,b,c,k,ek,hq _ _ q]
end
end Ep
namespace L2
open PySem
theorem L6:∀{M:List (Addr×(Nat×Nat))},rW H M->jr K H (M.map λe=>V.ref e.1) (M.map λe=>pA e.2)
 | [],_=> .nil
 |e::M,h=> .cons (.tup (fM.of^h e c5)^.cons (.int _)^.cons (.int _) .nil) (L6 λx a=>h x^dY _ a)
end L2
namespace Ep
open PySem L2 Wb
def Qk{i:Nat}{x:V}{a:St}{H:Hp}{P R:St->Hp->Prop}(h:P (a.set i^some x) H):Al i x a H (λc e=>MU c e^λb d=>if b=true then P c d else R c d):=by
 show(if true=true then P (a.set i^some x) H else R (a.set i^some x) H);rw[mo rfl];exact h
abbrev Bi:Stmt:=top 51
theorem VC(g:Good w)(j:2<=w.length)(f:p<w.length):row w p≠ []:=by
 intro z
 have c:∃q,q<w.length/\q≠p:=by
  by_cases h:p=0
  .exact#[1,(),()]
  .exact#[0,(),λy=>h y.symm]
 let⟨q,c,ne⟩:=c;have r:=((g.con p f).symm g.sym).trans^g.con q c
 have:∀{a b},Reach w a b->a=p->b=p:=λ {a b} h=>by
  induction h with
  |refl=>exact id
  |step _ d i=>
   intro e
   have:=i e
   rw[this,z] at d;cases d
 exact ne^this r rfl
structure Xs (H:Hp) (w:W) (S:Addr) (L:List (Addr×(Nat×Nat))):Prop where
 at':H S\(.lst (L.map λe=>V.ref e.1))
 prs:rW H L
 dart:∀e∈L,aU w e.2
 few:L.length<=196
def ZX:Sp:=λg H Q _=>∃(T l:Addr)(b:Bool)(a:List Addr)(w:W)(e:List Int),g= [.ref T, .ref l, .bl b]/\aK H T a w/\Good w/\2<=w.length/\w.length<=14/\H l\(.lst^e.map V.int)/\e≠ []/\e.length<=2/\l≠T/\l∉a/\
 ∀(c:W)(f:List Int)(d:Hp),Off (l::a) H d->aK d T a c->Good c->c.length=w.length->d l\(.lst^f.map V.int)->f≠ []->f.length<=2->jv c<=jv w+2->Q .aQ d
section
variable {P:Program} {w:World} {K:ad} {mg:Str->Option Value} {base:Heap}
def Sx:aE ["_law_turns","_law_left","_law_plane_here","_law_p","_law_r","_law_sides","_law_q","_law_turn","_law_u","_law_v"] ["_law_turns","_law_left","_law_plane_here"]^ar Bi:=by bv_omega
theorem U9(B:B3 mg)(Tk:bJ K mg "_law_take" xO ["_law_left","_law_many"])(Nx:bJ K mg "_law_next" Bh ["_law_turns","_law_side"])(Rd:bJ K mg "_law_round" zK ["_law_turns","_law_side"])
  (D:bJ K mg "_law_tie" Bi ["_law_turns","_law_left","_law_plane_here"]):FnOk P w K mg base fJ 3 D.f D.fd ["_law_turns","_law_left","_law_plane_here"] ZX:=by
 refine D.F.ok Sx (λvs H Q E h=>?_)^λaV A outer s H vs Q E hr h=>?_
 .obtain⟨T,l,b,J,w,ns,rfl,_⟩:=h
  rfl
 let⟨T,l,b,J,C,ns,rfl,R,g,h2,h14,hl,jL,hz,zp,ni,q⟩:=h;have nd:=Sx.nd;have gT:=(vD (P:=P) (w:=w) (base:=base) B Tk).mono (show 1<=2 by decide)
 have gR:=Og (P:=P) (w:=w) (base:=base) B Nx Rd;have acv:C.length*C.length<=196:=wz h14 h14;have xu:(["_law_side","_law_p","_law_turns"]:List ee).Nodup:=by decide+kernel
 obtain⟨tE,pE,rE⟩:∃t,jX (kU fJ P w K mg base ["_law_turns","_law_left","_law_plane_here","_law_p","_law_r","_law_sides","_law_q","_law_turn","_law_u","_law_v"] "_law_tie" (ar Bi) D.f aV A outer s H E).mG ((dM Bi).drop 4) t/\
   ∀(p r:Nat)(S:Addr)(L:List (Addr×(Nat×Nat)))(ds:List Int)(o6 o7:Option V)(N:Hp),Off (l::J) H N->aK N T J C->p<C.length->r∈row C p->Xs N C S L->N l\(.lst^ds.map V.int)->ds≠ []->ds.length<=2->S≠l->S≠T->S∉J->
    t {nx:=λ_ H'=>Q .aQ H',rt:=Q} [some^.ref T,some^.ref l,some^.bl b,some^.int (p:Int),some^.int (r:Int),some^.ref S,o6,o7,none,none] N:=by
  refine#[_,aF (nB (i:=5) (NC:= ["_law_side","_law_p","_law_turns"]) (src:= [none,some 3,some 0]) rfl nd rfl (Or.inl rfl) (bD.of (ar Bi) rfl rfl (by decide+kernel) (by decide+kernel)^by decide+kernel) #[rfl,rfl,rfl,rfl,trivial] (lb^pv 5)
    (λ_ _ _=>cy (i:=0) xu rfl^Or.inl rfl) (λ_ _ _=>Ik^PW.pt^FI (jO ZE (cV (HL (K:=K)) (pv 0) aZ^λ_ _=>rfl) (pv 1)^aX _)^Bb^jO (KH (K:=K)) (cV (HL (K:=K)) (pv 0) aZ^λ_ _=>rfl) (cV (Du (K:=K)) (pv 2) (pv 1)^λ_ _=>rfl) rfl) (λ_ _ _=>pv 0) rfl)
   (bB^A9 (jO (FD hr.units) (pv 5) (fS az)^aX _)
    (aF (rL (cV bN (pv 5) (bK gT hr rfl Tk.m Tk.F.kp Tk.b .nil cF^ao (pv 1)^ao (cU cX rfl B.len ac5^ao (pv 5) az) az)^λ_ _=>rfl)^rJ rfl^fZ (cy (i:=8) nd rfl^Or.inl rfl)^fZ (cy (i:=9) nd rfl^Or.inl rfl) nA)
    (aF (dh^gW GT adj adk ot (cV bN (pv 0) (pv 3)^λ_ _=>rfl)^ao (gW GT adm adn rz (cV bN (pv 0) (pv 3)^λ_ _=>rfl)^ao (pv 4) az)^ao (pv 8) az)
    (bB^dh^gW GT adj adk ot (cV bN (pv 0) (pv 8)^λ_ _=>rfl)^ao (gW GT adm adn rz (cV bN (pv 0) (pv 8)^λ_ _=>rfl)^ao (pv 9) az)^ao (pv 3) az))) qs),?_]
  intro p r S L ds o6 o7 N off R1 hp Fb Z wY sC NX nSl nST WY;let⟨a,ha,jM⟩:=R1.at hp;have rY:gF (J.map V.ref) ((p:Nat):Int)\(.ref a):=c9^by rw[fm,ha];rfl
  refine#[_,rfl,S,rfl,#[_,aJ.of Z.at'],λG hD=>?_];have UZ:S≠G:=aq Z.at' hD;refine Fh (L.map λe=>V.ref e.1).length (λi lN Y=>∃(M:List (Addr×(Nat×Nat)))(o:Option V),lN= [o,some^.int (p:Int),some^.ref T]/\Y=upd N G^.lst (M.map λe=>V.ref e.1)/\(∀e∈M,e∈L/\e.2.1≠p/\e.2.1∉row C p)/\M.length<=i) ?_ ?_ ?_ ?_ ?_
  .exact#[[],none,rfl,rfl,(λe I=>by cases I),bh _]
  .rintro i lN Y hi ⟨M,o,rfl,rfl,_,_⟩
   exact#[_,_,aJ.of^by rw[af UZ];exact Z.at',eE hi]
  .rintro i lN Y hi ⟨M,o,rfl,rfl,_,_⟩
   exact#[_,aJ.of^by rw[af UZ];exact Z.at',hi]
  .rintro i x lN Y H3 hi ⟨M,o,rfl,rfl,hM,Yh⟩ ⟨rfl,hx⟩
   have uQ:=hx _^aJ.of^by rw[af UZ];exact Z.at'
   have gZ:i<L.length:=by simpa using hi
   rw[fm,eE gZ] at uQ;have ex:x= .ref (L[i]).1:=(Do uQ).symm;subst ex;have hm:L[i]∈L:=nK gZ
   have Dm:upd N G (.lst (M.map λe=>V.ref e.1)) (L[i]).1\(.tup^iZ (L[i]).2):=by
    have:=Z.prs _ hm
    rw[af^aq this hD];exact this
   have nDT:T≠G:=aq R1.top hD;have nDa:a≠G:=aq jM hD;exists _,rfl,(L[i]).1,_,0,_,rfl,rfl,fM.of Dm,c9 (j:=0) rfl,_,rfl,rfl,_,rfl;refine yC (λc=>?_)^λc=>?_
   .refine#[_,rfl,(L[i]).1,_,0,_,rfl,rfl,fM.of Dm,c9 (j:=0) rfl,?_]
    refine#[_,rfl,_,rfl,T,_,_,_,rfl,rfl,aJ.of^by rw[af nDT];exact R1.top,rY,a,_,rfl, .inl^aJ.of^by rw[af nDa];exact jM,rfl,oG _,_,rfl,?_]
    refine yC (λc2=>?_)^λc2=>?_
    .refine#[_,rfl,_,ae,pC (by rw[aI];exact Yh)^bO^by have:=Z.few;lia,M++ [L[i]],_,rfl,?_,λe I=>?_,by simp;lia]
     .rw[wc,dk];rfl
     .rcases cE.mp I with z|z
      .exact hM e z
      .have z':e=L[i]:=by simpa using z
       rw[z'];refine#[hm,λy=>?_,λy=>?_]
       .rw[show V.int ((L[i]).2.1:Int)=V.int (p:Int) by rw[y]] at c
        simp at c
       .have:Kf (V.int ((L[i]).2.1:Int))^bz^row C p=true:=by
         unfold Kf;rw[ae2];exact#[_,cQ.mpr #[_,y,rfl],qZ _]
        have c3:(!Kf (V.int ((L[i]).2.1:Int))^bz^row C p)=true:=c2;rw[this] at c3;cases c3
    .exact#[M,_,rfl,rfl,hM,()]
   .exact cL #[M,_,rfl,rfl,hM,()]
  .rintro lN Y ⟨M,o,rfl,rfl,hM,Yh⟩
   have nDl:l≠G:=aq wY hD;have nDT:T≠G:=aq R1.top hD;have few:=Z.few;rw[aI] at Yh
   have abK:rW (upd N G^.lst (M.map λe=>V.ref e.1)) M:=λe I=>by
    have:=Z.prs e (hM e I).1
    rw[af^aq this hD];exact this
   refine#[_,rfl,by show 0<=sizeLine;decide,λe1 EW=>?_]
   have n1D:e1≠G:=λz=>by rw[z,ae] at EW;cases EW
   have Lc:aC (upd N G^.lst (M.map λe=>V.ref e.1))^upd (upd N G^.lst (M.map λe=>V.ref e.1)) e1^.lst []:=ay EW _;have W9:rW (upd (upd N G^.lst (M.map λe=>V.ref e.1)) e1^.lst []) M:=λe I=>Lc _ _^abK e I;have Yd:upd (upd N G^.lst (M.map λe=>V.ref e.1)) e1 (.lst []) G\(.lst (M.map λe=>V.ref e.1)):=Lc _ _ ae;have W6:Off (l::J) H^upd (upd N G^.lst (M.map λe=>V.ref e.1)) e1^.lst []:=off.trans^(Off.put^.inr hD).trans^Off.put^.inr EW;have QW:aC N^upd (upd N G^.lst (M.map λe=>V.ref e.1)) e1^.lst []:=(ay hD _).trans Lc;have R3:aK (upd (upd N G^.lst (M.map λe=>V.ref e.1)) e1^.lst []) T J C:=R1.off (S:= []) (Off.of_same QW) (by simp)^by simp
   have NT:=QW _ _ wY;refine#[_,_, .lst (aJ.of Yd)^L6 W9, .lst (aJ.of ae) .nil,?_,_,rfl,?_]
   .rw[PyData.depth]
    have:=fi (f:=λe:Addr×(Nat×Nat)=>pA e.2) (k:=2) (λe=>xZ e.2) M
    lia
   generalize hH3:upd (upd N G^.lst (M.map λe=>V.ref e.1)) e1^.lst []=H3 at*;refine yC (λc=>?_)^λc=>?_
   .have hM0:0<M.length:=by
     cases M with
     |nil=>simp[PyData.eqv,PyData.eqvAll] at c
     |cons _ _=>simp
    exists _,rfl,_,rfl,_,rfl,G,_,rfl, .inl^aJ.of Yd;rw[aI];refine#[l,ds,_,rfl,NT,sC,(),(),(),λdI m7 d0 d1 yy Q0=>?_]
    let⟨d,rfl⟩:=wk d0;have hd:d<M.length:=()
    have nlD:G≠l:=λz=>nDl z.symm;have aaV:upd H3 l (.lst^m7.map V.int) G\(.lst (M.map λe=>V.ref e.1)):=by rw[af nlD];exact Yd
    let⟨hmL,Kb,hun⟩:=hM _^nK hd;have tL:=Z.dart _ hmL;have Dm:=W9 _^nK hd;have ntl:(M[d]).1≠l:=λz=>by rw[z,NT] at Dm;cases Dm
    refine#[G,_,_, .ref (M[d]).1,rfl,rfl,aJ.of aaV,c9^by rw[fm,eE hd];rfl,?_]
    refine#[(M[d]).1,_,rfl,fM.of^by rw[af ntl];exact Dm,rfl,_,_,rfl,_,_,rfl,rfl,?_]
    generalize M[d]=me at*;let⟨at0,u,v⟩:=me;dsimp only at*;have hu:u<C.length:=ie tL
    have X:aK (upd H3 l^.lst^m7.map V.int) T J C:=R3.keep λb O=>by
     refine af λz=>?_
     rcases O with O|O
     .exact zp^z.symm.trans O
     .rw[z] at O;exact ni O
    have E8:=X.row p a ha;have rlp:=fE g p;have rlu:=fE g u;have Zc:=BS.mpr Fb;have jlt:(row C u).idxOf v<(row C u).length:=BS.mpr tL;exists _,rfl,_,rfl,T,_,_,_,rfl,rfl,aJ.of X.top,rY, .inl #[rfl,_,aJ.of E8];exists _,rfl,_,rfl,T,_,_,_,rfl,rfl,aJ.of X.top,rY, .inl #[rfl,_,aJ.of E8],_,rfl;exists a,_,_,(row C p).idxOf r,_,rfl,rfl,E8,rfl,oG _,jA^uR Fb,qZ r,tQ (g.nod _) Fb;refine#[_,rfl,a,_,_,_,rfl,rfl,E8,(),by rw[cc];lia,pC (by rw[cc];exact rlp)^bO (),?_]
    rw[nJ,<-rM];have R5:aK (upd (upd H3 l^.lst^m7.map V.int) a^.lst^bz^ins (row C p) ((row C p).idxOf r) u) T J^C.set p^ins (row C p) ((row C p).idxOf r) u:=X.put ha (λb _ O=>af O) ae;let⟨a2,Qw,U⟩:=X.at hu;have qg:=R5.row u a2 Qw;rw[jQ hp,tz^Ne.symm Kb] at qg;have at2:gF (J.map V.ref) ((u:Nat):Int)\(.ref a2):=c9^by rw[fm,Qw];rfl
    exists _,rfl,_,rfl,T,_,_,_,rfl,rfl,aJ.of R5.top,at2, .inl #[rfl,_,aJ.of qg];exists _,rfl,_,rfl,T,_,_,_,rfl,rfl,aJ.of R5.top,at2, .inl #[rfl,_,aJ.of qg],_,rfl;exists a2,_,_,(row C u).idxOf v,_,rfl,rfl,qg,rfl,oG _,jA^uR tL,qZ v,tQ (g.nod _) tL;refine#[_,rfl,a2,_,_,_,rfl,rfl,qg,(),by rw[cc];lia,pC (by rw[cc];exact rlu)^bO (),?_]
    rw[nJ,<-rM];have R6:aK (upd (upd (upd H3 l^.lst^m7.map V.int) a^.lst^bz^ins (row C p) ((row C p).idxOf r) u) a2^.lst^bz^ins (row C u) ((row C u).idxOf v) p) T J^zA C p ((row C p).idxOf r) u^(row C u).idxOf v:=R5.put Qw (λb _ O=>af O) ae;have U3:l≠a:=λz=>ni^by rw[z];exact cR ha
    have abA:l≠a2:=λz=>ni^by rw[z];exact cR Qw
    refine q _ m7 _ ?_ R6 (NH g hp hu Kb hun) (By _ _ _ _ _) ?_ yy ()^by rw[PN hp hu Kb];exact bh _
    .exact W6.trans^(Off.put^.inl c5).trans^(Off.put^.inl^dY _^cR ha).trans^Off.put^.inl^dY _^cR Qw
    .rw[af abA,af U3,ae]
   .exact q C ds _ W6 R3 g rfl NT sC NX ()
 have Zs:(["_law_s","_law_q"]:List ee).Nodup:=by decide+kernel
 refine#[_,aF (bW (i:=3) nd rfl (Or.inr rfl)^bK gT hr rfl Tk.m Tk.F.kp Tk.b .nil cF^ao (pv 1)^ao (cU cX rfl B.len ac5^ao (pv 0) az) az)
  (aF (bW (i:=4) nd rfl (Or.inl rfl)^cV bN (cV bN (pv 0) (pv 3)^λ_ _=>rfl) (bK gT hr rfl Tk.m Tk.F.kp Tk.b .nil cF^ao (pv 1)^ao (cU cX rfl B.len ac5^ao (cV bN (pv 0) (pv 3)^λ_ _=>rfl) az) az)^λ_ _=>rfl)
  (aF (bW (i:=5) nd rfl (Or.inl rfl)^bK gR hr rfl Rd.m Rd.F.kp Rd.b .nil cF^ao (pv 0)^ao (vG^ao (pv 3)^ao (pv 4) az) az)
  (aF (A9 (Mz^Vu^pv 2)
   (aF (bW (i:=5) nd rfl (Or.inl rfl)^fS az)
   (bB^kC Gc rfl (A7 rfl B.enumerate^ao (pv 0) az) (rJ rfl^fZ (cy (i:=6) nd rfl^Or.inr rfl)^fZ (cy (i:=7) nd rfl^Or.inl rfl) nA)
    (bB^dh^gW GT ae3 ae4 AQ (pv 5)^ao (KL (NC:= ["_law_s","_law_q"]) (src:= [none,some 6]) rfl (bD.of (ar Bi) rfl rfl (by decide+kernel) (by decide+kernel)^by decide+kernel) #[rfl,rfl,trivial] (lb^pv 7)
     (λ_ _ _=>cy (i:=0) Zs rfl^Or.inl rfl) (λ_ _ _=>qt)^λ_ _ _=>vG^ao (pv 1)^ao (pv 0) az) az))) qs) pE))),?_]
 have Qs:H T=_:=R.top;have lmap:(J.map V.ref).length=C.length:=by rw[aI,R.len]
 refine#[_,rfl,_,rfl,T,_,rfl, .inl^aJ.of R.top,l,ns,_,rfl,hl,jL,(),(),(),λdI pX d0 d1 sC NX=>?_]
 let⟨p,rfl⟩:=wk d0;have hp:p<C.length:=()
 have keep:∀(o:HO),aK (upd H l o) T J C:=λo=>R.keep λb O=>by
  refine af λz=>?_
  rcases O with O|O
  .exact zp^z.symm.trans O
  .rw[z] at O;exact ni O
 have R1:=keep^.lst^pX.map V.int;let⟨a,ha,jM⟩:=R1.at hp;have rY:gF (J.map V.ref) ((p:Nat):Int)\(.ref a):=c9^by rw[fm,ha];rfl
 have rne:=VC g h2 hp;have acN:0<(row C p).length:=Gs.mpr rne;have rl:=fE g p;have rvl:=cc^row C p;exists _,rfl,_,rfl,T,_,_,_,rfl,rfl,aJ.of R1.top,rY;refine#[_,rfl,_,rfl,_,rfl,T,_,_,_,rfl,rfl,aJ.of R1.top,rY,a,_,rfl, .inl^aJ.of jM,l,pX,_,rfl,ae,sC,(by lia),(by lia),(by lia),λdI2 m7 e0 e1 yy Q0=>?_]
 rw[wc];let⟨j,rfl⟩:=wk e0;have hj:j<(row C p).length:=()
 have R2:=keep^.lst^m7.map V.int;have J8:=R2.row p a ha;exists a,_,_,_,rfl,rfl,aJ.of J8,c9^jA^eE hj;have Fb:(row C p)[j]∈row C p:=nK hj;generalize (row C p)[j]=r at Fb;have W5:Off (l::J) H^upd H l^.lst^m7.map V.int:=Off.put^.inl c5;have qd:upd H l (.lst^m7.map V.int) l\(.lst^m7.map V.int):=ae;generalize upd H l^.lst^m7.map V.int=H2 at R2 W5 qd;refine#[_,rfl,_,rfl,_,rfl,by show 2<=sizeLine;decide,λZ HB=>?_]
 have ss:=ay HB^.tup [V.int (p:Int),V.int (r:Int)];have R3:aK (upd H2 Z^.tup [V.int (p:Int),V.int (r:Int)]) T J C:=R2.off (S:= []) (Off.of_same ss) (by simp)^by simp
 refine#[T,Z,J,C,(p,r),rfl,R3,g,h14,ae,Fb,λF L k H4 sm4 NJ hF Ml hL hk hit Hz=>?_];have SE:aC H2 H4:=ss.trans sm4;have X:aK H4 T J C:=R2.off (S:= []) (Off.of_same SE) (by simp)^by simp
 have YK:=SE _ _ qd;have W7:Off (l::J) H H4:=W5.trans^Off.of_same SE;have tL:aU C (p,r):=Fb;have kd:=wd g tL Hz;have dl:=gm g;have Xo:∀e∈L,aU C e.2:=λe I=>oP g tL (k:=k) e.2^by rw[<-hL];exact cQ.mpr #[e,I,rfl]
 have acw:L.length=k:=by have:=KF dz hL;rw[aI,jD] at this;exact this
 have nFl:F≠l:=λz=>by rw[z,ss _ _ qd] at NJ;cases NJ
 have nFT:F≠T:=λz=>by rw[z,R3.top] at NJ;cases NJ
 have abv:F∉J:=λz=>by
  let⟨i,hi⟩:=jh z;rw[R3.row i F hi] at NJ;cases NJ
 refine#[_,rfl,_,rfl,yC (λ_=>?_)^λ_=>?_]
 .
  refine#[by show 0<=sizeLine;decide,λS hS=>?_]
  have nSl:S≠l:=λz=>by rw[z,YK] at hS;cases hS
  have nST:S≠T:=λz=>by rw[z,X.top] at hS;cases hS
  have WY:S∉J:=λz=>by
   let⟨i,hi⟩:=jh z;rw[X.row i S hi] at hS;cases hS
  refine#[_,rfl,T,rfl,#[_,(ay hS _) _ _ X.top],Dg (xs:=J.map V.ref) (λi σ H'=>∃(o6 o7:Option V)(L:List (Addr×(Nat×Nat))),σ= [some^.ref T,some^.ref l,some^.bl b,some^.int (p:Int),some^.int (r:Int),some^.ref S,o6,o7,none,none]/\aC H4 H'/\H' S\(.lst (L.map λe=>V.ref e.1))/\rW H' L/\(∀e∈L,aU C e.2)/\L.length<=i*14) ?_ ?_ ?_ ?_]
  .exact#[_,_,[],rfl,ay hS _,ae,(λe I=>by cases I),(λe I=>by cases I),d9 _]
  .rintro i σ H' _ ⟨o6,o7,L,rfl,sm,_⟩
   exact aJ.of^sm _ _ X.top
  .rintro i x t σ H5 hx ht ⟨o6,o7,L,rfl,OH,Yj,J4,Yv,QK⟩
   rw[fm] at hx;let⟨ai,NN,rfl⟩:=adN.mp hx;have hi:i<C.length:=by rw[<-X.len];exact(cz.mp NN).1
   exists t,_,rfl,fM.of ae,rfl,_,_,rfl,_,_,rfl,rfl;have s6:=ay ht^.tup [V.int (i:Int),V.ref ai];generalize upd H5 t^.tup [V.int (i:Int),V.ref ai]=H6 at s6;have E9:=s6 _ _^OH _ _^X.row i ai NN;have Yk:=s6 _ _ Yj;have rli:=fE g i;refine#[_,rfl, .inl #[rfl,_,aJ.of Yk],_,rfl,ai,rfl,#[_,aJ.of E9],λG hD=>?_];have UZ:S≠G:=aq Yk hD;refine Fh (bz^row C i).length (λj lN Y=>∃(o:Option V)(M:List (Addr×(Nat×Nat))),lN= [o,some^.int (i:Int)]/\aC H6 Y/\Y G\(.lst (M.map λe=>V.ref e.1))/\rW Y M/\(∀e∈M,aU C e.2)/\M.length<=j) ?_ ?_ ?_ ?_ ?_
   .exact#[none,[],rfl,ay hD _,ae,(λe I=>by cases I),(λe I=>by cases I),bh _]
   .rintro j lN Y hj ⟨o,M,rfl,CH,_⟩
    exact#[_,_,aJ.of^CH _ _ E9,eE hj]
   .rintro j lN Y hj ⟨o,M,rfl,CH,_⟩
    exact#[_,aJ.of^CH _ _ E9,hj]
   .rintro j x lN Y H7 hj ⟨o,M,rfl,CH,hM,J5,Yx,YM⟩ ⟨rfl,hx⟩
    let⟨n,hn,rfl⟩:=xM^hx _^aJ.of^CH _ _ E9;refine Qk ?_;refine#[_,rfl,_,rfl,by show 2<=sizeLine;decide,λtt Cu=>?_]
    have s8:=ay Cu^.tup [V.int (i:Int),V.int (n:Int)];have WM:upd H7 tt (.tup [V.int (i:Int),V.int (n:Int)]) tt\(.tup^iZ (i,n)):=ae;generalize upd H7 tt^.tup [V.int (i:Int),V.int (n:Int)]=H8 at s8 WM;have ntD:tt≠G:=λz=>by rw[z,hM] at Cu;cases Cu
    refine#[_,s8 _ _ hM,pC (by rw[aI];exact YM)^bO^by rw[cc] at hj;lia,_,M++ [(tt,(i,n))],rfl,λb u eb=>?_,?_,λe I=>?_,λe I=>?_,by simp;lia]
    .rw[af^aq eb hD];exact s8 _ _^CH _ _ eb
    .rw[ae,dk];rfl
    .rcases cE.mp I with z|z
     .have:=J5 e z
      rw[af^λy=>by rw[y,hM] at this;cases this]
      exact s8 _ _ this
     .have z':e=(tt,(i,n)):=by simpa using z
      rw[z',af ntD];exact WM
    .rcases cE.mp I with z|z
     .exact Yx e z
     .have z':e=(tt,(i,n)):=by simpa using z
      rw[z'];exact cR hn
   .rintro lN Y ⟨o,M,rfl,CH,hM,J5,Yx,YM⟩
    rw[cc] at YM;have hSc:=CH _ _ Yk;refine#[S,G,_,_,rfl,rfl,hSc,hM,small^by simp;lia,?_]
    refine#[_,_,L++M,rfl,λb u eb=>?_,?_,λe I=>?_,λe I=>?_,by simp;lia]
    .rw[af^aq eb hS];exact CH _ _^s6 _ _^OH _ _ eb
    .rw[ae,dk]
    .have hh:Y e.1\(.tup^iZ e.2):=by
      rcases cE.mp I with z|z
      .exact CH _ _^s6 _ _^J4 e z
      .exact J5 e z
     rw[af^λy=>by rw[y,hSc] at hh;cases hh];exact hh
    .rcases cE.mp I with z|z
     .exact Yv e z
     .exact Yx e z
  .rintro σ H5 ⟨o6,o7,L,rfl,OH,Yj,J4,Yv,QK⟩
   rw[aI,X.len] at QK;exact rE p r S L m7 o6 o7 H5 (W7.trans^Off.of_same OH) (X.off (S:= []) (Off.of_same OH) (by simp)^by simp) hp Fb #[Yj,J4,Yv,()] (OH _ _ YK) yy () nSl nST WY
 .exact rE p r F L m7 none none H4 W7 X hp Fb #[hF,Ml,Xo,()] YK yy () nFl nFT abv
end
abbrev Iy:Stmt:=top 52
def aK.abR(R:aK H T d w)(n:k<w.length)(o:a∉d)(l:a≠T)(h:∀b,b∈d->g b=H b)(p:g T\(.lst^(d.set k a).map V.ref))
  (e:g a\(.lst^bz r)):aK g T (d.set k a)^w.set k r:=by
 have q:k<d.length:=by rw[R.len];exact n
 refine#[p,?_,λz=>?_,by rw[i6,i6];exact R.len,λi b f=>?_]
 .unfold c4
  rw[BR];intro i j c m lt;rw[i6] at c m;rw[List.getElem_set,List.getElem_set];have s:=BR.mp R.nod
  split
  .split
   .lia
   .intro z;exact o^by rw[z];exact nK m
  .split
   .intro z;exact o^by rw[<-z];exact nK c
   .exact s i j c m lt
 .rcases aeR z with z|z
  .exact R.nT z
  .exact l z.symm
 .rw[jQ n]
  rw[pD] at f
  by_cases c:k=i
  .rw[mo c,mo q] at f
   cases f;rw[mo c];exact e
  .rw[tz c] at f
   rw[tz c,h b^cR f];exact R.row i b f
def Q8(h:k<n):k4 n (k:Int)\k:=by
 unfold k4;rw[mo (),mo (),nJ]
def TJ(a:List V)(b:Nat):jb a (some (b:Int)) none=a.drop b:=by
 unfold jb;rw[HT.Iw,HT.D8]
 by_cases h:b<=a.length
 .rw[afe h,sU^by rw[pG];exact bh _]
 .rw[Nat.min_eq_right (),BU^bh _,BU ()];simp
def TH(a:List V)(b:Nat):jb a none^some (b:Int)=a.take b:=by
 unfold jb;rw[HT.Iw,HT.D8,List.drop_zero,Nat.sub_zero]
 by_cases h:b<=a.length
 .rw[afe h]
 .rw[Nat.min_eq_right (),sU^bh _,sU ()]
def K6(r:List Nat)(b:Nat):(bz r).take b=bz^r.take b:=by unfold bz;rw[adQ]
def K5(r:List Nat)(b:Nat):(bz r).drop b=bz^r.drop b:=by unfold bz;rw[aeD]
def OD(r s:List Nat):bz r++bz s=bz (r++s):=by unfold bz;rw[dk]
def OC(l:List a)(b:Nat):(l.drop b++l.take b).Perm l:=by
 have:=(List.perm_append_comm (l₁:=l.drop b) (l₂:=l.take b))
 rwa [lG] at this
structure Ord (ord:List Nat) (n:Nat):Prop where
 pm:ord.Perm^ak n
def Ord.len(o:Ord ord n):ord.length=n:=by rw[o.pm.length_eq,pF]
def Ord.get(o:Ord ord n)(h:p<n):ord[p]?\(ord.getD p 0):=by
 rw[fu,eE^by rw[o.len];exact h];rfl
def Ord.into(o:Ord ord n)(h:p<n):ord.getD p 0<n:=i7.mp^o.pm.mem_iff.mp^cR^o.get h
def Ord.inj(o:Ord ord n)(b:p<n)(c:q<n)(e:ord.getD p 0=ord.getD q 0):p=q:=by
 have d:ord.Nodup:=o.pm.nodup_iff.mpr adX;have a:=o.get b;rw[e] at a;exact get_inj d a^o.get c
def Ord.IK(o:Ord ord n)(h:y<n):∃p,p<n/\ord.getD p 0=y:=by
 have:=o.pm.mem_iff.mpr^i7.mpr h
 let⟨p,a⟩:=jh this;have lt:=(cz.mp a).1;rw[o.len] at lt
 have:=o.get lt
 rw[a] at this;exact#[p,lt,(Do this).symm]
structure Xr (H:Hp) (T:Addr) (as:List Addr) (w:W):Prop where
 top:H T\(.lst^as.map V.ref)
 len:as.length=w.length
 row:∀(i:Nat) a,as[i]?\a->H a\(.lst^bz^Wb.row w i)
def ZW:Sp:=λg H Q _=>∃(T O l:Addr)(f:List Addr)(w:W)(ord:List Nat)(d:List Int),g= [.ref T, .ref O, .ref l]/\Xr H T f w/\Good w/\w.length<=14/\H O\(.lst^bz ord)/\Ord ord w.length/\H l\(.lst^d.map V.int)/\d≠ []/\d.length<=2/\l≠T/\l∉f/\l≠O/\
 ∀(F:Addr)(fs:List Addr)(c:W)(e:Hp),Off [l] H e->H F=none->(∀a∈fs,H a=none)->aK e F fs c->Good c->c.length=w.length->jv c=jv w->(∀p,p<w.length->∃b,row c^ord.getD p 0=((row w p).map λx=>ord.getD x 0).drop b++((row w p).map λx=>ord.getD x 0).take b)->Q (.ref F) e
section
variable {P:Program} {w:World} {K:ad} {mg:Str->Option Value} {base:Heap}
def Sw:aE ["_law_turns","_law_order","_law_left","_law_found","_law_p","_law_turn","_law_begin","_law_names"] ["_law_turns","_law_order","_law_left"]^ar Iy:=by bv_omega
def U8(B:B3 mg)(Tk:bJ K mg "_law_take" xO ["_law_left","_law_many"])(D:bJ K mg "_law_renamed" Iy ["_law_turns","_law_order","_law_left"]):FnOk P w K mg base fJ 2 D.f D.fd ["_law_turns","_law_order","_law_left"] ZW:=by
 refine D.F.ok Sw (λvs H Q E h=>?_)^λaV A outer s H vs Q E hr h=>?_
 .obtain⟨T,O,l,as,w,ord,ns,rfl,_⟩:=h
  rfl
 let⟨T,O,l,as,c,ord,ns,rfl,R,g,h14,hO,Y,hl,jL,hz,zp,ni,nlO,q⟩:=h;have nd:=Sw.nd;have Oa:(["_law_turn"]:List ee).Nodup:=by decide+kernel
 have xu:(["_law_q","_law_order"]:List ee).Nodup:=by decide+kernel
 have gT:=vD (P:=P) (w:=w) (base:=base) B Tk
 refine#[_,aF (nB (i:=3) (NC:= ["_law_turn"]) (src:= [none]) rfl nd rfl (Or.inl rfl) (bD.of (ar Iy) rfl rfl (by decide+kernel) (by decide+kernel)^by decide+kernel) trivial (lb^pv 0)
    (λ_ _ _=>cy (i:=0) Oa rfl^Or.inl rfl) (λ_ _ _=>qt) (λ_ _ _=>fS az) rfl)
  (aF (kC Gc rfl (A7 rfl B.enumerate^ao (pv 0) az) (rJ rfl^fZ (cy (i:=4) nd rfl^Or.inl rfl)^fZ (cy (i:=5) nd rfl^Or.inl rfl) nA)
   (aF (bW (i:=6) nd rfl (Or.inl rfl)^bK gT hr rfl Tk.m Tk.F.kp Tk.b .nil cF^ao (pv 2)^ao (cW iY (cU cX rfl B.len ac5^ao (pv 5) az) aZ) az)
   (aF (nB (i:=7) (NC:= ["_law_q","_law_order"]) (src:= [none,some 1]) rfl nd rfl (Or.inl rfl) (bD.of (ar Iy) rfl rfl (by decide+kernel) (by decide+kernel)^by decide+kernel) #[rfl,rfl,trivial] (lb^pv 5)
    (λ_ _ _=>cy (i:=0) xu rfl^Or.inl rfl) (λ_ _ _=>qt) (λ_ _ _=>cV (Du (K:=K)) (pv 1) (pv 0)^λ_ _=>rfl) rfl)
   (bB^rL (cW zI (rG vX (pv 7) (qr^pv 6) A8)^rG vX (pv 7) A8^qr^pv 6)^FG (pv 3) (cV bN (pv 1) (pv 4)^λ_ _=>rfl) set_list))))
  (bB^h8^pv 3)),?_]
 refine#[_,rfl,T,rfl,#[_,aJ.of R.top],λF hF=>?_];refine Fh (as.map V.ref).length (λi G C=>∃(o:Option V)(fs:List Addr),G= [o]/\aC H C/\C F\(.lst^fs.map V.ref)/\fs.Nodup/\F∉fs/\(∀a∈fs,H a=none/\C a\(.lst []))/\fs.length=i) ?_ ?_ ?_ ?_ ?_
 .exact#[none,[],rfl,ay hF _,ae,iN,(by simp),(λa ha=>by cases ha),rfl]
 .rintro i G C N ⟨o,fs,rfl,d,_⟩
  exact#[_,_,aJ.of^d _ _ R.top,eE N]
 .rintro i G C N ⟨o,fs,rfl,d,_⟩
  exact#[_,aJ.of^d _ _ R.top,N]
 .rintro i x G C H3 N ⟨o,fs,rfl,d,hf,nf,nF,fr,hl⟩ ⟨rfl,Z⟩
  rw[aI,R.len] at N;refine Qk ?_;refine#[by show 0<=sizeLine;decide,λr eY=>?_]
  have Zv:r≠F:=λz=>by rw[z,hf] at eY;cases eY
  have W3:r∉fs:=λz=>by rw[(fr r z).2] at eY;cases eY
  refine#[_,by rw[af^Ne.symm Zv];exact hf,bO^by simp;lia,_,fs++ [r],rfl,λb u X=>?_,?_,?_,?_,λa ha=>?_,by simp[hl]]
  .rw[af^aq X hF,af^aq (d _ _ X) eY];exact d _ _ X
  .rw[ae,dk];rfl
  .rw[hZ]
   exact#[nf,by simp,λx Z y hy z=>by
    have:y=r:=by simpa using hy
    rw[this] at z;rw[z] at Z;exact W3 Z]
  .intro z
   rcases cE.mp z with z|z
   .exact nF z
   .have:F=r:=by simpa using z
    exact Zv this.symm
  .rcases cE.mp ha with z|z
   .refine#[(fr a z).1,?_]
    rw[af^λy=>nF^by rw[<-y];exact z,af^λy=>W3^by rw[<-y];exact z]
    exact(fr a z).2
   .have:a=r:=by simpa using z
    rw[this];exact#[d.free eY,by rw[af Zv,ae]]
 rintro G H1 ⟨o,fs0,rfl,Lc,hF1,nf0,nF0,Qf,NS⟩;rw[aI,R.len] at NS;have wY:=Lc _ _ hl;have Zu:l≠F:=λz=>by rw[z,hF] at hl;cases hl
 have R1:aK H1 F fs0^cb c.length []:=by
  refine#[hF1,nf0,nF0,by rw[NS,yW],λi a e=>?_]
  have hz:row (cb c.length []) i= []:=by
   unfold row;rw[fu,yU]
   split<;>rfl
  rw[hz];exact(Qf a^cR e).2
 refine#[_,rfl,T,rfl,#[_,Lc _ _ R.top],Dg (xs:=as.map V.ref) (λi σ H'=>∃(o4 o5 o6 o7:Option V)(fs:List Addr)(I:W)(ds:List Int),σ= [some^.ref T,some^.ref O,some^.ref l,some^.ref F,o4,o5,o6,o7]/\Off [l] H H'/\aK H' F fs I/\(∀a∈fs,H a=none)/\I.length=c.length/\
   (∀p,p<i->∃b,row I^ord.getD p 0=((row c p).map λx=>ord.getD x 0).drop b++((row c p).map λx=>ord.getD x 0).take b)/\H' l\(.lst^ds.map V.int)/\ds≠ []/\ds.length<=2) ?_ ?_ ?_ ?_]
 .exact#[_,_,_,_,fs0,_,ns,rfl,Off.of_same Lc,R1,λa ha=>(Qf a ha).1,yW,(λp J=>by lia),wY,jL,hz]
 .rintro i σ H' _ ⟨o4,o5,o6,o7,fs,I,ds,rfl,off,_⟩
  exact aJ.of^off _ _ (~~~Ne.symm zp) R.top
 .rintro i x t σ H5 Z ht ⟨o4,o5,o6,o7,fs,I,ds,rfl,off,R5,tH,nk,Bc,QK,WI,hz5⟩
  rw[fm] at Z;let⟨ai,NN,rfl⟩:=adN.mp Z;have N:i<c.length:=by rw[<-R.len];exact(cz.mp NN).1
  have W0:l≠ai:=λz=>ni^by rw[z];exact cR NN
  have qg:H5 ai=_:=off _ _ (~~~Ne.symm W0)^R.row i ai NN
  have JS:H5 O=_:=off _ _ (~~~Ne.symm nlO) hO
  exists t,_,rfl,fM.of ae,rfl,_,_,rfl,_,_,rfl,rfl;have s6:=ay ht^.tup [V.int (i:Int),V.ref ai];generalize upd H5 t^.tup [V.int (i:Int),V.ref ai]=H6 at s6;have rli:=fE g i;have rvl:=cc^row c i;refine#[_,rfl,_,rfl,ai,_,rfl, .inl^aJ.of^s6 _ _ qg,_,_,rfl,rfl,l,ds,_,rfl,s6 _ _ QK,WI,(),(),(),λdI pX d0 d1 sC NX=>?_]
  let⟨b,rfl⟩:=wk d0;have RE:Off [l] H^upd H6 l^.lst^pX.map V.int:=(off.trans^Off.of_same s6).trans^Off.put^.inl c5;have r8:upd H6 l (.lst^pX.map V.int) l\(.lst^pX.map V.int):=ae;have abB:l∉fs:=λz=>by rw[tH l z] at hl;cases hl
  have R7:aK (upd H6 l^.lst^pX.map V.int) F fs I:=(R5.off (S:= []) (Off.of_same s6) (by simp)^by simp).keep λb M=>by
   refine af λz=>?_
   rcases M with M|M
   .exact Zu^z.symm.trans M
   .rw[z] at M;exact abB M
  have Av:upd H6 l (.lst^pX.map V.int) ai\(.lst^bz^row c i):=by rw[af^Ne.symm W0];exact s6 _ _ qg
  have NL:upd H6 l (.lst^pX.map V.int) O\(.lst^bz ord):=by rw[af^Ne.symm nlO];exact s6 _ _ JS
  generalize upd H6 l^.lst^pX.map V.int=H7 at RE r8 R7 Av NL;refine#[_,rfl,ai,rfl,#[_,aJ.of Av],λNm hNm=>?_];refine Fh (bz^row c i).length (λj G C=>∃(o:Option V),G= [o,some^.ref O]/\aC H7 C/\C Nm\(.lst^bz (((row c i).take j).map λx=>ord.getD x 0))) ?_ ?_ ?_ ?_ ?_
  .exact#[none,rfl,ay hNm _,ae]
  .rintro j G C hj ⟨o,rfl,d,_⟩
   exact#[_,_,aJ.of^d _ _ Av,eE hj]
  .rintro j G C hj ⟨o,rfl,d,_⟩
   exact#[_,aJ.of^d _ _ Av,hj]
  .rintro j x G C H8 hj ⟨o,rfl,d,hN⟩ ⟨rfl,Z⟩
   let⟨n,hn,rfl⟩:=xM^Z _^aJ.of^d _ _ Av;have YS:n<c.length:=g.rng _ _^cR hn;refine Qk ?_;exists _,rfl,_,rfl,O,_,_,_,rfl,rfl,aJ.of^d _ _ NL,c9^jA^Y.get YS;refine#[_,hN,pC (by rw[cc,aI,ji];exact Nat.min_le_right _ _)^bO (),_,rfl,λb u X=>?_,?_]
   .rw[af^aq X hNm];exact d _ _ X
   .obtain⟨bQ,hg⟩:=cz.mp hn
    rw[ae,adW bQ,hg,dk];unfold bz;rw[dk];rfl
  rintro G H8 ⟨o,rfl,sm8,Um⟩;rw[rvl,za] at Um;generalize hnm:((row c i).map λx=>ord.getD x 0)=v at Um;have nml:v.length<=14:=by rw[<-hnm,aI];lia
  refine#[_,rfl,_,rfl,_,rfl,Nm,_,rfl,aJ.of Um,λc1 hc1=>?_];rw[TJ,K5];have s9:=ay hc1^.lst^bz^v.drop b;have e9:upd H8 c1 (.lst^bz^v.drop b) c1=_:=ae;generalize upd H8 c1^.lst^bz^v.drop b=H9 at s9 e9;refine#[_,rfl,_,rfl,_,rfl,Nm,_,rfl,aJ.of^s9 _ _ Um,λc2 Cn=>?_];rw[TH,K6];have Be:=ay Cn^.lst^bz^v.take b;have e10:upd H9 c2 (.lst^bz^v.take b) c2=_:=ae;generalize upd H9 c2^.lst^bz^v.take b=zd at Be e10;refine#[c1,c2,_,_,rfl,rfl,Be _ _ e9,e10,small^by rw[cc,cc,pG,ji];omega,λL hc3=>?_]
  rw[OD];have FN:=ay hc3^.lst^bz (v.drop b++v.take b);have e11:upd zd L (.lst^bz (v.drop b++v.take b)) L=_:=ae;have yv:zd L=none:=hc3;generalize upd zd L^.lst^bz (v.drop b++v.take b)=B4 at FN e11;have MG:aC H7 B4:=sm8.trans^s9.trans^Be.trans FN;have MF:aC H7 zd:=sm8.trans^s9.trans Be;have Xq:aK B4 F fs I:=R7.off (S:= []) (Off.of_same MG) (by simp)^by simp
  have YT:=Y.into N;have lfs:(fs.map V.ref).length=c.length:=by rw[aI,R7.len,nk]
  refine#[_,rfl,_,rfl,_,rfl,O,_,_,_,rfl,rfl,aJ.of^MG _ _ NL,c9^jA^Y.get N,F,_,_,ord.getD i 0,rfl,rfl,Xq.top,by rw[lfs];exact Q8 YT,?_]
  have WZ:L≠F:=λz=>by rw[z,MF _ _ R7.top] at yv;cases yv
  have Zr:L∉fs:=λz=>by
   let⟨k,hk⟩:=jh z;rw[MF _ _^R7.row k L hk] at yv;cases yv
  have aaW:H L=none:=by
   cases e:H L with
   |none=>rfl
   |some u=>
    by_cases z:L=l
    .rw[z,MF _ _ r8] at yv;cases yv
    .rw[MF _ _^RE _ _ (~~~z) e] at yv;cases yv
  have acM:l≠F:=Zu;refine#[_,_,_,_,fs.set (ord.getD i 0) L,I.set (ord.getD i 0) (v.drop b++v.take b),pX,rfl,?_,?_,λa ha=>?_,by rw[i6];exact nk,λp J=>?_,?_,sC,()]
  .exact λb u M X=>by rw[af^aq X hF];exact MG _ _^RE b u M X
  .refine Xq.abR (by rw[nk];exact YT) Zr WZ (λb M=>af λz=>Xq.nT^by rw[<-z];exact M) ?_ ?_
   .rw[ae,afA]
   .rw[af WZ];exact e11
  .rcases aeR ha with z|z
   .exact tH a z
   .rw[z];exact aaW
  .rw[jQ^by rw[nk];exact YT]
   by_cases e:p=i
   .subst e
    rw[mo rfl,hnm];exact#[b,rfl]
   .rw[tz^λz=>e^Y.inj () N z.symm]
    exact Bc p ()
  .rw[af Zu];exact MG _ _ r8
 .rintro σ H5 ⟨o4,o5,o6,o7,fs,I,ds,rfl,off,R5,tH,nk,Bc,QK,WI,hz5⟩
  rw[aI,R.len] at Bc
  have pm5:∀p,p<c.length->(row I^ord.getD p 0).Perm ((row c p).map λx=>ord.getD x 0):=λp J=>by
   let⟨b,e⟩:=Bc p J;rw[e];exact OC _ b
  exact#[_,rfl,q F fs I H5 off hF tH R5 (NG g nk (λp J=>Y.into J) (λp q J hq e=>Y.inj J hq e) (λy hy=>Y.IK hy) λp J=>pm5 p J) nk (PM nk Y.pm λp J=>pm5 p J) Bc]
end
abbrev Sv:Stmt:=top 53
def boot_int:bootBuiltins "int"\(.type "int"):=by decide+kernel
def VV(K:ad):Sp:=λf H Q _=>∃(a:Addr)(e:List Int)(m:Int)(b:Bool),f= [.ref a, .int m, .bl b]/\aJ K H a^e.map V.int/\e.length<=63/\1<=m/\m<=14/\
 ∀(F:Addr)(fs:List Addr)(c:W)(d:Hp),aC H d->H F=none->(∀a∈fs,H a=none)->aK d F fs c->Good c->1<=c.length->(c.length:Int)<=m->jv c<=102->Q (.ref F) d
section
variable {P:Program} {w:World} {K:ad} {mg:Str->Option Value} {base:Heap}
def MM:aE ["_law_script","_law_most","_law_plane_here","_law_left","_law_many","_law_turns","_law_order","_law_k","_law_at"] ["_law_script","_law_most","_law_plane_here"]^ar Sv:=by bv_omega
theorem RK(B:B3 mg)(Ce:bJ K mg "_law_cell" Bf ["_law_script","_law_k"])(Mi:bJ K mg "_law_mixed" zJ ["_law_script","_law_turn"])(L:bJ K mg "_law_digits" Bg ["_law_script","_law_at"])(Tk:bJ K mg "_law_take" xO ["_law_left","_law_many"])
  (Tr:bJ K mg "_law_tree" K9 ["_law_many","_law_left"]) (Nx:bJ K mg "_law_next" Bh ["_law_turns","_law_side"]) (Rd:bJ K mg "_law_round" zK ["_law_turns","_law_side"]) (Ti:bJ K mg "_law_tie" Bi ["_law_turns","_law_left","_law_plane_here"]) (Re:bJ K mg "_law_renamed" Iy ["_law_turns","_law_order","_law_left"])
  (D:bJ K mg "_law_web" Sv ["_law_script","_law_most","_law_plane_here"]):FnOk P w K mg base fJ 4 D.f D.fd ["_law_script","_law_most","_law_plane_here"]^VV K:=by
 refine D.F.ok MM (λvs H Q E h=>?_)^λaV A outer s H vs Q E M h=>?_
 .obtain⟨a,ns,m,b,rfl,_⟩:=h
  rfl
 obtain⟨a,ns,m,b,rfl,hS,tK,m1,Zm,q⟩:=h;have Y:=MM.nd;have gD:=KA (P:=P) (w:=w) (base:=base) B Ce Mi L;have gT:=(vD (P:=P) (w:=w) (base:=base) B Tk).mono (show 1<=3 by decide)
 have gTr:=(RJ (P:=P) (w:=w) (base:=base) B Tk Tr).mono (show 2<=3 by decide)
 have gTi:=U9 (P:=P) (w:=w) (base:=base) B Tk Nx Rd Ti;have gRe:=(U8 (P:=P) (w:=w) (base:=base) B Tk Re).mono (show 2<=3 by decide)
 refine#[_,aF (bW (i:=3) Y rfl (Or.inl rfl)^bK gD M rfl L.m L.F.kp L.b .nil cF^ao (pv 0)^ao aZ az)
  (aF (bW (i:=4) Y rfl (Or.inl rfl)^cW iY aZ^bK gT M rfl Tk.m Tk.F.kp Tk.b .nil cF^ao (pv 3)^ao (pv 1) az)
  (aF (bW (i:=5) Y rfl (Or.inl rfl)^bK gTr M rfl Tr.m Tr.F.kp Tr.b .nil cF^ao (pv 4)^ao (pv 3) az)
  (aF (bW (i:=6) Y rfl (Or.inl rfl)^fS az)
  (aF (kC Gc rfl (tU rfl B.range^ao (pv 4) az) (cy (i:=7) Y rfl^Or.inl rfl)
   (bB^dh^gW GT adj adk ot (pv 6)^ao (bK gT M rfl Tk.m Tk.F.kp Tk.b .nil cF^ao (pv 3)^ao (cW iY (pv 7) aZ) az)^ao (pv 7) az))
  (aF (kC Gc rfl (lb^fS^ao aZ^ao aZ az) (cy (i:=8) Y rfl^Or.inl rfl)
   (aF (bW (i:=3) Y rfl (Or.inl rfl)^bK gD M rfl L.m L.F.kp L.b .nil cF^ao (pv 0)^ao (pv 8) az)
   (bB^kC Gc rfl (tU rfl B.range^ao (cW rB (bK gT M rfl Tk.m Tk.F.kp Tk.b .nil cF^ao (pv 3)^ao aZ az)^tT Jr rfl B.int boot_int^ao (Ih KC (pv 4) aZ^aX _) az) az) (cy (i:=7) Y rfl^Or.inl rfl)
    (bB^dh^bK gTi M rfl Ti.m Ti.F.kp Ti.b .nil cF^ao (pv 5)^ao (pv 3)^ao (pv 2) az))))
  (bB^h8^bK gRe M rfl Re.m Re.F.kp Re.b .nil cF^ao (pv 5)^ao (pv 6)^ao (bK gD M rfl L.m L.F.kp L.b .nil cF^ao (pv 0)^ao aZ az) az)))))),?_]
 refine#[_,rfl,a,ns,1,rfl,hS,tK,∅,∅,λl R H1 s1 NS wY jL hz=>?_]
 refine#[_,rfl,_,rfl,l,R,m,rfl,wY,jL,(),(),(),λdI pX d0 d1 sC NX=>?_]
 exists _,_,rfl,rfl;obtain⟨d,rfl⟩:=wk d0;have em:(1:Int)+(d:Int)=((d+1:Nat):Int):=()
 show Al 4 (V.int (1+(d:Int))) _ _ _;rw[em];have hm:((d+1:Nat):Int)<=m:=()
 generalize d+1=n at hm em;have Uw:1<=n:=()
 refine#[_,rfl,_,rfl,l,pX,n,rfl,ae,sC,(),Uw,(),λT C w0 m7 H2 off Qs Qf R2 g0 len0 qd yy Q0 dg0=>?_]
 have zp:l≠T:=λz=>by rw[<-z,ae] at Qs;cases Qs
 have ni:l∉C:=λz=>by have:=Qf l z;rw[ae] at this;cases this
 have s2:aC H H2:=λb u g=>off b u (~~~aq g NS)^by rw[af^aq g NS];exact s1 b u g
 have hTH:H T=none:=by
  cases e:H T with
  |none=>rfl
  |some u=>rw[af^Ne.symm zp,s1 _ _ e] at Qs;cases Qs
 have frH:∀x∈C,H x=none:=λx G=>by
  cases e:H x with
  |none=>rfl
  |some u=>
   have:=Qf x G
   rw[af^λz=>ni^by rw[<-z];exact G,s1 _ _ e] at this;cases this
 refine#[by show 0<=sizeLine;decide,λO hO=>?_]
 have Zp:l≠O:=aq qd hO;have nOT:T≠O:=aq R2.top hO
 have WX:O∉C:=λz=>by
  obtain⟨k,hk⟩:=jh z;rw[R2.row k O hk] at hO;cases hO
 have hOH:H O=none:=s2.free hO;refine#[_,rfl,(n:Int),rfl,(by lia),(by lia),nY (n:=((n:Int)).toNat) (λi I p=>∃(ord:List Nat)(R:List Int)(v:Option V),I= [some^.ref a,some^.int m,some^.bl b,some^.ref l,some^.int (n:Int),some^.ref T,some^.ref O,v,none]/\aC H p/\aK p T C w0/\p O\(.lst^bz ord)/\ord.Perm^ak i/\p l\(.lst^R.map V.int)/\R≠ []/\R.length<=2) ?_ ?_ ?_]
 .refine#[[],m7,none,rfl,s2.trans^ay hO _,R2.off (S:= []) (Off.of_same^ay hO _) (by simp)^by simp,ae,List.Perm.refl _,?_,yy,Q0]
  rw[af Zp];exact qd
 .rintro i I H3 hi ⟨ord,ds3,v,rfl,s3,R3,Qr,Se,NT,WH,hz3⟩
  rw[nJ] at hi;have lo:ord.length=i:=by rw[Se.length_eq,pF]
  have Ke:(0:Int)+(i:Int)=(i:Int):=()
  refine#[_,rfl, .inl #[rfl,_,aJ.of Qr],_,rfl,_,rfl,_,_,rfl,rfl,l,ds3,_,rfl,NT,WH,(by lia),(by lia),(by lia),λeI ds4 e0 e1 aba hz4=>?_]
  obtain⟨e,rfl⟩:=wk e0;have hO4:upd H3 l (.lst^ds4.map V.int) O\(.lst^bz ord):=by rw[af^Ne.symm Zp];exact Qr
  refine#[_,rfl,O,_,_,_,rfl,rfl,hO4,(),by rw[cc];lia,pC (by rw[cc];exact afs lo)^bO (),?_]
  rw[Ke,nJ,<-rM];refine#[ins ord e i,ds4,_,rfl,λb u g=>?_,?_,ae,?_,?_,aba,()]
  .rw[af^aq g hOH,af^aq g NS];exact s3 b u g
  .refine R3.keep λb o=>?_
   rw[af^λz=>?_,af^λz=>?_]
   .rcases o with o|o
    .exact zp^z.symm.trans o
    .rw[z] at o;exact ni o
   .rcases o with o|o
    .exact nOT^o.symm.trans z
    .rw[z] at o;exact WX o
  .refine(rh ord e i).trans ?_
   rw[aed];refine(List.Perm.cons i Se).trans ?_;exact(List.perm_append_singleton i^ak i).symm
  .rw[af Zp,ae]
 rintro I H3 ⟨ord,ds3,v,rfl,s3,R3,Qr,Se,NT,WH,hz3⟩;rw[nJ] at Se;have od:Ord ord n:=#[Se];refine#[by show 2<=sizeLine;decide,λy NK=>?_]
 have s4:=ay NK^.lst [V.int 2,V.int 3];have e4:upd H3 y (.lst [V.int 2,V.int 3]) y\(.lst [V.int 2,V.int 3]):=ae;have nLT:y≠T:=Ne.symm^aq R3.top NK;have nLO:y≠O:=Ne.symm^aq Qr NK
 have abw:y∉C:=λz=>by
  obtain⟨k,hk⟩:=jh z;rw[R3.row k y hk] at NK;cases NK
 have hLH:H y=none:=s3.free NK;generalize upd H3 y^.lst [V.int 2,V.int 3]=H4 at s4 e4;have R4:aK H4 T C w0:=R3.off (S:= []) (Off.of_same s4) (by simp)^by simp
 refine#[y,rfl,#[_,aJ.of e4],Nz (K:=K) (a:=y) (xs:= [V.int 2,V.int 3]) (λi I p=>∃(l':Addr)(J:W)(v X:Option V),I= [some^.ref a,some^.int m,some^.bl b,some^.ref l',some^.int (n:Int),some^.ref T,some^.ref O,v,X]/\aC H p/\aK p T C J/\Good J/\J.length=n/\p O\(.lst^bz ord)/\p y\(.lst [V.int 2,V.int 3])/\jv J<=26+38*i) ?_ ?_ ?_ ?_]
 .exact#[l,w0,v,none,rfl,s3.trans s4,R4,g0,len0,s4 _ _ Qr,e4,()]
 .rintro i I p _ ⟨l',J,v,X,rfl,_,_,_,_,_,hL,_⟩
  exact aJ.of hL
 .rintro i x I H5 G ⟨l',J,v,X,rfl,s5,R5,g5,nk,JS,Yf,dg5⟩
  obtain⟨k,zi,zj,rfl⟩:∃k:Int,0<=k/\k<=100/\x= .int k:=by
   match i,G with
   |0,G=>cases G;exact#[2,∅,∅,rfl]
   |1,G=>cases G;exact#[3,∅,∅,rfl]
   |n+2,G=>simp at G
  refine#[_,rfl,_,rfl,a,ns,k,rfl,s5.seq hS,tK,zi,zj,λr XS H6 Z t YL QO hz6=>?_];have n2T:r≠T:=λz=>by rw[z,R5.top] at t;cases t
  have WW:r∉C:=λz=>by
   obtain⟨k,hk⟩:=jh z;rw[R5.row k r hk] at t;cases t
  have n2O:r≠O:=λz=>by rw[z,JS] at t;cases t
  have n2L:r≠y:=λz=>by rw[z,Yf] at t;cases t
  have h2H:H r=none:=s5.free t;refine#[_,rfl,r,XS,20,rfl,YL,QO,(),∅,∅,λcI Ha c0 c1 abb hz7=>?_]
  refine#[_,rfl,_,_,rfl,rfl, .inr #[_,rfl,?_]];obtain⟨c,rfl⟩:=wk c0
  have R7:aK (upd H6 r^.lst^Ha.map V.int) T C J:=(R5.off (S:= []) (Off.of_same Z) (by simp)^by simp).keep λb o=>by
   refine af λz=>?_
   rcases o with o|o
   .exact n2T^z.symm.trans o
   .rw[z] at o;exact WW o
  have s7:aC H^upd H6 r^.lst^Ha.map V.int:=λb u g=>by rw[af^aq g h2H];exact Z _ _^s5 b u g
  have NL:upd H6 r (.lst^Ha.map V.int) O\(.lst^bz ord):=by rw[af^Ne.symm n2O];exact Z _ _ JS
  have hL7:upd H6 r (.lst^Ha.map V.int) y\(.lst [V.int 2,V.int 3]):=by rw[af^Ne.symm n2L];exact Z _ _ Yf
  have r8:upd H6 r (.lst^Ha.map V.int) r\(.lst^Ha.map V.int):=ae;generalize upd H6 r^.lst^Ha.map V.int=H7 at R7 s7 NL hL7 r8;refine#[_,_,rfl,rfl, .inl #[(by lia),(by lia)],?_]
  have aaX:∃N:Nat,(c:Int)*(if decide ((1:Int)<(n:Int))=true then 1 else 0)=(N:Int)/\N<20/\(0<N->2<=n):=by
   by_cases hn:(1:Int)<(n:Int)
   .rw[FS hn,mo rfl]
    exact#[c,(),(),λ_=>by lia]
   .rw[FM hn,tz ∅]
    exact#[0,(),(),λh=>by lia]
  obtain⟨N,eN,N20,N2⟩:=aaX;refine#[(N:Int),KF (λz=> [V.int z]) eN,(by lia),(by lia),nY (n:=((N:Int)).toNat) (λj I p=>∃(w2:W)(R:List Int)(v X:Option V),I= [some^.ref a,some^.int m,some^.bl b,some^.ref r,some^.int (n:Int),some^.ref T,some^.ref O,v,X]/\aC H p/\aK p T C w2/\Good w2/\w2.length=n/\p O\(.lst^bz ord)/\p y\(.lst [V.int 2,V.int 3])/\p r\(.lst^R.map V.int)/\R≠ []/\R.length<=2/\jv w2<=jv J+2*j) ?_ ?_ ?_]
  .exact#[J,Ha,_,_,rfl,s7,R7,g5,nk,NL,hL7,r8,abb,(),()]
  .rintro j I H8 hj ⟨w2,ds8,v,X,rfl,s8,R8,g8,WR,Yi,Yg,hl8,WJ,hz8,dg8⟩
   rw[nJ] at hj;have n2:=N2 ()
   refine#[_,rfl,_,rfl,_,rfl,T,r,b,C,w2,ds8,rfl,R8,g8,(),(),hl8,WJ,hz8,n2T,WW,λw3 ds9 H9 RF R9 g9 acK hl9 abc hz9 dg9=>?_]
   refine#[w3,ds9,_,_,rfl,λb u g=>RF b u (λz=>?_)^s8 b u g,R9,g9,(),RF _ _ (λz=>?_) Yi,RF _ _ (λz=>?_) Yg,hl9,abc,hz9,()]
   .rcases dS.mp z with z|z
    .rw[z,h2H] at g;cases g
    .rw[frH b z] at g;cases g
   .rcases dS.mp z with z|z
    .exact n2O z.symm
    .exact WX z
   .rcases dS.mp z with z|z
    .exact n2L z.symm
    .exact abw z
  .rintro I H8 ⟨w2,ds8,v,X,rfl,s8,R8,g8,WR,Yi,Yg,hl8,WJ,hz8,dg8⟩
   rw[nJ] at dg8;exact#[r,w2,v,X,rfl,s8,R8,g8,WR,Yi,Yg,()]
 .rintro I H5 ⟨l',J,v,X,rfl,s5,R5,g5,nk,JS,Yf,dg5⟩
  refine#[_,rfl,_,rfl,_,rfl,a,ns,4,rfl,s5.seq hS,tK,∅,∅,λl4 XS H6 Z t YL QO hz6=>?_]
  have n4T:l4≠T:=λz=>by rw[z,R5.top] at t;cases t
  have abu:l4∉C:=λz=>by
   obtain⟨k,hk⟩:=jh z;rw[R5.row k l4 hk] at t;cases t
  have n4O:l4≠O:=λz=>by rw[z,JS] at t;cases t
  have h4H:H l4=none:=s5.free t;have ZR:=s5.trans Z;refine#[T,O,l4,C,J,ord,XS,rfl,(let Q5:=R5.off (S:= []) (Off.of_same Z) (by simp) (by simp);#[Q5.top,Q5.len,Q5.row]),g5,(),Z _ _ JS,by rw[nk];exact od,YL,QO,hz6,n4T,abu,n4O,λF fs w' p off hF fr R' g' acI dg' _=>?_]
  refine q F fs w' p (λb u g=>off b u (~~~aq g h4H)^ZR b u g) (ZR.free hF) (λx G=>ZR.free^fr x G) R' g' () ()^by rw[dg'];simp at dg5;omega
end
end Ep
namespace wC
open PySem L2 Wb
variable {P:Program} {w:World} {mg:Str->Option Value} {base:Heap} {Z:DC} (T:Txt Z mg)
theorem MD{Z:DC}:∀(fs:List Addr)(w:W),fs.length=w.length->(∀(i:Nat) a,fs[i]?\a->G a\(.lst^Ep.bz^row w i))->DvAll Z G (fs.map V.ref)^w.map aD
 | [],[],_,_=> .nil
 | [],_::_,h,_=>by cases h
 |_::_,[],h,_=>by cases h
 |a::fs,r::w,h,k=>by
  refine .cons ?_ (MD fs w (~~~h) λi b d=>k (i+1) b^~~~d)
  have c:G a\(.lst^Ep.bz r):=k 0 a rfl;refine Dv.lst c ?_;unfold Ep.bz;clear c k h
  induction r with
  |nil=>exact .nil
  |cons x r e=>exact .cons (.int _) e
def VU:eS:=λa P=>∃(c:List Int)(m:Nat)(b:Bool),a= [.pN c,aB m, .bl b]/\1<=m/\m<=14/\∀w,Good w->1<=w.length->w.length<=m->P^ba w
def aap{Z:DC}(T:Txt Z a):Ep.B3 a:=#[T.B.len,T.B.range,T.B.max,T.B.min,T.B.enumerate,T.B.zip,T.B.sorted,T.B.all,T.B.isinstance,T.B.int,T.B.bool,T.B.list,T.B.tuple]
def Fz:Dk P w base 4 T.us^aS Z VU:=by
 refine(Ep.RK (aap T) T.uj T.uk T.ul T.um T.un T.uo T.up T.uq T.ur T.us).imp ?_;rintro L H Q E ⟨G,M,P,s,dv,⟨p,m,b,rfl,m1,N,r⟩,q⟩;obtain⟨O,S,rfl,t,dv⟩:=dv.Fw;obtain⟨X,Y,rfl,u,v⟩:=dv.xB;obtain⟨a,rfl,x,y⟩:=t.Fx;obtain rfl:=u.ofInt;obtain rfl:=v.DS;refine#[a,p,m,b,rfl,x.mono s,y,(),(),λF fs h j k A f R g B lm _=>?_]
 let d:Addr->Prop:=λb=>b=F\/b∈fs
 have l:∀b,d b->H b=none:=λb c=>by
  rcases c with rfl|c
  .exact A
  .exact f b c
 have C:∀b o,H b\o->¬d b:=λb o e z=>by rw[l b z] at e;cases e
 have I:Ext G H (plus G j d) j:=#[λb o e=>by rw[gK^C b o^s _ _ e];exact e,λb o e=>by
  by_cases z:d b
  .rw[jN z] at e;exact e
  .rw[gK z] at e;exact k _ _^s _ _ e,k,λb c J=>by
  rw[gK^λz=>c^l b z];exact J]
 refine q _ (r h g B ()) _ _ _ I^Dv.lst (xs:=fs.map V.ref) (by rw[jN^.inl rfl];exact R.top) (MD fs h R.len λi a n=>?_)
 rw[jN^.inr^cR n];exact R.row i a n
def SJ:eS:=λa P=>∃(b:List Int)(k:Nat),a= [.pN b,aB k]/\k<=100/\∀v:Int,P^.int v
def mH:Dk P w base 1 T.uj^aS Z SJ:=by
 refine(Ep.A0 T.uj).imp ?_;rintro j H Q E ⟨G,l,P,s,dv,⟨c,k,rfl,m,d⟩,q⟩;let⟨n,o,rfl,e,f⟩:=dv.xB;let⟨a,rfl,g,h⟩:=e.Fx;obtain rfl:=f.ofInt;refine#[a,c,k,rfl,g.mono s,h,(),(),λv i b=>?_]
 exact q _ (d v) _ G i #[.refl _,s.trans b,b,λ_ _ z=>z]^.int v
variable {P:Program} {w:World} {mg:Str->Option Value} {base:Heap} {Z:DC} (T:Txt Z mg)
section
variable {X:Cx} {md:List Nat}
def PC(i:Nat)(t:dJ):dJ:=λE a=>(∃d,a[i]?\(some d))/\t {nx:=λ_=>False,rt:=E.rt} a
def jI(i:Nat)(h:nM Z X (md.set i 0) 0 f t):nM Z X md 0 f^PC i t:=by
 refine jX.imp h ?_;rintro p q H ⟨B,k,E,⟨G,r,S⟩,⟨⟨d,g⟩,l⟩,M⟩;let⟨v,m,dv,a⟩:=S.Vz g;refine#[B,k,_,#[_,_,#[a.ex,a.fl,S.len,λj c b=>?_,a.nd,a.ap,a.nw]],l,#[λ_ z=>z.elim,M.rt,λ_ z=>z.elim,λ_ z=>z.elim,λ_ _ z=>z.elim]]
 by_cases e:j=i
 .subst e
  rw[g] at b;cases b;exists v,m
  have:(md.set j 0).getD j 0=0:=by
   rw[fu,pD]
   split<;>first| (split<;>rfl) |exact absurd rfl ‹_›
  rw[this,mo rfl];exact#[dv,rfl]
 .obtain⟨u,n,o⟩:=a.at_ j c^by rw[pB^Ne.symm e];exact b
  exists u,n
  have:(md.set i 0).getD j 0=md.getD j 0:=by rw[fu,fu,pB^Ne.symm e]
  rw[this];exact o
end
variable {P:Program} {w:World} {mg:Str->Option Value} {base:Heap} {Z:DC} (T:Txt Z mg)
def FT:eS:=λa P=>∃(w:W)(d:Nat×Nat),a= [ba w,pairD d]/\Good w/\aU w d/\P^pairD^sj w d
def sH:Dk P w base 1 T.uo^aS Z FT:=by
 have f:=sO.nd;refine bg T.uo.F sO [0,0,0,0] ∅ (λl R h=>by let⟨t,u,rfl,v⟩:=h;rfl)^λp A outer s H E l R m h=>?_
 have r:=m.units
 refine#[_,(aw (EJ (U 1)^fO 2 rfl^aP (aL 2 f)^aP (aL 3 f) cT)
   (au^aO^bb^aa (U 3)^aa (iw (iw (U 0)^U 3)^f6 uY (f6 iT (C1 (iw (U 0)^U 3)^U 2) aR)^aW cJ rfl T.B.len cH^aa (iw (U 0)^U 3) ah) ah)),?_]
 let⟨a,d,rfl,g,i,q⟩:=h;have b:=g.rng _ _ i;have j:d.1∈row a d.2:=g.sym _ _ i;have k:((row a d.2).map aB).length=(row a d.2).length:=aI _;have c:0<(row a d.2).length:=wo j;have n:(0:Int)<(((row a d.2).map aB).length:Int):=by rw[k];lia
 have e:=kz j;exists _,rfl,rfl,rfl;have em:(((row a d.2).idxOf d.1:Nat):Int)+1=(((row a d.2).idxOf d.1+1:Nat):Int):=()
 have o:((((row a d.2).idxOf d.1:Nat):Int)+1)%(((row a d.2).map aB).length:Int)=((((row a d.2).idxOf d.1+1)%(row a d.2).length:Nat):Int):=by rw[k,em,ae5]
 have at_:gF ((row a d.2).map aB) (((((row a d.2).idxOf d.1:Nat):Int)+1)%(((row a d.2).map aB).length:Int))\(aB^jC (row a d.2) d.1):=by
  rw[o];exact HW^qQ _ c
 exists _,rfl,_,rfl,_,rfl,_,vK b,_,rfl,_,rfl,_,vK b;exact#[_,rfl,_,rfl,rfl,kJ _,_,_,e.1,e.2.1,e.2.2,_,rfl,_,rfl,_,vK b,n,_,at_,by show 2<=sizeLine;decide,q]
def OP:eS:=λa P=>∃(w:W)(d:Nat×Nat),a= [ba w,pairD d]/\Good w/\w.length<=14/\aU w d/\∀r,gX w d r->P^.lst^r.map pairD
def AZ:Dk P w base 2 T.up^aS Z OP:=by
 have f:=qG.nd;refine bg T.up.F qG [0,0,1,0] ∅ (λp R h=>by let⟨z,D,rfl,G⟩:=h;rfl)^λx A outer s H E p R i h=>?_
 have r:=i.units
 refine#[_,(aw (kr 2 f^kq^aa (U 1) ah)
   (aw (bM false 3 f^aH T.uo (sH T) i^aa (U 0)^aa (U 1) ah)
   (aw (wN Gc (bA (xw r) (U 3) (U 1)^aX _)^aw (nU false 2^U 3)
   (au^bM false 3 f^aH T.uo (sH T) i^aa (U 0)^aa (U 3) ah))
   (au^aO^U 2)))),?_]
 let⟨a,d,rfl,g,h14,l,q⟩:=h;have y:=gm g;have B:a.length*a.length<=14*14:=wz h14 h14;refine#[_,rfl,by show 1<=sizeLine;decide,?_]
 exists _,rfl,_,rfl,a,d,rfl,g,l,trivial;refine t8 (λm t=>∃k,0<k/\m+k=(bo a).length+1/\(∀j,0<j->j<k->dH a j d≠d)/\t= [some^ba a,some^pairD d,some^.lst^(walk a d k).map pairD,some^pairD^dH a k d]) (bo a).length #[1,(),rfl,λj b o=>by lia,rfl] ?_
 rintro m _ ⟨k,u,C,n,rfl⟩;have v:=iJ g l k;exists _,rfl,_,rfl;refine CY #[_,rfl,cY (λe=>?_)^λe=>?_]
 .have ne:dH a k d≠d:=by simpa using e
  have lt:k<(bo a).length:=by
   have:=wd g l (k:=k+1) λj b o=>by
    by_cases c:j=k
    .subst c;exact ne
    .exact n j b ()
   lia
  refine#[_,rfl,_,rfl,trivial,bO^by rw[aI,jD];lia,?_]
  exists _,rfl,_,rfl,a,dH a k d,rfl,g,v,trivial;refine#[m-1,(),k+1,(),(),λj b o=>?_,?_]
  .by_cases c:j=k
   .subst c;exact ne
   .exact n j b ()
  .rw[t7,dk];rfl
 .have e:dH a k d=d:=by simpa using e
  exact#[_,rfl,q _ #[k,u,e,n,rfl]]
def su.off{w:W}{a:List^List (Nat×Nat)}(h:su w a)(R:gX w d r)(f:d∉a.flatten):∀x∈r,x∉a.flatten:=λx g z=>by
 let⟨b,c,i⟩:=lJ.mp z;let⟨e,j,l⟩:=h b c;let⟨n,k⟩:=R.back g;exact f^lJ.mpr #[b,c,k▸j.iter i n]
def D5{w:W}(h:gX w d r)(c:gX w e r):d=e:=by
 obtain⟨k,g,_,_,rfl⟩:=h;obtain⟨m,m0,_,_,f⟩:=c
 have:=KF List.head? f
 obtain⟨a,rfl⟩:∃a,k=a+1:=#[k-1,()]
 obtain⟨b,rfl⟩:∃b,m=b+1:=#[m-1,()]
 unfold walk at this;rw[Gn,Gn] at this;exact Do this
def Iq{w:W}(g:Good w)(h:gX w d r)(b:aU w d):∃t,r.map (·.1)=d.1::d.2::t:=by
 obtain⟨k,c,a,_,rfl⟩:=h
 obtain⟨m,rfl⟩:∃m,k=m+2:=by
  exists k-2;apply GE;intro z;obtain rfl:k=1:=()
  have a:sj w d=d:=a;exact pV g b (KF Prod.fst a).symm
 unfold walk;rw[Gn,dR,dR,Gn,dR,dR,dR];exact#[_,rfl]
theorem wG{w:W}:∀{rss:List^List (Nat×Nat)},su w rss->rss.length<=rss.flatten.length
 | [],_=>bh _
 |r::rss,h=>by
  let⟨d,R,b⟩:=h r (c5 ..)
  have:=wo R.first
  have:=wG (rss:=rss) λr a=>h r^dY _ a
  rw[wu,eF,dQ];lia
structure RL (w:W) (rss:List^List (Nat×Nat)) (c:Nat×Nat->Prop):Prop where
 rnd:∀r∈rss,∃d,gX w d r/\aU w d/\(∀e∈r,lexLe d e)/\c d
 ord:rss.Pairwise λr r'=>∀d e,gX w d r->gX w e r'->lexLe d e
 nd:rss.flatten.Nodup
 all:∀d,aU w d->c d->d∈rss.flatten
theorem RL.imp{w:W}{c i:Nat×Nat->Prop}(h:RL w g c)(k:∀d,aU w d->i d->c d\/d∈g.flatten)(l:∀d,c d->i d):RL w g i:=
 #[λr m=>let #[d,a,b,e,f]:=h.rnd r m;#[d,a,b,e,l d f],h.ord,h.nd,λd j n=>(k d j n).elim (h.all d j) id]
def RL.allR{w:W}(h:RL w e c):su w e:=λr f=>let #[d,a,b,_]:=h.rnd r f;#[d,a,b]
def RL.add{w:W}(g:Good w)(h:RL w f c)(m:aU w d)(R:gX w d r)(A:d∉f.flatten)(lo:∀e,aU w e->¬c e->lexLe d e)(B:∀e,c e->lexLe e d)
  (C:∀e,c e->l e) (E:l d) (F:∀e,aU w e->l e->c e\/e=d):RL w (f++ [r]) l:=by
 have off:=su.off h.allR R A
 have p:∀e∈r,aU w e:=λe i=>by
  let⟨k,D,K,M,rfl⟩:=R;exact oP g m e i
 have q:(f++ [r]).flatten=f.flatten++r:=by rw[wq];simp
 refine#[λs j=>?_,?_,?_,λe i G=>?_]
 .rcases cE.mp j with j|j
  .obtain⟨e,n,t,u,o⟩:=h.rnd s j
   exact#[e,n,t,u,C e o]
  .rw[fX] at j
   subst j;exact#[d,R,m,λe i=>lo e (p e i) λz=>off e i^h.all e (p e i) z,E]
 .refine sV.mpr #[h.ord,Gm _ _,λs j L v x y X Y=>?_]
  rw[fX] at v;subst v;obtain rfl:=D5 Y R;let⟨e,n,t,u,o⟩:=h.rnd s j;obtain rfl:=D5 X n;exact B _ o
 .rw[q,hZ]
  refine#[h.nd,?_,λa H b I z=>off b I (z▸H)];let⟨k,D,K,J,rfl⟩:=R;exact qN g m J
 .rw[q]
  rcases F e i G with z|z
  .exact lH _^h.all e i z
  .rw[z];exact fW _ R.first
def RL.lands{w:W}(g:Good w)(h:RL w f c)(all:∀d,aU w d->c d):cg w f/\xk w=iR f:=by
 have p:f.flatten.Perm^bo w:=(Jg h.nd^fN g).mpr λd=>#[λi=>bF.mpr^su.dart g h.allR d i,λi=>h.all d (bF.mp i)^all d^bF.mp i];have R:cg w f:=#[λr j=>let #[d,a,b,e,_]:=h.rnd r j;#[d,a,b,e],p];have o:=h.rnd;have q:=h.ord;refine#[R,Dy g R ?_];unfold iR;rw[kh];refine q.imp_of_mem λ {r k} j s l=>?_;obtain⟨d,a,b,_,_⟩:=o r j;obtain⟨e,m,v,_,_⟩:=o k s;have le:=l d e a m;obtain⟨t,x⟩:=Iq g a b;obtain⟨B,n⟩:=Iq g m v
 by_cases z:d=e
 .subst z
  rw[a.uniq m];unfold qk;cases y:HT.lexLt (j4^k.map (·.1))^j4^k.map (·.1) with
  |false=>rfl
  |true=>exact absurd y^by rw[AI];simp
 .have A:d.1<e.1\/(d.1=e.1/\d.2<e.2):=by
   unfold lexLe at le
   by_cases y:d.1=e.1
   .have:d.2≠e.2:=λu=>z^acZ y u
    lia
   .lia
  rw[x,n];unfold qk j4;rw[dR,dR,dR,dR,HT.iK]
  split
  .rw[HT.iK]
   split
   .lia
   .exact FM ()
  .exact FM ()
noncomputable def pk(r:List (Nat×Nat)):D:= .lst^r.map pairD
def II:eS:=λb P=>∃(w:W),b= [ba w]/\Good w/\1<=w.length/\w.length<=14/\∀a,RS w a->P^.lst^a.map pk
theorem k9:Dk P w base 3 T.uu^aS Z II:=by
 have C:=qE.nd;refine bg T.uu.F qE [0,1,98,0,0,0,0] ∅ (λds R h=>by let⟨K,rfl,V⟩:=h;rfl)^λaV A outer s H E ds R hr h=>?_
 have O:=hr.units
 refine#[_,(aw (cw (bA (iU O) (aW cJ rfl T.B.len cH^aa (U 0) ah) aR^aX _) (au^aO^gI^aa (gI ah) ah) bf)
   (aw (kr 1 C^kq ah)
   (aw (Hb 2 C)
   (aw (dW rfl Gc (eV rfl T.B.enumerate^aa (U 0) ah) (fO 2 rfl^aP (aL 3 C)^aP (aL 4 C) cT)^au^dW rfl Gc (bE^aW CT rfl T.B.sorted kS^aa (U 4) ah) (aL 5 C)^au^cw (bA (Kx O) (bb^aa (U 3)^aa (U 5) ah) (U 2)^by with_unfolding_all rfl) (aw (nU false 1^aH T.up (AZ T) hr^aa (U 0)^aa (bb^aa (U 3)^aa (U 5) ah) ah)
   (au^P0 1 rfl Gc (TZ aR) (aL 6 C)^au^Hd 2 O (U 6) tq)) bf)
   (jI 1
   (au^aO^U 1)))))),?_]
 let⟨b,rfl,g,h1,h14,q⟩:=h;have lw:(b.map aD).length=b.length:=aI _;have c1:=gm g;have c2:b.length*b.length<=14*14:=wz h14 h14;exists _,rfl;dsimp only[lZ,xU,ba];refine Uh #[_,rfl,cY (λe=>?_)^λe=>?_]
 .have n1:b.length=1:=by
   have:((b.map aD).length:Int)=1:=IR e
   lia
  exact#[by show 0<=sizeLine;decide,by show 1<=sizeLine;decide,q [[]]^.inl #[n1,rfl]]
 have J:2<=b.length:=by
  have:¬((b.map aD).length:Int)=1:=On e
  lia
 refine#[by show 0<=sizeLine;decide,?_]
 exists _,rfl;refine(?_:j8 _ _ _ (dF^b.map aD) _)
 refine b8 (λj L=>∃(a:List^List (Nat×Nat))(i:List FV)(Q S v n:Option D),L= [some^ba b,some^.lst^a.map pk,some^.x^.fo (a.flatten.map zz) i,Q,S,v,n]/\RL b a λd=>d.1<j)
  #[[],[],_,_,_,_,rfl,(λr h=>nomatch h), .nil,iN,λd _ h=>absurd h ()] ?_ ?_
 .rintro p _ _ l ⟨a,i,Q,S,v,n,rfl,ok⟩ A M
  let⟨hp,rfl⟩:=yQ l;exists rfl,rfl;have rl0:=fE g p;exists _,rfl;dsimp only[lZ];refine Eb () λo X srt=>?_
  refine b8 (λm L=>∃(a:List^List (Nat×Nat))(i:List FV)(v n:Option D),L= [some^ba b,some^.lst^a.map pk,some^.x^.fo (a.flatten.map zz) i,some^aB p,some^aD^row b p,v,n]/\RL b a λd=>d.1<p\/(d.1=p/\d.2∈o.take m))
   #[a,i,_,_,rfl,ok.imp (λd _ h=> .inl (h.elim id λz=>by simp at z)) λd h=> .inl h] ?_ ?_
  .clear ok
   rintro m0 _ _ l ⟨a,i,v,n,rfl,ok⟩ A M;let⟨k,Y,rfl⟩:=dg l;have de:aU b (p,k):=X.mem_iff.mp^cR Y;have G:o.take (m0+1)=o.take m0++ [k]:=by rw[zb,Y];rfl
   refine#[_,rfl,_,rfl,by show 2<=sizeLine;decide,_,rfl,zz (p,k),_,i,rfl,rfl,_,rfl,?_]
   refine(?_:if (if true=true then !decide (zz (p,k)∈a.flatten.map zz) else _)=true then _ else _);rw[mo rfl,show decide (zz (p,k)∈a.flatten.map zz)=decide ((p,k)∈a.flatten) from ad0.mpr rS];refine cY (λc=>?_)^λc=>?_
   .have c:(p,k)∉a.flatten:=by simpa using c
    have fl:=bq ok.nd λe t=>bF.mpr^su.dart g ok.allR e t;have rl:=wG ok.allR;refine#[_,rfl,_,rfl,_,rfl,_,rfl,by show 2<=sizeLine;decide,b,(p,k),rfl,g,h14,de,λr R=>?_]
    refine#[trivial,bO^by rw[aI];lia,?_]
    have leq:∀y∈o.take m0,y<=k:=λy u=>by
     rw[<-lG (m0+1) o,G] at srt
     have:=(sV.mp (sV.mp srt).1).2.2
     exact this y u k^by simp
    have geq:∀y∈o,y∉o.take m0->k<=y:=λy u hn=>by
     have ed:o.drop m0=k::o.drop (m0+1):=by
      let⟨hl,e⟩:=cz.mp Y;rw[<-e];exact qR hl
     rw[<-lG m0 o,cE] at u;have u:=u.resolve_left hn;have s2:=(sV.mp^by rw[<-lG m0 o] at srt;exact srt).2.1
     rw[ed] at u s2
     rcases dS.mp u with rfl|u
     .exact bh _
     .exact(List.pairwise_cons.mp s2).1 y u
    have N:RL b (a++ [r]) λd=>d.1<p\/(d.1=p/\d.2∈o.take (m0+1)):=by
     refine RL.add g ok de R c (λe t nc=>?_) (λe I=>?_) (λe I=>I.imp id λz=>#[z.1,by rw[G];exact lH _ z.2]) (.inr #[rfl,by rw[G];simp]) λe t I=>?_
     .unfold lexLe
      by_cases z:e.1=p
      .right
       refine#[z.symm,geq _ (X.mem_iff.mpr ?_) λy=>nc^.inr #[z,y]];have t:e.2∈row b e.1:=t;rw[z] at t;exact t
      .left
       show p<e.1
       have:¬e.1<p:=λy=>nc^.inl y
       lia
     .unfold lexLe
      exact I.imp id λz=>#[z.1,leq _ z.2]
     .rw[G] at I
      by_cases z:e=(p,k)
      .exact .inr z
      .exact .inl (I.imp id λh=>#[h.1,(cE.mp h.2).elim id λh2=>absurd (acZ h.1^fX.mp h2) z])
    have ef:(a++ [r]).flatten=a.flatten++r:=by rw[wq];simp
    have J:=N.nd;have Uk:=bq N.nd λe t=>bF.mpr^su.dart g N.allR e t;rw[ef] at J Uk;rw[eF] at Uk;have QA:gF (a.map pk++ [.lst^r.map pairD]) (-1)\(.lst^r.map pairD):=Nd _ _;exists _,rfl,-1,r.map pairD,rfl,QA;refine b8 (λj L=>∃(i:List FV)(n:Option D),L= [some^ba b,some^.lst (a.map pk++ [.lst^r.map pairD]),some^.x^.fo ((a.flatten++r.take j).map zz) i,some^aB p,some^aD^row b p,some^aB k,n]) #[i,n,by rw[uA,ft];rfl] ?_ ?_
    .rintro j _ _ Yu ⟨i,n,rfl⟩ A3 Ya
     let⟨f,hf,rfl⟩:=dg Yu;have Z9:r.take (j+1)=r.take j++ [f]:=by rw[zb,hf];rfl
     have Zt:f∉a.flatten++r.take j:=λz=>by
      have sp:a.flatten++r=(a.flatten++r.take j)++(f::r.drop (j+1)):=by
       rw[kj,<-cz.mp hf|>.2,adP,lG]
      rw[sp] at J;exact(hZ.mp J).2.2 f z f (c5 ..) rfl
     refine#[.bl true,_,i,rfl,rfl,_,rfl,zz f,rfl,λz=>Zt^rS.mp z,by rw[aI,eF,ji];lia,Ya _ #[i++ [.bl true],some^pairD f,?_]]
     rw[Z9,<-kj,dk (l₂:= [f])];rfl
    .rintro _ ⟨i,n,rfl⟩
     rw[aI,za];exact M _ #[a++ [r],i,some^aB k,n,by rw[ef,dk (f:=pk)];rfl,N]
   .have c:(p,k)∈a.flatten:=IR^by simpa only[Bool.not_eq_false'] using c
    refine M _ #[a,i,_,_,rfl,ok.imp (λd _ l=>?_) λd l=>l.imp id λz=>#[z.1,by rw[G];exact lH _ z.2]]
    rw[G] at l
    by_cases z:d=(p,k)
    .rw[z];exact .inr c
    .exact .inl (l.imp id λh=>#[h.1,(cE.mp h.2).elim id λh2=>absurd (acZ h.1^fX.mp h2) z])
  .rintro _ ⟨a,i,v,n,rfl,ok⟩
   refine M _ #[a,i,_,_,_,_,rfl,ok.imp (λd EV l=> .inl ?_) λd l=>?_]
   .rw[aI,za]
    by_cases z:d.1=p
    .exact .inr #[z,X.mem_iff.mpr (z▸EV)]
    .left;lia
   .rcases l with l|l<;>lia
 rintro _ ⟨a,i,Q,S,v,n,rfl,ok⟩;rw[fP,lw] at ok;let⟨R1,R2⟩:=RL.lands g ok λd l=>ie l;exact#[#[_,rfl],_,rfl,q a^.inr #[J,R1,R2]]
variable {P:Program} {w:World} {mg:Str->Option Value} {base:Heap} {Z:DC} (T:Txt Z mg)
theorem D7(r:List (Nat×Nat)):∀(l:List^List (Nat×Nat))(n:Nat),i9 n (l++ [r])=i9 n l++r.map λ_=>FV.int ((n+l.length:Nat):Int)
 | [],n=>by simp[i9]
 |s::l,n=>by
  show _++i9 (n+1) (l++ [r])=_++i9 (n+1) l++_;rw[D7 r l (n+1),<-kj,dQ,show n+1+l.length=n+(l.length+1) by lia]
def RS.facts{w:W}(g:Good w)(h14:w.length<=14)(h:RS w c):c.flatten.Nodup/\c.flatten.length<=196:=by
 rcases h with ⟨_,rfl⟩ | ⟨_,R,_⟩
 .exact#[∅,∅]
 .obtain⟨a,b,_⟩:=rN g h14 R
  exact#[a,b]
def OJ:eS:=λb P=>∃(w:W),b= [ba w]/\Good w/\1<=w.length/\w.length<=14/\∀a,RS w a->P^.x^.fo (qu a)^i9 0 a
def xC:Dk P w base 4 T.uv^aS Z OJ:=by
 have c:=nE.nd;refine bg T.uv.F nE [0,98,0,0,0] ∅ (λy R h=>by let⟨K,rfl,V⟩:=h;rfl)^λaV A outer s H E y R d h=>?_
 have C:=d.units
 refine#[_,(aw (Hb 1 c)
   (aw (dW rfl Gc (eV rfl T.B.enumerate^aa (aH T.uu (k9 T) d^aa (U 0) ah) ah) (fO 2 rfl^aP (aL 2 c)^aP (aL 3 c) cT)^au^dW rfl Gc (bE^U 3) (aL 4 c)^au^Hd 1 C (U 4)^U 2)
   (jI 1
   (au^aO^U 1)))),?_]
 let⟨k,rfl,g,G,h14,q⟩:=h;refine#[_,rfl,k,rfl,g,G,h14,λa p=>?_];let⟨c,I⟩:=p.facts g h14;refine(?_:j8 _ _ _ (dF^a.map pk) _);refine b8 (λj l=>∃(m n b:Option D),l= [some^ba k,some^.x^.fo ((a.take j).flatten.map zz)^i9 0^a.take j,m,n,b]) #[_,_,_,rfl] ?_ ?_
 .rintro j _ _ J ⟨m,n,b,rfl⟩ A L
  let⟨x,M,rfl⟩:=jw J;let⟨r,d,rfl⟩:=dg M;have t:a.take (j+1)=a.take j++ [r]:=by rw[zb,d];rfl
  have N:=(cz.mp d).1;have o:(a.take (j+1)).flatten=(a.take j).flatten++r:=by rw[t,wq];simp
  have sub:=aez^cR d
  have u:((a.take j).flatten++r).Nodup:=by
   rw[<-o];have e:a.flatten=(a.take (j+1)).flatten++(a.drop (j+1)).flatten:=by rw[<-wq,lG]
   rw[e] at c;exact(hZ.mp c).1
  have O:((a.take j).flatten++r).length<=196:=by
   rw[<-o];have e:a.flatten=(a.take (j+1)).flatten++(a.drop (j+1)).flatten:=by rw[<-wq,lG]
   rw[e,eF] at I;lia
  exists rfl,rfl;exists _,rfl;refine(?_:j8 _ _ _ (r.map pairD) _);refine b8 (λi l=>∃(b:Option D),l= [some^ba k,some^.x^.fo (((a.take j).flatten++r.take i).map zz) (i9 0^a.take j++(r.take i).map λ_=>FV.int (j:Int)),some^.int (j:Int),some^pk r,b]) #[b,by rw[uA,ft,xT,ft];rfl] ?_ ?_
  .rintro i _ _ Q ⟨b,rfl⟩ A3 S
   let⟨f,v,rfl⟩:=dg Q;have X:r.take (i+1)=r.take i++ [f]:=by rw[zb,v];rfl
   have Y:f∉(a.take j).flatten++r.take i:=λz=>by
    have sp:(a.take j).flatten++r=((a.take j).flatten++r.take i)++(f::r.drop (i+1)):=by
     rw[kj,<-cz.mp v|>.2,adP,lG]
    rw[sp] at u;exact(hZ.mp u).2.2 f z f (c5 ..) rfl
   rw[eF] at O;refine#[_,rfl, .int (j:Int),_,_,rfl,rfl,_,rfl,zz f,rfl,λz=>Y^rS.mp z,by rw[aI,eF,ji];lia,S _ #[some^pairD f,?_]]
   rw[X,<-kj,dk (l₂:= [f]) (f:=zz),dk (l₂:= [f]),<-kj];rfl
  .rintro _ ⟨b,rfl⟩
   rw[aI,za];refine L _ #[_,_,_,by rw[o,t,D7,ji,afe^qT N,kn]]
 .rintro _ ⟨m,n,b,rfl⟩
  rw[fP,aI,za];exact#[#[_,rfl],_,rfl,q a p]
def Ln(r:Nat->List Nat)(n:Nat):fg r (n+1)=fg r n++((r n).filter λq=>decide (n<q)).map λq=>(n,q):=by
 unfold fg;rw[aed,List.flatMap_append];simp
def Ld:eS:=λb P=>∃(w:W),b= [ba w]/\Good w/\w.length<=14/\∀a:List (Nat×Nat),a.Perm^fg (row w) w.length->a.Pairwise lexLe->P^.lst^a.map pairD
def mI:Dk P w base 1 T.uw^aS Z Ld:=by
 have k:=sP.nd;refine bg T.uw.F sP [0,1,0,0] ∅ (λC R h=>by let⟨z,rfl,K⟩:=h;rfl)^λaV A outer s H E C R G h=>?_
 have hu:=G.units
 refine#[_,(aw (kr 1 k^kq ah)
   (aw (dW rfl Gc (eV rfl T.B.enumerate^aa (U 0) ah) (fO 2 rfl^aP (aL 2 k)^aP (aL 3 k) cT)^au^T9 1^nQ (NC:= ["_law_b","_law_a"]) (src:= [none,some 2]) rfl (pU^ar kE) #[rfl,rfl,trivial] (bE^aW CT rfl T.B.sorted kS^aa (U 3) ah) (λ_ _ _=>(bp 0 (show(["_law_b","_law_a"]:List ee).Nodup from by decide+kernel))) (λ_ _ _=>(m8^bA AX (U 1) (U 0)^aX _))^λ_ _ _=>(bb^aa (U 1)^aa (U 0) ah))
   (jI 1
   (au^aO^U 1)))),?_]
 let⟨e,rfl,g,h14,q⟩:=h;have I:(e.map aD).length=e.length:=aI _;refine#[by show 0<=sizeLine;decide,?_]
 exists _,rfl;refine(?_:j8 _ _ _ (dF^e.map aD) _);refine b8 (λj l=>∃(d:List (Nat×Nat))(m n:Option D),l= [some^ba e,some^.lst^d.map pairD,m,n]/\d.Perm^fg (row e) j/\d.Pairwise lexLe/\(∀t∈d,t.1<j)/\d.length<=j*14) #[[],_,_,rfl, .refl _, .nil,(λt h=>nomatch h),d9 _] ?_ ?_
 .rintro p _ _ J ⟨d,m,n,rfl,i,srt,lo,L⟩ A M
  let⟨hp,rfl⟩:=yQ J;exists rfl,rfl;have N:=fE g p
  have O:d.length<=196:=by
   have:p*14<=14*14:=wz ()^bh _
   lia
  exists _,rfl,_,rfl;dsimp only[lZ];refine Eb () λr v u=>?_
  have ml:=v.length_eq;refine jF (λl=>∃o,l= [o,some^aB p]) aB (λq=>decide (p<q)) (λq=>pairD (p,q)) r _ [] _ (λy hy Q x Y Nn S X=>?_) #[_,rfl] (by rw[mr,kn];exact small ()) λQ x=>?_
  .obtain⟨o,rfl⟩:=x
   exists _,rfl,_,rfl,_,rfl;refine(?_:if decide ((p:Int)<(y:Int))=true then _ else _);refine cY (λc=>?_)^λc=>?_
   .have c:p<y:=by have:=IR c;lia
    exact#[_,rfl,_,rfl,by show 2<=sizeLine;decide,S _ #[_,rfl]^FS c]
   .have c:¬p<y:=by have:=On c;lia
    exact X _ #[_,rfl]^FM c
  have fl:=Gr (λq=>decide (p<q)) r;rw[mv];refine#[_,rfl,small^by rw[aI,aI];lia,M _ #[d++(r.filter λq=>decide (p<q)).map^λq=>(p,q),some^.int (p:Int),some^aD^row e p,?_,?_,?_,?_,?_]]
  .rw[dk,dB];rfl
  .rw[Ln]
   exact i.append^(v.filter _).map _
  .refine sV.mpr #[srt,?_,λa ha b hb=>?_]
   .rw[kh]
    refine(u.filter _).imp λ {a b} h=>?_;exact .inr #[rfl,h]
   .obtain⟨y,_,rfl⟩:=cQ.mp hb
    exact .inl^lo a ha
  .intro t f
   rcases cE.mp f with f|f
   .have:=lo t f;lia
   .obtain⟨y,_,rfl⟩:=cQ.mp f
    exact BO _
  .rw[eF,aI];lia
 .rintro _ ⟨d,m,n,rfl,i,srt,lo,L⟩
  rw[fP,I] at i;exact#[#[_,rfl],_,rfl,q d i srt]
end wC
set_option autoImplicit true
namespace Wb
noncomputable def e8(a:List^List (Nat×Nat))(d:Nat×Nat):Nat:=a.findIdx λr=>decide (d∈r)
def Mu(h:d∈a.flatten):e8 a d<a.length:=by
 obtain⟨r,b,c⟩:=lJ.mp h;exact List.findIdx_lt_length_of_exists #[r,b,FS c]
def U4{a:List^List (Nat×Nat)}{d:Nat×Nat}(h:d∈a.flatten):d∈a.getD (e8 a d) []:=by
 have l:=Mu h;rw[fu,eE l]
 have:=List.findIdx_getElem (w:=l)
 exact IR this
theorem Ms:∀{a:List^List (Nat×Nat)}{d:Nat×Nat}{k:Nat},a.flatten.Nodup->d∈a.getD k []->e8 a d=k
 | [],d,k,_,h=>by simp at h
 |r::a,d,0,b,h=>by
  have h:d∈r:=h;unfold e8;rw[adJ,FS h];rfl
 |r::a,d,k+1,b,h=>by
  have h:d∈a.getD k []:=h;rw[wu] at b;let⟨l,f,g⟩:=hZ.mp b;have c:=Ms f h
  have i:d∈a.flatten:=by
   rw[fu] at h;cases e:a[k]? with
   |none=>rw[e] at h;cases h
   |some x=>rw[e] at h;exact lJ.mpr #[x,cR e,h]
  have j:d∉r:=λz=>g d z d i rfl;unfold e8 at c ⊢;rw[adJ,FM j];show a.findIdx _+1=k+1;rw[c]
noncomputable def dU(a:List^List (Nat×Nat)):W:=a.map λr=>r.map λd=>e8 a (d.2,d.1)
def MC:row (dU a) k=(a.getD k []).map λd=>e8 a (d.2,d.1):=by
 unfold row dU;rw[fu,fu,fm];cases a[k]? <;>rfl
structure oR (w:W) (rss:List^List (Nat×Nat)):Prop where
 nd:rss.flatten.Nodup
 dart:∀d,d∈rss.flatten↔aU w d
 go:∀k d,d∈rss.getD k []->sj w d∈rss.getD k []
def oR.of{w:W}(g:Good w){a:List^List (Nat×Nat)}(R:cg w a):oR w a:=by
 refine#[R.perm.nodup_iff.mpr^fN g,λd=>R.perm.mem_iff.trans bF,λk d h=>?_];rw[fu] at h ⊢;cases e:a[k]? with
 |none=>rw[e] at h;cases h
 |some r=>
  rw[e] at h;let⟨c,b,f⟩:=R.rnd r^cR e;exact b.next h
def oR.one(g:Good w)(h:w.length=1):oR w [[]]:=by
 refine#[∅,λd=>#[λz=>by simp at z,λz=>?_],λk d z=>?_]
 .have a:=ie z
  have b:=g.rng _ _ z;exact absurd (show d.1=d.2 by lia)^pV g z
 .match k with
  |0=>cases z
  |k+1=>simp at z
def oR.num(L:oR w a){d:Nat×Nat}(h:aU w d):e8 a d<a.length/\d∈a.getD (e8 a d) []:=#[Mu^(L.dart d).mpr h,U4^(L.dart d).mpr h]
def oR.at_(L:oR w a){d:Nat×Nat}(h:d∈a.getD k []):aU w d/\e8 a d=k:=by
 refine#[(L.dart d).mp ?_,Ms L.nd h];rw[fu] at h;cases e:a[k]? with
 |none=>rw[e] at h;cases h
 |some x=>rw[e] at h;exact lJ.mpr #[x,cR e,h]
def oR.next(L:oR w a)(h:aU w d):e8 a^sj w d=e8 a d:=(L.at_^L.go _ _ (L.num h).2).2
def Jn(g:Good w){A:Nat×Nat->Prop}(l:∀d,aU w d->A d->A (d.2,d.1))(t:∀d,aU w d->A d->A^sj w d)(m:aU w f)(u:A f):∀d,aU w d->A d:=by
 have o:∀p q,q∈row w p->A (p,q)->∀x∈row w p,A (p,x):=λp q e v=>by
  have j:=wo e
  have y:∀n,A (p,(row w p).getD (((row w p).idxOf q+n)%(row w p).length) 0):=λn=>by
   induction n with
   |zero=>
    have c:=LM e;rw[Nat.add_zero,yY c,fu,eE c,ae6,BX];exact v
   |succ n k=>
    have c:=qQ ((row w p).idxOf q+n) j
    have r:(row w p).getD (((row w p).idxOf q+n)%(row w p).length) 0∈row w p:=by
     rw[fu,eE c];exact nK c
    have i:aU w ((row w p).getD (((row w p).idxOf q+n)%(row w p).length) 0,p):=g.sym _ _ r
    have:=t _ i^l (p,(row w p).getD (((row w p).idxOf q+n)%(row w p).length) 0) r k
    unfold sj jC at this
    have B:(row w p).idxOf^(row w p).getD (((row w p).idxOf q+n)%(row w p).length) 0=((row w p).idxOf q+n)%(row w p).length:=by
     rw[fu,eE c,ae6];exact List.Nodup.idxOf_getElem (g.nod p) _ c
    simp only[B] at this;rw[Nat.mod_add_mod] at this;exact this
  intro x C;have c:=LM C;have F:=LM e
  have:=y ((row w p).idxOf x+(row w p).length-(row w p).idxOf q)
  rw[show(row w p).idxOf q+((row w p).idxOf x+(row w p).length-(row w p).idxOf q)=(row w p).idxOf x+(row w p).length by lia,Nat.add_mod_right,yY c,fu,eE c,ae6,BX] at this
  exact this
 have zA:∀p q,q∈row w p->(∀x∈row w p,A (p,x))->∀x∈row w q,A (q,x):=λp q e h=>o q p (g.sym _ _ e)^l (p,q) e^h q e
 have reach:∀a b,Reach w a b->((∀x∈row w a,A (a,x))↔∀x∈row w b,A (b,x)):=λa b h=>by
  induction h with
  |refl=>exact Iff.rfl
  |step _ s k=>exact k.trans #[zA _ _ s,zA _ _^g.sym _ _ s]
 have E:=o f.1 f.2 m u;intro d i;exact(reach 0 d.1^g.con _^ie i).mp ((reach 0 f.1^g.con _^ie m).mpr E) d.2 i
def GU(g:Good w)(L:oR w b)(ne:∀r∈b,r= []->b.length=1)(u:∀d,aU w d->e8 b d≠e8 b (d.2,d.1))(v:∀r∈dU b,r.Nodup):Good^dU b:=by
 have mem:∀{p q},q∈row (dU b) p↔∃d,d∈b.getD p []/\e8 b (d.2,d.1)=q:=λ {p q}=>by rw[MC,cQ]
 have i:(dU b).length=b.length:=aI _;refine#[λp q h=>?_,λp h=>?_,λp=>?_,λp q h=>?_,λp n=>?_]
 .obtain⟨d,f,rfl⟩:=mem.mp h
  rw[i];exact(L.num (d:=(d.2,d.1))^g.sym d.1 d.2 (L.at_ f).1).1
 .obtain⟨d,f,e⟩:=mem.mp h
  let⟨c,j⟩:=L.at_ f;exact u d c^j.trans e.symm
 .by_cases h:p<b.length
  .refine v _ ?_
   have:(dU b)[p]?\(row (dU b) p):=vL^by rw[i];exact h
   exact cR this
  .rw[MC,fu,gP ()];exact iN
 .obtain⟨d,f,rfl⟩:=mem.mp h
  let⟨c,j⟩:=L.at_ f;exact mem.mpr #[(d.2,d.1),(L.num (d:=(d.2,d.1))^g.sym d.1 d.2 c).2,j]
 .rw[i] at n
  have side:∀k,k<b.length->k=0\/∃d,d∈b.getD k []:=λk o=>by
   cases e:b.getD k [] with
   |nil=>
    left
    have:b[k]= []:=by rw[fu,eE o] at e;exact e
    have:=ne _ (nK o) this
    lia
   |cons d _=>exact .inr #[d,c5 ..]
  by_cases s:p=0
  .subst s;exact .refl _
  let⟨dp,l⟩:=(side p n).resolve_left s;have t:0<b.length:=()
  obtain⟨C,m⟩:∃d,d∈b.getD 0 []:=by
   cases e:b.getD 0 [] with
   |nil=>
    have:b[0]= []:=by rw[fu,eE t] at e;exact e
    have:=ne _ (nK t) this
    lia
   |cons d _=>exact#[d,c5 ..]
  let⟨x,y⟩:=L.at_ m;let⟨Dp,B⟩:=L.at_ l
  have:=Jn g (A:=λd=>Reach (dU b) 0^e8 b d) (λd c a=> .step a^mem.mpr #[d,(L.num c).2,rfl]) (λd c a=>by rw[L.next c];exact a) x (by rw[y];exact .refl _) dp Dp
  rw[B] at this;exact this
end Wb
namespace wC
open PySem L2 Wb
variable {P:Program} {w:World} {mg:Str->Option Value} {base:Heap} {Z:DC} (T:Txt Z mg)
theorem lh:∀(a:List^List (Nat×Nat))(n:Nat),d∈a.flatten->∃j:Nat,(qu a)[j]?\(zz d)/\(i9 n a)[j]?\(FV.int ((n+e8 a d:Nat):Int))
 | [],n,h=>nomatch h
 |r::a,n,h=>by
  unfold qu e8;rw[wu,dk];unfold i9
  by_cases c:d∈r
  .obtain⟨j,b⟩:=Gq.mp c
   have e:=(cz.mp b).1;refine#[j,?_,?_]
   .rw[i5^by rw[aI];exact e,fm,b];rfl
   .rw[i5^by rw[aI];exact e,fm,b,adJ,FS c];rfl
  .rw[wu,cE] at h
   let⟨j,g,f⟩:=lh a (n+1)^h.resolve_left c;unfold e8 at f;refine#[r.length+j,?_,?_]
   .rw[lF^by rw[aI];lia,aI,ae9];exact g
   .rw[lF^by rw[aI];lia,aI,ae9,f,adJ,FM c]
    show some^FV.int _\(FV.int _);rw[show n+1+a.findIdx (λr=>decide (d∈r))=n+(a.findIdx (λr=>decide (d∈r))+1) by lia];rfl
def RS.uniq{w:W}(g:Good w)(h:RS w a)(k:RS w b):a=b:=by
 rcases h with ⟨c,rfl⟩ | ⟨c,R,e⟩<;>rcases k with ⟨d,rfl⟩ | ⟨d,S,f⟩
 .rfl
 .lia
 .lia
 .rw[<-rO g R,<-rO g S,<-e,f]
def RS.Mr{w:W}(g:Good w)(h:RS w a):oR w a:=by
 rcases h with ⟨b,rfl⟩ | ⟨_,R,_⟩
 .exact .one g b
 .exact .of g R
def Bz{w:W}(h:t∈fg (row w) w.length):aU w t:=by
 rw[gy] at h;exact bF.mp (wy.mp h).1
structure Tk (w:W) (rss:List^List (Nat×Nat)) (ts:List (Nat×Nat)):Prop where
 g:Good w
 h1:1<=w.length
 h14:w.length<=14
 rs:RS w rss
 pm:ts.Perm (fg (row w) w.length)
 srt:ts.Pairwise lexLe
def Tk.uniq{w:W}(h:Tk w a c)(d:b.Perm^fg (row w) w.length)(srt:b.Pairwise lexLe):b=c:=adi (λ_ _ _ _=>nq) srt h.srt^d.trans h.pm.symm
def Tk.few{w:W}(h:Tk w a b):b.length<=196:=by
 have c:=gm h.g;have e:w.length*w.length<=14*14:=wz h.h14 h.h14
 have:=h.pm.length_eq
 rw[gy] at this
 have:=Gr (λd:Nat×Nat=>decide (d.1<d.2))^bo w
 lia
def Tk.rounds{w:W}(h:Tk w rss f):rss.flatten.length<=196/\(∀r∈rss,r.length<=196)/\rss.length<=197:=by
 rcases h.rs with ⟨_,rfl⟩ | ⟨_,R,_⟩
 .exact#[∅,λr e=>by rw[fX] at e;subst e;decide,∅]
 .obtain⟨a,b,c⟩:=rN h.g h.h14 R
  exists b,c
  have:=wG (w:=w) (rss:=rss) λr e=>let #[d,a,b,_]:=R.rnd r e;#[d,a,b]
  lia
noncomputable def tc(w:W):Nat:=(fg (row w) w.length).length
noncomputable def z8(w:W)(a:List^List (Nat×Nat)):D:= .tup [.int (w.length:Int), .int (tc w:Int), .int (a.length:Int)]
def iH(w:W)(a:List^List (Nat×Nat)):Prop:=(w.length:Int)+(a.length:Int)=(tc w:Int)+2
def HM{w:W}{P:D->Prop}(g:Good w)(j:1<=w.length)(f:w.length<=14)(R:RS w a)(h:∀b:List^List Nat,b.map pO=a->b.length=a.length->(∀r∈b,r.length<=300)->P^.lst^b.map aD):IH [.gf w] P:=by
 refine#[w,rfl,g,j,f,λe=>?_,λk m R2 e=>?_]
 .obtain rfl:=R.uniq g^.inl #[e,rfl]
  exact h [[0]] rfl rfl λr d=>by rw[fX] at d;subst d;decide
 .obtain rfl:=R.uniq g^.inr #[k,R2,e]
  rw[e];let⟨n,o,c⟩:=rN g f R2;refine h (iR a) (rO g R2) (by unfold iR;rw[aI]) λr d=>?_
  let⟨i,l,rfl⟩:=cQ.mp d
  have:=c i l
  show(i.map (·.1)).length<=300;rw[aI];lia
def OK:eS:=λb P=>∃(w:W)(a:List^List (Nat×Nat)),b= [.gf w]/\Good w/\1<=w.length/\w.length<=14/\RS w a/\P^z8 w a
def DV:Dk P w base 4 T.u3^aS Z OK:=by
 have r:=D9.nd;refine bg T.u3.F D9 [0] ∅ (λf R h=>by let⟨v,x,rfl,y⟩:=h;rfl)^λt A outer s H E f R c h=>?_
 have u:=c.units;refine#[_,(au^aO^bb^aa (fY T.W (U 0) T.v8.m (ou T) (c.mono ∅) T.v8.b)^aa (aW cJ rfl T.B.len cH^aa (fY T.W (U 0) T.va.m (iV T) (c.mono ∅) T.va.b) ah)^aa (aW cJ rfl T.B.len cH^aa (aH T.u2 (xE T) c^aa (U 0) ah) ah) ah),?_]
 let⟨a,d,rfl,g,i,e,R,q⟩:=h;refine#[_,rfl,a,rfl,a,rfl,_,rfl,a,rfl,a,rfl,g,e,λj k srt=>?_];have l:(j.map pairD).length=tc a:=by rw[aI,k.length_eq];rfl
 exists _,rfl;dsimp only[lZ];refine HM g i e R λn _ o _=>?_;have p:(n.map aD).length=d.length:=by rw[aI,o]
 unfold z8 at q;rw[<-l,<-p] at q;exact#[by show 3<=sizeLine;decide,q]
def OO:eS:=λb P=>∃(w:W)(a:List^List (Nat×Nat)),b= [.gf w]/\Good w/\1<=w.length/\w.length<=14/\RS w a/\(iH w a->P^.bl true)/\(¬iH w a->P^.bl false)
def FC:Dk P w base 5 T.u4^aS Z OO:=by
 have b:=vT.nd;refine bg T.u4.F vT [0,0,0,0] ∅ (λf R h=>by let⟨o,p,rfl,q⟩:=h;rfl)^λn A outer s H E f R d h=>?_
 have i:=d.units
 refine#[_,(aw (EJ (aH T.u3 (DV T) d^aa (U 0) ah)^fO 3 rfl^aP (aL 1 b)^aP (aL 2 b)^aP (aL 3 b) cT)
   (au^aO^qW (iU i) (f6 iT (U 1)^U 3) (f6 iT (U 2) aR)^aX _)),?_]
 let⟨e,a,rfl,g,j,k,R,l,m⟩:=h;exists _,rfl,e,a,rfl,g,j,k,R;unfold z8;exists rfl,rfl;exists _,rfl,_,rfl,_,rfl;refine mZ ?_
 by_cases c:iH e a
 .have:=l c
  unfold iH at c;rw[FS c];exact this
 .have:=m c
  unfold iH at c;rw[FM c];exact this
variable {P:Program} {w:World} {mg:Str->Option Value} {base:Heap} {Z:DC} (T:Txt Z mg)
def RG(a:List D):Prop:=∃d,a= [d]
def CF:FnOk P w Z.K mg base fJ 2 T.yd.f T.yd.fd ["self","counted"]^FQ Z T.vm ["counted"] RG:=by
 have C:=jf.nd;refine T.yd.F.ok jf (λl H Q E h=>?_)^λI A outer s H l Q E J h=>?_
 .obtain⟨a,n,G,p,rfl,_,_,_,dv,_,r,_⟩:=h
  have:=dv.length
  simp at r ⊢;lia
 obtain⟨a,n,G,p,rfl,g,t,j,dv,⟨d,rfl⟩,_,q⟩:=h;let⟨y,rfl,u⟩:=dv.ofOne;exists _,aF (dh^xF rfl T.xb.m T.xb.sg T.xb.rd T.xb.fc^ao (pv 0)^ao rH az)^bB^vI (pv 0) (pv 1) rfl;exists _,rfl,a,T.vm,none,_,rfl,g,T.ya.obj;refine#[_,rfl,_,rfl,a,T.vm,[],rfl,T.ya.cls,T.ye, .inl #[rfl,g,λi b=>?_]];have v:a≠i:=aq g b;have k:G i=none:=j.free b;refine q i [y] G _ (.refl _) (λc o e=>?_) (λc o x e=>?_) (λc _ B=>B) ?_ b ae k^.cons u .nil
 .rw[af^aq e k,af^aq e t];exact j _ _ e
 .rw[af^aq e b,af x];exact e
 .rw[af v,ae]
def HZ:FnOk P w Z.K mg base fJ 2 T.yg.f T.yg.fd ["self","tie"]^FQ Z T.y4 ["tie"] RG:=by
 have C:=kc.nd;refine T.yg.F.ok kc (λl H Q E h=>?_)^λI A outer s H l Q E J h=>?_
 .obtain⟨a,n,G,p,rfl,_,_,_,dv,_,r,_⟩:=h
  have:=dv.length
  simp at r ⊢;lia
 obtain⟨a,n,G,p,rfl,g,t,j,dv,⟨d,rfl⟩,_,q⟩:=h;let⟨y,rfl,u⟩:=dv.ofOne;exists _,aF (dh^xF rfl T.xb.m T.xb.sg T.xb.rd T.xb.fc^ao (pv 0)^ao rH az)^bB^vI (pv 0) (pv 1) rfl;exists _,rfl,a,T.y4,none,_,rfl,g,T.yb.obj;refine#[_,rfl,_,rfl,a,T.y4,[],rfl,T.yb.cls,T.yh, .inl #[rfl,g,λi b=>?_]];have v:a≠i:=aq g b;have k:G i=none:=j.free b;refine q i [y] G _ (.refl _) (λc o e=>?_) (λc o x e=>?_) (λc _ B=>B) ?_ b ae k^.cons u .nil
 .rw[af^aq e k,af^aq e t];exact j _ _ e
 .rw[af^aq e b,af x];exact e
 .rw[af v,ae]
def ZA(a:List D):Prop:=∃d e,a= [d,e]
def H0:FnOk P w Z.K mg base fJ 2 T.yj.f T.yj.fd ["self","one","other"]^FQ Z T.y6 ["one","other"] ZA:=by
 have I:=ke.nd;refine T.yj.F.ok ke (λn H Q E h=>?_)^λJ A outer s H n Q E L h=>?_
 .obtain⟨a,p,G,r,rfl,_,_,_,dv,_,t,_⟩:=h
  have:=dv.length
  simp at t ⊢;lia
 obtain⟨a,p,G,r,rfl,i,u,l,dv,⟨d,e,rfl⟩,_,q⟩:=h;let⟨y,z,rfl,v,x⟩:=dv.xB;exists _,aF (dh^xF rfl T.xb.m T.xb.sg T.xb.rd T.xb.fc^ao (pv 0)^ao rH az)^aF (vI (pv 0) (pv 1) rfl)^bB^vI (pv 0) (pv 2) rfl;exists _,rfl,a,T.y6,none,_,rfl,i,T.yc.obj;refine#[_,rfl,_,rfl,a,T.y6,[],rfl,T.yc.cls,T.yk, .inl #[rfl,i,λg b=>?_]];have j:a≠g:=aq i b;have k:G g=none:=l.free b;refine#[_,rfl,_,rfl,a,T.y6,[("one",y)],rfl,T.yc.cls,T.yl, .inr #[g,by rw[af j,ae],ae,?_]]
 refine#[by show 1<1000;decide,?_]
 refine q g [y,z] G _ (.refl _) (λc o e=>?_) (λc o B e=>?_) (λc _ C=>C) ?_ b ?_ k^.cons v^.cons x .nil
 .rw[af^aq e k,af^aq e k,af^aq e u];exact l _ _ e
 .rw[af^aq e b,af^aq e b,af B];exact e
 .rw[af j,af j,ae]
 .rw[ae];rfl
def OM(c:Addr):En:=λb P R=>∃(w:W)(a:List^List (Nat×Nat)),b= [.gf w]/\Good w/\1<=w.length/\w.length<=14/\RS w a/\(iH w a->P .aQ)/\(¬iH w a->R^.err c ["counted"] [z8 w a])
def zq:Dx P w base 6 T.u5^hV Z^OM T.vm:=by
 have n:=qI.nd;refine ng T.u5.F qI [0] ∅ (λj R k h=>by let⟨q,r,rfl,t⟩:=h;rfl)^λo A outer s H E j R k b h=>?_
 have p:=b.units;exists _,(au^cw (nV^l6^aH T.u4 (FC T) b^aa (U 0) ah) (au^tw rfl T.yd (CF T) b T.ya T.vn^aa (aH T.u3 (DV T) b^aa (U 0) ah) ah) bf);let⟨d,a,rfl,g,e,f,i,l,m⟩:=h;refine#[_,rfl,d,a,rfl,g,e,f,i,λc=>#[rfl,cL^l c],λc=>#[rfl,b9 ?_]];exact#[_,rfl,d,a,rfl,g,e,f,i,#[_,rfl],rfl,m c]
noncomputable def lP(a:List^List (Nat×Nat))(t:Nat×Nat):Bool:=decide (e8 a t=e8 a (t.2,t.1))
def VP(c:Addr):En:=λd P R=>∃(w:W)(a:List^List (Nat×Nat))(b:List (Nat×Nat)),d= [.gf w, .x^.fo (qu a)^i9 0 a]/\Tk w a b/\(∀t,b.find?^lP a\t->R^.err c ["tie"] [pairD t])/\(b.find?^lP a=none->P .aQ)
def sq:Dx P w base 4 T.ug^hV Z^VP T.y4:=by
 have q:=lC.nd;refine ng T.ug.F lC [0,0,0,0] ∅ (λB R C h=>by obtain⟨_,_,_,rfl,_⟩:=h;rfl)^λaV A outer s H E B R C k h=>?_
 have d:=k.units;refine#[_,(au^dW rfl PassesOwn.leaving (bE^fY T.W (U 0) T.va.m (iV T) (k.mono ∅) T.va.b) (fO 2 rfl^aP (aL 2 q)^aP (aL 3 q) cT)^au^cw (bA (iU d) (qX d (U 1)^bb^aa (U 2)^aa (U 3) ah) (qX d (U 1)^bb^aa (U 3)^aa (U 2) ah)^aX _) (au^tw rfl T.yg (HZ T) k T.yb T.y5^aa (bb^aa (U 2)^aa (U 3) ah) ah) bf),?_]
 let⟨f,a,ts,rfl,ok,G,I⟩:=h;have g:=ok.g;have L:=ok.rs.Mr g;have J:=ok.few;refine#[_,rfl,f,rfl,f,rfl,g,ok.h14,λc M N=>?_];obtain rfl:=ok.uniq M N;refine(?_:j8 _ _ _ (c.map pairD) _);refine b8 (λj O=>∃(l n:Option D),O= [some^.gf f,some^.x^.fo (qu a)^i9 0 a,l,n]/\(c.take j).find?^lP a=none) #[_,_,rfl,rfl] ?_ ?_
 .rintro j _ _ Q ⟨l,n,rfl,i⟩ A S
  let⟨u,d,rfl⟩:=dg Q;have r:aU f u:=Bz^ok.pm.mem_iff.mp^cR d;have o:aU f (u.2,u.1):=g.sym _ _ r;let⟨X,Y,t⟩:=lh a 0^(L.dart _).mpr r;let⟨j2,a2,v⟩:=lh a 0^(L.dart _).mpr o;have tZ:c.take (j+1)=c.take j++ [u]:=by rw[zb,d];rfl
  have y:(c.take (j+1)).find?^lP a= [u].find?^lP a:=by rw[tZ,List.find?_append,i];rfl
  exists rfl,rfl;refine#[_,rfl,_,rfl,_,rfl,by show 2<=sizeLine;decide,?_]
  rw[kn] at t v;exists zz u,qu a,i9 0 a,X,_,rfl,rfl,Y,t;refine#[_,rfl,_,rfl,_,rfl,by show 2<=sizeLine;decide,?_]
  exists zz (u.2,u.1),qu a,i9 0 a,j2,_,rfl,rfl,a2,v;refine(?_:Ab (.int (e8 a u:Int)) (.int (e8 a (u.2,u.1):Int)) _);refine mZ #[_,rfl,cY (λe=>?_)^λe=>?_]
  .have e:(e8 a u:Int)=(e8 a (u.2,u.1):Int):=IR e
   have p:lP a u=true:=FS ()
   refine#[_,rfl,_,rfl,by show 2<=sizeLine;decide,#[_,rfl],rfl,G u ?_]
   have:c.find?^lP a=(c.take (j+1)++c.drop (j+1)).find?^lP a:=by rw[lG]
   rw[this,List.find?_append,y,List.find?_cons,p];rfl
  .have e:¬(e8 a u:Int)=(e8 a (u.2,u.1):Int):=On e
   have p:lP a u=false:=FM ()
   exact S _ #[_,_,rfl,by rw[y,List.find?_cons,p];rfl]
 .rintro _ ⟨l,n,rfl,i⟩
  rw[aI,za] at i;exact I i
noncomputable def mh(l:List Nat):Nat:=l.foldl min^l.headD 0
theorem fold_min:∀(l:List Nat)(a:Nat),(l.foldl min a<=a/\∀x∈l,l.foldl min a<=x)/\(l.foldl min a=a\/l.foldl min a∈l)
 | [],a=>#[#[bh _,λx h=>nomatch h], .inl rfl]
 |b::l,a=>by
  obtain⟨⟨i,f⟩,g⟩:=fold_min l^min a b;rw[afc];refine#[#[(),λx d=>?_],?_]
  .rcases dS.mp d with rfl|d
   .lia
   .exact f x d
  .rcases g with e|e
   .rw[e]
    by_cases c:a<=b
    .left;lia
    .right;rw[show min a b=b by lia];exact c5 ..
   .exact .inr^dY _ e
theorem AE(b:m∈l)(c:∀x∈l,m<=x):mh l=m:=by
 cases l with
 |nil=>cases b
 |cons a l=>
  obtain⟨⟨h,d⟩,f⟩:=fold_min (a::l) a
  have:mh (a::l)<=m:=d m b
  have g:mh (a::l)∈a::l:=f.elim (λe=>by(show(a::l).foldl min a∈_;rw[e];exact c5 ..)) id
  have:=c _ g
  lia
theorem count_cast(y:Nat):∀l:List Nat,(l.map λ(n:Nat)=>(n:Int)).count (y:Int)=l.count y
 | []=>rfl
 |a::l=>by
  rw[dR,List.count_cons,List.count_cons,count_cast y l]
  congr 1
  by_cases c:a=y
  .subst c;simp
  .have:(a:Int)≠(y:Int):=()
   simp[c,this]
def X8{P:D->Prop}(h:P^.bl (decide (j<i))):dC (.int j) a (λb=>dGt (.int i) b P):=h
noncomputable def gn(r:List Nat):List Nat:=r.filter λo=>decide (1<r.count o)
noncomputable def nH:List^List Nat->Nat->Option (Nat×Nat)
 | [],_=>none
 |r::a,n=>if gn r= [] then nH a (n+1) else some (n,mh^gn r)
def rQ{rows:List^List Nat}:∀(j n:Nat),j<=rows.length->(∀r∈rows.take j,gn r= [])->nH rows n=nH (rows.drop j) (n+j):=by
 induction rows with
 |nil=>intro j n h _;rw[show j=0 by simpa using h];rfl
 |cons r rows a=>
  intro j n h k;cases j with
  |zero=>rfl
  |succ j=>
   have e:gn r= []:=k r^by simp
   show(if gn r= [] then nH rows (n+1) else _)=_;rw[mo e,a j (n+1) (~~~h) λr b=>k r^by simp[b],List.drop_succ_cons,show n+1+j=n+(j+1) by lia]
def Ub(h:gn r= []):r.Nodup:=by
 rw[List.nodup_iff_count];intro a;apply GE;intro z;have b:a∈r:=aey.mp ()
 have:a∈gn r:=wy.mpr #[b,FS ()]
 rw[h] at this;cases this
theorem xQ:∀{a:List^List Nat}{n:Nat},nH a n=none->∀r∈a,r.Nodup
 | [],n,_,r,b=>nomatch b
 |s::a,n,h,r,b=>by
  unfold nH at h
  split at h
  .next e=>
   rcases dS.mp b with rfl|b
   .exact Ub e
   .exact xQ h r b
  .cases h
def VQ(c:Addr):En:=λb P R=>∃(a:List^List Nat),b= [ba a]/\a.length<=300/\(∀r∈a,r.length<=300)/\(∀n m,nH a 0\(n,m)->R^.err c ["one","other"] [aB n,aB m])/\(nH a 0=none->P .aQ)
def pM:Dx P w base 4 T.uh^hV Z^VQ T.y6:=by
 have g:=jS.nd;refine ng T.uh.F jS [0,0,0,0] ∅ (λG R I h=>by let⟨K,rfl,V⟩:=h;rfl)^λaV A outer s H E G R I b h=>?_
 have hu:=b.units
 refine#[_,(au^dW rfl PassesOwn.leaving (eV rfl T.B.enumerate^aa (U 0) ah) (fO 2 rfl^aP (aL 1 g)^aP (aL 2 g) cT)^aw (kI 3 (NC:= ["other","row"]) (src:= [none,some 2]) rfl g (pU^ar fA) #[rfl,rfl,trivial] (bE^U 2) (λ_ _ _=>(bp 0 (show(["other","row"]:List ee).Nodup from by decide+kernel))) (λ_ _ _=>(m8^bA Fu (CZ (U 1)^U 0) aR^aX _))^λ_ _ _=>(U 0))
   (au^cw (l6^U 3) (au^tw rfl T.yj (H0 T) b T.yc T.y7^aa (U 1)^aa (aW ((GP rfl)) rfl T.B.min LR^aa (U 3) ah) ah) bf)),?_]
 let⟨rows,rfl,l3,J,L,M⟩:=h;exists _,rfl;refine(?_:j8 _ _ _ (dF^rows.map aD) _);refine b8 (λj ρ=>∃(i k p:Option D),ρ= [some^ba rows,i,k,p]/\∀r∈rows.take j,gn r= []) #[_,_,_,rfl,λr b=>by simp at b] ?_ ?_
 .rintro j d _ N ⟨i,k,p,rfl,c⟩ A O
  let⟨x,q,rfl⟩:=jw N;let⟨r,b,rfl⟩:=dg q;have Q:=cR b;have rl:=J r Q;have S:rows.take (j+1)=rows.take j++ [r]:=by rw[zb,b];rfl
  exists rfl,rfl;exists _,rfl;refine qh (ρ:= [none,some^aD r]) aB (λo=>decide (1<r.count o)) aB r _ [] _ (λy hy Y Nn X t2=>?_) #[none,rfl] (small^by rw[mr];lia) λaG=>#[trivial,?_]
  .refine#[_,rfl,r.map λ(n:Nat)=>(n:Int),by rw[dB];rfl,_,rfl,y,rfl,?_]
   rw[count_cast];exact X8 #[_,rfl,cY (λe=>#[_,rfl,X^FS^by have:(1:Int)<((r.count y:Nat):Int):=IR e;lia])^λe=>t2^FM^by have:¬(1:Int)<((r.count y:Nat):Int):=On e;lia]
  rw[mv];have t:(r.filter λo=>decide (1<r.count o))=gn r:=rfl;rw[t];refine#[_,rfl,rfl,cY (λe=>?_)^λe=>O _ #[_,_,_,rfl,λu v=>?_]]
  .have e:Ef^aD^gn r=true:=e
   have ne:gn r≠ []:=λz=>by rw[z] at e;cases e
   have C:nH rows 0\(j,mh^gn r):=by
    have jl:=(cz.mp b).1;rw[rQ j 0 () c,kn,qR jl,(cz.mp b).2]
    unfold nH;rw[tz ne]
   refine#[_,rfl,_,rfl,(gn r).map λ(n:Nat)=>(n:Int),by rw[dB];rfl,λz=>ne^List.map_eq_nil_iff.mp z,λn hn hm=>?_]
   let⟨m,YQ,rfl⟩:=cQ.mp hn;have em:mh^gn r=m:=AE YQ λx q=>by have:=hm _^Gu (f:=λ(n:Nat)=>(n:Int)) q;lia
   rw[em] at C;exact#[#[_,_,rfl],rfl,L j m C]
  .rw[S] at v
   rcases cE.mp v with z|z
   .exact c u z
   .rw[fX] at z
    subst z;have e:Ef^aD^gn u=false:=e;cases t:gn u with
    |nil=>rfl
    |cons a l=>rw[t] at e;cases e
 .rintro _ ⟨i,k,p,rfl,c⟩
  rw[fP,aI] at c
  have:=rQ (rows:=rows) rows.length 0 (bh _) c
  rw[qS^bh _] at this;exact M this
end wC
namespace L2
open PySem PySem.Spec PyProof.Rows
section
variable {Z:DC} {X:Cx} {md:List Nat} {rn k j:Nat} {f:Addr} {fd:FuncData} {ps:List Str} {t:ij} {e:Expr} {es:List Expr} {x:Str} {p pos aM:Pos}
def Ec(c:Addr):En:=λa P R=>∃(p:Addr)(w:List^List Nat),a= [.obj p,ba w]/\14<w.length/\w.length<100/\R^.err c [] []
def JA(b:List Nat)(c:Addr)(t:ij):dJ:=λE a=>t (cG b a) λd=>∃w,d= [ba w]/\((Wb.Good w/\1<=w.length/\w.length<=14/\E.rt^.gf w)\/(14<w.length/\w.length<100/\E.xc a^.err c [] []))
theorem EK(M:Mk Z.K Z.C f)(F:FnOk X.prog X.w X.K X.mg X.base fJ k f fd ps^Bo Z)(F':FnOk X.prog X.w X.K X.mg X.base (sX X.prog X.w) k f fd ps^hV Z^Ec c)(hr:bU j X.A)(hm:X.mg x\(.ref Z.C))(i:Binds X.K fd ps [])
  (ha:DA Z X (e::s) t) (eK:X.K=Z.K<|>zn) (n:Gl X x<|>zn) (hk:k+1<=j<|>xa) (eJ:(x==("__debug__":ee))=false<|>zm) (he:d4 (e::s) X.env=(false,fC e X.env)::d4 s X.env<|>zn) (bV:(f8 aM^d4 s X.env).any (·.1)=false<|>zn):
  DSt Z X md 0 (.Return (some^.Call (.Name x p) (e::s) [] aM) pos)^JA md c t:=by
 refine(h8^Oo (by rw[eK];exact M) ((FnOk.up F).or F') (hr.mono hk) n hm i ha eJ he bV).imp ?_
 intro D σ H aN;rfl';obtain⟨B,ρ,E,⟨G,fp,S⟩,h,M⟩:=aN;ac_rfl;exists G,_,_,S.ex.sub,S.uG,h;rintro _ ⟨w,rfl,hw⟩ vs u I q J p y r lR ne;cases J with
 | @cons v _ _ _ dv J=>
  cases J;have O:=S.grow q;have uQ:upd I y (.own p) p=none:=by rw[af^Ne.symm ne];exact r
  have l:=(ay lR^.own p).trans^ay uQ^.ins Z.C y []
  rcases hw with ⟨g,P,h14,q1⟩ | ⟨h14,L,q2⟩
  .refine .inl #[p,y,v,u,w,rfl,ae,q.sub.trans l,q.sub.free r,dv,g,P,h14,λR Q H2 g1 g2 kp off NV N=>#[rfl,?_]]
   have T:Q p=none:=off p (by rw[ae];exact λz=>nomatch z)^q.sub.free r
   have m:Ext u I (upd Q p^.ins Z.C y [("rows", .ref R)]) H2:=by
    refine#[g1.trans^ay T _,λb o e=>?_,λb o e=>?_,λb i n=>?_]
    .by_cases z:b=p
     .subst z;rw[ae] at e;cases e;exact NV
     .rw[af z] at e;exact g2 _ _ e
    .exact kp b o (l _ _ e)^aq e r
    .have nb:b≠p:=λz=>i^by rw[z];exact r
     rw[af nb];exact off b (cO l i) n
   exact M.rt _ q1 _ [] _ _ ((O.grow m).ex) #[.gf ae (N.mono^ay T _) g P h14,rfl] iN^λb i=>by cases i
  .refine .inr #[u,[.obj p,ba w],λ_=>False,λd=>d= .err c [] [],q.sub.trans l, .cons (.obj p)^.cons dv .nil,#[p,w,rfl,h14,L,rfl],λd z=>z.elim,?_]
   rintro _ rfl a Y H' m N;have x3:Ext u I Y H':=#[m.gg,m.sub,l.trans m.hh,λb i n=>m.off b (cO l i) n];exact#[a,rfl,M.xc ρ _ q2 σ H' Y fp a (O.grow x3) N]
end
end L2
namespace wC
open PySem L2 Wb
variable {P:Program} {w:World} {mg:Str->Option Value} {base:Heap} {Z:DC} (T:Txt Z mg)
def vA:FnOk P w Z.K mg base (sX P w) 5 T.v3 T.v4 ["self","turns"]^hV Z^Ec T.vg:=by
 have j:=gO.nd;refine ng T.v5 gO [0,0,0,0] ∅ (λc R d h=>by let⟨m,n,rfl,o⟩:=h;rfl)^λk A outer s H E c R d e h=>?_
 have l:=e.units
 refine#[_,aw
   (cw (nV^C4 AW AW aR (aW cJ rfl T.B.len cH^aa (U 1) ah)^wI rfl T.yq) (au^JF rfl T.yn T.y9 T.vh (wI rfl T.yq)^aW cJ rfl T.B.len cH^aa (U 1) ah) bf)
  dss_never,?_]
 let⟨p,a,rfl,h14,f,q⟩:=h;have b:(a.map aD).length=a.length:=aI _;have g:D.bl (decide ((1:Int)<=((a.map aD).length:Int)))= .bl true:=KF D.bl^FS^by rw[b];lia
 have i:D.bl (decide (((a.map aD).length:Int)<=14))= .bl false:=KF D.bl^FM^by rw[b];lia
 refine#[_,rfl,true,g,b9 #[false,i,b9 ?_]];exact#[14,rfl,∅,∅,_,rfl,((a.map aD).length:Int),rfl,(),by rw[b];lia,q]
def Crs(w:W)(a:List^List (Nat×Nat))(b:List (Nat×Nat))(A:Prop)(B:Nat×Nat->Prop)(C:Nat->Nat->Prop)(D E:Prop):Prop:=
 (¬iH w a->A)/\(iH w a->(∀t,b.find?^lP a\t->B t)/\(b.find?^lP a=none->(∀n m,nH (dU a) 0\(n,m)->C n m)/\(nH (dU a) 0=none->(14<a.length->D)/\(a.length<=14->E))))
def ZV(c d e f:Addr):En:=λg P R=>∃(w:W)(a:List^List (Nat×Nat))(b:List (Nat×Nat)),g= [.gf w]/\Tk w a b/\Crs w a b (R^.err c ["counted"] [z8 w a]) (λt=>R^.err d ["tie"] [pairD t]) (λn m=>R^.err e ["one","other"] [aB n,aB m]) (R^.err f [] []) (Good^dU a->P^.gf^dU a)
theorem De:∀l:List^List (Nat×Nat),(∀r∈l,2<=r.length)->2*l.length<=l.flatten.length
 | [],_=>bh _
 |r::l,h=>by
  have:=De l λr a=>h r^dY _ a
  have:=h r (c5 ..)
  rw[dQ,wu,eF];lia
def Tk.lands{w:W}(h:Tk w a b):a.length<100:=by
 have:=h.rounds.1
 rcases h.rs with ⟨_,rfl⟩ | ⟨_,R,_⟩
 .decide
 .have:=De a λr c=>by
   obtain⟨d,e,f,_⟩:=R.rnd r c;exact Ip h.g e f
  lia
def NP{w:W}(g:Good w)(h:2<=w.length):∃d,aU w d:=by
 cases g.con 1 () with
 |step _ a=>exact#[(_,1),a]
def AU{w:W}(ok:Tk w a f)(h:f.find?^lP a=none):∀d,aU w d->e8 a d≠e8 a (d.2,d.1):=λd i e=>by
 have g:=ok.g;have irr:=pV g i
 have all:∀t∈f,¬e8 a t=e8 a (t.2,t.1):=λt j=>by
  have:=Gv.mp h t j
  unfold lP at this;simpa using this
 have b:∀t:Nat×Nat,aU w t->t.1<t.2->t∈f:=λt dt lt=>ok.pm.mem_iff.mpr^by rw[gy];exact wy.mpr #[bF.mpr dt,FS lt]
 by_cases c:d.1<d.2
 .exact all d (b d i c) e
 .exact all (d.2,d.1) (b _ (g.sym d.1 d.2 i)^by show d.2<d.1;lia) e.symm
def RS.ne{w:W}{a:List^List (Nat×Nat)}(h:RS w a):∀r∈a,r= []->a.length=1:=λr b e=>by
 rcases h with ⟨_,rfl⟩ | ⟨_,R,_⟩
 .rfl
 .obtain⟨d,c,_⟩:=R.rnd r b
  have:=c.first
  rw[e] at this;cases this
def vB:Dx P w base 7 T.ui^hV Z^ZV T.vm T.y4 T.y6 T.vg:=by
 have q:=yJ.nd;refine ng T.ui.F yJ [0,0,0] ∅ (λO R Q h=>by let⟨z,D,K,rfl,V⟩:=h;rfl)^λaV A outer s H E O R Q b h=>?_
 have S:=b.units
 refine#[_,(aw (qY T.u5 (zq T) b^aa (U 0) ah)
   (aw (bM false 1 q^aH T.uf (xD T) b^aa (U 0) ah)
   (aw (qY T.ug (sq T) b^aa (U 0)^aa (U 1) ah)
   (aw (kI 2 (NC:= ["land","number_of"]) (src:= [none,some 1]) rfl q (pU^ar oI) #[rfl,rfl,trivial] (bE^aH T.u2 (xE T) b^aa (U 0) ah) (λ_ _ _=>(bp 0 (show(["land","number_of"]:List ee).Nodup from by decide+kernel))) (λ_ _ _=>eW)^λ_ _ _=>(nQ (NC:= ["p","q","number_of"]) (src:= [none,none,some 1]) rfl Wo #[rfl,rfl,trivial] (bE^aH T.ue (vC T) b^aa (U 0) ah) (λ_ _ _=>(l5 2 rfl^cC (bp 0 (show(["p","q","number_of"]:List ee).Nodup from by decide+kernel))^cC (bp 1 (show(["p","q","number_of"]:List ee).Nodup from by decide+kernel)) jH)) (λ_ _ _=>eW)^λ_ _ _=>(qX S (U 2)^bb^aa (U 1)^aa (U 0) ah)))
   (aw (qY T.uh (pM T) b^aa (U 2) ah)
   (au^EK T.v6 ((nz T).mono ∅) (vA T) b T.mC T.v7^aa (U 2) ah)))))),?_]
 let⟨e,f,X,rfl,ok,q1,i⟩:=h;have g:=ok.g;have L:=ok.rs.Mr g;let⟨f1,t,f3⟩:=ok.rounds;have f4:=ok.lands;refine#[_,rfl,e,f,rfl,g,ok.h1,ok.h14,ok.rs,λpl=>?_,q1];let⟨i,j⟩:=i pl;refine#[_,rfl,e,rfl,g,ok.h1,ok.h14,λa iC=>#[trivial,?_]];obtain rfl:=iC.uniq g ok.rs;refine#[_,rfl,_,rfl,e,a,X,rfl,ok,i,λu=>?_];let⟨j,k⟩:=j u;exists _,rfl;dsimp only[lZ];refine HM g ok.h1 ok.h14 ok.rs λv m ll l3=>?_;refine n6 (ρ:= [none,some^.x^.fo (qu a)^i9 0 a]) aD (λl=>aD ((pO l).map λd=>e8 a (d.2,d.1))) v _ (λl n Y o=>?_) rfl (small ()) λy=>#[trivial,?_]
 .refine#[_,rfl,l,rfl,l3 l n,?_]
  have sub:∀d∈pO l,aU e d:=λd p=>(L.dart d).mp^lJ.mpr #[pO l,by rw[<-m];exact Gu n,p]
  have sl:(pO l).length<=196:=t _^by rw[<-m];exact Gu n
  refine jF (λρ=>∃B C,ρ= [B,C,some^.x^.fo (qu a)^i9 0 a]) pairD (λ_=>true) (λd=>aB^e8 a (d.2,d.1)) (pO l) _ [] _ (λd p y G Y2 Nn h1 h2=>?_) #[none,none,rfl] (small^by rw[mr];lia) λy G=>?_
  .obtain⟨B,C,rfl⟩:=G
   let⟨j1,a1,I⟩:=lh a 0^(L.dart (d.2,d.1)).mpr^g.sym d.1 d.2^sub d p;rw[kn] at I;exists rfl,rfl;unfold l0;dsimp only;rw[mo rfl];exact#[_,rfl,_,rfl,_,rfl,by show 2<=sizeLine;decide,zz (d.2,d.1),qu a,i9 0 a,j1,_,rfl,rfl,a1,I,h1 _ #[_,_,rfl] rfl]
  .rw[mv,aem.mpr λ_ _=>rfl]
   unfold aD at o;rw[dB] at o;exact o
 have er:v.map (λl=>aD ((pO l).map λd=>e8 a (d.2,d.1)))=(dU a).map aD:=by
  have J:=KF (List.map λr=>aD (r.map λd=>e8 a (d.2,d.1))) m;rw[dB] at J;unfold dU;rw[dB];exact J
 rw[er];have cl:(dU a).length=a.length:=aI _;refine#[_,rfl,dU a,rfl,(),λr b=>?_,j,λM=>?_]
 .obtain⟨r',eY,rfl⟩:=cQ.mp b
  rw[aI]
  have:=t r' eY;lia
 let⟨k,q5⟩:=k M;have N:=GU g L ok.rs.ne (AU ok u)^xQ M;exists _,rfl,dU a,rfl
 by_cases c:14<a.length
 .exact .inr #[(),(),k c]
 .refine .inl #[N,?_,(),q5 () N]
  rcases ok.rs with ⟨_,rfl⟩ | ⟨n2,R,_⟩
  .decide
  .obtain⟨d,dd⟩:=NP g n2
   let⟨r,b,z⟩:=lJ.mp^(L.dart d).mpr dd
   have:=wo b
   lia
variable {P:Program} {w:World} {mg:Str->Option Value} {base:Heap} {Z:DC} (T:Txt Z mg)
def ON:eS:=λb P=>∃(w:W)(a:List^List (Nat×Nat))(c:List (Nat×Nat)),b= [ba w]/\Tk w a c/\(iH w a->P^.bl true)/\(¬iH w a->P^.bl false)
def AY:Dk P w base 4 T.ux^aS Z ON:=by
 have t:=qF.nd;refine bg T.ux.F qF [0] ∅ (λf R h=>by let⟨v,x,y,rfl,z⟩:=h;rfl)^λu A outer s H E f R d h=>?_
 have i:=d.units;exists _,(au^aO^qW (iU i) (f6 iT (aW cJ rfl T.B.len cH^aa (U 0) ah)^aW cJ rfl T.B.len cH^aa (aH T.uu (k9 T) d^aa (U 0) ah) ah) (f6 iT (aW cJ rfl T.B.len cH^aa (aH T.uw (mI T) d^aa (U 0) ah) ah) aR)^aX _);let⟨a,b,j,rfl,ok,k,l⟩:=h;have g:=ok.g;have m:(a.map aD).length=a.length:=aI _;have n:(b.map pk).length=b.length:=aI _;have lt:(j.map pairD).length=tc a:=by rw[aI,ok.pm.length_eq];rfl
 refine#[_,rfl,_,rfl,a,rfl,g,ok.h1,ok.h14,λe o=>?_];obtain rfl:=o.uniq g ok.rs;refine#[_,rfl,a,rfl,g,ok.h14,λp q r=>?_];obtain rfl:=ok.uniq q r;dsimp only[lZ,xU];refine(?_:Ab (.int (((a.map aD).length:Int)+((e.map pk).length:Int))) (.int (((p.map pairD).length:Int)+2)) _);rw[m,n,lt];refine mZ ?_
 by_cases c:iH a e
 .have:=k c
  unfold iH at c;rw[FS c];exact this
 .have:=l c
  unfold iH at c;rw[FM c];exact this
noncomputable def shD:Option (Nat×Nat)->D
 |none=> .aQ
 |some (n,m)=> .tup [aB n,aB m]
def SM:eS:=λb P=>∃(a:List^List Nat),b= [ba a]/\a.length<=300/\(∀r∈a,r.length<=300)/\P^shD^nH a 0
def je:Dk P w base 1 T.uy^aS Z SM:=by
 have c:=jg.nd;refine bg T.uy.F jg [0,0,0,0] ∅ (λt R h=>by let⟨K,rfl,V⟩:=h;rfl)^λaV A outer s H E t R a h=>?_
 have u:=a.units
 refine#[_,(aw (dW rfl Gc (eV rfl T.B.enumerate^aa (U 0) ah) (fO 2 rfl^aP (aL 1 c)^aP (aL 2 c) cT)^aw (kI 3 (NC:= ["_law_other","_law_row"]) (src:= [none,some 2]) rfl c (pU^ar fe) #[rfl,rfl,trivial] (bE^U 2) (λ_ _ _=>(bp 0 (show(["_law_other","_law_row"]:List ee).Nodup from by decide+kernel))) (λ_ _ _=>(m8^bA Fu (CZ (U 1)^U 0) aR^aX _))^λ_ _ _=>(U 0))
   (au^cw (bA (xw u) (U 3) (gI ah)^aX _) (au^aO^bb^aa (U 1)^aa (aW ((GP rfl)) rfl T.B.min LR^aa (U 3) ah) ah) bf))
   (au^aO fw)),?_]
 let⟨rows,rfl,l3,v,q⟩:=h;exists _,rfl;refine(?_:j8 _ _ _ (dF^rows.map aD) _);refine b8 (λj ρ=>∃(g i k:Option D),ρ= [some^ba rows,g,i,k]/\∀r∈rows.take j,gn r= []) #[_,_,_,rfl,λr a=>by simp at a] ?_ ?_
 .rintro j d _ C ⟨g,i,k,rfl,b⟩ A G
  let⟨x,l,rfl⟩:=jw C;let⟨r,a,rfl⟩:=dg l;have I:=cR a;have rl:=v r I;have J:rows.take (j+1)=rows.take j++ [r]:=by rw[zb,a];rfl
  exists rfl,rfl;exists _,rfl;refine qh (ρ:= [none,some^aD r]) aB (λo=>decide (1<r.count o)) aB r _ [] _ (λy hy Y Nn L M=>?_) #[none,rfl] (small^by rw[mr];lia) λaG=>#[trivial,?_]
  .refine#[_,rfl,r.map λ(n:Nat)=>(n:Int),by rw[dB];rfl,_,rfl,y,rfl,?_]
   rw[count_cast];exact X8 #[_,rfl,cY (λe=>#[_,rfl,L^FS^by have:(1:Int)<((r.count y:Nat):Int):=IR e;lia])^λe=>M^FM^by have:¬(1:Int)<((r.count y:Nat):Int):=On e;lia]
  rw[mv];have N:(r.filter λo=>decide (1<r.count o))=gn r:=rfl;rw[N];refine#[_,rfl,by show 0<=sizeLine;decide,?_]
  refine(?_:EE (aD^gn r) (aD []) _);refine Pw #[_,rfl,cY (λe=>?_)^λe=>G _ #[_,_,_,rfl,λO p=>?_]]
  .have ne:gn r≠ []:=λz=>by rw[z] at e;cases e
   have Q:nH rows 0\(j,mh^gn r):=by
    have S:=(cz.mp a).1;rw[rQ j 0 () b,kn,qR S,(cz.mp a).2]
    unfold nH;rw[tz ne]
   refine#[_,rfl,_,rfl,(gn r).map λ(n:Nat)=>(n:Int),by rw[dB];rfl,λz=>ne^List.map_eq_nil_iff.mp z,λn X hm=>?_]
   let⟨m,YQ,rfl⟩:=cQ.mp X;have em:mh^gn r=m:=AE YQ λx l=>by have:=hm _^Gu (f:=λ(n:Nat)=>(n:Int)) l;lia
   rw[Q,em] at q;exact#[by show 2<=sizeLine;decide,q]
  .rw[J] at p
   rcases cE.mp p with z|z
   .exact b O z
   .rw[fX] at z
    subst z;simpa using e
 .rintro _ ⟨g,i,k,rfl,b⟩
  rw[fP,aI] at b
  have:=rQ (rows:=rows) rows.length 0 (bh _) b
  rw[qS^bh _] at this;rw[this] at q;exact q
inductive Kd
 |pl
 |br (t:Nat×Nat)
 |sh (n m:Nat)
 |mn
 |md
open Classical in
noncomputable def kdOf(w:W)(rss:List (List (Nat×Nat)))(ts:List (Nat×Nat)):Kd:=if iH w rss then(match ts.find? (lP rss) with
 |some t=> .br t
 |none=>match nH (dU rss) 0 with
  |some (n,m)=> .sh n m
  |none=>if 14<rss.length then .mn else .md) else .pl
def Kd.sel(A:Prop)(B:Nat×Nat->Prop)(C:Nat->Nat->Prop)(D E:Prop):Kd->Prop
 | .pl=>A
 | .br t=>B t
 | .sh n m=>C n m
 | .mn=>D
 | .md=>E
def LS{w:W}{a:List^List (Nat×Nat)}{b:List (Nat×Nat)}{A:Prop}{B:Nat×Nat->Prop}{C:Nat->Nat->Prop}{D E:Prop}(h:(kdOf w a b).sel A B C D E):Crs w a b A B C D E:=by
 unfold kdOf at h;refine#[λn=>by rwa [tz n] at h,λp=>?_]
 rw[mo p] at h;refine#[λt e=>by rwa [e] at h,λe=>?_]
 rw[e] at h;refine#[λn m e=>by simp only[e] at h;exact h,λe=>?_]
 simp only[e] at h;exact#[λc=>by rwa [mo c] at h,λc=>by rwa [tz ()] at h]
def Zi{w:W}(n:¬iH w a):kdOf w a b= .pl:=by unfold kdOf;rw[tz n]
def Ze{w:W}(p:iH w a)(e:b.find?^lP a\t):kdOf w a b= .br t:=by unfold kdOf;rw[mo p,e]
def Zj{w:W}{n m:Nat}(p:iH w a)(e:b.find?^lP a=none)(s:nH (dU a) 0\(n,m)):kdOf w a b= .sh n m:=by unfold kdOf;rw[mo p,e,s]
def Zh{w:W}(p:iH w a)(e:b.find?^lP a=none)(s:nH (dU a) 0=none)(c:14<a.length):kdOf w a b= .mn:=by unfold kdOf;rw[mo p,e,s];exact mo c
def Zg{w:W}(p:iH w a)(e:b.find?^lP a=none)(s:nH (dU a) 0=none)(c:¬14<a.length):kdOf w a b= .md:=by unfold kdOf;rw[mo p,e,s];exact tz c
def Rv{l:List (Nat×Nat)}{P:D->Prop}(h:P^.bl (!l.isEmpty)):EE (.lst^l.map pairD) (.lst []) P:=by
 refine#[_,_,xJ l,rfl,?_,?_]
 .rw[PyData.depth]
  have:=fi (f:=gU) (k:=3) (λt=>by unfold gU nD;simp[PyData.depth,PyData.depthAll]) l
  lia
 .have:PyData.eqv (.list^l.map gU)^.list []=l.isEmpty:=by cases l<;>rfl
  rw[mo rfl,this];exact h
def Ra{w:W}(ok:Tk w a b)(h:kdOf w a b= .md):Good^dU a/\a.length<=14:=by
 unfold kdOf at h
 split at h
 .split at h
  .cases h
  .next c=>
   split at h
   .cases h
   .next d=>
    split at h
    .cases h
    .exact#[GU ok.g (ok.rs.Mr ok.g) ok.rs.ne (AU ok c)^xQ d,()]
 .cases h
noncomputable def Kk(w:W)(a:List^List (Nat×Nat)):Kd->D
 | .pl=> .tup [.str "plane",z8 w a]
 | .br t=> .tup [.str "bridge",pairD t]
 | .sh n m=> .tup [.str "shared", .tup [aB n,aB m]]
 | .mn=> .tup [.str "many", .aQ]
 | .md=> .tup [.str "made",ba^dU a]
def VM:eS:=λc P=>∃(w:W),c= [ba w]/\Good w/\1<=w.length/\w.length<=14/\∀a b,Tk w a b->P^Kk w a^kdOf w a b
def Fy:Dk P w base 5 T.uz^aS Z VM:=by
 have k:=vR.nd;refine bg T.uz.F vR [0,0,0,0,0,0] ∅ (λds R h=>by let⟨z,rfl,D⟩:=h;rfl)^λaV A outer s H E ds R b h=>?_
 have o:=b.units
 refine#[_,(aw (bM false 1 k^aH T.uu (k9 T) b^aa (U 0) ah)
   (aw (bM false 2 k^aH T.uw (mI T) b^aa (U 0) ah)
   (aw (cw (nV^l6^aH T.ux (AY T) b^aa (U 0) ah) (au^aO^bb^aa cK^aa (bb^aa (aW cJ rfl T.B.len cH^aa (U 0) ah)^aa (aW cJ rfl T.B.len cH^aa (U 2) ah)^aa (aW cJ rfl T.B.len cH^aa (U 1) ah) ah) ah) bf)
   (aw (bM false 3 k^aH T.uv (xC T) b^aa (U 0) ah)
   (aw (kI 4 (NC:= ["_law_a","_law_b","_law_by_side_here"]) (src:= [none,none,some 3]) rfl k (pU^ar jR) #[rfl,rfl,trivial] (bE^U 2) (λ_ _ _=>(l5 2 rfl^cC (bp 0 (show(["_law_a","_law_b","_law_by_side_here"]:List ee).Nodup from by decide+kernel))^cC (bp 1 (show(["_law_a","_law_b","_law_by_side_here"]:List ee).Nodup from by decide+kernel)) jH)) (λ_ _ _=>(m8^bA (iU o) (qX o (U 2)^bb^aa (U 0)^aa (U 1) ah) (qX o (U 2)^bb^aa (U 1)^aa (U 0) ah)^aX _))^λ_ _ _=>(bb^aa (U 0)^aa (U 1) ah))
   (aw (cw (bA (xw o) (U 4) (gI ah)^aX _) (au^aO^bb^aa cK^aa (iw (U 4) aR) ah) bf)
   (aw (kI 5 (NC:= ["_law_sides","_law_by_side_here"]) (src:= [none,some 3]) rfl k (pU^ar jR) #[rfl,rfl,trivial] (bE^U 1) (λ_ _ _=>(bp 0 (show(["_law_sides","_law_by_side_here"]:List ee).Nodup from by decide+kernel))) (λ_ _ _=>eW)^λ_ _ _=>(nQ (NC:= ["_law_p","_law_q","_law_by_side_here"]) (src:= [none,none,some 1]) rfl Wo #[rfl,rfl,trivial] (bE^U 0) (λ_ _ _=>(l5 2 rfl^cC (bp 0 (show(["_law_p","_law_q","_law_by_side_here"]:List ee).Nodup from by decide+kernel))^cC (bp 1 (show(["_law_p","_law_q","_law_by_side_here"]:List ee).Nodup from by decide+kernel)) jH)) (λ_ _ _=>eW)^λ_ _ _=>(qX o (U 2)^bb^aa (U 1)^aa (U 0) ah)))
   (aw (cw (bA DR (aH T.uy (je T) b^aa (U 5) ah) fw^aX _) (au^aO^bb^aa cK^aa (aH T.uy (je T) b^aa (U 5) ah) ah) bf)
   (aw (cw (bA Fu (aW cJ rfl T.B.len cH^aa (U 5) ah) aR^aX _) (au^aO^bb^aa cK^aa fw ah) bf)
   (au^aO^bb^aa cK^aa (U 5) ah)))))))))),?_]
 let⟨c,rfl,g,i,h14,q⟩:=h;refine#[_,rfl,c,rfl,g,i,h14,λu iC=>#[trivial,?_]];refine#[_,rfl,c,rfl,g,h14,λf KQ IJ=>#[trivial,?_]];have ok:Tk c u f:=#[g,i,h14,iC,KQ,IJ];have q:=q u f ok;have L:=ok.rs.Mr g;let⟨f1,X,f3⟩:=ok.rounds;have ab2:=ok.few;have lw:(c.map aD).length=c.length:=aI _;have lr:(u.map pk).length=u.length:=aI _;have lt:(f.map pairD).length=tc c:=by rw[aI,ok.pm.length_eq];rfl
 refine#[_,rfl,c,u,f,rfl,ok,λpl=>#[rfl,cL ?_],λn=>#[rfl,b9 ?_]]
 rotate_left
 .rw[Zi n] at q
  unfold Kk z8 at q;rw[<-lw,<-lt,<-lr] at q;exact#[_,rfl,_,rfl,_,rfl,by show 3<=sizeLine;decide,by show 2<=sizeLine;decide,q]
 refine#[_,rfl,c,rfl,g,ok.h1,ok.h14,λa N=>#[trivial,?_]];obtain rfl:=N.uniq g ok.rs;exists _,rfl;refine jF (λρ=>∃v y,ρ= [v,y,some^.x^.fo (qu a)^i9 0 a]) pairD (lP a) pairD f _ [] _ (λd C J G Y Nn i h2=>?_) #[none,none,rfl] (small^by rw[mr];lia) λJ G=>#[trivial,?_]
 .obtain⟨v,y,rfl⟩:=G
  have dd:aU c d:=Bz^ok.pm.mem_iff.mp C;let⟨O,Q,I⟩:=lh a 0^(L.dart d).mpr dd;let⟨j2,a2,b2⟩:=lh a 0^(L.dart (d.2,d.1)).mpr^g.sym d.1 d.2 dd;rw[kn] at I b2;exists rfl,rfl;refine#[_,rfl,_,rfl,_,rfl,by show 2<=sizeLine;decide,zz d,qu a,i9 0 a,O,_,rfl,rfl,Q,I,?_]
  refine#[_,rfl,_,rfl,_,rfl,by show 2<=sizeLine;decide,zz (d.2,d.1),qu a,i9 0 a,j2,_,rfl,rfl,a2,b2,?_]
  refine(?_:Ab (.int (e8 a d:Int)) (.int (e8 a (d.2,d.1):Int)) _);refine mZ #[_,rfl,cY (λe=>?_)^λe=>?_]
  .have e:(e8 a d:Int)=(e8 a (d.2,d.1):Int):=IR e
   exact#[_,rfl,_,rfl,by show 2<=sizeLine;decide,i _ #[_,_,rfl]^FS ()]
  .have e:¬(e8 a d:Int)=(e8 a (d.2,d.1):Int):=On e
   exact h2 _ #[_,_,rfl]^FM ()
 rw[mv];have j:(f.filter^lP a).head? =f.find?^lP a:=List.head?_filter;refine#[_,rfl,by show 0<=sizeLine;decide,Rv #[_,rfl,?_]]
 cases ef:f.filter^lP a with
 |cons t l=>
  rw[ef] at j;rw[Ze pl j.symm] at q;exact b9 #[_,rfl,_,iI (p:=0) rfl,by show 2<=sizeLine;decide,q]
 |nil=>
 rw[ef] at j;refine cL ?_;exists _,rfl;refine n6 (ρ:= [none,some^.x^.fo (qu a)^i9 0 a]) pk (λr=>aD (r.map λd=>e8 a (d.2,d.1))) a _ (λr b Y S=>?_) rfl (small ()) λJ=>#[trivial,?_]
 .have sub:∀d∈r,aU c d:=λd C=>(L.dart d).mp^lJ.mpr #[r,b,C]
  have sl:=X r b;exists _,rfl;refine(?_:lcW _ _ _ (r.map pairD) _ _ _);refine jF (λρ=>∃v y,ρ= [v,y,some^.x^.fo (qu a)^i9 0 a]) pairD (λ_=>true) (λd=>aB^e8 a (d.2,d.1)) r _ [] _ (λd C J G Y2 Nn i h2=>?_) #[none,none,rfl] (small^by rw[mr];lia) λJ G=>?_
  .obtain⟨v,y,rfl⟩:=G
   let⟨O,Q,I⟩:=lh a 0^(L.dart (d.2,d.1)).mpr^g.sym d.1 d.2^sub d C;rw[kn] at I;exists rfl,rfl;unfold l0;dsimp only;rw[mo rfl];exact#[_,rfl,_,rfl,_,rfl,by show 2<=sizeLine;decide,zz (d.2,d.1),qu a,i9 0 a,O,_,rfl,rfl,Q,I,i _ #[_,_,rfl] rfl]
  .rw[mv,aem.mpr λ_ _=>rfl]
   unfold aD at S;rw[dB] at S;exact S
 have er:a.map (λr=>aD (r.map λd=>e8 a (d.2,d.1)))=(dU a).map aD:=by
  unfold dU;rw[dB];rfl
 rw[er];have cl:(dU a).length=a.length:=aI _
 have c3:∀r∈dU a,r.length<=300:=λr b=>by
  let⟨r',eY,rfl⟩:=cQ.mp b;rw[aI]
  have:=X r' eY;lia
 refine#[_,rfl,dU a,rfl,(),c3,?_]
 cases M:nH (dU a) 0 with
 |some p=>
  rw[Zj pl j.symm (n:=p.1) (m:=p.2) M] at q;refine#[_,rfl,b9 #[_,rfl,dU a,rfl,(),c3,?_]]
  rw[M];exact#[by show 2<=sizeLine;decide,q]
 |none=>
 refine#[_,rfl,cL ?_];exists _,rfl;dsimp only[lZ,xU];have lc:((dU a).map aD).length=a.length:=by rw[aI,cl]
 refine X8 #[_,rfl,cY (λe=>?_)^λe=>?_]
 .have e:(14:Int)<(((dU a).map aD).length:Int):=IR e
  rw[Zh pl j.symm M ()] at q
  exact#[by show 2<=sizeLine;decide,q]
 .have e:¬(14:Int)<(((dU a).map aD).length:Int):=On e
  rw[Zg pl j.symm M ()] at q
  exact#[_,rfl,by show 2<=sizeLine;decide,q]
end wC
namespace L2
open PySem PySem.Spec PyProof.Rows
abbrev zP:=DN->(List^List D->Prop)->Prop
def UT(Z:DC)(t:zP):TA:=λg H Q=>∃(G:Hp)(e:DN)(P:List^List D->Prop),aC G H/\dZ Z G g e/\t e P/\∀a,P a->∀f fs d c,Ext G H d c->c7 (Own Z d c 1) f (a.map D.lst) fs->fs.Nodup->(∀b∈fs,H b=none/\c b≠none/\d b=none)->Q f c
def Tt(Z:DC)(X:Cx)(a:List e_)(t:zP):Prop:=PA X a^UT Z t
section
variable {Z:DC} {X:Cx} {md:List Nat} {rn:Nat} {e k k2:Expr} {es:List Expr} {pos:Pos} {te tk tp:aY} {t:mT} {u:zP}
def X2:zP:=λ_ P=>P []
def Uj(t:mT)(u:zP):zP:=λa P=>t a λl=>u a λb=>P (l::b)
def PV:Tt Z X [] X2:=az.imp λc H Q #[G,d,P,s,f,h,q]=>q [] h [] [] G H (.refl s) .nil iN λb a=>by cases a
def Nq(i:DF Z X 1 e t)(c:Tt Z X es u)(n:d4 (e::es) X.env=(false,fC e X.env)::d4 es X.env<|>zn):Tt Z X (e::es)^Uj t u:=by
 refine(ao i c n).imp ?_;rintro I H Q ⟨G,l,P,s,m,h,q⟩;refine#[G,l,_,s,m,h,λJ p L r v w g x y d=>?_];refine#[v,l,_,g.sub,m.mono g.gg,p,λM A N fs B C f E F j=>?_];refine q _ A _ (r++fs) B C (g.trans f) (.cons (x.keep f.gg λb c=>?_) E) ?_ ?_
 .cases z:w b with
  |none=>exact absurd z (d b c).2.1
  |some o=>exact f.hh _ _ z
 .rw[hZ]
  refine#[y,F,λa i b c z=>?_];subst z;exact(d a i).2.1 (j a c).1
 .intro b c
  rcases cE.mp c with c|c
  .exact#[(d b c).1,cO f.hh (d b c).2.1,f.off b (d b c).2.1 (d b c).2.2]
  .exact#[g.hh.free (j b c).1,(j b c).2]
def X1(u:zP):mT:=λb P=>u b λa=>a.length<=sizeLine/\P^a.map D.lst
def PU(m:Tt Z X es u):DF Z X 2 (.List es pos)^X1 u:=by
 refine(fS m).imp ?_;rintro C H Q ⟨G,n,P,s,r,h,q⟩;refine#[G,n,_,s,r,h,λE l w fs x F i o y c=>?_];have le:=o.length;rw[aI] at le;refine#[by rw[le];exact l.1,λp g=>?_]
 have j:∀b∈fs,b≠p:=λb a z=>(c b a).2.1^by rw[z];exact g
 refine q _ l.2 (.ref p) (p::fs) x _ (i.side g) (.inl #[p,w,_,_,rfl,rfl,ae,rfl,o.imp λv d f A B=>B.keep (.refl _) λb a=>af^j b^A b a]) ?_ ?_
 .exact lK.mpr #[λz=>j p z rfl,y]
 .intro b a
  rcases dS.mp a with rfl|a
  .exact#[i.hh.free g,(by rw[ae];exact λz=>nomatch z),i.sub.free g]
  .exact#[(c b a).1,(by rw[af^j b a];exact(c b a).2.1),(c b a).2.2]
end
open Classical in
section
variable {P:Program} {w:World} {K:ad} {mg:Str->Option Value} {base:Heap} {Z:DC}
end
section
variable {Z:DC} {X:Cx} {md:List Nat} {rn:Nat} {e:Expr} {es:List Expr} {pos aM:Pos} {t:ij} {tf:mT}
def c7.append(o:c7 R a c f)(i:c7 R b d g):c7 R (a++b) (c++d) (f++g):=by
 induction o with
 |nil=>exact i
 |cons h _ j=>rw[kj];exact .cons h j
end
section
variable {Z:DC} {X:Cx} {a b elt tg iter:e_} {pos:ip} {ta tb tf:mT} {scope:Scope} {NC:List ee} {src:List^Option Nat} {wi:jW} {g:eO} {n:Nat}
def T6(e:X.calm=true)(c:bD X scope)(f:dE scope X.N src NC)(h:DI Z X tg iter wi)
  (i:∀d s H,DG Z (bG X scope NC d s H) tg g) (j:∀d s H,DF Z (bG X scope NC d s H) n elt tf)
  (k:(∀x,ey iter X.env x=pure x)<|>xx):DF Z X (n+1) (.ListComp elt [#[tg,iter,[],0]] scope pos)^WC wi g tf src:=(KL e c f h i (λ_ _ _=>qt) j k).imp N6
def X0(f h:mT):mT:=λc P=>f c λd=>h c λe=>d.length+e.length<=sizeLine/\P (d++e)
def PQ(w:DF Z X 2 a ta)(x:DF Z X 2 b tb):DF Z X 2 (.BinOp a .Add b pos)^X0 ta tb:=by
 refine(cW zI w x).imp ?_;rintro σ H Q ⟨G,M,P,s,e,h,q⟩;refine#[G,M,_,s,e,h,λl1 g v1 f1 n N k o1 Oa O=>?_];refine#[n,M,_,k.sub,e.mono k.gg,g,λl2 R v2 f2 G2 H2 j o2 xu y=>?_];let⟨pa,S,D,A,rfl,B,w,rfl,l⟩:=o1.lst;cases B;let⟨pb,T,D,Y,rfl,B,x,rfl,m⟩:=o2.lst;cases B;refine#[pa,pb,S,T,rfl,rfl,j.hh _ _ w,x,by rw[l.length,m.length];exact R.1,λp r=>?_]
 have C:∀c∈A,N c≠none:=λc i=>(O c^dY _ i).2.1;have E:∀c∈A,c≠p:=λc i z=>cO j.hh (C c i)^by rw[z];exact r
 have F:∀c∈Y,c≠p:=λc i z=>(y c^dY _ i).2.1^by rw[z];exact r
 refine q _ R.2 (.ref p) (p::(A++Y)) G2 _ ((k.trans j).side r) (.inl #[p,S++T,_,_,rfl,rfl,ae,rfl,?_]) ?_ ?_
 .refine c7.append (l.imp λv d f t I=>I.keep j.gg λc i=>?_) (m.imp λv d f t I=>I.keep (.refl _) λc i=>af^F c^t c i)
  rw[af^E c^t c i];cases z:N c with
  |none=>exact absurd z^C c^t c i
  |some o=>exact j.hh _ _ z
 .rw[lK,hZ]
  refine#[λz=>?_,(lK.mp Oa).2,(lK.mp xu).2,λc i c' nh z=>?_]
  .rcases cE.mp z with z|z
   .exact E p z rfl
   .exact F p z rfl
  .subst z
   exact C c i (y c^dY _ nh).1
 .intro c i
  rcases dS.mp i with rfl|i
  .exact#[k.hh.free^j.hh.free r,(by rw[ae];exact λz=>nomatch z),j.sub.free r]
  .rcases cE.mp i with i|i
   .obtain⟨J,u,L⟩:=O c^dY _ i
    exact#[J,(by rw[af^E c i];exact cO j.hh u),j.off c u L]
   .obtain⟨J,u,L⟩:=y c^dY _ i
    exact#[k.hh.free J,(by rw[af^F c i];exact u),L]
end
end L2
namespace wC
open PySem L2 Wb
variable {P:Program} {w:World} {mg:Str->Option Value} {base:Heap} {Z:DC} (T:Txt Z mg)
def Q3(r:List Nat)(n:Nat):ins r r.length n=r++ [n]:=by
 unfold ins;rw[za,qS^bh _]
def UI(h:p<n):k4 n (p:Int)\p:=by
 unfold k4;rw[mo (),mo ()]
 exact KF some ()
def Nu(w:W):dF^w.map aD=(ak w.length).map λ(j:Nat)=>D.tup [.int (j:Int),aD^row w j]:=by
 refine yX λj=>?_;rw[fm]
 by_cases lt:j<w.length
 .rw[BW lt]
  cases e:(dF^w.map aD)[j]? with
  |none=>
   have:=aeQ.mp e
   rw[fP,aI] at this;lia
  |some d=>rw[(yQ e).2];rfl
 .rw[gP^by rw[fP,aI];lia,gP^by rw[pF];lia];rfl
theorem DD{ρ:DN}:∀(w:W)(a:DN)(acc:List D)(N:List D->Prop),(∀d,(ρ.set i^some d)[i]?\(some d))->(∃o,a=ρ.set i o)->acc.length+w.length<=sizeLine->N (acc++w.map aD)->N4 (h7 i) (P9^Ae i) (w.map aD) a acc N
 | [],a,acc,N,_,_,_,h=>by simpa [N4] using h
 |r::w,a,acc,N,b,#[o,c],f,h=>by
  rw[dQ] at f;show h7 i (aD r) a _;subst c;unfold h7;rw[List.set_set];refine#[_,b _,(),DD w _ _ N b #[_,rfl] (by rw[eF];simp;lia) ?_]
  have e:acc++ [D.lst^r.map aB]++w.map aD=acc++(r::w).map aD:=by simp[aD]
  rw[e];exact h
def VN:eS:=λa P=>∃(w:W),a= [ba w]/\Good w/\1<=w.length/\w.length<=13/\∀v,Good v->v.length=w.length+1->P^ba v
def zt:Dk P w base 1 T.ut^aS Z VN:=by
 have f:=oY.nd;refine bg T.ut.F oY [0,0,2] ∅ (λo R h=>by let⟨z,rfl,K⟩:=h;rfl)^λM A outer s H E o R r h=>?_
 have u:=r.units
 refine#[_,(aw (bM false 1 f^f6 iT (nQ (NC:= ["_law_p","_law_turn"]) (src:= [none,none]) rfl (pU^ar gx) trivial (eV rfl T.B.enumerate^aa (U 0) ah) (λ_ _ _=>(l5 2 rfl^cC (bp 0 (show(["_law_p","_law_turn"]:List ee).Nodup from by decide+kernel))^cC (bp 1 (show(["_law_p","_law_turn"]:List ee).Nodup from by decide+kernel)) jH)) (λ_ _ _=>(m8^bA (iU u) (aW cJ rfl T.B.len cH^aa (U 1) ah) aR^aX _))^λ_ _ _=>(U 0))^gI^aa aR ah)
   (aw (kr 2 f^PQ (T6 (NC:= ["_law_turn"]) (src:= [none]) rfl (pU^ar gx) trivial (bE^U 0) (λ_ _ _=>(bp 0 (show(["_law_turn"]:List ee).Nodup from by decide+kernel)))^λ_ _ _=>(PR rfl rfl T.B.list pT^U 0))^PU^Nq (kq^aa (iw (U 1) aR) ah) PV)
   (aw (PZ false 2 (iw (U 1) aR)^aW cJ rfl T.B.len cH^aa (U 0) ah)
   (jI 2
   (au^aO^U 2))))),?_]
 let⟨a,rfl,g,N,v,q⟩:=h;have b:(a.map aD).length=a.length:=aI _;exists _,rfl;refine(?_:lcW _ _ _ (dF^a.map aD) _ _ _);rw[Nu];refine jF (λρ=>∃i k,ρ= [i,k]) _ (λj=>decide ((row a j).length=2)) aB (ak a.length) _ [] _ (λj O x m Y Q y C=>?_) #[none,none,rfl] (small^by rw[mr,pF];lia) λx m=>?_
 .obtain⟨i,k,rfl⟩:=m
  have n:((row a j).map aB).length=(row a j).length:=aI _;exists rfl,rfl;exists _,rfl;dsimp only[lZ,xU,aD];rw[n];refine Uh #[_,rfl,cY (λe=>#[_,rfl,y _ #[_,_,rfl]^FS ?_])^λe=>C _ #[_,_,rfl]^FM ?_]
  .have:=IR e;lia
  .have:=On e;lia
 rw[mv]
 obtain⟨p,c,t,G⟩:∃p,p<a.length/\∃t,((ak a.length).filter λj=>decide ((row a j).length=2)).map aB++ [.int 0]=aB p::t:=by
  cases e:(ak a.length).filter λj=>decide ((row a j).length=2) with
  |nil=>exact#[0,(),[],rfl]
  |cons p l=>
   have:p∈(ak a.length).filter λj=>decide ((row a j).length=2):=by rw[e];exact c5 ..
   exact#[p,i7.mp (wy.mp this).1,_,rfl]
 have I:=Gr (λj=>decide ((row a j).length=2))^ak a.length;rw[pF] at I;refine#[by show 1<=sizeLine;decide,small (show(((ak a.length).filter λj=>decide ((row a j).length=2)).map aB).length+1<=1000 by rw[aI];lia),trivial,?_]
 rw[G];exists _,rfl;refine DD (ρ:= [none]) a _ [] _ (λd=>rfl) #[none,rfl] (small^by rw[mr];lia) ?_
 rw[mv];refine#[_,rfl,_,iI (p:=0) rfl,by show 1<=sizeLine;decide,by show 1<=sizeLine;decide,?_]
 refine#[small^by rw[b];show a.length+1<=1000;lia,?_]
 have J:k4 (a.map aD++ [D.lst [aB p]]).length (p:Int)\p:=UI^by rw[eF,b];lia
 have L:(a.map aD++ [D.lst [aB p]])[p]?\(aD^row a p):=by
  rw[i5 (),fm,vL c];rfl
 exists _,rfl,_,rfl,_,iI (p:=0) rfl,_,p,_,rfl,J,L;have S:=fE g p;have n:((row a p).map aB).length=(row a p).length:=aI _
 have ev:D.lst^(a.map aD++ [[aB p]].map D.lst).set p^.lst ((row a p).map aB++ [.int ((a.map aD).length:Int)])=ba^leaf a p (row a p).length:=by
  unfold leaf ba;rw[Q3,dk,afA,List.set_append,mo^by rw[b];exact c,b]
  unfold aD;rw[dk];rfl
 refine#[_,rfl,trivial,small (),#[_,rfl],_,rfl,?_]
 refine(?_:R^.lst^(a.map aD++ [[aB p]].map D.lst).set p^.lst ((row a p).map aB++ [.int ((a.map aD).length:Int)]));rw[ev];exact q _ (An g c)^by rw[rk]
def VJ:eS:=λc P=>∃(w:W)(a:List^List (Nat×Nat))(b:List (Nat×Nat)),c= [.gf w]/\Tk w a b/\P^Kk w a^kdOf w a b
def zr:Dk P w base 8 T.v0^aS Z VJ:=by
 have c:=oX.nd;refine bg T.v0.F oX [0,0,0,0,0] ∅ (λo R h=>by let⟨z,C,D,rfl,G⟩:=h;rfl)^λy A outer s H E o R d h=>?_
 have i:=d.units
 refine#[_,(aw (bM false 1 c^bb^aa cK^aa fw ah)
   (aw (L8 (λ_ _=>by exact(au^P1 2 c T.ui (vB T) d^aa (U 0) ah)) (aw (bM false 3 c^fY T.W (U 2) T.v9.m (sF T) (d.mono ∅) T.v9.b)
   (au^cw (DW.dt^EL (l6^Nk T.W T.iW (U 2) rfl T.B.isinstance rfl T.mC)^EL (bA (iU i) (fY T.W (U 2) T.v8.m (ou T) (d.mono ∅) T.v8.b) (aW cJ rfl T.B.len cH^aa (U 3) ah)^aX _)^He^bA (iU i) (fY T.W (U 2) T.va.m (iV T) (d.mono ∅) T.va.b) (aH T.uw (mI T) d^aa (U 3) ah)^aX _) (au^bM false 1 c^bb^aa cK^aa (U 3) ah) bf))^EI 4 c T.vn T.ya (λ_=>by exact(au^bM false 1 c^bb^aa cK^aa (uD T.iX^U 4) ah))^EI 4 c T.y5 T.yb (λ_=>by exact(au^bM false 1 c^bb^aa cK^aa (uD T.iX^U 4) ah))^EI 4 c T.y7 T.yc (λ_=>by exact(au^bM false 1 c^bb^aa cK^aa (bb^aa (uD T.iX^U 4)^aa (uD T.iX^U 4) ah) ah))^GZ T.vh T.y9 (λ_=>by exact(au^bM false 1 c^bb^aa cK^aa fw ah))^GZ T.vf T.y8 (λ_=>by exact(au^bM false 1 c^bb^aa cK^aa fw ah)) L4)
   (au^aO^U 1))),?_]
 let⟨j,a,k,rfl,ok,q⟩:=h;refine#[by show 2<=sizeLine;decide,trivial,?_]
 refine#[_,rfl,j,a,k,rfl,ok,LS ?_];cases l:kdOf j a k<;>rw[l] at q
 .refine#[T.ya.obj,true,(T.yf.m1 1 rfl),b9 ?_]
  have x:=T.ya.cls;refine#[_,rfl,x,T.ye,_,rfl,by show 2<=sizeLine;decide,trivial,?_]
  exact#[_,rfl,q]
 .refine#[T.yb.obj,false,(T.yi.m0 1 rfl),cL #[true,(T.yi.m1 1 rfl),b9 ?_]]
  have x:=T.yb.cls;refine#[_,rfl,x,T.yh,_,rfl,by show 2<=sizeLine;decide,trivial,?_]
  exact#[_,rfl,q]
 .refine#[T.yc.obj,false,(T.ym.m0 1 rfl),cL #[false,(T.ym.m0 2 rfl),cL #[true,(T.ym.m1 1 rfl),b9 ?_]]]
  have x:=T.yc.cls;refine#[_,rfl,x,T.yk,_,rfl,_,rfl,x,T.yl,_,rfl,by show 2<=sizeLine;decide,by show 2<=sizeLine;decide,trivial,?_]
  exact#[_,rfl,q]
 .refine#[T.y9.obj,false,(T.yo.m0 0 rfl),cL #[false,(T.yo.m0 1 rfl),cL #[false,(T.yo.m0 2 rfl),cL #[true,(T.yo.m1 1 rfl),b9 ?_]]]]
  exact#[by show 2<=sizeLine;decide,trivial,_,rfl,q]
 .intro n
  have e:(dU a).length<=14:=by
   have:=(Ra ok l).2
   unfold dU;rw[aI];exact this
  exists _,rfl,dU a,rfl,dU a,rfl,e,trivial;refine#[_,rfl,_,rfl,rfl,b9 ?_];have p:((dU a).map aD).length=(dU a).length:=aI _;exists _,rfl,dU a,rfl,dU a,rfl,_,rfl;dsimp only[lZ,xU,ba];rw[p];refine mZ #[_,rfl,?_];rw[FS rfl];refine b9 #[_,rfl,dU a,rfl,dU a,rfl,n,e,λf r g=>#[_,rfl,dU a,rfl,n,e,λt u v=>?_]];obtain rfl:f=t:=adi (λ_ _ _ _=>nq) g v^r.trans u.symm;refine Jx #[_,rfl,?_];rw[FS rfl];refine b9 #[_,rfl,by show 2<=sizeLine;decide,trivial,?_]
  exact#[_,rfl,q]
noncomputable def kdB:Kd->List Bool
 | .pl=> [true,true,false,false,false,false]
 | .br _=> [true,false,true,false,false,false]
 | .sh _ _=> [true,false,false,true,false,false]
 | .mn=> [true,false,false,false,true,false]
 | .md=> []
def SK:eS:=λc P=>∃(w:W)(a:List^List (Nat×Nat))(b:List (Nat×Nat)),c= [.gf w]/\Tk w a b/\P^.lst^(kdB^kdOf w a b).map D.bl
def qp:Dk P w base 8 T.v1^aS Z SK:=by
 have b:=qD.nd;refine bg T.v1.F qD [0,1,0] ∅ (λf R h=>by let⟨l,m,n,rfl,o⟩:=h;rfl)^λi A outer s H E f R c h=>?_
 have j:=c.units
 refine#[_,(aw (kr 1 b^kq ah)
   (aw (L8 (λ_ _=>by exact(au^qY T.ui (vB T) c^aa (U 0) ah)) bf^EI 2 b T.vf T.y8 (λ_=>by exact(aw (kr 1 b^kq^aa (m6 T.iX (.blt _) (ZJ T.vd) (U 2) rfl T.B.isinstance)^aa (m6 T.iX (.own _) (gb T.vn) (U 2) rfl T.B.isinstance)^aa (m6 T.iX (.own _) (gb T.y5) (U 2) rfl T.B.isinstance)^aa (m6 T.iX (.own _) (gb T.y7) (U 2) rfl T.B.isinstance) ah)
   (aw (nU false 1^m6 T.iX (.own _) (gb T.vh) (U 2) rfl T.B.isinstance)
   (au^nU false 1^JC T.iX (.cons (.own _)^.cons (.own _)^.cons (.own _)^.cons (.own _)^.cons (.own _)^.cons (.own _)^.cons (.own _)^.cons (.own _)^.cons (.own _)^.cons (.own _) .nil) #[(gb T.vv),rfl,#[(gb T.vr),rfl,#[(gb T.vt),rfl,#[(gb T.y1),rfl,#[(gb T.vz),rfl,#[(gb T.vp),rfl,#[(gb T.vl),rfl,#[(gb T.y3),rfl,#[(gb T.vx),rfl,#[(gb T.vj),rfl,trivial]]]]]]]]]] (show 10<=1000 by decide) (U 2) rfl T.B.isinstance)))) L4)
   (jI 1
   (au^aO^U 1)))),?_]
 let⟨d,a,e,rfl,ok,q⟩:=h;refine#[by show 0<=sizeLine;decide,?_]
 refine#[_,rfl,d,a,e,rfl,ok,LS ?_];cases g:kdOf d a e<;>rw[g] at q
 .refine#[T.ya.obj,true,(T.yf.m1 0 rfl),b9 ?_]
  have x:=T.ya.cls;refine#[_,rfl,x,_,T.yf.ve,_,rfl,x,_,rj,_,rfl,x,_,(T.yf.z 11 rfl),_,rfl,x,_,(T.yf.z 12 rfl),by show 4<=sizeLine;decide,?_]
  refine#[_,rfl,_,rfl,x,_,(T.yf.z 0 rfl),trivial,by show 4<sizeLine;decide,?_]
  refine#[_,rfl,_,rfl,x,false,((T.yf.any [6,4,5,9,8,3,2,10,7,1] rfl)),trivial,by show 5<sizeLine;decide,?_]
  exact#[#[_,rfl],_,rfl,q]
 .refine#[T.yb.obj,true,(T.yi.m1 0 rfl),b9 ?_]
  have x:=T.yb.cls;refine#[_,rfl,x,_,T.yi.ve,_,rfl,x,_,(T.yi.z 3 rfl),_,rfl,x,_,rj,_,rfl,x,_,(T.yi.z 12 rfl),by show 4<=sizeLine;decide,?_]
  refine#[_,rfl,_,rfl,x,_,(T.yi.z 0 rfl),trivial,by show 4<sizeLine;decide,?_]
  refine#[_,rfl,_,rfl,x,false,((T.yi.any [7,5,6,10,9,4,2,11,8,1] rfl)),trivial,by show 5<sizeLine;decide,?_]
  exact#[#[_,rfl],_,rfl,q]
 .refine#[T.yc.obj,true,(T.ym.m1 0 rfl),b9 ?_]
  have x:=T.yc.cls;refine#[_,rfl,x,_,T.ym.ve,_,rfl,x,_,(T.ym.z 3 rfl),_,rfl,x,_,(T.ym.z 12 rfl),_,rfl,x,_,rj,by show 4<=sizeLine;decide,?_]
  refine#[_,rfl,_,rfl,x,_,(T.ym.z 0 rfl),trivial,by show 4<sizeLine;decide,?_]
  refine#[_,rfl,_,rfl,x,false,((T.ym.any [7,5,6,10,9,4,2,11,8,1] rfl)),trivial,by show 5<sizeLine;decide,?_]
  exact#[#[_,rfl],_,rfl,q]
 .refine#[T.y9.obj,true,(T.yo.m1 0 rfl),b9 ?_]
  have x:=T.y9.cls;refine#[_,rfl,x,_,T.yo.ve,_,rfl,x,_,(T.yo.z 2 rfl),_,rfl,x,_,(T.yo.z 11 rfl),_,rfl,x,_,(T.yo.z 12 rfl),by show 4<=sizeLine;decide,?_]
  refine#[_,rfl,_,rfl,x,_,rj,trivial,by show 4<sizeLine;decide,?_]
  refine#[_,rfl,_,rfl,x,false,((T.yo.any [6,4,5,9,8,3,1,10,7,0] rfl)),trivial,by show 5<sizeLine;decide,?_]
  exact#[#[_,rfl],_,rfl,q]
 .intro k
  exact#[#[_,rfl],_,rfl,q]
variable {P:Program} {w:World} {mg:Str->Option Value} {base:Heap} {Z:DC} (T:Txt Z mg)
def VG(I:DN->Prop)(h:∀b:fB,(∀a,I a->b.nx a)->Pr c t Jz b a)(k:∀a,I a->u E a):LW (Pr c t Jz) u E a:=h _ k
def Tz(b:DN)(e:a=b)(h:LW t u E b):LW t u E a:=by rw[e];exact h
def ltC{P:D->Prop}{ρ:DN}(h:P^.bl (decide (i<j))):dC (.int j) ρ (λb=>dLt (.int i) b P):=h
def GW{P:D->Prop}(h:P^.bl (decide (a=b))):Ab (.str a) (.str b) P:=#[.str a, .str b,rfl,rfl,by simp[PyData.depth],by
 have:PyData.eqv (.str a)^.str b=decide (a=b):=by
  rw[PyData.eqv]
  by_cases z:a=b<;>simp[z]
 rw[tz dP,this];exact h]
def eqS{P:D->Prop}(h:P^.bl (decide (i=j))):dC (.str j) a (λb=>Ab (.str i) b P):=GW h
def Px{v w:W}{P:D->Prop}(h:P^.bl (!decide (v=w))):EE (ba v) (ba w) P:=by
 refine#[_,_,FK v,FK w,by have:=x9 v;lia,?_]
 have:PyData.eqv (sQ v)^sQ w=decide (v=w):=by
  by_cases e:v=w
  .rw[FS e];exact(wR v w).mpr e
  .rw[FM e]
   apply sW.mpr;exact λz=>e^(wR v w).mp z
 rw[mo rfl,this];exact h
def Ac{l m:List Bool}{P:D->Prop}(h:P^.bl (decide (l=m))):Ab (.lst^l.map D.bl) (.lst^m.map D.bl) P:=by
 have py:∀l:List Bool,(D.lst^l.map D.bl).py\(.list^l.map PyData.bool):=λl=>by rw[D.py,lg (g:=PyData.bool)^λ_=>rfl];rfl
 refine#[_,_,py l,py m,?_,?_]
 .rw[PyData.depth]
  have:=fi (f:=PyData.bool) (k:=1) (λn=>by simp[PyData.depth]) l
  lia
 .have:PyData.eqv (.list^l.map PyData.bool)^.list^m.map PyData.bool=decide (l=m):=by
   rw[PyData.eqv]
   by_cases e:l=m
   .rw[FS e];exact(gq (λa b=>by simp[PyData.eqv]) l m).mpr e
   .rw[FM e]
    apply sW.mpr;exact λz=>e^(gq (λa b=>by simp[PyData.eqv]) l m).mp z
  rw[tz dP,this];exact h
noncomputable def Q9:Kd->Str
 | .pl=>"plane"
 | .br _=>"bridge"
 | .sh _ _=>"shared"
 | .mn=>"many"
 | .md=>"made"
def Rb{w:W}{rss:List^List (Nat×Nat)}{K:Kd}{R:D->Prop}(h:R^.bl false):EE (Kk w rss K) (Kk w rss K) R:=by
 have key:∀(d:D)(p:PyData),d.py\p->PyData.eqv p p=true->p.depth<=64->EE d d R:=λd p h1 h2 h3=>#[p,p,h1,h1,h3,by rw[if_pos rfl,h2];exact h]
 cases K with
 |pl=>exact key _ _ rfl (by simp[PyData.eqv,PyData.eqvAll]) (by simp[PyData.depth,PyData.depthAll])
 |br b=>exact key _ _ rfl (by simp[PyData.eqv,PyData.eqvAll]) (by simp[PyData.depth,PyData.depthAll])
 |sh n k=>exact key _ _ rfl (by simp[PyData.eqv,PyData.eqvAll]) (by simp[PyData.depth,PyData.depthAll])
 |mn=>exact key _ _ rfl (by simp[PyData.eqv,PyData.eqvAll]) (by simp[PyData.depth,PyData.depthAll])
 |md=>
  refine key _ (.tuple [.str "made",sQ^dU rss]) ?_ ?_ ?_
  .unfold Kk
   rw[D.py,gu,gu,gu,FK];rfl
  .have:=(wR (dU rss)^dU rss).mpr rfl
   simp[PyData.eqv,PyData.eqvAll,this]
  .have:=x9^dU rss
   simp[PyData.depth,PyData.depthAll];lia
def NZ(K:Kd)(h:K≠ .md):D.bl true::([("plane":Str),"bridge","shared","many"].map λs=>D.bl (decide (Q9 K=s)))++ [D.bl false]=(kdB K).map D.bl:=by
 cases K with
 |md=>exact absurd rfl h
 |_=>rfl
def FR:eS:=λb P=>∃(a:List Int),b= [.pN a]/\a.length<=63/\P^.bl true
def U7:Dk P w base 9 T.v2^aS Z FR:=by
 have k:=MN.nd;refine bg T.v2.F MN [0,0,0,0,0] ∅ (λJ R h=>by obtain⟨_,rfl,_⟩:=h;rfl)^λaV A outer s H E J R c h=>?_
 have f:=c.units
 refine#[_,(aw (bM false 1 k^iw (gI^aa aR^aa aR^aa aR^aa aR ah)^f6 uY (f6 Mx (aH T.uj (mH T) c^aa (U 0)^aa aR ah) aR) aR)
   (aw (bM false 2 k^aH T.us (Fz T) c^aa (U 0)^aa (U 1)^aa (qW AX (f6 uY (aH T.uj (mH T) c^aa (U 0)^aa aR ah) aR) aR^aX _) ah)
   (aw (cw (DW.dt^EL (bA (iU f) (f6 uY (f6 Mx (aH T.uj (mH T) c^aa (U 0)^aa aR ah) aR) aR) aR^aX _)^He^bA AX (aW cJ rfl T.B.len cH^aa (U 2) ah) aR^aX _) (au^bM false 2 k^aH T.ut (zt T) c^aa (U 2) ah) bf)
   (aw (bM false 3 k^PF T.v6 (nz T) (c.mono ∅) rfl T.mC T.v7^aa (nQ (NC:= ["_law_turn"]) (src:= [none]) rfl (pU^ar Bk) trivial (bE^U 2) (λ_ _ _=>(bp 0 (show(["_law_turn"]:List ee).Nodup from by decide+kernel))) (λ_ _ _=>eW)^λ_ _ _=>(tu z6 rfl T.B.list pT^aa (U 0) ah)) ah)
   (aw (bM false 4 k^aH T.uz (Fy T) c^aa (U 2) ah)
   (aw (cw (DW.dt^XU (bA (xw f) (aH T.v0 (zr T) c^aa (U 3) ah) (U 4)^aX _)^Ud^bA (xw f) (fY T.W (U 3) T.v9.m (sF T) (c.mono ∅) T.v9.b) (U 2)^aX _) (au^aO tq) bf)
   (aw (cw (bA (iU f) (iw (U 4) aR) cK^aX _) (au^aO^qW (iU f) (aH T.v1 (qp T) c^aa (U 3) ah) (gI ah)^aX _) bf)
   (au^aO^qW (iU f) (aH T.v1 (qp T) c^aa (U 3) ah) (f6 iT (f6 iT (gI^aa tq ah)^nQ (NC:= ["_law_word","_law_due_here"]) (src:= [none,some 4]) rfl (pU^ar Bk) #[rfl,rfl,trivial] (bE^gI^aa cK^aa cK^aa cK^aa cK ah) (λ_ _ _=>(bp 0 (show(["_law_word","_law_due_here"]:List ee).Nodup from by decide+kernel))) (λ_ _ _=>eW)^λ_ _ _=>(qW (iU f) (iw (U 1) aR) (U 0)^aX _))^gI^aa tq ah)^aX _)))))))),?_]
 let⟨i,rfl,E6,q⟩:=h;refine#[by show 4<=sizeLine;decide,_,rfl,i,5,rfl,∅,λp=>#[#[∅,∅],(by show(0:Int)<4;decide),?_]]
 obtain⟨m,L,m1,M⟩:∃m:Nat,gF [D.int 14, .int 6, .int 7, .int 8] (p / 4%4)\(aB m)/\1<=m/\m<=14:=by
  have:=Zn (p / 4) 4 ∅
  generalize p / 4%4=x at this;obtain⟨n,rfl⟩:∃n:Nat,x=(n:Int):=#[x.toNat,()]
  have:n<4:=()
  match n,this with
  |0,_=>exact#[14,rfl,∅,∅]
  |1,_=>exact#[6,rfl,∅,∅]
  |2,_=>exact#[7,rfl,∅,∅]
  |3,_=>exact#[8,rfl,∅,∅]
 exists _,L,trivial;refine#[_,rfl,_,rfl,_,rfl,i,5,rfl,∅,λu5=>#[(by show(0:Int)<4;decide),i,m,_,rfl,m1,M,λj G o lm=>#[trivial,?_]]]
 dsimp only;refine Tz [some^.pN i,some^aB m,some^ba j,none,none] rfl ?_;refine VG (λρ=>∃w:W,ρ= [some^.pN i,some^aB m,some^ba w,none,none]/\Good w/\1<=w.length/\w.length<=14) (λE' I=>?_) ?_
 .have skip:=I _ #[j,rfl,G,o,()]
  have lw:(j.map aD).length=j.length:=aI _;refine#[_,rfl,i,5,rfl,∅,λv=>#[#[∅,∅],(by show(0:Int)<4;decide),Uh #[_,rfl,cY (λ_=>?_)^λ_=>cL skip]]]
  exists _,rfl;dsimp only[lZ,xU,ba];refine ltC #[_,rfl,cY (λe=>?_)^λ_=>skip];have e:((j.map aD).length:Int)<14:=IR e;exact#[_,rfl,j,rfl,G,o,(),λv N lv=>#[trivial,I _ #[v,rfl,N,(),()]]]
 rintro _ ⟨t,rfl,g,o,r⟩;refine#[_,rfl,n6 (ρ:= [none]) aD aD t _ (λy hy Y h=>#[_,rfl,h]) rfl (small ()) λO=>#[t,rfl,g,o,r,trivial,?_]]
 refine#[_,rfl,t,rfl,g,o,r,λa d ok=>#[trivial,?_]];refine#[_,rfl,t,a,d,rfl,ok,_,rfl,Rb #[_,rfl,cL ?_]];refine#[_,rfl,t,rfl,t,rfl,r,_,rfl,Px #[_,rfl,abn (by simp) ?_]]
 have u:∃x,(∃y,Kk t a^kdOf t a d= .tup [x,y])/\x= .str^Q9^kdOf t a d:=by
  cases kdOf t a d<;>exact#[_,#[_,rfl],rfl]
 obtain⟨_,⟨y,Q⟩,rfl⟩:=u;rw[Q];exists _,rfl,_,rfl;refine eqS #[_,rfl,cY (λe=>?_)^λe=>?_]
 .have C:kdOf t a d= .md:=by
   have e:=IR e
   revert e
   generalize kdOf t a d=K;cases K with
   |pl=>exact λz=>absurd (show("plane":ee)="made" from z) ∅
   |br t=>exact λz=>absurd (show("bridge":ee)="made" from z) ∅
   |sh n m=>exact λz=>absurd (show("shared":ee)="made" from z) ∅
   |mn=>exact λz=>absurd (show("many":ee)="made" from z) ∅
   |md=>exact λ_=>rfl
  refine#[_,rfl,t,a,d,rfl,ok,by show 0<=sizeLine;decide,?_]
  rw[C];exact Ac (l:= []) (m:= []) q
 .have C:kdOf t a d≠ .md:=λz=>by
   have e:=On e;rw[z] at e;exact e rfl
  exists _,rfl,t,a,d,rfl,ok;refine#[by show 1<=sizeLine;decide,by show 4<=sizeLine;decide,?_]
  refine n6 (ρ:= [none,some^.tup [.str^Q9^kdOf t a d,y]]) D.str (λs=> .bl (decide (Q9^kdOf t a d=s))) [("plane":ee),"bridge","shared","many"] _ (λs hs Y S=>?_) rfl (small ∅) λO=>?_
  .exact#[_,rfl,_,rfl,_,rfl,GW S]
  refine#[by show 5<=sizeLine;decide,by show 1<=sizeLine;decide,by show 6<=sizeLine;decide,?_]
  have X:=NZ _ C;refine(?_:Ab _ (.lst (D.bl true::([("plane":ee),"bridge","shared","many"].map λs=>D.bl (decide (Q9^kdOf t a d=s)))++ [D.bl false])) R);rw[X];refine Ac ?_;rw[FS rfl];exact q
set_option hygiene false in
local macro_rules| `(tactic|and_intros)=> `(tactic| (intro _ _ _ _ _ _ _ hl;first| (obtain⟨_,rfl⟩:=L2.WO hl;rfl) | (obtain⟨_,_,rfl⟩:=L2.WQ hl;rfl) | (obtain⟨_,_,_,rfl⟩:=L2.abr hl;rfl) | (obtain⟨_,_,_,_,rfl⟩:=L2.acJ hl;rfl) | (obtain⟨_,_,_,_,_,rfl⟩:=L2.nk hl;rfl)))
def all_mk{l:cv}{w:ei}(X:K.In h)(G:h.Ns eh t)(B:t "law"\(.ref fa)) 
  
  
  
  
  
  
  
  
  
  
  
  
  
  
  
  
  
  (gC:aA K eh "Web"\(some^.ref C))
  (a0:fK K "round_from" mR)
  (a1:fK K "lands" qA)
  (a2:fK K "count" Bj)
  (a3:fK K "is_plane" qz)
  (a4:fK K "need_plane" mQ)
  (a5:fK K "is_among" qy)
  (a6:fK K "alien_fault" lq)
  (a7:fK K "self_fault" mS)
  (a8:fK K "twice_fault" lB)
  (a9:fK K "lone_fault" mP)
  (a10:fK K "reached_from_first" eM)
  (a11:fK K "apart_fault" lu)
  (a12:fK K "first_fault" lA)
  (a13:fK K "sides_of" qB)
  (a14:fK K "land_numbers" ig)
  (a15:fK K "need_no_bridge" i3)
  (a16:fK K "need_none_shared" fA)
  (a17:fK K "crossed" oI)
  (a18:fK K "_law_cell" vM)
  (a19:fK K "_law_mixed" sM)
  (a20:fK K "_law_digits" qw)
  (a21:fK K "_law_take" vN)
  (a22:fK K "_law_tree" vO)
  (a23:fK K "_law_next" oH)
  (a24:fK K "_law_round" mO)
  (a25:fK K "_law_tie" yH)
  (a26:fK K "_law_renamed" oW)
  (a27:fK K "_law_web" yI)
  (a28:fK K "_law_leafed" gx)
  (a29:fK K "_law_lands" mM)
  (a30:fK K "_law_by_side" j3)
  (a31:fK K "_law_ties" kE)
  (a32:fK K "_law_plane" mN)
  (a33:fK K "_law_least_shared" fe)
  (a34:fK K "_law_due" jR)
  (a35:fK K "_law_answer" lj)
  (a36:fK K "_law_kinds" mL)
  (A:Tv K "law" E)
  (l37:B5 K "law" "law" Bk E F H I J L M N Wn O)
  (c37:bj K Wn "law"=true)
  (k37:am K^.ref E=true)
  (m0:aj K (.ref C) "__init__"\(some^.ref x))
  (f0:bT K^.ref x=true)
  (ml0:B5 K "__init__" "Web.__init__" fV x Q R S Y jk0 jo0 jp0 y jt0)
  (mc0:bj K y "Web.__init__"=true)
  (mk0:am K^.ref x=true)
  (m1:Jk K C "many" "Web.many" qv)
  (m2:Jk K C "turns" "Web.turns" kD)
  (m3:Jk K C "ties" "Web.ties" mj)
  (m4:Jk K C "tied" "Web.tied" yG)
  (m5:Jk K C "behind" "Web.behind" mK)
  (pgC:cq K C Str.empty=true)
  (Uq:cf K C=true)
  (poC:cP K C=true)
  (saC:aj K (.ref C) "__setattr__"\(some^.builtin "object.__setattr__"))
  (mkC:df K C=true)
  (kpC:am K^.ref C=true)
  (nR:aj K (.ref C) "rows"\none)
  (xn:bd K (.builtin "object.__class__") "__get__"\(some^.builtin "getset_descriptor.__get__"))
  (xt:cr K^.builtin "object.__class__"\true)
  (zVE:aA K eh "ValueError"\none)
  (uL:aA K eh "MapError"\(some^.ref a))
  (Ho:aA K eh "TooMany"\(some^.ref f))
  (ET:aA K eh "TooSmall"\(some^.ref g))
  (NB:aA K eh "NoWeb"\(some^.ref i))
  (ES:aA K eh "NotPlane"\(some^.ref c))
  (JO:aA K eh "NoText"\(some^.ref j))
  (ER:aA K eh "NoCorner"\(some^.ref k))
  (JN:aA K eh "NoRing"\(some^.ref m))
  (NA:aA K eh "Alike"\(some^.ref n))
  (JQ:aA K eh "TooFew"\(some^.ref o))
  (Hn:aA K eh "NotFree"\(some^.ref p))
  (Ci:aA K eh "NotFilled"\(some^.ref q))
  (Ul:aA K eh "Odd"\(some^.ref r))
  (JM:aA K eh "Bridge"\(some^.ref d))
  (JP:aA K eh "Shared"\(some^.ref b))
  (Gd:XEt K a)
  (yS:Pd K a f)
  (wj:Pd K a c)
  (BK:Pd K a d)
  (BL:Pd K a b)
  (sgM:bd K (.ref a) "__getattribute__"\(some^.builtin "type.__getattribute__"))
  (rdM:dc K a^.type "type"=true)
  (fcM:dn K (.ref a) (.type "type") "__init__"\(.val^.builtin "ValueError.__init__"))
  (Ge:O5 K c "NotPlane.__init__" gw)
  (si:aj K (.ref c) "counted"\none)
  (Gg:KitX K c [f,g,i,j,k,m,n,o,p,q,r,d,b] [f,d,b] [a,c])
  (LD:O5 K d "Bridge.__init__" iD)
  (CB:aj K (.ref d) "tie"\none)
  (LG:KitX K d [f,g,i,c,j,k,m,n,o,p,q,r,b] [f,c,b] [a,d])
  (LF:O5 K b "Shared.__init__" iE)
  (CC:aj K (.ref b) "one"\none)
  (zo:aj K (.ref b) "other"\none)
  (LH:KitX K b [f,g,i,c,j,k,m,n,o,p,q,r,d] [f,c,d] [a,b])
  (Ja:Na K f^.builtin "ValueError.__init__")
  (Jb:KitX K f [g,i,c,j,k,m,n,o,p,q,r,d,b] [c,d,b] [a,f])
  (w0:aj K (.ref C) "__class__"\(some^.builtin "object.__class__"))
  (w1:bd K (.builtin "object.__class__") "__get__"\(some^.builtin "getset_descriptor.__get__"))
  (w2:cr K^.builtin "object.__class__"\true)
  (w3:b7 K C^.type "object"\true)
  (aar:aA K eh "__name__"\(some^.str "law_mapdye_k74_crossed" u))
  (cc1:aA K eh "MOST_POINTS"\(some^.int 14 S8))
  (aci:rV K "len")
  (We:rV K "range")
  (acj:rV K "max")
  (ack:rV K "min")
  (Jd:rV K "enumerate")
  (aco:rV K "zip")
  (Ts:rV K "sorted")
  (acg:rV K "all")
  (Gj:rV K "isinstance")
  (ach:rV K "int")
  (aae:rV K "bool")
  (aaf:rV K "list")
  (Wf:rV K "tuple")
  (acn:rV K "sum")
  (LN:rV K "reversed")
  (acm:rV K "set")
  :∃fd:gi,(∀(s:c_)(v:b_),BindsTo s fd #[[v],[]] [("_law_script",v)])/\∀base:Heap,K.In base->base.Ns eh t->FnOk l.prog w K t base fJ 40 fa fd ["_law_script"]^L2.vZ K:=by
 have e:=B.symm.trans^Os X G A;cases e;have E0:=nZ (st:=fV) ml0 mc0 mk0;have e0:=E0.binds (ps:= ["self","turns"])^by and_intros
 let Z:DC:=#[K,C]
 let T:Txt Z t:=#[#[KM X G aci,KM X G We,KM X G acj,KM X G ack,KM X G Jd,KM X G aco,KM X G Ts,KM X G acg,KM X G Gj,KM X G ach,KM X G aae,KM X G aaf,KM X G Wf,KM X G acn,KM X G LN],KM X G acm, .ch X G a0^by and_intros, .ch X G a1^by and_intros, .ch X G a2^by and_intros, .ch X G a3^by and_intros, .ch X G a4^by and_intros, .ch X G a5^by and_intros, .ch X G a6^by and_intros, .ch X G a7^by and_intros, .ch X G a8^by and_intros, .ch X G a9^by and_intros, .ch X G a10^by and_intros, .ch X G a11^by and_intros, .ch X G a12^by and_intros, .ch X G a13^by and_intros, .ch X G a14^by and_intros, .ch X G a15^by and_intros, .ch X G a16^by and_intros, .ch X G a17^by and_intros, .ch X G a18^by and_intros, .ch X G a19^by and_intros, .ch X G a20^by and_intros, .ch X G a21^by and_intros, .ch X G a22^by and_intros, .ch X G a23^by and_intros, .ch X G a24^by and_intros, .ch X G a25^by and_intros, .ch X G a26^by and_intros, .ch X G a27^by and_intros, .ch X G a28^by and_intros, .ch X G a29^by and_intros, .ch X G a30^by and_intros, .ch X G a31^by and_intros, .ch X G a32^by and_intros, .ch X G a33^by and_intros, .ch X G a34^by and_intros, .ch X G a35^by and_intros, .ch X G a36^by and_intros, .of X G A l37 c37 k37^by and_intros,#[#[pgC,Uq,poC,saC],nR],Os X G gC,x,_,E0,#[mkC,m0,f0,kpC],e0, .ch m1^by and_intros, .ch m2^by and_intros, .ch m3^by and_intros, .ch m4^by and_intros, .ch m5^by and_intros,#[w0,w1,w2,w3,by unfold bi;exact mo^adU _],#[xn,xt],KM X G zVE,a,Os X G uL,f,Os X G Ho,g,Os X G ET,i,Os X G NB,c,Os X G ES,j,Os X G JO,k,Os X G ER,m,Os X G JN,n,Os X G NA,o,Os X G JQ,p,Os X G Hn,q,Os X G Ci,r,Os X G Ul,d,Os X G JM,b,Os X G JP,Gd.xe,yS.xe,wj.xe,BK.xe,BL.xe,#[Os X G uL,sgM,rdM,fcM],Ew.ch Ge (XE.obj wj.xe)^by and_intros,si,Gg,Ew.ch LD (XE.obj BK.xe)^by and_intros,CB,LG,Ew.ch LF (XE.obj BL.xe)^by and_intros,CC,zo,LH,Na.mk' Ja^XE.obj yS.xe,Jb,#[u,Os X G aar],#[S8,Os X G cc1]]
 exact#[_,λs v=> .of_eq rfl,λbase _ _=>(((U7 (P:=l.prog) (w:=w) (base:=base) T).mono ∅).imp^L2.UR (Z:=Z))]
def walk{l:cv}{q:ec}{a:List ee}{i:(ee->Option b_)->Heap->Prop}{c:ei->Heap->Prop}{d:DefRec}{K:Params->ad}(j:l.most\63)(k:d.params.defaults= [])
  (m:∀(w:ei)(h:Heap),c w h->(K w.params).In h)
  (F:∀(w:ei)(b:ee->Option b_)(e:Addr)(h:Heap),(K w.params).In h->h.Ns eh b->b d.name\(.ref e)->
   ∃g:gi,(∀(s:c_)(u:b_),BindsTo s g #[[u],[]] [("_law_script",u)])/\∀base:Heap,(K w.params).In base->base.Ns eh b->FnOk l.prog w (K w.params) b base fJ 40 e g ["_law_script"]^vZ^K w.params):
  d3 q a i c l.row.toRowW d [] (λf n=>dO f n):=L2.aaa 40 ∅ j k m F
end wC
open Lean in
local macro_rules|`(universe $x*)=>do return mkNullNode (<-x.mapM λi=>`(theorem $(mkIdent (`PySem.W.Fast++i.getId)):ident:True:=⟨⟩))
universe tw1006218184270280259 tw12466999110360252436 tw1022181079229683595 tw8366254652878416127 tw7229100009024759158 tw11660821976065878848 tw9209095874682830189 tw15160383809194331923 tw980198645850138461 tw2330146454348837129 tw9314092030998633910 tw10248780801204331568 tw18057874961007966420 tw3194004684137287129 tw2451342483096177887 tw16588347456326004640 tw12833576396575531755 tw11255868751700618423 tw5114299693068276727 tw3129928254840166898 tw13042145838908762939 tw4170153312012933427 tw4720576617277959994 tw14359535083246854946 tw10618778020323722636 tw3039078983456382123 tw1914504916012957557 tw17363429668091298321 tw6422487719757986120 tw12425696825725171272 tw3756070688210120404 tw3811770996474723697 tw13636255749696532398 tw7668549764252176487 tw6039236414742166185 tw16328115956809822522 tw7951867759279980570 tw8556849473253460907 tw14604564824700837918 tw13960998307516348519 tw7565856366248352600 tw9035607706996955922 tw7614452475056165970 tw6659355787973940576 tw11271343680095584992 tw8776900639179282306 tw11792468020124255714 tw3849855107279147427 tw18072117963887106752 tw12417568241780364460 tw3657539505713635590 tw11211766912389573878 tw14365114470152962729 tw4111986614671789759 tw10901293054057398043 tw4401775047446465060 tw539454256857198661 tw4806026644486121945 tw14476352754612470507 tw16239208641754267492 tw16033745066918426402 tw5349958944202065843 tw13533512654053496125 tw16987072190570136062 tw16333501937608630103 tw11829424875121534241 tw7813229883973524013 tw12660903706418895643 tw14839343752102138556 tw1544691416371928855 tw13588332322779405607 tw15348656859225322076 tw44218851629625212 tw4837819044204472133 tw13291494309650052114 tw1729494979538367962 tw16179212977476465051 tw5676658214877389729 tw16306045171819694400 tw7939944340530004646 tw7080935201536220362 tw14478054327822532017 tw13999481115510736945 tw14211757098187070996 tw1453782310909231040 tw6612909502672121514 tw17546853938244566409 tw2586808639021538199 tw18312505325224308491 tw9760871762822028979 tw9820450887904904161 tw4708879627929299397 tw17643463436822203776 tw13059101079932540111 tw15693397945288786361 tw6785297228532040068 tw14569708218774964278 tw701111047563984394 tw6201365464065671394 tw4008301933507186487 tw9342684353889872827 tw13731326753108478455 tw12728739647829456815 tw235028169110110443 tw16663678284243556952 tw354969529142358454 tw3525807337401615767 tw404401669591445480 tw10243925094338958652 tw8794932271447413105 tw12066558313958642791 tw136979975285248233 tw17175791250883125188 tw12256266783776234714 tw8154699722832924221 tw12422730443917288044 tw12122743706466262277 tw7440152553389292622 tw16999316418651934160 tw12467782575100063118 tw4864284514545741863 tw7357707724859699723 tw14810537674032835975 tw393905573267797991 tw9439900940668606089 tw1179636213915871318 tw1152142717709888195 tw13800799320534840566 tw8969136579779308892 tw5871999196356827460 tw1878200243288067507 tw8272908435736679692 tw462249902969251508 tw14459143543082633906 tw6028543509904610358 tw9768451703917908082 tw2063994673645326113 tw11016833580663462837 tw6155748331162954423 tw10215646614798538977 tw8138234150513623400 tw4073478824624232389 tw12762706131936856808 tw6822126723699478704 tw10095769692592002682 tw15388420817500264764 tw2641219678908859829 tw7599086576592788587 tw8495070178258465277 tw16921112774328177830 tw10550808810729817923 tw18144789669008676997 tw9988807625478679856 tw11231519273143922793 tw10110462631834131772 tw16192037630868715736 tw1318790877391630148 tw6051368496176047972 tw2896056885303896595 tw614221289261224571 tw15260224205444127351 tw15004404903583581222 tw1362011099576903010 tw15336107857829332354 tw12125699738097942609 tw4753623345275840611 tw9939540091656844797 tw18327573957080447776 tw9010628581203008984 tw16215700896118757874 tw1289423302870365947 tw4268950118296610040 tw1900925895168064956 tw18159799585325067338 tw15442082846705384684 tw12917923886779956414 tw4822170961106673608 tw7658696449213981882 tw9622614723770056358 tw9647278530366727856 tw2878781316984206426 tw11458218382221700132 tw14870189585210881484 tw3720115543611875496 tw10146848333147278360 tw18304824589928798480 tw12979116632810840129 tw10773755471293708177 tw9716971553065219304 tw13980268032372048805 tw1022115354918000313 tw9676567742099374878 tw17814719396135357809 tw18225580937559388464 tw3566599895058924239 tw5385384104835103535 tw12855111872937659970 tw622448080299685087 tw14634694538222802594 tw11915222513362919269 tw1482137756000656588 tw6038846557096673922 tw13576944537707049503 tw10754517303068699051 tw6028665004272600023 tw434145325885476114 tw743941445802039994 tw14855269330391377194 tw1677362191627193218 tw6655253818838699564 tw6020566353663472841 tw5800820233293049362 tw14145820494211431241 tw13586051056483165269 tw9343496869885174187 tw4634776040930757477 tw10247631349053014329 tw2124391718209501389 tw2418133509210092627 tw570846969769168981 tw1494494827234910450 tw16629616295754377030 tw17595477675360546682 tw13755962035786103835 tw2577585304000345011 tw2082151546670909757 tw15887343930772890359 tw17133206720596985869 tw4428400144200261792 tw7839552570576940855 tw16277123535860394461 tw5149500390371794327 tw8751129761005944705 tw5962858999208676830 tw12675275814985875510 tw11917823552349668670 tw13739371985074654678 tw17068406292147173088 tw3565147856763887913 tw854348692476138317 tw17007182855656707619 tw13275127622142029016 tw6121775118883311696 tw11287105022855525708 tw13811038683838986876 tw484160872129060791 tw8179928841900901538 tw16748427893175224166 tw9756368162178121590 tw8448433502591075520 tw10696198331062253264 tw16441757248125452363 tw550025509294624161 tw8906681202157550909 tw3071275189155590998 tw18133245577049457592 tw16214567300721160133 tw7719398271351458023 tw12663269127959441927 tw9878152445892086459 tw2176347591846667714 tw7434563740488642683 tw13470881678397584194 tw6645596941589641399 tw6281848722530123515 tw14271371273043101447 tw17219604529585074082 tw13085389764086970956 tw92350867608043360 tw13612291347605593887 tw1901501862912681770 tw2364419023099136480 tw15879988780233049782 tw10235413649856403810 tw14201916544517992407 tw10873316909528364405 tw8688915371274382343 tw10334834674678437051 tw5636663920795432591 tw6955717011835698304 tw6261627564158126059 tw10162352437063453696 tw17607620209923631890 tw10078646179852836802 tw3446240097256147768 tw13390860536023681073 tw16478554685799168084 tw18031900065929649973 tw1522086326761521583 tw11543459079048117516 tw11790694639412739570 tw15058759530879256618 tw4187890015878316369 tw3295932853146938388 tw4211077079646935436 tw10907462942745984725 tw14649097874912799616 tw959149108941074641 tw17772404704282683593 tw3078969215176316513 tw13120127624324512812 tw726117125022256700 tw6687956644723416712 tw6594723002734428731 tw13009668652700099539 tw10679742073301819846 tw12042880030174257276 tw12351749827013330794 tw15458758055318019009 tw15171011895065162620 tw3397203294251475676 tw16943028903926057597 tw17235579601751345050 tw10028424028384178565 tw10600500407829317821 tw18009813517534138330 tw9197668261929024830 tw10878375844502483311 tw8050906358872986074 tw9563783386890979129 tw4188288177402669937 tw2296476815661881634 tw1371530642133651444 tw14010424890913904479 tw11005690953280535396 tw2360306623457290811 tw7542367024085484676 tw4031612387097239093 tw7297311689695343179 tw17634217802884818391 tw10860746868717401313 tw13731533876678707975 tw10056929483462669136 tw17453645138479293672 tw2473365485132750158 tw2140967975842638110 tw8533907084446810481 tw9800777760228498888 tw17711122613037277301 tw18183196518614195369 tw905229551796545857 tw532100651281603666 tw13698446963075461429 tw1655191283455902134 tw10576267111840992621 tw237759240047778667 tw5696563430201774304 tw18242923868026280969 tw12171807970816277693 tw3100984697740046668 tw9327039909083607630 tw4277838109090029245 tw6326038604979349127 tw2999733757625274819 tw14091228480095988476 tw10111802290129037182 tw7844661458526722199 tw16648659629943703773 tw17314150190238526843 tw6646178598670348056 tw8508642883654316932 tw4856324781928236079 tw14712028355540871872 tw5616274567541551961 tw11087923586644376931 tw6215024668007837250 tw10770115690994564276 tw12363517090999508392 tw1630881491430266315 tw15039019823337767520 tw17668138624650548798 tw15293858668651874024 tw10314200183953030666 tw6577237994405316305 tw18009677529354216383 tw3937902795976467459 tw62686135200498791 tw9536155253285695452 tw10854793924123141058 tw2004207994310651735 tw10230814506484636043 tw15267658476511442080 tw10537281796440118725 tw9373490178556493214 tw14389790896571890759 tw5966607191255167906 tw6472172152798798908 tw15091150829328077137 tw6505483829164301932 tw2004578786826007416 tw4866090442566213413 tw8630933296637127370 tw15319331033665768215 tw2978561370509558181 tw16519359768600767437 tw9481729200088373779 tw9039323334361065397 tw12747859582958691731 tw11879764406623628962 tw10387046008164517224 tw16910627045851244357 tw11577769886834309708 tw9511127294075473062 tw6508361386814366765 tw18235636134153201130 tw5743226260435928784 tw15277048963075803091 tw9759513198839005031 tw10271882476762053546 tw6620005543203544809 tw15886642899030740915 tw8778405206946591140 tw8998659447528921903 tw7467222630339981313 tw4608485768525891022 tw17576837448783221246 tw14083790410854243676 tw916685396502691405 tw7658471140932440843 tw18420383907174460069 tw5334726168862357665 tw16719823329029456060 tw17282766704520706897 tw14525706915453310387 tw13921712152821033706 tw13120928433486144367 tw3889256448391803007 tw2447934675289348699 tw3172460662477860062 tw15689089140766737966 tw12968770184558478596 tw2655522915083386167 tw1222652712319769426 tw11551218180821241253 tw16895374702713898342 tw15749246816827472637 tw6599290912207911286 tw5090276147476876442 tw13524561854202930441 tw2938694151714507236 tw8043845541523873538 tw5569525113603920183 tw17442150830962888412 tw9705787841306626741 tw4492058805229558800 tw11019560257048215372 tw5566381087951772772 tw1842221913285877070 tw10006922655832997720 tw6372786359900642668 tw573772581650409601 tw9325511898458032809 tw17308130857474196585 tw6825518959989038519 tw18301713923470090489 tw15223668103540173539 tw11357395120902666525 tw10776742327558333377 tw12467387221596662820 tw16070673110540716618 tw10491992158147035288 tw13925814465470886746 tw5313310618618480085 tw8702641846123741332 tw14779444983928064698 tw6458945372954940112 tw15007493282528329070 tw5893941601630794266 tw1913852519901272806 tw17929440941376720883 tw6899287325157155583 tw16835510403473940999 tw5864773043472797248 tw11646298695276540205 tw16732921471855243523 tw6029242245100144680 tw11636881250974234493 tw8559084131933011129 tw16459126209136067747 tw3200718532137809919 tw5984858035704975011 tw9162172417853530534 tw17837370523441113862 tw11154457859742766978 tw13355501925399706077 tw7818149540029495212 tw14761798918482950772 tw7111273105861654719 tw6319110501714412266 tw8724015859128512822 tw13007641556395792247 tw17846467016275933436 tw3579675064714322354 tw1055160074586764154 tw3160530989345894451 tw8197862632511527544 tw7137016902722963039 tw13494204217154246951 tw4008555352573171657 tw7035803012640437259 tw16261557749661131243 tw7277560666033835976 tw10412650057924989336 tw15235021577444069132 tw15190493745520708677 tw13741791480375155905 tw12563814060417699937 tw4556243100291116693 tw6647418853905985108 tw14386391786584431332 tw3490168442485795817 tw3526695613785402521 tw8684843094464601375 tw5541507053005273784 tw16088947221818846332 tw14811459193652137815 tw11303424693176055801 tw16776613753287771642 tw12658900013651435394 tw9569694140184332972 tw4339098301368008287 tw1188247015803105305 tw899989214560271604 tw17568208201973162731 tw10307517870789670486 tw15263344867794986503 tw7767884389666055343 tw1311005447796888082 tw10010756888061550112 tw17045447652350343879 tw2216407611879584387 tw4611743338728496563 tw2123448343398453234 tw4768956357751003841 tw9881977389592808631 tw9156502424046120362 tw15012541624879974393 tw14012607761288214507 tw15815825809126180181 tw1116371395230605591 tw9178896541175961629 tw12977447633326040070 tw2639864873463331051 tw8028874235893139912 tw6844251516110158658 tw10142780288334889381 tw7824923979487322318 tw14032065286911686059 tw17447086823527280526 tw12660292160781927520 tw14804244857979292422 tw16333365800616194327 tw279086264309316428 tw575831037877664881 tw7964395012219312239 tw9637642853168807965 tw3977500670598033754 tw15389279660928240177 tw16429840377498477244 tw2400167793968696797 tw12852092321593906074 tw8575592654479191897 tw18219280220153933556 tw17672287755623212962 tw13950040634421571449
open PySem PySem.W PyProof.Rows
set_option maxRecDepth 100000 in
set_option maxHeartbeats 0 in
theorem PySem.Challenge.cw_mapdye_k74_crossed_holds : PySem.Challenge.rw_mapdye_k74_crossed.Holds := by
 w_on;o_law;k_head;(case hw=>w_witness2)
 k_fill
 refine wC.walk (l:=PySem.Challenge.rw_mapdye_k74_crossed) rfl rfl (λw h Y=>PySem.W.kIn_of Y) ?F
 case F=>
  intro w mg fa h KX G J0
  refine' wC.all_mk KX G J0 ?_ ?_ ?_ ?_ ?_ ?_ ?_ ?_ ?_ ?_ ?_ ?_ ?_ ?_ ?_ ?_ ?_ ?_ ?_ ?_ ?_ ?_ ?_ ?_ ?_ ?_ ?_ ?_ ?_ ?_ ?_ ?_ ?_ ?_ ?_ ?_ ?_ ?_ ?_ ?_ ?_ ?_ ?_ ?_ ?_ ?_ ?_ ?_ ?_ ?_ ?_ ?_ ?_ ?_ ?_ ?_ ?_ ?_ ?_ ?_ ?_ ?_ ?_ ?_ ?_ ?_ ?_ ?_ ?_ ?_ ?_ ?_ ?_ ?_ ?_ ?_ ?_ ?_ ?_ ?_ ?_ ?_ ?_ ?_ ?_ ?_ ?_ ?_ ?_ ?_ ?_ ?_ ?_ ?_ ?_ ?_ ?_ ?_ ?_ ?_ ?_ ?_ ?_ ?_ ?_ ?_ ?_ ?_ ?_ ?_ ?_ ?_ ?_ ?_ ?_ ?_ ?_ ?_ ?_
  all_goals (try (first| (show _=_;k_is) | (refine' L2.dfH ?_ ?_ ?_ ?_<;>(try (show _=_;k_is))) | (refine' L2.mfH ?_ ?_ ?_ ?_ ?_<;>(try (show _=_;k_is))) | (refine' L2.KitX.mk ?_ ?_ ?_ ?_<;>repeat' (first|exact L2.Tx| (refine' L2.Pe ?_ ?_) | (show _=_;k_is) |rfl)) | (refine' L2.V9 ?_ ?_ ?_ ?_ ?_ ?_ ?_ ?_<;>(try (first| (show _=_;k_is) |rfl))) | (refine' L2.Wa ?_ ?_ ?_ ?_ ?_ ?_ ?_ ?_<;>(try (first| (show _=_;k_is) |rfl))) | (refine' L2.jnH ?_ ?_ ?_ ?_ ?_ ?_ ?_ ?_<;>(try (show _=_;k_is))) | (refine' L2.Na.mk ?_ ?_ ?_ ?_<;>(try (show _=_;k_is)))))



