import PyProof.Rows.All
import Wide.All
import OpenK.AllK
import Wide.FinOn
import Lean
import PyProof.EqAt
import PyProof.EqKinds
import PyProof.TupleCall
import PyProof.RaisesMany
import KE.KSortTup
import PyProof.NeKinds
import PyProof.SetKind
import PyProof.SetRoads
import PyProof.SetNew
import PyProof.WalksS
import PyProof.CollectWalk
import PyProof.TupleKey
import PyProof.IsRules
import PyProof.InstEq
import KE.KRevIter
import PyProof.FitsBits
import PyProof.P3Eq
import PyProof.ListRange
import PyProof.RulesAs
import PyProof.NsDelKeeps
import PyProof.PassesOwn
import PyProof.FString
import PyProof.MeetsSeq
import PyProof.DictRoadsH
import PyProof.DictTruth
import PyProof.MinMaxWalk
import KE.KItemsList
import PyProof.DictCompW
import PySem.Challenge.RW_mapdye_k75_whole_crossed_back
set_option compiler.extract_closed false
local macro_rules|`(tactic|subst_eqs)=>`(tactic|first|exact Or.inl rfl|exact Or.inr rfl|exact Or.inr (Or.inl rfl)|exact Or.inr (Or.inr rfl)|assumption)
local macro_rules|`(tactic|bv_omega)=>`(tactic|exact ⟨rfl,rfl,rfl,by decide+kernel,rfl,by decide+kernel,by decide+kernel⟩)
local macro_rules|`(#[$x,$y,*])=>`(⟨$x,$y,*⟩)
local macro_rules|`(#[$x])=>`(⟨$x⟩)
local macro_rules|`(tactic|exists $x,*)=>`(tactic|refine⟨$x,* ,?_⟩)
local macro_rules|`(())=>`((by first|assumption|exact Nat.le_refl _|exact Nat.zero_le _|exact Nat.lt_succ_self _|exact Nat.le_succ _|exact Nat.succ_pos _|exact Nat.le_of_lt (by assumption)|exact Nat.le_succ_of_le (by assumption)|exact Nat.lt_succ_of_lt (by assumption)|exact Nat.lt_of_succ_lt (by assumption)|exact Nat.le_of_succ_le (by assumption)|exact Nat.lt_succ_of_le (by assumption)|exact Nat.le_of_lt_succ (by assumption)|exact Nat.ne_of_gt (by assumption)|exact Nat.ne_of_lt (by assumption)|exact Nat.le_of_not_lt (by assumption)|exact Nat.lt_of_not_le (by assumption)|exact Nat.pos_of_ne_zero (by assumption)|exact Nat.succ_lt_succ (by assumption)|exact Nat.lt_of_lt_of_le (by assumption) (by assumption)|exact Nat.lt_of_le_of_lt (by assumption) (by assumption)|exact Nat.le_trans (by assumption) (by assumption)|lia))
local macro_rules|`(∅)=>`((by decide))
local macro_rules|`(~~~$x)=>`((by simpa using $x))
local macro_rules|`($a\$b)=>`($a=some $b)
local macro_rules|`($a<<<$b)=>`(rightact% HPow.hPow $a $b)
local macro_rules|`($f $x* ^$a)=>`($f $x* $a)|`($f^$a)=>`($f $a)
local macro_rules|`(tactic|let⟨$[$x:ident],*⟩:=$e)=>`(tactic|obtain⟨$[$x:ident],*⟩:=$e)
set_option genInjectivity false
set_option genSizeOf false
section
open PySem
abbrev eW(x:Str):Prop:=(x==("__debug__":Str))=false
abbrev eT(x:Str):Prop:=(x==("__classdict__":Str))=false
abbrev eR(e:Expr)(s:List Expr)(v:Env):Prop:=starEach (e::s) v=(false,eval e v)::starEach s v
abbrev eI(o:Expr)(n:Str)(v:Env):Prop:=attributeBase o n v (eval o v)=eval o v
abbrev eH(p:Pos)(s:List Expr)(v:Env):Prop:=(backTo p (starEach s v)).any (·.1)=false
abbrev eD(p:Pos)(s:List Expr)(v:Env):Prop:=((backTo p (starEach s v)).all (λx=>!x.1)&&(backToKw p (keywordEach [] v)).all (λx=>x.1.isSome)&&decide (s.length+([]:List Keyword).length+(if ([]:List Keyword).isEmpty then 0 else 1)<30))=true
end
open PySem renaming wpAny_bind->a_,Value->b_,Shared->c_,starEach->d4,model->d5,wpAny->d_,Program->ee,Str->eg,intKind->eh,World->ei,foldedSetIterable->ey,tupleKeyHash->e_,compareOp->ff,Expr->fz,mainGlobals->fD,wpAny_pure->fQ,Around->f5,eval->f7,bootBuiltins->f8,IsTupleKey->f_,backTo->gd,FuncData->ge,wpAny_loadPart'->gi,codeAny->gj,assignEach->gl,swapsWith->gs,attributeBase->gt,wpAny_loadPart_at->gu,wpAny_isSubtype_exc->gM,holding->gP,keywordEach->g6,setSearchFrom->g_,wpAny_mono->hH,tupleKind->hQ,excClassObj->hX,binaryOp->h_,standAt->ie,behindInMarks->il,backToKw->im,NameKind->io,ExceptHandler->ip,letOwnedTupleGo->iq,Keyword->ix,sysModules->iN,wpAny_call->i_,sliceBounds->jc,unsupported->jd,codeAny_mono->je,wpAny_newObj_type->jk,newFunctionEnv->jn,ofAClassStatement->jo,Pos->jp,assign->jq,checkBuiltinCall->jr,swapsWithSole->js,swappedStores->jt,Sem->j_,relabel->ka,ExcBaseFacts->ke,getMethod->km,noteFrame->kn,setFlight->kv,rawInt->kI,ZipApart->la,Result->lb,wpAny_standAt->lf,bindArgs->li,SetTable->ln,entryOfKey->lp,pyNext->lr,Env->lz
open PyProof.Rows renaming arrOf->d6,pendingOf->d7,SortSt->fB,seqObj->gk,elem'->gv,failedOf->hB,SortKind->hT,setPending->h0,IntsAre->ii,reverseSlice'->jN,envOfC->jW,entry_list_sort->j0,AllBare->j3,slot_list_sort->k_,wpS->lu,setArr->lv
open PySem.W renaming Frag->ad,findIn->ak,keepIn->am,codeIn->bf,specialIn->bi,emptyDict->bj,isFn->bu,fnOf->bv,instObj->cb,nsIn->ce,mroIn->cm,hasDictIn->cq,plainGet->cv,kitOne->cy,OpenLaw->cM,lookIn->cS,plainOver->c4,methodObj->da,takesIn->db,takerIn->dc,readsIn->dg,makesIn->dn,findCls->dq,instIn->dH,WalkO->d3
open List renaming range->aj,replicate->b5,lookup->ca,length->cI,Nodup->cP
open PySem renaming Spec->bd,Within->cr,SetTable->dL,call->dV
open Array renaming replicate->dz
abbrev ir:=@if_pos
abbrev mo:=@if_neg
abbrev Gc:=@decide_eq_true
abbrev GE:=@decide_eq_false
abbrev IR:=@congrArg
abbrev KF:=@of_decide_eq_true
abbrev Pi:=@if_false
abbrev UF:=@of_decide_eq_false
abbrev ado:=@beq_eq_false_iff_ne
abbrev adz:=@beq_iff_eq
abbrev adD:=@if_true
abbrev adV:=@getElem?_pos
abbrev adX:=@decide_eq_decide
abbrev afa:=@bne_self_eq_false
open PySem renaming wpAny_pure->tz,wpAny_holding->On,wpAny_truthy_bool->P3,wpAny_Call_Name_kw->SZ,wpAny_standAt->adn,codeAny_mono->adq,wpAny_call_entry->ads,wpAny_field->adu,wpAny_newObj_type->adw,wpAny_loadPart_at->adx,wpAny_isSubtype_exc->ady,mem_of_lookup->adC,boot_len->adE,wpAny_passesOwn->adF,wpAny_setState_of->adH,wpAny_rule->adI,wpAny_call->adJ,sizeLine_eq->adL,wpAny_comprehension_free->adM,codeAny_builtin->adT,plainId_quiet->adY,codeAny_of_tree->ad0,call_meets->ad9,wpAny_seqItems->aeb,wpAny_callSpecial?_slot->aec,wpAny_nextOf_list_item->aej,wpAny_newList->aem,plainObj_wpAny_Assign_Attribute->aex,wpAny_execs_nil->aeA,codeAny_call_builtin->aeF,wpAny_specialOf->aeJ,wpAny_updateSeq->aeM,wpAny_of_eq->aeU,wpAny_attempt->ae5,strLen_append->ae8,wpAny_FormattedValue_plain->ae9,wpAny_lookBehind->afk,pastItsLine_dict->afl,wpAny_askSetting->afq,wpAny_forIn_list->aft,wpAny_Call_method_late->afH,codeAny_compStart_list->afI,wpAny_loadPart->afO,wpAny_newTuple->afP,wpAny_setField->afQ,wpAny_nsSet1->afS,wpAny_typeOf->afU,codeAny_loop->afV
open PySem.Heap renaming get?_push_of_some->AC,lt_size->Da,get?_push_size->GM,get?_update_other->Os,get?_update_self->PP,get?_update_ne->adQ,size_push->adU,size_update->adW,get?_push_ne->aed
open PyProof.Rows renaming wpS_bind->Do,wpS_pure->FB,wpS_mono->SC,wpS_forRange->SL,callWith_type1->W1,wpS_get->adZ,wpS_modify->aea,subscriptTail_builtinR->aeg,wpS_lift->aep,slot_tuple_getitem->aey,callWith_builtin1->aeD,args_list_sort->aeQ,assignInOrder_cons->aeV,listUpdate_at->ae4,size_push'->afc,seqEpoch_at->afJ,sortedAll_old->afR,sortedAll_at->afW,plain_sorted->afX,entry_sorted->afY,args_sorted1->afZ,collect_list->af0
open Option.some renaming inj->Fk
open Classical renaming byContradiction->FM
open PySem.PassesOwn renaming never->FS
open Prod.mk renaming inj->GT
open PySem.F renaming plainAttrs_list->KB,plain_extend_loop->adB,excBase_ValueError->adG,slot_list_insert->adO,type_list_insert->adP,slot_list_index->adR,type_list_index->adS,slot_list_append->ad6,type_list_append->ad7,slot_zip_next->aeL,entry_extend_loop->aff,args_tuple_add_2->afm,entry_tuple_add->afw,slot_tuple_add->afG
open PySem.W renaming mg_none_of->KM,kia_one->Wp,mg_of->adv,callWith_K->adA,methodCall_KW->aer,looks_findIn->aeC,plainGet_of->aeO,looks_specialIn->afx,cellsFrom_some->afF
open PyProof.Rows.KeyOrd renaming kle_trans->M2,kle_of_klt->SB,kle_refl->adp,klt_of_kle_of_klt->ad4
open Prod renaming ext->UV
open List.Pairwise renaming imp_of_mem->adt
open PySem.Around renaming under_plainId->adK,in1_units->afr
open List.Perm renaming eq_of_pairwise->adN
open PySem.Calls renaming call_function_entry->ad1,callWith_builtin->aeh,Name_function_global->ae2
open PySem.SeqAt.EqAt renaming int_int->ad2
open PySem.Obj renaming data_mapFields->ad3,isFreed_of_fields->aes
open Array renaming size_setIfInBounds->ad5,getElem?_setIfInBounds->aeR,toList_inj->afp,toList_filterMap->afL
open List.Nodup renaming idxOf_getElem->ad8
open List renaming getElem?_inj->aee,findIdx_cons->aef,getElem_cons_drop->aek,map_drop->ael,all_eq_true->aeo,take_succ_eq_append_getElem->aeq,pairwise_reverse->aet,getElem?_toArray->aeu,concat_eq_append->aev,length_filter_le->aew,eraseIdxIfInBounds_toArray->aez,getElem?_append->aeE,reverse_reverse->aeG,mem_of_mem_take->aeH,mem_iff_getElem->aeK,filterMap_cons->aeN,mem_map_of_mem->aeP,countP_eq_length_filter->aeS,count_set->aeT,mem_filterMap->aeW,getElem_range->aeX,count_pos_iff->aeZ,append_of_mem->ae0,sublist_flatten_of_mem->ae1,all_cons->ae3,reverse_perm->afb,mem_of_find?_eq_some->afd,count_replicate_self->afe,getElem?_zip_eq_some->afg,getElem?_eq_none_iff->afh,mem_or_eq_of_mem_set->afi,getElem_inj->afj,not_mem_nil->afu,of_mem_zip->afz,forIn_cons->afA,range_succ->afB,foldl_cons->afC,idxOf_cons->afD,getElem_replicate->afM
open Option renaming map_eq_some_iff->aei
open Nat renaming lt_succ_self->aen,min_le_right->afn,mod_self->afo,add_sub_cancel_left->afy,min_eq_left->afE,le_of_eq->afT,add_comm->af1
open Bool renaming eq_iff_iff->aeB,not_true->ae7,false_and->afN
open Int renaming emod_nonneg->aeI,natCast_emod->afv
open PySem.Code renaming quiet_builtin->aeY
open PySem.MeetsSeq3 renaming plain_eq_loop->ae6
open PySem.SetTable renaming toList_insertAt->afs,insertAt_perm->afK
local macro_rules|`($x<|>$y)=>`(autoParam $x $y)
theorem xp0(h:True:=by rfl):True:=h
def zn:Lean.Syntax:=xp0._auto_1
theorem xp1(h:True:=by decide):True:=h
def zm:Lean.Syntax:=xp1._auto_1
theorem xp2(h:True:=by subst_eqs):True:=h
def zb:Lean.Syntax:=xp2._auto_1
theorem xp3(h:True:=by intro _;rfl):True:=h
def za:Lean.Syntax:=xp3._auto_1
theorem xp4(h:True:=by decide+kernel):True:=h
def xz:Lean.Syntax:=xp4._auto_1
theorem xp5(h:True:=by first|decide|lia):True:=h
def xx:Lean.Syntax:=xp5._auto_1
theorem xp6(h:True:=by with_unfolding_all rfl):True:=h
def xv:Lean.Syntax:=xp6._auto_1
theorem xp7(h:True:=by intro _ _;rfl):True:=h
def xu:Lean.Syntax:=xp7._auto_1
theorem xp8(h:True:=by exact λ_ _=>rfl):True:=h
def xr:Lean.Syntax:=xp8._auto_1
theorem ae{g:Prop}(h:∀G:Prop,(g->G)->G):g:=h g id
set_option hygiene false in
local macro_rules|`(tactic|rfl')=>`(tactic|refine ae fun G0 k0=>?_)
set_option hygiene false in
local macro_rules|`(tactic|ac_rfl)=>`(tactic|refine k0 ?_)
local macro_rules(kind:=Lean.Parser.Command.declaration)|s=>match s.getPos? with|none=>Lean.Macro.throwUnsupported|_=>pure (s.rewriteBottomUp (·.setInfo .none))
noncomputable section
set_option bootstrap.genMatcherCode false
set_option Elab.async false
set_option linter.all false
set_option maxRecDepth 100000
abbrev aI:= @List.length_map
abbrev bA:= @List.getElem?_eq_getElem
abbrev bO:= @List.getD_eq_getElem?_getD
abbrev cD:= @List.getElem?_eq_some_iff
abbrev cU:= @List.mem_of_getElem?
abbrev cF:= @List.mem_cons_self
abbrev aZ:= @Nat.le_refl
abbrev cL:= @List.getElem?_map
abbrev dS:= @List.mem_cons_of_mem
abbrev dJ:= @List.length_append
abbrev bW:= @List.mem_singleton
abbrev bF:= @List.mem_append
abbrev cE:= @List.size_toArray
abbrev dj:= @Array.length_toList
abbrev cQ:= @List.nodup_append
abbrev cJ:= @List.length_cons
abbrev fb:= @List.mem_append_right
abbrev dR:= @Nat.lt_of_lt_of_le
abbrev b7:= @List.mem_cons
abbrev fJ:= @List.getElem?_eq_none
abbrev bR:= @List.mem_map
abbrev dZ:= @Bool.false_ne_true
abbrev bX:= @Nat.ne_of_lt
abbrev fK:= @List.mem_append_left
abbrev dk:= @List.map_append
abbrev gr:= @Array.getElem?_toList
abbrev iR:= @List.getElem?_append_left
abbrev jg:= @List.getElem?_append_right
abbrev fL:= @Bool.false_eq_true
abbrev gL:= @List.take_append_drop
abbrev cY:= @List.map_cons
abbrev fe:= @List.append_nil
abbrev d9:= @List.mem_range
abbrev cZ:= @List.map_map
abbrev jh:= @List.length_pos_of_mem
abbrev jw:= @List.getElem?_of_mem
abbrev iA:= @List.pairwise_map
abbrev hV:= @List.length_take
abbrev eB:= @Nat.zero_le
abbrev iS:= @List.flatten_cons
abbrev iT:= @List.getElem_mem
abbrev oY:= @List.nodup_iff_pairwise_ne
abbrev jx:= @List.length_range
abbrev ji:= @List.length_drop
abbrev kA:= @Array.toList_append
abbrev iU:= @List.length_set
abbrev qM:= @List.perm_ext_iff_of_nodup
abbrev iV:= @List.nodup_nil
abbrev qN:= @List.drop_eq_getElem_cons
abbrev kB:= @List.append_assoc
abbrev jX:= @List.mem_flatten
abbrev oZ:= @List.getElem?_set_self
abbrev kC:= @Nat.mod_eq_of_lt
abbrev lP:= @Int.toNat_natCast
abbrev sU:= @Array.getElem?_eq_getElem
abbrev nH:= @List.getElem?_range
abbrev lQ:= @Nat.le_of_not_lt
abbrev sV:= @List.idxOf_lt_length_iff
abbrev kD:= @List.nodup_cons
abbrev jy:= @Nat.lt_irrefl
abbrev nI:= @Nat.lt_of_le_of_lt
abbrev qO:= @List.getElem?_set_ne
abbrev sW:= @List.take_of_length_le
abbrev jz:= @Nat.le_trans
abbrev qP:= @List.flatten_append
abbrev wF:= @List.getElem?_cons_succ
abbrev wG:= @Int.eq_ofNat_of_zero_le
abbrev jY:= @Nat.ne_of_gt
abbrev pb:= @List.getElem?_set
abbrev ph:= @List.ext_getElem?
abbrev qQ:= @List.getElem_idxOf
abbrev yU:= @List.getElem?_replicate
abbrev BX:= @Array.getElem?_eq_some_iff
abbrev lR:= @Nat.le_of_lt
abbrev wH:= @List.pairwise_append
abbrev yV:= @List.drop_eq_nil_of_le
abbrev BY:= @List.pairwise_iff_getElem
abbrev mD:= @Nat.zero_add
abbrev yW:= @List.length_replicate
abbrev wI:= @List.perm_append_comm
abbrev lS:= @Nat.le_succ
abbrev qR:= @List.mem_filter
abbrev kE:= @Nat.mod_lt
abbrev BZ:= @List.drop_of_length_le
abbrev yX:= @List.map_congr_left
abbrev sX:= @List.length_nil
abbrev sY:= @List.nil_append
abbrev B0:= @List.mem_iff_getElem?
abbrev wJ:= @List.lookup_cons
abbrev yY:= @List.getElem?_drop
abbrev EA:= @List.set_eq_of_length_le
abbrev Jc:= @Array.getD_eq_getD_getElem?
abbrev Jd:= @List.idxOf_lt_length_of_mem
abbrev B2:= @List.reverse_append
abbrev yZ:= @List.mem_reverse
abbrev y3:= @List.take_length
abbrev B3:= @Array.toList_push
abbrev B4:= @Bool.eq_false_iff
abbrev EB:= @List.length_pos_iff
abbrev y4:= @List.take_zero
abbrev qK:= @Nat.mul_le_mul
abbrev qL:= @List.take_succ
abbrev uC:= @Bool.and_eq_true
abbrev uD:= @List.nodup_range
abbrev uE:= @Option.getD_some
abbrev oJ:= @Nat.sub_self
abbrev yc:= @Array.size_extract
abbrev uF:= @Option.map_some
abbrev Gw:= @Array.perm_iff_toList_perm
abbrev yd:= @List.flatMap_cons
abbrev ye:= @Nat.lt_succ_of_lt
abbrev BP:= @Array.toList_reverse
abbrev Gx:= @List.getElem?_take_of_lt
abbrev Gy:= @List.pairwise_singleton
abbrev BQ:= @List.getElem?_take
abbrev BR:= @List.find?_eq_none
abbrev LI:= @List.eq_nil_iff_forall_not_mem
abbrev Gz:= @List.range_succ_eq_map
abbrev GA:= @List.pairwise_lt_range
abbrev GB:= @List.length_singleton
abbrev BS:= @List.filter_cons
abbrev BU:= @List.any_eq_true
abbrev BV:= @List.getElem_map
abbrev yf:= @List.any_cons
abbrev yg:= @List.map_take
abbrev GC:= @List.getD_cons_succ
abbrev BW:= @Bool.or_eq_true
abbrev yh:= @List.map_nil
abbrev GD:= @Int.emod_lt_of_pos
abbrev GF:= @Array.forIn_toList
namespace L2
open PySem PySem.Spec PyProof.Rows
abbrev Key:=Sum Int Str
noncomputable def Rk:Key->Value->Bool
 | .inl k,v=>Value.isInt k v
 | .inr x,v=>Value.isStrOf x v
noncomputable def abS(w:World):Key->Int
 | .inl k=>hashInt k
 | .inr x=>hashStr w x
theorem dP:∀{k:Key}{v:Value},Rk k v=true->(∃i t,k=Sum.inl i/\v=Value.int i t)\/(∃x t,k=Sum.inr x/\v=Value.str x t)
 | .inl i,v,h=>by
  obtain⟨t,e⟩:=Value.isInt_shape (k:=i) (v:=v) h;exact .inl #[i,t,rfl,e]
 | .inr x,v,h=>by
  obtain⟨t,e⟩:=Value.isStrOf_shape (x:=x) (v:=v) h;exact .inr #[x,t,rfl,e]
def UZ(a b:Int):decide ((Sum.inl a:Key)=Sum.inl b)=(a==b):=by
 by_cases e:a=b
 .subst e;simp
 .have h:¬(Sum.inl a:Key)=Sum.inl b:=λq=>e^Sum.inl.inj q
  rw[GE h];exact(ado.mpr e).symm
def U4(a b:eg):decide ((Sum.inr a:Key)=Sum.inr b)=decide (a=b):=by
 by_cases e:a=b
 .subst e;simp
 .have h:¬(Sum.inr a:Key)=Sum.inr b:=λq=>e^Sum.inr.inj q
  rw[GE h,GE e]
def U0(a:Int)(b:eg):decide ((Sum.inl a:Key)=Sum.inr b)=false:=GE^λq=>nomatch q
def U3(a:eg)(b:Int):decide ((Sum.inr a:Key)=Sum.inl b)=false:=GE^λq=>nomatch q
noncomputable def AM(prog:Program)(w:World):PySem.KeyKind prog w Key where
 is:=Rk
 hash:=abS w
 inj:=λv a b g f=>by
  rcases dP g with ⟨i,t,rfl,rfl⟩ | ⟨x,t,rfl,rfl⟩
  .rcases dP f with ⟨j,u,rfl,e⟩ | ⟨y,u,rfl,e⟩
   .injection e with c _;rw[c]
   .exact nomatch e
  .rcases dP f with ⟨j,u,rfl,e⟩ | ⟨y,u,rfl,e⟩
   .exact nomatch e
   .injection e with c _;rw[c]
 byValue:=λk v h=>by
  rcases dP h with ⟨i,t,rfl,rfl⟩ | ⟨x,t,rfl,rfl⟩<;>rfl
 pyHash:=λd h=>by
  rcases dP d with ⟨i,t,rfl,rfl⟩ | ⟨x,t,rfl,rfl⟩
  .exact wpAny_pyHash_int h
  .exact wpAny_pyHash_str h
 eqBool:=λl d h=>by
  rcases dP l with ⟨i,t,rfl,rfl⟩ | ⟨x,t,rfl,rfl⟩
  .rcases dP d with ⟨j,u,rfl,rfl⟩ | ⟨y,u,rfl,rfl⟩
   .rw[UZ] at h;exact wpAny_eqBool_int h
   .rw[U0] at h;exact SeqAt.EqAt.int_str i t y u _ _ _ _ h
  .rcases dP d with ⟨j,u,rfl,rfl⟩ | ⟨y,u,rfl,rfl⟩
   .rw[U3] at h;exact SeqAt.EqAt.str_int x t j u _ _ _ _ h
   .rw[U4] at h;exact wpAny_eqBool_str h
 «strs»:=λk x t v h=>by
  rcases dP h with ⟨i,u,rfl,e⟩ | ⟨y,u,rfl,e⟩
  .exact nomatch e
  .injection e with c _
   subst c;cases v<;>rfl
set_option genInjectivity true in
inductive V where
 |aS|bl (b:Bool) |int (i:Int) |str (x:Str) |zc (b:Array UInt8) |JD (b:UInt64) |ref (a:Addr) |ty (n:String)
 deriving DecidableEq
def RelV:V->Value->Prop
 | .aS,u=>u=Value.none
 | .bl b,u=>u=Value.bool b
 | .int i,u=>∃t,u=Value.int i t
 | .str x,u=>∃t,u=Value.str x t
 | .zc b,u=>∃t,u=Value.bytes b t
 | .JD b,u=>∃t,u=Value.float b t
 | .ref a,u=>u=Value.ref a
 | .ty n,u=>u=Value.type n
abbrev Vals:List V->List Value->Prop:=Paired RelV
theorem Vals.length{xs:List V}{a:List Value}(r:Vals xs a):xs.length=a.length:=Paired.length r
theorem Vals.get:∀{a:List V}{b:List b_}{i:Nat}{x:V},Vals a b->a[i]?\x->∃u,b[i]?\u/\RelV x u
 |_,_,_,_, .nil,e=>by simp at e
 |_,_,0,_, .cons r _,e=>by simp at e;subst e;exact#[_,rfl,r]
 |_,_,i+1,x, .cons _ t,e=>by
  let⟨u,c,d⟩:=Vals.get (i:=i) (x:=x) t^~~~e
  exact#[u,by simpa using c,d]
theorem Vals.set{x:V}(r:RelV x u):∀{a:List V}{b:List b_}(i:Nat),Vals a b->Vals (a.set i x)^b.set i u
 |_,_,_, .nil=> .nil
 |_,_,0, .cons _ t=> .cons r t
 |_,_,i+1, .cons q t=> .cons q^Vals.set r i t
theorem Vals.append:∀{a b:List V}{c d:List b_},Vals a c->Vals b d->Vals (a++b) (c++d)
 |_,_,_,_, .nil,s=>s
 |_,_,_,_, .cons r t,s=> .cons r^Vals.append t s
theorem Vals.take:∀{xs:List V}{a:List b_}(n:Nat),Vals xs a->Vals (xs.take n)^a.take n
 |_,_,0,_=> .nil
 |_,_,_+1, .nil=> .nil
 |_,_,n+1, .cons r t=> .cons r^Vals.take n t
theorem Vals.drop:∀{xs:List V}{a:List b_}(n:Nat),Vals xs a->Vals (xs.drop n)^a.drop n
 |_,_,0,r=>r
 |_,_,_+1, .nil=> .nil
 |_,_,n+1, .cons _ t=>Vals.drop n t
def mU:Option V->Option Value->Prop
 |some v,some u=>RelV v u
 |none,none=>True
 |_,_=>False
def KV{a:Type}:List (a×V)->List (a×Value)->Prop:=Paired λ(p:a×V)(q:a×Value)=>p.1=q.1/\RelV p.2 q.2
noncomputable def kV:Key->V
 | .inl i=> .int i
 | .inr x=> .str x
inductive HO where
  |lst (xs:List V)
  |tup (xs:List V)
  |dK (fZ:List (Key×V)) |dT (fZ:List (List Key×V))
  |set (S:Int->Bool) (n:Nat)
  |ins (C dx:Addr) (fs:List (Str×V))
  |own (x:Addr)
  |xd (fs:List (Str×V))
  |met (f x:Addr)
  |rng (lo hi:Int)
  |tI (o:Obj) (u:HO)
  |IM (ps:Array Value)
  |ext (φ:Heap->Prop)
abbrev Hp:=Addr->Option HO
noncomputable def upd(H:Hp)(a:Addr)(o:HO):Hp:=λb=>if b=a then some o else H b
def af{H:Hp}{a:Addr}{o:HO}:upd H a o a\o:=by unfold upd;rw[ir rfl]
def ag{H:Hp}{a b:Addr}{o:HO}(h:b≠a):upd H a o b=H b:=by unfold upd;rw[mo h]
def wy:upd (upd H a o) a u=upd H a u:=by
 funext b;unfold upd;split<;>rfl
def ao{H:Hp}{a b:Addr}(h:H a\o)(h':H b=none):a≠b:=by
 intro e;subst e;rw[h] at h';cases h'
section
variable (P:Program) (w:World)
def cG(H:Hp)(h:Heap)(a:Addr):HO->Prop
 | .lst c=>c.length<=sizeLine/\∃(b:List b_)(n:Nat),Vals c b/\h.get? a\{cls:= .type "list",data:= .seq b.toArray n}
 | .tup c=>c.length<=sizeLine/\∃b:List b_,Vals c b/\IsTup h a b.toArray
 | .dK e=>e.length<=sizeLine/\(a==iN)=false/\∃j,KV e j/\h.DictOf (AM P w) a j
 | .dT e=>e.length<=sizeLine/\(a==iN)=false/\∃c:List (List Key×Addr×b_),
   Paired (λ(p:List Key×V)(q:List Key×Addr×b_)=>p.1=q.1/\H q.2.1\(.tup^p.1.map kV)/\RelV p.2 q.2.2) e c/\
   ∃o k r,h.get? a\o/\o.ExactDict/\o.data= .dict k r/\k.toList=c.map^lp^hQ^AM P w/\(c.map (·.1)).Nodup
 | .set S n=>h.SetOf (eh P w) a S n
 | .ins C g fs=>H g\(.own a)/\fs.length<=1000/\g≠a/\h.get? a\(cb C g)/\
   ∃d,h.Ns1 g d/\(∀f,mU (fs.lookup f)^d f)/\cr d^fs.map (·.1)
 | .own _=>∃o,h.get? a\o
 | .xd fs=>∃d,h.Ns1 a d/\∀f,mU (fs.lookup f)^d f
 | .rng lo s=>∃t u v,h.get? a\{cls:= .type "range",data:= .fields [.int lo t, .int s u, .int 1 v].toArray}
 | .tI o u=>h.get? a\o/\cG H h a u
 | .IM y=>h.get? a\{cls:= .none,data:= .fields y}
 | .met f x=>h.get? a\(da (.ref f)^.ref x)
 | .ext i=>i h/\(∃o,h.get? a\o)/\∀l m:Heap,i l->(∀o,l.get? a\o->m.get? a\o)->i m
def jj(H:Hp)(h:Heap):Prop:=∀a o,H a\o->cG P w H h a o
end
section
variable {P:Program} {w:World} {H H':Hp} {h h':Heap} {a:Addr} {o:HO}
theorem cG.lt(x:cG P w H h a o):a<h.objs.size:=by
 cases o with
 |lst b=>obtain⟨_,_,_,_,e⟩:=x;exact Da e
 |tup b=>obtain⟨_,_,_,p⟩:=x;exact p.lt
 |dK c=>obtain⟨_,_,_,_,o,_,_,e,_⟩:=x;exact Da e
 |dT c=>obtain⟨_,_,_,_,o,_,_,e,_⟩:=x;exact Da e
 |set S n=>obtain⟨o,_,_,_,e,_⟩:=x;exact Da e
 |ins C d fs=>obtain⟨_,_,_,e,_⟩:=x;exact Da e
 |own y=>obtain⟨_,e⟩:=x;exact Da e
 |xd fs=>obtain⟨_,⟨_,_,_,e,_⟩,_⟩:=x;exact Da e
 |rng lo g=>obtain⟨_,_,_,e⟩:=x;exact Da e
 |tI i u=>obtain⟨e,_⟩:=x;exact Da e
 |IM j=>exact Da (show h.get? a\_ from x)
 |met f y=>exact Da (show h.get? a\_ from x)
 |ext k=>obtain⟨_,⟨_,e⟩,_⟩:=x;exact Da e
theorem Paired.Xe:∀{c:List e}{d:List g},Paired F c d->(∀a b,F a b->G a b)->Paired G c d
 |_,_, .nil,_=> .nil
 |_,_, .cons r t,f=> .cons (f _ _ r)^Paired.Xe t f
theorem cG.qE(x:cG P w H h a o)(k:∀b u,(b=a\/H b\(.own a))->h.get? b\u->h'.get? b\u)
  (E:∀b,H b\(.own a)->H' b\(.own a)) (F:∀b m,H b\(.tup m)->H' b\(.tup m)):cG P w H' h' a o:=by
 induction o with
 |lst m=>let⟨z,l,n,r,e⟩:=x;exact#[z,l,n,r,k _ _ (.inl rfl) e]
 |tup m=>let⟨z,l,r,g,e,c⟩:=x;exact#[z,l,r,g,k _ _ (.inl rfl) e,c]
 |dK G=>let⟨z,y,I,r,g,i,j,e,c⟩:=x;exact#[z,y,I,r,g,i,j,k _ _ (.inl rfl) e,c]
 |dT G=>
  let⟨z,y,m,r,g,i,j,e,c⟩:=x;exact#[z,y,m,Paired.Xe r λp q z=>#[z.1,F _ _ z.2.1,z.2.2],g,i,j,k _ _ (.inl rfl) e,c]
 |set S n=>let⟨g,i,j,t,e,c⟩:=x;exact#[g,i,j,t,k _ _ (.inl rfl) e,c]
 |ins C N fs=>
  rfl';obtain⟨d,z,ne,e,s,⟨A,i,j,L,c⟩,r⟩:=x;ac_rfl;exact#[E _ d,z,ne,k _ _ (.inl rfl) e,s,#[A,i,j,k _ _ (.inr d) L,c],r]
 |own y=>let⟨g,e⟩:=x;exact#[g,k _ _ (.inl rfl) e]
 |xd fs=>obtain⟨s,⟨A,i,j,e,c⟩,r⟩:=x;exact#[s,#[A,i,j,k _ _ (.inl rfl) e,c],r]
 |rng lo Q=>let⟨t,u,v,e⟩:=x;exact#[t,u,v,k _ _ (.inl rfl) e]
 |tI g u M=>let⟨e,q⟩:=x;exact#[k _ _ (.inl rfl) e,M q]
 |IM B=>
  have e:h.get? a\{cls:= .none,data:= .fields B}:=x;show h'.get? a\{cls:= .none,data:= .fields B};exact k a _ (.inl rfl) e
 |met f y=>
  have e:h.get? a\(da (.ref f)^.ref y):=x;show h'.get? a\(da (.ref f)^.ref y);exact k a _ (.inl rfl) e
 |ext R=>obtain⟨p,⟨o,e⟩,st⟩:=x;exact#[st _ _ p λo q=>k _ _ (.inl rfl) q,#[o,k _ _ (.inl rfl) e],st]
theorem jj.lt(x:jj P w H h)(e:H a\o):a<h.objs.size:=(x a o e).lt
def jj.fresh(x:jj P w H h)(e:h.objs.size<=a):H a=none:=by
 cases q:H a with
 |none=>rfl
 |some u=>exact absurd (dR (x.lt q) e)^jy _
def jj.kept(x:jj P w H h)(k:∀b u,h.get? b\u->h'.get? b\u):jj P w H h':=λa o e=>
 (x a o e).qE (λb u _ q=>k b u q) (λ_ q=>q) λ_ _ q=>q
def jj.laid(x:jj P w H h)(k:∀b u,h.get? b\u->h'.get? b\u)(g:h.objs.size<=a)(new:cG P w (upd H a o) h' a o):jj P w (upd H a o) h':=λb u e=>by
 have d:=x.fresh g
 by_cases f:b=a
 .subst f;rw[af] at e;cases e;exact new
 .rw[ag f] at e
  exact(x b u e).qE (λc v _ q=>k c v q) (λc q=>by rw[ag^ao q d];exact q) λc i q=>by rw[ag^ao q d];exact q
end
def Rd(H:Hp)(a:Addr)(u:HO):Prop:=H a\u\/∃o,H a\(.tI o u)
def Rd.ok{P:Program}{w:World}{H:Hp}{a:Addr}(r:Rd H a u)(x:jj P w H h):cG P w H h a u:=by
 rcases r with r| ⟨o,r⟩
 .exact x a u r
 .obtain⟨_,q⟩:=x a _ r
  exact q
def OV:Option HO->Prop
 |some^.lst _=>True
 |some^.dK _=>True
 |some^.dT _=>True
 |some^.set _ _=>True
 |some^.ins _ _ _=>True
 |some^.ext _=>True
 |_=>False
section
variable {P:Program} {w:World} {H:Hp} {h h':Heap} {x e:Addr} {o':HO}
def jj.write(ok:jj P w H h)(a:OV^H x)(j:e=x\/H e\(.own x))(k:∀b u,b≠e->h.get? b\u->h'.get? b\u)(n:∃u,h'.get? e\u)
  (new:cG P w (upd H x o') h' x o'):jj P w (upd H x o') h':=λb u q=>by
 have l:∀c y,H c\(.own y)->c≠x:=λc y r z=>by subst z;rw[r] at a;exact a
 have o:∀c d,H c\(.tup d)->c≠x:=λc d r z=>by subst z;rw[r] at a;exact a
 by_cases f:b=x
 .subst f;rw[af] at q;cases q;exact new
 .rw[ag f] at q
  by_cases g:b=e
  .have m:H b\(.own x):=by
    rcases j with z|z
    .exact absurd (g.trans z) f
    .rw[g];exact z
   let⟨v,p⟩:=n;rw[q] at m;cases m;exact#[v,by rw[g];exact p]
  .refine(ok b u q).qE (λc v i r=>k c v ?_ r) (λc r=>by rw[ag^l c b r];exact r) λc d r=>by rw[ag^o c d r];exact r
   rcases i with rfl|i
   .exact g
   .rintro rfl
    rcases j with z|z
    .exact l c b i z
    .rw[i] at z;cases z;exact f rfl
end
structure Un (fs ex:List Addr) (H H':Hp) (h h':Heap):Prop where
 keep:∀b o,h.get? b\o->H b=none->b∉fs->b∉ex->h'.get? b\o
 slot:∀b o,h.get? b\o->H b=none->b∈fs->b∉ex->∃sl,h'.get? b\{o with slots:=sl}
 free:∀b o,h.get? b\o->H b=none->b∉ex->H' b=none
 there:∀b o,h.get? b\o->b∉ex->∃o',h'.get? b\o'
 tups:∀b xs,H b\(.tup xs)->H' b\(.tup xs)
 frzs:∀b o u,H b\(.tI o u)->H' b\(.tI o u)
 tbls:∀b ps,H b\(.IM ps)->∃more,H' b\(.IM (ps++more))
section
variable {fs fs' ex sq:List Addr} {H H1 H2:Hp} {h h1 h2 h':Heap} {a x e:Addr} {o:HO}
def Un.any(u:Un fs ex H H1 h h1)(q:h.get? b\c)(n:H b=none)(d:b∉ex):∃g,h1.get? b\{c with slots:=g}:=by
 by_cases f:b∈fs
 .exact u.slot b c q n f d
 .exact#[c.slots,u.keep b c q n f d]
def Un.kept(k:∀b u,h.get? b\u->h'.get? b\u):Un fs ex H H h h':=
 #[λb c q _ _ _=>k b c q,λb c q _ _ _=>#[c.slots,k b c q],λ_ _ _ n _=>n,λb c q _=>#[c,k b c q],λ_ _ q=>q,λ_ _ _ q=>q,λ_ d q=>#[#[],by rw[q];simp]]
def Un.refl:Un fs ex H H h h:=Un.kept λ_ _ q=>q
def Un.laid(k:∀b u,h.get? b\u->h'.get? b\u)(d:h.objs.size<=a)(c:H a=none):Un fs ex H (upd H a o) h h' where
 keep:=λb u q _ _ _=>k b u q
 slot:=λb u q _ _ _=>#[u.slots,k b u q]
 free:=λb u q n _=>by rw[ag^bX^dR (Da q) d];exact n
 there:=λb u q _=>#[u,k b u q]
 tups:=λb f q=>by rw[ag^ao q c];exact q
 frzs:=λb u f q=>by rw[ag^ao q c];exact q
 tbls:=λb g q=>#[#[],by rw[ag^ao q c,q];simp]
def Un.write(c:OV^H x)(j:e=x\/H e\(.own x))(k:∀b u,b≠e->h.get? b\u->h'.get? b\u)(l:∃u,h'.get? e\u):Un fs ex H (upd H x o) h h':=by
 have f:∀b,H b=none->b≠x:=λb n z=>by subst z;rw[n] at c;exact c
 have g:∀b,H b=none->b≠e:=λb n z=>by
  subst z
  rcases j with r|r
  .exact f b n r
  .rw[n] at r;cases r
 have d:∀b u,H b\u->¬OV^some u->b≠x:=λb u q m z=>by subst z;rw[q] at c;exact m c
 refine#[λb u q n _ _=>k b u (g b n) q,λb u q n _ _=>#[u.slots,k b u (g b n) q],λb u q n _=>by rw[ag^f b n];exact n,λb u q _=>?_,
  λb p q=>by rw[ag (d b _ q λz=>z)];exact q,λb u p q=>by rw[ag (d b _ q λz=>z)];exact q,λb s q=>#[#[],by rw[ag (d b _ q λz=>z),q];simp]]
 by_cases i:b=e
 .subst i;exact l
 .exact#[u,k b u i q]
end
noncomputable def Wn(h:Heap)(H:Hp):List Addr:=(aj h.objs.size).filter λa=>(H a).isSome
noncomputable def uT(h:Heap)(H:Hp):Heap:=PySem.W.hideAll h^Wn h H
def JS(h:Heap)(H:Hp):(uT h H).objs.size=h.objs.size:=PySem.W.hideAll_size _ _
def NB(e:h.get? b\o)(n:H b=none):(uT h H).get? b\o:=
 PySem.W.hideAll_get _ e λa=>by
  have q:(H b).isSome=true:=(qR.mp a).2;rw[n] at q;simp at q
def RM(e:(uT h H).get? b\o):h.get? b\o/\H b=none:=by
 have a:h.get? b\o:=PySem.W.of_hideAll (Wn h H) e;exists a;cases q:H b with
 |none=>rfl
 |some x=>
  have c:b∈Wn h H:=qR.mpr #[d9.mpr^Da a,by simp[q]]
  have z:(uT h H).get? b=none:=PySem.W.hideAll_none (Wn h H) c;rw[z] at e;cases e
structure Mod (K:ad) (mg:Str->Option Value) (base:Heap):Prop where
 kin:K.In base
 glob:base.Ns mainGlobals mg
 blt:∃mb,base.Ns builtinsNs mb/\∀x:Str,x≠"__name__"->mb x=bootBuiltins x
 nolimit:base.NoLimit
structure Cx where
 prog:Program
 w:World
 K:ad
 mg:Str->Option Value
 base:Heap
 A:Around
 N:List Str
 s₀:Shared
 H₀:Hp
 env:Env
 outer:List Env
 stack:List Env
 ex:List Addr
 fn:Str->Bool
 calm:Bool
 pn:List (Addr×Obj)
 xe:Value->Shared->Prop
noncomputable def uQ(l:List Env):List Addr:=l.filterMap (·.frame)
abbrev Cx.fs(X:Cx):List Addr:=uQ X.outer
def Cc(a:Scope)(x:Str):Prop:=a.names.lookup x\.local\/a.names.lookup x\.cell\/a.names.lookup x\.free
def Loc(a:Scope)(x:Str):Prop:=a.names.lookup x\.local\/a.names.lookup x\.cell
def Look(env:lz)(h:Heap)(m:eg->Option b_)(x:eg)(u:b_):Prop:=
 (env.kindOf x\.local/\m x\u)\/((env.kindOf x\.cell\/env.kindOf x\.free)/\∃c,env.cells.lookup x\c/\h.IsCell c^some u)
structure Cx.Ok (X:Cx):Prop where
 mod:Mod X.K X.mg X.base
 kind:X.env.scope.kind= .function
 glob:X.env.globals=mainGlobals
 blt:X.env.builtins=builtinsNs
 above:X.s₀.heap.objs.size<=X.env.locals
 inj:∀x y c,X.env.cells.lookup x\c->X.env.cells.lookup y\c->x=y
 has:∀x,(X.env.kindOf x\.cell\/X.env.kindOf x\.free)->∃c,X.env.cells.lookup x\c
 cab:∀x c,X.fn x=true->X.env.cells.lookup x\c->X.s₀.heap.objs.size<=c
 hd:X.calm=true->X.A.handled=none
 frames:X.A.frames\X.stack
 stk:X.stack=X.outer\/(X.stack=X.env::X.outer/\X.env.frame\X.env.locals)
 exf:∀b∈X.ex,b≠X.env.locals/\∀x c,X.env.cells.lookup x\c->c≠b
 bs:∀b o,X.base.get? b\o->X.s₀.heap.get? b\o/\X.H₀ b=none
 bsz:X.base.objs.size<=X.s₀.heap.objs.size
 noex:∀b o,X.base.get? b\o->b∉X.ex
 exfs:∀b∈X.ex,b∉X.fs
 funs:X.s₀.heap.FunFrames X.base X.outer
 frf:∀b∈X.fs,X.H₀ b=none
structure Inv (X:Cx) (pins:List (Addr×Obj)) (σ:List^Option V) (H:Hp) (s:c_):Prop where
 ok:X.Ok
 os:s.os=X.s₀.os
 bare:j3 s.gens
 base:Un X.fs X.ex X.H₀ H X.s₀.heap s.heap
 loc:∃m,s.heap.Ns X.env.locals m/\∀(i:Nat)(x:eg)(v:V),X.N[i]?\x->σ[i]?\(some v)->Cc X.env.scope x->∃u,RelV v u/\Look X.env s.heap m x u
 cell:∀x c,X.env.cells.lookup x\c->∃v,s.heap.IsCell c v
 free:H X.env.locals=none
 freeC:∀x c,X.env.cells.lookup x\c->H c=none
 pin:∀p∈X.pn++pins,s.heap.get? p.1\p.2/\H p.1=none/\p.1≠X.env.locals/\p.1∉X.fs/\∀v,p.2.data≠ .cell v
 hok:jj X.prog X.w H s.heap
 len:σ.length=X.N.length
section
variable {X:Cx} {pins:List (Addr×Obj)} {σ:List^Option V} {H H':Hp} {s:c_} {h':Heap}
def Cx.Ok.ab6(ok:X.Ok)(e:X.base.get? b\o):b∉X.fs:=λa=>by
 have:=(ok.funs.mem a).1
 rw[e] at this;cases this
theorem Inv.bs(I:Inv X pins σ H s):∀b o,X.base.get? b\o->s.heap.get? b\o/\H b=none:=λb o e=>
 #[I.base.keep b o (I.ok.bs b o e).1 (I.ok.bs b o e).2 (I.ok.ab6 e)^I.ok.noex b o e,I.base.free b o (I.ok.bs b o e).1 (I.ok.bs b o e).2^I.ok.noex b o e]
def Inv.bk(I:Inv X pins σ H s):∀b o,X.base.get? b\o->s.heap.get? b\o:=λb o e=>(I.bs b o e).1
theorem Inv.mod(I:Inv X pins σ H s):Mod X.K X.mg X.base:=I.ok.mod
def Inv.dE(I:Inv X pins σ H s):X.K.In s.heap:=I.ok.mod.kin.keeps I.bk
theorem Inv.lt(I:Inv X pins σ H s):X.env.locals<s.heap.objs.size:=let #[_,a,_]:=I.loc;a.lt
def Inv.sz(I:Inv X pins σ H s):X.s₀.heap.objs.size<=s.heap.objs.size:=jz I.ok.above^lR I.lt
def Inv.Xp(I:Inv X pins σ H s)(h:s.heap.objs.size<=a):a∉X.fs:=λb=>by
 let⟨d,o,c,e⟩:=I.ok.funs.mem b;exact absurd (dR (Da c)^jz I.sz h)^jy _
def Inv.Js(I:Inv X pins σ H s):∀x c,X.env.cells.lookup x\c->c≠X.env.locals:=λx c e z=>by
 obtain⟨v,o,a,b⟩:=I.cell x c e;obtain⟨m,⟨g,h,i,d,f,_⟩,_⟩:=I.loc;rw[z,d] at a;cases a;rw[f] at b;cases b
theorem Inv.funs(I:Inv X pins σ H s):s.heap.FunFrames X.base X.outer:=by
 have all:∀(l:List lz),(∀b∈uQ l,b∈X.fs)->X.s₀.heap.FunFrames X.base l->s.heap.FunFrames X.base l:=by
  intro l
  induction l with
  |nil=>intro _ _;trivial
  |cons env r g=>
   intro f h;rfl';obtain⟨j,⟨L,o,a,k,m,n⟩,p⟩:=h;have c:L∈X.fs:=f L^by unfold uQ;rw[aeN,a];exact cF
   let⟨t,e⟩:=I.base.slot L o m (I.ok.frf L c) c λz=>I.ok.exfs L z c;ac_rfl;exact#[j,#[L,_,a,k,e,n],g (λb d=>f b^by unfold uQ;rw[aeN,a];exact dS _ d) p]
 exact all X.outer (λ_ d=>d) I.ok.funs
theorem Inv.stack(I:Inv X pins σ H s):s.heap.FunFrames X.base X.stack:=by
 rcases I.ok.stk with e| ⟨e,a⟩
 .rw[e];exact I.funs
 .rw[e]
  let⟨m,b,c⟩:=I.loc;refine .cons (by rw[I.ok.kind];decide) a b ?_ I.funs
  exact Heap.get?_none_of_le^jz I.ok.bsz I.ok.above
def Inv.F6(I:Inv X pins σ H s):∀b∈uQ X.stack,b∈X.env.locals::X.fs:=λb a=>by
 rcases I.ok.stk with e| ⟨e,c⟩
 .rw[e] at a;exact dS _ a
 .rw[e] at a
  unfold uQ at a;rw[aeN,c] at a;exact a
def Inv.Bx(I:Inv X pins σ H s):∀b∈uQ X.stack,H b=none:=λb a=>by
 rcases b7.mp^I.F6 b a with e|a
 .rw[e];exact I.free
 .obtain⟨_,o,c,_⟩:=I.ok.funs.mem a
  exact I.base.free b o c (I.ok.frf b a) λz=>I.ok.exfs b z a
def Inv.step{g':Array GenState}{d':Drawn}{ch:List Addr}(I:Inv X pins σ H s)
  (t:∀b∈ch,(b∈X.ex\/X.s₀.heap.objs.size<=b)/\b≠X.env.locals/\(∀x c,X.env.cells.lookup x\c->c≠b)/\∀p∈X.pn++pins,p.1≠b)
  (keep:∀b o,b≠X.env.locals->b∉X.fs->b∉ch->s.heap.get? b\o->H b=none->h'.get? b\o)
  (slot:∀b o,b≠X.env.locals->b∈X.fs->b∉ch->s.heap.get? b\o->H b=none->∃F,h'.get? b\{o with slots:=F}) (free:∀b o,b∉ch->s.heap.get? b\o->H b=none->H' b=none)
  (there:∀b o,b∉ch->s.heap.get? b\o->∃y,h'.get? b\y)
  (tups:∀b xs,H b\(.tup xs)->H' b\(.tup xs)) (frzs:∀b o u,H b\(.tI o u)->H' b\(.tI o u)) (tbls:∀b E,H b\(.IM E)->∃more,H' b\(.IM (E++more)))
  (O:∀m,s.heap.Ns X.env.locals m->h'.Ns X.env.locals m) (hok:jj X.prog X.w H' h') (P:j3 g'):
  Inv X pins σ H' {s with heap:=h',gens:=g',drawn:=d',toks:=t'}:=by
 have A:∀b o,X.s₀.heap.get? b\o->b≠X.env.locals:=λb o e=>bX^dR (Da e) I.ok.above
 have NT:∀b o,X.s₀.heap.get? b\o->b∉X.ex->b∉ch:=λb o e a h=>by
  rcases(t b h).1 with z|z
  .exact a z
  .exact absurd (dR (Da e) z)^jy _
 have f:∀x c,X.env.cells.lookup x\c->∀v,s.heap.IsCell c v->h'.IsCell c v:=λx c e v #[o,j,G]=>by
  have B:c∉ch:=λz=>(t c z).2.2.1 x c e rfl
  by_cases L:c∈X.fs
  .obtain⟨F,q⟩:=slot c o (I.Js x c e) L B j^I.freeC x c e
   exact#[_,q,G]
  .exact#[o,keep c o (I.Js x c e) L B j^I.freeC x c e,G]
 refine#[I.ok,I.os,P,#[λb o e n h a=>?_,λb o e n h a=>?_,λb o e n a=>?_,λb o e a=>?_,λb xs e=>tups b xs^I.base.tups b xs e,λb o xs e=>frzs b o xs^I.base.frzs b o xs e,λb E e=>?_],?_,λx c e=>?_,?_,λx c e=>?_,λp M=>?_,hok,I.len]
 .exact keep b o (A b o e) h (NT b o e a) (I.base.keep b o e n h a)^I.base.free b o e n a
 .obtain⟨F,g⟩:=I.base.slot b o e n h a
  let⟨J,C⟩:=slot b _ (A b o e) h (NT b o e a) g^I.base.free b o e n a;exact#[J,C]
 .obtain⟨y,g⟩:=I.base.there b o e a
  exact free b y (NT b o e a) g^I.base.free b o e n a
 .obtain⟨y,g⟩:=I.base.there b o e a
  exact there b y (NT b o e a) g
 .obtain⟨m1,g⟩:=I.base.tbls b E e
  let⟨Q,C⟩:=tbls b _ g;exact#[m1++Q,by rw[C,Array.append_assoc]]
 .obtain⟨m,R,S⟩:=I.loc
  refine#[m,O m R,λi x v g C T=>?_];let⟨u,r,l⟩:=S i x v g C T;exists u,r
  rcases l with l| ⟨k,c,e,z⟩
  .exact .inl l
  .exact .inr #[k,c,e,f x c e _ z]
 .obtain⟨v,z⟩:=I.cell x c e
  exact#[v,f x c e v z]
 .obtain⟨m,⟨o,_,_,j,_⟩,_⟩:=I.loc
  exact free _ o (λz=>(t _ z).2.1 rfl) j I.free
 .obtain⟨v,o,j,G⟩:=I.cell x c e
  exact free c o (λz=>(t c z).2.2.1 x c e rfl) j^I.freeC x c e
 .obtain⟨e,n,ne,N,d⟩:=I.pin p M
  have B:p.1∉ch:=λz=>(t p.1 z).2.2.2 p M rfl;exact#[keep p.1 p.2 ne N B e n,free p.1 p.2 B e n,ne,N,d]
theorem Inv.un{t':Nat}(I:Inv X pins σ H s)(u:Un X.fs [] H H' s.heap h')(hok:jj X.prog X.w H' h'):Inv X pins σ H' {s with heap:=h',toks:=t'}:=by
 rfl';obtain⟨m,⟨o,p,q,d,r⟩,_⟩:=id I.loc;let⟨t,h⟩:=u.any d I.free^by simp
 ac_rfl
 exact I.step (g':=s.gens) (d':=s.drawn) (ch:= []) (λ_ z=>nomatch z) (λb o _ c _ e n=>u.keep b o e n c^by simp) (λb o _ c _ e n=>u.slot b o e n c^by simp) (λb o _ e n=>u.free b o e n^by simp) (λb o _ e=>u.there b o e^by simp) u.tups u.frzs u.tbls (λv i=>by
  rfl';let⟨x,j,k,f,l⟩:=i;ac_rfl;rw[d] at f;cases f;exact#[_,j,k,h,l]) hok I.bare
theorem Inv.call{g':Array GenState}{t':Nat}{d':Drawn}{ch:List Addr}(I:Inv X pins σ H s)(u:Un (uQ X.stack) ch H H' s.heap h')(hok:jj X.prog X.w H' h')(j:j3 g')
  (g:∀b∈ch,(b∈X.ex\/X.s₀.heap.objs.size<=b)/\b≠X.env.locals/\(∀x c,X.env.cells.lookup x\c->c≠b)/\∀p∈X.pn++pins,p.1≠b):
  Inv X pins σ H' {s with heap:=h',gens:=g',drawn:=d',toks:=t'}:=by
 rfl';obtain⟨m,⟨o,A,B,h,r⟩,_⟩:=id I.loc;let⟨C,f⟩:=u.any h I.free λz=>(g _ z).2.1 rfl;ac_rfl
 exact I.step (ch:=ch) g (λb o f l a e n=>u.keep b o e n (λz=>(b7.mp^I.F6 b z).elim f l) a) (λb o _ _ a e n=>u.any e n a) (λb o a e n=>u.free b o e n a) (λb o a e=>u.there b o e a) u.tups u.frzs u.tbls (λE q=>by
  rfl';let⟨F,t,v,i,y⟩:=q;ac_rfl;rw[h] at i;cases i;exact#[_,t,v,f,y]) hok j
def Inv.turned{t':Nat}{it:Addr}(I:Inv X pins σ H s)(k:∀b o,b≠it->s.heap.get? b\o->h'.get? b\o)(g:H it=none)(f:it≠X.env.locals)
  (h:it∈X.ex\/X.s₀.heap.objs.size<=it) (i:∀x c,X.env.cells.lookup x\c->c≠it) (j:∀p∈X.pn++pins,p.1≠it):Inv X pins σ H {s with heap:=h',toks:=t'}:=by
 have d:∀b u,H b\u->b≠it:=λb u e z=>by rw[z,g] at e;cases e
 refine I.step (g':=s.gens) (d':=s.drawn) (ch:= [it]) (λb l=>?_) (λb o _ _ a e _=>k b o (λz=>a^by simp[z]) e) (λb o _ _ a e _=>#[o.slots,k b o (λz=>a^by simp[z]) e]) (λ_ _ _ _ n=>n)
  (λb o a e=>#[o,k b o (λz=>a^by simp[z]) e]) (λ_ _ e=>e) (λ_ _ _ e=>e) (λb B e=>#[#[],by rw[e];simp]) (λm t=>?_) (λb u e=>?_) I.bare
 .have e:b=it:=by simpa using l
  subst e;exact#[h,f,i,j]
 .obtain⟨o,w,y,A,r⟩:=t
  exact#[o,w,y,k _ o (Ne.symm f) A,r]
 .refine(I.hok b u e).qE (λc v a q=>k c v ?_ q) (λ_ q=>q) λ_ _ q=>q
  rcases a with z|z
  .rw[z];exact d b u e
  .exact d c _ z
def Inv.tok(I:Inv X pins σ H s)(t:Nat):Inv X pins σ H {s with toks:=t}:=I.un (h':=s.heap) (t':=t) Un.refl I.hok
theorem Inv.kept{t':Nat}(I:Inv X pins σ H s)(k:∀b u,s.heap.get? b\u->h'.get? b\u):Inv X pins σ H {s with heap:=h',toks:=t'}:=I.un (Un.kept k)^I.hok.kept k
theorem Inv.laid{a:Addr}{o:HO}{t':Nat}(I:Inv X pins σ H s)(k:∀b u,s.heap.get? b\u->h'.get? b\u)(c:s.heap.objs.size<=a)(new:cG X.prog X.w (upd H a o) h' a o):
  Inv X pins σ (upd H a o) {s with heap:=h',toks:=t'}:=I.un (Un.laid k c^I.hok.fresh c)^I.hok.laid k c new
theorem Inv.write{x e:Addr}{o:HO}{t':Nat}(I:Inv X pins σ H s)(a:OV^H x)(c:e=x\/H e\(.own x))(k:∀b u,b≠e->s.heap.get? b\u->h'.get? b\u)(d:∃u,h'.get? e\u)
  (new:cG X.prog X.w (upd H x o) h' x o):Inv X pins σ (upd H x o) {s with heap:=h',toks:=t'}:=I.un (Un.write a c k d)^I.hok.write a c k d new
def Inv.vQ(I:Inv X pins σ H s)(h:∀p∈a,s.heap.get? p.1\p.2/\H p.1=none/\p.1≠X.env.locals/\p.1∉X.fs/\∀v,p.2.data≠ .cell v):Inv X a σ H s:=
 #[I.ok,I.os,I.bare,I.base,I.loc,I.cell,I.free,I.freeC,λp b=>(bF.mp b).elim (λz=>I.pin p^fK _ z)^h p,I.hok,I.len]
def D8{N:List eg}(c:N.Nodup){i j:Nat}{x:eg}(a:N[i]?\x)(b:N[j]?\x):i=j:=by
 let⟨f,d⟩:=cD.mp a;let⟨g,e⟩:=cD.mp b;exact(afj c).mp^d.trans e.symm
theorem store_ok2(I:Inv X pins σ H s)(hN:X.N.Nodup)(O:X.N[i]?\x)(B:Loc X.env.scope x)(r:RelV v u)
  (h:∀Y,Inv X pins (σ.set i^some v) H Y->(∃a,Heap.SameBut a s.heap Y.heap/\(a=X.env.locals\/X.env.cells.lookup x\a))->Q ⟨⟩ Y) (hf:X.fn x=true\/X.env.scope.names.lookup x\.local<|>zb):d_ M A (storeName X.env x u) Q E s:=by
 let⟨m,Z,hl⟩:=id I.loc;have QG:(X.env.scope.kind== .class|| (X.env.scope.kind== .module&&X.env.locals !=X.env.globals))=false:=by rw[I.ok.kind];rfl
 have W2:i<σ.length:=by rw[I.len];exact(cD.mp O).1
 have Js:=I.Js
 have g:∀{a:Addr}{L:Heap},(∃o,s.heap.get? a\o/\H a=none)->Heap.SameBut a s.heap L->jj X.prog X.w H L:=λ {a L} ha f b ob e=>by
  let⟨D,K,Fd⟩:=ha;refine(I.hok b ob e).qE (λc S t q=>(f.2 c ?_).trans q) (λ_ q=>q) λ_ _ q=>q;rintro rfl
  rcases t with rfl|t
  .rw[Fd] at e;cases e
  .rw[Fd] at t;cases t
 rcases B with F|F
 .refine wpAny_storeName_local F Z (λL JX f=>?_) QG
  let⟨oL,D,K,Cy,U⟩:=id Z;refine h _ #[I.ok,I.os,I.bare,#[λb o e n G B=>?_,λb o e n G B=>?_,I.base.free,λb o e B=>?_,I.base.tups,I.base.frzs,I.base.tbls],#[_,JX,λj y v' l C e3=>?_],λy c e=>?_,I.free,I.freeC,λp hp=>?_,g #[oL,Cy,I.free] f,by simpa using I.len] #[_,f, .inl rfl]
  .exact(f.2 b^bX^dR (Da e) I.ok.above).trans^I.base.keep b o e n G B
  .obtain⟨sl,l⟩:=I.base.slot b o e n G B
   exact#[sl,(f.2 b^bX^dR (Da e) I.ok.above).trans l]
  .obtain⟨o',l⟩:=I.base.there b o e B
   exact#[o',(f.2 b^bX^dR (Da e) I.ok.above).trans l]
  .by_cases J:j=i
   .subst J
    rw[O] at l;cases l;rw[oZ W2] at C;cases C;exact#[u,r, .inl #[F,by simp]]
   .rw[qO^Ne.symm J] at C
    let⟨u',r',q⟩:=hl j y v' l C e3;exists u',r'
    rcases q with ⟨k,e⟩ | ⟨k,c,e,z⟩
    .refine .inl #[k,?_]
     have:y≠x:=λe=>J^D8 hN l (e▸O)
     simp[this,e]
    .exact .inr #[k,c,e,z.sameBut f^Js y c e]
  .obtain⟨S,z⟩:=I.cell y c e
   exact#[S,z.sameBut f^Js y c e]
  .obtain⟨e,n,ne,nf,d⟩:=I.pin p hp
   exact#[(f.2 p.1 ne).trans e,n,ne,nf,d]
 .have Zd:X.fn x=true:=by
   rcases hf with z|z
   .exact z
   .rw[z] at F;cases F
  let⟨c,t⟩:=I.ok.has x^.inl F;let⟨S,z⟩:=I.cell x c t;refine wpAny_storeName_cell I.ok.kind F t z^λL pz f=>?_;let⟨oc,P,abG⟩:=id z;refine h {s with heap:=L} #[I.ok,I.os,I.bare,#[λb o e n G B=>?_,λb o e n G B=>?_,I.base.free,λb o e B=>?_,I.base.tups,I.base.frzs,I.base.tbls],#[m,Z.sameBut f^Ne.symm^Js x c t,λj y v' l C e3=>?_],λy T e=>?_,I.free,I.freeC,λp hp=>?_,g #[oc,P,I.freeC x c t] f,by simpa using I.len] #[c,f, .inr t]
  .exact(f.2 b^bX^dR (Da e)^I.ok.cab x c Zd t).trans^I.base.keep b o e n G B
  .obtain⟨sl,l⟩:=I.base.slot b o e n G B
   exact#[sl,(f.2 b^bX^dR (Da e)^I.ok.cab x c Zd t).trans l]
  .obtain⟨o',l⟩:=I.base.there b o e B
   exact#[o',(f.2 b^bX^dR (Da e)^I.ok.cab x c Zd t).trans l]
  .by_cases J:j=i
   .subst J
    rw[O] at l;cases l;rw[oZ W2] at C;cases C;exact#[u,r, .inr #[.inl F,c,t,pz]]
   .rw[qO^Ne.symm J] at C
    let⟨u',r',q⟩:=hl j y v' l C e3;exists u',r'
    rcases q with q| ⟨k,T,e,z'⟩
    .exact .inl q
    .refine .inr #[k,T,e,z'.sameBut f ?_]
     rintro rfl;exact J^D8 hN l (I.ok.inj _ _ _ e t▸O)
  .by_cases R:T=c
   .subst R;exact#[_,pz]
   .obtain⟨w2,z2⟩:=I.cell y T e
    exact#[w2,z2.sameBut f R]
  .obtain⟨e,n,ne,nf,d⟩:=I.pin p hp
   refine#[(f.2 p.1 ?_).trans e,n,ne,nf,d];intro q;rw[q,P] at e;have q':oc=p.2:=Fk e;exact d S^by rw[<-q'];exact abG
def nG{x:eg}{v:V}(I:Inv X pins σ H s)(b:X.N.Nodup)(c:X.N[i]?\x)(d:Loc X.env.scope x)(r:RelV v u)
  (h:∀a,Inv X pins (σ.set i^some v) H a->Q ⟨⟩ a) (e:X.fn x=true\/X.env.scope.names.lookup x\.local<|>zb):d_ M A (storeName X.env x u) Q E s:=
 store_ok2 I b c d r (λa f _=>h a f) e
def Inv.Jl{s':Shared}{ch:List Addr}(I:Inv X pins σ H s)(a:s'.os=s.os)(u:Un (uQ X.stack) ch H H' s.heap s'.heap)(hok:jj X.prog X.w H' s'.heap)(d:AllBare s'.gens)
  (f:∀b∈ch,(b∈X.ex\/X.s₀.heap.objs.size<=b)/\b≠X.env.locals/\(∀x c,X.env.cells.lookup x\c->c≠b)/\∀p∈X.pn++pins,p.1≠b):Inv X pins σ H' s':=by
 obtain⟨h,g',d',t',g⟩:=s';have e:g=s.os:=a;subst e;exact I.call (g':=g') (t':=t') (d':=d') u hok d f
end
abbrev XK:=Value->Option Addr->Hp->Prop
abbrev St:=List^Option V
abbrev VK:=V->Hp->Prop
abbrev TE:=St->Hp->VK->Prop
abbrev TT:=St->Hp->(Bool->Hp->Prop)->Prop
abbrev TA:=St->Hp->(List V->Hp->Prop)->Prop
structure Ends where
 nx:St->Hp->Prop
 rt:VK
 bk:St->Hp->Prop:=λ_ _=>False
 ct:St->Hp->Prop:=λ_ _=>False
abbrev TS:=Ends->St->Hp->Prop
def EP(X:Cx)(a:List (Addr×Obj))(c:St)(Q:VK)(u:Value)(d:Shared):Prop:=∃v b,Inv X a c b d/\RelV v u/\Q v b
def TP(X:Cx)(a:List (Addr×Obj))(d:St)(Q:Bool->Hp->Prop)(b:Bool)(e:Shared):Prop:=∃c,Inv X a d c e/\Q b c
def AP(X:Cx)(a:List (Addr×Obj))(d:St)(Q:List V->Hp->Prop)(e:List Value)(f:Shared):Prop:=∃b c,Inv X a d c f/\Vals b e/\Q b c
def SP(X:Cx)(a:List (Addr×Obj))(D:Ends)(f:Flow)(d:Shared):Prop:=
 match f with
 | .next=>∃c b,Inv X a c b d/\D.nx c b
 | .brk=>∃c b,Inv X a c b d/\D.bk c b
 | .cont=>∃c b,Inv X a c b d/\D.ct c b
 | .ret u=>∃v c b,Inv X a c b d/\RelV v u/\D.rt v b
def PE(X:Cx)(e:Expr)(t:TE):Prop:=
 ∀(a:List (Addr×Obj))(s:Shared)(b:St)(H:Hp)(Q:VK),Inv X a b H s->t b H Q->wpAny (model X.prog X.w) X.A (eval e X.env) (EP X a b Q) X.xe s
def PT(X:Cx)(e:fz)(t:TT):Prop:=
 ∀(a:List (Addr×Obj))(s:c_)(b:St)(H:Hp)(Q:Bool->Hp->Prop),Inv X a b H s->t b H Q->d_ (d5 X.prog X.w) X.A (isTrue e X.env^f7 e X.env) (TP X a b Q) X.xe s
def PW(X:Cx)(e:Expr)(t:TT):Prop:=
 ∀(b:Sem Value)(a:List (Addr×Obj))(s:Shared)(c:St)(H:Hp)(Q:Bool->Hp->Prop),Inv X a c H s->t c H Q->wpAny (model X.prog X.w) X.A (isTrue e X.env b) (TP X a c Q) X.xe s
def PW.pt(h:PW X e t):PT X e t:=h _
def PA(X:Cx)(c:List fz)(t:TA):Prop:=
 ∀(pos:jp)(a:List (Addr×Obj))(s:c_)(b:St)(H:Hp)(Q:List V->Hp->Prop),Inv X a b H s->t b H Q->d_ (d5 X.prog X.w) X.A (spliced^gd pos^d4 c X.env) (AP X a b Q) X.xe s
def PS(X:Cx)(st:Stmt)(t:TS):Prop:=
 ∀(a:List (Addr×Obj))(s:Shared)(b:St)(H:Hp)(D:Ends),Inv X a b H s->t D b H->wpAny (model X.prog X.w) X.A (exec st X.env) (SP X a D) X.xe s
def kF(X:Cx)(st:List Stmt)(t:TS):Prop:=
 ∀(a:List (Addr×Obj))(s:Shared)(b:St)(H:Hp)(D:Ends),Inv X a b H s->t D b H->wpAny (model X.prog X.w) X.A (execs st X.env) (SP X a D) X.xe s
def thn{Q c:b->Shared->Prop}(h:wpAny M A t Q E s)(d:∀a s,Q a s->c a s):wpAny M A t c E s:=wpAny_mono h d λ_ _ x=>x
section
variable {X:Cx}
def yP(i:Nat):TE:=λa H Q=>∃v,a[i]?\(some v)/\Q v H
def tC(v:V):TE:=λ_ H Q=>Q v H
def Mo(j:X.N[i]?\x)(k:Cc X.env.scope x)(d:(x==("__debug__":eg))=false<|>zm)(n:(x==("__classdict__":eg))=false<|>zm):PE X (.Name x pos)^yP i:=by
 intro b s o H Q I h;rfl';let⟨v,e,h⟩:=h;let⟨m,q,t⟩:=I.loc;let⟨u,r,l⟩:=t i x v j e k;have fin:EP X b o Q u s:=#[v,H,I,r,h];ac_rfl
 rcases l with ⟨a,w⟩ | ⟨a,c,f,g⟩
 .exact wpAny_Name (wpAny_loadName_local I.ok.kind a q w fin) d
 .rcases a with a|a
  .exact wpAny_Name (wpAny_loadName_cell I.ok.kind a f g fin) d
  .exact wpAny_Name (wpAny_loadName_free I.ok.kind a f g fin n) d
def aX{i j pos}:PE X (.Constant (.int i) j pos)^tC^.int i:=λ_ _ _ H _ I h=>wpAny_Constant_int #[.int i,H,I.tok _,#[_,rfl],h]
def aae{b j pos}:PE X (.Constant (.bool b) j pos)^tC^.bl b:=λ_ _ _ H _ I h=>Constant_bool #[.bl b,H,I,rfl,h]
def VC{j pos}:PE X (.Constant .none j pos)^tC .aS:=λ_ _ _ H _ I h=>Constant_none #[.aS,H,I,rfl,h]
def rM{x j pos}:PE X (.Constant (.str x) j pos)^tC^.str x:=λ_ _ _ H _ I h=>Calls.Constant_str #[.str x,H,I.tok _,#[_,rfl],h]
def Gl(X:Cx)(x:Str):Prop:=X.env.kindOf x\.globalImplicit
def i6(I:Inv X a b H s)(c:Gl X x)(d:X.mg x\u)(h:Q u s)
  (e:(x==("__debug__":Str))=false<|>zm):wpAny (model X.prog X.w) X.A (eval (.Name x pos) X.env) Q E s:=
 ae2 I.ok.kind c (Calls.loadGlobal_global (by rw[I.ok.glob];exact I.mod.glob.keeps I.bk) d h) e
def kK{u:Value}(I:Inv X a b H s)(c:Gl X x)(d:X.mg x=none)(e:bootBuiltins x\u)(h:Q u s)
  (f:x≠"__name__"<|>zm) (g:(x==("__debug__":Str))=false<|>zm):wpAny (model X.prog X.w) X.A (eval (.Name x pos) X.env) Q E s:=by
 obtain⟨k,i,j⟩:=I.mod.blt;exact ae2 I.ok.kind c (Calls.loadGlobal_builtin (by rw[I.ok.glob];exact I.mod.glob.keeps I.bk) d (by rw[I.ok.blt];exact i.keeps I.bk) ((j x f).trans e) h) g
def Sh{v:V}(a:Gl X x)(b:X.mg x\u)(r:RelV v u)(c:(x==("__debug__":eg))=false<|>zm):PE X (.Name x pos)^tC v:=
 λ_ _ _ H _ I h=>i6 I a b #[v,H,I,r,h] c
def Sf(a:Gl X x)(b:X.mg x=none)(c:f8 x\u)(r:RelV v u)(d:x≠"__name__"<|>zm)(e:(x==("__debug__":eg))=false<|>zm):PE X (.Name x pos)^tC v:=
 λ_ _ _ H _ I h=>kK I a b c #[v,H,I,r,h] d e
variable {a b:Expr} {ta tb:TE} {pos:Pos}
def tB(t:TE):TT:=λd H Q=>t d H λx e=>∃c,x= .bl c/\Q c e
def VN(h:PE X e t)(g:(∀c,isTrue e X.env c=(do let v <-c;ie e.pos;gP [v]^truthy v))<|>za):PT X e^tB t:=by
 intro f s i H Q I hw;refine isTrue_plain (thn (h f s i H _ I hw) λv n #[x,j,k,l,m]=>?_)^g _;obtain⟨d,rfl,q⟩:=m;cases l;exact P3 #[j,k,q]
variable {tA F7:TT} {rest:List Expr}
def acz(t u:TT):TT:=λd H Q=>t d H λc e=>if c=true then u d e Q else Q false e
def tOr(t u:TT):TT:=λd H Q=>t d H λc e=>if c=true then Q true e else u d e Q
def acH(t:TT):TT:=λd H Q=>t d H λc e=>Q (!c) e
def Ba(f:PT X a tA):PW X (.BoolOp .And [a] pos) tA:=by
 intro i d s g H Q I h;refine isTrue_and (thn (f d s g H Q I h) λc j e=>?_);cases c with
 |true=>exact isTrue_and_nil e
 |false=>exact e
def VO(f:PT X a tA):PW X (.BoolOp .Or [a] pos) tA:=by
 intro i d s g H Q I h;refine isTrue_or (thn (f d s g H Q I h) λc j e=>?_);cases c with
 |false=>exact isTrue_or_nil e
 |true=>exact e
def FT(j:PT X a tA)(k:PW X (.BoolOp .And (b::rest) pos) F7):PW X (.BoolOp .And (a::b::rest) pos)^acz tA F7:=by
 intro l d s e H Q I h;refine isTrue_and (thn (j d s e H _ I h) λc m #[f,g,i]=>?_);cases c with
 |true=>exact k l d m e f Q g i
 |false=>exact#[f,g,i]
def aak(j:PT X a tA)(k:PW X (.BoolOp .Or (b::rest) pos) F7):PW X (.BoolOp .Or (a::b::rest) pos)^tOr tA F7:=by
 intro l d s e H Q I h;refine isTrue_or (thn (j d s e H _ I h) λc m #[f,g,i]=>?_);cases c with
 |true=>exact#[f,g,i]
 |false=>exact k l d m e f Q g i
def Mp(e:PT X a tA):PT X (.UnaryOp .Not a pos)^acH tA:=by
 intro d s f H Q I h;exact isTrue_not^e d s f H (λc g=>Q (!c) g) I h
def aap(f g:TE):TE:=λd H Q=>f d H λx e=>∃c,x= .bl c/\if c=true then g d e Q else Q (.bl false) e
def acI(f g:TE):TE:=λd H Q=>f d H λx e=>∃c,x= .bl c/\if c=true then Q (.bl true) e else g d e Q
def aav(d:TE):TE:=λe H Q=>d e H λx f=>∃c,x= .bl c/\Q (.bl (!c)) f
def VE{op}(h:PE X a t):PE X (.BoolOp op [a] pos) t:=λc s d H Q I hw=>BoolOp_one^h c s d H Q I hw
def Vw(j:PE X a ta)(k:PE X (.BoolOp .And (b::rest) pos) tb):PE X (.BoolOp .And (a::b::rest) pos)^aap ta tb:=by
 intro d s f H Q I h;refine BoolOp_and (thn (j d s f H _ I h) λv l m=>?_);rfl';let⟨x,g,i,o,e⟩:=m;let⟨c,rfl,e⟩:=e;ac_rfl;subst o;refine P3 ?_;cases c with
 |true=>exact k d l f g Q i e
 |false=>exact#[.bl false,g,i,rfl,e]
def aag(j:PE X a ta)(k:PE X (.BoolOp .Or (b::rest) pos) tb):PE X (.BoolOp .Or (a::b::rest) pos)^acI ta tb:=by
 intro d s f H Q I h;refine BoolOp_or (thn (j d s f H _ I h) λv l m=>?_);rfl';let⟨x,g,i,o,e⟩:=m;let⟨c,rfl,e⟩:=e;ac_rfl;subst o;refine P3 ?_;cases c with
 |false=>exact k d l f g Q i e
 |true=>exact#[.bl true,g,i,rfl,e]
def VD(f:PE X a ta):PE X (.UnaryOp .Not a pos)^aav ta:=by
 intro d s g H Q I h;refine UnaryOp_ (thn (f d s g H _ I h) λv n i=>?_);rfl';let⟨x,k,l,m,e⟩:=i;let⟨c,rfl,e⟩:=e;ac_rfl;subst m;exact not_of^P3 #[.bl (!c),k,l,rfl,e]
def tIf(t:TT)(f g:TE):TE:=λd H Q=>t d H λc e=>if c=true then f d e Q else g d e Q
def N7(l:PT X c tA)(m:PE X a ta)(n:PE X b tb):PE X (.IfExp c a b pos)^tIf tA ta tb:=by
 intro e s f H Q I h;refine wpAny_IfExp (thn (l e s f H _ I h) λd g #[i,j,k]=>?_);cases d with
 |true=>exact m e g f i Q j k
 |false=>exact n e g f i Q j k
end
def aK(K:ad)(H:Hp)(a:Addr)(xs:List V):Prop:=
 Rd H a^.lst xs\/
  ∃(o:Obj)(b:Array b_)(n:Nat),K.lookup a\o/\o.cls= .type "list"/\o.dict=none/\o.data= .seq b n/\b.size<=sizeLine/\Vals xs b.toList
def fW(K:ad)(H:Hp)(a:Addr)(c:List V):Prop:=
 Rd H a^.tup c\/
  ∃(o:Obj)(b:Array b_)(n:Nat),K.lookup a\o/\o.cls= .type "tuple"/\o.data= .seq b n/\b.size<=sizeLine/\Vals c b.toList
noncomputable def aaO:b_->Option V
 | .none=>some .aS
 | .bool b=>some^.bl b
 | .int i _=>some^.int i
 | .str x _=>some^.str x
 | .bytes b _=>some^.zc b
 | .float b _=>some^.JD b
 | .ref a=>some^.ref a
 | .type n=>some^.ty n
 |_=>none
def RelV.abs{x:V}{u:Value}(r:RelV x u):aaO u\x:=by
 cases x with
 |aS=>cases r;rfl
 |bl _=>cases r;rfl
 |int _=>obtain⟨t,rfl⟩:=r;rfl
 |str _=>obtain⟨t,rfl⟩:=r;rfl
 |zc _=>obtain⟨t,rfl⟩:=r;rfl
 |JD _=>obtain⟨t,rfl⟩:=r;rfl
 |ref _=>cases r;rfl
 |ty _=>cases r;rfl
def RelV.inj{x y:V}(r:RelV x u)(q:RelV y u):x=y:=Fk^r.abs.symm.trans q.abs
theorem Vals.inj:∀{a b:List V}{c:List Value},Vals a c->Vals b c->a=b
 |_,_,_, .nil, .nil=>rfl
 |_,_,_, .cons r t, .cons d e=>by rw[r.inj d,Vals.inj t e]
section
variable {X:Cx} {pins:List (Addr×Obj)} {σ:St} {H:Hp} {s:Shared} {a:Addr} {xs ys:List V}
def aK.of{K:ad}(h:H a\(.lst xs)):aK K H a xs:= .inl^.inl h
def fW.of{K:ad}(h:H a\(.tup xs)):fW K H a xs:= .inl^.inl h
def Inv.list(I:Inv X pins σ H s)(h:aK X.K H a xs):∃its:List Value,Vals xs its/\PlainL s.heap a its.toArray/\xs.length<=sizeLine:=by
 rcases h with h| ⟨o,its,n,b,c,d,f,g,r⟩
 .obtain⟨z,its,n,r,e⟩:=h.ok I.hok
  exact#[its,r,#[_,n,e,rfl,rfl,rfl],z]
 .refine#[its.toList,r,#[o,n,I.dE a o b,c,d,by simpa using f],?_]
  have e:=r.length;simp only[dj] at e;lia
def Inv.tuple(I:Inv X pins σ H s)(h:fW X.K H a xs):∃its:List Value,Vals xs its/\IsTup s.heap a its.toArray/\xs.length<=sizeLine:=by
 rcases h with h| ⟨o,its,n,b,c,d,f,r⟩
 .obtain⟨z,its,r,p⟩:=h.ok I.hok
  exact#[its,r,p,z]
 .refine#[its.toList,r,#[o,I.dE a o b,c,n,by simpa using d],?_]
  have e:=r.length;simp only[dj] at e;lia
def Inv.D5(I:Inv X pins σ H s)(h:aK X.K H a xs)(h':aK X.K H a ys):xs=ys:=by
 rfl';obtain⟨c,r,⟨o,n,e,_,_,d⟩,_⟩:=I.list h;obtain⟨b,j,⟨m,p,f,_,_,g⟩,_⟩:=I.list h';ac_rfl;rw[e] at f;cases f;rw[d] at g
 injection g with k _
 have:c=b:=by simpa using IR Array.toList k
 subst this;exact r.inj j
end
abbrev Cx.sS(X:Cx)(E:Value->Shared->Prop):Cx:={X with xe:=E}
abbrev Cx.mJ(X:Cx):Cx:=X.sS λ_ _=>False
theorem Cx.Ok.sS{X:Cx}(ok:X.Ok)(E:Value->Shared->Prop):(X.sS E).Ok:=
 #[ok.mod,ok.kind,ok.glob,ok.blt,ok.above,ok.inj,ok.has,ok.cab,ok.hd,ok.frames,ok.stk,ok.exf,ok.bs,ok.bsz,ok.noex,ok.exfs,ok.funs,ok.frf]
def Cx.Ok.mz{X:Cx}(ok:(X.sS E).Ok):X.Ok:=
 #[ok.mod,ok.kind,ok.glob,ok.blt,ok.above,ok.inj,ok.has,ok.cab,ok.hd,ok.frames,ok.stk,ok.exf,ok.bs,ok.bsz,ok.noex,ok.exfs,ok.funs,ok.frf]
section
variable {X:Cx} {pins:List (Addr×Obj)} {σ:St} {H:Hp} {s:Shared} {E:Value->Shared->Prop}
theorem Inv.sS(I:Inv X pins σ H s)(E:Value->Shared->Prop):Inv (X.sS E) pins σ H s:=#[I.ok.sS E,I.os,I.bare,I.base,I.loc,I.cell,I.free,I.freeC,I.pin,I.hok,I.len]
theorem Inv.mz(I:Inv (X.sS E) pins σ H s):Inv X pins σ H s:=#[I.ok.mz,I.os,I.bare,I.base,I.loc,I.cell,I.free,I.freeC,I.pin,I.hok,I.len]
theorem SP.mz{D:Ends}{f:Flow}{s':Shared}(h:SP (X.sS E) pins D f s'):SP X pins D f s':=by
 cases f with
 |next=>obtain⟨ay,H',I,q⟩:=h;exact#[ay,H',I.mz,q]
 |brk=>obtain⟨ay,H',I,q⟩:=h;exact#[ay,H',I.mz,q]
 |cont=>obtain⟨ay,H',I,q⟩:=h;exact#[ay,H',I.mz,q]
 |ret u=>obtain⟨v,ay,H',I,r,q⟩:=h;exact#[v,ay,H',I.mz,r,q]
theorem kF.mJ{st:List Stmt}{t:TS}(h:kF X.mJ st t):kF X st t:=λa s b H D I hw=>
 wpAny_mono (h a s b H D (I.sS _) hw) (λ_ _ q=>q.mz) λ_ _ z=>False.elim z
end
section
variable {X:Cx} {st:Stmt} {rest:List Stmt} {t u:TS} {e:Expr} {te:TE} {pos:Pos}
def aau:TS:=λD a H=>D.nx a H
def Tu(t u:TS):TS:=λD a H=>t {D with nx:=u D} a H
def qj:kF X [] aau:=λ_ _ a H _ I h=>aeA #[a,H,I,h]
def aG(h1:PS X st t)(h2:kF X rest u):kF X (st::rest)^Tu t u:=by
 intro pins s σ H D I h;refine wpAny_execs_cons (thn (h1 pins s σ H {D with nx:=u D} I h) λf s1 q=>?_)
 cases f with
 |next=>
  let⟨ay,H',I',q⟩:=q;exact h2 pins s1 ay H' D I' q
 |ret v=>exact q
 |brk=>exact q
 |cont=>exact q
def bo(h1:PS X st t):kF X [st] t:=by
 intro pins s σ H D I h;refine wpAny_execs_cons (thn (h1 pins s σ H D I h) λf s1 q=>?_);cases f with
 |next=>exact wpAny_execs_nil q
 |ret v=>exact q
 |brk=>exact q
 |cont=>exact q
def Inv.quiet(I:Inv X a b H s):interactive X.env=false:=by simp[interactive,I.ok.kind]
def aas(b:TE):TS:=λD a H=>b a H λ_ c=>D.nx a c
def dY(c:PE X e te)(d:gs e none pos.line X.env=pure false<|>zn):PS X (.Expr e pos)^aas te:=by
 intro a s b H D I h;exact wpAny_Expr_any (thn (c a s b H _ I h) λv j #[x,f,g,k,i]=>#[b,f,g,i]) I.quiet d
def XO(a:TE):TS:=λD b H=>a b H D.rt
def iB(c:PE X e te):PS X (.Return (some e) pos)^XO te:=by
 intro a s b H D I h;exact wpAny_Return_some (thn (c a s b H _ I h) λv j #[x,d,f,g,i]=>#[x,b,d,f,g,i])
def acF(c:TT)(t u:TS):TS:=λD a H=>c a H λb d=>if b=true then t D a d else u D a d
def A7(m:PT X c tc)(n:kF X a t)(o:kF X b u):PS X (.If c a b pos)^acF tc t u:=by
 intro f s g H D I h;refine wpAny_If (thn (m f s g H _ I h) λd i #[j,k,l]=>?_);cases d with
 |true=>exact n f i g j D k l
 |false=>exact o f i g j D k l
def MH:TS:=λ_ _ _=>False
def Of:PS X st MH:=λ_ _ _ _ _ _ h=>h.elim
def KQ:kF X a MH:=λ_ _ _ _ _ _ h=>h.elim
end
abbrev TG:=V->St->Hp->(St->Hp->Prop)->Prop
abbrev Cb:=List V->St->Hp->(St->Hp->Prop)->Prop
def PG(X:Cx)(a:Expr)(t:TG):Prop:=
 ∀(b:List (Addr×Obj))(s:Shared)(c:St)(H:Hp)(v:V)(u:Value)(Q:St->Hp->Prop),Inv X b c H s->RelV v u->t v c H Q->
  wpAny (model X.prog X.w) X.A (assign a X.env u) (λ_ f=>∃d e,Inv X b d e f/\Q d e) X.xe s
def EH(X:Cx)(g:List Expr)(t:Cb):Prop:=
 ∀(a:List (Addr×Obj))(s:Shared)(b:St)(H:Hp)(c:List V)(d:List Value)(Q:St->Hp->Prop),Inv X a b H s->Vals c d->t c b H Q->
  wpAny (model X.prog X.w) X.A (assignInOrder ((assignEach g X.env).map (·.2)) d) (λ_ h=>∃e f,Inv X a e f h/\Q e f) X.xe s
abbrev O2:=V->V->V->Hp->(Hp->Prop)->Prop
def WC(X:Cx)(t:O2):Prop:=
 ∀(a:List (Addr×Obj))(s:Shared)(b:St)(H:Hp)(o i v:V)(c d u:Value)(Q:Hp->Prop),Inv X a b H s->RelV o c->RelV i d->RelV v u->t o i v H Q->
  wpAny (model X.prog X.w) X.A (setItem c d u) (λ_ f=>∃e,Inv X a b e f/\Q e) X.xe s
section
variable {X:Cx} {pos:Pos}
def Am(i:Nat):TG:=λv a H Q=>Q (a.set i^some v) H
def cH{i:Nat}(b:X.N.Nodup)(c:X.N[i]?\x)(d:Loc X.env.scope x)(e:X.fn x=true\/X.env.scope.names.lookup x\.local<|>zb):PG X (.Name x pos)^Am i:=by
 intro a s g H v u Q I r h;exact wpAny_assign_Name^nG I b c d r (λj f=>#[_,H,f,h]) e
def abk:Cb:=λa b H Q=>a= []/\Q b H
def YF(t:TG)(u:Cb):Cb:=λa b H Q=>∃v r,a=v::r/\t v b H λc d=>u r c d Q
def nv:EH X [] abk:=by
 intro a s b H c d Q I r h;obtain⟨e,h⟩:=h;subst e;cases r;exact assignInOrder_nil #[b,H,I,h]
theorem f9(c:PG X e t)(d:EH X b u)
  (f:(gl (e::b) X.env).map (·.2)=jq e X.env::(gl b X.env).map (·.2)<|>zn):EH X (e::b)^YF t u:=by
 intro a s g H w x Q I r h;let⟨v,y,i,h⟩:=h;subst i;cases r with
 |cons r j=>
  rw[f];refine aeV (thn (c a s g H _ _ _ I r h) λ_ k l=>?_);rfl';let⟨n,o,p,q⟩:=l;ac_rfl;exact d a k n o _ _ Q p j q
def abl(K:ad)(n:Nat)(t:Cb):TG:=λv c H Q=>∃a b,v= .ref a/\fW K H a b/\b.length=n/\t b c H Q
def rN(i:X.calm=true)(h:EH X d t)
  (j:(gl d X.env).length=n<|>zn) (l:(gl d X.env).findIdx? (·.1)=none<|>zn):PG X (.Tuple d k pos)^abl X.K n t:=by
 intro c s f H v u Q I r hw;rfl';let⟨a,p,q,w,x,hw⟩:=hw;subst q;subst r;let⟨y,g,z,F⟩:=I.tuple w;ac_rfl;refine assign_Tuple_tuple (I.ok.hd i) z (by simp[j,<-x,g.length]) l λA B=>?_
 have C:Inv X c f H {s with heap:=A}:=I.kept (t':=s.toks) λb o e=>B b o (bX^Da e) e
 exact h c _ f H p _ Q C (g) hw
def WY(b c:TE)(t:O2):TG:=λv a H Q=>b a H λo d=>c a d λi e=>t o i v e λf=>Q a f
def FP(l:PE X o g)(m:PE X i j)(n:WC X t)
  (p:(∀v,jq (.Subscript o i pos) X.env v=(do
   let b <-gP [v]^f7 o X.env
   let c <-gP [v,b] (f7 i X.env)
   ie pos
   gP [v,b,c] (setItem b c v)
   release [v,b,c] []))<|>za):PG X (.Subscript o i pos)^WY g j t:=by
 intro a s f H v u Q I r h;rw[p];refine a_^On (thn (l a s f H _ I h) λb q d=>?_);rfl';obtain⟨x,w,z,A,B⟩:=d;ac_rfl;refine a_^On (thn (m a q f w _ z B) λc C d=>?_);rfl';obtain⟨y,E,F,G,J⟩:=d;ac_rfl;refine a_^adn^a_^On (thn (n a C f E x y v b c u _ F A G r J) λ_ O d=>?_);rfl';obtain⟨L,M,N⟩:=d;ac_rfl;exact wpAny_release #[f,L,M,N]
def MF(b:TE)(g:TG):TS:=λD a H=>b a H λx c=>g x a c D.nx
def rP(f:PE X e c)(i:PG X b g)(j:js [b] e pos.line X.env=pure false<|>zn)(hw:jt [b] e X.env=pure none<|>zn)
  (k:(gl [b] X.env).map (·.2)= [jq b X.env]<|>zn):PS X (.Assign [b] e pos)^MF c g:=by
 intro a s d H D I h;refine wpAny_Assign_stores (thn (f a s d H _ I h) λv l #[x,m,n,o,p]=>?_) j hw;rw[k];exact thn (i a l d m x v _ n o p) λ_ r q=>q
def ck{i:Nat}(d:X.N.Nodup)(f:X.N[i]?\x)(g:Loc X.env.scope x)(j:PE X e c)(k:gs e (some^.Name x a) pos.line X.env=pure false<|>zn)(l:X.fn x=true\/X.env.scope.names.lookup x\.local<|>zb):
  PS X (.Assign [.Name x a] e pos)^MF c^Am i:=by
 intro b s m H D I h;refine wpAny_Assign_Name (thn (j b s m H _ I h) λv t #[y,n,o,p,q]=>?_) k;exact nG o d f g p (λu r=>#[_,n,r,q]) l
def acJ(i j:Nat)(b:TA):TS:=λD a H=>b a H λc d=>∃v w,c= [v,w]/\D.nx ((a.set i^some v).set j^some w) d
theorem VL{kt k2 KR}(C:X.calm=true)(n:X.N.Nodup)(E:X.N[i]?\x)(F:X.N[j]?\y)(G:i≠j)
  (r:X.env.scope.names.lookup x\.local) (t:X.env.scope.names.lookup y\.local) (J:PA X [a,b] m)
  (hw:jt [.Tuple [.Name x k, .Name y py] kt pt] (.Tuple [a,b] k2 KR) X.env=pure^some [x,y])
  (L:js [.Tuple [.Name x k, .Name y py] kt pt] (.Tuple [a,b] k2 KR) pos.line X.env=pure false<|>zn):
  PS X (.Assign [.Tuple [.Name x k, .Name y py] kt pt] (.Tuple [a,b] k2 KR) pos)^acJ i j m:=by
 intro c s u H D I h;rw[exec_Assign_arm];refine a_^adn ?_;rw[L];refine a_^tz ?_;rw[mo ∅]
 refine a_^Tuple_ (thn (J _ c s u H _ I h) λM d O=>?_);obtain⟨vs,z,P,Q,l⟩:=O;obtain⟨v,w,R,l⟩:=l;subst R
 obtain⟨f,g,rfl,S,T⟩:∃f g,M= [f,g]/\RelV v f/\RelV w g:=by
  cases Q with
  |cons p q=>
   cases q with
   |cons Y Z=>
    cases Z;exact#[_,_,rfl,p,Y]
 refine adw ?_^by show 2<=sizeLine;decide
 have I2:Inv X c u z {d with heap:=d.heap.push {cls:= .type "tuple",data:= .seq [f,g].toArray}}:=P.kept (t':=d.toks) λb o e=>AC _ e
 rw[hw];refine a_^tz ?_;show d_ (d5 X.prog X.w) X.A (do rule "assign.swapped-stores";let items <-unpackItems (.ref d.heap.objs.size) 2 none;assignInOrder [λv=>bindName X.env y v,λv=>bindName X.env x v] items.reverse;pure Flow.next) _ _ _
 refine a_^adI^a_ (unpackItems_tuple (items:= [f,g].toArray) (I.ok.hd C) (IsTup.new d.heap _) λh' uV=>?_);have I3:=I2.kept (h':=h') (t':=d.toks) λb o e=>uV b o (bX^Da e) e;show d_ _ _ (assignInOrder [λv=>bindName X.env y v,λv=>bindName X.env x v] [g,f]>>=λ_=>pure Flow.next) _ _ _;refine a_^aeV^wpAny_bindName^nG I3 n F (.inl t) T (λs2 I4=>?_)^.inr t;refine aeV^wpAny_bindName^nG I4 n E (.inl r) S (λs3 B=>assignInOrder_nil^tz ?_)^.inr r;rw[List.set_comm _ _^Ne.symm G] at B;exact#[_,z,B,l]
end
section
variable {X:Cx} {pos:Pos}
def MK(c:TT)(h:TS):TS:=λD a H=>∃W:Nat->St->Hp->Prop,(∃m,W m a H)/\∀m a H,W m a H->
 c a H λb d=>if b=true then ∃N:St->Hp->Prop,(∀e f,N e f->∃g,g<m/\W g e f)/\h {D with nx:=N,ct:=N,bk:=D.nx} a d else D.nx a d
def Ed{c:fz}{body:List Stmt}{tc:TT}{tb:TS}(hp:PassesOwn (d5 X.prog X.w) X.A X.env X.xe)(hc:PT X c tc)(hb:kF X body tb):PS X (.While c body [] pos)^MK tc tb:=by
 intro pins s σ H D I h;obtain⟨W,⟨m0,w0⟩,turn⟩:=h;refine wpAny_While^codeAny_whileLoop (λn s'=>∃ay H',Inv X pins ay H' s'/\W n ay H') ?_ m0 #[σ,H,I,w0];intro n s1 z20;rfl';let⟨LK,H1,I1,w1⟩:=z20;ac_rfl;refine wpAny_passesOwn hp (thn (hc pins s1 LK H1 _ I1^turn n LK H1 w1) λb s2 aT=>?_);rfl';let⟨H2,I2,q2⟩:=aT;ac_rfl;cases b with
 |true=>
  rfl';let⟨N,hN,q2⟩:=q2;ac_rfl;rw[if_pos rfl];refine wpAny_passesOwn hp (thn (hb pins s2 LK H2 _ I2 q2) λf s3 q3=>?_);cases f with
  |next=>
   let⟨zB,H3,I3,n3⟩:=q3;let⟨m',hm,w3⟩:=hN zB H3 n3;exact#[m',hm,zB,H3,I3,w3]
  |cont=>
   let⟨zB,H3,I3,n3⟩:=q3;let⟨m',hm,w3⟩:=hN zB H3 n3;exact#[m',hm,zB,H3,I3,w3]
  |brk=>exact q3
  |ret v=>exact q3
 |false=>
  rw[if_neg dZ];exact wpAny_execs_nil #[LK,H2,I2,q2]
end
structure It where
 go:Nat->Hp->Prop
 yld:Nat->Hp->V->Hp->Prop
 stop:Nat->Hp->Prop
def fN(X:Cx)(a:List (Addr×Obj))(H:Hp)(b:Addr):Prop:=
 H b=none/\b≠X.env.locals/\b∉X.fs/\(b∈X.ex\/X.s₀.heap.objs.size<=b)/\(∀x c,X.env.cells.lookup x\c->c≠b)/\∀p∈X.pn++a,p.1≠b
def Inv.Qe(I:Inv X a g H s)(d:s.heap.objs.size<=b)(h:f b=none):fN X a f b:=by
 refine#[h,jY^dR I.lt d,I.Xp d, .inr^jz I.sz d,λx c e z=>?_,λp i z=>?_]
 .obtain⟨v,q⟩:=I.cell x c e
  exact absurd (dR q.lt^by rw[z];exact d)^jy _
 .exact absurd (dR (Da (I.pin p i).1)^by rw[z];exact d)^jy _
structure Turn (P:ee) (w:ei) (K:ad) (tg:fz) (J:It) (fp:List Addr) (it:Addr) (tn:Nat->Heap->Prop):Prop where
 mem:it∈fp
 obj:∀i h,tn i h->∀b∈fp,∃o,h.get? b\o/\∀v,o.data≠ .cell v
 keep:∀i h h',tn i h->(∀b∈fp,∀o,h.get? b\o->h'.get? b\o)->tn i h'
 item:∀(X:Cx),X.prog=P->X.w=w->X.K=K->X.calm=true->∀(i:Nat)(pins:List (Addr×Obj))(s:c_)(σ:St)(H:Hp)(E:b_->c_->Prop),Inv X pins σ H s->(∀b∈fp,fN X pins H b)->tn i s.heap->J.go i H->
  d_ (d5 P w) X.A (lr^.ref it) (λr s1=>∃u,r\u/\
   d_ (d5 P w) X.A (iq tg (.ref it) u) (λ_ s2=>∃x H',Inv X pins σ H' s2/\RelV x u/\J.yld i H x H'/\tn (i+1) s2.heap/\∀b∈fp,H' b=none) E s1) E s
 done:∀(X:Cx),X.prog=P->X.w=w->X.K=K->X.calm=true->∀(i:Nat)(pins:List (Addr×Obj))(s:c_)(σ:St)(H:Hp)(E:b_->c_->Prop),Inv X pins σ H s->(∀b∈fp,fN X pins H b)->tn i s.heap->J.stop i H->
  d_ (d5 P w) X.A (lr^.ref it) (λr s1=>r=none/\Inv X pins σ H s1) E s
 self:∀(A:f5)(i:Nat)(s:c_)(Q:b_->c_->Prop)(E:b_->c_->Prop),tn i s.heap->Q (.ref it) s->d_ (d5 P w) A (pyIter^.ref it) Q E s
abbrev TI:=St->Hp->(It->Hp->Prop)->Prop
def PIE(X:Cx)(a:List (Addr×Obj))(h:St)(i:Expr)(R:It->Hp->Prop)(j:Value)(d:Shared):Prop:=
 ∃(e:Addr)(f:List Addr)(g:Nat->Heap->Prop)(J:It)(c:Hp),j= .ref e/\Inv X a h c d/\Turn X.prog X.w X.K i J f e g/\g 0 d.heap/\(∀b∈f,fN X a c b)/\R J c
def PI(X:Cx)(c iter:Expr)(d:TI):Prop:=
 ∀(a:List (Addr×Obj))(s:Shared)(b:St)(H:Hp)(R:It->Hp->Prop),Inv X a b H s->d b H R->
  wpAny (model X.prog X.w) X.A (eval iter X.env) (λv e=>wpAny (model X.prog X.w) X.A (pyIter v) (PIE X a b c R) X.xe e) X.xe s
theorem Qo{M:Model}{A:f5}{E:b_->c_->Prop}{s:c_}{b:fz}{c:Addr}{u:b_}{o:Obj}{n:String}{d:Array b_}{Q:Unit->c_->Prop}(e:s.heap.get? c\o)(f:o.cls= .type n)(g:o.data= .fields d)
  (i: ["enumerate","zip","dict_itemiterator","dict_reverseitemiterator","odict_iterator","itertools.zip_longest","itertools.pairwise"].contains n=false) (a:Q ⟨⟩ s):d_ M A (iq b (.ref c) u) Q E s:=by
 unfold iq
 cases b<;>first
  |exact fQ a
  | (cases u<;>first
    |exact fQ a
    | (refine a_^wpAny_load e ?_
       rw[f,g];show d_ M A (if (["enumerate","zip","dict_itemiterator","dict_reverseitemiterator","odict_iterator","itertools.zip_longest","itertools.pairwise"].contains n&&d[0]? ==some^kI _)=true then _ else _) Q E s;rw[if_neg^by intro h;rw[i,Bool.false_and] at h;cases h]
       exact fQ a))
noncomputable def MT(K:ad)(a:Addr):It:=
 #[λi H=>∃b x,aK K H a b/\b[i]?\x,λi H x c=>c=H/\∀b,aK K H a b->b[i]?\x,λi H=>∃b,aK K H a b/\b.length<=i]
def GI(lo:Int)(n:Nat):It:=#[λi _=>i<n,λi H x a=>a=H/\x= .int (lo+i),λi _=>n<=i]
theorem Ll{P:ee}{w:ei}{K:ad}{R:fz}(a g:Addr):Turn P w K R (MT K a) [g] g (λi h=>h.IsListIter g a i) where
 mem:=by simp
 obj:=λi h st b j=>by
  have e:b=g:=by simpa using j
  subst e;let⟨o,e,c,d⟩:=st;exact#[o,e,λv z=>by rw[d] at z;cases z]
 keep:=λi h l st k=>st.at λo e=>k g (by simp) o e
 item:=by
  intro X q hw r N i f s O H E I m st t;rfl';subst q hw r;let⟨T,x,n,A⟩:=t;let⟨B,C,p,Y⟩:=I.list n;let⟨u,Z,ru⟩:=C.get A;let⟨F,G,f2,J,L,M⟩:=m g^by simp
  ac_rfl;refine wpAny_pyNext_list_item st p.isList (x:=u) (~~~Z) λl Q sb=>?_
  have I1:Inv X f O H {s with heap:=l}:=I.turned (t':=s.toks) (λb o j e=>(sb.2 b j).trans e) F G J L M
  let⟨o,e,c,d⟩:=id Q;exact#[u,rfl,Qo (s:={s with heap:=l}) e c d ∅ #[x,H,I1,ru,#[rfl,λys hy=>by rw[I.D5 hy n];exact A],Q,λb j=>(m b j).1]]
 done:=by
  intro X q hw r N i f s O H E I m st t;rfl';subst q hw r;let⟨T,n,A⟩:=t;let⟨B,C,p,Y⟩:=I.list n;let⟨F,G,f2,J,L,M⟩:=m g^by simp
  have hl:=C.length;ac_rfl;exact wpAny_pyNext_list_end (I.ok.hd N) st p.isList (by simp;lia) λl eb=>#[rfl,I.turned (t':=s.toks) (λb o j e=>eb b o j e) F G J L M]
 self:=λ_ _ _ _ _ st h=>wpAny_pyIter_listiter st h
def jV{P:ee}{w:ei}{K:ad}{G:fz}(a:Addr)(lo:Int)(n:Nat):Turn P w K G (GI lo n) [a] a (λi h=>IsRangeIter h a (lo+(i:Nat)*1) ((n:Int)-(i:Nat)) 1) where
 mem:=by simp
 obj:=λi h st b d=>by
  have e:b=a:=by simpa using d
  subst e
  exact#[_,st,λv z=>by
   have J:Data.fields _=Data.cell v:=z;cases J]
 keep:=λi h f st k=>k a (by simp) _ st
 item:=by
  intro X j hw l m i c s B H E I g st p;subst j hw l;rfl';let⟨r,u,M,x,y,A⟩:=g a^by simp
  ac_rfl;have W:=Walks.range (prog:=X.prog) (w:=X.w) (I.ok.hd m) a lo 1 n;refine W.item i s _ _ p st λv f C N F O=>?_;let⟨t,rfl⟩:=N;have Q:Inv X c B H {s with heap:=f,toks:=C}:=I.turned (λb o d e=>O b o (~~~d) e) r u x y A
  refine#[_,rfl,Qo (s:={s with heap:=f,toks:=C}) (n:="range_iterator") F rfl rfl ∅ #[.int (lo+i),H,Q,#[t,?_],#[rfl,rfl],F,λb d=>(g b d).1]]
  rw[Int.mul_one]
 done:=by
  intro X j hw l m i c s B H E I g st p;subst j hw l;rfl';let⟨r,u,M,x,y,A⟩:=g a^by simp
  ac_rfl;exact wpAny_pyNext_range_end (I.ok.hd m) st (by have:n<=i:=p;lia) λf R=>#[rfl,I.turned (t':=s.toks) (λb o d e=>R b o d e) r u x y A]
 self:=λ_ _ _ _ _ st h=>wpAny_pyIter_rangeiter st h
section
variable {X:Cx} {tg:Expr}
def ZI(K:ad)(c:TE):TI:=λd H R=>c d H λx b=>∃a,x= .ref a/\(∃e,aK K b a e)/\R (MT K a) b
def lG{i:TE}(j:PE X l i):PI X tg l^ZI X.K i:=by
 intro c s k H R I h;refine thn (j c s k H _ I h) λv d m=>?_;rfl';let⟨x,r,f,t,u⟩:=m;ac_rfl;rfl';obtain⟨a,e,⟨A,w⟩,q⟩:=u;subst e;subst t;let⟨y,B,p,C⟩:=f.list w;ac_rfl;refine wpAny_pyIter_list p.isList ?_;refine#[d.heap.objs.size,[d.heap.objs.size],_,_,r,rfl,f.kept (t':=d.toks) λb o e=>AC _ e,Ll a _,#[_,GM _ rfl,rfl,rfl],λb z=>?_,q];have e:b=d.heap.objs.size:=by simpa using z
 subst e;exact f.Qe (aZ _)^f.hok.fresh^aZ _
def Ee{c:List (Addr×Obj)}{d:St}{H:Hp}{s:c_}{R:It->Hp->Prop}{E:b_->c_->Prop}{lo a:Int}{t u v:Tok}{f:Nat}(I:Inv X c d H s)(h: -(2<<<62)<=lo)(i:lo<2<<<62)(j: -(2<<<62)<=a)(k:a<2<<<62)
  (q:R (GI lo (a-lo).toNat) H):d_ (d5 X.prog X.w) X.A (pyIter^.ref s.heap.objs.size) (PIE X c d tg R) E {s with heap:=s.heap.push {cls:= .type "range",data:= .fields [.int lo t, .int a u, .int 1 v].toArray},toks:=f}:=by
 refine wpAny_pyIter_range (IsRange.new ..) (small_one h i j k) ?_;have g:Inv X c d H {s with heap:=s.heap.push {cls:= .type "range",data:= .fields [.int lo t, .int a u, .int 1 v].toArray},toks:=f}:=I.kept λb o e=>AC _ e
 refine#[(s.heap.push {cls:= .type "range",data:= .fields [.int lo t, .int a u, .int 1 v].toArray}).objs.size,[(s.heap.push {cls:= .type "range",data:= .fields [.int lo t, .int a u, .int 1 v].toArray}).objs.size],_,_,H,rfl,
  g.kept (t':=f) λb o e=>AC _ e,jV _ lo (a-lo).toNat,?_,λb l=>?_,q]
 .have m:lo+((0:Nat):Int)*1=lo:=by simp
  have n:(((a-lo).toNat:Nat):Int)-((0:Nat):Int)=Builtin.Range.rangeSize lo a 1:=by rw[rangeSize_one];split<;>lia
  show IsRangeIter _ _ (lo+((0:Nat):Int)*1) ((((a-lo).toNat:Nat):Int)-((0:Nat):Int)) 1;rw[m,n];exact GM _ rfl
 .have e:b=(s.heap.push {cls:= .type "range",data:= .fields [.int lo t, .int a u, .int 1 v].toArray}).objs.size:=by simpa using l
  subst e;exact g.Qe (aZ _)^g.hok.fresh^aZ _
def ZJ(a:TA):TI:=λb H R=>a b H λc d=>∃j:Int,c= [.int j]/\-(2<<<62)<=j/\j<2<<<62/\R (GI 0 j.toNat) d
def ZK(a:TA):TI:=λb H R=>a b H λc d=>∃i j:Int,c= [.int i, .int j]/\(-(2<<<62)<=i/\i<2<<<62/\-(2<<<62)<=j/\j<2<<<62)/\R (GI i (j-i).toNat) d
def om(f:Gl X "range")(g:X.mg "range"=none)(i:PA X [a] d)(k:d4 [a] X.env= [(false,f7 a X.env)]<|>zn):PI X tg (.Call (.Name "range" p) [a] [] pos)^ZJ d:=by
 intro b s l H R I h;refine Call_^kK I f g boot_range^W1 (thn (i pos b s l H _ I h) λv w #[x,y,m,n,c]=>?_) k rfl;let⟨j,e,c,o,q⟩:=c;subst e;cases n with
 |cons r u=>
  cases u;let⟨t,rfl⟩:=r;exact call_range_1^Ee m () () c o^~~~q
def KH(l:Gl X "range")(m:X.mg "range"=none)(n:PA X [a,b] g)(o:d4 [a,b] X.env= [(false,f7 a X.env),(false,f7 b X.env)]<|>zn)(k:d4 [b] X.env= [(false,f7 b X.env)]<|>zn):
  PI X tg (.Call (.Name "range" p) [a,b] [] pos)^ZK g:=by
 intro c s u H R I h;refine Call_^kK I l m boot_range^W1 (thn (n pos c s u H _ I h) λB C #[E,F,v,w,d]=>?_) (by rw[o,k])^by rw[k];rfl
 obtain⟨i,j,e,⟨d,x,y,z⟩,q⟩:=d;subst e;cases w with
 |cons r f=>
  cases f with
  |cons A f=>
   cases f;let⟨t,rfl⟩:=r;let⟨G,rfl⟩:=A;exact call_range_2^Ee v d x y z q
def acE(e:TI)(g:TG)(f:TS):TS:=λD a H=>e a H λJ h=>∃W:Nat->Nat->St->Hp->Prop,(∃m,W 0 m a h)/\∀i m a H,W i m a H->
 (J.stop i H/\D.nx a H)\/(J.go i H/\∃N:St->Hp->Prop,(∀c b,N c b->∃d,d<m/\W (i+1) d c b)/\∀x b,J.yld i H x b->g x a b λj k=>f {D with nx:=N,ct:=N,bk:=D.nx} j k)
noncomputable def oq(a:List Addr)(h:Heap):List (Addr×Obj):=a.filterMap λb=>(h.get? b).map λo=>(b,o)
def fP(c:b∈a)(e:h.get? b\o):(b,o)∈oq a h:=aeW.mpr #[b,c,by rw[e];rfl]
def Kv(c:p∈oq a h):p.1∈a/\h.get? p.1\p.2:=by
 obtain⟨b,d,e⟩:=aeW.mp c;cases q:h.get? b with
 |none=>rw[q] at e;cases e
 |some o=>
  rw[q] at e;have f:(b,o)=p:=Fk e;subst f;exact#[d,q]
def Inv.pinned(I:Inv X a f H s)(i:∀b∈c,fN X a H b)(j:∀b∈c,∃o,s.heap.get? b\o/\∀v,o.data≠ .cell v):Inv X (a++oq c s.heap) f H s:=
 I.vQ λp k=>(bF.mp k).elim (λz=>I.pin p^fb _ z) λz=>by
  rfl';let⟨g,e⟩:=Kv z;let⟨m,n,q,l⟩:=i p.1 g;let⟨o,h,d⟩:=j p.1 g;ac_rfl;rw[e] at h;cases h;exact#[e,m,n,q,d]
def Inv.kW(I:Inv X (a++pl) b H s):Inv X a b H s:=I.vQ λp c=>I.pin p^fb _^fK _ c
theorem kO(C:PassesOwn (d5 X.prog X.w) X.A X.env X.xe)(hc:X.calm=true)(hi:PI X tg iter wi)(hg:PG X tg g)(c:kF X t tb)
  (hs:(∀x,ey iter X.env x=pure x)<|>za):PS X (.For tg iter t [] pos)^acE wi g tb:=by
 intro a s σ H D I h;refine wpAny_For (thn (hi a s σ H _ I h) λv s1 h1=>thn h1 λAA s2 h2=>?_) hs;rfl';obtain⟨it,E,tn,J,H2,e,I2,T,jJ,f2,W,⟨m0,w0⟩,F⟩:=h2;subst e;ac_rfl;have j:∀{q:Hp},(∀b∈E,q b=none)->∀b∈E,fN X a q b:=λhn b c=>#[hn b c,(f2 b c).2];refine codeAny_forLoop_any (λn s'=>∃i G q,Inv X a G q s'/\tn i s'.heap/\(∀b∈E,q b=none)/\W i n G q) ?_ m0 #[0,σ,H2,I2,jJ,λb c=>(f2 b c).1,w0];intro n s3 R;rfl';let⟨i,L,P,I3,zw,M,w3⟩:=R;ac_rfl
 rcases F i n L P w3 with ⟨stop,qn⟩ | ⟨go,N,hN,step⟩
 .refine adF C (thn (T.done X rfl rfl rfl hc i a s3 L P X.xe I3 (j M) zw stop) λr s4 B=>?_)
  let⟨S,I4⟩:=B;subst S;exact aeA #[L,P,I4,qn]
 .refine adF C (thn (T.item X rfl rfl rfl hc i a s3 L P X.xe I3 (j M) zw go) λr s4 B=>?_)
  let⟨u,S,h4⟩:=B;subst S;refine adF C (thn h4 λ_ s5 B=>?_);rfl';let⟨x,H5,I5,r5,y5,Y,tH⟩:=B;ac_rfl;have XU:=I5.pinned (j tH)^T.obj _ _ Y;refine adF C (thn (hg _ s5 L H5 x u _ XU r5^step x H5 y5) λ_ s6 B=>?_);rfl';let⟨Z,H6,I6,q6⟩:=B;ac_rfl;refine adF C (thn (c _ s6 Z H6 _ I6 q6) λf s7 y=>?_)
  have again:∀{k:St}{l:Hp},Inv X (a++oq E s5.heap) k l s7->N k l->∃m,m<n/\∃i G q,Inv X a G q s7/\tn i s7.heap/\(∀b∈E,q b=none)/\W i m G q:=λ {k l} p O=>by
   let⟨m',hm,w7⟩:=hN k l O;refine#[m',hm,i+1,k,l,p.kW,T.keep _ _ _ Y λb c o e=>(p.pin (b,o)^fb _^fb _^fP c e).1,λb c=>?_,w7];let⟨o,e,d⟩:=T.obj _ _ Y b c;exact(p.pin (b,o)^fb _^fb _^fP c e).2.1
  cases f with
  |next=>let⟨k,l,p,O⟩:=y;exact again p O
  |cont=>let⟨k,l,p,O⟩:=y;exact again p O
  |brk=>let⟨k,l,p,y⟩:=y;exact#[k,l,p.kW,y]
  |ret v=>let⟨x7,k,l,p,r7,y⟩:=y;exact#[x7,k,l,p.kW,r7,y]
end
def Nk{K:ad}{a:Addr}{xs:List V}{g:TG}{k:TS}{D:Ends}{b:St}{H:Hp}(c:Nat->St->Hp->Prop)(o:c 0 b H)(r:∀i b H,i<=xs.length->c i b H->aK K H a xs)
  (s:∀i x b H,xs[i]?\x->c i b H->g x b H λf h=>k {D with nx:=c (i+1),ct:=c (i+1),bk:=D.nx} f h) (t:∀b H,c xs.length b H->D.nx b H):
  ∃W:Nat->Nat->St->Hp->Prop,(∃m,W 0 m b H)/\∀i m b H,W i m b H->
   ((MT K a).stop i H/\D.nx b H)\/((MT K a).go i H/\∃N:St->Hp->Prop,(∀j d,N j d->∃l,l<m/\W (i+1) l j d)/\∀x d,(MT K a).yld i H x d->g x b d λf h=>k {D with nx:=N,ct:=N,bk:=D.nx} f h):=by
 refine#[λi m b H=>m=xs.length-i/\i<=xs.length/\c i b H,#[xs.length,by simp,eB _,o],?_]
 rintro i m b H ⟨rfl,u,p⟩;have q:=r i b H u p
 by_cases n:i<xs.length
 .refine .inr #[#[xs,xs[i],q,by simp[n]],c (i+1),λj d v=>#[xs.length-(i+1),(),rfl,n,v],λx d y=>?_]
  obtain⟨e,y⟩:=y;subst e;exact s i x b _ (y xs q) p
 .have e:i=xs.length:=()
  subst e;exact .inl #[#[xs,q,aZ _],t b H p]
def nU{lo:Int}{n:Nat}{g:TG}{k:TS}{D:Ends}{a:St}{H:Hp}(b:Nat->St->Hp->Prop)(o:b 0 a H)
  (q:∀i a H,i<n->b i a H->g (.int (lo+i)) a H λd f=>k {D with nx:=b (i+1),ct:=b (i+1),bk:=D.nx} d f) (r:∀a H,b n a H->D.nx a H):
  ∃W:Nat->Nat->St->Hp->Prop,(∃m,W 0 m a H)/\∀i m a H,W i m a H->
   ((GI lo n).stop i H/\D.nx a H)\/((GI lo n).go i H/\∃N:St->Hp->Prop,(∀h c,N h c->∃l,l<m/\W (i+1) l h c)/\∀x c,(GI lo n).yld i H x c->g x a c λd f=>k {D with nx:=N,ct:=N,bk:=D.nx} d f):=by
 refine#[λi m a H=>m=n-i/\i<=n/\b i a H,#[n,by simp,eB _,o],?_]
 rintro i m a H ⟨rfl,t,p⟩
 by_cases j:i<n
 .refine .inr #[j,b (i+1),λh c s=>#[n-(i+1),(),rfl,j,s],λx c y=>?_]
  obtain⟨e,y⟩:=y;subst e y;exact q i a _ j p
 .have e:i=n:=()
  subst e;exact .inl #[aZ _,r a H p]
theorem OJ(g:St->Hp->Prop)(h:St->Hp->Nat)(k:g a H)
  (n:∀a H,g a H->c a H λb d=>if b=true then i {D with nx:=λe f=>g e f/\h e f<h a H,ct:=λe f=>g e f/\h e f<h a H,bk:=D.nx} a d else D.nx a d)
  (mono:∀a H Q j,(∀b d,Q b d->j b d)->c a H Q->c a H j):MK c i D a H:=by
 refine#[λm a H=>m=h a H/\g a H,#[_,rfl,k],?_];rintro m a H ⟨rfl,p⟩;refine mono a H _ _ (λb d q=>?_)^n a H p;cases b with
 |true=>exact#[_,λe f #[o,l]=>#[_,l,rfl,o],q]
 |false=>exact q
abbrev R2:=V->V->Hp->VK->Prop
def OpR(X:Cx)(f:Value->Value->Sem Value)(r:R2):Prop:=
 ∀(a:List (Addr×Obj))(s:Shared)(b:St)(H:Hp)(x y:V)(v u:Value)(Q:VK),Inv X a b H s->RelV x v->RelV y u->r x y H Q->
  wpAny (model X.prog X.w) X.A (f v u) (EP X a b Q) X.xe s
def UnR(X:Cx)(f:Value->Sem Value)(r:V->Hp->VK->Prop):Prop:=
 ∀(a:List (Addr×Obj))(s:Shared)(b:St)(H:Hp)(x:V)(v:Value)(Q:VK),Inv X a b H s->RelV x v->r x H Q->
  wpAny (model X.prog X.w) X.A (f v) (EP X a b Q) X.xe s
def cV(X:Cx)(f:Value)(r:List V->Hp->VK->Prop):Prop:=
 ∀(a:List (Addr×Obj))(s:Shared)(b:St)(H:Hp)(c:List V)(d:List Value)(Q:VK),Inv X a b H s->Vals c d->r c H Q->
  wpAny (model X.prog X.w) X.A (call f d) (EP X a b Q) X.xe s
def aaN(X:Cx)(r:V->Hp->(Bool->Hp->Prop)->Prop):Prop:=
 ∀(a:List (Addr×Obj))(s:Shared)(b:St)(H:Hp)(x:V)(v:Value)(Q:Bool->Hp->Prop),Inv X a b H s->RelV x v->r x H Q->
  wpAny (model X.prog X.w) X.A (truthy v) (TP X a b Q) X.xe s
def Ga(r:R2)(b c:TE):TE:=λa H Q=>b a H λx d=>c a d λy e=>r x y e Q
def tUn(r:V->Hp->VK->Prop)(a:TE):TE:=λb H Q=>a b H λx c=>r x c Q
def rI(C:Int->Int->Prop)(g:Int->Int->V):R2:=λx y H Q=>∃i j,x= .int i/\y= .int j/\C i j/\Q (g i j) H
def KY(g:Int->Int->V):R2:=λx y H Q=>∃i j,x= .int i/\y= .int j/\Q (g i j) H
def rU(g:Int->V):V->Hp->VK->Prop:=λx H Q=>∃i,x= .int i/\Q (g i) H
section
variable {X:Cx} {a b c:Expr} {ta tb tc:TE} {pos:Pos}
def Pe(l:PE X a ta)(m:PE X b tb){d:List (Addr×Obj)}{s:Shared}{e:St}{H:Hp}{R:V->V->Hp->Prop}(I:Inv X d e H s)
  (h:ta e H λx k=>tb e k λy g=>R x y g) {Q:Value->Shared->Prop} {f:Value->Value->Sem Value}
  (n:∀v u j x y g,Inv X d e g j->RelV x v->RelV y u->R x y g->wpAny (model X.prog X.w) X.A (f v u) Q X.xe j):
  wpAny (model X.prog X.w) X.A (eval a X.env) (λv i=>wpAny (model X.prog X.w) X.A (eval b X.env) (λu o=>wpAny (model X.prog X.w) X.A (f v u) Q X.xe o) X.xe i) X.xe s:=by
 refine thn (l d s e H _ I h) λv p #[x,k,q,r,t]=>?_;refine thn (m d p e k _ q t) λu j #[y,g,z,B,C]=>?_;exact n v u j x y g z r B C
def di(f:OpR X (h_ e) r)(g:PE X a ta)(i:PE X b tb):PE X (.BinOp a e b pos)^Ga r ta tb:=by
 intro d s j H Q I h;exact wpAny_BinOp (Pe g i I h λv u k x y l m n o q=>f d k j l x y v u Q m n o q)
def aah(g:UnR X (unaryOp e) r)(i:PE X a ta):PE X (.UnaryOp e a pos)^tUn r ta:=by
 intro d s f H Q I h;exact UnaryOp_ (thn (i d s f H _ I h) λv j #[x,k,l,m,n]=>g d j f k x v Q l m n)
def Vr{f:b_->b_->j_ b_}{C:Int->Int->Prop}{g:Int->Int->Int}
  (rule:∀(i j:Int)(t u:Tok)(s:c_)(Q:b_->c_->Prop)(E:b_->c_->Prop),C i j->Q (.int (g i j) s.toks) {s with toks:=s.toks+1}->d_ (d5 X.prog X.w) X.A (f (.int i t)^.int j u) Q E s):
  OpR X f (rI C λi j=> .int^g i j):=by
 intro d s n H x y v u Q I e k h;let⟨i,j,rfl,rfl,l,q⟩:=h;let⟨t,rfl⟩:=e;let⟨m,rfl⟩:=k;exact rule i j t m s _ _ l #[.int^g i j,H,I.tok _,#[_,rfl],q]
def acb{f:b_->b_->j_ b_}{g:Int->Int->Int}
  (rule:∀(i j:Int)(t u:Tok)(s:c_)(Q:b_->c_->Prop)(E:b_->c_->Prop),Q (.int (g i j) s.toks) {s with toks:=s.toks+1}->d_ (d5 X.prog X.w) X.A (f (.int i t)^.int j u) Q E s):
  OpR X f (KY λi j=> .int^g i j):=by
 intro d s m H x y v u Q I e k h;let⟨i,j,rfl,rfl,q⟩:=h;let⟨t,rfl⟩:=e;let⟨l,rfl⟩:=k;exact rule i j t l s _ _ #[.int^g i j,H,I.tok _,#[_,rfl],q]
def RX{f:b_->b_->j_ b_}{g:Int->Int->Bool}
  (rule:∀(i j:Int)(t u:Tok)(s:c_)(Q:b_->c_->Prop)(E:b_->c_->Prop),Q (.bool^g i j) s->d_ (d5 X.prog X.w) X.A (f (.int i t)^.int j u) Q E s):
  OpR X f (KY λi j=> .bl^g i j):=by
 intro d s m H x y v u Q I e k h;let⟨i,j,rfl,rfl,q⟩:=h;let⟨t,rfl⟩:=e;let⟨l,rfl⟩:=k;exact rule i j t l s _ _ #[.bl^g i j,H,I,rfl,q]
def OM(i j:Int):Prop:=0<j/\j<1073741824
def aaH(i j:Int):Prop:=0<=j/\j<=1000000/\i.natAbs<2<<<64
def ON(i j:Int):Prop:=(-(2<<<64)<i/\i<2<<<64)\/(-(2<<<64)<j/\j<2<<<64)
def ON.ok(h:ON i j):IntMulOk i j:=by
 rcases h with ⟨d,e⟩ | ⟨d,e⟩
 .exact .of_left^intBits_le_64 d e
 .exact .of_right^intBits_le_64 d e
def i7:OpR X (binaryOp .Add) (KY λi j=> .int (i+j)):=acb λ_ _ _ _ _ _ _ q=>add_int q
def rH:OpR X (binaryOp .Mult) (rI ON λi j=> .int (i*j)):=Vr λ_ _ _ _ _ _ _ d q=>mul_int q d.ok
def Ic:OpR X (h_ .FloorDiv) (rI OM λi j=> .int (i / j)):=Vr λi j _ _ _ _ _ d q=>by
 have e:(0:Int)<j:=d.1;have f:j<1073741824:=d.2;exact floordiv_int () (by rw[Int.fdiv_eq_ediv_of_nonneg i ()];exact q)^.inl^PyProof.noPylong_small ()
def rG:OpR X (h_ .Mod) (rI (λ_ j=>0<j) λi j=> .int (i%j)):=Vr λi j _ _ _ _ _ d q=>by
 have e:(0:Int)<j:=d;exact mod_int' ()^by rw[Int.fmod_eq_emod_of_nonneg i ()];exact q
def Vv:OpR X (binaryOp .Pow) (rI aaH λi j=> .int (i<<<j.toNat)):=Vr λ_ _ _ _ _ _ _ d q=>pow_int_small d.1 d.2.1 d.2.2 q
def unI{f:b_->j_ b_}{g:Int->Int}
  (rule:∀(i:Int)(t:Tok)(s:c_)(Q:b_->c_->Prop)(E:b_->c_->Prop),Q (.int (g i) s.toks) {s with toks:=s.toks+1}->d_ (d5 X.prog X.w) X.A (f^.int i t) Q E s):
  UnR X f (rU λi=> .int^g i):=by
 intro d s j H x v Q I e h;let⟨i,rfl,q⟩:=h;let⟨t,rfl⟩:=e;exact rule i t s _ _ #[.int^g i,H,I.tok _,#[_,rfl],q]
def Wr:UnR X (unaryOp .USub) (rU λi=> .int (-i)):=unI λ_ _ _ _ _ q=>neg_int q
end
noncomputable def acr:V->V->Bool
 | .aS, .aS=>true| .aS, .int _=>true| .int _, .aS=>true| .aS, .bl _=>true| .bl _, .aS=>true| .aS, .str _=>true| .str _, .aS=>true
 | .int _, .int _=>true| .bl _, .bl _=>true| .str _, .str _=>true| .zc _, .zc _=>true
 | .int _, .str _=>true| .str _, .int _=>true| .bl _, .str _=>true| .str _, .bl _=>true
 |_,_=>false
def rNe:R2:=λx y H Q=>acr x y=true/\Q (.bl (!decide (x=y))) H
def PD:decide (V.int i=V.int j)=(i==j):=by
 rw[aeB];simp
def Ul:decide (V.bl i=V.bl j)=(i==j):=by
 rw[aeB];simp
def PF:decide (V.str i=V.str j)=(i==j):=by
 rw[aeB];simp
def PC:decide (V.zc i=V.zc j)=(i.toList==j.toList):=by
 rw[aeB];cases i;cases j;simp
section
variable {X:Cx} {a b c:Expr} {ta tb tc:TE} {pos:Pos}
def eE(I:Inv X d f H s)(q:Q (.bl k) H)(e:k=g):EP X d f Q (.bool g) s:=by
 subst e;exact#[.bl k,H,I,rfl,q]
def aac:OpR X (ff .NotEq) rNe:=by
 intro pins s σ H x y v u Q I rx ry h;let⟨hs,q⟩:=h;cases x with
 |aS=>
  cases rx;cases y with
  |aS=>cases ry;exact PySem.EqNone.ne_none_none^eE I q^by simp
  |bl j=>cases ry;exact PySem.EqNone.ne_none_bool^eE I q^by simp
  |int j=>let⟨t',rfl⟩:=ry;exact PySem.EqNone.ne_none_int^eE I q^by simp
  |str j=>let⟨t',rfl⟩:=ry;exact PySem.EqNone.ne_none_str^eE I q^by simp
  |_=>exact absurd (show false=true from hs) dZ
 |bl i=>
  cases rx;cases y with
  |aS=>cases ry;exact PySem.EqNone.ne_bool_none^eE I q^by simp
  |bl j=>cases ry;exact ne_bool^eE I q^congrArg not Ul
  |str j=>let⟨t',rfl⟩:=ry;exact PySem.EqMixed.ne_bool_str^eE I q^by simp
  |_=>exact absurd (show false=true from hs) dZ
 |int i=>
  let⟨t,rfl⟩:=rx;cases y with
  |aS=>cases ry;exact PySem.EqNone.ne_int_none^eE I q^by simp
  |int j=>let⟨t',rfl⟩:=ry;exact ne_int^eE I q^congrArg not PD
  |str j=>let⟨t',rfl⟩:=ry;exact PySem.EqMixed.ne_int_str^eE I q^by simp
  |_=>exact absurd (show false=true from hs) dZ
 |str i=>
  let⟨t,rfl⟩:=rx;cases y with
  |aS=>cases ry;exact PySem.EqNone.ne_str_none^eE I q^by simp
  |bl j=>cases ry;exact PySem.EqMixed.ne_str_bool^eE I q^by simp
  |int j=>let⟨t',rfl⟩:=ry;exact PySem.EqMixed.ne_str_int^eE I q^by simp
  |str j=>let⟨t',rfl⟩:=ry;exact ne_str^eE I q^congrArg not PF
  |_=>exact absurd (show false=true from hs) dZ
 |zc i=>
  let⟨t,rfl⟩:=rx;cases y with
  |zc j=>let⟨t',rfl⟩:=ry;exact PySem.W.ne_bytes^eE I q^congrArg not PC
  |_=>exact absurd (show false=true from hs) dZ
 |_=>cases y<;>exact absurd (show false=true from hs) dZ
def Kz:OpR X (compareOp .Lt) (KY λi j=> .bl (decide (i<j))):=RX λ_ _ _ _ _ _ _ q=>lt_int q
def aab:OpR X (compareOp .LtE) (KY λi j=> .bl (decide (i<=j))):=RX λ_ _ _ _ _ _ _ q=>le_int q
def Kx:OpR X (compareOp .Gt) (KY λi j=> .bl (decide (j<i))):=RX λ_ _ _ _ _ _ _ q=>gt_int q
def Vu:OpR X (ff .Is) (λx y H Q=>y= .aS/\Q (.bl (decide (x= .aS))) H):=by
 intro d s g H x y v u Q I e f h;let⟨rfl,q⟩:=h;subst f;refine is_none_gen^eE I q ?_
 cases x<;>first
  | (cases e;rfl)
  | (let⟨t,rfl⟩:=e;rfl)
def Sa:OpR X (ff .IsNot) (λx y H Q=>y= .aS/\Q (.bl (!decide (x= .aS))) H):=by
 intro d s g H x y v u Q I e f h;let⟨rfl,q⟩:=h;subst f;refine isnot_none_gen^eE I q ?_
 cases x<;>first
  | (cases e;rfl)
  | (let⟨t,rfl⟩:=e;rfl)
def OpR.or(h:OpR X f r)(k:OpR X f e):OpR X f (λx y H Q=>r x y H Q\/e x y H Q):=by
 intro d s g H x y v u Q I i j q
 rcases q with q|q
 .exact h d s g H x y v u Q I i j q
 .exact k d s g H x y v u Q I i j q
def bJ(b:Expr)(h:d≠ .In<|>zm)(e:d≠ .NotIn<|>zm):behindInMarks d b=false:=by
 have f:(d==CmpOp.In)=false:=by cases d<;>first|rfl|exact absurd rfl h
 have g:(d==CmpOp.NotIn)=false:=by cases d<;>first|rfl|exact absurd rfl e
 cases b<;>simp[behindInMarks,f,g]
def Ih(f:OpR X (ff e) r)(g:PE X a ta)(i:PE X b tb)(j:il e b=false):PE X (.Compare a [e] [b] pos)^Ga r ta tb:=by
 intro d s k H Q I h;exact wpAny_Compare1 (Pe g i I h λv u l x y m n o p q=>f d l k m x y v u Q n o p q) j
def Lh(t:TE):TT:=λd H Q=>t d H λx e=>∃k,x= .bl k/\Q k e
def jR(i:OpR X (ff f) r)(j:PE X a ta)(l:PE X b tb)(m:il f b=false):PT X (.Compare a [f] [b] pos)^Lh^Ga r ta tb:=by
 intro d s g H Q I h
 refine wpAny_isTrue_Compare1 (thn (j d s g H _ I h) λv n #[x,o,p,q,t]=>thn (l d n g o _ p t) λu w #[y,A,B,C,E]=>
  thn (i d w g A x y v u _ B q C E) λc M #[z,F,G,J,k,e,L]=>?_) m
 subst e;subst J;exact P3 #[F,G,L]
def F8(r f:R2)(g h tc:TE):TE:=λd H Q=>g d H λx i=>h d i λy j=>r x y j λz e=>∃k,z= .bl k/\
 (if k=true then tc d e λl m=>f y l m Q else Q (.bl false) e)
theorem N6(q:OpR X (ff i) r)(t:OpR X (ff j) l)(w:PE X a ta)(A:PE X b tb)(B:PE X c tc)
  (C:lastMarks [i,j] [b,c]=false<|>xv):PE X (.Compare a [i,j] [b,c] pos)^F8 r l ta tb tc:=by
 intro f s g H Q I h
 refine Compare_chain (thn (w f s g H _ I h) λv E #[x,F,G,J,L]=>chain_link (thn (A f E g F _ G L) λu M #[y,N,O,m,P]=>
  thn (q f M g N x y v u _ O J m P) λd R #[z,n,o,S,k,e,p]=>?_)) C
 subst e;subst S;refine P3 ?_;cases k with
 |false=>exact ite_ff #[.bl false,n,o,rfl,p]
 |true=>exact ite_tt^chain_last (thn (B f R g n _ o p) λT Y #[Z,H4,I4,r4,q4]=>t f Y g H4 y Z u T Q I4 m r4 q4)
theorem Og(q:OpR X (ff i) r)(t:OpR X (ff j) l)(w:PE X a ta)(A:PE X b tb)(B:PE X c tc)
  (C:lastMarks [i,j] [b,c]=false<|>xv):PT X (.Compare a [i,j] [b,c] pos)^Lh^F8 r l ta tb tc:=by
 intro f s g H Q I h
 refine isTrue_chain (thn (w f s g H _ I h) λv E #[x,F,G,J,L]=>test_link (thn (A f E g F _ G L) λu M #[y,N,O,m,P]=>
  thn (q f M g N x y v u _ O J m P) λd R #[z,n,o,S,k,e,p]=>?_)) C
 subst e;subst S;refine P3 ?_;cases k with
 |false=>
  rfl';let⟨k',Y,Z⟩:=p;cases Y;ac_rfl;exact ite_ff #[n,o,Z]
 |true=>
  refine ite_tt^test_last (thn (B f R g n _ o p) λw' s4 #[z',H4,I4,r4,q4]=>thn (t f s4 g H4 y z' u w' _ I4 m r4 q4) λd' s5 #[z2,H5,I5,r5,k2,e2,q5]=>?_);subst e2;subst r5;exact P3 #[H5,I5,q5]
def WE(K:ad)(x:V)(H:Hp)(k:Bool):Prop:=
 match x with
 | .aS=>k=false
 | .bl b=>k=b
 | .int i=>k=(i !=0)
 | .str y=>y.length<=sizeLine/\k=((y.length:Int) !=0)
 | .zc y=>y.size<=sizeLine/\k=((y.size:Int) !=0)
 | .ref p=>(∃d,aK K H p d/\k= !d.isEmpty)\/(∃d,fW K H p d/\k= !d.isEmpty)\/∃e,H p\(.dK e)/\k= !e.isEmpty
 |_=>False
def HI(r:KV e f):(!f.isEmpty)= !e.isEmpty:=by
 cases r<;>rfl
def yy(r:Vals e d):(!d.toArray.isEmpty)= !e.isEmpty:=by
 cases r<;>simp
def n5:(sizeLine:Nat)<2<<<63:=by rw[adL];decide
def Wo:aaN X (λx H Q=>∃k,WE X.K x H k/\Q k H):=by
 intro pins s σ H x v Q I rx h;obtain⟨k,e,q⟩:=h;have hl:=n5;have hs:sizeLine=16777216:=sizeLine_eq;cases x with
 |aS=>
  cases rx;have e':k=false:=e;subst e';exact truthy_none #[H,I,q]
 |bl b=>
  cases rx;have e':k=b:=e;subst e';exact wpAny_truthy_bool #[H,I,q]
 |int i=>
  obtain⟨t,rfl⟩:=rx;have e':k=(i !=0):=e;subst e';exact PySem.P.truthy_int #[H,I,q]
 |str y=>
  obtain⟨t,rfl⟩:=rx;obtain⟨hy,e'⟩:y.length<=sizeLine/\k=((y.length:Int) !=0):=e;subst e';exact PySem.P.truthy_str () #[H,I.tok _,q]
 |zc y=>
  obtain⟨t,rfl⟩:=rx;obtain⟨hy,e'⟩:y.size<=sizeLine/\k=((y.size:Int) !=0):=e;subst e';exact PySem.W.truthy_bytes () #[H,I.tok _,q]
 |ref p=>
  subst rx;have e':(∃xs,aK X.K H p xs/\k= !xs.isEmpty)\/(∃xs,fW X.K H p xs/\k= !xs.isEmpty)\/∃fZ,H p\(.dK fZ)/\k= !fZ.isEmpty:=e
  rcases e' with ⟨xs,hx,e'⟩ | ⟨xs,hx,e'⟩ | ⟨fZ,hx,e'⟩
  .subst e'
   obtain⟨its,r,pl,hz⟩:=I.list hx;have hlen:=r.length;exact wpAny_truthy_list pl.isList (by simp only[cE];lia) #[H,I.tok _,by rw[yy r];exact q]
  .subst e'
   obtain⟨its,r,pl,hz⟩:=I.tuple hx;have hlen:=r.length;exact truthy_tuple pl (by simp only[cE];lia) #[H,I.tok _,by rw[yy r];exact q]
  .subst e'
   obtain⟨hz,hS,vs,r,m⟩:fZ.length<=sizeLine/\(p==sysModules)=false/\∃vs,KV fZ vs/\s.heap.DictOf (AM X.prog X.w) p vs:=I.hok p _ hx;have hlen:fZ.length=vs.length:=Paired.length r;exact wpAny_truthy_dict hS m () #[H,I.tok _,by rw[HI r];exact q]
 |_=>exact(show False from e).elim
def Oh(i:PE X a ta)(j:∀d,isTrue a X.env d=(do let v <-d;ie a.pos;gP [v]^truthy v)):
  PT X a (λf H Q=>ta f H λx g=>∃k,WE X.K x g k/\Q k g):=by
 intro e s f H Q I h;exact isTrue_plain (thn (i e s f H _ I h) λv l #[x,m,n,o,p]=>Wo e l f m x v Q n o p)^j _
def vals1(r:Vals [x] d):∃u,d= [u]/\RelV x u:=by
 cases r with
 |cons e f=>cases f;exact#[_,rfl,e]
def vals2(r:Vals [x,y] d):∃u e,d= [u,e]/\RelV x u/\RelV y e:=by
 cases r with
 |cons f g=>
  cases g with
  |cons h i=>cases i;exact#[_,_,rfl,f,h]
def Jn(g:X.calm=true):cV X (.builtin "max") (λe H Q=>∃i j,e= [.int i, .int j]/\Q (.int^if j>i then j else i) H):=by
 intro f s m H e n Q I r h;rfl';let⟨i,j,rfl,q⟩:=h;obtain⟨u,p,rfl,⟨t,rfl⟩,⟨v,rfl⟩⟩:=vals2 r;ac_rfl;refine max_two_ints (I.ok.hd g) λw x k=>#[_,H,I.kept k,?_,q]
 by_cases d:j>i
 .rw[ir d,ir d];exact#[_,rfl]
 .rw[mo d,mo d];exact#[_,rfl]
def Jo(g:X.calm=true):cV X (.builtin "min") (λe H Q=>∃i j,e= [.int i, .int j]/\Q (.int^if j<i then j else i) H):=by
 intro f s m H e n Q I r h;rfl';let⟨i,j,rfl,q⟩:=h;obtain⟨u,p,rfl,⟨t,rfl⟩,⟨v,rfl⟩⟩:=vals2 r;ac_rfl;refine min_two_ints (I.ok.hd g) λw x k=>#[_,H,I.kept k,?_,q]
 by_cases d:j<i
 .rw[ir d,ir d];exact#[_,rfl]
 .rw[mo d,mo d];exact#[_,rfl]
def Jm:cV X (.type "int") (λd H Q=>(∃i,d= [.int i]/\Q (.int i) H)\/∃k,d= [.bl k]/\Q (.int^if k then 1 else 0) H):=by
 intro e s g H d j Q I r h
 rcases h with ⟨i,rfl,q⟩ | ⟨k,rfl,q⟩
 .obtain⟨u,rfl,t,rfl⟩:=vals1 r
  exact call_int_int #[.int i,H,I,#[_,rfl],q]
 .obtain⟨u,rfl,f⟩:=vals1 r
  cases f;exact call_int_bool #[.int^if k then 1 else 0,H,I.tok _,#[_,rfl],q]
end
structure zV (h:Heap) (x dx C:Addr) (mA:Str->Option Value):Prop where
 obj:h.get? x\(cb C dx)
 ns:h.Ns1 dx mA
 ne:dx≠x
def AK{h:Heap}(n:h.Ns1 d f):∃g,h.get? d\g/\∀b,cS b g\(f b):=by
 rfl';let⟨o,i,v,k,l,m,j,p⟩:=n;ac_rfl;refine#[o,k,λb=>?_];have e:=p b;unfold nsFind findBy at e;rw[<-Array.find?_toList] at e;unfold cS;rw[l];dsimp only
 split
 .rename_i y q
  rw[q] at e;exact IR some e
 .rename_i q
  rw[q] at e
  have a:i.toList.any (·.refKey)=false:=by
   rw[List.any_eq_false];intro y r;let⟨z,t,c⟩:=m y^Array.mem_toList_iff.mp r;simp[DictEntry.refKey,c]
  have s:¬i.toList.any (·.refKey)=true:=by rw[a];exact dZ
  rw[mo s];exact IR some e
def zV.look(I:zV h x c C d):∃b,PySem.W.InstAt h x (cb C c) C^some b/\∀a,cS a b\(d a):=
 let #[b,e,f]:=AK I.ns
 #[b,#[I.obj,rfl,rfl,e],f]
section
variable {prog:Program} {w:World} {A:Around} {E:Value->Shared->Prop} {s:Shared} {K:ad} {x dx C f:Addr} {mA:Str->Option Value} {name:Str} {v:Value}
def get_map(X:K.In s.heap)(I:zV s.heap x dx C mA)(b:cv K C name=true)(c:cq K C=true)
  (d:ak K (.ref C) name\none) (e:mA name\v) (g:PySem.W.handedIn v=true) (h:Q v {s with toks:=s.toks+1}):
  d_ (d5 prog w) A (getAttr (.ref x) name a) Q E s:=by
 let⟨j,J,i⟩:=I.look;exact PySem.W.get_value X J (aeO b).1 (PySem.W.findObj_own c d rfl^by rw[i,e]) g h
def Nl(X:K.In s.heap)(I:zV s.heap x dx C mA)(a:cv K C name=true)
  (b:ak K (.ref C) name\(some^.ref f)) (c:bu K^.ref f=true) (d:mA name=none) (h:Q (.ref f,[.ref x]) s):
  d_ (d5 prog w) A (km (.ref x) name pl) Q E s:=by
 let⟨e,J,g⟩:=I.look;exact PySem.W.method_fn X J (aeO a).1 (aeO a).2 b (adz.mp c) (by show(cS name e).map (·.isSome)\false;rw[g,d];rfl) h
def S9{e:List eg}(X:K.In s.heap)(I:zV s.heap x dx C mA)
  (j:ak K (.ref C) "__setattr__"\(some^.builtin "object.__setattr__")) (k:c4 K C=true) (l:dc K C name\none) (m:cq K C=true)
  (hw:cr mA e) (G:e.length<=sizeLine)
  (h:∀c,zV c x dx C (λy=>if y=name then some v else mA y)->Heap.SameBut dx s.heap c->Q ⟨⟩ {s with heap:=c,toks:=s.toks+2}):
  d_ (d5 prog w) A (setAttr (.ref x) name v) Q E s:=by
 rfl';let⟨H,J,L⟩:=I.look;let⟨M,o,p⟩:=PySem.W.any_some m;ac_rfl;refine PySem.W.set_plain X J j (PySem.W.osa_open (s:={s with toks:=s.toks+1}) (r:=none) X J k l λb=>?_)
 have q:s.heap.get? x\#[.ref C,some dx, .plain, #[]]:=I.obj;refine a_^tz^a_^a_^afO q^a_^PySem.W.Looks.here (s:={s with toks:=s.toks+1}) (PySem.W.looks_clsIn X o) ?_
 rw[p];refine tz (a:=some dx)^a_^tz^a_ ?_;refine afS (s:={s with toks:=s.toks+1}) I.ns λc g i=>?_
 rfl';let⟨N,t,u,z,B,F⟩:=g.count^PySem.Within.cons name v hw;ac_rfl;refine a_^afk z (by rw[B];exact afl^jz F^by rw[cJ];lia) ?_
 exact tz^h _ #[(i.2 _^Ne.symm I.ne).trans I.obj,g,I.ne] i
def D6(X:K.In s.heap)(c:dn K C=true)
  (e:ak K (.ref C) "__init__"\(some^.ref f)) (i:PySem.W.typeIn K^.ref f\(.type "function"))
  (h:gj (d5 prog w) (A.under^.builtin "type.__call__" #[.ref C::a,b]) (.call (.ref f) #[.ref (s.heap.objs.size+1)::a,b]) (PySem.W.InitBack (s.heap.objs.size+1) R)
   {s with heap:=(s.heap.push bj).push^cb C s.heap.objs.size}):
  gj (d5 prog w) A (.call (.ref C) #[a,b]) R s:=by
 let⟨j,g,d,t,os⟩:=s;exact PySem.W.make_core (PySem.W.makes_of X c) (aeC X e) (λself=>PySem.W.bind_fn X self i) (.inl rfl) h
end
noncomputable def jS(f:Str)(v:V):List (Str×V)->List (Str×V)
 | []=> [(f,v)]
 | (g,x)::r=>if g=f then(g,v)::r else(g,x)::jS f v r
theorem n6(f g:eg)(v:V):∀fs:List (eg×V),(jS f v fs).lookup g=if g=f then some v else fs.lookup g
 | []=>by
  show ca g [(f,v)]=_
  by_cases h:g=f
  .have a:(g==f)=true:=adz.mpr h
   simp only[ca,a,ir h]
  .have a:(g==f)=false:=ado.mpr h
   simp only[ca,a,mo h]
 | (k,x)::r=>by
  have c:=n6 f g v r;rw[show jS f v ((k,x)::r)=(if k=f then(k,v)::r else(k,x)::jS f v r) from rfl]
  by_cases b:k=f
  .rw[ir b]
   by_cases h:g=k
   .have a:(g==k)=true:=adz.mpr h
    simp only[ca,a,ir^h.trans b]
   .have a:(g==k)=false:=ado.mpr h
    simp only[ca,a,mo^λe:g=f=>h^e.trans b.symm]
  .rw[mo b]
   by_cases h:g=k
   .have a:(g==k)=true:=adz.mpr h
    simp only[ca,a,mo^λe:g=f=>b^h.symm.trans e]
   .have a:(g==k)=false:=ado.mpr h
    simp only[ca,a];exact c
theorem lD(f:eg)(v:V):∀fs:List (eg×V),f∈(jS f v fs).map (·.1)/\∀g,g∈fs.map (·.1)->g∈(jS f v fs).map (·.1)
 | []=>#[by simp[jS],λg h=>by simp at h]
 | (k,x)::r=>by
  let⟨b,c⟩:=lD f v r;rw[show jS f v ((k,x)::r)=(if k=f then(k,v)::r else(k,x)::jS f v r) from rfl]
  by_cases a:k=f
  .rw[ir a]
   subst a;exact#[by simp,λg h=>h]
  .rw[mo a]
   refine#[?_,λg h=>?_]
   .rw[cY]
    exact dS _ b
   .rw[cY] at h ⊢
    rcases b7.mp h with e|e
    .exact b7.mpr^.inl e
    .exact dS _^c g e
theorem n0(f:Str)(v:V):∀fs:List (Str×V),(jS f v fs).length<=fs.length+1
 | []=>by simp[jS]
 | (k,x)::r=>by
  have b:=n0 f v r;rw[show jS f v ((k,x)::r)=(if k=f then(k,v)::r else(k,x)::jS f v r) from rfl]
  by_cases a:k=f
  .rw[ir a,cJ,cJ];lia
  .rw[mo a,cJ,cJ];lia
def mU.some_of{v:V}{o:Option Value}(r:mU (some v) o):∃u,o\u/\RelV v u:=by
 cases o with
 |none=>exact(show False from r).elim
 |some u=>exact#[u,rfl,r]
def mU.none_of(r:mU none o):o=none:=by
 cases o with
 |none=>rfl
 |some u=>exact(show False from r).elim
def JL{v:V}{u:Value}(r:RelV v u):PySem.W.handedIn u=true:=by
 cases v with
 |aS=>cases(show u=Value.none from r);rfl
 |bl b=>cases(show u=Value.bool b from r);rfl
 |int i=>obtain⟨t,e⟩:=(show ∃t,u=Value.int i t from r);cases e;rfl
 |str x=>obtain⟨t,e⟩:=(show ∃t,u=Value.str x t from r);cases e;rfl
 |zc b=>obtain⟨t,e⟩:=(show ∃t,u=Value.bytes b t from r);cases e;rfl
 |JD b=>obtain⟨t,e⟩:=(show ∃t,u=Value.float b t from r);cases e;rfl
 |ref a=>cases(show u=Value.ref a from r);rfl
 |ty n=>cases(show u=Value.type n from r);rfl
section
variable {P:Program} {w:World} {H H':Hp} {h h':Heap} {a C dx:Addr} {fs fs':List (Str×V)}
def uX(hok:jj P w H h)(e:H a\(.ins C dx fs)):∃b,zV h a dx C b/\(∀f,mU (fs.lookup f)^b f)/\cr b^fs.map (·.1)/\fs.length<=1000/\H dx\(.own a):=by
 let⟨d,z,ne,c,b,n,r,q⟩:=(show cG P w H h a^.ins C dx fs from hok a _ e);exact#[b,#[c,n,ne],r,q,z,d]
end
structure zS (K:ad) (C:Addr):Prop where
 pg:cv K C Str.empty=true
 hd:cq K C=true
 po:c4 K C=true
 sa:ak K (.ref C) "__setattr__"\(some^.builtin "object.__setattr__")
def zS.get{K:ad}{C:Addr}(c:zS K C)(f:Str):cv K C f=true:=c.pg
def gO(K:ad)(C:Addr)(f:Str):Prop:=ak K (.ref C) f\none
def gO.Li{K:ad}{C:Addr}{f:Str}(n:gO K C f):dc K C f\none:=by
 unfold dc;rw[show ak K (.ref C) f\none from n];rfl
structure Meth (K:ad) (C:Addr) (m:eg) (f:Addr):Prop where
 at_:ak K (.ref C) m\(some^.ref f)
 fn:bu K^.ref f=true
 kp:am K^.ref f=true
section
variable {X:Cx} {pins:List (Addr×Obj)} {σ:St} {H:Hp} {s:Shared} {a C dx:Addr} {fs:List (Str×V)} {f:Str} {v:V} {A:Around} {E:Value->Shared->Prop}
def Hu(I:Inv X pins σ H s)(e:H a\(.ins C dx fs))(c:zS X.K C)(n:gO X.K C f)(l:fs.lookup f\v)
  (h:∀u d,Inv X pins σ H d->RelV v u->Q u d):d_ (d5 X.prog X.w) A (getAttr (.ref a) f b) Q E s:=by
 let⟨i,O,r,k,m,p⟩:=uX I.hok e;let⟨u,j,g⟩:=mU.some_of (v:=v) (o:=i f)^by rw[<-l];exact r f
 exact get_map I.dE O (c.get f) c.hd n j (JL g)^h u _ (I.tok _) g
def yv{pl:j_ Bool}(I:Inv X pins σ H s)(e:H a\(.ins C dx fs))(c:zS X.K C)(k:Meth X.K C m g)(l:fs.lookup m=none)
  (h:Q (.ref g,[.ref a]) s):d_ (d5 X.prog X.w) A (km (.ref a) m pl) Q E s:=by
 let⟨b,O,r,f,i,j⟩:=uX I.hok e;have d:b m=none:=mU.none_of^by rw[<-l];exact r m
 exact Nl I.dE O (c.get m) k.at_ k.fn d h
def IE(I:Inv X pins σ H s)(e:H a\(.ins C dx fs))(c:zS X.K C)(n:gO X.K C f)(N:fs.length<1000)(m:RelV y u)
  (h:∀i,Inv X pins σ (upd H a^.ins C dx^jS f y fs) i->Q ⟨⟩ i):d_ (d5 X.prog X.w) A (setAttr (.ref a) f u) Q E s:=by
 rfl';obtain⟨j,O,r,k,_,l⟩:=uX I.hok e;have t:(fs.map (·.1)).length<=sizeLine:=by rw[aI,adL];lia
 ac_rfl;refine S9 I.dE O c.sa c.po n.Li c.hd k t λB d F=>h _ ?_;have G:∃o,B.get? dx\o:=let #[o,_,_,J,_]:=d.ns;#[o,J];refine I.write (x:=a) (e:=dx) (by rw[e];exact True.intro) (.inr l) (λb q L z=>(F.2 b L).trans z) G ?_
 refine#[by rw[ag O.ne];exact l,?_,O.ne,d.obj,_,d.ns,λg=>?_,λg M=>?_]
 .have:=n0 f y fs;lia
 .show mU ((jS f y fs).lookup g)^if g=f then some u else j g
  rw[n6]
  by_cases q:g=f
  .rw[ir q,ir q];exact m
  .rw[mo q,mo q];exact r g
 .by_cases q:g=f
  .rw[q];exact(lD f y fs).1
  .refine(lD f y fs).2 g (k g λz=>M ?_)
   show(if g=f then some u else j g)=none;rw[mo q];exact z
def Inv.made(I:Inv X pins σ H s):Inv X pins σ (upd (upd H s.heap.objs.size^.own (s.heap.objs.size+1)) (s.heap.objs.size+1)^.ins C s.heap.objs.size [])
  {s with heap:=(s.heap.push bj).push^cb C s.heap.objs.size}:=by
 have c:(s.heap.push bj).get? s.heap.objs.size\bj:=GM s.heap rfl
 have d:((s.heap.push bj).push^cb C s.heap.objs.size).get? (s.heap.objs.size+1)\(cb C s.heap.objs.size):=by
  have:=GM (s.heap.push bj) (o:=cb C s.heap.objs.size) rfl
  rwa [adU] at this
 have g:(s.heap.push bj).Ns s.heap.objs.size (λ_=>none):=#[bj, #[],_,c,rfl,(λe h=>absurd h^by simp),λ_=>rfl]
 have i:=I.laid (a:=s.heap.objs.size) (o:= .own (s.heap.objs.size+1)) (h':=s.heap.push bj) (t':=s.toks) (λb u q=>AC _ q) (aZ _) #[_,c];refine i.laid (a:=s.heap.objs.size+1) (o:= .ins C s.heap.objs.size []) (t':=s.toks) (λb u q=>AC _ q) (afT^adU _ _) ?_;have ne:s.heap.objs.size≠s.heap.objs.size+1:=bX^aen _;refine#[by rw[ag ne,af],eB _,ne,d,λ_=>none,(Heap.Ns1.of_empty g).at λo q=>AC _ q,λ_=>True.intro,λy j=>absurd rfl j]
def O7{f:eg}{s:c_}(c:gt e f env^f7 e env=f7 e env)
  (h:d_ (d5 prog w) A (f7 e env) (λo b=>d_ (d5 prog w) A (getAttr o f true) Q E b) E s):d_ (d5 prog w) A (f7 (.Attribute e f pos) env) Q E s:=
 Attribute_any_ h^by rw[arm_eval_Attribute,c]
end
def acC(K:ad)(c:TE)(f:Str):TE:=λd H Q=>c d H λx b=>∃a C e fs v,x= .ref a/\b a\(.ins C e fs)/\zS K C/\gO K C f/\fs.lookup f\v/\Q v b
def acq(K:ad)(e g:TE)(f:eg):TS:=λD b H=>g b H λy h=>e b h λx c=>∃a C d fs,x= .ref a/\c a\(.ins C d fs)/\zS K C/\gO K C f/\fs.length<1000/\
 D.nx b^upd c a^.ins C d^jS f y fs
section
variable {X:Cx} {o e value:Expr} {f:Str} {pos pos' acN:Pos} {ta tv:TE}
def VA(d:PE X e ta)(g:gt e f X.env^f7 e X.env=f7 e X.env):PE X (.Attribute e f pos)^acC X.K ta f:=by
 intro b s i H Q I h;refine O7 g (thn (d b s i H _ I h) λu A j=>?_);rfl';let⟨x,m,p,r,a,C,E,fs,v,t,w,c,n,l,q⟩:=j;ac_rfl;subst t;obtain rfl:u=Value.ref a:=r;exact Hu p w c n l λF G y z=>#[v,m,y,z,q]
def VJ(g:PE X o ta)(i:PE X value tv)(j:gs value (some^.Attribute o f pos') pos.line X.env=pure false):PS X (.Assign [.Attribute o f pos'] value pos)^acq X.K ta tv f:=by
 intro b s d H D I h;refine aex (thn (i b s d H _ I h) λu k #[y,m,p,r,q]=>thn (g b k d m _ p q) λt F #[x,G,v,w,a,C,J,fs,z,A,c,n,l,B]=>?_) j;subst z;obtain rfl:t=Value.ref a:=w;exact IE v A c n l r λL E=>#[d,_,E,B]
end
section
variable {X:Cx} {pins:List (Addr×Obj)} {σ:St} {H:Hp} {s:Shared} {A:Around} {E:Value->Shared->Prop} {Q:Value->Shared->Prop} {c:Value} {b:Bool}
inductive lZ (K:ad) (H:Hp):V->b_->Prop where
 |aS:lZ K H .aS^.type "NoneType"
 |bl (x:Bool):lZ K H (.bl x)^.type "bool"
 |int (i:Int):lZ K H (.int i)^.type "int"
 |str (x:eg):lZ K H (.str x)^.type "str"
 |JD (x:UInt64):lZ K H (.JD x)^.type "float"
 |lst {a:Addr} {xs:List V} (e:H a\(.lst xs)):lZ K H (.ref a)^.type "list"
 |tI {a:Addr} {o:Obj} {xs:List V} (e:H a\(.tI o^.lst xs)):lZ K H (.ref a)^.type "list"
 |tup {a:Addr} {xs:List V} (e:H a\(.tup xs)):lZ K H (.ref a)^.type "tuple"
 |dK {a:Addr} {fZ:List (Key×V)} (e:H a\(.dK fZ)):lZ K H (.ref a)^.type "dict"
 |dT {a:Addr} {fZ:List (List Key×V)} (e:H a\(.dT fZ)):lZ K H (.ref a)^.type "dict"
 |ins {a C dx:Addr} {fs:List (eg×V)} (e:H a\(.ins C dx fs)) (cl:zS K C) (ha:ak K (.ref C) "__class__"\(some^.builtin "object.__class__"))
   (hn:bi K (.builtin "object.__class__") "__get__"\(some^.builtin "getset_descriptor.__get__")) (htk:db K^.builtin "object.__class__"\true)
   (hm:cm K C^.type "object"\true):lZ K H (.ref a)^.ref C
def Ke{x:V}{u t:b_}(I:Inv X pins σ H s)(rx:RelV x u)(ty:lZ X.K H x t)(e:cy X.K t c\b)(h:∀tk,Q (.bool b) {s with toks:=tk}):
  d_ (d5 X.prog X.w) A (call (.builtin "isinstance") [u,c]) Q E s:=by
 cases ty with
 |aS=>cases(show u=Value.none from rx);exact PySem.W.kia_one PySem.W.kitx_none I.dE True.intro e (λz=>nomatch z) h
 |bl y=>cases(show u=Value.bool y from rx);exact PySem.W.kia_one PySem.W.kitx_bool I.dE True.intro e (λz=>nomatch z) h
 |int i=>let⟨t,q⟩:=(show ∃t,u=Value.int i t from rx);cases q;exact PySem.W.kia_one PySem.W.kitx_int I.dE True.intro e (λz=>nomatch z) h
 |str y=>let⟨t,q⟩:=(show ∃t,u=Value.str y t from rx);cases q;exact PySem.W.kia_one PySem.W.kitx_str I.dE True.intro e (λz=>nomatch z) h
 |JD y=>let⟨t,q⟩:=(show ∃t,u=Value.float y t from rx);cases q;exact PySem.W.kia_one PySem.W.kitx_float I.dE True.intro e (λz=>nomatch z) h
 | @lst a xs ea=>
  cases(show u=Value.ref a from rx);let⟨d,f,n,g,h1⟩:=(show cG X.prog X.w H s.heap a^.lst xs from I.hok a _ ea);exact PySem.W.kia_one PySem.W.kitx_list I.dE #[_,h1,rfl] e (λz=>nomatch z) h
 | @tI a ob xs ea=>
  cases(show u=Value.ref a from rx);let⟨d,f,g,n,j,h1⟩:=(show cG X.prog X.w H s.heap a^.tI ob^.lst xs from I.hok a _ ea);exact PySem.W.kia_one PySem.W.kitx_list I.dE #[_,h1,rfl] e (λz=>nomatch z) h
 | @tup a xs ea=>
  cases(show u=Value.ref a from rx);let⟨d,f,g,p⟩:=(show cG X.prog X.w H s.heap a^.tup xs from I.hok a _ ea);let⟨o,h1,h2,d⟩:=p;exact PySem.W.kia_one PySem.W.kitx_tuple I.dE #[o,h1,h2] e (λz=>nomatch z) h
 | @dK a fZ ea=>
  cases(show u=Value.ref a from rx);let⟨d,f,vs,g,p⟩:=(show cG X.prog X.w H s.heap a^.dK fZ from I.hok a _ ea);let⟨o,es,ep,h1,h2,d⟩:=p;exact PySem.W.kia_one PySem.W.kitx_dict I.dE #[o,h1,h2.1] e (λz=>nomatch z) h
 | @dT a fZ ea=>
  cases(show u=Value.ref a from rx);let⟨d,f,xs,g,o,es,ep,h1,h2,j⟩:=(show cG X.prog X.w H s.heap a^.dT fZ from I.hok a _ ea);exact PySem.W.kia_one PySem.W.kitx_dict I.dE #[o,h1,h2.1] e (λz=>nomatch z) h
 | @ins a C dx fs ea cl ha hn htk hm=>
  rfl';cases(show u=Value.ref a from rx);let⟨mA,O,d⟩:=uX I.hok ea;let⟨od,J,d⟩:=O.look;ac_rfl;exact PySem.W.kia_one (PySem.W.kitx_own (cl.get _) cl.hd ha hn htk hm) I.dE J e (λz=>nomatch z) h
end
structure b8 (k:Nat) (A:Around):Prop where
 hd:A.handled=none
 dp:A.depth+3*k+5<recursionLimit
 un:A.units+16*k+200<cLine
def b8.mono(r:b8 k A)(h:j<=k):b8 j A:=#[r.hd,by have:=r.dp;lia,by have:=r.un;lia]
theorem b8.deeper(r:b8 (k+1) A)(env:lz):b8 k^A.deeper env:=
 #[r.hd,by have:=r.dp;show A.depth+1+3*k+5<_;lia,by have:=r.un;show A.units+3+16*k+200<_;lia]
def HR{A:f5}:(A.under^.builtin "type.__call__" #[.ref C::a,b]).depth=A.depth+1:=by
 first|rfl|simp[Around.under,Code.weight,Code.isCreation,Code.isGuard,Code.isCaller,Code.frames,Code.isFrame,guardIds]
def HS{A:f5}:(A.under^.builtin "type.__call__" #[.ref C::a,b]).units=A.units+1:=by
 first|rfl|simp[Around.under,Code.cUnits,Code.frames,Code.isFrame]
def b8.make(r:b8 (k+1) A)(C:Addr)(a:List b_)(b:List (eg×b_)):b8 k^A.under^.builtin "type.__call__" #[.ref C::a,b]:=
 #[r.hd,by have:=r.dp;rw[HR];lia,by have:=r.un;rw[HS];lia]
theorem b8.depth{k:Nat}(r:b8 k A):A.depth<recursionLimit:=by have:=r.dp;lia
theorem b8.units{k:Nat}(r:b8 k A):A.units+64<cLine:=by have:=r.un;lia
def XJ:TA:=λ_ H Q=>Q [] H
def aar(b:TE)(tr:TA):TA:=λa H Q=>b a H λx c=>tr a c λd e=>Q (x::d) e
section
variable {X:Cx} {e:Expr} {es:List Expr} {te:TE} {t:TA} {pos:Pos}
def aB:PA X [] XJ:=λ_ _ _ _ H Q I h=>Calls.spliced_nil #[[],H,I, .nil,h]
def ah(c:PE X e te)(d:PA X es t)(f:d4 (e::es) X.env=(false,f7 e X.env)::d4 es X.env<|>zn):PA X (e::es)^aar te t:=by
 intro pos a s b H Q I h;rw[f];show d_ _ _ (spliced ((false,f7 e X.env)::gd pos^d4 es X.env)) _ _ s;refine Calls.spliced_cons (thn (c a s b H _ I h) λu g i=>?_);rfl';let⟨x,k,l,m,n⟩:=i;ac_rfl;exact thn (d pos a g b k _ l n) λy z #[o,p,q,r,v]=>#[x::o,p,q, .cons m r,v]
def acM(t:TA):TE:=λc H Q=>t c H λa b=>a.length<=sizeLine/\∀p,b p=none->Q (.ref p)^upd b p^.tup a
def acG(t:TA):TE:=λc H Q=>t c H λa b=>a.length<=sizeLine/\∀p,b p=none->Q (.ref p)^upd b p^.lst a
def zM{x1}(h:PA X es t):PE X (.Tuple es x1 pos)^acM t:=by
 intro a s g H Q I i;refine wpAny_Tuple_spliced (thn (h pos a s g H _ I i) λj c #[k,d,f,r,z,q]=>#[r.length▸z,?_]);have l:d c.heap.objs.size=none:=f.hok.fresh^aZ _;refine#[.ref c.heap.objs.size,upd d c.heap.objs.size^.tup k,f.laid (t':=c.toks) (λb u e=>AC _ e) (aZ _) ?_,rfl,q _ l];exact#[z,j,r,#[_,GM _ rfl,rfl,_,rfl]]
def gn(h:PA X es t):PE X (.List es pos)^acG t:=by
 intro a s g H Q I i;refine wpAny_List_spliced (thn (h pos a s g H _ I i) λj c #[k,d,f,r,z,q]=>#[r.length▸z,?_]);have l:d c.heap.objs.size=none:=f.hok.fresh^aZ _;refine#[.ref c.heap.objs.size,upd d c.heap.objs.size^.lst k,f.laid (t':=c.toks) (λb u e=>AC _ e) (aZ _) ?_,rfl,q _ l];exact#[z,j,0,r,GM _ rfl]
end
abbrev Sp:=List V->Hp->VK->XK->Prop
abbrev pF:=List Env->Hp->Shared->XK->Value->Shared->Prop
structure Env0 (P:Program) (w:World) (K:ad) (mg:Str->Option Value) (base:Heap) (A:Around) (outer:List Env) (s:Shared) (H:Hp):Prop where
 frames:A.frames\outer
 mod:Mod K mg base
 bs:∀b o,base.get? b\o->s.heap.get? b\o/\H b=none
 bsz:base.objs.size<=s.heap.objs.size
 funs:s.heap.FunFrames base outer
 frf:∀b∈uQ outer,H b=none
 hok:jj P w H s.heap
 bare:AllBare s.gens
def CE(outer:List Env)(P:Program)(w:World)(H:Hp)(s:Shared)(Q:VK)(u:Value)(a:Shared):Prop:=
 ∃v b,a.os=s.os/\AllBare a.gens/\Un (uQ outer) [] H b s.heap a.heap/\jj P w b a.heap/\RelV v u/\Q v b
def CR(b:pF)(outer:List lz)(P:ee)(w:ei)(H:Hp)(s:c_)(Q:VK)(E:XK)(r:lb)(a:c_):Prop:=
 match r with
 | .ok^.ret u=>CE outer P w H s Q u a
 | .ok _=>False
 | .error e=>b outer H s E e a
structure FnOk (P:ee) (w:ei) (K:ad) (mg:eg->Option b_) (base:Heap) (CX:pF) (k:Nat) (f:Addr) (fd:ge) (ps:List eg) (sp:Sp):Prop where
 len:∀vs H Q E,sp vs H Q E->vs.length=ps.length
 run:∀(A:f5)(outer:List lz)(s:c_)(H:Hp)(args:Args)(us:List b_)(vs:List V)(Q:VK)(E:XK),b8 k A->Env0 P w K mg base A outer s H->BindsTo s fd args^ps.zip us->Vals vs us->sp vs H Q E->
  gj (d5 P w) A (.call (.ref f) args) (CR CX outer P w H s Q E) s
theorem FnOk.mono{P:ee}{w:ei}{K:ad}{b:eg->Option b_}{base:Heap}(F:FnOk P w K b base c j f d ps e)(h:j<=k):
  FnOk P w K b base c k f d ps e:=#[F.len,λA outer s H a g i Q E l=>F.run A outer s H a g i Q E^l.mono h]
def FnOk.imp{P:ee}{w:ei}{K:ad}{base:Heap}{d:pF}{f:Addr}{g i:Sp}(F:FnOk P w K c base d k f e ps g)
  (h:∀a H Q E,i a H Q E->g a H Q E):FnOk P w K c base d k f e ps i:=
 #[λa H Q E q=>F.len a H Q E^h _ _ _ _ q,λA outer s H b j a Q E l m n o p=>F.run A outer s H b j a Q E l m n o^h _ _ _ _ p]
def Env0.make{P:ee}{w:ei}{K:ad}{a:eg->Option b_}{base:Heap}{A:f5}{outer:List lz}{s:c_}{H:Hp}(e:Env0 P w K a base A outer s H)(C:Addr)(b:List b_)(c:List (eg×b_)):
  Env0 P w K a base (A.under^.builtin "type.__call__" #[.ref C::b,c]) outer s H:=#[by first|exact e.frames| (simpa [Around.under,Code.envs,Code.isFrame,pushEnvs] using e.frames),e.mod,e.bs,e.bsz,e.funs,e.frf,e.hok,e.bare]
section
variable {X:Cx} {pins:List (Addr×Obj)} {σ:St} {H:Hp} {s s':Shared}
def Inv.Ho(I:Inv X pins σ H s):Env0 X.prog X.w X.K X.mg X.base X.A X.stack s H:=
 #[I.ok.frames,I.ok.mod,I.bs,jz I.ok.bsz I.sz,I.stack,I.Bx,I.hok,I.bare]
def Inv.after(I:Inv X pins σ H s)(h:CE X.stack X.prog X.w H s Q u s'):EP X pins σ Q u s':=by
 let⟨v,c,os,bare,un,hok,r,q⟩:=h;let⟨e,g,d,t,a⟩:=s';obtain rfl:a=s.os:=os;exact#[v,c,I.call (h':=e) (g':=g) (d':=d) (t':=t) (ch:= []) un hok bare^λb z=>absurd z^by simp,r,q]
end
def aaq(a:Sp)(b:List V)(E:XK)(t:TA):TE:=λc H Q=>t c H λd e=>a (d++b) e Q E
def Lg(C:Addr)(m:Str)(d:Sp)(e:List V)(E:XK)(f:TE)(t:TA):TE:=λb H Q=>f b H λx c=>∃a g fs,x= .ref a/\c a\(.ins C g fs)/\fs.lookup m=none/\
 t b c λh i=>d (x::(h++e)) i Q E
def aat(C:Addr)(c:Sp)(d:List V)(E:XK)(t:TA):TE:=λe H Q=>t e H λf b=>∀x a,b x=none->b a=none->a≠x->
 c (.ref x::(f++d)) (upd (upd b a^.own x) x^.ins C a []) (λv g=>v= .aS/\Q (.ref x) g) E
def Binds(K:ad)(d:ge)(b:List eg)(c:List b_):Prop:=
 ∀(s:c_)(a:List b_),K.In s.heap->(a++c).length=b.length->BindsTo s d #[a,[]]^b.zip (a++c)
def Binds.all{K:ad}{c:ge}{b:List eg}(h:∀a:List b_,a.length=b.length->li c #[a,[]]=pure^b.zip a):Binds K c b []:=λs a _ d=>by
 rw[fe] at d ⊢;exact .of_eq^h a d
def Passes(c:pF)(X:Cx)(E:XK):Prop:=∀(a:List (Addr×Obj))(d:St)(H:Hp)(s:Shared)(e:Value)(b:Shared),Inv X a d H s->c X.stack H s E e b->X.xe e b
section
variable {X:Cx} {CX:pF} {k:Nat} {f C:Addr} {fd:FuncData} {ps:List Str} {sp:Sp} {bN:List V} {ds:List Value} {E:XK} {x m:Str} {p pos apos:Pos} {e o:Expr} {es:List Expr} {ta:TE} {t:TA}
theorem FU{pins:List (Addr×Obj)}{σ:St}{H:Hp}{s:Shared}{Q:VK}{us:List Value}{vs:List V}(F:FnOk X.prog X.w X.K X.mg X.base CX k f fd ps sp)(hr:b8 k X.A)(hb:Binds X.K fd ps ds)(hd:Vals bN ds)(hx:Passes CX X E)
  (I:Inv X pins σ H s) (r:Vals vs us) (h:sp (vs++bN) H Q E):wpAny (model X.prog X.w) X.A (call (.ref f) us) (EP X pins σ Q) X.xe s:=by
 have r2:Vals (vs++bN) (us++ds):=r.append hd;have hl:(us++ds).length=ps.length:=by rw[<-r2.length];exact F.len _ _ _ _ h
 refine wpAny_call (codeAny_mono (F.run X.A X.stack s H #[us,[]] (us++ds) (vs++bN) Q E hr I.Ho (hb s us I.dE hl) r2 h) λr s' hq=>?_);cases r with
 |error e=>exact hx pins σ H s e s' I hq
 |ok fl=>
  cases fl with
  |ret u=>exact I.after hq
  |next=>exact False.elim hq
  |brk=>exact False.elim hq
  |cont=>exact False.elim hq
def bM(F:FnOk X.prog X.w X.K X.mg X.base CX k f fd ps sp)(c:b8 k X.A)(d:Gl X x)(g:X.mg x\(.ref f))(i:am X.K^.ref f=true)(j:Binds X.K fd ps ds)(l:Vals bN ds)(n:Passes CX X E)
  (u:PA X (e::es) t) (v:(x==("__debug__":eg))=false<|>zm) (y:d4 (e::es) X.env=(false,f7 e X.env)::d4 es X.env<|>zn) (z:(gd pos^d4 es X.env).any (·.1)=false<|>zn):
  PE X (.Call (.Name x p) (e::es) [] pos)^aaq sp bN E t:=by
 intro a s B H Q I h;refine SZ^i6 I d g ?_ v;refine adA (h₀:=X.base) I.ok.mod.kin i (thn (u pos a s B H _ I h) λG J #[L,M,b,r,q]=>#[b.dE,?_]) y z;exact FU F c j l n b r q
def Sk{pl:j_ Bool}(v:PE X o ta)(c:zS X.K C)(d:Meth X.K C m f)(F:FnOk X.prog X.w X.K X.mg X.base CX k f fd ps sp)(y:b8 k X.A)(z:Binds X.K fd ps ds)(B:Vals bN ds)(G:Passes CX X E)(J:PA X (e::es) t)
  (L:d4 (e::es) X.env=(false,f7 e X.env)::d4 es X.env<|>zn) (M:(gd pos^d4 es X.env).any (·.1)=false<|>zn)
  (N:f7 (.Call (.Attribute o m apos) (e::es) [] pos) X.env=(do
   let g <-f7 o X.env
   ie apos.atName
   let (f,first) <-gP [g] (km g m pl)
   callWith pos f first (gd pos^d4 (e::es) X.env)^im pos^g6 [] X.env)<|>zn):
  PE X (.Call (.Attribute o m apos) (e::es) [] pos)^Lg C m sp bN E ta t:=by
 intro b s i H Q I h;refine aer (pl:=pl) (thn (v b s i H _ I h) λu O #[x,P,j,R,a,Z,fs,S,T,l,q]=>?_) N;subst S;obtain rfl:u=Value.ref a:=R;refine yv j T c d l ?_;refine adA (first:= [.ref a]) (h₀:=X.base) I.ok.mod.kin d.kp (thn (J pos b O i P _ j q) λus p #[vs,H2,n,r,Y]=>#[n.dE,?_]) L M;exact FU (us:= .ref a::us) (vs:= .ref a::vs) F y z B G n (.cons rfl r) Y
def N9{pl:j_ Bool}(j:PE X o ta)(c:zS X.K C)(g:Meth X.K C m f)(F:FnOk X.prog X.w X.K X.mg X.base CX k f fd ps sp)(n:b8 k X.A)(r:Binds X.K fd ps ds)(v:Vals bN ds)(y:Passes CX X E)
  (z:f7 (.Call (.Attribute o m apos) [] [] pos) X.env=(do
   let i <-f7 o X.env
   ie apos.atName
   let (f,first) <-gP [i] (km i m pl)
   callWith pos f first (gd pos^d4 [] X.env)^im pos^g6 [] X.env)<|>zn):
  PE X (.Call (.Attribute o m apos) [] [] pos)^Lg C m sp bN E ta XJ:=by
 intro b s B H Q I h;refine aer (pl:=pl) (thn (j b s B H _ I h) λu M #[x,N,d,G,a,O,fs,J,L,l,q]=>?_) z;subst J;obtain rfl:u=Value.ref a:=G;refine yv d L c g l ?_;exact PySem.W.callWith_K0 (first:= [.ref a]) d.dE g.kp^FU (us:= [.ref a]) (vs:= [.ref a]) F n r v y d (.cons rfl .nil) q
structure Mk (K:ad) (C f:Addr):Prop where
 makes:dn K C=true
 init:ak K (.ref C) "__init__"\(some^.ref f)
 fn:bu K^.ref f=true
 kp:am K^.ref C=true
theorem Oo{pins:List (Addr×Obj)}{σ:St}{H:Hp}{s:c_}{Q:VK}{us:List b_}{vs:List V}(M:Mk X.K C f)(F:FnOk X.prog X.w X.K X.mg X.base CX k f fd ps sp)(hr:b8 (k+1) X.A)(hb:Binds X.K fd ps ds)(hd:Vals bN ds)
  (hx:Passes CX X E) (I:Inv X pins σ H s) (r:Vals vs us)
  (h:∀x dx,H x=none->H dx=none->dx≠x->sp (.ref x::(vs++bN)) (upd (upd H dx^.own x) x^.ins C dx []) (λv H2=>v= .aS/\Q (.ref x) H2) E):
  d_ (d5 X.prog X.w) X.A (call (.ref C) us) (EP X pins σ Q) X.xe s:=by
 have hq:=h (s.heap.objs.size+1) s.heap.objs.size (I.hok.fresh^lS _) (I.hok.fresh^aZ _)^bX^Nat.lt_succ_self _;have I2:=Inv.made (C:=C) I;have r2:Vals (V.ref (s.heap.objs.size+1)::(vs++bN)) (Value.ref (s.heap.objs.size+1)::(us++ds)):= .cons rfl^r.append hd
 have hl:(Value.ref (s.heap.objs.size+1)::us++ds).length=ps.length:=by
  have e:=r2.length;rw[F.len _ _ _ _ hq] at e;exact e.symm
 refine i_^D6 (f:=f) I.dE M.makes M.init (beq_iff_eq.mp M.fn) (je (F.run _ X.stack _ _ #[Value.ref (s.heap.objs.size+1)::us,[]] (Value.ref (s.heap.objs.size+1)::(us++ds)) _ _ E (hr.make C us [])
  (I2.Ho.make C us []) (hb _ (Value.ref (s.heap.objs.size+1)::us) I2.dE hl) r2 hq) λr s' nW=>?_)
 cases r with
 |error e=>exact hx pins σ _ _ e s' I2 nW
 |ok fl=>
  cases fl with
  |ret u=>
   rfl';let⟨v,H',I3,rv,ev,q3⟩:=I2.after nW;subst ev;ac_rfl;exact#[rv,#[V.ref (s.heap.objs.size+1),H',I3,rfl,q3]]
  |next=>exact False.elim nW
  |brk=>exact False.elim nW
  |cont=>exact False.elim nW
def Sj(M:Mk X.K C f)(F:FnOk X.prog X.w X.K X.mg X.base CX k f fd ps sp)(c:b8 (k+1) X.A)(d:Gl X x)(g:X.mg x\(.ref C))(i:Binds X.K fd ps ds)(j:Vals bN ds)(l:Passes CX X E)
  (n:PA X (e::es) t) (u:(x==("__debug__":eg))=false<|>zm) (v:d4 (e::es) X.env=(false,f7 e X.env)::d4 es X.env<|>zn) (y:(gd pos^d4 es X.env).any (·.1)=false<|>zn):
  PE X (.Call (.Name x p) (e::es) [] pos)^aat C sp bN E t:=by
 intro a s z H Q I h;refine SZ^i6 I d g ?_ u;refine adA (h₀:=X.base) I.ok.mod.kin M.kp (thn (n pos a s z H _ I h) λB G #[J,L,b,r,q]=>#[b.dE,?_]) v y;exact Oo M F c i j l b r q
end
section
variable {X:Cx} {CX:pF} {k:Nat} {f C:Addr} {fd:FuncData} {ps ks:List Str} {sp:Sp} {E:XK} {x m:Str} {p pos apos adf:Pos} {e o:Expr} {es:List Expr} {kws:List Keyword} {te ta:TE} {t tk:TA} {nm:Option Str}
variable {g:List Value->List Value->List Value} {gV:List V->List V->List V}
end
structure aH (N P:List Str) (sc:Scope):Prop where
 kind:sc.kind= .function
 co:sc.isCoroutine=false
 gen:sc.isGenerator=false
 nd:N.Nodup
 pre:N.take P.length=P
 par:∀x∈P,sc.names.lookup x\.local\/sc.names.lookup x\.cell
 nofree:∀y∈sc.names,y.2≠ .free
theorem z7{kindOf:eg->Option io}{x:eg}:∀{binds:List (eg×b_)}{m:eg->Option b_},(∀v,(x,v)∉binds)->bindL kindOf binds m x=m x
 | [],_,_=>rfl
 | (n,v)::r,m,h=>by
  unfold bindL;rw[z7 λw hw=>h w^dS _ hw]
  split
  .have:x≠n:=by rintro rfl;exact h v cF
   simp[this]
  .rfl
theorem z5{kindOf:eg->Option io}{x:eg}:∀{binds:List (eg×b_)}{m:eg->Option b_},(∀v,(x,v)∉binds)->bindC kindOf binds m x=m x
 | [],_,_=>rfl
 | (n,v)::r,m,h=>by
  unfold bindC;rw[z5 λw hw=>h w^dS _ hw]
  split
  .rfl
  .have:x≠n:=by rintro rfl;exact h v cF
   simp[this]
theorem z6{kindOf:Str->Option NameKind}{x:Str}{v:Value}:∀{P:List Str}{a:List Value}{i:Nat}{m:Str->Option Value},P.Nodup->P[i]?\x->a[i]?\v->kindOf x\.local->
  bindL kindOf (P.zip a) m x\v
 | [],_,_,_,_,h,_,_=>by simp at h
 |_::_,[],_,_,_,_,h,_=>by simp at h
 |p::P,w::a,0,m,d,b,c,e=>by
  simp at b c;subst b;subst c;show bindL kindOf ((p,w)::P.zip a) m p=_;unfold bindL;rw[z7 λv f=>(kD.mp d).1 (afz f).1,ir e];simp
 |p::P,w::a,i+1,m,d,b,c,e=>by
  show bindL kindOf ((p,w)::P.zip a) m x=_;unfold bindL;exact z6 (i:=i) (kD.mp d).2 (~~~b) (~~~c) e
theorem zZ{kindOf:Str->Option NameKind}{x:Str}{v:Value}:∀{P:List Str}{a:List Value}{i:Nat}{m:Str->Option Value},P.Nodup->P[i]?\x->a[i]?\v->kindOf x≠some .local->
  bindC kindOf (P.zip a) m x\v
 | [],_,_,_,_,h,_,_=>by simp at h
 |_::_,[],_,_,_,_,h,_=>by simp at h
 |p::P,w::a,0,m,d,b,c,e=>by
  simp at b c;subst b;subst c;show bindC kindOf ((p,w)::P.zip a) m p=_;unfold bindC;rw[z5 λv f=>(kD.mp d).1 (afz f).1,mo e];simp
 |p::P,w::a,i+1,m,d,b,c,e=>by
  show bindC kindOf ((p,w)::P.zip a) m x=_;unfold bindC;exact zZ (i:=i) (kD.mp d).2 (~~~b) (~~~c) e
noncomputable def start(N:List Str)(a:List V):St:=a.map some++b5 (N.length-a.length) none
noncomputable def lh(g:pF)(P:ee)(w:ei)(K:ad)(mg:eg->Option b_)(base:Heap)(N:List eg)(b:eg)(a:Scope)(f:Addr)(d:b_)(A:f5)(outer:List lz)(s:c_)(H:Hp)(E:XK):Cx where
 prog:=P
 w:=w
 K:=K
 mg:=mg
 base:=base
 A:=A.deeper (jW b a s.heap.objs.size f d)
 N:=N
 s₀:=s
 H₀:=H
 env:=jW b a s.heap.objs.size f d
 outer:=outer
 stack:=jW b a s.heap.objs.size f d::outer
 ex:= []
 calm:=true
 fn:=λ_=>true
 pn:= []
 xe:=λe h=>d_ (d5 P w) (A.deeper^jW b a s.heap.objs.size f d) (leaving (jW b a s.heap.objs.size f d) e) (λ_ c=>g outer H s E e c) (λi c=>g outer H s E i c) h
def C9{a:Scope}{n:Nat}(h:a.names.lookup x\.cell):∃c,(cellsFrom n a.names []).lookup x\c:=by
 have q:=afF a.names n []^.inl h;exact Option.isSome_iff_exists.mp q
theorem Kc{O:pF}{P:ee}{w:ei}{K:ad}{J:eg->Option b_}{base:Heap}{N m:List eg}{g:eg}{d:Scope}{f:Addr}{F:b_}{A:f5}{outer:List lz}{s Q:c_}{H:Hp}{E:XK}{L:List b_}{o:List V}
  (S:aH N m d) (X:A.handled=none) (l:Env0 P w K J base A outer s H) (hl:o.length=m.length) (r:Vals o L)
  (x:InCallC s s.heap.objs.size (bindL (jW g d s.heap.objs.size f F).kindOf (m.zip L) λ_=>none) (cellsFrom (s.heap.objs.size+1) d.names []) (bindC (jW g d s.heap.objs.size f F).kindOf (m.zip L) λ_=>none) Q):
  Inv (lh O P w K J base N g d f F A outer s H E) [] (start N o) H Q:=by
 have cR:m.length<=N.length:=by have:=IR cI S.pre;rw[hV] at this;lia
 let⟨G,tk,rfl,R⟩:=x.done;have M:∀b:Addr,b∉(lh O P w K J base N g d f F A outer s H E).ex:=λb z=>absurd (show b∈([]:List Addr) from z)^by simp
 refine#[#[l.mod,S.kind,rfl,rfl,aZ _,λy z c G j=>?_,λy t=>?_,λy c _ h=>?_,λ_=>X,Around.frames_deeper l.frames, .inr #[rfl,rfl],λb z=>absurd z^M b,l.bs,l.bsz,λb _ _=>M b,λb z=>absurd z^M b,l.funs,l.frf],
  rfl,l.bare,Un.kept R,#[_,x.toInCall.ns,λi y v G j h3=>?_],λy c h=>#[_,x.cell y c h],l.hok.fresh^aZ _,λy c h=>?_,λp B=>absurd (show p∈([]:List (Addr×Obj)) from B)^by simp,l.hok.kept R,?_]
 .exact name_of_addr x.apart (adC G)^adC j
 .have t:d.names.lookup y\.cell\/d.names.lookup y\.free:=t
  rcases t with t|t
  .exact C9 t
  .exact absurd rfl^S.nofree _^adC t
 .exact lR^x.above y c^adC h
 .have I:i<o.length:=by
   unfold start at j
   by_cases I:i<o.length
   .exact I
   .rw[jg^~~~I] at j
    rw[yU] at j
    split at j<;>cases j
  have Y:o[i]?\v:=by
   unfold start at j;rw[iR^~~~I,cL] at j
   cases e:o[i]? with
   |none=>rw[e] at j;cases j
   |some a=>rw[e] at j;cases j;rfl
  let⟨u,T,Z⟩:=r.get Y
  have B:m[i]?\y:=by
   rw[<-S.pre,Gx ()];exact G
  have C:m.Nodup:=by rw[<-S.pre];exact S.nd.sublist^List.take_sublist _ _
  exists u,Z
  rcases S.par y^cU B with k|k
  .exact .inl #[k,z6 C B T k]
  .obtain⟨c,e⟩:=C9 (n:=s.heap.objs.size+1) k
   refine .inr #[.inl k,c,e,?_];have q:=x.cell y c e;rw[zZ C B T^by show d.names.lookup y≠_;rw[k];decide] at q
   exact q
 .exact l.hok.fresh^lR^x.above y c^adC h
 .unfold start
  show _=N.length;rw[dJ,aI,yW];lia
theorem Qd{B:pF}{P:ee}{w:ei}{K:ad}{C:eg->Option b_}{base:Heap}{k:Nat}{f:Addr}{i c:eg}{d:Arguments}{g:List Stmt}{a:Scope}{X kV p Y l Z oc:b_}{an od:Option Addr}
  {FN:Array^Option b_} {N F:List eg} {L:Sp} (lk:K.lookup f\#[oc,od, .func^bv i c d g a X kV p Y an l Z,FN]) (jF:bf K l c=true) (S:aH N F a)
  (len:∀h H Q E,L h H Q E->h.length=F.length)
  (lA:∀(A:f5)(outer:List lz)(s:c_)(H:Hp)(h:List V)(Q:VK)(E:XK),b8 k^A.deeper^jW c a s.heap.objs.size f l->L h H Q E->
   ∃t,kF (lh B P w K C base N c a f l A outer s H E) g t/\t {nx:=λ_ j=>Q .aS j,rt:=Q} (start N h) H):
  FnOk P w K C base B (k+1) f (bv i c d g a X kV p Y an l Z) F L:=by
 refine#[len,λA outer s H args us h Q E M z hb r CA=>?_];have hl:=len _ _ _ _ CA;have KX:K.In s.heap:=z.mod.kin.keeps λb o e=>(z.bs b o e).1;have O:s.heap.NoLimit:=z.mod.nolimit.keeps λb o e=>(z.bs b o e).1
 have Zi:∀y∈F.zip us,a.names.lookup y.1\.local\/(a.names.lookup y.1\.cell/\((cellsFrom (s.heap.objs.size+1) a.names []).lookup y.1).isSome=true):=λ#[n,v] hy=>by
  rcases S.par n (afz hy).1 with q|q
  .exact .inl q
  .exact .inr #[q,afF _ _ _^.inl q]
 refine codeAny_call_function M.depth (KX _ _ lk) rfl S.co S.gen rfl (PySem.W.codeRec_of KX jF)^hb _ _ _ _ ?_;refine wpAny_newFunctionEnv_cells S.kind Zi λenv he s1 x=>?_;subst he;let⟨t,ht,hq⟩:=lA A outer s H h Q E (M.deeper _) CA;refine#[O.keeps x.toInCall.keep,codeAny_func ?_];have I:Inv (lh B P w K C base N c a f l A outer s H E) [] (start N h) H s1:=Kc S M.hd z hl r x;refine hH (ht [] s1 (start N h) H _ I hq) (λfl R m=>?_) λe R m=>m
 have fin:∀{G:St}{j:Hp}{v:V}{u:b_},Inv (lh B P w K C base N c a f l A outer s H E) [] G j R->RelV v u->Q v j->CE outer P w H s Q u R:=
  λ {G j v u} J T q=>#[v,j,J.os,J.bare,J.base,J.hok,T,q]
 cases fl with
 |ret u=>
  let⟨v,G,j,J,T,q⟩:=m;exact fin J T q
 |next=>
  let⟨G,j,J,q⟩:=m;exact fin (v:=V.aS) (u:=Value.none) J rfl q
 |brk=>
  obtain⟨_,_,_,q⟩:=m;exact False.elim q
 |cont=>
  obtain⟨_,_,_,q⟩:=m;exact False.elim q
section
variable {X:Cx} {x:Str} {p pos:Pos} {e:Expr} {es:List Expr} {t:TA} {id T:String} {r:List V->Hp->VK->Prop}
def tCB(r:List V->Hp->VK->Prop)(t:TA):TE:=λa H Q=>t a H λb c=>r b c Q
theorem eS(c:cV X (.builtin id) r)(d:Gl X x)(f:X.mg x=none)(g:f8 x\(.builtin id))(i:PA X (e::es) t)(j:x≠"__name__"<|>zm)(k:(x==("__debug__":eg))=false<|>zm)
  (l:d4 (e::es) X.env=(false,f7 e X.env)::d4 es X.env<|>zn) (m:(gd pos^d4 es X.env).any (·.1)=false<|>zn):PE X (.Call (.Name x p) (e::es) [] pos)^tCB r t:=by
 intro a s b H Q I h;refine SZ^kK I d f g ?_ j k;exact aeD (thn (i pos a s b H _ I h) λn o #[q,u,v,w,y]=>c a o b u q n Q v w y) l m
def A2(c:cV X (.type T) r)(d:Gl X x)(f:X.mg x=none)(g:f8 x\(.type T))(i:PA X (e::es) t)(j:x≠"__name__"<|>zm)(k:(x==("__debug__":eg))=false<|>zm)
  (l:d4 (e::es) X.env=(false,f7 e X.env)::d4 es X.env<|>zn) (m:(gd pos^d4 es X.env).any (·.1)=false<|>zn):PE X (.Call (.Name x p) (e::es) [] pos)^tCB r t:=by
 intro a s b H Q I h;refine SZ^kK I d f g ?_ j k;exact W1 (thn (i pos a s b H _ I h) λn o #[q,u,v,w,y]=>c a o b u q n Q v w y) l m
end
end L2
namespace HT
open PySem PyProof.Rows
noncomputable def lexLt:List Int->List Int->Bool
 | [],[]=>false
 | [],_::_=>true
 |_::_,[]=>false
 |x::a,y::b=>if x=y then lexLt a b else decide (x<y)
def iO(x y:Int)(a b:List Int):lexLt (x::a) (y::b)=if x=y then lexLt a b else decide (x<y):=rfl
def AG:lexLt [] []=false:=rfl
def zk(y:Int)(a:List Int):lexLt [] (y::a)=true:=rfl
def zj(x:Int)(a:List Int):lexLt (x::a) []=false:=rfl
def Nf(A:Around)(s:Shared)(a:Int)(t:Tok)(c:Int)(u:Tok):∃e,SeqAt.EqAt A s (.int a t) (.int c u) e/\(e=true↔a=c):=
 #[(a==c),ad2 a t c u,by simp]
def Ef(A:f5)(s:c_)(a:Int)(t:Tok)(c:Int)(u:Tok)(prog:ee)(w:ei)(E:b_->c_->Prop)(Q:b_->c_->Prop)(h:Q (.bool (decide (a<c))) s):
  d_ (d5 prog w) A (richCompare .Lt (.int a t)^.int c u) Q E s:=
 (PyProof.Rows.lt_int h:d_ (d5 prog w) A (ff .Lt (.int a t)^.int c u) Q E s)
section
open PySem.SeqAt
open PySem.AutoSeq1 (wpAny_loadPart')
open PySem.MeetsSeq PySem.MeetsSeq2 PySem.MeetsSeq3
end
section
variable {prog:Program} {w:World} {A:Around} {E:Value->Shared->Prop} {s:Shared}
theorem Ph(r:IsTup s.heap t c.toArray)(u:IsTup s.heap b a.toArray)(h:c≠ [])
  (v:a= []->Q (.ref t) s) (x:a≠ []->Q (.ref s.heap.objs.size) {s with heap:=s.heap.push {cls:= .type "tuple",data:= .seq (c++a).toArray}})
  (y:c.length+a.length<=sizeLine):d_ (d5 prog w) A (h_ .Add (.ref t)^.ref b) Q E s:=by
 rfl';obtain⟨⟨cls,i,data,j⟩,f,k,n,l⟩:=id r;obtain⟨⟨B,m,data2,o⟩,g,p,q,d⟩:=id u;ac_rfl;simp only at k l p d;subst k l p d;have e:c.toArray++a.toArray=(c++a).toArray:=by simp
 by_cases hw:a= []
 .exact concat_meets #[_,f,rfl] #[_,g,rfl] noFill_tuple_add seq_tuple_add afG afw (afm _ _)
   (tuple_addW1 t b c.toArray a.toArray n q i m j o (~~~h)^by simp[hw]) #[f,g,v hw]
 .refine concat_meets #[_,f,rfl] #[_,g,rfl] noFill_tuple_add seq_tuple_add afG afw (afm _ _)
   (tuple_addW2 t b c.toArray a.toArray n q i m j o (~~~h) (~~~hw)^by rw[cE,cE];exact y) #[f,g,?_]
  rw[e];exact x hw
noncomputable def cn(n d:Nat):Option Int->Nat
 |none=>d
 |some v=>if v<0 then(v+(n:Int)).toNat else min v.toNat n
def El(n d:Nat):cn n d none=d:=rfl
def IA(n d k:Nat):cn n d^some (k:Int)=min k n:=by
 show(if (k:Int)<0 then((k:Int)+(n:Int)).toNat else min (k:Int).toNat n)=min k n;rw[mo (),lP]
def VZ(n d:Nat)(b:d<=n)(o:Option Int):cn n d o<=n:=by
 cases o with
 |none=>exact b
 |some v=>
  show(if v<0 then(v+(n:Int)).toNat else min v.toNat n)<=n
  by_cases a:v<0
  .rw[ir a];lia
  .rw[mo a];exact afn _ _
def GZ(v:Int)(n d:Nat):(if v<0 then max (v+(n:Int)) 0 else min v (n:Int))=((cn n d^some v:Nat):Int):=by
 show(if v<0 then max (v+(n:Int)) 0 else min v (n:Int))=(((if v<0 then(v+(n:Int)).toNat else min v.toNat n):Nat):Int)
 by_cases a:v<0
 .simp only[ir a];lia
 .simp only[mo a];lia
def GO(lo a:Option Int)(n:Nat):Builtin.Slice.sliceAdjust lo a 1 (n:Int)=(((cn n 0 lo:Nat):Int),((cn n n a:Nat):Int)):=by
 have b:¬((1:Int)<0):=()
 unfold Builtin.Slice.sliceAdjust;simp only[b,Pi];refine UV ?_ ?_
 .cases lo with
  |none=>rfl
  |some v=>exact GZ v n 0
 .cases a with
  |none=>rfl
  |some v=>exact GZ v n n
def Ik(i j:Nat):Builtin.Slice.slicePlaces (i:Int) (j:Int) 1=j-i:=by
 unfold Builtin.Slice.slicePlaces;have a:(1:Int)>0:=()
 simp only[a,adD,Int.ediv_one]
 split<;>lia
def yM(p:IsPart v o)(h:Q o s):wpAny (model prog w) A (Builtin.Slice.slicePartIndex v) Q E s:=by
 cases p with
 |none=>exact slicePart_none h
 |int i t=>exact slicePart_int h
theorem wj{f:Addr}{b c:b_}{lo a:Option Int}{n:Nat}{Q:Int×Int×Nat->c_->Prop}(g:s.heap.IsSliceOf f b c .none)(pl:IsPart b lo)(i:IsPart c a)
  (h:Q (((cn n 0 lo:Nat):Int),1,cn n n a-cn n 0 lo) s):d_ (d5 prog w) A (Builtin.Slice.sliceApplied (.ref f)^pure (n:Int)) Q E s:=by
 rfl';let⟨os,d,k,e⟩:=id g;ac_rfl;unfold Builtin.Slice.sliceApplied Builtin.Slice.sliceFields;refine a_^a_^adu d e (x:=b) rfl^a_^adu d e (x:=c) rfl^a_^adu d e (x:= .none) rfl^tz ?_;refine a_^slicePart_none ?_;rw[mo ∅]
 refine a_^yM pl^a_^yM i^a_^tz ?_;show d_ _ _ (match Builtin.Slice.sliceAdjust lo a 1 (n:Int) with| (lo,a)=>pure (lo,(1:Int),Builtin.Slice.slicePlaces lo a 1)) _ _ s
 rw[GO lo a n];show d_ _ _ (pure (((cn n 0 lo:Nat):Int),(1:Int),Builtin.Slice.slicePlaces ((cn n 0 lo:Nat):Int) ((cn n n a:Nat):Int) 1)) _ _ s;rw[Ik];exact tz h
def Od(a:Array Value)(i k:Nat):((aj k).filterMap λ(m:Nat)=>a[((i:Int)+(m:Int)*1).toNat]?).toArray=((a.toList.drop i).take k).toArray:=by
 have e:(λ(m:Nat)=>a[((i:Int)+(m:Int)*1).toNat]?)=λm=>a[i+m]? :=by
  funext m
  have:((i:Int)+(m:Int)*1).toNat=i+m:=()
  rw[this]
 rw[e]
 have:=pick_run a i k
 rw[List.filterMap_map] at this;have b:((λx=>a[x]?)∘λx=>i+x)=λm=>a[i+m]? :=rfl;rw[b] at this;rw[this]
theorem tJ{t e:Addr}{a:Array b_}{i j:b_}{lo b:Option Int}{Q:b_->c_->Prop}(c:IsTup s.heap t a)(k:s.heap.IsSliceOf e i j .none)(pl:IsPart i lo)(l:IsPart j b)
  (hw:¬(cn a.size 0 lo=0/\cn a.size a.size b=a.size))
  (h:Q (.ref s.heap.objs.size) {s with heap:=s.heap.push {cls:= .type "tuple",data:= .seq ((a.toList.drop^cn a.size 0 lo).take (cn a.size a.size b-cn a.size 0 lo)).toArray}})
  (p:a.size<=sizeLine):d_ (d5 prog w) A (getItem (.ref t)^.ref e) Q E s:=by
 have d:sizeOk^.seq ((a.toList.drop^cn a.size 0 lo).take (cn a.size a.size b-cn a.size 0 lo)).toArray:=by
  show((a.toList.drop^cn a.size 0 lo).take (cn a.size a.size b-cn a.size 0 lo)).toArray.size<=sizeLine;rw[cE,hV,ji,dj];lia
 have r:cn a.size a.size b<=a.size:=VZ _ _ (aZ _) b;let⟨os,n,f,u⟩:=id k;have g:s.TypeIs (.ref e) "slice":=#[os,n,f];unfold getItem
 try with_reducible refine wpAny_holding ?_
 first|refine a_^fQ ?_ |skip
 refine a_^wpAny_sequenceKey c.typeIs ∅ ?_
 refine a_^wpAny_callSpecial?_slot (name:=Str.ofString "__getitem__") c.typeIs PyProof.Rows.slot_tuple_getitem
  (wpAny_call_entry PyProof.Rows.slot_tuple_getitem c.typeIs entry_tuple_getitem ?_^args_tuple_getitem _ _)
 show d_ _ _ (Builtin.Tuple.tupleItemsOf^.ref t>>=_) _ _ s;refine a_^tupleItemsOf_ c ?_;refine a_^wpAny_typeOf g ?_;rw[if_pos ∅]
 refine a_^wj k pl l ?_
 have o:¬((((cn a.size 0 lo:Nat):Int)==0&&(1:Int)==1&&(cn a.size a.size b-cn a.size 0 lo)==a.size)=true):=by
  intro q;rw[uC,uC] at q;have v:((cn a.size 0 lo:Nat):Int)=0:=eq_of_beq q.1.1;have x:cn a.size a.size b-cn a.size 0 lo=a.size:=eq_of_beq q.2;exact hw #[(),()]
 show d_ _ _ (if (((cn a.size 0 lo:Nat):Int)==0&&(1:Int)==1&&(cn a.size a.size b-cn a.size 0 lo)==a.size)=true then _ else _) _ _ s;rw[if_neg o,Od]
 first
  |exact a_ (m:=Builtin.Tuple.tupleExact _)^jk (fQ #[_,rfl,fQ h]) d
  |exact a_ (m:=Builtin.Tuple.tupleExact _)^jk (a_^fQ^fQ #[_,rfl,fQ h]) d
  |exact a_^a_ (m:=Builtin.Tuple.tupleExact _)^jk (fQ^fQ #[_,rfl,fQ h]) d
  |exact a_^a_ (m:=Builtin.Tuple.tupleExact _)^jk (fQ #[_,rfl,fQ h]) d
end
end HT
namespace L2
open PySem PySem.Spec PyProof.Rows
abbrev TO:=St->Hp->(Option Int->Hp->Prop)->Prop
def PO(X:Cx)(e:Option Expr)(t:TO):Prop:=
 ∀(a:List (Addr×Obj))(s:Shared)(b:St)(H:Hp)(Q:Option Int->Hp->Prop),Inv X a b H s->t b H Q->
  wpAny (model X.prog X.w) X.A (evalPart e X.env) (λu d=>∃o c,Inv X a b c d/\IsPart u o/\Q o c) X.xe s
def Ts:TO:=λ_ H Q=>Q none H
def aaw(t:TE):TO:=λa H Q=>t a H λx b=>∃i,x= .int i/\Q (some i) b
def intsAre_of:∀{b:List b_},Vals (a.map V.int) b->ii b a:=by
 induction a with
 |nil=>intro b r;rw[yh] at r;cases r;exact .nil
 |cons n a c=>
  intro b r;rw[cY] at r;cases r with
  |cons d f=>
   let⟨t,e⟩:=d;subst e;exact .cons n t^c f
section
variable {X:Cx} {e:Expr} {te:TE} {lo hi:Option Expr} {tl th:TO} {pos p2:Pos}
def A6:PO X none Ts:=by
 intro a s b H Q I h;rw[evalPart_none];exact tz #[none,H,I, .none,h]
def qi(h:PE X e te):PO X (some e)^aaw te:=by
 intro a s b H Q I hw;rw[evalPart_some];refine thn (h a s b H _ I hw) λu l c=>?_;rfl';let⟨x,f,g,j,k⟩:=c;let⟨i,rfl,q⟩:=k;let⟨t,rfl⟩:=j;ac_rfl;exact#[some i,f,g, .int i t,q]
def Jh(X:Cx)(r:V->Option Int->Option Int->Hp->VK->Prop):Prop:=
 ∀(a:List (Addr×Obj))(s:c_)(b:St)(H:Hp)(x:V)(v c d:b_)(lo f:Option Int)(g:Addr)(Q:VK),Inv X a b H s->RelV x v->s.heap.IsSliceOf g c d .none->IsPart c lo->IsPart d f->r x lo f H Q->
  ∃T id,typeLookup (.type T) "__getitem__"=pure^some^.builtin id/\s.TypeIs v T/\d_ (d5 X.prog X.w) X.A (getItem v^.ref g) (EP X a b Q) X.xe s
def Jh.or(h:Jh X r)(m:Jh X c):Jh X (λx lo b H Q=>r x lo b H Q\/c x lo b H Q):=by
 intro a s d H x v f g lo b i Q I j k pl l q
 rcases q with q|q
 .exact h a s d H x v f g lo b i Q I j k pl l q
 .exact m a s d H x v f g lo b i Q I j k pl l q
def tSl(r:V->Option Int->Option Int->Hp->VK->Prop)(b:TE)(c d:TO):TE:=λa H Q=>b a H λx f=>c a f λl g=>d a g λu h=>r x l u h Q
theorem rL(m:Jh X r)(n:PE X e te)(o:PO X lo tl)(p:PO X hi th):PE X (.Subscript e (.Slice lo hi none p2) pos)^tSl r te tl th:=by
 intro a s d H Q I h;refine Subscript_ (thn (n a s d H _ I h) λv t f=>?_);rfl';let⟨x,y,z,A,B⟩:=f;ac_rfl;refine wpAny_Slice (thn (o a t d y _ z B) λi C #[l,E,F,pl,G]=>thn (p a C d E _ F G) λj c f=>?_);rfl';let⟨u,k,J,L,M⟩:=f;ac_rfl;rw[evalPart_none];refine tz ?_;have N:Inv X a d k {c with heap:=c.heap.push {cls:= .type "slice",data:= .fields [i,j, .none].toArray}}:=J.kept (t':=c.toks) λb S q=>AC _ q
 let⟨T,id,O,P,R⟩:=m a {c with heap:=c.heap.push {cls:= .type "slice",data:= .fields [i,j, .none].toArray}} d k x v i j l u c.heap.objs.size Q N A (Heap.IsSliceOf.new ..) pl L M
 exact tail_any (ops:= [.ref c.heap.objs.size,v]) P O R^by with_unfolding_all rfl
noncomputable def ju(a:List V)(lo b:Option Int):List V:=(a.drop^HT.cn a.length 0 lo).take (HT.cn a.length a.length b-HT.cn a.length 0 lo)
def nM(a:List V)(lo b:Option Int):(ju a lo b).length<=a.length:=by
 unfold ju;rw[hV,ji];lia
def acm(K:ad):V->Option Int->Option Int->Hp->VK->Prop:=λx lo c H Q=>∃a b,x= .ref a/\fW K H a b/\
 ¬(HT.cn b.length 0 lo=0/\HT.cn b.length b.length c=b.length)/\∀p,H p=none->Q (.ref p)^upd H p^.tup^ju b lo c
def V1:Jh X^acm X.K:=by
 intro i s u H x v w y lo f z Q I l m pl n h;rfl';let⟨a,d,rfl,t,hw,q⟩:=h;subst l;let⟨g,r,j,k⟩:=I.tuple t;have c:g.toArray.size=d.length:=by rw[cE];exact r.length.symm
 ac_rfl;exists "tuple",_,aey.lookup,j.typeIs;refine HT.tJ j m pl n (by rw[c];exact hw) ?_^by rw[c];exact k
 rw[c];refine#[.ref s.heap.objs.size,_,I.laid (t':=s.toks) (o:= .tup^ju d lo f) (λb B q=>AC _ q) (aZ _) ?_,rfl,q _^I.hok.fresh^aZ _];exact#[jz (nM d lo f) k,_,(r.drop^HT.cn d.length 0 lo).take (HT.cn d.length d.length f-HT.cn d.length 0 lo),IsTup.new _ _]
def aal(K:ad):R2:=λx y H Q=>∃a b d c,x= .ref a/\y= .ref b/\fW K H a d/\fW K H b c/\d≠ []/\d.length+c.length<=sizeLine/\
 (c= []->Q (.ref a) H)/\(c≠ []->∀p,H p=none->Q (.ref p)^upd H p^.tup (d++c))
def Vals.AO(r:Vals a b):b= []↔a= []:=by
 cases r with
 |nil=>simp
 |cons _ _=>simp
def RY:OpR X (h_ .Add)^aal X.K:=by
 intro f s F H x y v u Q I i j h;rfl';let⟨a,b,l,m,rfl,rfl,n,p,r,g,t,A⟩:=h;subst i;subst j;let⟨B,d,C,e⟩:=I.tuple n;let⟨J,c,E,e⟩:=I.tuple p;ac_rfl;refine HT.Ph C E (λz=>r^d.AO.mp z) (λz=>#[.ref a,H,I,rfl,t^c.AO.mp z]) (λz=>?_)^by rw[<-d.length,<-c.length];exact g
 refine#[.ref s.heap.objs.size,_,I.laid (t':=s.toks) (o:= .tup (l++m)) (λb L q=>AC _ q) (aZ _) ?_,rfl,A (λw=>z^c.AO.mpr w) _^I.hok.fresh^aZ _];exact#[by rw[dJ];exact g,_,d.append c,IsTup.new _ _]
end
noncomputable def pB(n:Nat)(i:Int):Option Nat:=if 0<=i then(if i<n then some i.toNat else none) else if-(n:Int)<=i then some (i+n).toNat else none
noncomputable def h8{a:Type}(b:List a)(i:Int):Option a:=(pB b.length i).bind λj=>b[j]?
def HL(h:pB n i\j):seqIndex? i n\j/\j<n/\-(n:Int)<=i/\i<n:=by
 unfold pB at h
 by_cases b:0<=i
 .rw[ir b] at h
  by_cases a:i<n
  .rw[ir a] at h
   have e:i.toNat=j:=Fk h;exact#[by rw[seqIndex_of b a,e],(),(),a]
  .rw[mo a] at h;cases h
 .rw[mo b] at h
  by_cases a: -(n:Int)<=i
  .rw[ir a] at h
   have e:(i+n).toNat=j:=Fk h;exact#[by rw[seqIndex_neg () a,e],(),a,()]
  .rw[mo a] at h;cases h
def GQ(h:h8 a i\v):∃j,seqIndex? i a.length\j/\a[j]?\v/\j<a.length/\-(a.length:Int)<=i/\i<a.length:=by
 unfold h8 at h;cases e:pB a.length i with
 |none=>rw[e] at h;cases h
 |some j=>
  rw[e] at h;obtain⟨c,d,f,g⟩:=HL e;exact#[j,c,h,d,f,g]
def c8{j:Nat}(h:a[j]?\v):h8 a (j:Int)\v:=by
 have c:j<a.length:=(cD.mp h).1
 have e:pB a.length (j:Int)\j:=by
  unfold pB;rw[ir (),ir ()];simp
 unfold h8;rw[e];exact h
def MZ(a:List b)(v:b):h8 (a++ [v]) (-1)\v:=by
 have c:(a++ [v]).length=a.length+1:=by simp
 have e:pB (a++ [v]).length (-1)\a.length:=by
  unfold pB;rw[c,mo ∅,ir ()]
  congr 1
  lia
 unfold h8;rw[e];show(a++ [v])[a.length]?\v;simp
def uH(b:fz):Prop:=∀o i,subscripted b false o i=operate [o,i]^getItem o i
def zU(X:Cx)(r:R2):Prop:=
 ∀(c a:fz)(b:List (Addr×Obj))(s:c_)(d:St)(H:Hp)(x y:V)(v u:b_)(Q:VK),Inv X b d H s->RelV x v->RelV y u->r x y H Q->
  subscripted a false v u=operate [v,u]^getItem v u->d_ (d5 X.prog X.w) X.A (subscriptTail c a v u) (EP X b d Q) X.xe s
def OU(X:Cx)(id:String)(r:V->List V->Hp->VK->Prop):Prop:=
 ∀(a:List (Addr×Obj))(s:Shared)(b:St)(H:Hp)(x:V)(c:List V)(v:Value)(d:List Value)(Q:VK),Inv X a b H s->RelV x v->Vals c d->r x c H Q->
  wpAny (model X.prog X.w) X.A (call (.builtin id) (v::d)) (EP X a b Q) X.xe s
section
variable {X:Cx} {a b:Expr} {ta tb:TE} {pos:Pos}
def zU.or(h:zU X r)(l:zU X f):zU X (λx y H Q=>r x y H Q\/f x y H Q):=by
 intro c d e s g H x y v u Q I i j q k
 rcases q with q|q
 .exact h c d e s g H x y v u Q I i j q k
 .exact l c d e s g H x y v u Q I i j q k
def dh(d:zU X r)(e:PE X a ta)(f:PE X b tb)(g:uH b):PE X (.Subscript a b pos)^Ga r ta tb:=by
 intro c s i H Q I h;exact Subscript_ (Pe e f I h λv u j x y k l m n q=>d a b c j i k x y v u Q l m n q^g _ _)
def Mr(K:ad):R2:=λx y H Q=>∃p c i v,x= .ref p/\y= .int i/\aK K H p c/\h8 c i\v/\Q v H
def Xz(K:ad):R2:=λx y H Q=>∃p c i v,x= .ref p/\y= .int i/\fW K H p c/\h8 c i\v/\Q v H
def bU:zU X^Mr X.K:=by
 intro e f c s l H x y v u Q I A B h m;rfl';let⟨p,R,i,z,rfl,rfl,E,F,q⟩:=h;subst A;let⟨t,rfl⟩:=B;let⟨g,r,pl,S⟩:=I.list E;let⟨j,d,G,T,J,L⟩:=GQ F;let⟨w,n,M⟩:=r.get G;have N:=r.length;have Y:=n5;have fin:EP X c l Q w s:=#[z,H,I,M,q];ac_rfl
 by_cases o:0<=i
 .have k:i.toNat=j:=by
   rw[seqIndex_of o L] at d;exact Fk d
  exact item_listR pl.isList o () (by rw[k];simpa using n) fin m
 .have k:(i+(g.toArray.size:Int)).toNat=j:=by
   rw[seqIndex_neg () J] at d
   rw[cE,<-N];exact Fk d
  exact aeg (x:=w) pl.isList.typeIs slot_list_getitem.lookup
   (wpAny_getItem_list_neg (Q:=λr O=>r=w/\EP X c l Q r O) pl.isList () (by rw[cE]<;>lia) () (by rw[k];simpa using n) #[rfl,fin]) m
def Mc:zU X^Xz X.K:=by
 intro d e c s f H x y v u Q I g k h l;rfl';let⟨p,M,i,z,rfl,rfl,n,o,q⟩:=h;subst g;let⟨t,rfl⟩:=k;let⟨A,r,pl,N⟩:=I.tuple n;let⟨j,B,C,O,P,R⟩:=GQ o;let⟨w,E,F⟩:=r.get C;have G:=r.length;have S:=n5;have fin:EP X c f Q w s:=#[z,H,I,F,q];ac_rfl
 exact aeg (x:=w) pl.typeIs slot_tuple_getitem.lookup
  (getItem_tuple (j:=j) (Q:=λr J=>r=w/\EP X c f Q r J) pl () () (by rw[cE,<-G];exact B) (~~~E) #[rfl,fin]) l
def HU(c:List Value)(n j:Nat)(u:Value):Obj.mapSeq (·.setIfInBounds j u) {cls:= .type "list",data:= .seq c.toArray n}={cls:= .type "list",data:= .seq (c.set j u).toArray n}:=by
 simp[Obj.mapSeq]
theorem Inv.lst{c:List (Addr×Obj)}{d:St}{H:Hp}{s:Shared}{p:Addr}{xs:List V}(I:Inv X c d H s)(h:H p\(.lst xs)):
  ∃(its:List Value)(n:Nat),Vals xs its/\s.heap.get? p\{cls:= .type "list",data:= .seq its.toArray n}/\xs.length<=sizeLine:=by
 obtain⟨z,its,n,r,e⟩:=I.hok p _ h;exact#[its,n,r,e,z]
def Inv.Va{its c:List b_}(I:Inv X d j H s)(h:H p\(.lst xs))
  (l:s.heap.get? p\{cls:= .type "list",data:= .seq its.toArray n}) (k:f {cls:= .type "list",data:= .seq its.toArray n}={cls:= .type "list",data:= .seq c.toArray i}) (r:Vals g c) (m:g.length<=sizeLine) (t:Nat):
  Inv X d j (upd H p^.lst g) {s with heap:=s.heap.update p f,toks:=t}:=by
 have e:(s.heap.update p f).get? p\{cls:= .type "list",data:= .seq c.toArray i}:=by
  rw[PP f l^by rw[k]<;>rfl,k]
 refine I.write (x:=p) (e:=p) (by rw[h];trivial) (.inl rfl) (λb u o q=>(Os _ _^Ne.symm o).trans q) #[_,e] ?_
 exact#[m,c,i,r,e]
def SG:V->V->V->Hp->(Hp->Prop)->Prop:=λo i v H Q=>∃p c k j,o= .ref p/\i= .int k/\H p\(.lst c)/\pB c.length k\j/\Q^upd H p^.lst^c.set j v
def set_list:WC X SG:=by
 intro c s A H o i v M N u Q I B C E h;rfl';let⟨p,G,k,j,rfl,rfl,m,J,q⟩:=h;subst B;let⟨t,rfl⟩:=C;let⟨d,n,r,f,L⟩:=I.lst m;let⟨e,P,w,x⟩:=HL J;have g:=r.length;have R:=n5;ac_rfl
 have y:Inv X c A (upd H p^.lst^G.set j v) {s with heap:=s.heap.update p^Obj.mapSeq (·.setIfInBounds j u)}:=
  I.Va m f (HU d n j u) (r.set E j) (by rw[iU];exact L) s.toks
 by_cases z:0<=k
 .have l:k.toNat=j:=by
   rw[seqIndex_of z x] at e;exact Fk e
  exact PySem.W.ki_setAt f z () (by rw[cE,<-g];exact x)^by rw[l];exact#[_,y,q]
 .have l:(k+(d.toArray.size:Int)).toNat=j:=by
   rw[seqIndex_neg () w] at e
   rw[cE,<-g];exact Fk e
  exact PySem.W.ki_setBack f () (by rw[cE,<-g];exact w) ()^by rw[l];exact#[_,y,q]
def CO(lo c:Option Int)(n:Nat):(sliceBounds lo c none n).1=((HT.cn n 0 lo:Nat):Int)/\(sliceBounds lo c none n).2.1=((HT.cn n n c:Nat):Int)/\(sliceBounds lo c none n).2.2=1:=by
 refine#[?_,?_,rfl]
 .cases lo with
  |none=>simp[sliceBounds,HT.cn]
  |some i=>
   simp only[sliceBounds,HT.cn,Option.getD_none,show(1:Int)>0 by decide,adD]
   by_cases h:i<0
   .simp only[h,adD]<;>lia
   .simp only[h,Pi]<;>lia
 .cases c with
  |none=>simp[sliceBounds,HT.cn]
  |some i=>
   simp only[sliceBounds,HT.cn,Option.getD_none,show(1:Int)>0 by decide,adD]
   by_cases h:i<0
   .simp only[h,adD]<;>lia
   .simp only[h,Pi]<;>lia
def Bl(c:List b_)(lo d:Option Int):slicePick c.toArray lo d none=((c.drop^HT.cn c.length 0 lo).take (HT.cn c.length c.length d-HT.cn c.length 0 lo)).toArray:=by
 let⟨e,f,g⟩:=CO lo d c.toArray.size;unfold slicePick;rw[e,f,g];simp only[sliceRange_one,pick_run,cE]<;>rfl
def ack(K:ad):V->Option Int->Option Int->Hp->VK->Prop:=λx lo d H Q=>∃a c,x= .ref a/\aK K H a c/\∀p,H p=none->Q (.ref p)^upd H p^.lst^ju c lo d
def wg:Jh X^ack X.K:=by
 intro f s t H x v u w lo e y Q I i j pl k h;rfl';let⟨a,c,rfl,m,q⟩:=h;subst i;let⟨n,r,g,p⟩:=I.list m;have d:=r.length;ac_rfl;exists "list",_,slot_list_getitem.lookup,g.isList.typeIs;refine wpAny_getItem_list_slice g.isList j pl k .none (by simp) ?_^by rw[cE]<;>lia
 rw[Bl,<-d];refine#[.ref s.heap.objs.size,_,I.laid (t':=s.toks) (o:= .lst^ju c lo e) (λb A q=>AC _ q) (aZ _) ?_,rfl,q _^I.hok.fresh^aZ _];exact#[jz (nM c lo e) p,_,0,(r.drop^HT.cn c.length 0 lo).take (HT.cn c.length c.length e-HT.cn c.length 0 lo),GM _ rfl]
noncomputable def iG:V->Bool
 | .aS=>true
 | .bl _=>true
 | .int _=>true
 | .str _=>true
 |_=>false
noncomputable def tD:V->V->Bool
 | .aS, .aS=>true
 | .bl a, .bl b=>a==b
 | .bl a, .int b=>(if a then 1 else 0)==b
 | .int a, .bl b=>a==(if b then 1 else 0)
 | .int a, .int b=>a==b
 | .str a, .str b=>a==b
 |_,_=>false
def Ux{A:f5}{s:c_}{y x:V}{u v:b_}(ry:RelV y u)(rx:RelV x v)(fy:iG y=true)(fx:iG x=true):SeqAt.EqAt A s u v^tD y x:=by
 cases y with
 |aS=>
  cases ry;cases x with
  |aS=>cases rx;exact SeqAt.EqAt.same _
  |bl b=>cases rx;exact SeqAt.EqAt.none_bool b
  |int b=>let⟨t,rfl⟩:=rx;exact SeqAt.EqAt.none_int b t
  |str b=>let⟨t,rfl⟩:=rx;exact SeqAt.EqAt.none_str b t
  |_=>exact absurd (show false=true from fx) dZ
 |bl a=>
  subst ry;cases x with
  |aS=>cases rx;exact SeqAt.EqAt.bool_none a
  |bl b=>cases rx;exact SeqAt.EqAt.bool_bool a b
  |int b=>let⟨t,rfl⟩:=rx;exact SeqAt.EqAt.bool_int a b t
  |str b=>let⟨t,rfl⟩:=rx;exact SeqAt.EqAt.bool_str a b t
  |_=>exact absurd (show false=true from fx) dZ
 |int a=>
  let⟨t',rfl⟩:=ry;cases x with
  |aS=>cases rx;exact SeqAt.EqAt.int_none a t'
  |bl b=>cases rx;exact SeqAt.EqAt.int_bool a t' b
  |int b=>let⟨t,rfl⟩:=rx;exact SeqAt.EqAt.int_int a t' b t
  |str b=>let⟨t,rfl⟩:=rx;exact SeqAt.EqAt.int_str a t' b t
  |_=>exact absurd (show false=true from fx) dZ
 |str a=>
  let⟨t',rfl⟩:=ry;cases x with
  |aS=>cases rx;exact SeqAt.EqAt.str_none a t'
  |bl b=>cases rx;exact SeqAt.EqAt.str_bool a t' b
  |int b=>let⟨t,rfl⟩:=rx;exact SeqAt.EqAt.str_int a t' b t
  |str b=>let⟨t,rfl⟩:=rx;exact SeqAt.EqAt.str_str a t' b t
  |_=>exact absurd (show false=true from fx) dZ
 |_=>exact absurd (show false=true from fy) dZ
noncomputable def sj(x:V)(u:Value):Bool:=match u with
 | .none=>tD .aS x
 | .bool b=>tD (.bl b) x
 | .int i _=>tD (.int i) x
 | .str z _=>tD (.str z) x
 |_=>false
def zF{x y:V}{u:Value}(r:RelV y u)(f:iG y=true):sj x u=tD y x:=by
 cases y with
 |aS=>cases r;rfl
 |bl b=>cases r;rfl
 |int i=>obtain⟨t,rfl⟩:=r;rfl
 |str z=>obtain⟨t,rfl⟩:=r;rfl
 |_=>exact absurd (show false=true from f) dZ
theorem pK:∀{c:List V}{d:List b_},Vals c d->c.all iG=true->d.any^sj x=c.any λy=>tD y x
 |_,_, .nil,_=>rfl
 |y::c,u::d, .cons r t,f=>by
  rw[ae3,uC] at f;rw[yf,yf,zF r f.1,pK t f.2]
theorem kT(g:RelV x v)(h:iG x=true):∀{d:List V}{e:List b_},Vals d e->d.all iG=true->∀u∈e,SeqAt.EqAt A s u v^sj x u
 |_,_, .nil,_=>λu c=>by cases c
 |y::d,u::e, .cons r t,f=>λi c=>by
  rw[ae3,uC] at f
  rcases b7.mp c with rfl|c
  .rw[zF r f.1];exact Ux r g f.1 h
  .exact kT g h t f.2 i c
noncomputable def J9(x:V)(c:List V):Bool:=c.any λy=>tD y x
def VP(K:ad)(d:Bool):R2:=λx y H Q=>∃p c,y= .ref p/\(aK K H p c\/fW K H p c)/\iG x=true/\c.all iG=true/\Q (.bl^if d then !J9 x c else J9 x c) H
def Ky:OpR X (ff .In)^VP X.K false:=by
 intro e s l H x y v u Q I f i h;rfl';let⟨p,n,rfl,d,g,fs,q⟩:=h;subst i;ac_rfl
 rcases d with d|d
 .obtain⟨c,r,pl,k⟩:=I.list d
  refine SeqAt.in_listAt (sj x) pl.isList (λw hw=>kT f g r fs w^~~~hw) #[.bl _,H,I,rfl,?_]
  rw[show c.toArray.any^sj x=c.any (sj x) by simp,pK r fs]
  exact q
 .obtain⟨c,r,pl,k⟩:=I.tuple d
  refine SeqAt.in_tupleAt (sj x) pl (λw hw=>kT f g r fs w^~~~hw) #[.bl _,H,I,rfl,?_]
  rw[show c.toArray.any^sj x=c.any (sj x) by simp,pK r fs]
  exact q
def sN:OpR X (ff .NotIn)^VP X.K true:=by
 intro e s l H x y v u Q I f i h;rfl';let⟨p,n,rfl,d,g,fs,q⟩:=h;subst i;ac_rfl
 rcases d with d|d
 .obtain⟨c,r,pl,k⟩:=I.list d
  refine SeqAt.notIn_listAt (sj x) pl.isList (λw hw=>kT f g r fs w^~~~hw) #[.bl _,H,I,rfl,?_]
  rw[show c.toArray.any^sj x=c.any (sj x) by simp,pK r fs]
  exact q
 .obtain⟨c,r,pl,k⟩:=I.tuple d
  refine SeqAt.notIn_tupleAt (sj x) pl (λw hw=>kT f g r fs w^~~~hw) #[.bl _,H,I,rfl,?_]
  rw[show c.toArray.any^sj x=c.any (sj x) by simp,pK r fs]
  exact q
def c5:cV X (.builtin "len") (λi H Q=>∃p d,i= [.ref p]/\(aK X.K H p d\/fW X.K H p d)/\Q (.int d.length) H):=by
 intro j s n H i o Q I r h;rfl';obtain⟨p,d,rfl,e,q⟩:=h;obtain⟨u,rfl,l⟩:=vals1 r;subst l;have v:=n5;ac_rfl
 rcases e with e|e
 .obtain⟨f,g,pl,m⟩:=I.list e
  have c:=g.length;exact Calls.call_len_list pl.isList (by simp only[cE]<;>lia) #[.int d.length,H,I.tok _,#[s.toks+1,by rw[cE,c]],q]
 .obtain⟨f,g,pl,m⟩:=I.tuple e
  have c:=g.length;exact len_tuple pl (by simp only[cE]<;>lia) #[.int d.length,H,I.tok _,#[s.toks+1,by rw[cE,c]],q]
def Cd:cV X (.type "list") (λA H Q=>∃p f,A= [.ref p]/\(aK X.K H p f\/fW X.K H p f)/\∀l,H l=none->Q (.ref l)^upd H l^.lst f):=by
 intro j s C H A F Q I r h;let⟨p,f,rfl,k,q⟩:=h;let⟨u,rfl,E⟩:=vals1 r;subst E
 have fin:∀(c:List b_),Vals f c->f.length<=sizeLine->∀(d:Heap)(g:Nat),(∀b B,s.heap.get? b\B->d.get? b\B)->
   d.get? s.heap.objs.size\{cls:= .type "list",dict:=none,data:= .seq c.toArray g,slots:= #[]}->EP X j C Q (.ref s.heap.objs.size) {s with heap:=d}:=λc i m d g t e=>
  #[.ref s.heap.objs.size,_,I.laid (t':=s.toks) t (aZ _) (show cG X.prog X.w _ d _^.lst f from#[m,c,g,i,e]),rfl,q _^I.hok.fresh^aZ _]
 rcases k with k|k
 .obtain⟨c,i,pl,m⟩:=I.list k
  have v:=i.length;let⟨o,x,y,n,z⟩:=pl.isList;exact call_list_seq p (.inl rfl) x y z (λd g t e=>fin c i m d g t e)^by simp only[cE]<;>lia
 .obtain⟨c,i,pl,m⟩:=I.tuple k
  have v:=i.length;let⟨o,x,y,n,z⟩:=pl;exact call_list_seq p (.inr rfl) x y z (λd g t e=>fin c i m d g t e)^by simp only[cE]<;>lia
def Wq(K:ad)(T:String)(x:V)(H:Hp):Prop:=match x with
 | .str _=>T="str"
 | .int _=>T="int"
 | .ref p=>(T="list"/\∃d,aK K H p d)\/(T="tuple"/\∃o,K.lookup p\o/\o.cls= .type "tuple"/\o.dict=none)\/
   (T="dict"/\((∃c,H p\(.dK c))\/∃c,H p\(.dT c)))\/(T="set"/\∃S n,H p\(.set S n))
 |_=>False
theorem ML(I:Inv X g m H s)(r:RelV x v)(h:Wq X.K T x H):
  s.TypeIs v T/\∀a,v= .ref a->∃l,s.heap.get? a\l/\l.dict=none:=by
 cases x with
 |str z=>
  obtain⟨t,rfl⟩:=r;cases(show T="str" from h);exact#[typeIs_str s z t,λ_ e=>nomatch e]
 |int i=>
  obtain⟨t,rfl⟩:=r;cases(show T="int" from h);exact#[typeIs_int s i t,λ_ e=>nomatch e]
 |ref p=>
  subst r
  rcases h with ⟨rfl,A,q⟩ | ⟨rfl,o,d,u,j⟩ | ⟨rfl,d⟩ | ⟨rfl,S,n,d⟩
  .obtain⟨w,_,pl,_⟩:=I.list q
   refine#[pl.isList.typeIs,λa e=>?_];cases e;obtain⟨o,n,e,c,j,_⟩:=pl;exact#[o,e,j]
  .refine#[#[o,I.dE p o d,u],λa e=>?_]
   cases e;exact#[o,I.dE _ o d,j]
  .have z:∃o,s.heap.get? p\o/\o.ExactDict:=by
    rcases d with ⟨y,d⟩ | ⟨y,d⟩
    .obtain⟨_,_,_,_,o,_,_,e,f,_⟩:=I.hok p _ d
     exact#[o,e,f]
    .obtain⟨_,_,_,_,o,_,_,e,f,_⟩:=I.hok p _ d
     exact#[o,e,f]
   obtain⟨o,e,f⟩:=z;refine#[#[o,e,f.1],λa k=>?_];cases k;exact#[o,e,f.2.1]
  .obtain⟨o,_,_,_,e,f,_⟩:=I.hok p _ d
   refine#[#[o,e,f.1],λa k=>?_];cases k;exact#[o,e,f.2.1]
 |_=>exact False.elim h
def acA(K:ad)(T:String)(r:V->List V->Hp->VK->Prop)(d:TE):TE:=λe H Q=>d e H λx c=>Wq K T x c/\r x [] c Q
def tBM(K:ad)(T:String)(r:V->List V->Hp->VK->Prop)(e:TE)(t:TA):TE:=λc H Q=>e c H λx d=>Wq K T x d/\t c d λf g=>r x f g Q
variable {o e:Expr} {es:List Expr} {to:TE} {t:TA} {name:Str} {apos aY:Pos} {T id:String} {r:V->List V->Hp->VK->Prop}
theorem Vx(i:PlainAttrs T)(slot:Slot T name id)(j:typeOf^.builtin id=pure^.type "method_descriptor")(k:OU X id r)(l:PE X o to)
  (m:gt o name X.env^f7 o X.env=f7 o X.env<|>zn) (n:(apos.endLine==aY.line)=true<|>zn):PE X (.Call (.Attribute o name apos) [] [] aY)^acA X.K T r to:=by
 intro c s d H Q I h;refine wpAny_Call_method0_late m n (thn (l c s d H _ I h) λv p q=>?_);rfl';let⟨x,w,f,g,y,z⟩:=q;let⟨A,B⟩:=ML f g y;ac_rfl;exact#[T,id,i,slot,j,A,B,aeh rfl^PySem.evalArgs_none^k c p d w x [] v [] Q f g .nil z]
theorem i9(l:PlainAttrs T)(slot:Slot T name id)(m:typeOf^.builtin id=pure^.type "method_descriptor")(n:OU X id r)(p:PE X o to)(q:PA X (e::d) t)
  (u:gt o name X.env^f7 o X.env=f7 o X.env<|>zn)
  (w:((gd f^d4 (e::d) X.env).all (λx=>!x.1)&&(im f^g6 [] X.env).all (λx=>x.1.isSome)
   &&decide ((e::d).length+([]:List ix).length+(if ([]:List ix).isEmpty then 0 else 1)<30))=true<|>zn)
  (y:(apos.endLine==f.line)=true<|>zn) (z:d4 (e::d) X.env=(false,f7 e X.env)::d4 d X.env<|>zn) (A:(gd f^d4 d X.env).any (·.1)=false<|>zn):
  PE X (.Call (.Attribute o name apos) (e::d) [] f)^tBM X.K T r to t:=by
 intro c s g H Q I h;refine afH u w y rfl (thn (p c s g H _ I h) λv B C=>?_);rfl';let⟨x,F,i,j,G,J⟩:=C;let⟨L,M⟩:=ML i j G;ac_rfl;exists T,id,l,slot,m,L,M;have k:=q f c B g F _ i J;rw[z] at k ⊢;refine aeh (by show(false|| (gd f^d4 d X.env).any (·.1))=false;rw[A]<;>rfl)^Calls.evalArgs_plain ?_
 exact thn k λN O #[P,R,S,Y,Z]=>n c O g R x P v N Q S j Y Z
end
def MU(X:Cx)(id:String)(r:V->List V->Hp->VK->Prop):Prop:=
 ∀(a:List (Addr×Obj))(s:Shared)(b:St)(H:Hp)(x:V)(c:List V)(v:Value)(d:List Value)(Q:VK),Inv X a b H s->RelV x v->Vals c d->r x c H Q->
  wpAny (model X.prog X.w) X.A (call (.builtin id) (v::d)) (EP X a b Q) X.xe s
def Vals.one(h:Vals [x] a):∃u,a= [u]/\RelV x u:=by
 cases h with|cons r t=>cases t;exact#[_,rfl,r]
def Vals.two{x y:V}(h:Vals [x,y] a):∃u v,a= [u,v]/\RelV x u/\RelV y v:=by
 cases h with
 |cons r t=>
  obtain⟨v,rfl,q⟩:=Vals.one t;exact#[_,v,rfl,r,q]
theorem Vals.zero:∀{a:List Value},Vals [] a->a= []
 |_, .nil=>rfl
theorem Vals.dropLast(h:Vals a b):Vals a.dropLast b.dropLast:=by
 induction h with
 |nil=>exact .nil
 |cons r t c=>
  cases t with
  |nil=>exact .nil
  |cons q d=>exact .cons r c
theorem Vals.eraseIdx:∀{a:List V}{b:List b_}(i:Nat),Vals a b->Vals (a.eraseIdx i)^b.eraseIdx i
 |_,_,_, .nil=> .nil
 |_,_,0, .cons _ t=>t
 |_,_,i+1, .cons r t=> .cons r^Vals.eraseIdx i t
def Hq(l:List c):l.eraseIdx (l.length-1)=l.dropLast:=by
 induction l with
 |nil=>rfl
 |cons a r d=>
  cases r with
  |nil=>rfl
  |cons b r=>
   have e:(a::b::r).length-1=((b::r).length-1)+1:=by
    have f:(a::b::r).length=r.length+2:=rfl;have g:(b::r).length=r.length+1:=rfl;lia
   rw[e,List.eraseIdx_cons_succ,d]
   all_goals rfl
theorem AE:∀(l:List a)(i:Nat),(l.eraseIdx i).length<=l.length
 | [],_=>aZ _
 |_::_,0=>lS _
 |_::r,i+1=>Nat.succ_le_succ^AE r i
section
variable {X:Cx} {pins:List (Addr×Obj)} {σ:St} {H:Hp} {s:Shared} {l b:Addr} {xs ys zs:List V}
def Inv.HQ{its its':List b_}(I:Inv X pins σ H s)(a:H l\(.lst xs))
  (e:s.heap.get? l\{cls:= .type "list",data:= .seq its.toArray n}) (c:f its.toArray=its'.toArray) (d:Vals ys its') (g:ys.length<=sizeLine):
  Inv X pins σ (upd H l^.lst ys) {s with heap:=s.heap.update l^Obj.mapSeq f,toks:=t'}:=by
 have q:=PySem.IsL.update e f;rw[c] at q;refine I.write (x:=l) (e:=l) (by rw[a];exact trivial) (.inl rfl) (λj u h i=>(Os s.heap (Obj.mapSeq f)^Ne.symm h).trans i) #[_,q] ?_
 exact#[g,its',_,d,q]
def Inv.Rv{its:List b_}{t':Nat}(I:Inv X pins σ H s)(a:Vals ys its)(c:ys.length<=sizeLine):
  Inv X pins σ (upd H s.heap.objs.size^.lst ys) {s with heap:=s.heap.push {cls:= .type "list",data:= .seq its.toArray},toks:=t'}:=
 I.laid (λ_ _ q=>AC _ q) (aZ _) #[c,its,0,a,GM _ rfl]
theorem Inv.fresh(I:Inv X pins σ H s):H s.heap.objs.size=none:=I.hok.fresh^aZ _
def Inv.sL(I:Inv X pins σ H s)(a:H l\(.lst xs)):xs.length<=sizeLine/\∃(its:List Value)(n:Nat),Vals xs its/\xs.length=its.length/\s.heap.get? l\{cls:= .type "list",data:= .seq its.toArray n}:=by
 obtain⟨z,its,n,r,e⟩:=I.hok l _ a;exact#[z,its,n,r,r.length,e]
def NV(h:n<=sizeLine):Builtin.List.listTooLong n=false:=by
 unfold Builtin.List.listTooLong;exact GE ()
end
section
variable {X:Cx}
def SA:V->List V->Hp->VK->Prop:=λx b H Q=>∃l a y,x= .ref l/\b= [y]/\H l\(.lst a)/\a.length<sizeLine/\Q .aS^upd H l^.lst (a++ [y])
def lF:MU X "list.append" SA:=by
 intro b s j H x k v m Q I d f h;rfl';let⟨l,p,y,rfl,rfl,c,t,q⟩:=h;subst d;let⟨u,rfl,i⟩:=f.one;let⟨z,a,n,r,w,e⟩:=I.sL c;ac_rfl;refine ad9 F.slot_list_append #[_,e,rfl] F.entry_list_append (F.args_list_append_2 _ _) (PySem.list_append l a.toArray n u^by rw[cE];lia) #[e,?_]
 refine#[.aS,_,I.HQ (its':=a++ [u]) c e (by simp) (r.append^.cons i .nil) ?_,rfl,q]
 rw[dJ,GB];lia
def SD:V->List V->Hp->VK->Prop:=λx d H Q=>∃l b a c,x= .ref l/\d= [.ref b]/\H l\(.lst a)/\H b\(.lst c)/\a.length+c.length<=sizeLine/\Q .aS^upd H l^.lst (a++c)
def Kq:MU X "list.extend" SD:=by
 intro d s y H x A v B Q I g i h;obtain⟨l,b,C,E,rfl,rfl,f,j,G,q⟩:=h;cases g;obtain⟨u,rfl,k⟩:=i.one;cases k;obtain⟨z,a,n,r,J,e⟩:=I.sL f;obtain⟨L,c,m,o,M,p⟩:=I.sL j;have t:a.toArray.size+c.toArray.size<=sizeLine:=by rw[cE,cE];lia
 have w:¬(!a.toArray.isEmpty&&Builtin.List.listTooLong (a.toArray.size+c.toArray.size))=true:=by
  rw[NV t,Bool.and_false];exact dZ
 refine ad9 F.slot_list_extend #[_,e,rfl] F.entry_list_extend (F.args_list_extend_2 _ _)
  (AutoSeq1.list_extend_list_list_0 l a.toArray n b c.toArray m w (by rw[cE];lia) ()) #[e,p,?_]
 refine#[.aS,_,I.HQ (its':=a++c) f e (by simp) (r.append o) ?_,rfl,q]
 rw[dJ];lia
def acj:V->List V->Hp->VK->Prop:=λx b H Q=>∃l a y,x= .ref l/\b= []/\H l\(.lst a)/\a[a.length-1]?\y/\Q y^upd H l^.lst a.dropLast
def Vc:MU X "list.pop" acj:=by
 intro c s t H x w v A Q I f g h;rfl';let⟨l,C,y,rfl,rfl,d,j,q⟩:=h;subst f;have b:=g.zero;subst b;let⟨z,a,n,r,k,e⟩:=I.sL d;let⟨u,m,o⟩:=r.get j;ac_rfl
 have p:a.toArray[a.toArray.size-1]?\u:=by
  show a.toArray[a.length-1]?\u;rw[<-gr,<-k];exact m
 refine ad9 F.slot_list_pop #[_,e,rfl] F.entry_list_pop (F.args_list_pop_1 _) (MeetsSeq.list_pop_last l a.toArray n u p^by rw[cE];lia) #[e,?_]
 refine#[y,_,I.HQ (its':=a.dropLast) d e ?_ r.dropLast ?_,o,q]
 .show a.toArray.eraseIdxIfInBounds (a.toArray.size-1)=a.dropLast.toArray
  rw[cE,aez,Hq]
 .rw[List.length_dropLast]
  lia
def VR:V->List V->Hp->VK->Prop:=λx b H Q=>∃l a i k y,x= .ref l/\b= [.int i]/\H l\(.lst a)/\-(2<<<63)<=i/\i<2<<<63/\seqIndex? i a.length\k/\a[k]?\y/\Q y^upd H l^.lst^a.eraseIdx k
def NS:MU X "list.pop" VR:=by
 intro b s E H x G v J Q I d f h;let⟨l,g,i,k,y,rfl,rfl,c,j,m,o,p,q⟩:=h;cases d;let⟨u,rfl,A⟩:=f.one;let⟨t,rfl⟩:=A;let⟨z,a,n,r,B,e⟩:=I.sL c;let⟨w,hw,C⟩:=r.get p
 refine ad9 F.slot_list_pop #[_,e,rfl] F.entry_list_pop (F.args_list_pop_2 _ _)
  (MeetsSeq.list_pop_at l a.toArray n i t k w (fitsIndex_both j m) (by rw[cE,<-B];exact o) (by rw[<-gr];exact hw)^by rw[cE];lia) #[e,?_]
 refine#[y,_,I.HQ (its':=a.eraseIdx k) c e ?_ (r.eraseIdx k) ?_,C,q]
 .show a.toArray.eraseIdxIfInBounds k=(a.eraseIdx k).toArray
  rw[aez]
 .have:=AE g k
  lia
def acg:R2:=λx y H Q=>∃l b a c,x= .ref l/\y= .ref b/\H l\(.lst a)/\H b\(.lst c)/\a.length+c.length<=sizeLine/\∀p,H p=none->Q (.ref p)^upd H p^.lst (a++c)
def FK:OpR X (h_ .Add) acg:=by
 intro c s t H x y v u Q I f g h;rfl';let⟨l,b,A,B,rfl,rfl,j,k,C,q⟩:=h;subst f;subst g;let⟨z,a,n,r,E,e⟩:=I.sL j;let⟨F,d,G,m,J,o⟩:=I.sL k;ac_rfl;refine PySem.P.add_list e o ?_^by rw[cE,cE];lia
 have p:a.toArray++d.toArray=(a++d).toArray:=by simp
 rw[p];exact#[.ref _,_,I.Rv (t':=s.toks) (r.append m)^by rw[dJ];lia,rfl,q _ I.fresh]
end
section
variable {prog:Program} {w:World} {A:Around} {E:Value->Shared->Prop} {s:Shared}
end
section
variable {X:Cx}
end
end L2
namespace Att
open PySem PySem.W PySem.Calls PyProof.Rows
def xy:∀(c:List Int)(d:List b_),WellAll P h d^c.map WData.int->ii d c:=by
 intro c
 induction c with
 |nil=>
  intro d w;rw[yh] at w;cases w;exact .nil
 |cons n c e=>
  intro d w;rw[cY] at w;cases w with
  |cons a b=>
   cases a;exact .cons _ _^e _ b
theorem K8{l:OpenLaw}(o:l.most\n) 
  (j:l.row.toRowW.claim.pre args=true) (p:WellAll P h c args):
  ∃a k b,c= [Value.ref a]/\args= [WData.list^b.map WData.int]/\h.get? a\{cls:= .type "list",data:= .seq k.toArray}/\ii k b/\b.length<=n:=by
 have i:WShape.hasAll [] args [.list .int]=true:=(pre_splitW j).1;have m:l.pre.holds [] {args:=args}=true:=(pre_splitW j).2;let⟨d,r,rfl,s,t⟩:=hasAllW_cons i;obtain rfl:=hasAllW_nil t;let⟨A,rfl,u⟩:=hasW_list s;let⟨b,rfl⟩:=items_int u
 have e:b.length<=n:=by
  unfold OpenLaw.pre at m
  have f:(WTm.not^.lt (.lit^.int (n:Int))^.len^.arg 0).holds [] {args:= [.list^b.map .int]}=true:=by
   have f:=(holds_andW m).1;rw[o] at f;exact f
  have g:=condW_of f^w_not^w_lt w_lit^w_len_list^w_arg rfl;rw[aI] at g;refine lQ λq=>?_;have v:(n:Int)<((b.length:Nat):Int):=()
  first
   | (rw[B v] at g;exact absurd g ∅)
   | (simp at g;lia)
 cases p with
 |cons w x=>
  cases x;cases w with
  |list y z=>exact#[_,_,b,rfl,rfl,y,xy b _ z,e]
def KL(l:OpenLaw)(args:List WData):l.row.toRowW.claim.post args (.bool true) args=true:=
 postW_of (r:=l.row.toRowW) (X:=(true==true))
  (show WShape.has [] (.bool true) .bool=true by first|rfl|decide|simp[WShape.has,WShape.arms,WShape.armsAll])
  (show(WTm.eq .res^.lit^.bool true).value [] {args:=args,res:=some^.bool true,after:=args}\(.bool (true==true)) from w_eq_bool (w_res rfl) w_lit) rfl
def EL{l:OpenLaw} 
  (C:l.most\n) (E:d.params.defaults= [])
  (call:∀(w:ei)(e b:c_)(m u:eg->Option b_)(j:Addr)(o:Obj)(v p g:b_)(a:Addr)(i:List b_)(s:List Int),
   Ground q c [] x w e m u b.heap->y w b.heap->
   b.heap.get? j\o->o.data= .func^docDef d.name d.params d.body d.scope v p g->b.heap.CodeRec p d.name->m d.name\(.ref j)->
   b.heap.get? a\{cls:= .type "list",data:= .seq i.toArray}->ii i s->s.length<=n->b.gens= #[]->
   gj (d5 l.prog w) callerA (.call (.ref j) #[[.ref a],[]]) (λr t=>r= .ok^.ret^.bool true/\OldK b.heap t.heap/\t.os=b.os/\j3 t.gens) b):
  WalkO q c x y l.row.toRowW d [] (λf i=>dV f i):=by
 intro w e b m u G Y j o v p g F kV H I J z L M A B as N O P Q xh;obtain rfl:F= .none:=Dflts.none z E;obtain rfl:kV= .none:=Dflts.noKw z;rfl';let⟨a,i,s,rfl,rfl,S,h,k⟩:=K8 C N Q;ac_rfl;refine enter_call (adq (call w e b m u j o v p g a i s G Y H (fd_plain I) J L S h k M) λr t T=>?_);let⟨rfl,X,Z,h4⟩:=T;exact#[.inl #[.bool true, .bool true,[],rfl,λ_=>rfl, .bool true,KL l _,λ_=>#[List.Pairwise.nil,λ_ hm=>(nomatch hm)]],X,Z,h4]
section
variable {prog:Program} {w:World} {A:Around} {E:Value->Shared->Prop} {s:Shared} {K:Frag}
end
end Att
namespace L2
open PySem PySem.Spec PyProof.Rows
theorem t6:∀{a:List b_}{b:List Int},ii a b->Vals (b.map V.int) a
 |_,_, .nil=> .nil
 |_,_, .cons n t h=> .cons #[t,rfl]^t6 h
def OW(H:Hp):Prop:=∀b,H b=none\/∃o a,H b\(.tI o^.lst a)
theorem NO{P:ee}{w:ei}{K:ad}{l G:eg->Option b_}{Q:pF}{k:Nat}{I a:Addr}{R:ge}{x:eg}{S:Sp}{c:c_}{j:List b_}{p:List Int}
  (T:K.In c.heap) (X:c.heap.Ns fD l) (f:c.heap.Ns builtinsNs G) (Cp:∀x:eg,x≠"__name__"->G x=f8 x) (J:c.heap.NoLimit) (hg:c.gens= #[])
  (C:c.heap.get? a\{cls:= .type "list",data:= .seq j.toArray}) (Y:ii j p) (Z:p.length<=sizeLine) (hr:b8 k callerA)
  (F:∀base:Heap,K.In base->base.Ns fD l->FnOk P w K l base Q k I R [x] S) (YZ:∀(s:c_)(u:b_),BindsTo s R #[[u],[]] [(x,u)])
  (CA:∀H:Hp,OW H->aK K H a^p.map V.int->S [.ref a] H (λv _=>v= .bl true) λ_ _ _=>False)
  (YK:∀H e g,Q [] H c (λ_ _ _=>False) e g->False):
  gj (d5 P w) callerA (.call (.ref I) #[[.ref a],[]]) (λr g=>r= .ok^.ret^.bool true/\OldK c.heap g.heap/\g.os=c.os/\j3 g.gens) c:=by
 have rv:=t6 Y;have L:=Y.length
 have i:∀H:Hp,OW H->aK K H a^p.map V.int->jj P w H c.heap->(∀b,H b≠none->b=a)->(H a≠none->K.lookup a=none)->
   gj (d5 P w) callerA (.call (.ref I) #[[.ref a],[]]) (λr g=>r= .ok^.ret^.bool true/\OldK c.heap g.heap/\g.os=c.os/\j3 g.gens) c:=by
  intro H hO hS hok hA hK;have GU:∀{b:Addr}{o:Obj},c.heap.get? b\o->H b=none->(uT c.heap H).get? b\o:=λe n=>NB e n
  have RD:∀{b:Addr}{o:Obj}{t:Array DictEntry}{y:Nat},c.heap.get? b\o->o.data= .dict t y->H b=none:=λ {b o t y} e d=>by
   cases q:H b with
   |none=>rfl
   |some u=>
    have M:b=a:=hA b^by rw[q];simp
    subst M;rw[C] at e;cases e;have d':Data.seq j.toArray _=Data.dict t y:=d;cases d'
  have E:∀{b:Addr}{m:eg->Option b_},c.heap.Ns b m->(uT c.heap H).Ns b m:=λ {b m} #[o,t,y,e,d,r]=>#[o,t,y,GU e^RD e d,d,r]
  have A:K.In^uT c.heap H:=λb o e=>GU (T b o e) (by
   cases q:H b with
   |none=>rfl
   |some u=>
    have M:b=a:=hA b^by rw[q];simp
    subst M;rw[hK^by rw[q];simp] at e;cases e)
  have hM:Mod K l^uT c.heap H:=#[A,E X,#[G,E f,Cp],let #[mc,h1,h2]:=J;#[mc,E h1,h2]];have e0:Env0 P w K l (uT c.heap H) callerA [] c H:=#[rfl,hM,λb o e=>RM e,afT^JS _ _,trivial,λb f=>absurd (show b∈([]:List Addr) from f)^by simp,hok, .of_eq hg]
  refine adq ((F _ A^E X).run callerA [] c H #[[.ref a],[]] [.ref a] [.ref a] _ _ hr e0 (YZ c^.ref a) (.cons rfl .nil)^CA H hO hS) λr g h=>?_;cases r with
  |error e=>exact(YK H e g h).elim
  |ok fl=>
   cases fl with
   |next=>exact False.elim h
   |brk=>exact False.elim h
   |cont=>exact False.elim h
   |ret u=>
    rfl';obtain⟨v,H',os,bare,un,N,r',q⟩:=h;have q':v= .bl true:=q;subst q';ac_rfl;obtain rfl:u=Value.bool true:=r';refine#[rfl,OldK.of_keep λb o e=>?_,os,bare];cases q:H b with
    |none=>exact un.keep b o e q (by intro z;exact absurd (show b∈([]:List Addr) from z)^by simp) (by simp)
    |some u=>
     rcases hO b with z| ⟨ob,xs,z⟩
     .rw[q] at z;cases z
     .have z2:=un.frzs b ob _ z
      obtain⟨e1,_⟩:=hok b _ z;obtain⟨e2,_⟩:=N b _ z2;rw[e] at e1;cases e1;exact e2
 cases O:K.lookup a with
 |some o=>
  have e:=T a o O;rw[C] at e;cases Fk e;refine i (λ_=>none) (λ_=> .inl rfl) (.inr #[_,j.toArray,_,O,rfl,rfl,rfl,by rw[cE,L];exact Z,by simpa using rv]) (λb u z=>by have B:(none:Option HO)\u:=z;cases B) (λb z=>absurd rfl z) λz=>absurd rfl z
 |none=>
  refine i (λb=>if b=a then some^.tI {cls:= .type "list",data:= .seq j.toArray}^.lst^p.map V.int else none) (λb=>?_) (.inl^.inr #[{cls:= .type "list",data:= .seq j.toArray},ir rfl]) (λb u z=>?_) (λb z=>?_) λ_=>O
  .by_cases f:b=a
   .exact .inr #[_,_,ir f]
   .exact .inl^mo f
  .by_cases f:b=a
   .have B:=(ir f).symm.trans z
    obtain rfl:=Fk B;subst f;exact#[C,by rw[aI];exact Z,j,_,rv,C]
   .have B:=(mo f).symm.trans z
    cases B
  .by_cases f:b=a
   .exact f
   .exact absurd (mo f) z
def TH{l:cM}{n k:Nat}{q:ee}{i:List eg}{I:(eg->Option b_)->Heap->Prop}{A:ei->Heap->Prop}{d:DefRec}{K:Params->ad}{CX:ei->pF}{sp:ei->Sp}{x:eg}
  (J:l.most\n) (L:n<=sizeLine) (M:d.params.defaults= []) (N:b8 k callerA)
  (O:∀(w:ei)(h:Heap),A w h->(K w.params).In h)
  (F:∀(w:ei)(m:eg->Option b_)(r:Addr)(h:Heap),(K w.params).In h->h.Ns fD m->m d.name\(.ref r)->
   ∃y:ge,(∀(s:c_)(u:b_),BindsTo s y #[[u],[]] [(x,u)])/\
    ∀base:Heap,(K w.params).In base->base.Ns fD m->FnOk l.prog w (K w.params) m base (CX w) k r y [x]^sp w)
  (P:∀(w:ei)(H:Hp)(a:Addr)(t:List Int),t.length<=n->OW H->aK (K w.params) H a^t.map V.int->sp w [.ref a] H (λv _=>v= .bl true) λ_ _ _=>False)
  (Q:∀(w:ei)(H:Hp)(s:c_)(e:b_)(z:c_),CX w [] H s (λ_ _ _=>False) e z->False):
  d3 q i I A l.row.toRowW d [] (λf B=>dV f B):=by
 refine Att.EL J M λw C p m mb r o pm cd R a B t G Y ho hd jF S X j c Z=>?_;have E:=O w _ Y;let⟨y,hb,hF⟩:=F w m r _ E G.T.g S;exact NO E G.T.g G.T.b G.T.builtins G.T.nolimit Z X j (jz c L) N hF hb (λH hO hS=>P w H a t c hO hS) λH e z=>Q w H p e z
noncomputable def inClass(s:Stmt)(j:Nat):Stmt:=match s with
 | .ClassDef _ _ _ body _ _ _ _ _ _ _=>body.getD j^.Pass #[0,0,0,0]
 |_=> .Pass #[0,0,0,0]
noncomputable def ic(s:Stmt):Arguments:=match s with
 | .FunctionDef _ a _ _ _ _ _ _ _ _=>a
 |_=>{posonlyargs:= [],args:= [],vararg:=none,kwonlyargs:= [],kw_defaults:= [],kwarg:=none,defaults:= []}
noncomputable def dB(s:Stmt):List Stmt:=match s with
 | .FunctionDef _ _ b _ _ _ _ _ _ _=>b
 |_=> []
noncomputable def aq(s:Stmt):Scope:=match s with
 | .FunctionDef _ _ _ _ _ _ sc _ _ _=>sc
 |_=>{kind:= .function,names:= [],isGenerator:=false,isCoroutine:=false}
abbrev fM:pF:=λ_ _ _ _ _ _=>False
abbrev E0:XK:=λ_ _ _=>False
def cT:Passes fM X E0:=λ_ _ _ _ _ _ _ h=>h.elim
structure uG (K:ad) (x qual:eg) (st:Stmt) (f:Addr) (fd:ge):Prop where
 ex:∃(oc:b_)(od:Option Addr)(kV doc pm:b_)(an:Option Addr)(aV ct:b_)(FN:Array^Option b_),
  fd=bv x qual (ic st) (dB st) (aq st) .none kV doc pm an aV ct/\K.lookup f\#[oc,od, .func fd,FN]/\bf K aV qual=true
 kp:am K^.ref f=true
section
variable {P:Program} {w:World} {K:ad} {mg:Str->Option Value} {base:Heap}
def uG.ok{x a:eg}{st:Stmt}{f:Addr}{e:ge}{N c:List eg}{k:Nat}{d:Sp}(F:uG K x a st f e)(S:aH N c^aq st)(len:∀vs H Q E,d vs H Q E->vs.length=c.length)
  (g:∀(b:b_)(A:f5)(outer:List lz)(s:c_)(H:Hp)(vs:List V)(Q:VK)(E:XK),b8 k^A.deeper^jW a (aq st) s.heap.objs.size f b->d vs H Q E->
   ∃t,kF (lh fM P w K mg base N a (aq st) f b A outer s H E).mJ (dB st) t/\t {nx:=λ_ i=>Q .aS i,rt:=Q} (start N vs) H):FnOk P w K mg base fM (k+1) f e c d:=by
 rfl';let⟨u,v,kV,l,y,z,b,B,C,rfl,m,n⟩:=F.ex;ac_rfl;refine Qd m n S len λA outer s H vs Q E o p=>?_;let⟨t,h,q⟩:=g b A outer s H vs Q E o p;exact#[t,h.mJ,q]
def uG.binds{st:Stmt}{ps:List eg}(F:uG K x a st f j)
  (h:∀(kV b c:b_)(d:Option Addr)(e g:b_)(i:List b_),i.length=ps.length->li (bv x a (ic st) (dB st) (aq st) .none kV b c d e g) #[i,[]]=pure^ps.zip i):Binds K j ps []:=by
 rfl';let⟨m,n,kV,b,c,d,e,g,o,rfl,p,q⟩:=F.ex;ac_rfl;exact .all^h kV b c d e g
def nV{x a:eg}{st:Stmt}{f:Addr}{i:b_}{j e:Option Addr}{m:Array^Option b_}{kV b g d h:b_}(l:K.lookup f\#[i,j, .func^bv x a (ic st) (dB st) (aq st) .none kV b g e d h,m])
  (c:bf K d a=true) (k:am K^.ref f=true):uG K x a st f^bv x a (ic st) (dB st) (aq st) .none kV b g e d h:=#[#[i,j,kV,b,g,e,d,h,m,rfl,l,c],k]
end
def bL(h:n<=1000):n<sizeLine:=nI h ∅
section
variable {X:Cx}
def pv(i:Nat)(a:X.N[i]?\x<|>zn)(b:Cc X.env.scope x<|>zb)(c:(x==("__debug__":eg))=false<|>zm)
  (d:(x==("__classdict__":eg))=false<|>zm):PE X (.Name x pos)^yP i:=Mo a b c d
end
def cO{A B:Prop}(h:B):if false=true then A else B:=by
 rw[mo dZ];exact h
def dD{A B:Prop}(h:A):if true=true then A else B:=by
 rw[ir rfl];exact h
def yA{c A B:Prop} [Decidable c] (a:c->A) (b:¬c->B):if c then A else B:=by
 by_cases h:c
 .rw[ir h]
  exact a h
 .rw[mo h]
  exact b h
def aC(H a:Hp):Prop:=∀b o,H b\o->a b\o
def aC.refl(H:Hp):aC H H:=λ_ _ h=>h
def aC.trans{H d e:Hp}(a:aC H d)(b:aC d e):aC H e:=λc o h=>b c o^a c o h
def aC.free{H a:Hp}(e:aC H a)(h:a l=Option.none):H l=Option.none:=by
 cases q:H l with
 |none=>rfl
 |some o=>
  rw[e l o q] at h;cases h
def aC.seq{K:ad}{H b:Hp}{a:Addr}{xs:List V}(e:aC H b)(h:aK K H a xs):aK K b a xs:=by
 rcases h with (h| ⟨o,h⟩) |h
 .exact .inl^.inl^e _ _ h
 .exact .inl^.inr #[o,e _ _ h]
 .exact .inr h
noncomputable def jK(env:Env):List (Str×NameKind)->List (Str×Addr)->List (Str×Addr)
 | [],a=>a
 | (n,k)::r,a=>if k==NameKind.free then jK env r ((n,(env.cells.lookup n).getD 0)::a) else jK env r a
def gS(h:∀x∈b.names,x.2= .free->∃c,env.cells.lookup x.1\c):closureFor b env=pure^jK env b.names []:=by
 simp only[closureFor]
 have j:∀(names:List (eg×io))(d:List (eg×Addr)),(∀x∈names,x.2= .free->∃c,env.cells.lookup x.1\c)->
   (forIn names d λx e=>if (x.snd==NameKind.free)=true then(do let a <-cellOf env x.fst;pure^ForInStep.yield ((x.fst,a)::e)) else pure^ForInStep.yield e)=(pure^jK env names d:j_ _):=by
  intro names
  induction names with
  |nil=>intro d _;rfl
  |cons x r l=>
   obtain⟨n,k⟩:=x;intro d h;rw[afA,jK];have f:=λd=>l d λy m=>h y^dS _ m;cases g:k==NameKind.free with
   |false=>
    simp only[g,fL,Pi];exact f d
   |true=>
    have o:k= .free:=by simpa using g
    obtain⟨c,i⟩:=h (n,k) cF o;simp only at i;simp only[adD,cellOf,i];exact f _
 rw[j _ _ h];rfl
theorem gQ:∀(names:List (eg×io))(a:List (eg×Addr)),(∀x∈names,x.2= .free->∃c,env.cells.lookup x.1\c)->(∀x c,a.lookup x\c->env.cells.lookup x\c)->
  ∀x c,(jK env names a).lookup x\c->env.cells.lookup x\c
 | [],a,_,b=>b
 | (n,k)::r,a,h,b=>by
  rw[jK]
  split
  .rename_i g
   refine gQ r _ (λy d=>h y^dS _ d) λx c e=>?_;let⟨l,f⟩:=h (n,k) cF^~~~g
   rw[wJ] at e
   split at e
   .rename_i i
    have j:x=n:=by simpa using i
    subst j;simp only at f;rw[f] at e ⊢;exact e
   .exact b x c e
  .exact gQ r a (λy d=>h y^dS _ d) b
theorem qT{env:Env}:∀(names:List (Str×NameKind))(a:List (Str×Addr))(x:Str),((x,NameKind.free)∈names\/∃c,a.lookup x\c)->∃c,(jK env names a).lookup x\c
 | [],a,x,h=>by
  rcases h with h|h
  .cases h
  .exact h
 | (n,k)::r,a,x,h=>by
  rw[jK]
  split
  .rename_i b
   refine qT r _ x ?_
   by_cases e:x=n
   .subst e;exact .inr #[(env.cells.lookup x).getD 0,by simp[wJ]]
   .have ne:(x==n)=false:=by simpa using e
    rcases h with h| ⟨c,h⟩
    .rcases b7.mp h with z|z
     .cases z;exact absurd rfl e
     .exact .inl z
    .exact .inr #[c,by rw[wJ,ne];exact h]
  .rename_i b
   refine qT r a x ?_
   rcases h with h|h
   .rcases b7.mp h with z|z
    .cases z;exact absurd rfl b
    .exact .inl z
   .exact .inr h
noncomputable def lN(src:List^Option Nat)(a:St):St:=src.map λo=>o.bind λi=>(a[i]?).bind id
def dM(a:Scope)(b:List eg):List^Option Nat->List eg->Prop
 | [],[]=>True
 |none::r,_::n=>dM a b r n
 |some i::r,x::n=>b[i]?\x/\a.names.lookup x\.free/\dM a b r n
 |_,_=>False
theorem dM.len:∀{src:List^Option Nat}{NC:List eg},dM a b src NC->src.length=NC.length
 | [],[],_=>rfl
 |none::r,_::n,h=>by have:=dM.len (src:=r) (NC:=n) h;simp[this]
 |some i::r,_::n,h=>by have:=dM.len (src:=r) (NC:=n) h.2.2;simp[this]
 | [],_::_,h=>h.elim
 |none::_,[],h=>h.elim
 |some _::_,[],h=>h.elim
theorem dM.at{a:Scope}:∀{src:List^Option Nat}{NC:List eg}{j i:Nat}{x:eg},dM a d src NC->src[j]?\(some i)->NC[j]?\x->d[i]?\x/\a.names.lookup x\.free
 | [],[],_,_,_,_,h,_=>by simp at h
 |none::r,_::n,0,_,_,_,h,_=>by simp at h
 |none::r,_::n,j+1,i,x,h,b,c=>dM.at (src:=r) (NC:=n) (j:=j) h (~~~b)^~~~c
 |some k::r,y::n,0,i,x,h,b,c=>by
  have e:k=i:=by simpa using b
  have f:y=x:=by simpa using c
  subst e f;exact#[h.1,h.2.1]
 |some k::r,_::n,j+1,i,x,h,b,c=>dM.at (src:=r) (NC:=n) (j:=j) h.2.2 (~~~b)^~~~c
 | [],_::_,_,_,_,h,_,_=>h.elim
 |none::_,[],_,_,_,h,_,_=>h.elim
 |some _::_,[],_,_,_,h,_,_=>h.elim
structure bD (X:Cx) (scope:Scope):Prop where
 kind:scope.kind= .function
 names:∀x∈scope.names,x.2= .local->scope.names.lookup x.1\.local
 nocell:∀x∈scope.names,x.2≠ .cell
 free:∀x∈scope.names,x.2= .free->X.env.kindOf x.1\.cell\/X.env.kindOf x.1\.free
theorem iC{env:Env}:∀(names:List (Str×NameKind))(x:Str),
  (names.map λ(n,k)=>if (k==NameKind.free&&env.scope.kind== .function&&env.kindOf n==some .cell) then(n,NameKind.cell) else(n,k)).lookup x=
   (names.lookup x).map λk=>if (k==NameKind.free&&env.scope.kind== .function&&env.kindOf x==some .cell) then NameKind.cell else k
 | [],_=>rfl
 | (n,k)::r,x=>by
  have c:=iC (env:=env) r x;show ca x ((if (k==NameKind.free&&env.scope.kind== .function&&env.kindOf n==some .cell)=true then(n,NameKind.cell) else(n,k))::_)=_;cases b:x==n with
  |true=>
   have e:x=n:=by simpa using b
   subst e
   by_cases a:(k==NameKind.free&&env.scope.kind== .function&&env.kindOf x==some .cell)=true
   .rw[ir a,wJ,wJ]
    simp only[b];show some NameKind.cell\(if _ then _ else _);rw[ir a]
   .rw[mo a,wJ,wJ]
    simp only[b];show some k\(if _ then _ else _);rw[mo a]
  |false=>
   by_cases a:(k==NameKind.free&&env.scope.kind== .function&&env.kindOf n==some .cell)=true
   .rw[ir a];simp only[wJ,b];exact c
   .rw[mo a];simp only[wJ,b];exact c
def mem_lookup{names:List (Str×NameKind)}{x:Str}{k:NameKind}(h:names.lookup x\k):(x,k)∈names:=adC h
noncomputable def bK(X:Cx)(a:Scope)(NC:List Str)(ex:List Addr)(s:Shared)(H:Hp):Cx:=
 {X with N:=NC,s₀:=s,H₀:=H,env:=compEnvC a (jK X.env a.names []) s.heap.objs.size X.env,outer:=X.stack,stack:=X.stack,ex:=ex,fn:=λ_=>false,pn:= [],xe:=λ_ _=>False}
section
variable {X:Cx} {pins:List (Addr×Obj)} {σ:St} {H:Hp} {s:c_} {scope:Scope} {NC:List eg} {ex:List Addr} {src:List^Option Nat}
theorem bD.cells(c:bD X scope)(ok:X.Ok):∀x∈scope.names,x.2= .free->∃c,X.env.cells.lookup x.1\c:=λx a e=>ok.has x.1^c.free x a e
def bD.ZO(c:bD X scope)(h:(compEnvC scope (jK X.env scope.names []) C X.env).kindOf x\k)(i:k= .cell\/k= .free):scope.names.lookup x\.free:=by
 have a:(ka scope X.env).names.lookup x\k:=h;unfold ka at a;rw[iC] at a;cases e:scope.names.lookup x with
 |none=>rw[e] at a;cases a
 |some b=>
  have g:=c.nocell _^mem_lookup e;rw[e] at a;have f:(if (b==NameKind.free&&X.env.scope.kind== .function&&X.env.kindOf x==some .cell) then NameKind.cell else b)=k:=Fk a
  by_cases d:b= .free
  .rw[d]
  .have j:(b==NameKind.free)=false:=by simpa using d
   rw[j,afN,afN,mo dZ] at f
   rcases i with z|z
   .rw[f] at g;exact absurd z g
   .rw[f] at d;exact absurd z d
def Pl(I:Inv X pins σ H s)(c:bD X scope)(f:∀b∈ex,fN X pins H b)(g:∀b∈ex,b<s.heap.objs.size):(bK X scope NC ex s H).Ok where
 mod:=I.ok.mod
 kind:=c.kind
 glob:=I.ok.glob
 blt:=I.ok.blt
 above:=aZ _
 inj:=λx y d i j=>I.ok.inj x y d (gQ _ _ (c.cells I.ok) (λ_ _ z=>by cases z) x d i) (gQ _ _ (c.cells I.ok) (λ_ _ z=>by cases z) y d j)
 has:=λx k=>qT _ _ x (.inl^mem_lookup^by rcases k with h|h<;>exact c.ZO h^by simp)
 cab:=λ_ _ z=>by cases z
 hd:=I.ok.hd
 frames:=I.ok.frames
 stk:= .inl rfl
 exf:=λb a=>#[bX^g b a,λx d e=>(f b a).2.2.2.2.1 x d^gQ _ _ (c.cells I.ok) (λ_ _ z=>by cases z) x d e]
 bs:=I.bs
 bsz:=jz I.ok.bsz I.sz
 noex:=λb o e a=>by
  rcases(f b a).2.2.2.1 with z|z
  .exact I.ok.noex b o e z
  .exact absurd (dR (Da e)^jz I.ok.bsz z) (jy _)
 exfs:=λb a z=>(b7.mp^I.F6 b z).elim (f b a).2.1 (f b a).2.2.1
 funs:=I.stack
 frf:=I.Bx
theorem Dc{tk:Nat}(I:Inv X pins σ H s)(c:bD X scope)(A:dM scope X.N src NC)(E:∀b∈ex,fN X pins H b)(F:∀b∈ex,b<s.heap.objs.size)
  (G:h.Ns s.heap.objs.size^λ_=>none) (J:Heap.SameBut s.heap.objs.size (s.heap.push C) h):
  Inv (bK X scope NC ex s H) [] (lN src σ) H {s with heap:=h,toks:=tk}:=by
 have f:∀b o,s.heap.get? b\o->h.get? b\o:=λb o e=>J.extBut b o (bX^Da e)^AC _ e;have t:∀x d,(jK X.env scope.names []).lookup x\d->X.env.cells.lookup x\d:=λx d=>gQ _ _ (c.cells I.ok) (λ_ _ z=>by cases z) x d
 have a:∀d v,s.heap.IsCell d v->h.IsCell d v:=λd v #[o,L,k]=>#[o,f d o L,k];refine#[Pl I c E F,rfl,I.bare,Un.kept f,#[_,G,λj x v M O Y=>?_],λx d e=>?_,I.hok.fresh^aZ _,λx d e=>I.freeC x d^t x d e,λp P=>absurd (show p∈([]:List (Addr×Obj)) from P)^by simp,I.hok.kept f,?_]
 .have g:(lN src σ)[j]?\(some v):=O
  unfold lN at g;rw[cL] at g;cases w:src[j]? with
  |none=>rw[w] at g;cases g
  |some o=>
   rw[w] at g;cases o with
   |none=>cases g
   |some i=>
    have n:(σ[i]?).bind id\v:=Fk g
    have Q:σ[i]?\(some v):=by
     cases q:σ[i]? with
     |none=>rw[q] at n;cases n
     |some z=>rw[q] at n;exact IR some n
    rfl';let⟨S,y⟩:=A.at w M;have B:=c.free _ (mem_lookup y) rfl;let⟨m,hn,T⟩:=I.loc;let⟨u,r,l⟩:=T i x v S Q^B.elim (λz=> .inr^.inl z)^λz=> .inr^.inr z;ac_rfl;refine#[u,r, .inr #[?_,?_]]
    .show(ka scope X.env).names.lookup x=_\/(ka scope X.env).names.lookup x=_
     unfold ka;rw[iC,y]
     by_cases z:(NameKind.free==NameKind.free&&X.env.scope.kind== .function&&X.env.kindOf x==some .cell)=true
     .left;simp only[uF,z,adD]
     .right;simp only[uF,z];rfl
    .obtain⟨d,k⟩:=qT (env:=X.env) scope.names [] x^.inl^mem_lookup y
     exists d,k
     rcases l with ⟨l,_⟩ | ⟨_,d',e,z⟩
     .exfalso;rcases B with z|z<;>(rw[l] at z;cases z)
     .rw[t x d k] at e;cases e;exact a d _ z
 .obtain⟨v,z⟩:=I.cell x d^t x d e
  exact#[v,a d v z]
 .show(lN src σ).length=NC.length
  unfold lN;rw[aI];exact A.len
def comp_back(I:Inv X pins σ H s)(m:∀b∈ex,fN X pins H b)(J:Inv (bK X scope NC ex s H) l k g c)
  (p:Heap.SameBut s.heap.objs.size c.heap h):Inv X pins σ g {c with heap:=h}:=by
 have up:∀b o,b≠s.heap.objs.size->c.heap.get? b\o->h.get? b\o:=λb o a e=>p.extBut b o a e;have ne:∀b o,s.heap.get? b\o->b≠s.heap.objs.size:=λb o e=>bX^Da e;have u:=J.base;refine I.Jl (ch:=ex) (show c.os=s.os from J.os) #[λb o e n a f=>up b o (ne b o e)^u.keep b o e n a f,λb o e n a f=>?_,u.free,λb o e f=>?_,u.tups,u.frzs,u.tbls] ?_ J.bare λb a=>?_
 .obtain⟨r,q⟩:=u.slot b o e n a f
  exact#[r,up b _ (ne b o e) q]
 .obtain⟨i,q⟩:=u.there b o e f
  exact#[i,up b i (ne b o e) q]
 .intro b o e
  have j:∀b o,g b\o->b≠s.heap.objs.size:=λb o e z=>by
   have:=J.free
   rw[z] at e;have t:g s.heap.objs.size=none:=this;rw[t] at e;cases e
  refine(J.hok b o e).qE (λd v w q=>up d v ?_ q) (λ_ q=>q) λ_ _ q=>q
  rcases w with z|z
  .rw[z];exact j b o e
  .exact j d _ z
 .obtain⟨_,x,_,y,A,B⟩:=m b a
  exact#[y,x,A,B]
end
def k6(X:Cx)(b:List fz)(t:TT):Prop:=
 ∀(a:List (Addr×Obj))(s:c_)(d:St)(H:Hp)(Q:Bool->Hp->Prop),Inv X a d H s->t d H Q->
  d_ (d5 X.prog X.w) X.A (forIn b true λc r=>if r=true then do let ok <-isTrue c X.env^f7 c X.env;pure^ForInStep.yield ok else pure^ForInStep.yield r) (TP X a d Q) X.xe s
def XQ:TT:=λ_ H Q=>Q true H
def vU:k6 X [] XQ:=λ_ _ _ H _ I h=>wpAny_tests_nil #[H,I,h]
def Il(h:PT X c t):k6 X [c] t:=λa s b H Q I q=>wpAny_tests_one^h a s b H Q I q
def LCW(J:It)(g:TG)(o:TT)(p:TE)(D:Addr)(Q:VK)(q:St)(H:Hp):Prop:=
 ∃W:Nat->Nat->St->Hp->Prop,(∃m,W 0 m q H)/\∀i m e a,W i m e a->
  (J.stop i a/\Q (.ref D) a)\/
  (J.go i a/\∃N:St->Hp->Prop,(∀f h,N f h->∃j,j<m/\W (i+1) j f h)/\∀x k,J.yld i a x k->g x e k λc r=>o c r λb l=>
   if b=true then p c l λv n=>∃d,n D\(.lst d)/\d.length<sizeLine/\N c^upd n D^.lst (d++ [v]) else N c l)
def Wh(c:TI)(g:TG)(d:TT)(e:TE)(src:List^Option Nat):TE:=λa H Q=>c a H λJ b=>∀D,b D=none->LCW J g d e D Q (lN src a)^upd b D^.lst []
section
variable {X:Cx} {elt iter tg:fz} {ifs:List fz} {scope:Scope} {pos:jp} {wi:TI} {g:TG} {tt:TT} {te:TE} {src:List^Option Nat} {NC:List eg}
theorem yn{RR:b_->Addr->lb->c_->Prop}{Q:VK}
  (hc:X.calm=true) (c:bD X scope) (fo:dM scope X.N src NC) (I2:Inv X j σ I B) (T:Turn X.prog X.w X.K tg J F it tn) (jJ:tn 0 B.heap) (f2:∀b∈F,fN X j I b)
  (hg:∀s H,PG (bK X scope NC F s H) tg g) (ht:∀s H,k6 (bK X scope NC F s H) ifs tt) (he:∀s H,PE (bK X scope NC F s H) elt te)
  (hW:∀D,I D=none->∃W:Nat->Nat->St->Hp->Prop,(∃m,W 0 m (lN src σ)^upd I D^.lst [])/\∀i m dQ I,W i m dQ I->
   (J.stop i I/\Q (.ref D) I)\/
   (J.go i I/\∃N:St->Hp->Prop,(∀G a,N G a->∃m',m'<m/\W (i+1) m' G a)/\∀x Y,J.yld i I x Y->g x dQ Y λfg H4=>tt fg H4 λb H5=>
    if b=true then te fg H5 λv H6=>∃ys,H6 D\(.lst ys)/\ys.length<sizeLine/\N fg^upd H6 D^.lst (ys++ [v]) else N fg H5))
  (JK:∀D C Y G a M,Inv X j σ Y C->(∀b∈F,fN X j Y b)->Inv (bK X scope NC F C Y) [] G a M->Q (.ref D) a->RR (.ref D) C.heap.objs.size (.ok .next) M):
  d_ (d5 X.prog X.w) X.A (newList []) (λacc wo=>d_ (d5 X.prog X.w) X.A (jn scope X.env.globals (jK X.env scope.names []) [] X.env.qual none .none^some X.env) (λl7 wq=>
   gj (d5 X.prog X.w) X.A (.compStart (.ListComp elt [#[tg,iter,ifs,0]] scope pos) 0 (.ref it) acc {l7 with scope:=ka scope X.env}) (RR acc l7.locals) wq) E wo) E B:=by
 rfl';obtain⟨W,⟨m0,w0⟩,turn⟩:=hW B.heap.objs.size I2.fresh;have I3:Inv X j σ (upd I B.heap.objs.size^.lst []) {B with heap:=B.heap.push {cls:= .type "list",data:= .seq ([]:List b_).toArray}}:=I2.Rv (its:= []) (t':=B.toks) .nil^eB _
 ac_rfl
 have Kn:∀b∈F,b<B.heap.objs.size:=λb l=>by
  let⟨o,e,P⟩:=T.obj _ _ jJ b l;exact Da e
 have f3:∀b∈F,fN X j (upd I B.heap.objs.size^.lst []) b:=λb l=>#[by rw[ag^bX^Kn b l];exact(f2 b l).1,(f2 b l).2]
 refine adw ?_
 suffices key:∀C:c_,Inv X j σ (upd I B.heap.objs.size^.lst []) C->(∀b o,B.heap.get? b\o->C.heap.get? b\o)->
   d_ (d5 X.prog X.w) X.A (jn scope X.env.globals (jK X.env scope.names []) [] X.env.qual none .none^some X.env) (λl7 wq=>
    gj (d5 X.prog X.w) X.A (.compStart (.ListComp elt [#[tg,iter,ifs,0]] scope pos) 0 (.ref it) (.ref B.heap.objs.size) {l7 with scope:=ka scope X.env}) (RR (.ref B.heap.objs.size) l7.locals) wq) E C from
  key _ I3 λb o e=>AC _ e
 intro C I3 up3;have zw:tn 0 C.heap:=T.keep _ _ _ jJ λb _ o e=>up3 b o e
 have Ko:∀b∈F,b<C.heap.objs.size:=λb l=>by
  let⟨o,e,P⟩:=T.obj _ _ zw b l;exact Da e
 generalize hH3:upd I B.heap.objs.size^.lst []=Y at I3 f3 w0;refine wpAny_newFunctionEnv c.nocell (by intro y hy;simp at hy) (λh1 Fl Fo=>?_) c.kind
 have I4:=Dc (src:=src) (NC:=NC) (ex:=F) (tk:=C.toks+([]:List (eg×b_)).length) I3 c fo f3 Ko Fl Fo;have Tn:tn 0 h1:=T.keep _ _ _ zw λb l o e=>Fo.extBut b o (bX^Ko b l)^AC _ e;generalize L:bK X scope NC F C Y=k at I4
 have R:∀{a:Hp},(∀b∈F,a b=none)->∀b∈F,fN k [] a b:=λ {a} hn b l=>by
  subst L;refine#[hn b l,bX^Ko b l,λz=>?_, .inl l,λx d e=>?_,λp hp=>absurd (show p∈([]:List (Addr×Obj)) from hp)^by simp]
  .exact(I4.ok.exfs b l) z
  .exact(I4.ok.exf b l).2 x d e
 have Z:gj (d5 X.prog X.w) X.A (.compLoop (.ListComp elt [#[tg,iter,ifs,0]] scope pos) 0 (.ref it) (.ref B.heap.objs.size) k.env) (RR (.ref B.heap.objs.size) C.heap.objs.size)
   {C with heap:=h1,toks:=C.toks+([]:List (eg×b_)).length}:=by
  refine afV rfl (λn M=>∃i G a,Inv k [] G a M/\tn i M.heap/\(∀b∈F,a b=none)/\W i n G a) (λn M hI=>?_) m0 #[0,_,_,I4,Tn,λb l=>(f3 b l).1,w0];let⟨i,G,a,I5,zx,tH,w5⟩:=hI;show d_ _ X.A ((compTurn (.ListComp elt [#[tg,iter,ifs,0]] scope pos) 0 (.ref it) (.ref B.heap.objs.size) k.env).onRaise^λx=>do kn x k.env;theTreesLotGoes x) _ _ M
  refine wpAny_noted ?_;rw[compTurn_list]
  have mJ:∀{α:Type}{t:j_ α}{Q:α->c_->Prop}{E:b_->c_->Prop}{s:c_},d_ (d5 k.prog k.w) k.A t Q k.xe s->d_ (d5 X.prog X.w) X.A t Q E s:=λ {α t Q E s} h=>by
   subst L;exact hH h (λ_ _ q=>q) λ_ _ f=>f.elim
  have NA:k.calm=true:=by subst L;exact hc
  have eP:k.prog=X.prog:=by subst L;rfl
  have ew:k.w=X.w:=by subst L;rfl
  have eK:k.K=X.K:=by subst L;rfl
  have eA:k.A=X.A:=by subst L;rfl
  have Ze:PG k tg g:=by subst L;exact hg _ _
  have Zy:k6 k ifs tt:=L▸ht _ _;have Y9:PE k elt te:=L▸he _ _;refine a_^adn^a_ ?_
  rcases turn i n G a w5 with ⟨stop,qn⟩ | ⟨go,N,hN,step⟩
  .have hd:=T.done k eP ew eK NA i [] M G a (notedBy (d5 X.prog X.w) X.A k.env λe M=>RR (.ref B.heap.objs.size) C.heap.objs.size (.error e) M) I5 (R tH) zx stop
   rw[eA] at hd;refine thn hd λr s6 O=>?_;let⟨hr,I6⟩:=O;subst hr;refine tz ?_;subst L;exact JK _ C Y G a s6 I3 f3 I6 qn
  .have hd:=T.item k eP ew eK NA i [] M G a (notedBy (d5 X.prog X.w) X.A k.env λe M=>RR (.ref B.heap.objs.size) C.heap.objs.size (.error e) M) I5 (R tH) zx go
   rw[eA] at hd;refine thn hd λr s6 O=>?_;rfl';let⟨u,hr,h6⟩:=O;ac_rfl;subst hr;refine a_ (thn h6 λ_ s7 O=>?_);rfl';let⟨x,H7,I7,r7,y7,Bu,Qg⟩:=O;ac_rfl;have OR:=I7.pinned (R Qg)^T.obj _ _ Bu
   have again:∀{S:St}{H8:Hp}{s8:c_},Inv k ([]++oq F s7.heap) S H8 s8->N S H8->∃m,m<n/\∃i G a,Inv k [] G a s8/\tn i s8.heap/\(∀b∈F,a b=none)/\W i m G a:=λ {S H8 s8} I8 n8=>by
    let⟨m',hm,w8⟩:=hN S H8 n8;refine#[m',hm,i+1,S,H8,I8.kW,T.keep _ _ _ Bu λb l o e=>(I8.pin (b,o)^fb _^fb _^fP l e).1,λb l=>?_,w8];let⟨o,e,d⟩:=T.obj _ _ Bu b l;exact(I8.pin (b,o)^fb _^fb _^fP l e).2.1
   refine a_^mJ (thn (Ze _ s7 G H7 x u _ OR r7^step x H7 y7) λ_ s8 O=>?_);rfl';let⟨S,H8,I8,q8⟩:=O;ac_rfl;refine a_^mJ (thn (Zy _ s8 S H8 _ I8 q8) λb s9 O=>?_);let⟨H9,I9,q9⟩:=O;cases b with
   |false=>
    rw[mo dZ] at q9;exact tz #[L▸rfl,again I9 q9]
   |true=>
    rw[ir rfl] at q9;refine a_^a_^mJ (thn (Y9 _ s9 S H9 _ I9 q9) λy Be O=>?_);rfl';let⟨v,y8,OQ,Sz,ys,hD,hz,Sy⟩:=O;ac_rfl;refine a_^mJ (thn (lF _ Be S y8 (.ref B.heap.objs.size) [v] _ [y] (λ_ a=>N S a) OQ rfl (.cons Sz .nil) #[_,ys,v,rfl,rfl,hD,hz,Sy]) λ_ FW O=>?_);rfl';let⟨P,B9,EF,U,KW⟩:=O;ac_rfl;exact tz^tz #[L▸rfl,again EF KW]
 subst L;exact afI Z^T.self _ 0 _ _ _ Tn Z
def Si(i:X.calm=true)(c:bD X scope)(j:dM scope X.N src NC)(k:PI X tg iter wi)
  (l:∀b s H,PG (bK X scope NC b s H) tg g) (n:∀b s H,k6 (bK X scope NC b s H) ifs tt) (o:∀b s H,PE (bK X scope NC b s H) elt te)
  (p:(∀x,ey iter X.env x=pure x)<|>za):PE X (.ListComp elt [#[tg,iter,ifs,0]] scope pos)^Wh wi g tt te src:=by
 intro a s e H Q I h;rw[eval_ListComp];refine adM (use:=none) rfl p (gS^c.cells I.ok) c.kind c.names (thn (k a s e H _ I h) λv P r=>thn r λR S t=>?_);rfl';let⟨Z,d,tn,J,H2,rfl,y,T,z,B,E⟩:=t;ac_rfl;refine yn (RR:=λacc C=>compPost (d5 X.prog X.w) X.A X.xe none (EP X a e Q) acc C) (Q:=Q) i c j y T z B (l d) (n d) (o d) E ?_;intro D s3 H3 ay F s' G L f q;let⟨m,M,u⟩:=f.loc;exact#[m,M,λh' O=>#[.ref D,F,comp_back G L f O,rfl,q]]
def Wg(b:TI)(g:TG)(c:TT)(d:TE)(src:List^Option Nat)(i:Nat):TS:=λD a H=>Wh b g c d src a H λv e=>D.nx (a.set i^some v) e
theorem nz{i:Nat}(hc:X.calm=true)(hN:X.N.Nodup)(ij:X.N[i]?\x)(hx:Loc X.env.scope x)(c:bD X scope)(fo:dM scope X.N src NC)(hi:PI X tg iter wi)
  (hg:∀t s H,PG (bK X scope NC t s H) tg g) (ht:∀t s H,k6 (bK X scope NC t s H) ifs tt) (he:∀t s H,PE (bK X scope NC t s H) elt te)
  (Fp:gs (.ListComp elt [#[tg,iter,ifs,0]] scope pos) (some^.Name x r) S.line X.env=pure true)
  (hf:X.fn x=true\/X.env.scope.names.lookup x\.local<|>zb)
  (hs:(∀x,ey iter X.env x=pure x)<|>za):PS X (.Assign [.Name x r] (.ListComp elt [#[tg,iter,ifs,0]] scope pos) S)^Wg wi g tt te src i:=by
 intro f s u H D I h;rw[exec_Assign_Name_used _ _ _ _ Fp];refine a_^adn^a_ ?_;show d_ _ X.A (do let _ <-comprehension (.ListComp elt [#[tg,iter,ifs,0]] scope pos) scope X.env _ (newList []) false (f7 iter X.env)^some^jq (.Name x r) X.env) _ _ s
 refine a_ (hH (adM (use:=some^jq (.Name x r) X.env) (Q:=λ_ j=>SP X f D .next j) rfl hs (gS^c.cells I.ok) c.kind c.names
  (thn (hi f s u H _ I h) λv s1 h1=>thn h1 λAA s2 h2=>?_)) (λ_ j hq=>tz^tz hq) λ_ _ e=>e)
 rfl';obtain⟨it,G,tn,J,H2,rfl,I2,T,jJ,f2,hW⟩:=h2;ac_rfl;refine yn (RR:=λacc C=>compPost (d5 X.prog X.w) X.A X.xe (some^jq (.Name x r) X.env) (λ_ j=>SP X f D .next j) acc C) (Q:=λv k=>D.nx (u.set i^some v) k) hc c fo I2 T jJ f2 (hg G) (ht G) (he G) hW ?_;intro a l H3 ay k j n f3 L q;obtain⟨m,hn,_⟩:=L.loc;have Y:Inv X f u k j:=comp_back n f3 L (.refl ..);have Z:l.heap.objs.size≠X.env.locals:=jY n.lt
 have nc:∀y d,X.env.cells.lookup y\d->d≠l.heap.objs.size:=λy d e z=>by
  obtain⟨v,hv⟩:=n.cell y d e
  have:=hv.lt
  rw[z] at this;exact absurd this^jy _
 have np:∀p∈X.pn++f,p.1≠l.heap.objs.size:=λp B z=>by
  have:=Da (n.pin p B).1
  rw[z] at this;exact absurd this^jy _
 rfl';obtain⟨M,es,ep,O,UG,rC⟩:=id hn;have E:k l.heap.objs.size=none:=L.free;ac_rfl
 have IP:Inv X ((l.heap.objs.size,M)::f) u k j:=Y.vQ λp B=>by
  rcases b7.mp B with z|z
  .rw[z]
   exact#[O,E,Z,n.Xp^aZ _,λv w=>by rw[UG] at w;cases w]
  .exact Y.pin p^fb _ z
 refine wpAny_assign_Name^nG (x:=x) IP hN ij hx (v:= .ref a) rfl (λs5 P=>?_) hf;have R:=(P.pin (l.heap.objs.size,M)^fb _ cF).1;refine#[m,#[M,es,ep,R,UG,rC],λh6 sb=>?_];have XU:Inv X f (u.set i^some^.ref a) k s5:=P.vQ λp B=>P.pin p^fb _^dS _ B;exact#[_,k,XU.turned (t':=s5.toks) (it:=l.heap.objs.size) (λb o hb e=>sb.extBut b o hb e) E Z (.inr n.sz) nc np,q]
end
def Fu(n:Nat)(c:Nat->St->Hp->Prop)(s:c 0 a H)
  (h:∀i a H,i<n->c i a H->J.go i H) (t:∀i a H,n<=i->c i a H->J.stop i H)
  (u:∀i x a H d,i<n->c i a H->J.yld i H x d->g x a d λf w=>l f w λb q=>
   if b=true then o f q λv r=>∃j,r D\(.lst j)/\j.length<sizeLine/\c (i+1) f^upd r D^.lst (j++ [v]) else c (i+1) f q)
  (z:∀a H,c n a H->Q (.ref D) H):LCW J g l o D Q a H:=by
 refine#[λi m a H=>m=n-i/\i<=n/\c i a H,#[n,by simp,eB _,s],?_]
 rintro i m a H ⟨rfl,B,p⟩
 by_cases k:i<n
 .exact .inr #[h i a H k p,c (i+1),λC E A=>#[n-(i+1),(),rfl,k,A],λx d y=>u i x a H d k p y]
 .have e:i=n:=()
  subst e;exact .inl #[t _ a H (aZ _) p,z a H p]
section
variable {X:Cx} {pins:List (Addr×Obj)} {σ:St} {H:Hp} {s:Shared} {h':Heap} {fp:List Addr}
def Inv.IU{t':Nat}(I:Inv X pins σ H s)(d:∀b∈fp,fN X pins H b)(k:∀b o,b∉fp->s.heap.get? b\o->h'.get? b\o):Inv X pins σ H {s with heap:=h',toks:=t'}:=by
 refine I.step (g':=s.gens) (d':=s.drawn) (ch:=fp) (λb g=>?_) (λb o _ _ a e _=>k b o a e) (λb o _ _ a e _=>#[o.slots,k b o a e]) (λ_ _ _ _ n=>n)
  (λb o a e=>#[o,k b o a e]) (λ_ _ e=>e) (λ_ _ _ e=>e) (λb y e=>#[#[],by rw[e];simp]) (λm h=>?_) (λb u e=>?_) I.bare
 .obtain⟨_,i,_,j,l,p⟩:=d b g
  exact#[j,i,l,p]
 .obtain⟨o,t,w,x,r⟩:=h
  exact#[o,t,w,k _ o (λz=>(d _ z).2.1 rfl) x,r]
 .have f:∀b u,H b\u->b∉fp:=λb u e z=>by rw[(d b z).1] at e;cases e
  refine(I.hok b u e).qE (λc v a q=>k c v ?_ q) (λ_ q=>q) λ_ _ q=>q
  rcases a with z|z
  .rw[z];exact f b u e
  .exact f c _ z
def Inv.TB(I:Inv X pins σ H s)(f:∀b∈fp,fN X pins H b)(k:∀b o,b∉fp->s.heap.get? b\o->h'.get? b\o)(h:s.heap.objs.size<=t)
  (new:cG X.prog X.w (upd H t o) h' t o):Inv X pins σ (upd H t o) {s with heap:=h',toks:=t'}:=by
 have j:H t=none:=I.hok.fresh h;have up:∀b u,H b\u->upd H t o b\u:=λb u e=>by rw[ag^ao e j];exact e
 refine I.step (g':=s.gens) (d':=s.drawn) (ch:=fp) (λb d=>?_) (λb o _ _ a e _=>k b o a e) (λb o _ _ a e _=>#[o.slots,k b o a e]) (λb o _ e n=>?_)
  (λb o a e=>#[o,k b o a e]) (λb F e=>up b _ e) (λb _ _ e=>up b _ e) (λb G e=>#[#[],by rw[up b _ e];simp]) (λm l=>?_) (λb u e=>?_) I.bare
 .obtain⟨_,p,_,x,y,A⟩:=f b d
  exact#[x,p,y,A]
 .rw[ag^bX^dR (Da e) h];exact n
 .obtain⟨o,B,C,E,r⟩:=l
  exact#[o,B,C,k _ o (λz=>(f _ z).2.1 rfl) E,r]
 .by_cases d:b=t
  .subst d
   rw[af] at e;cases Fk e;exact new
  .rw[ag d] at e
   have i:∀b u,H b\u->b∉fp:=λb u e z=>by rw[(f b z).1] at e;cases e
   refine(I.hok b u e).qE (λc v a q=>k c v ?_ q) (λg q=>up g _ q) λg _ q=>up g _ q
   rcases a with z|z
   .rw[z];exact i b u e
   .exact i c _ z
end
noncomputable def MS(K:ad)(a:Addr):It:=
 #[λi H=>∃b x,aK K H a b/\b[i]?\x,λi H y c=>∃t x,y= .ref t/\H t=none/\c=upd H t^.tup [.int i,x]/\∀b,aK K H a b->b[i]?\x,λi H=>∃b,aK K H a b/\b.length<=i]
def yz(e:h.get? t\{cls:= .type "tuple",data:= .seq [u,v].toArray}):IsTup h t [u,v].toArray:=#[_,e,rfl,_,rfl]
def Lk{P:ee}{w:ei}{K:ad}{Z:List fz}{k1}{tp:jp}(a e l:Addr)(ne:e≠l):
  Turn P w K (.Tuple Z k1 tp) (MS K a) [e,l] e (λi h=>(∃g,IsEnum h e l i g)/\h.IsListIter l a i) where
 mem:=by simp
 obj:=λi h st b f=>by
  obtain⟨⟨g,m⟩,o,B,c,d⟩:=st
  rcases b7.mp f with z|z
  .subst z
   exact#[_,m,λv w=>by cases w]
  .have C:b=l:=by simpa using z
   subst C;exact#[o,B,λv z=>by rw[d] at z;cases z]
 keep:=λi h y st k=>by
  obtain⟨⟨g,m⟩,jJ⟩:=st;exact#[#[g,k e (by simp) _ m],jJ.at λo q=>k l (by simp) o q]
 item:=by
  intro X F hw G S i j s T H E I r st J;rfl';subst F hw G;let⟨xs,x,A,M⟩:=J;let⟨N,O,p,hz⟩:=I.list A;let⟨u,hu,ru⟩:=O.get M;obtain⟨⟨g,m⟩,n⟩:=st;ac_rfl;refine wpAny_pyNext_enum_item m n p.isList (x:=u) (~~~hu) ne λy w9 Q Zx ac9 kk=>?_
  have k2:∀b o,b∉ [e,l]->s.heap.get? b\o->y.get? b\o:=λb o f q=>kk b o (λz=>f^by simp[z]) (λz=>f^by simp[z]) q
  have I1:Inv X j T (upd H s.heap.objs.size^.tup [.int i,x]) {s with heap:=y,toks:=s.toks+1}:=
   I.TB r k2 (aZ _) #[by show 2<=sizeLine;decide,[.int i s.toks,u], .cons #[_,rfl]^.cons ru .nil,yz Zx]
  refine#[_,rfl,wpAny_letOwnedTupleGo_enum w9 λh2 R Y=>?_]
  have lt:∀b∈ [e,l],b<s.heap.objs.size:=λb f=>by
   rcases b7.mp f with z|z
   .rw[z];exact Da m
   .obtain⟨o,B,_⟩:=n
    have C:b=l:=by simpa using z
    rw[C];exact Da B
  have t:∀b∈ [e,l],fN X j (upd H s.heap.objs.size^.tup [.int i,x]) b:=λb f=>#[by rw[ag^bX^lt b f];exact(r b f).1,(r b f).2]
  refine#[.ref s.heap.objs.size,_,I1.IU (t':=s.toks+1) t^λb o f q=>Y.extBut b o (λz=>f^by simp[z]) q,rfl,#[_,x,rfl,I.hok.fresh^aZ _,rfl,λys hy=>by rw[I.D5 hy A];exact M],#[#[u,?_],Q.extBut Y.extBut^Ne.symm ne],λb f=>(t b f).1]
  have z:((i+1:Nat):Int)=(i:Int)+1:=()
  rw[z];exact R
 done:=by
  intro X F hw G S i j s T H E I r st J;rfl';subst F hw G;let⟨xs,A,M⟩:=J;let⟨N,O,p,hz⟩:=I.list A;have hl:=O.length;obtain⟨⟨g,m⟩,n⟩:=st;ac_rfl;exact wpAny_pyNext_enum_end (I.ok.hd S) m n p.isList (by simp;lia) λy eb=>#[rfl,I.IU (t':=s.toks) r λb o f q=>eb b o (λz=>f^by simp[z]) q]
 self:=λ_ _ _ _ _ st h=>by
  obtain⟨⟨g,m⟩,_⟩:=st;exact wpAny_pyIter_enum m h
section
variable {X:Cx}
def ZH(K:ad)(c:TA):TI:=λd H R=>c d H λe b=>∃a,e= [.ref a]/\(∃f,b a\(.lst f))/\R (MS K a) b
def A4{i:TA}{k1}(t:Gl X "enumerate")(v:X.mg "enumerate"=none)(w:PA X [a] i)(x:d4 [a] X.env= [(false,f7 a X.env)]<|>zn):
  PI X (.Tuple o k1 r) (.Call (.Name "enumerate" p) [a] [] pos)^ZH X.K i:=by
 intro d s y H R I h;refine Call_^kK I t v boot_enumerate^W1 (thn (w pos d s y H _ I h) λP c #[Q,A,f,B,C]=>?_) x rfl;rfl';obtain⟨l,e,⟨T,F⟩,q⟩:=C;subst e;let⟨u,rfl,G⟩:=B.one;subst G;let⟨z,J,n,Y,j,e⟩:=f.sL F;ac_rfl;refine call_enumerate_1 e λZ k g e8 L=>?_;refine wpAny_pyIter_enum k ?_;have M:c.heap.objs.size+1≠c.heap.objs.size:=Nat.succ_ne_self _;refine#[c.heap.objs.size+1,[c.heap.objs.size+1,c.heap.objs.size],_,_,A,rfl,f.kept (t':=c.toks) L,Lk l _ _ M,#[#[_,k],g],λb N=>?_,q]
 have m:c.heap.objs.size<=b:=by
  rcases b7.mp N with z|z
  .rw[z];exact lS _
  .have O:b=c.heap.objs.size:=by simpa using z
   rw[O];exact aZ _
 exact f.Qe m^f.hok.fresh m
end
end L2
namespace Wb
abbrev W:=List^List Nat
noncomputable def row(w:W)(p:Nat):List Nat:=w.getD p []
inductive Reach (w:W):Nat->Nat->Prop
 |refl (p):Reach w p p
 |step {p q r}:Reach w p q->r∈row w q->Reach w p r
structure Good (w:W):Prop where
 rng:∀p q,q∈row w p->q<w.length
 irr:∀p,p∉row w p
 nod:∀p,(row w p).Nodup
 sym:∀p q,q∈row w p->p∈row w q
 con:∀p,p<w.length->Reach w 0 p
def bZ(h:q∈row w p):p<w.length:=by
 apply FM;intro a;unfold row at h;rw[bO,fJ ()] at h
 simp at h
def qk(h:p<w.length):w[p]?\(row w p):=by
 unfold row;rw[bO,bA h];rfl
def VY(h:w[p]?\r):row w p=r:=by
 unfold row;rw[bO,h];rfl
def Iw(h:w.length<=p):row w p= []:=by
 unfold row;rw[bO,fJ h];rfl
def Reach.trans{w:W}(h:Reach w p q)(a:Reach w q r):Reach w p r:=by
 induction a with
 |refl=>exact h
 |step _ b c=>exact .step c b
def Reach.symm{w:W}(a:∀p q,q∈row w p->p∈row w q)(h:Reach w p q):Reach w q p:=by
 induction h with
 |refl=>exact .refl _
 |step _ b c=>exact(Reach.step (.refl _)^a _ _ b).trans c
def Reach.mono{w a:W}(b:∀p q,q∈row w p->q∈row a p){p q:Nat}(h:Reach w p q):Reach a p q:=by
 induction h with
 |refl=>exact .refl _
 |step _ c d=>exact .step d^b _ _ c
noncomputable def ins{a:Type}(b:List a)(i:Nat)(x:a):List a:=b.take i++x::b.drop i
def rh(a:List b)(i:Nat)(x:b):(ins a i x).Perm (x::a):=by
 unfold ins;have h:= @List.perm_middle _ x (a.take i)^a.drop i;rw[gL] at h;exact h
def dG:a∈ins b i x↔a=x\/a∈b:=by
 rw[(rh b i x).mem_iff,b7]
def tR(h:a.Nodup)(c:x∉a):(ins a i x).Nodup:=by
 rw[(rh a i x).nodup_iff,kD];exact#[c,h]
def Ax(a:List b)(i:Nat)(x:b):(ins a i x).length=a.length+1:=by
 rw[(rh a i x).length_eq];rfl
def ins_map(f:a->c)(b:List a)(i:Nat)(x:a):(ins b i x).map f=ins (b.map f) i^f x:=by
 unfold ins;simp[yg,ael]
def iw(h:p<w.length):row (w.set p r) x=if p=x then r else row w x:=by
 unfold row;rw[bO,pb]
 by_cases e:p=x
 .rw[ir e,ir e,ir h];rfl
 .rw[mo e,mo e,bO]
def Ej:row (w++ [r]) x=if x=w.length then r else row w x:=by
 unfold row;rw[bO,aeE]
 split
 .rw[mo (),bO]
 .split
  .rename_i h e;subst e;simp
  .rename_i h e
   rw[bO,fJ^by simp;lia,fJ ()]
def Np:Good [[]]:=by
 have a:∀p,row [[]] p= []:=λp=>by
  unfold row;cases p with
  |zero=>rfl
  |succ n=>simp
 refine#[λp q h=>?_,λp h=>?_,λp=>?_,λp q h=>?_,λp h=>?_]
 .rw[a] at h;cases h
 .rw[a] at h;cases h
 .rw[a];exact iV
 .rw[a] at h;cases h
 .have:p=0:=by simp at h;exact h
  subst this;exact .refl _
noncomputable def leaf(w:W)(p i:Nat):W:=(w.set p^ins (row w p) i w.length)++ [[p]]
def rk(w:W)(p i:Nat):(leaf w p i).length=w.length+1:=by unfold leaf;simp
def Ei{p i x:Nat}(h:p<w.length):row (leaf w p i) x=if x=w.length then[p] else if p=x then ins (row w p) i w.length else row w x:=by
 unfold leaf;rw[Ej,iU,iw h]
def Ap{p i:Nat}(g:Good w)(h:p<w.length):Good^leaf w p i:=by
 have b:=λx=>Ei (i:=i) (x:=x) h;have d:∀x,w.length∉row w x:=λx a=>jy _^g.rng _ _ a
 have mono:∀x q,q∈row w x->q∈row (leaf w p i) x:=λx q c=>by
  have:=bZ c
  rw[b,mo ()]
  split
  .rename_i e;subst e;exact dG.mpr^.inr c
  .exact c
 refine#[λx q a=>?_,λx a=>?_,λx=>?_,λx q a=>?_,λx a=>?_]
 .rw[b] at a;rw[rk]
  split at a
  .simp at a;lia
  .split at a
   .rcases dG.mp a with e|e
    .lia
    .have:=g.rng _ _ e;lia
   .have:=g.rng _ _ a;lia
 .rw[b] at a
  split at a
  .simp at a;lia
  .split at a
   .rcases dG.mp a with e|e
    .lia
    .rename_i f;subst f;exact g.irr _ e
   .exact g.irr _ a
 .rw[b];split
  .simp
  .split
   .exact tR (g.nod _)^d _
   .exact g.nod _
 .rw[b] at a
  split at a
  .have e:q=p:=by simpa using a
   subst e
   rename_i e
   rw[b,mo (),ir rfl,e]
   exact dG.mpr^.inl rfl
  .split at a
   .rename_i e;subst e
    rcases dG.mp a with e|e
    .rw[b,ir e];simp
    .exact mono _ _^g.sym _ _ e
   .exact mono _ _^g.sym _ _ a
 .rw[rk] at a
  by_cases e:x=w.length
  .refine Reach.step ((g.con p h).mono mono) ?_
   rw[b,mo (),ir rfl,e]
   exact dG.mpr^.inl rfl
  .exact(g.con x ()).mono mono
noncomputable def mS(w:W)(p i u j:Nat):W:=(w.set p^ins (row w p) i u).set u^ins (row w u) j p
def wx(w:W)(p i u j:Nat):(mS w p i u j).length=w.length:=by unfold mS;simp
def SQ{p i u j x:Nat}(a:p<w.length)(b:u<w.length):row (mS w p i u j) x=if u=x then ins (row w u) j p else if p=x then ins (row w p) i u else row w x:=by
 unfold mS;rw[iw^~~~b,iw a]
def DK{p i u j:Nat}(g:Good w)(l:p<w.length)(m:u<w.length)(ne:u≠p)(k:u∉row w p):Good^mS w p i u j:=by
 have b:=λx=>SQ (i:=i) (j:=j) (x:=x) l m;have d:p∉row w u:=λh=>k^g.sym _ _ h
 have mono:∀x q,q∈row w x->q∈row (mS w p i u j) x:=λx q f=>by
  rw[b]
  split
  .rename_i e;subst e;exact dG.mpr^.inr f
  .split
   .rename_i e;subst e;exact dG.mpr^.inr f
   .exact f
 refine#[λx q a=>?_,λx a=>?_,λx=>?_,λx q a=>?_,λx a=>?_]
 .rw[b] at a;rw[wx]
  split at a
  .rcases dG.mp a with e|e
   .lia
   .exact g.rng _ _ e
  .split at a
   .rcases dG.mp a with e|e
    .lia
    .exact g.rng _ _ e
   .exact g.rng _ _ a
 .rw[b] at a
  split at a
  .rename_i c;subst c
   rcases dG.mp a with e|e
   .exact ne e
   .exact g.irr _ e
  .split at a
   .rename_i c;subst c
    rcases dG.mp a with e|e
    .exact ne e.symm
    .exact g.irr _ e
   .exact g.irr _ a
 .rw[b];split
  .exact tR (g.nod _) d
  .split
   .exact tR (g.nod _) k
   .exact g.nod _
 .rw[b] at a
  split at a
  .rename_i c;subst c
   rcases dG.mp a with e|e
   .subst e;rw[b,mo ne,ir rfl];exact dG.mpr^.inl rfl
   .exact mono _ _^g.sym _ _ e
  .split at a
   .rename_i c;subst c
    rcases dG.mp a with e|e
    .subst e;rw[b,ir rfl];exact dG.mpr^.inl rfl
    .exact mono _ _^g.sym _ _ e
   .exact mono _ _^g.sym _ _ a
 .rw[wx] at a;exact(g.con x a).mono mono
theorem Nq(g:Good w)(j:i.length=w.length)(into:∀p,p<w.length->ord p<w.length)
  (inj:∀p q,p<w.length->q<w.length->ord p=ord q->p=q) (sur:∀y,y<w.length->∃p,p<w.length/\ord p=y)
  (k:∀p,p<w.length->(row i^ord p).Perm^(row w p).map ord):Good i:=by
 have mem:∀p q,p<w.length->(q∈row i^ord p↔∃a,a∈row w p/\ord a=q):=λp q d=>by
  rw[(k p d).mem_iff,bR]
 have reach:∀{p q},Reach w p q->Reach i (ord p)^ord q:=λ {p q} h=>by
  induction h with
  |refl=>exact .refl _
  |step _ l n=>exact .step n^(mem _ _^bZ l).mpr #[_,l,rfl]
 refine#[λy q c=>?_,λy c=>?_,λy=>?_,λy q c=>?_,λy c=>?_]
 .obtain⟨p,d,rfl⟩:=sur y^by have:=bZ c;lia
  let⟨a,f,rfl⟩:=(mem p q d).mp c;rw[j];exact into a^g.rng _ _ f
 .obtain⟨p,d,rfl⟩:=sur y^by have:=bZ c;lia
  let⟨a,f,e⟩:=(mem p _ d).mp c
  have:=inj a p (g.rng _ _ f) d e
  subst this;exact g.irr _ f
 .by_cases c:y<w.length
  .obtain⟨p,d,rfl⟩:=sur y c
   rw[(k p d).nodup_iff];unfold cP;rw[iA];refine adt ?_^g.nod p;intro a b f o ne e;exact ne^inj a b (g.rng _ _ f) (g.rng _ _ o) e
  .rw[Iw ()];exact iV
 .obtain⟨p,d,rfl⟩:=sur y^by have:=bZ c;lia
  let⟨a,f,rfl⟩:=(mem p q d).mp c;exact(mem a _^g.rng _ _ f).mpr #[p,g.sym _ _ f,rfl]
 .rw[j] at c
  let⟨p,d,rfl⟩:=sur y c;let⟨z,r,s⟩:=sur 0 ()
  have m:=reach^((g.con z r).symm g.sym).trans^g.con p d;rw[s] at m;exact m
noncomputable def aO(l:List Nat)(x:Nat):Nat:=l.getD ((l.idxOf x+1)%l.length) 0
noncomputable def bq(w:W)(d:Nat×Nat):Nat×Nat:=(d.2,aO (row w d.2) d.1)
def ax(w:W)(d:Nat×Nat):Prop:=d.2∈row w d.1
def lO(h:x∈l):l[(l.idxOf x+1)%l.length]?\(aO l x):=by
 have a:0<l.length:=jh h;unfold aO;rw[bO,bA^kE _ a];rfl
def Lf(h:x∈l):aO l x∈l:=cU^lO h
def Rz(f:a<n)(g:b<n)(e:(a+1)%n=(b+1)%n):a=b:=by
 by_cases d:a+1=n
 .by_cases c:b+1=n
  .lia
  .rw[d,afo,kC ()] at e;lia
 .by_cases c:b+1=n
  .rw[c,afo,kC ()] at e;lia
  .rw[kC (),kC ()] at e;lia
def Bz(g:l.Nodup)(a:x∈l)(b:y∈l)(e:aO l x=aO l y):x=y:=by
 have o:0<l.length:=jh a;have c:=lO a;have h:=lO b;rw[e] at c;have d:=sV.mpr a;have f:=sV.mpr b;let⟨p,i⟩:=cD.mp c;let⟨r,j⟩:=cD.mp h;have q:=(afj g).mp^i.trans j.symm;have k:=Rz d f q;have m:=qQ d;have n:=qQ f;rw[<-m,<-n];simp only[k]
def NW(g:Good w)(h:ax w d):ax w^bq w d:=Lf^g.sym _ _ h
def nk(g:Good w)(h:ax w d)(c:ax w e)(q:bq w d=bq w e):d=e:=by
 have a:d.2=e.2:=IR Prod.fst q;have b:aO (row w d.2) d.1=aO (row w e.2) e.1:=IR Prod.snd q;rw[<-a] at b;have f:d.1∈row w d.2:=g.sym _ _ h;have i:e.1∈row w d.2:=by rw[a];exact g.sym _ _ c
 exact UV (Bz (g.nod _) f i b) a
noncomputable def aQ(w:W):List (Nat×Nat):=(aj w.length).flatMap λp=>(row w p).map λq=>(p,q)
def aD{w:W}:d∈aQ w↔ax w d:=by
 unfold aQ ax;rw[List.mem_flatMap]
 constructor
 .rintro⟨p,_,h⟩
  let⟨q,a,rfl⟩:=bR.mp h;exact a
 .intro h
  exact#[d.1,d9.mpr^bZ h,bR.mpr #[d.2,h,rfl]]
theorem ba [DecidableEq b]:∀{l m:List b},l.Nodup->(∀x∈l,x∈m)->l.length<=m.length
 | [],_,_,_=>eB _
 |a::r,m,g,h=>by
  have c:=kD.mp g;have d:=h a cF;have i:=ba (l:=r) (m:=m.erase a) c.2 λx f=>(List.mem_erase_of_ne^λ(e:x=a)=>c.1^by rw[<-e];exact f).mpr^h x^dS _ f
  rw[List.length_erase_of_mem d] at i
  have:=jh d
  simp only[cJ];lia
def fH(g:Good w)(p:Nat):(row w p).length<=w.length:=by
 have:=ba (m:=aj w.length) (g.nod p) λx a=>d9.mpr^g.rng _ _ a
 simpa using this
theorem Dz{f:b->List c}{k:Nat}:∀{l:List b},(∀x∈l,(f x).length<=k)->(l.flatMap f).length<=l.length*k
 | [],_=>by simp
 |a::r,h=>by
  have e:=Dz (f:=f) (k:=k) (l:=r) λx d=>h x^dS _ d
  have:=h a cF
  rw[yd,dJ,cJ,Nat.succ_mul];lia
def gB(g:Good w):(aQ w).length<=w.length*w.length:=by
 have:=Dz (f:=λp=>(row w p).map λq=>(p,q)) (k:=w.length) (l:=aj w.length) λx _=>by rw[aI];exact fH g x
 rw[jx] at this;exact this
noncomputable def br(w:W):Nat->Nat×Nat->Nat×Nat
 |0,d=>d
 |n+1,d=>bq w^br w n d
theorem fE(g:Good w)(h:ax w d):∀n,ax w^br w n d
 |0=>h
 |n+1=>NW g^fE g h n
theorem fY{w:W}{d:Nat×Nat}(m:Nat):∀n,br w (n+m) d=br w n^br w m d
 |0=>by rw[mD];rfl
 |n+1=>by rw[Nat.succ_add];show bq w^br w (n+m) d=bq w^br w n^br w m d;rw[fY m n]
theorem Az(g:Good w)(h:ax w d)(a:ax w e):∀n,br w n d=br w n e->d=e
 |0,q=>q
 |n+1,q=>Az g h a n^nk g (fE g h n) (fE g a n) q
noncomputable def walk(w:W)(d:Nat×Nat)(k:Nat):List (Nat×Nat):=(aj k).map λi=>br w i d
def t9(w:W)(d:Nat×Nat)(k:Nat):walk w d (k+1)=walk w d k++ [br w k d]:=by
 unfold walk;rw[afB,dk];rfl
def eV(w:W)(d:Nat×Nat)(k:Nat):(walk w d k).length=k:=by unfold walk;simp
def oI(g:Good w)(h:ax w d){k:Nat}:∀e∈walk w d k,ax w e:=λe a=>by
 obtain⟨i,_,rfl⟩:=bR.mp a;exact fE g h i
def qH(g:Good w)(h:ax w d)(a:∀j,0<j->j<k->br w j d≠d):(walk w d k).Nodup:=by
 unfold walk cP;rw[iA];refine adt ?_ GA;intro i j f b lt e;have l:=d9.mp b;have c:br w i d=br w i^br w (j-i) d:=by rw[<-fY (j-i) i,show i+(j-i)=j by lia];exact e
 exact a (j-i) () () (Az g h (fE g h _) i c).symm
def qG(g:Good w)(h:ax w d){k:Nat}(a:∀j,0<j->j<k->br w j d≠d):k<=(aQ w).length:=by
 have:=ba (m:=aQ w) (qH g h a) λe b=>aD.mpr^oI g h e b
 rwa [eV] at this
def G9(g:Good w){S:Nat->Prop}(c:S 0)(d:∀p q,S p->q∈row w p->S q):∀p,p<w.length->S p:=λp e=>by
 have:∀{a b},Reach w a b->S a->S b:=λ {a b} h f=>by
  induction h with
  |refl=>exact f
  |step _ i j=>exact d _ _ j i
 exact this (g.con p e) c
def lexLe(a b:Nat×Nat):Prop:=a.1<b.1\/(a.1=b.1/\a.2<=b.2)
def rq(h:lexLe a b)(c:lexLe b a):a=b:=by
 unfold lexLe at h c;exact UV () ()
noncomputable def fV(a:Nat->List Nat)(n:Nat):List (Nat×Nat):=(aj n).flatMap λp=>((a p).filter λq=>decide (p<q)).map λq=>(p,q)
theorem qh{e c:Type}{R:c->c->Prop}{f:e->List c}:∀{l:List e},(∀x∈l,(f x).Pairwise R)->l.Pairwise (λa b=>∀x∈f a,∀y∈f b,R x y)->(l.flatMap f).Pairwise R
 | [],_,_=>List.Pairwise.nil
 |a::r,h,p=>by
  have g:=List.pairwise_cons.mp p;rw[yd,wH];refine#[h a cF,qh (λx d=>h x^dS _ d) g.2,λx d y i=>?_];let⟨b,j,k⟩:=List.mem_flatMap.mp i;exact g.1 b j x d y k
end Wb
namespace L2
open PySem PySem.Spec PyProof.Rows
section
variable {X:Cx}
theorem Vals.ins{x:V}{u:b_}(r:RelV x u){a:List V}{b:List b_}(i:Nat)(h:Vals a b):Vals (Wb.ins a i x)^Wb.ins b i u:=(h.take i).append^.cons r^h.drop i
def SE:V->List V->Hp->VK->Prop:=λx b H Q=>∃l a i y,x= .ref l/\b= [.int i,y]/\H l\(.lst a)/\0<=i/\i<=a.length/\a.length<sizeLine/\Q .aS^upd H l^.lst^Wb.ins a i.toNat y
def oh:MU X "list.insert" SE:=by
 intro c s u H x w v A Q I g j h;rfl';let⟨l,C,i,y,rfl,rfl,d,E,G,J,q⟩:=h;subst g;obtain⟨L,f,rfl,⟨t,rfl⟩,m⟩:=j.two;let⟨z,a,n,r,M,e⟩:=I.sL d;have N:=n5;ac_rfl
 have b:¬(!Builtin.List.listFitsIndex i)=true:=by
  rw[fitsIndex_both () ()]
  exact dZ
 refine ad9 F.slot_list_insert #[_,e,rfl] F.entry_list_insert (F.args_list_insert_3 _ _ _) (AutoSeq1.list_insert_list_int_val_1 l a.toArray n i t f b^by rw[cE];lia) #[e,?_]
 refine#[.aS,_,I.HQ (its':=Wb.ins a i.toNat f) d e ?_ (r.ins m i.toNat) ?_,rfl,q]
 .have o:¬i<0:=()
  have p:min i.toNat a.length=i.toNat:=()
  simp only[o,Pi,cE,p];apply afp.mp;unfold Wb.ins;simp;exact sW^by rw[ji];lia
 .rw[Wb.Ax];lia
def VQ(K:ad):V->List V->Hp->VK->Prop:=λx b H Q=>∃(l:Addr)(a:List V)(y:V)(j:Nat)(z:V),x= .ref l/\b= [y]/\H l\(.lst a)/\iG y=true/\a.all iG=true/\a[j]?\z/\tD z y=true/\
 (∀(m:Nat) z,m<j->a[m]?\z->tD z y=false)/\Q (.int j) H
def rB:MU X "list.index"^VQ X.K:=by
 intro A s Y H x Z v us Q I B C h;rfl';let⟨l,d,y,j,z,rfl,rfl,G,J,fs,f,L,M,q⟩:=h;subst B;let⟨u,rfl,N⟩:=C.one;let⟨e8,a,n,r,hl,e⟩:=I.sL G;let⟨w,hw,O⟩:=r.get f;ac_rfl
 have P:j<a.toArray.size:=by
  let⟨b,D⟩:=cD.mp hw;simpa using b
 have flat:∀(m:Nat) z,d[m]?\z->iG z=true:=λm z h=>(aeo.mp fs) z^cU h
 have g:a.toArray[j]=w:=by
  let⟨b,i⟩:=cD.mp hw;simpa using i
 have cg:=n5
 have Fh:j<d.length:=by
  let⟨b,D⟩:=cD.mp f;exact b
 refine ad9 F.slot_list_index #[_,e,rfl] F.entry_list_index (F.args_list_index_2 _ _) (SeqAt.list_indexAt l a.toArray n none #[] u (sj y) j P () ?_ ?_) #[e,λw hw=>kT N J r fs w^~~~hw,?_]
 .rw[g,zF O^flat j z f];exact L
 .intro m R S
  have zg:m<a.length:=by simpa using R
  obtain⟨c,k⟩:∃c,d[m]?\c:=#[_,bA ()]
  let⟨T,o,p⟩:=r.get k
  have t:a.toArray[m]=T:=by
   let⟨b,i⟩:=cD.mp o;simpa using i
  rw[t,zF p^flat m c k];exact M m c S k
 .exact#[.int j,H,I.tok _,#[_,rfl],q]
end
mutual
inductive Dp (K:ad) (H:Hp):V->PyData->Prop
 |aS:Dp K H .aS .none
 |bl (b:Bool):Dp K H (.bl b)^.bool b
 |int (i:Int):Dp K H (.int i)^.int i
 |str (x:eg) (h:PyData.strOk x=true):Dp K H (.str x)^.str x
 |lst {a:Addr} {xs:List V} {ds:List PyData}:aK K H a xs->DpAll K H xs ds->Dp K H (.ref a)^.list ds
 |tup {a:Addr} {xs:List V} {ds:List PyData}:fW K H a xs->DpAll K H xs ds->Dp K H (.ref a)^.tuple ds
inductive DpAll (K:ad) (H:Hp):List V->List PyData->Prop
 |nil:DpAll K H [] []
 |cons {v:V} {vs:List V} {d:PyData} {ds:List PyData}:Dp K H v d->DpAll K H vs ds->DpAll K H (v::vs) (d::ds)
end
section
variable {X:Cx} {pins:List (Addr×Obj)} {σ:St} {H:Hp} {s:Shared}
mutual
theorem Dp.reads(I:Inv X pins σ H s):∀{v:V}{d:PyData}{u:b_},Dp X.K H v d->RelV v u->(∃as,Reads s.heap u d as)/\d.canLay0=true
 |_,_,_, .aS,r=>by cases r;exact#[#[_, .none],rfl]
 |_,_,_, .bl b,r=>by cases r;exact#[#[_, .bool b],rfl]
 |_,_,_, .int i,r=>by let⟨t,rfl⟩:=r;exact#[#[_, .int i t],rfl]
 |_,_,_, .str x h,r=>by let⟨t,rfl⟩:=r;exact#[#[_, .str x t],by simpa [PyData.canLay0] using h]
 |_,_,_, .lst h a,r=>by
  cases r;let⟨its,rv,pl,hz⟩:=I.list h;obtain⟨⟨as,ra⟩,c⟩:=DpAll.reads I a rv;let⟨o,ho,hc,n,hd⟩:=pl.isList;exact#[#[_, .list ho hc hd^~~~ra],by simpa [PyData.canLay0] using c]
 |_,_,_, .tup h a,r=>by
  cases r;let⟨its,rv,pl,hz⟩:=I.tuple h;obtain⟨⟨as,ra⟩,c⟩:=DpAll.reads I a rv;let⟨o,ho,hc,n,hd⟩:=pl;exact#[#[_, .tuple ho hc hd^~~~ra],by simpa [PyData.canLay0] using c]
theorem DpAll.reads(I:Inv X pins σ H s):∀{vs:List V}{ds:List PyData}{us:List b_},DpAll X.K H vs ds->Vals vs us->(∃as,ReadsAll s.heap us ds as)/\PyData.canLayAll0 ds=true
 |_,_,_, .nil, .nil=>#[#[_, .nil],by simp[PyData.canLayAll0]]
 |_,_,_, .cons a as, .cons r rs=>by
  obtain⟨⟨x,h1⟩,c1⟩:=Dp.reads I a r;obtain⟨⟨y,h2⟩,c2⟩:=DpAll.reads I as rs;exact#[#[_, .cons h1 h2],by simp[PyData.canLayAll0,c1,c2]]
end
end
section
variable {X:Cx}
def ach(K:ad):R2:=λx y H Q=>∃d e,Dp K H x d/\Dp K H y e/\d.depth<=64/\Q (.bl^PyData.eqv d e) H
def aci(K:ad):R2:=λx y H Q=>∃d e,Dp K H x d/\Dp K H y e/\d.depth<=64/\Q (.bl (!PyData.eqv d e)) H
def Vs(n:X.A.units+64<cLine):OpR X (ff .Eq)^ach X.K:=by
 intro a s o H x y v u Q I b c h;rfl';let⟨d,e,g,i,r,q⟩:=h;obtain⟨⟨t,j⟩,k⟩:=g.reads I b;obtain⟨⟨bs,l⟩,m⟩:=i.reads I c;ac_rfl;exact SeqAt.compareEq_reads j l k m (by have:=Nat.min_le_left d.depth e.depth;lia) #[.bl _,H,I,rfl,q]
def FL(n:X.A.units+64<cLine):OpR X (ff .NotEq)^aci X.K:=by
 intro a s o H x y v u Q I b c h;rfl';let⟨d,e,g,i,r,q⟩:=h;obtain⟨⟨t,j⟩,k⟩:=g.reads I b;obtain⟨⟨bs,l⟩,m⟩:=i.reads I c;ac_rfl;exact SeqAt.compareNe_reads j l k m (by have:=Nat.min_le_left d.depth e.depth;lia) #[.bl _,H,I,rfl,q]
end
def nD(n:Nat):PyData:= .int n
noncomputable def mr(r:List Nat):PyData:= .list^r.map nD
noncomputable def oX(d:Nat×Nat):PyData:= .tuple [.int d.1, .int d.2]
theorem yq{e:Type}{f:e->PyData}(g:∀a b,PyData.eqv (f a)^f b=true↔a=b):∀c d:List e,PyData.eqvAll (c.map f)^d.map f=true↔c=d
 | [],[]=>by simp[PyData.eqvAll]
 | [],_::_=>by simp[PyData.eqvAll]
 |_::_,[]=>by simp[PyData.eqvAll]
 |a::c,b::d=>by
  have h:=yq g c d;simp[PyData.eqvAll,g,h]
def Uz(a b:Nat):PyData.eqv (nD a)^nD b=true↔a=b:=by
 simp[nD,PyData.eqv];lia
def Ds(a b:List Nat):PyData.eqv (mr a)^mr b=true↔a=b:=by
 unfold mr;rw[PyData.eqv];exact yq Uz a b
def Dw(a b:Nat×Nat):PyData.eqv (oX a)^oX b=true↔a=b:=by
 unfold oX;let⟨c,d⟩:=a;let⟨e,f⟩:=b;simp[PyData.eqv,PyData.eqvAll];lia
theorem mF{f:c->PyData}{k:Nat}(d:∀a,(f a).depth<=k):∀b:List c,PyData.depthAll^b.map f<=k
 | []=>by simp[PyData.depthAll]
 |a::b=>by
  have:=d a
  have e:=mF d b;simp[PyData.depthAll];lia
def pN(a:List Nat):(mr a).depth<=2:=by
 unfold mr;rw[PyData.depth]
 have:=mF (f:=nD) (k:=1) (λn=>by simp[nD,PyData.depth]) a
 lia
def yo(a:Nat×Nat):(oX a).depth<=2:=by simp[oX,PyData.depth,PyData.depthAll]
end L2
namespace L2
open PySem PySem.Spec PyProof.Rows
theorem Vals.of_get:∀{a:List V}{b:List b_},a.length=b.length->(∀(k:Nat) x u,a[k]?\x->b[k]?\u->RelV x u)->Vals a b
 | [],[],_,_=> .nil
 | [],_::_,h,_=>by simp at h
 |_::_,[],h,_=>by simp at h
 |x::a,u::b,h,r=> .cons (r 0 x u rfl rfl) (Vals.of_get (~~~h) λk y w c d=>r (k+1) y w (~~~c)^~~~d)
section
variable {X:Cx}
def EM:cV X (.builtin "isinstance") (λa H Q=>∃(x:V)(n:String)(t:b_)(b:Bool),a= [x, .ty n]/\lZ X.K H x t/\cy X.K t^.type n\b/\Q (.bl b) H):=by
 intro c s k H a l Q I d h;rfl';let⟨x,n,t,b,rfl,g,e,q⟩:=h;let⟨o,p,rfl,i,j⟩:=d.two;subst j;ac_rfl;exact Ke I i g e λr=>#[.bl b,H,I.tok _,rfl,q]
def Cf:cV X (.builtin "sorted") (λf H Q=>∃(p:Addr)(c:List Int),f= [.ref p]/\aK X.K H p^c.map V.int/\c.length<64/\∀(q:Addr)(a:List Int),H q=none->a.Perm c->a.Pairwise (·<=·)->Q (.ref q)^upd H q^.lst^a.map V.int):=by
 intro g s z H f A Q I j h;rfl';let⟨p,c,rfl,l,C,q⟩:=h;let⟨u,rfl,m⟩:=j.one;subst m;let⟨d,r,pl,k⟩:=I.list l;have n:=r.length;rw[aI] at n;ac_rfl;refine sorted_ints pl.isList (intsAre_of r) () λout a t i v=>?_
 let⟨e,w⟩:=afW s.heap d out;have x:H (s.heap.objs.size+1)=none:=I.hok.fresh^lS _;have E:=i.length_eq;have F:64<=sizeLine:=∅
 refine#[.ref (s.heap.objs.size+1),_,I.laid (t':=s.toks) (λb o y=>afR y) (lS _) (o:= .lst^a.map V.int) #[by rw[aI];lia,out.toList,e,t6 t,by simpa using w],rfl,q _ a x i v]
noncomputable def ot(i:Int)(n:Nat):List V:=(aj n).map λ(k:Nat)=>V.int (i+(k:Int))
theorem z9(m:X.calm=true):cV X (.type "list") (λf H Q=>∃(p:Addr)(i j:Int),f= [.ref p]/\H p\(.rng i j)/\-(2<<<62)<=i/\i<2<<<62/\-(2<<<62)<=j/\j<2<<<62/\(j-i).toNat<=1000/\
  ∀q,H q=none->Q (.ref q)^upd H q^.lst^ot i (j-i).toNat):=by
 intro g s P H f R Q I r h;rfl';let⟨p,i,j,rfl,A,B,C,E,F,T,q⟩:=h;let⟨u,rfl,G⟩:=r.one;subst G;let⟨t,u,v,e⟩:=(show cG X.prog X.w H s.heap p^.rng i j from I.hok p _ A);ac_rfl;refine call_list_range (n:=(j-i).toNat) (I.ok.hd m) e (small_one B C E F) ?_ () λY Z acc c J L l=>?_
 .rw[rangeSize_one];split<;>lia
 .have eO:1000<=sizeLine:=∅
  refine#[.ref s.heap.objs.size,_,I.laid J (aZ _) (o:= .lst^ot i (j-i).toNat) #[by unfold ot;simp;lia,acc.toList,c,?_,by simpa using L],rfl,q _^I.hok.fresh^aZ _]
  refine Vals.of_get (by unfold ot;simp[l.1]) λk x w d hw=>?_
  unfold ot at d;rw[cL] at d;let⟨M,N⟩:=l.2 k w^by rw[<-gr];exact hw
  have O:(aj (j-i).toNat)[k]?\k:=by
   cases q:(aj (j-i).toNat)[k]? with
   |none=>rw[q] at d;cases d
   |some z=>
    let⟨a,b⟩:=cD.mp q;rw[aeX] at b;rw[b]
  rw[O] at d;obtain rfl:=Fk d;exact#[M,by rw[N,Int.mul_one]]
end
structure k8 (C:fz) (t0 i0 t1 i1:fz) (f0 f1:List fz) (el:Addr->lz->j_ Unit):Prop where
 u:∀(A:f5)(k:Nat)(it:b_)(D:Addr)(env:lz),A.under^.compLoop C k it (.ref D) env=A
 z0:∀(P:ee)(w:ei)(it:b_)(D:Addr)(env:lz),(d5 P w).den^.compLoop C 0 it (.ref D) env=Sem.onRaise (do
   ie i0.pos
   match <-lr it with
   |none=>pure^.done .next
   |some v=>
    iq t0 it v
    jq t0 env v
    let ok <-forIn f0 true λc r=>if r=true then do let ok <-isTrue c env^f7 c env;pure^ForInStep.yield ok else pure (ForInStep.yield r)
    if ok=true then
     let x <-f7 i1 env
     ie i1.pos
     let x <-ey i1 env x
     let HJ <-gP [x]^pyIter x
     let _ <-runOwn (.compStart C 1 HJ (.ref D) env) env
     again (.compLoop C 0 it (.ref D) env)
    else again^.compLoop C 0 it (.ref D) env) (λx=>do kn x env;theTreesLotGoes x)
 z1:∀(P:ee)(w:ei)(it:b_)(D:Addr)(env:lz),(d5 P w).den^.compLoop C 1 it (.ref D) env=Sem.onRaise (do
   ie i1.pos
   match <-lr it with
   |none=>pure^.done .next
   |some v=>
    iq t1 it v
    jq t1 env v
    let ok <-forIn f1 true λc r=>if r=true then do let ok <-isTrue c env^f7 c env;pure^ForInStep.yield ok else pure (ForInStep.yield r)
    if ok=true then
     el D env
     again (.compLoop C 1 it (.ref D) env)
    else again^.compLoop C 1 it (.ref D) env) (λx=>do kn x env;theTreesLotGoes x)
 b0:∀{P:ee}{w:ei}{A:f5}{R:lb->c_->Prop}{s:c_}{it:b_}{D:Addr}{env:lz},gj (d5 P w) A (.compLoop C 0 it (.ref D) env) R s->
  (∀(Q:b_->c_->Prop)(E:b_->c_->Prop),Q it s->d_ (d5 P w) A (pyIter it) Q E s)->gj (d5 P w) A (.compStart C 0 it (.ref D) env) R s
 b1:∀{P:ee}{w:ei}{A:f5}{R:lb->c_->Prop}{s:c_}{it:b_}{D:Addr}{env:lz},gj (d5 P w) A (.compLoop C 1 it (.ref D) env) R s->
  (∀(Q:b_->c_->Prop)(E:b_->c_->Prop),Q it s->d_ (d5 P w) A (pyIter it) Q E s)->gj (d5 P w) A (.compStart C 1 it (.ref D) env) R s
abbrev MV:=Addr->St->Hp->(Hp->Prop)->Prop
def OX(X:Cx)(d:Addr->Env->Sem Unit)(e:MV):Prop:=∀(D:Addr)(a:List (Addr×Obj))(s:Shared)(b:St)(H:Hp)(N:Hp->Prop),Inv X a b H s->e D b H N->wpAny (model X.prog X.w) X.A (d D X.env) (λ_ f=>∃c,Inv X a b c f/\N c) X.xe s
section
variable {X XC:Cx} {C elt i0 t0 i1 t1:fz} {f0 f1:List fz} {scope:Scope} {pos:jp} {wi cK:TI} {g g1:TG} {tt bY:TT} {te:TE} {ta:MV} {el:Addr->lz->j_ Unit} {src:List^Option Nat} {NC:List eg}
theorem Lm{a:List (Addr×Obj)}{s:c_}{σ:St}{H:Hp}{it D:Addr}{z:List Addr}{Y:Nat->Heap->Prop}{J:It}{R:lb->c_->Prop}{N:St->Hp->Prop}
  (US:XC.xe=λ_ _=>False) (hc:XC.calm=true) (I:Inv XC a σ H s) (T:Turn XC.prog XC.w XC.K t1 J z it Y) (st:Y 0 s.heap) (f2:∀b∈z,fN XC a H b)
  (Tw:k8 C t0 i0 t1 i1 f0 f1 el) (hg:PG XC t1 g1) (ht:k6 XC f1 bY) (he:OX XC el ta)
  (hW:∃W:Nat->Nat->St->Hp->Prop,(∃m,W 0 m σ H)/\∀i m dQ L,W i m dQ L->(J.stop i L/\N dQ L)\/
   (J.go i L/\∃M:St->Hp->Prop,(∀j c,M j c->∃Z,Z<m/\W (i+1) Z j c)/\∀x H3,J.yld i L x H3->g1 x dQ H3 λg H4=>bY g H4 λb H5=>
    if b=true then ta D g H5^M g else M g H5))
  (hR:∀j c v,Inv XC a j c v->N j c->R (.ok .next) v):
  gj (d5 XC.prog XC.w) XC.A (.compStart C 1 (.ref it) (.ref D) XC.env) R s:=by
 obtain⟨W,⟨m0,w0⟩,O⟩:=hW
 have mJ:∀{α:Type}{t:j_ α}{Q:α->c_->Prop}{E:b_->c_->Prop}{s:c_},d_ (d5 XC.prog XC.w) XC.A t Q XC.xe s->d_ (d5 XC.prog XC.w) XC.A t Q E s:=λ {α t Q E s} h=>
  hH h (λ_ _ q=>q) λ_ _ f=>by rw[US] at f;exact f.elim
 have k:∀{c:Hp},(∀b∈z,c b=none)->∀b∈z,fN XC a c b:=λhn b p=>#[hn b p,(f2 b p).2]
 have P:gj (d5 XC.prog XC.w) XC.A (.compLoop C 1 (.ref it) (.ref D) XC.env) R s:=by
  refine afV rfl (λn v=>∃i j c,Inv XC a j c v/\Y i v.heap/\(∀b∈z,c b=none)/\W i n j c) (λn v hI=>?_) m0 #[0,σ,H,I,st,λb p=>(f2 b p).1,w0];rfl';let⟨i,j,c,I5,zx,tH,w5⟩:=hI;ac_rfl;rw[Tw.u,Tw.z1];refine wpAny_noted ?_;refine a_^adn^a_ ?_
  rcases O i n j c w5 with ⟨stop,qn⟩ | ⟨go,M,hN,step⟩
  .refine thn (T.done XC rfl rfl rfl hc i a v j c _ I5 (k tH) zx stop) λr s6 l=>?_
   let⟨hr,I6⟩:=l;subst hr;exact tz^hR j c s6 I6 qn
  .refine thn (T.item XC rfl rfl rfl hc i a v j c _ I5 (k tH) zx go) λr s6 l=>?_
   rfl';let⟨u,hr,h6⟩:=l;ac_rfl;subst hr;refine a_ (thn h6 λ_ s7 l=>?_);rfl';let⟨x,H7,I7,r7,y7,Bu,Qg⟩:=l;ac_rfl;have OR:=I7.pinned (k Qg)^T.obj _ _ Bu
   have nextT:∀{y:St}{F:Hp}{G:c_},Inv XC (a++oq z s7.heap) y F G->M y F->∃m,m<n/\∃i j c,Inv XC a j c G/\Y i G.heap/\(∀b∈z,c b=none)/\W i m j c:=λ {y F G} S n8=>by
    let⟨Z,hm,w8⟩:=hN y F n8;refine#[Z,hm,i+1,y,F,S.kW,T.keep _ _ _ Bu λb p o e=>(S.pin (b,o)^fb _^fb _^fP p e).1,λb p=>?_,w8];let⟨o,e,d⟩:=T.obj _ _ Bu b p;exact(S.pin (b,o)^fb _^fb _^fP p e).2.1
   refine a_^mJ (thn (hg _ s7 j H7 x u _ OR r7^step x H7 y7) λ_ G l=>?_);rfl';let⟨y,F,S,q8⟩:=l;ac_rfl;refine a_^mJ (thn (ht _ G y F _ S q8) λb s9 l=>?_);let⟨H9,I9,X⟩:=l;cases b with
   |false=>
    rw[mo dZ] at X;exact tz #[rfl,nextT I9 X]
   |true=>
    rw[ir rfl] at X;refine a_^mJ (thn (he D _ s9 y H9 _ I9 X) λ_ FW l=>?_);let⟨B9,EF,KW⟩:=l;exact tz #[rfl,nextT EF KW]
 exact Tw.b1 P λQ E q=>T.self _ 0 _ _ _ st q
def gIn(n:TG)(o:TT)(p:MV)(D:Addr)(J:It)(N:St->Hp->Prop):St->Hp->Prop:=λq H=>
 ∃W:Nat->Nat->St->Hp->Prop,(∃m,W 0 m q H)/\∀i m d a,W i m d a->(J.stop i a/\N d a)\/
  (J.go i a/\∃e:St->Hp->Prop,(∀f h,e f h->∃j,j<m/\W (i+1) j f h)/\∀x k,J.yld i a x k->n x d k λc r=>o c r λb l=>
   if b=true then p D c l^e c else e c l)
def Qj(g:TG)(l:TT)(n:TI)(o:TG)(p:TT)(q:MV)(D:Addr)(J:It)(Q:VK)(r:St)(H:Hp):Prop:=
 ∃W:Nat->Nat->St->Hp->Prop,(∃m,W 0 m r H)/\∀i m d a,W i m d a->
  (J.stop i a/\Q (.ref D) a)\/
  (J.go i a/\∃N:St->Hp->Prop,(∀e f,N e f->∃h,h<m/\W (i+1) h e f)/\∀x j,J.yld i a x j->g x d j λc s=>l c s λb k=>
   if b=true then n c k λt u=>gIn o p q D t N c u else N c k)
theorem BC{k:List (Addr×Obj)}{σ:St}{v:c_}{Y:Hp}{it:Addr}{G:List Addr}{tn:Nat->Heap->Prop}{J:It}{RR:b_->Addr->lb->c_->Prop}{E:b_->c_->Prop}{Q:VK}{o0:Addr->HO}{new:j_ b_}
  (Tw:k8 C t0 i0 t1 i1 f0 f1 el)
  (hc:X.calm=true) (c:bD X scope) (fo:dM scope X.N src NC) (I2:Inv X k σ Y v) (T:Turn X.prog X.w X.K t0 J G it tn) (jJ:tn 0 v.heap) (f2:∀b∈G,fN X k Y b)
  (hg:∀ex s H,PG (bK X scope NC ex s H) t0 g) (ht:∀ex s H,k6 (bK X scope NC ex s H) f0 tt) (m9:∀ex s H,PI (bK X scope NC ex s H) t1 i1 cK) (xa:∀ex s H,PG (bK X scope NC ex s H) t1 g1)
  (xw:∀ex s H,k6 (bK X scope NC ex s H) f1 bY) (he:∀ex s H,OX (bK X scope NC ex s H) el ta) (pA:∀env x,ey i1 env x=pure x)
  (hn:∀(Q':b_->c_->Prop)(E':b_->c_->Prop),(∀B:c_,Inv X k σ (upd Y v.heap.objs.size^o0 v.heap.objs.size) B->(∀b o,v.heap.get? b\o->B.heap.get? b\o)->Q' (.ref v.heap.objs.size) B)->d_ (d5 X.prog X.w) X.A new Q' E' v)
  (hW:∀D,Y D=none->Qj g tt cK g1 bY ta D J Q (lN src σ)^upd Y D^o0 D)
  (JK:∀D B H3 I l L,Inv X k σ H3 B->(∀b∈G,fN X k H3 b)->Inv (bK X scope NC G B H3) [] I l L->Q (.ref D) l->RR (.ref D) B.heap.objs.size (.ok .next) L):
  d_ (d5 X.prog X.w) X.A new (λacc wo=>d_ (d5 X.prog X.w) X.A (jn scope X.env.globals (jK X.env scope.names []) [] X.env.qual none .none^some X.env) (λl7 wq=>
   gj (d5 X.prog X.w) X.A (.compStart C 0 (.ref it) acc {l7 with scope:=ka scope X.env}) (RR acc l7.locals) wq) E wo) E v:=by
 rfl';obtain⟨W,⟨m0,w0⟩,turn⟩:=hW v.heap.objs.size I2.fresh;ac_rfl
 have Kn:∀b∈G,b<v.heap.objs.size:=λb j=>by
  let⟨o,e,O⟩:=T.obj _ _ jJ b j;exact Da e
 have f3:∀b∈G,fN X k (upd Y v.heap.objs.size^o0 v.heap.objs.size) b:=λb j=>#[by rw[ag^bX^Kn b j];exact(f2 b j).1,(f2 b j).2]
 refine hn _ _ λB I3 up3=>?_;have zw:tn 0 B.heap:=T.keep _ _ _ jJ λb _ o e=>up3 b o e
 have Ko:∀b∈G,b<B.heap.objs.size:=λb j=>by
  let⟨o,e,O⟩:=T.obj _ _ zw b j;exact Da e
 generalize hH3:upd Y v.heap.objs.size^o0 v.heap.objs.size=H3 at I3 f3 w0;refine wpAny_newFunctionEnv c.nocell (by intro y hy;simp at hy) (λh1 Fl Fo=>?_) c.kind
 have I4:=Dc (src:=src) (NC:=NC) (ex:=G) (tk:=B.toks+([]:List (eg×b_)).length) I3 c fo f3 Ko Fl Fo;have Tn:tn 0 h1:=T.keep _ _ _ zw λb j o e=>Fo.extBut b o (bX^Ko b j)^AC _ e;generalize F:bK X scope NC G B H3=a at I4
 have M:∀{l:Hp},(∀b∈G,l b=none)->∀b∈G,fN a [] l b:=λ {l} hn b j=>by
  subst F;refine#[hn b j,bX^Ko b j,λz=>?_, .inl j,λx d e=>?_,λp hp=>absurd (show p∈([]:List (Addr×Obj)) from hp)^by simp]
  .exact(I4.ok.exfs b j) z
  .exact(I4.ok.exf b j).2 x d e
 have NA:a.calm=true:=by subst F;exact hc
 have eP:a.prog=X.prog:=by subst F;rfl
 have ew:a.w=X.w:=by subst F;rfl
 have eK:a.K=X.K:=by subst F;rfl
 have eA:a.A=X.A:=by subst F;rfl
 have US:a.xe=λ_ _=>False:=by subst F;rfl
 have Ze:PG a t0 g:=by subst F;exact hg _ _ _
 have Zy:k6 a f0 tt:=F▸ht _ _ _;have hiC:PI a t1 i1 cK:=F▸m9 _ _ _;have abt:PG a t1 g1:=F▸xa _ _ _;have abN:k6 a f1 bY:=F▸xw _ _ _;have Y9:OX a el ta:=F▸he _ _ _
 have mJ:∀{α:Type}{t:j_ α}{Q:α->c_->Prop}{E:b_->c_->Prop}{s:c_},d_ (d5 a.prog a.w) a.A t Q a.xe s->d_ (d5 X.prog X.w) X.A t Q E s:=λ {α t Q E s} h=>by
  rw[<-eP,<-ew,<-eA];exact hH h (λ_ _ q=>q) λ_ _ f=>by rw[US] at f;exact f.elim
 have loop:gj (d5 X.prog X.w) X.A (.compLoop C 0 (.ref it) (.ref v.heap.objs.size) a.env) (RR (.ref v.heap.objs.size) B.heap.objs.size)
   {B with heap:=h1,toks:=B.toks+([]:List (eg×b_)).length}:=by
  refine afV rfl (λn L=>∃i I l,Inv a [] I l L/\tn i L.heap/\(∀b∈G,l b=none)/\W i n I l) (λn L hI=>?_) m0 #[0,_,_,I4,Tn,λb j=>(f3 b j).1,w0];rfl';let⟨i,I,l,I5,zx,tH,w5⟩:=hI;ac_rfl;rw[Tw.u,Tw.z0];refine wpAny_noted ?_;refine a_^adn^a_ ?_
  rcases turn i n I l w5 with ⟨stop,qn⟩ | ⟨go,N,hN,step⟩
  .have hd:=T.done a eP ew eK NA i [] L I l (notedBy (d5 X.prog X.w) X.A a.env λe L=>RR (.ref v.heap.objs.size) B.heap.objs.size (.error e) L) I5 (M tH) zx stop
   rw[eA] at hd;refine thn hd λr s6 P=>?_;let⟨hr,I6⟩:=P;subst hr;refine tz ?_;subst F;exact JK _ B _ I l s6 I3 f3 I6 qn
  .have hd:=T.item a eP ew eK NA i [] L I l (notedBy (d5 X.prog X.w) X.A a.env λe L=>RR (.ref v.heap.objs.size) B.heap.objs.size (.error e) L) I5 (M tH) zx go
   rw[eA] at hd;refine thn hd λr s6 P=>?_;let⟨u,hr,h6⟩:=P;subst hr;refine a_ (thn h6 λ_ s7 P=>?_);rfl';let⟨x,H7,I7,r7,y7,Bu,Qg⟩:=P;ac_rfl;have OR:=I7.pinned (M Qg)^T.obj _ _ Bu
   have nextT:∀{S:St}{Z:Hp}{s8:c_},Inv a ([]++oq G s7.heap) S Z s8->N S Z->∃m,m<n/\∃i I l,Inv a [] I l s8/\tn i s8.heap/\(∀b∈G,l b=none)/\W i m I l:=λ {S Z s8} I8 n8=>by
    let⟨m',hm,w8⟩:=hN S Z n8;refine#[m',hm,i+1,S,Z,I8.kW,T.keep _ _ _ Bu λb j o e=>(I8.pin (b,o)^fb _^fb _^fP j e).1,λb j=>?_,w8];let⟨o,e,d⟩:=T.obj _ _ Bu b j;exact(I8.pin (b,o)^fb _^fb _^fP j e).2.1
   refine a_^mJ (thn (Ze _ s7 I H7 x u _ OR r7^step x H7 y7) λ_ s8 P=>?_);rfl';let⟨S,Z,I8,q8⟩:=P;ac_rfl;refine a_^mJ (thn (Zy _ s8 S Z _ I8 q8) λb s9 P=>?_);let⟨H9,I9,q9⟩:=P;cases b with
   |false=>
    rw[mo dZ] at q9;exact tz #[F▸rfl,nextT I9 q9]
   |true=>
    rw[ir rfl] at q9;refine a_^mJ (thn (hiC _ s9 S H9 _ I9 q9) λv1 Be h10=>?_);refine a_^adn^a_^aeU (pA _ v1)^a_^On^mJ (thn h10 λAA FW h11=>?_);rfl';let⟨HJ,fp1,tn1,J1,B9,rfl,EF,T1,acw,f11,hin⟩:=h11;ac_rfl;refine a_^wpAny_runOwn ?_;have tr:∀(cd:Code)(R:lb->c_->Prop),gj (d5 a.prog a.w) a.A cd R FW->gj (d5 X.prog X.w) X.A cd R FW:=λcd R h=>by rw[eP,ew,eA] at h;exact h
    exact tr _ _ (Lm US NA EF T1 acw f11 Tw abt abN Y9 hin λI l L XT Vd=>tz #[F▸rfl,nextT XT Vd])
 subst F;exact Tw.b0 loop λQ E q=>T.self _ 0 _ _ _ Tn q
def acL(c:TE):MV:=λD d H N=>c d H λv b=>∃a,b D\(.lst a)/\a.length<sizeLine/\N^upd b D^.lst (a++ [v])
theorem OH:k8 (.ListComp elt [#[t0,i0,f0,0],#[t1,i1,f1,0]] scope pos) t0 i0 t1 i1 f0 f1 (λD env=>do let _ <-call (.builtin "list.append") [.ref D,<-f7 elt env]) where
 u:=λ_ _ _ _ _=>rfl
 z0:=λ_ _ _ _ _=>rfl
 z1:=λ_ _ _ _ _=>rfl
 b0:=λa b=>codeAny_compStart_list a (b _ _ a)
 b1:=λa b=>by
  refine codeAny_of_tree ?_;refine wpAny_notedAt ?_;unfold compStart;refine a_^wpAny_askSetting^wpAny_ite ?_
  split
  .first
    |exact a_^fQ^fQ #[rfl,a]
    |exact fQ #[rfl,a]
  .refine a_^wpAny_rule ?_
   exact a_^lf^a_^b _ _^fQ #[rfl,a]
def N4(e:PE X elt te):OX X (λD env=>do let _ <-call (.builtin "list.append") [.ref D,<-f7 elt env])^acL te:=λD a s d H N I h=>
 a_ (thn (e a s d H _ I h) λy f b=>by
  rfl';obtain⟨v,j,k,l,m,n,o,p⟩:=b;ac_rfl;refine a_ (thn (lF _ f d j (.ref D) [v] _ [y] (λ_ q=>N q) k rfl (.cons l .nil) #[_,m,v,rfl,rfl,n,o,p]) λ_ w b=>?_);rfl';obtain⟨_,r,t,_,u⟩:=b;ac_rfl;exact tz #[r,t,u])
def XM(g:TG)(a:TT)(b:TI)(c:TG)(d:TT)(e:TE)(D:Addr)(J:It)(Q:VK)(f:St)(H:Hp):Prop:=Qj g a b c d (acL e) D J Q f H
def XI(c:TI)(g:TG)(d:TT)(e:TI)(f:TG)(h:TT)(i:TE)(src:List^Option Nat):TE:=λa H Q=>c a H λJ b=>∀D,b D=none->XM g d e f h i D J Q (lN src a)^upd b D^.lst []
def ER{a:List (Addr×Obj)}{j:St}{f:c_}{h:Hp}{m:Addr}{i:List Addr}{n:Nat->Heap->Prop}{J:It}{p:b_->Addr->lb->c_->Prop}{E:b_->c_->Prop}{Q:VK}
  (y:X.calm=true) (c:bD X scope) (z:dM scope X.N src NC) (r:Inv X a j h f) (T:Turn X.prog X.w X.K t0 J i m n) (B:n 0 f.heap) (F:∀b∈i,fN X a h b)
  (G:∀d s H,PG (bK X scope NC d s H) t0 g) (I:∀d s H,k6 (bK X scope NC d s H) f0 tt) (L:∀d s H,PI (bK X scope NC d s H) t1 i1 cK) (M:∀d s H,PG (bK X scope NC d s H) t1 g1)
  (O:∀d s H,k6 (bK X scope NC d s H) f1 bY) (P:∀d s H,PE (bK X scope NC d s H) elt te) (R:∀env x,ey i1 env x=pure x)
  (S:∀D,h D=none->XM g tt cK g1 bY te D J Q (lN src j)^upd h D^.lst [])
  (Y:∀D k l Z t u,Inv X a j l k->(∀b∈i,fN X a l b)->Inv (bK X scope NC i k l) [] Z t u->Q (.ref D) t->p (.ref D) k.heap.objs.size (.ok .next) u):
  d_ (d5 X.prog X.w) X.A (newList []) (λacc C=>d_ (d5 X.prog X.w) X.A (jn scope X.env.globals (jK X.env scope.names []) [] X.env.qual none .none^some X.env) (λv wq=>
   gj (d5 X.prog X.w) X.A (.compStart (.ListComp elt [#[t0,i0,f0,0],#[t1,i1,f1,0]] scope pos) 0 (.ref m) acc {v with scope:=ka scope X.env}) (p acc v.locals) wq) E C) E f:=by
 refine BC (o0:=λ_=> .lst []) OH y c z r T B F G I L M O (λd s H=>N4^P d s H) R (λQ' E' q=>?_) S Y;exact adw (q _ (r.Rv (its:= []) (t':=f.toks) .nil^eB _) λb o e=>AC _ e)
def VB(e:X.calm=true)(c:bD X scope)(f:dM scope X.N src NC)(i:PI X t0 i0 wi)
  (j:∀a s H,PG (bK X scope NC a s H) t0 g) (k:∀a s H,k6 (bK X scope NC a s H) f0 tt) (l:∀a s H,PI (bK X scope NC a s H) t1 i1 cK) (n:∀a s H,PG (bK X scope NC a s H) t1 g1)
  (o:∀a s H,k6 (bK X scope NC a s H) f1 bY) (p:∀a s H,PE (bK X scope NC a s H) elt te)
  (q:(∀x,ey i0 X.env x=pure x)<|>za) (r:(∀env x,ey i1 env x=pure x)<|>xu):
  PE X (.ListComp elt [#[t0,i0,f0,0],#[t1,i1,f1,0]] scope pos)^XI wi g tt cK g1 bY te src:=by
 intro b s t H Q I h;rw[eval_ListComp];refine adM (use:=none) rfl q (gS^c.cells I.ok) c.kind c.names (thn (i b s t H _ I h) λv R u=>thn u λS Y w=>?_);rfl';let⟨C,fp,tn,J,H2,rfl,z,T,A,B,E⟩:=w;ac_rfl
 exact ER e c f z T A B j k l n o p r E λD s3 H3 ay F s' G L d M=>by
  let⟨m,O,y⟩:=d.loc;exact#[m,O,λh' P=>#[.ref D,F,comp_back G L d P,rfl,M]]
end
end L2
namespace KS
open PySem PySem.W PyProof.Rows
section
variable {prog:Program} {w:World} {A:Around} {E:Value->Shared->Prop} {s:Shared}
def yN(c:s.heap.get? a\(gk "list" b.toArray n))(j:b.length<2)
  (h:G (.done^.ret .none) {s with heap:=sortedHeap s.heap a b b.toArray}):d_ (d5 prog w) A (Builtin.«list.sort» #[[.ref a],[]]) G E s:=by
 rw[list_sort_plain];have m:a<s.heap.objs.size:=Da c;refine a_^listItems_at c rfl^a_^ae4 c rfl ?_;obtain⟨l,d⟩:∃k,(s.heap.update a (Obj.mapSeq λ_=> #[])).get? a\(gk "list" #[] k):=#[_,get?_update_seq c^λ_=> #[]];refine a_^afJ d rfl^a_^afP^a_^aem^On ?_;have e:(((s.heap.update a (Obj.mapSeq λ_=> #[])).push^gk "tuple" b.toArray 0).push^gk "list" #[] 0).get? a\(gk "list" #[] l):=AC _^AC _ d;show d_ (d5 prog w) A _ G E {s with heap:=((s.heap.update a (Obj.mapSeq λ_=> #[])).push^gk "tuple" b.toArray 0).push^gk "list" #[] 0}
 dsimp only;have f:b.toArray.size<2:=j;rw[ir f,ir f];refine a_^tz ?_;rw[StateT.run_pure];refine a_^tz ?_;dsimp only
 have g:(d6^SortSt.mk' general' (b.toArray.zip b.toArray) #[] 7 none).map (·.2)=b.toArray:=by
  show(b.toArray.zip b.toArray).map (·.2)=b.toArray;apply afp.mp;simp[List.map_snd_zip]
 refine a_^afJ e rfl^a_^ae4 e rfl ?_ (hsz2:=by rw[g];rw[adL];lia)
 simp only[afa,fL,Pi];have i:=h;unfold sortedHeap at i;rw[g];exact tz i
def CQ(e:s.heap.IsList l a.toArray)(f:a.length<2)(h:G (.ref (s.heap.objs.size+1)) {s with heap:=sortedAll s.heap a a.toArray}):
  d_ (d5 prog w) A (call (.builtin "sorted") [.ref l]) G E s:=by
 refine ad1 kind_sorted afX afY (afZ^.ref l) ?_;unfold Builtin.«sorted»;have b:a.length<=sizeLine:=by rw[adL];lia
 refine a_ (m:=checkCount "sorted" 1 1 _)^tz^a_^af0 e (a_^aem ?_ b) b;have c:((s.heap.push^gk "list" #[] 0).update s.heap.objs.size^Obj.mapSeq (·++a.toArray)).objs.size=s.heap.objs.size+1:=by rw[adW,afc]
 have d:(((s.heap.push^gk "list" #[] 0).update s.heap.objs.size^Obj.mapSeq (·++a.toArray)).push^gk "list" a.toArray 0).get? (s.heap.objs.size+1)\(gk "list" a.toArray 0):=by
  rw[<-c];exact GM _ rfl
 show d_ (d5 prog w) _ _ _ E {s with heap:=((s.heap.push^gk "list" #[] 0).update s.heap.objs.size^Obj.mapSeq (·++a.toArray)).push^gk "list" a.toArray 0}
 rw[c];exact a_^On^ads k_ #[_,d,rfl] j0 (yN d f #[_,rfl,tz #[_,rfl,h]])^aeQ _
end
end KS
namespace L2
open PySem PySem.Spec PyProof.Rows
section
variable {X:Cx} {pins:List (Addr×Obj)} {σ:St} {H:Hp} {s:Shared} {h':Heap}
end
noncomputable def i8(k:Nat×Nat):List V:= [.int (k.1:Nat), .int (k.2:Nat)]
def se(H:Hp)(L:List (Addr×(Nat×Nat))):Prop:=∀p∈L,H p.1\(.tup^i8 p.2)
noncomputable def lE(a b:Nat×Nat):Bool:=if a.1=b.1 then decide (a.2<b.2) else decide (a.1<b.1)
def xD(x y:Nat×Nat):lE x y=true↔x.1<y.1\/(x.1=y.1/\x.2<y.2):=by
 unfold lE
 by_cases e:x.1=y.1
 .rw[ir e,decide_eq_true_iff]
  lia
 .rw[mo e,decide_eq_true_iff]
  lia
def NP(x y z:Nat×Nat)(h:lE x z=true):lE x y=true\/lE y z=true:=by
 rw[xD] at*;rw[xD];lia
def Rn(x y z:Nat×Nat)(h:lE x y=true)(a:lE y z=true):lE x z=true:=by
 rw[xD] at*;lia
def AF(h:lE b a=false):Wb.lexLe a b:=by
 unfold lE at h;unfold Wb.lexLe
 by_cases e:b.1=a.1
 .rw[ir e] at h
  have:=UF h
  right;lia
 .rw[mo e] at h
  have:=UF h
  left;lia
def U2 
  (n:IsTup s.heap x [.int a i, .int b j].toArray) (o:IsTup s.heap y [.int c k, .int d l].toArray)
  (h:C (if a=c then decide (b<d) else decide (a<c)) s):d_ (d5 prog w) A (keyLt' (tuples' true) (.ref x)^.ref y) C E s:=by
 rfl';let⟨u,f,p,v,q⟩:=n;let⟨z,g,p,B,r⟩:=o;ac_rfl;refine PySem.W.kat_lt f q g r ?_;refine PySem.W.kat_cons^ad2 a i c k prog w _ _ ?_
 by_cases e:a=c
 .rw[ir e] at h
  rw[show(a==c)=true by simpa using e]
  refine PySem.W.kat_yes^PySem.W.kat_cons^ad2 b j d l prog w _ _ ?_
  by_cases m:b=d
  .rw[show(b==d)=true by simpa using m]
   refine PySem.W.kat_yes^PySem.W.kat_nil ?_;rw[show decide (b<d)=false by simp;lia] at h
   simpa using h
  .rw[show(b==d)=false by simpa using m]
   refine PySem.W.kat_no^PySem.W.kat_one _ _ ?_;exact lt_int h
 .rw[mo e] at h
  rw[show(a==c)=false by simpa using e]
  exact PySem.W.kat_no^oneLt_int h
section
variable {X:Cx}
theorem t7:∀{as:List Addr}{us:List Value},Vals (as.map V.ref) us->us=as.map Value.ref
 | [],_, .nil=>rfl
 |a::as,_, .cons r t=>by cases r;rw[t7 t];rfl
theorem tW:∀b:List Addr,Vals (b.map V.ref)^b.map Value.ref
 | []=> .nil
 |a::b=> .cons rfl^tW b
def N5(I:Inv X b c H s)(h:H a\(.tup^i8 k)):
  ∃t u,IsTup s.heap a [.int (k.1:Nat) t, .int (k.2:Nat) u].toArray:=by
 rfl';let⟨e,r,p,d⟩:=I.tuple^fW.of h;obtain⟨g,i,rfl,⟨t,rfl⟩,⟨u,rfl⟩⟩:=Vals.two r;ac_rfl;exact#[t,u,p]
end
end L2
set_option maxHeartbeats 4000000
namespace L2
open PySem PySem.Spec PySem.Calls PyProof.Rows PySem.W Builtin Builtin.ObjectAttr
noncomputable def CD(s:String):Value->Bool
 | .type a=>a==s
 |_=>false
noncomputable def Mb(l:List Value):Bool:=match l with
 |a::b::c::d::r=>CD "ValueError" a&&CD "Exception" b&&CD "BaseException" c&&CD "object" d&&r.isEmpty
 |_=>false
noncomputable def isRef:Value->Bool
 | .ref _=>true
 |_=>false
noncomputable def rJ:List Value->Bool
 | []=>false
 |v::r=>if isRef v then rJ r else Mb (v::r)
def zI(h:CD s v=true):v= .type s:=by
 unfold CD at h
 split at h
 .rw[adz.mp h]
 .cases h
def Ay(h:Mb l=true):l= [.type "ValueError", .type "Exception", .type "BaseException", .type "object"]:=by
 cases l with
 |nil=>cases h
 |cons a l=>cases l with
  |nil=>cases h
  |cons b l=>cases l with
   |nil=>cases h
   |cons c l=>cases l with
    |nil=>cases h
    |cons d r=>
     have h:(CD "ValueError" a&&CD "Exception" b&&CD "BaseException" c&&CD "object" d&&r.isEmpty)=true:=h;simp only[uC] at h;rw[zI h.1.1.1.1,zI h.1.1.1.2,zI h.1.1.2,zI h.1.2,List.isEmpty_iff.mp h.2]
noncomputable def FO(K:Frag)(C:Addr):Bool:=(clsIn K C).any λa=>rJ a.mro
structure C3 (K:Frag) (C:Addr):Prop where
 hd:hasDictIn K C=true
 ga:findIn K (.ref C) "__getattribute__"\(some^.builtin "BaseException.__getattribute__")
 gh:findIn K (.ref C) "__getattr__"\none
 sa:findIn K (.ref C) "__setattr__"\(some^.builtin "object.__setattr__")
 ov:FO K C=true
 cl:findIn K (.ref C) "__class__"\(some^.builtin "object.__class__")
 be:mroIn K C^.type "BaseException"\true
 ob:mroIn K C^.type "object"\true
section
variable {prog:Program} {w:World} {A:Around} {E:Value->Shared->Prop} {s:Shared} {K:Frag} {x C:Addr} {ox:Obj} {od:Option Obj} {name:Str}
end
def K0(self:b_)(e:rJ l=true):refuseLoop self "__setattr__" l=pure ⟨⟩:=by
 induction l with
 |nil=>cases e
 |cons v r b=>
  rw[rJ] at e;cases a:isRef v with
  |true=>
   rw[ir a] at e;cases v with
   |ref c=>rw[refuseLoop_ref];exact b e
   |_=>cases a
  |false=>
   rw[mo^by rw[a];exact dZ] at e
   rw[Ay e];exact F.store_ValueError.passes self
abbrev cC(C t:Addr)(d:Option Addr):Obj:={cls:= .ref C,dict:=d,data:= .fields [.ref t, .none, .none, .none, .bool false, .none].toArray}
section
variable {prog:Program} {w:World} {A:Around} {E:Value->Shared->Prop} {s:Shared} {K:Frag} {x C:Addr} {ox:Obj} {od:Option Obj} {name:Str} {R:Result->Shared->Prop}
theorem BO(X:K.In s.heap)(I:InstAt s.heap x ox C od)(c:C3 K C)(l:takerIn K C name\none)
  (h:∀b,d_ (d5 prog w) A.in1 (storeInOwnDict (.ref x) (.ref C) (.str name i) name v b)
   (λfin j=>match fin with| .done f=>R (.ok f) j| .again k=>k.quiet=true/\gj (d5 prog w) A k R j) (λe j=>R (.error e) j) s):
  gj (d5 prog w) A (.call (.builtin "object.__setattr__") #[[.ref x, .str name i,v],[]]) R s:=by
 rfl';have g:=PySem.F.store_object;let⟨n,o,p⟩:=any_some c.ov;have sub:Looks (d5 prog w) s.heap (isInstance (.ref x)^.type "object") true:=I.type.andThen^looks_mroIn X c.ob;let⟨d,r,t⟩:=Option.bind_eq_some_iff.mp l;ac_rfl;refine aeF g.slot.plain g.entry^@check_slot (d5 prog w) _ _ s "object.__setattr__" "object" "__setattr__" (.ref x) [.str name i,v] [] _ g.kind g.split sub (g.args (.ref x) (.str name i) v) ?_;have u:Looks (d5 prog w) s.heap (mroOf^.ref C) n.mro:=(looks_clsIn X o).andThen .now
 have y:Looks (d5 prog w) s.heap (storeTaker? d) none:=by
  cases d with
  |none=>exact .now
  |some a=>
   let⟨b,z,q⟩:=aei.mp t;refine(looks_takesIn X z).andThen ?_;cases b with
   |true=>cases q
   |false=>exact .now
 rw[osa_eq,refuse_eq];refine a_^a_^I.type.here^a_^u.here ?_;rw[K0 _ p];refine tz^a_^I.type.here^a_^(looks_findIn X r).here^a_^y.here ?_;exact h _
def aaB(X:K.In s.heap)(c:C3 K C)(j:s.heap.get? x\(cC C t^some d))(k:s.heap.Ns1 d f)(ne:d≠x)(m:takerIn K C name\none)
  (hw:cr f i) (I:i.length<=sizeLine)
  (h:∀e,e.Ns1 d (λy=>if y=name then some v else f y)->Heap.SameBut d s.heap e->Q ⟨⟩ {s with heap:=e,toks:=s.toks+2}):
  d_ (d5 prog w) A (setAttr (.ref x) name v) Q E s:=by
 rfl';let⟨o,p,g⟩:=AK k;have J:InstAt s.heap x (cC C t^some d) C^some o:=#[j,rfl,rfl,p];let⟨L,q,r⟩:=any_some c.hd;ac_rfl;refine set_plain X J c.sa (BO (s:={s with toks:=s.toks+1}) X J c m λb=>?_)
 refine a_^tz^a_^a_^afO j^a_^Looks.here (s:={s with toks:=s.toks+1}) (looks_clsIn X q) ?_
 rw[r];refine tz (a:=some d)^a_^tz^a_ ?_;refine afS (s:={s with toks:=s.toks+1}) k λe l u=>?_
 rfl';let⟨M,z,B,F,G,H⟩:=l.count^PySem.Within.cons name v hw;ac_rfl;refine a_^afk F (by rw[G];exact afl^jz H^by rw[cJ];lia) ?_
 exact tz^h _ l u
def aaA(X:K.In s.heap)(c:C3 K C)(i:s.heap.get? x\(cC C t none))(u:takerIn K C name\none)
  (h:∀f,f.Ns1 s.heap.objs.size (λy=>if y=name then some v else none)->f.get? x\(cC C t^some s.heap.objs.size)->(∀b o,b≠x->s.heap.get? b\o->f.get? b\o)->Q ⟨⟩ {s with heap:=f,toks:=s.toks+2}):
  d_ (d5 prog w) A (setAttr (.ref x) name v) Q E s:=by
 have J:InstAt s.heap x (cC C t none) C none:=#[i,rfl,rfl,trivial];let⟨O,z,B⟩:=any_some c.hd;refine set_plain X J c.sa (BO (s:={s with toks:=s.toks+1}) X J c u λb=>?_)
 let⟨a,g,d,l,os⟩:=s;dsimp only at*;have m:(a.push {cls:= .type "dict",data:= .dict #[]}).get? x\(cC C t none):=AC _ i;have n:x≠a.objs.size:=bX^Da i;refine a_^tz^a_^a_^afO i^a_^Looks.here (s:=#[a,g,d,l+1,os]) (looks_clsIn X z) ?_;rw[B];refine a_^wpAny_alloc' ?_;refine a_^wpAny_update' m ?_;refine tz ?_
 have j:((a.push {cls:= .type "dict",data:= .dict #[]}).update x λo=>{cls:=o.cls,dict:=some a.objs.size,data:=o.data,slots:=o.slots}).get? a.objs.size\{cls:= .type "dict",data:= .dict #[]}:=
  (adQ _ _ _ _ n.symm).trans^Heap.get?_push_at rfl rfl
 have xq:((a.push {cls:= .type "dict",data:= .dict #[]}).update x λo=>{cls:=o.cls,dict:=some a.objs.size,data:=o.data,slots:=o.slots}).Ns a.objs.size (λ_=>none):=
  #[_, #[],_,j,rfl,λe F=>absurd F^by simp,λ_=>rfl]
 show d_ _ _ (storeInDict a.objs.size (.str name l) name v) _ _ _;unfold storeInDict newKeyGuard;refine a_^tz^a_ (afS (Heap.Ns1.of_empty xq) λf p q=>?_);rfl';let⟨S,H,I,L,M,N⟩:=p.count^Within.cons name v Within.nil;ac_rfl;refine a_^afk L (by rw[M];exact afl^jz N^by rw[cJ,sX,adL];lia) ?_
 refine tz (h f p ?_ λb T k r=>?_)
 .exact(q.2 x n).trans^PP _ m rfl
 .exact(q.2 b^bX^Da r).trans^(adQ _ _ _ _ k).trans^AC _ r
end
section
variable {M:Model} {A:Around} {E:Value->Shared->Prop} {h:Heap} {g:Array GenState} {d:Drawn} {t:Nat} {os:OsState}
variable {nm q:Str} {C N:Addr} {bs bm M3:List Value} {ig:Bool} {sn:List Str} {sub:List Value} {ab:Bool} {col:Option Bool} {dd:Option Addr} {k0 k1 k2 k3 k5:Option Value} {B newId ml:String}
def EO(F:ke B newId ml M3)(Y3:(Value.ref C::bm).contains^.type B=true){rest:List b_}{Q:Unit->c_->Prop}(hC:h.get? C\(hX nm q C N bs bm ig sn sub ab col dd k0 k1 k2 k3 k5 newId))
  (hq:Q ⟨⟩ #[h,g,d,t,os]):d_ M A (jr newId #[.ref C::rest,[]]) Q E #[h,g,d,t,os]:=by
 have ac1:=F.noStar;simp only[jr,F.newKind,F.newSplit,F.newRow]
 repeat (first|refine gu hC ?_| (refine gM hC ?_;rw[Y3]) |refine wpAny_staticBase_exc hC ?_|refine wpAny_madeBy_exc hC ?_|simp only[bne_self_eq_false,fL,if_false]|wp_step)
 exact hq
def Ci(F:ke B newId ml M3)(Cr:(Value.ref C::bm).contains^.type B=true){e:Addr}{oe:Obj}{rest:List b_}{Q:Unit->c_->Prop}
  (hC:h.get? C\(hX nm q C N bs bm ig sn sub ab col dd k0 k1 k2 k3 k5 newId)) (he:h.get? e\oe) (QG:oe.cls= .ref C) (hq:Q ⟨⟩ #[h,g,d,t,os]):
  d_ M A (jr ml #[.ref e::rest,[]]) Q E #[h,g,d,t,os]:=by
 have acW:=F.noStar;simp only[jr,F.initKind,F.initSplit,F.initRow]
 repeat (first| (with_reducible refine gu he ?_;rw[QG]) |with_reducible refine gu hC ?_| (with_reducible refine gM hC ?_;rw[Cr]) |wp_step)
 refine wpAny_onRaise ?_
 rw[show ∀(a b:String)(n:Nat),Bind.check #[.positional,"*",B, .self,[#["args", .varPos,false]]] a b n^List.map (λx=>x.fst) ({pos:=Value.ref e::rest}:Args).kw=pure ⟨⟩ from
  λa b n=>check_star_args _ _ _ _ _ _]
 exact fQ hq
end
section
variable {prog:Program} {w:World} {A:Around} {R:Result->Shared->Prop} {h:Heap} {g:Array GenState} {d:Drawn} {t:Nat} {os:OsState}
variable {nm q:Str} {C N:Addr} {bs bm M3:List Value} {ig:Bool} {sn:List Str} {sub:List Value} {ab:Bool} {col:Option Bool} {dd:Option Addr} {k0 k1 k2 k3 k5:Option Value} {B newId ml:String}
def JC(F:ke B newId ml M3)(Cr:(Value.ref C::bm).contains^.type B=true)(Y0:(Value.ref C::bm).contains^.type "AttributeError"=false)(Y1:(Value.ref C::bm).contains^.type "NameError"=false)
  {rest:List b_} (hC:h.get? C\(hX nm q C N bs bm ig sn sub ab col dd k0 k1 k2 k3 k5 newId))
  (hq:R (.ok^.ret^.ref (h.objs.size+1)) #[(h.push {cls:= .type "tuple",data:= .seq rest.toArray}).push^cC C h.objs.size none,g,d,t,os]) (J3:rest.length<=sizeLine):
  gj (d5 prog w) A (.builtin newId #[.ref C::rest,[]]) R #[h,g,d,t,os]:=by
 have acZ:=F.ends;refine codeAny_builtinAt F.entry ?_;unfold Builtin.«BaseException.__new__»;refine PySem.wpAt_bind ?_;show PySem.wpAt _ _ _ (stack>>=_) _ _ _;refine PySem.wpAt_bind (PySem.wpAt_stack λp below=>PySem.wpAt_of_wpAny ?_)
 wp_walk
 refine PySem.wpAt_of_wpAny ?_;rw[F.owner]
 repeat (first|with_reducible refine wpAny_madeHere_exc F.canon hC ?_|with_reducible refine gu hC ?_| (with_reducible refine gM hC ?_;first|rw[Cr]|rw[Y0]|rw[Y1]) |wp_step)
 show R _ _;rw[Heap.size_push];exact hq
def yr(F:ke B newId ml M3)(Cr:(Value.ref C::bm).contains^.type B=true){e t0:Addr}{od:Option Addr}{rest:List b_}(hC:h.get? C\(hX nm q C N bs bm ig sn sub ab col dd k0 k1 k2 k3 k5 newId))(he:h.get? e\(cC C t0 od))
  (hq:∀h' t',h'.get? e\(cC C t' od)->(∀b o,b≠e->h.get? b\o->h'.get? b\o)->R (.ok^.ret .none) #[h',g,d,t,os]) (J3:rest.length<=sizeLine):
  gj (d5 prog w) A (.call (.builtin ml) #[.ref e::rest,[]]) R #[h,g,d,t,os]:=by
 refine codeAny_call_builtin F.init.plain F.initEntry^Ci F Cr hC he rfl ?_
 wp_walk
 have jO:e≠h.objs.size:=bX^Heap.lt_size he;refine hq _ h.objs.size ?_ λb o hb ho=>?_
 .rw[Heap.get?_update_self _ (Heap.get?_push_of_some _ he) rfl]
  rfl
 .rw[Heap.get?_update_other _ _^Ne.symm hb]
  exact Heap.get?_push_of_some _ ho
def yT(F:ke B newId ml M3)(Cr:(Value.ref C::bm).contains^.type B=true)(Y0:(Value.ref C::bm).contains^.type "AttributeError"=false)(Y1:(Value.ref C::bm).contains^.type "NameError"=false)
  {rest:List b_} {init:b_} (hC:h.get? C\(hX nm q C N bs bm ig sn sub ab col dd k0 k1 k2 k3 k5 newId)) (call:Looks (d5 prog w) h (specialOf (.ref C) "__call__")^some^.builtin "type.__call__") (typ:Looks (d5 prog w) h (isInstance (.ref C)^.type "type") true)
  (hi:Looks (d5 prog w) h (typeLookup (.ref C) "__init__")^some init) (hb:∀self,Looks (d5 prog w) h (bindSpecial init self) (init,[self])) (J3:rest.length<=sizeLine)
  (hq:gj (d5 prog w) (A.under^.builtin "type.__call__" #[.ref C::rest,[]]) (.call init #[.ref (h.objs.size+1)::rest,[]]) (InitBack (h.objs.size+1) R) #[(h.push {cls:= .type "tuple",data:= .seq rest.toArray}).push^cC C h.objs.size none,g,d,t,os]):
  gj (d5 prog w) A (.call (.ref C) #[rest,[]]) R #[h,g,d,t,os]:=by
 refine codeAny_of_tree ?_;show d_ _ _ (callAny (.ref C) _) _ _ _;refine nd_load hC ?_;show d_ _ _ (callAny.viaDunder (.ref C) _) _ _ _;unfold callAny.viaDunder;refine a_^call.at ?_;dsimp only;rw[tc_bind];refine a_^fQ^a_^fQ ?_;refine fQ (a:=Fin.again^.call (.builtin "type.__call__") #[.ref C::rest,[]])^And.intro rfl ?_;refine codeAny_call_builtin_at (Code.quiet_builtin _^by decide+kernel) entry_typeCall^check_slot tc_kind tc_split typ (tc_args _ _ _) ?_
 have hm:Looks (d5 prog w) h (mroOf^.ref C) (.ref C::bm):=((Looks.ld (part:=none) hC).andThen .now).andThen .now
 have made:Looks (d5 prog w) h (Bind.madeBy^.ref C)^some newId:=by
  intro A Q E s k q;let⟨h2,g2,d2,t2,os2⟩:=s;exact wpAny_madeBy_exc (k _ _ hC) q
 unfold Builtin.«type.__call__»
 repeat (first|simp only[List.isEmpty_cons,fL,if_false]|with_reducible refine i_ ?_|lk)
 refine codeAny_call_builtin_code (Code.quiet_builtin _ F.quiet)^EO F Cr hC ?_;refine JC F Cr Y0 Y1 hC ?_ J3;have k:∀b o,h.get? b\o->((h.push {cls:= .type "tuple",data:= .seq rest.toArray}).push^cC C h.objs.size none).get? b\o:=λb o e=>Heap.get?_push_of_some _^Heap.get?_push_of_some _ e;have hx:((h.push {cls:= .type "tuple",data:= .seq rest.toArray}).push^cC C h.objs.size none).get? (h.objs.size+1)\(cC C h.objs.size none):=by heap_get
 have t1:Looks (d5 prog w) ((h.push {cls:= .type "tuple",data:= .seq rest.toArray}).push^cC C h.objs.size none) (typeOf^.ref (h.objs.size+1))^.ref C:=(Looks.ld hx).andThen .now
 have s0:Looks (d5 prog w) h (isSubtype (.ref C)^.ref C) true:=by
  intro A Q E s k q;let⟨h2,g2,d2,t2,os2⟩:=s;refine gM (k _ _ hC) ?_;rw[show(Value.ref C::bm).contains^.ref C=true by simp]
  exact q
 have s1:=s0.keeps k;have i1:=hi.keeps k;have b1:=(hb^.ref (h.objs.size+1)).keeps k;unfold isInstance callSpecial? specialOf
 repeat (first|with_reducible refine i_ ?_|lk)
 refine je hq λr s' z=>?_
 rcases r with e| (v|_|_|_)<;>first|exact z|exact z.elim|skip
 let⟨rfl,z⟩:=z;exact fQ^fQ z
end
noncomputable def sh(C a:Addr)(d:Option Addr):HO:= .ext λh=>∃t,h.get? a\(cC C t d)
noncomputable def EJ(a:Addr)(fs:List (eg×V)):HO:= .ext λh=>fs.length<=1000/\∃mA,h.Ns1 a mA/\(∀f,mU (fs.lookup f)^mA f)/\cr mA^fs.map (·.1)
section
variable {P:Program} {w:World} {H:Hp} {h:Heap} {a C:Addr} {d:Option Addr} {fs:List (Str×V)}
def Gm{t:Addr}(e:h.get? a\(cC C t d)):cG P w H h a^sh C a d:=#[#[t,e],#[_,e],λh1 h2 #[t,p] k=>#[t,k _ p]]
def TK{mA:eg->Option b_}(hl:fs.length<=1000)(n:h.Ns1 a mA)(r:∀f,mU (fs.lookup f)^mA f)(q:cr mA^fs.map (·.1)):cG P w H h a^EJ a fs:=
 #[#[hl,mA,n,r,q],let #[o,_,_,e,_]:=n;#[o,e],λh1 h2 #[hl,mA,#[o,es,ep,e,c],r,q] k=>#[hl,mA,#[o,es,ep,k _ e,c],r,q]]
def zQ(hok:jj P w H h)(e:H a\(sh C a d)):∃t,h.get? a\(cC C t d):=(hok a _ e).1
def Wv(hok:jj P w H h)(e:H a\(EJ a fs)):fs.length<=1000/\∃mA,h.Ns1 a mA/\(∀f,mU (fs.lookup f)^mA f)/\cr mA^fs.map (·.1):=(hok a _ e).1
end
section
variable {X:Cx} {pins:List (Addr×Obj)} {σ:St} {H:Hp} {s:Shared}
theorem Inv.Wu{a dx:Addr}{o1 o2:HO}{h':Heap}{t':Nat}(I:Inv X pins σ H s)(mu:OV^H a)(lV:s.heap.objs.size<=dx)(k:∀b u,b≠a->s.heap.get? b\u->h'.get? b\u)(Hw:∃u,h'.get? a\u)
  (ab1:cG X.prog X.w (upd (upd H a o1) dx o2) h' a o1) (ab2:cG X.prog X.w (upd (upd H a o1) dx o2) h' dx o2):Inv X pins σ (upd (upd H a o1) dx o2) {s with heap:=h',toks:=t'}:=by
 have nd:H dx=none:=I.hok.fresh lV
 obtain⟨oa,ha⟩:∃o,H a\o:=by
  cases q:H a with
  |none=>rw[q] at mu;exact mu.elim
  |some o=>exact#[o,rfl]
 have HW:a≠dx:=ao ha nd;have HY:∀c y,H c\(.own y)->c≠a:=λc y r z=>by subst z;rw[r] at mu;exact mu
 have Mm:∀c xs,H c\(.tup xs)->c≠a:=λc xs r z=>by subst z;rw[r] at mu;exact mu
 have ab3:∀c o u,H c\(.tI o u)->c≠a:=λc o u r z=>by subst z;rw[r] at mu;exact mu
 have ab7:∀c ps,H c\(.IM ps)->c≠a:=λc ps r z=>by subst z;rw[r] at mu;exact mu
 have up:∀b u,b≠a->H b\u->upd (upd H a o1) dx o2 b\u:=λb u hb e=>by rw[ag^ao e nd,ag hb];exact e
 refine I.un (h':=h') (t':=t') #[λb o e n _ _=>?_,λb o e n _ _=>#[o.slots,?_],λb o e n _=>?_,λb o e _=>?_,λb xs e=>up b _ (Mm b xs e) e,λb o u e=>up b _ (ab3 b o u e) e,λb ps e=>#[#[],by rw[up b _ (ab7 b ps e) e];simp]] λb u e=>?_
 .exact k b o (λz=>by rw[z,ha] at n;cases n) e
 .exact k b o (λz=>by rw[z,ha] at n;cases n) e
 .rw[ag^λz=>by rw[z] at e;exact absurd (Heap.lt_size e)^Nat.not_lt.mpr lV,ag^λz=>by rw[z,ha] at n;cases n];exact n
 .by_cases z:b=a
  .rw[z];exact Hw
  .exact#[o,k b o z e]
 .by_cases z:b=dx
  .subst z;rw[af] at e;cases e;exact ab2
  .rw[ag z] at e
   by_cases z2:b=a
   .subst z2;rw[af] at e;cases e;exact ab1
   .rw[ag z2] at e
    refine(I.hok b u e).qE (λc v hc q=>k c v ?_ q) (λc q=>up c _ (HY c b q) q) λc xs q=>up c _ (Mm c xs q) q
    rcases hc with y|y
    .rw[y];exact z2
    .exact HY c b y
variable {a C:Addr} {fs:List (Str×V)} {f:Str} {v:V} {A:Around} {E:Value->Shared->Prop}
def WG(H:Hp)(C a:Addr)(f:eg)(y:V)(fs:List (eg×V))(Q:Hp->Prop):Prop:=
 (fs= []/\H a\(sh C a none)/\∀dx,H dx=none->Q^upd (upd H a^sh C a^some dx) dx^EJ dx [(f,y)])\/
 (∃dx,H a\(sh C a^some dx)/\H dx\(EJ dx fs)/\fs.length<1000/\Q^upd H dx^EJ dx^jS f y fs)
def Gq{y:V}{u:b_}{Q:Unit->c_->Prop}{R:Hp->Prop}(I:Inv X pins σ H s)(c:C3 X.K C)(n:gO X.K C f)(ry:RelV y u)(p:WG H C a f y fs R)
  (h:∀H' s',Inv X pins σ H' s'->R H'->Q ⟨⟩ s'):d_ (d5 X.prog X.w) A (setAttr (.ref a) f u) Q E s:=by
 rcases p with ⟨rfl,e,q⟩ | ⟨dx,e,ed,hl,q⟩
 .obtain⟨t,et⟩:=zQ I.hok e
  refine aaA I.dE c et n.Li λh' hn hx k=>?_;refine h _ _ (I.Wu (by rw[e];exact True.intro) (aZ _) k #[_,hx] (Gm hx) ?_)^q s.heap.objs.size I.fresh
  refine TK (by simp) hn (λg=>?_)^λg hg=>?_
  .by_cases z:g=f
   .rw[if_pos z,z];simp only[ca,beq_self_eq_true];exact ry
   .rw[if_neg z]
    have hb:(g==f)=false:=beq_eq_false_iff_ne.mpr z;simp only[ca,hb];exact True.intro
  .by_cases z:g=f
   .rw[z];simp
   .rw[if_neg z] at hg;exact absurd rfl hg
 .obtain⟨t,et⟩:=zQ I.hok e
  obtain⟨_,mA,hn,r,wi⟩:=Wv I.hok ed
  have ne:dx≠a:=by
   rintro rfl;obtain⟨o,es,ep,eo,hd,_⟩:=hn;rw[et] at eo;cases eo;cases hd
  have hz:(fs.map (·.1)).length<=sizeLine:=by rw[aI,sizeLine_eq];lia
  refine aaB I.dE c et hn ne n.Li wi hz λh' JX sb=>h _ _ (I.write (x:=dx) (e:=dx) (by rw[ed];exact True.intro) (.inl rfl) (λb q hb z=>(sb.2 b hb).trans z) (let #[o,_,_,e',_]:=JX;#[o,e']) ?_) q
  refine TK (by have:=n0 f y fs;lia) JX (λg=>?_)^λg hg=>?_
  .rw[n6]
   by_cases q:g=f
   .rw[if_pos q,if_pos q];exact ry
   .rw[if_neg q,if_neg q];exact r g
  .by_cases q:g=f
   .rw[q];exact(lD f y fs).1
   .refine(lD f y fs).2 g (wi g λz=>hg ?_)
    show(if g=f then some u else mA g)=none;rw[if_neg q];exact z
end
def aam(K:ad)(ta tv:TE)(f:Str):TS:=λD σ H=>tv σ H λy H1=>ta σ H1 λx H2=>∃a C fs,x= .ref a/\C3 K C/\gO K C f/\WG H2 C a f y fs λH3=>D.nx σ H3
section
variable {X:Cx} {o e value:Expr} {f:Str} {pos pos' acN:Pos} {ta tv:TE}
def vS(ha:PE X o ta)(hv:PE X value tv)(hs:gs value (some^.Attribute o f pos') pos.line X.env=pure false):PS X (.Assign [.Attribute o f pos'] value pos)^aam X.K ta tv f:=by
 intro pins s σ H D I h;refine plainObj_wpAny_Assign_Attribute (thn (hv pins s σ H _ I h) λu s1 #[y,H1,I1,ry,q]=>thn (ha pins s1 σ H1 _ I1 q) λov s2 #[x,H2,I2,rx,a,C,fs,ex,c,n,p]=>?_) hs;subst ex;obtain rfl:ov=Value.ref a:=rx;exact Gq I2 c n ry p λH3 s3 I3 q=>#[σ,_,I3,q]
end
structure oN (K:ad) (C:Addr):Prop where
 obj:∃nm q N bs bm ig sn sub ab col dd k0 k1 k2 k3 k5,K.lookup C\(hX nm q C N bs bm ig sn sub ab col dd k0 k1 k2 k3 k5 "ValueError.__new__")/\(Value.ref C::bm).contains^.type "ValueError"=true/\
  (Value.ref C::bm).contains^.type "AttributeError"=false/\(Value.ref C::bm).contains^.type "NameError"=false
structure GK (K:ad) (C:Addr) (init:b_):Prop extends oN K C where
 call:bi K (.ref C) "__call__"\(some^.builtin "type.__call__")
 typ:dH K (.ref C)^.type "type"\true
 ini:ak K (.ref C) "__init__"\(some init)
 kp:am K^.ref C=true
def Ws{H:Hp}{a:Addr}{o:HO}(e:H a\o):upd H a o=H:=by
 funext b
 by_cases h:b=a
 .rw[h,af,e]
 .rw[ag h]
def Wm(C:Addr)(sp:Sp)(E:XK)(t:TA):TE:=λσ H Q=>t σ H λvs H1=>∀e,H1 e=none->sp (.ref e::vs) (upd H1 e^sh C e none) (λv H2=>v= .aS/\Q (.ref e) H2) E
def Wl(K:ad)(t:TA):TE:=λσ H Q=>t σ H λvs H1=>∃a C d y,vs= [.ref a,y]/\H1 a\(sh C a d)/\oN K C/\Q .aS H1
section
variable {X:Cx} {CX:pF} {k:Nat} {f C:Addr} {fd:FuncData} {ps:List Str} {sp:Sp} {E:XK} {x m:Str} {p pos apos:Pos} {e o:Expr} {es:List Expr} {ta:TE} {t:TA}
theorem K6{pins:List (Addr×Obj)}{σ:St}{H:Hp}{s:c_}{Q:VK}{us:List b_}{vs:List V}(M:GK X.K C^.ref f)(hf:bu X.K^.ref f=true)(F:FnOk X.prog X.w X.K X.mg X.base CX k f fd ps sp)(hr:b8 (k+1) X.A)(hb:Binds X.K fd ps [])
  (QZ:ps.length<=1000) (hx:Passes CX X E) (I:Inv X pins σ H s) (r:Vals vs us)
  (h:∀e,H e=none->sp (.ref e::vs) (upd H e^sh C e none) (λv H2=>v= .aS/\Q (.ref e) H2) E):
  d_ (d5 X.prog X.w) X.A (call (.ref C) us) (EP X pins σ Q) X.xe s:=by
 let⟨nm,q,N,bs,bm,ig,sn,sub,ab,col,dd,k0,k1,k2,k3,k5,hC,cB,cA,cN⟩:=M.obj;have hq:=h (s.heap.objs.size+1)^I.hok.fresh^lS _
 have ZC:((s.heap.push {cls:= .type "tuple",data:= .seq us.toArray}).push^cC C s.heap.objs.size none).get? (s.heap.objs.size+1)\(cC C s.heap.objs.size none):=by
  have:=Heap.get?_push_size (s.heap.push {cls:= .type "tuple",data:= .seq us.toArray}) (o:=cC C s.heap.objs.size none) rfl
  rwa [Heap.size_push] at this
 have I2:Inv X pins σ (upd H (s.heap.objs.size+1)^sh C (s.heap.objs.size+1) none) {s with heap:=(s.heap.push {cls:= .type "tuple",data:= .seq us.toArray}).push^cC C s.heap.objs.size none}:=
  I.laid (t':=s.toks) (λb u q=>Heap.get?_push_of_some _^Heap.get?_push_of_some _ q) (lS _)^Gm ZC
 have r2:Vals (V.ref (s.heap.objs.size+1)::vs) (Value.ref (s.heap.objs.size+1)::us):= .cons rfl r
 have hl:((Value.ref (s.heap.objs.size+1)::us)++ []).length=ps.length:=by
  have e:=r2.length;rw[F.len _ _ _ _ hq] at e;rw[fe];exact e.symm
 have hlen:us.length<=sizeLine:=by
  rw[fe,cJ] at hl;exact lR^bL ()
 have Cp:=hb _ (Value.ref (s.heap.objs.size+1)::us) I2.dE hl;rw[fe] at Cp;let⟨hh,g,d,tk,os⟩:=s
 refine i_^yT (init:= .ref f) PySem.F.excBase_ValueError cB cA cN (I.dE _ _ hC) (PySem.W.looks_specialIn I.dE M.call) (PySem.W.looks_instIn I.dE M.typ) (PySem.W.looks_findIn I.dE M.ini) (λself=>PySem.W.bind_fn I.dE self^beq_iff_eq.mp hf) hlen
  (je (F.run _ X.stack _ _ #[Value.ref (hh.objs.size+1)::us,[]] (Value.ref (hh.objs.size+1)::us) _ _ E (hr.make C us []) (I2.Ho.make C us []) Cp r2 hq) λr s' nW=>?_)
 cases r with
 |error e=>exact hx pins σ _ _ e s' I2 nW
 |ok fl=>
  cases fl with
  |ret u=>
   refine ae λG0 k0=>?_;let⟨v,H',I3,rv,ev,q3⟩:=I2.after nW;subst ev;refine k0 ?_;exact#[rv,#[V.ref (hh.objs.size+1),H',I3,rfl,q3]]
  |next=>exact False.elim nW
  |brk=>exact False.elim nW
  |cont=>exact False.elim nW
def Ob(M:GK X.K C^.ref f)(hf:bu X.K^.ref f=true)(F:FnOk X.prog X.w X.K X.mg X.base CX k f fd ps sp)(hr:b8 (k+1) X.A)(hg:Gl X x)(hm:X.mg x\(.ref C))(hb:Binds X.K fd ps [])(QZ:ps.length<=1000)(hx:Passes CX X E)
  (ha:PA X (e::es) t) (fC:(x==("__debug__":eg))=false<|>zm) (he:d4 (e::es) X.env=(false,f7 e X.env)::d4 es X.env<|>zn) (cR:(gd pos^d4 es X.env).any (·.1)=false<|>zn):
  PE X (.Call (.Name x p) (e::es) [] pos)^Wm C sp E t:=by
 intro pins s σ H Q I h;refine wpAny_Call_Name_kw^i6 I hg hm ?_ fC;refine PySem.W.callWith_K (h₀:=X.base) I.ok.mod.kin M.kp (thn (ha pos pins s σ H _ I h) λus s1 #[vs,H1,I1,r,q]=>#[I1.dE,?_]) he cR;exact K6 M hf F hr hb QZ hx I1 r q
def xP{C0:Addr}{pl:j_ Bool}(hg:Gl X x)(hm:X.mg x\(.ref C0))(sg:bi X.K (.ref C0) "__getattribute__"\(some^.builtin "type.__getattribute__"))(rd:dg X.K C0^.type "type"=true)
  (fc:dq X.K (.ref C0) (.type "type") "__init__"\(.val^.builtin "ValueError.__init__")) (ha:PA X (e::es) t) (fC:(x==("__debug__":eg))=false<|>zm)
  (he:d4 (e::es) X.env=(false,f7 e X.env)::d4 es X.env<|>zn) (cR:(gd pos^d4 es X.env).any (·.1)=false<|>zn)
  (ht:f7 (.Call (.Attribute (.Name x p) "__init__" apos) (e::es) [] pos) X.env=(do
   let ov <-f7 (.Name x p) X.env
   ie apos.atName
   let (f,first) <-gP [ov] (km ov "__init__" pl)
   callWith pos f first (gd pos^d4 (e::es) X.env)^im pos^g6 [] X.env)<|>zn):
  PE X (.Call (.Attribute (.Name x p) "__init__" apos) (e::es) [] pos)^Wl X.K t:=by
 intro pins s σ H Q I h;refine PySem.W.methodCall_KW (pl:=pl) (i6 I hg hm ?_ fC) ht;refine PySem.W.method_cls I.dE sg^PySem.W.cls_value I.dE rd fc (by decide+kernel) ?_
 refine PyProof.Rows.callWith_builtin1 (thn (ha pos pins _ σ H _ (I.tok _) h) λus s1 #[vs,H1,I1,r1,a,C,d,y,ev,ea,xo,q1]=>?_) he cR;refine ae λG0 k0=>?_;subst ev;obtain⟨u1,u2,rfl,ra,ry⟩:=r1.two;subst ra;obtain⟨nm,q,N,bs,bm,ig,sn,sub,ab,col,dd,k0,k1,k2,k3,k5,hC,cB,cA,cN⟩:=xo.obj;obtain⟨t0,et⟩:=zQ I1.hok ea;obtain⟨hh,g,dr,tk,os⟩:=s1;refine k0 ?_;refine i_^yr PySem.F.excBase_ValueError cB (I1.dE _ _ hC) et (λh' t' UR kk=>?_)^by show 1<=sizeLine;decide
 have I2:=I1.write (x:=a) (e:=a) (o:=sh C a d) (t':=tk) (by rw[ea];exact True.intro) (.inl rfl) (λb u hb q=>kk b u hb q) #[_,UR]^Gm UR
 rw[Ws ea] at I2;exact#[.aS,H1,I2,rfl,q1]
end
section
variable {X:Cx} {pins:List (Addr×Obj)} {σ:St} {H:Hp} {s:Shared} {A:Around} {E:Value->Shared->Prop} {Q:Value->Shared->Prop} {b:Bool}
end
def bD.of(f:Scope)(e:X.env.scope=f)(k:d.kind= .function)(a:∀x∈d.names,x.2= .local->d.names.lookup x.1\.local)(b:∀x∈d.names,x.2≠ .cell)
  (c:∀x∈d.names,x.2= .free->f.names.lookup x.1\.cell\/f.names.lookup x.1\.free):bD X d:=#[k,a,b,λx g h=>by rw[<-e] at c;exact c x g h]
def DH{K:ad}{a:Addr}{xs:List V}{g:TG}{k:TS}{D:Ends}{b:St}{H:Hp}(c:Nat->St->Hp->Prop)(o:c 0 b H)(r:∀i b H,i<=xs.length->c i b H->aK K H a xs)
  (s:∀(i:Nat) x t b H,xs[i]?\x->H t=none->c i b H->g (.ref t) b (upd H t^.tup [.int (i:Int),x]) λf h=>k {D with nx:=c (i+1),ct:=c (i+1),bk:=D.nx} f h) (u:∀b H,c xs.length b H->D.nx b H):
  ∃W:Nat->Nat->St->Hp->Prop,(∃m,W 0 m b H)/\∀i m b H,W i m b H->
   ((MS K a).stop i H/\D.nx b H)\/((MS K a).go i H/\∃N:St->Hp->Prop,(∀j d,N j d->∃l,l<m/\W (i+1) l j d)/\∀x d,(MS K a).yld i H x d->g x b d λf h=>k {D with nx:=N,ct:=N,bk:=D.nx} f h):=by
 refine#[λi m b H=>m=xs.length-i/\i<=xs.length/\c i b H,#[xs.length,by simp,eB _,o],?_]
 rintro i m b H ⟨rfl,w,p⟩;have q:=r i b H w p
 by_cases n:i<xs.length
 .refine .inr #[#[xs,xs[i],q,by simp[n]],c (i+1),λj d z=>#[xs.length-(i+1),(),rfl,n,z],λx d y=>?_]
  let⟨t,v,rfl,A,rfl,B⟩:=y;exact s i v t b H (B xs q) A p
 .have e:i=xs.length:=()
  subst e;exact .inl #[#[xs,q,aZ _],u b H p]
def DV{K:ad}(e:X.K=K<|>zn):zU X^Mr K:=by rw[<-e];exact bU
def HM{K:ad}(e:X.K=K<|>zn):zU X^Xz K:=by rw[<-e];exact Mc
def KA{K:ad}(e:X.K=K<|>zn):OpR X (ff .NotIn)^VP K true:=by rw[<-e];exact sN
structure bP (K:ad) (mg:Str->Option Value) (x:Str) (st:Stmt) (ps:List Str) where
 f:Addr
 fd:FuncData
 F:uG K x x st f fd
 b:Binds K fd ps []
 m:mg x\(.ref f)
def aA(h:H p=none)(o:HO):aC H^upd H p o:=λb u q=>by rw[ag^ao q h];exact q
def small(h:n<=1000):n<=sizeLine:=lR^bL h
abbrev kh(C t:Addr)(a:Value)(d:Option Addr):Obj:={cls:= .ref C,dict:=d,data:= .fields [.ref t,a, .none, .none, .bool false, .none].toArray}
noncomputable def pG(C a:Addr)(d:Option Addr):HO:= .ext λh=>∃t b,h.get? a\(kh C t b d)
section
variable {P:Program} {w:World} {H:Hp} {h:Heap} {a C:Addr} {d:Option Addr}
def P8{tb:b_}(e:h.get? a\(kh C t tb d)):cG P w H h a^pG C a d:=#[#[t,tb,e],#[_,e],λb c #[t,tb,p] k=>#[t,tb,k _ p]]
end
def GJ(h:Heap)(T:Addr):Prop:=∃o a,h.get? T\o/\o.data= .fields a/\a[3]?\.none
section
variable {M:Model} {A:Around} {E:Value->Shared->Prop} {s:Shared}
def AN 
  (O:A.frames\(env::outer)) (w:s.heap.FunFrames base (env::outer)) (P:env.frame\L)
  (y:s.heap.get? e\(kh C t j d))
  (h:∀k T,s.heap.objs.size<=T->k.get? e\(kh C t (.ref T) d)->GJ k T->(∀b o,s.heap.get? b\o->b≠e->∃p,k.get? b\{o with slots:=p})->
   (∀b o,s.heap.get? b\o->b≠e->b∉uQ (env::outer)->k.get? b\o)->Q ⟨⟩ {s with heap:=k}):
  d_ M A (do let a <-frameOf env;let pl <-entryPlaceOf L N;let b <-EntryCells.newEntry g a .none (kI L) .none pl;setField (.ref e) 1 b) (λ_ R=>d_ M A (kv (.ref e) none) Q E R) E s:=by
 have q:(kh C t j d).data= .fields [.ref t,j, .none, .none, .bool false, .none].toArray:=rfl;have S:1<([.ref t,j, .none, .none, .bool false, .none].toArray:Array b_).size:=by simp
 have r:e∉(env::outer).filterMap (·.frame):=λX=>by
  obtain⟨_,o,m,Y⟩:=w.mem X;rw[y] at m;injection m with m;subst m;exact Y _ q
 refine a_ (wpAny_frameOf_fun O w P λc n=>?_);refine a_ (wpAny_entryPlaceOf λpl z=>?_);unfold EntryCells.newEntry newFields;refine a_^adw ?_^z.sizeOk5 _ _ _ _ _;have B:c.get? e\(kh C t j d):=(n.2.1 e r).trans y;have F:=AC (h:=c) {cls:= .type "traceback",dict:=none,data:= .fields ([g, .ref L, .none,kI L, .none]++(if pl.isEmpty then b5 6 Value.none else pl)).toArray} B;refine afQ F q S ?_;have G:c.objs.size≠e:=jY^Da B;have H:=ad3 q (·.setIfInBounds 1^Value.ref c.objs.size);have I:=PP (Obj.mapFields (·.setIfInBounds 1^Value.ref c.objs.size)) F^aes H
 have J:=(Os (c.push {cls:= .type "traceback",dict:=none,data:= .fields ([g, .ref L, .none,kI L, .none]++(if pl.isEmpty then b5 6 Value.none else pl)).toArray})
  (Obj.mapFields (·.setIfInBounds 1^Value.ref c.objs.size))^Ne.symm G).trans^GM c rfl
 unfold kv;refine a_^adu I H (x:= .ref c.objs.size) (by simp) ?_
 rw[ir (show(Value.ref c.objs.size !=Value.none)=true from by simp)]
 refine afQ J rfl (by simp only[cE,dJ,cJ,sX]<;>lia) ?_
 have keep:∀b o,b≠e->c.get? b\o->
   (((c.push {cls:= .type "traceback",dict:=none,data:= .fields ([g, .ref L, .none,kI L, .none]++(if pl.isEmpty then b5 6 Value.none else pl)).toArray}).update e^Obj.mapFields (·.setIfInBounds 1^Value.ref c.objs.size)).update c.objs.size
     (Obj.mapFields (·.setIfInBounds 3 ((none:Option Addr).elim Value.none λf=>kI f)))).get? b\o:=λb o l i=>by
  have u:c.objs.size≠b:=jY^Da i;rw[Os _ _ u,Os _ _^Ne.symm l];exact AC _ i
 refine h _ c.objs.size (by rw[n.1];exact aZ _) ?_ #[_,_,PP _ J^aes^ad3 rfl _,ad3 rfl _,by first| (simp;done) | (rcases z with rfl| ⟨_,_,_,_,_,_,_,rfl⟩<;>simp)] (λb o i l=>?_)^λb o i l v=>?_
 .rw[Os _ _ G];exact I
 .obtain⟨p,Z⟩:=n.2.2 b o i
  exact#[p,keep b _ l Z]
 .exact keep b o l^(n.2.1 b v).trans i
def Kj{base:Heap} 
  (G:A.frames\(env::outer)) (H:s.heap.FunFrames base (env::outer)) (r:env.frame\L)
  (u:s.heap.get? e\(kh C t g d)) (I:g= .none\/∃T,g= .ref T/\T≠e/\GJ s.heap T)
  (h:∀c T,s.heap.objs.size<=T->c.get? e\(kh C t (.ref T) d)->GJ c T->(∀b o,s.heap.get? b\o->b≠e->∃J,c.get? b\J)->(∀b o,s.heap.get? b\o->b≠e->g≠ .ref b->∃k,c.get? b\{o with slots:=k})->
   (∀b o,s.heap.get? b\o->b≠e->g≠ .ref b->b∉uQ (env::outer)->c.get? b\o)->Q ⟨⟩ {s with heap:=c}):
  d_ M A (kn (.ref e) env) (λ_ N=>d_ M A (kv (.ref e) none) Q E N) E s:=by
 have O:(kh C t g d).data= .fields [.ref t,g, .none, .none, .bool false, .none].toArray:=rfl;unfold kn;simp only[r];refine a_^adu (x:=g) u O rfl ?_
 rcases I with rfl| ⟨T,rfl,P,Z,R,l,m,i⟩
 .rw[mo ∅]
  exact AN G H r u λc T p v i j y=>h c T p v i (λb o q n=>let #[k,z]:=j b o q n;#[_,z]) (λb o q n _=>j b o q n) λb o q n _=>y b o q n
 .rw[ir (show(Value.ref T !=Value.none)=true from by simp)]
  refine a_^adu l m i ?_;rw[mo (show ¬((Value.none==kI L)=true) from by simp[kI])]
  refine a_^afQ l m (BX.mp i).1 ?_;have a:∀b,b≠T->(s.heap.update T^Obj.mapFields (·.setIfInBounds 3 Value.none)).get? b=s.heap.get? b:=λb f=>Os _ _^Ne.symm f
  have S:∀b o,s.heap.get? b\o->(∀X,o.data≠ .fields X)->b≠T:=λb o f B q=>by
   rw[q,l] at f;injection f with f;subst f;exact B R m
  have F:=PP (Obj.mapFields (·.setIfInBounds 3 Value.none)) l^aes^ad3 m _;refine AN (s:={s with heap:=s.heap.update T^Obj.mapFields (·.setIfInBounds 3 Value.none)}) G (H.of_keeps λb o f B=>#[o,(a b^S b o f B).trans f,rfl]) r ((a e^Ne.symm P).trans u) λc Y p v i j y=>?_
  refine h c Y (by rw[Heap.size_after_update] at p;exact p) v i (λb o q n=>?_) (λb o q n z=>j b o ((a b λw=>z^by rw[w]).trans q) n) λb o q n z=>y b o ((a b λw=>z^by rw[w]).trans q) n
  by_cases z:b=T
  .subst z
   obtain⟨k,z⟩:=j b _ F n;exact#[_,z]
  .obtain⟨k,z⟩:=j b o ((a b z).trans q) n
   exact#[_,z]
end
def aaM(X:Cx)(H:Hp)(h:Heap)(a:Value):Prop:=a= .none\/∃T,a= .ref T/\X.s₀.heap.objs.size<=T/\T≠X.env.locals/\(∀x c,X.env.cells.lookup x\c->c≠T)/\(∀p∈X.pn,p.1≠T)/\H T=none/\GJ h T
def zT(X:Cx)(H:Hp)(s:Shared)(a:Addr):Prop:=∃C t b d,H a\(pG C a d)/\s.heap.get? a\(kh C t b d)/\aaM X H s.heap b
structure Fly (P:Program) (w:World) (outer:List Env) (H:Hp) (s:Shared) (a:Addr) (H':Hp) (s':Shared):Prop where
 os:s'.os=s.os
 bare:AllBare s'.gens
 un:Un (uQ outer) [] H H' s.heap s'.heap
 hok:jj P w H' s'.heap
 obj:∃C t tb d,H' a\(pG C a d)/\s'.heap.get? a\(kh C t tb d)/\(tb= .none\/∃T,tb= .ref T/\s.heap.objs.size<=T/\H' T=none/\GJ s'.heap T)
def r8(P:Program)(w:World):pF:=λouter H s E e c=>∃a b,e= .ref a/\Fly P w outer H s a b c/\E e none b
section
variable {X:Cx} {pins:List (Addr×Obj)} {σ:St} {H H':Hp} {s s':Shared} {a:Addr}
def Inv.Pc(I:Inv X pins σ H s):Inv X [] σ H s:=#[I.ok,I.os,I.bare,I.base,I.loc,I.cell,I.free,I.freeC,λp b=>I.pin p^by rw[fe] at b;exact fK _ b,I.hok,I.len]
theorem L5(I:Inv X pins σ H s)(f:Fly X.prog X.w X.stack H s a H' s'):Inv X [] σ H' s'/\zT X H' s' a:=by
 rfl';let⟨os,bare,un,hok,C,t,h,d,i,j,k⟩:=f;have l:Inv X pins σ H' s':=I.Jl (ch:= []) os un hok bare^λb z=>absurd z^by simp
 ac_rfl;refine#[l.Pc,C,t,h,d,i,j,k.imp id λ#[T,m,e,n,q]=>#[T,m,jz I.sz e,?_,λx c r z=>?_,λp u z=>?_,n,q]]
 .exact λz=>absurd (dR I.lt e)^by rw[z];exact jy _
 .obtain⟨v,o,y,_⟩:=I.cell x c r
  exact absurd (dR (Da y) e)^by rw[z];exact jy _
 .have:=(I.pin p^fK _ u).1
  exact absurd (dR (Da this) e)^by rw[z];exact jy _
theorem D2(r:X.stack=X.env::X.outer)(Z:X.env.frame\X.env.locals)(I:Inv X [] σ H s)(f:zT X H s a)
  (h:∀s',Inv X [] σ H s'->zT X H s' a->Q ⟨⟩ s'):
  d_ M X.A (kn (.ref a) X.env) (λ_ s'=>d_ M X.A (kv (.ref a) none) Q E s') E s:=by
 let⟨C,t,tb,d,j,h2,B⟩:=f;have fr:s.heap.FunFrames X.base (X.env::X.outer):=by rw[<-r];exact I.stack
 refine Kj (base:=X.base) (by rw[I.ok.frames,r]) fr Z h2 (B.imp id λ#[T,e1,_,_,_,_,P,e7]=>#[T,e1,(λz=>by rw[z,j] at P;cases P),e7]) λk T F G J k0 k1 R=>?_
 have tr:∀b u,H b\u->b≠a->∀o,s.heap.get? b\o->k.get? b\o:=λb u i jO o l=>by
  refine R b o l jO (λz=>?_) λz=>?_
  .rcases B with q| ⟨T,q,_,_,_,_,L,_⟩
   .rw[q] at z;cases z
   .rw[q] at z;cases z;rw[i] at L;cases L
  .have:=I.Bx b^by rw[r];exact z
   rw[i] at this;cases this
 have hok:jj X.prog X.w H k:=λb u i=>by
  by_cases z:b=a
  .subst z;rw[j] at i;cases i;exact P8 G
  .refine(I.hok b u i).qE (λc v g q=>?_) (λ_ q=>q) λ_ _ q=>q
   rcases g with rfl|g
   .exact tr c u i z v q
   .exact tr c _ g (λw=>by rw[w,j] at g;cases g) v q
 have N:H T=none:=I.hok.fresh F;have O:∀c o,s.heap.get? c\o->c≠T:=λc o g z=>absurd (dR (Da g) F)^by rw[z];exact jy _
 have fin:∀ch:List Addr,(∀b,tb= .ref b->b∈ch)->(∀b∈ch,(b∈X.ex\/X.s₀.heap.objs.size<=b)/\b≠X.env.locals/\(∀x c,X.env.cells.lookup x\c->c≠b)/\∀p∈X.pn++ [],p.1≠b)->Inv X [] σ H {s with heap:=k}:=λch S h6=>by
  refine I.Jl (s':={s with heap:=k}) (ch:=ch) rfl #[λb o e n i g=>?_,λb o e n _ g=>?_,λb o _ n _=>n,λb o e _=>?_,λ_ _ q=>q,λ_ _ _ q=>q,λ_ ps q=>#[#[],by rw[q];simp]] hok I.bare h6
  .exact R b o e (λz=>by rw[z,j] at n;cases n) (λz=>g^S b z)^by rw[<-r];exact i
  .exact k1 b o e (λz=>by rw[z,j] at n;cases n)^λz=>g^S b z
  .by_cases z:b=a
   .exact#[_,by rw[z];exact G]
   .exact k0 b o e z
 have I':Inv X [] σ H {s with heap:=k}:=by
  rcases B with q| ⟨Y,q,q2,q3,q4,q5,L,q7⟩
  .exact fin [] (λb z=>by rw[q] at z;cases z) λb z=>absurd z^by simp
  .refine fin [Y] (λb z=>by rw[q] at z;cases z;exact cF ..) λb z=>?_
   have:b=Y:=by simpa using z
   subst this;exact#[.inr q2,q3,q4,λp y=>q5 p^by rw[fe] at y;exact y]
 refine h _ I' #[C,t, .ref T,d,j,G, .inr #[T,rfl,jz I.sz F,?_,λx c g=>?_,λp y=>?_,N,J]]
 .obtain⟨m,⟨o,_,_,l,_⟩,_⟩:=I.loc
  exact(O _ _ l).symm
 .obtain⟨v,o,l,_⟩:=I.cell x c g
  exact O _ _ l
 .exact O _ _ (I.pin p^fK _ y).1
end
def GL(X:Cx)(b:St)(H:Hp)(a:Addr):Prop:=∀s,Inv X [] b H s->zT X H s a->X.xe (.ref a) s
theorem P9{P:Program}{w:World}{K:ad}{e:Str->Option Value}{base:Heap}{N:List Str}{c:Str}{b:Scope}{f:Addr}{g:Value}{A:Around}{outer:List Env}{s k:Shared}{H i:Hp}{E:XK}{l:St}{a:Addr}
  (I:Inv (lh (r8 P w) P w K e base N c b f g A outer s H E) [] l i k) (m:zT (lh (r8 P w) P w K e base N c b f g A outer s H E) i k a) (h:E (.ref a) none i):(lh (r8 P w) P w K e base N c b f g A outer s H E).xe (.ref a) k:=by
 show wpAny _ _ (leaving _ _) _ _ _;unfold leaving;refine wpAny_bind (D2 (X:=lh (r8 P w) P w K e base N c b f g A outer s H E) rfl rfl I m λB j n=>?_);rfl';obtain⟨C,t,p,d,q,r,u⟩:=n;ac_rfl;exact#[a,i,rfl,#[j.os,j.bare,j.base,j.hok,C,t,p,d,q,r,u.imp id λ#[T,v,x,_,_,_,y,z]=>#[T,v,x,y,z]],h]
end L2
namespace TS
open PySem PyProof.Rows
noncomputable def fX:Bool->Keyed->Array Keyed->Nat->Nat->Nat->StateT fB j_^Option Nat:=sortPriv%PySem.Builtin.gallop
noncomputable def rA:Array Keyed->Array Keyed->StateT fB j_^Array Keyed:=sortPriv%PySem.Builtin.mergeLo
noncomputable def rz:Array Keyed->Array Keyed->StateT fB j_^Array Keyed:=sortPriv%PySem.Builtin.mergeHi
noncomputable def setMinGallop':Nat->StateT SortSt Sem Unit:=sortPriv%PySem.Builtin.setMinGallop
noncomputable def lg(left:Bool)(key:Keyed)(arr:Array Keyed)(base i:Nat):StateT fB j_^Option Bool:=do
 let x <-gv arr (base+i)
 if left then lt' x key else return (<-lt' key x).map (!·)
def Hs(left:Bool)(key:Keyed)(arr:Array Keyed)(base n a:Nat):fX left key arr base n a=(do
 let mut lastofs:=0
 let mut ofs:=1
 let mut lo:=0
 let mut hi:=0
 let some right <-lg left key arr base a|return none
 if right then
  let b:=n-a
  for _ in [0:n] do
   if ofs>=b then break
   let some more <-lg left key arr base (a+ofs) |return none
   if !more then break
   lastofs:=ofs
   ofs:=2*ofs+1
  lo:=a+lastofs+1
  hi:=a+min ofs b
 else
  let b:=a+1
  for _ in [0:n] do
   if ofs>=b then break
   let some found <-lg left key arr base (a-ofs) |return none
   if found then break
   lastofs:=ofs
   ofs:=2*ofs+1
  lo:=a+1-min ofs b
  hi:=a-lastofs
 for _ in [0:n] do
  if lo>=hi then break
  let m:=lo+(hi-lo) / 2
  let some more <-lg left key arr base m|return none
  if more then lo:=m+1 else hi:=m
 return some hi):=rfl
def iW(O:KeyOrd)(key:Keyed->O.α)(S:Keyed->Prop)(a:hT)(M:Model)(A:f5)(E:b_->c_->Prop)(s:c_):Prop:=
 ∀(x y:Keyed)(st:fB)(Q:Option Bool->fB->Prop),S x->S y->kindOf st=a->Q (some^O.blt (key x)^key y) st->lu M A E s (lt' x y) Q st
section
variable {O:KeyOrd} {key:Keyed->O.α} {S:Keyed->Prop} {k0:SortKind} {M:Model} {A:Around} {E:Value->Shared->Prop} {s:Shared} {st:SortSt}
noncomputable def fi(O:KeyOrd)(key:Keyed->O.α)(left:Bool)(k x:Keyed):Bool:=if left then O.blt (key x)^key k else !O.blt (key k)^key x
def bp{i:Nat}(h:arr[i]?\x)(q:Q x st):wpS M A E s (elem' arr i) Q st:=by
 rw[elem'_eq,h];exact FB q
theorem mB(C:iW O key S k0 M A E s)(d:arr[base+i]?\x)(a:S k)(b:S x)(c:kindOf st=k0)
  (q:Q (some (fi O key left k x)) st):lu M A E s (lg left k arr base i) Q st:=by
 unfold lg;refine Do^bp d ?_;unfold fi at q;cases left with
 |true=>exact C _ _ _ _ b a c q
 |false=>exact Do^C _ _ _ _ a b c^FB q
structure Seg (S:Keyed->Prop) (arr:Array Keyed) (base n:Nat) (g:Nat->Keyed):Prop where
 at_:∀i,i<n->arr[base+i]?\(g i)
 mem:∀i,i<n->S^g i
theorem iQ(C:iW O key S k0 M A E s){base n a:Nat}(G:Seg S arr base n g)(H:S k)(J:kindOf st=k0)(Y:a<n)
  (mono:∀i j,i<=j->j<n->fi O key left k^g j=true->fi O key left k^g i=true)
  (q:∀p,p<=n->(∀i,i<p->fi O key left k^g i=true)->(∀i,p<=i->i<n->fi O key left k^g i=false)->Q (some p) st):lu M A E s (fX left k arr base n a) Q st:=by
 rw[Hs];refine Do^mB C (G.at_ _ Y) H (G.mem _ Y) J ?_
 have P:∀i j,i<=j->j<n->fi O key left k^g i=false->fi O key left k^g j=false:=λi j fj hj h=>by
  cases e:fi O key left k^g j with
  |false=>rfl
  |true=>rw[mono i j fj hj e] at h;cases h
 have fin:∀lo b,lo<=b->b<=n->(∀i,i<lo->fi O key left k^g i=true)->(∀i,b<=i->i<n->fi O key left k^g i=false)->
   lu M A E s (do
    let mut lo:=lo
    let mut b:=b
    for _ in [0:n] do
     if lo>=b then break
     let m:=lo+(b-lo) / 2
     let some more <-lg left k arr base m|return none
     if more then lo:=m+1 else b:=m
    return some b) Q st:=by
  intro lo b R hn B y;dsimp only
  refine Do (SC (SL (I:=λx c f=>f=st/\∃lo b,c=(none,lo,b)/\lo<=b/\b<=n/\b-lo<=n-x/\(∀i,i<lo->fi O key left k^g i=true)/\(∀i,b<=i->i<n->fi O key left k^g i=false))
   (Q:=λc f=>f=st/\∃b,c=(none,b,b)/\b<=n/\(∀i,i<b->fi O key left k^g i=true)/\(∀i,b<=i->i<n->fi O key left k^g i=false)) ?step ?fin #[rfl,lo,b,rfl,R,hn,(),B,y]) ?post)
  case fin=>
   rintro c f ⟨rfl,lo,b,rfl,r,w,t,l,L⟩
   have:lo=b:=()
   subst this;exact#[rfl,lo,rfl,w,l,L]
  case step=>
   rintro x c f _ Z ⟨rfl,lo,b,rfl,r,w,t,l,L⟩;dsimp only
   by_cases v:lo>=b
   .rw[ir v]
    have:lo=b:=()
    subst this;exact FB #[rfl,lo,rfl,w,l,L]
   .rw[mo v]
    have u:lo+(b-lo) / 2<n:=()
    refine Do^mB C (G.at_ _ u) H (G.mem _ u) J ?_;cases e:fi O key left k^g (lo+(b-lo) / 2) with
    |true=>
     dsimp only;rw[ir rfl];exact FB #[rfl,_,_,rfl,(),w,(),λi b=>mono _ _ () u e,L]
    |false=>
     dsimp only;rw[mo ∅]
     exact FB #[rfl,_,_,rfl,(),(),(),l,λi B y=>P _ _ B y e]
  case post=>
   rintro c f ⟨rfl,b,rfl,T,N,F⟩;exact FB^q _ T N F
 dsimp only;cases e0:fi O key left k^g a with
 |true=>
  rw[ir rfl]
  refine Do (SC (SL (I:=λx c f=>f=st/\∃d o,c=(none,d,o)/\d<o/\x<o/\a+d<n/\fi O key left k^g (a+d)=true)
   (Q:=λc f=>f=st/\∃d o,c=(none,d,o)/\d<o/\a+d<n/\fi O key left k^g (a+d)=true/\(n-a<=o\/(a+o<n/\fi O key left k^g (a+o)=false))) ?step ?fin2 #[rfl,0,1,rfl,(),(),(),e0]) ?post)
  case fin2=>
   rintro c f ⟨rfl,d,o,rfl,r,w,t,l⟩;exact#[rfl,d,o,rfl,r,t,l, .inl ()]
  case step=>
   rintro x c f _ Z ⟨rfl,d,o,rfl,r,w,t,l⟩;dsimp only
   by_cases v:o>=n-a
   .rw[ir v]
    exact FB #[rfl,d,o,rfl,r,t,l, .inl v]
   .rw[mo v]
    have u:a+o<n:=()
    refine Do^mB C (G.at_ _ u) H (G.mem _ u) J ?_;cases e:fi O key left k^g (a+o) with
    |true=>
     dsimp only;rw[mo ∅]
     exact FB #[rfl,_,_,rfl,(),(),u,e]
    |false=>
     dsimp only;rw[ir ∅]
     exact FB #[rfl,d,o,rfl,r,t,l, .inr #[u,e]]
  case post=>
   rintro c f ⟨rfl,d,o,rfl,T,N,F,z⟩;refine fin (a+d+1) (a+min o (n-a)) () () (λi b=>mono _ _ () N F)^λi B y=>?_
   rcases z with z| ⟨z,X⟩
   .lia
   .exact P _ _ () y X
 |false=>
  rw[mo ∅]
  refine Do (SC (SL (I:=λx c f=>f=st/\∃d o,c=(none,d,o)/\d<o/\x<o/\d<=a/\fi O key left k^g (a-d)=false)
   (Q:=λc f=>f=st/\∃d o,c=(none,d,o)/\d<o/\d<=a/\fi O key left k^g (a-d)=false/\(a+1<=o\/(o<=a/\fi O key left k^g (a-o)=true))) ?step ?fin2 #[rfl,0,1,rfl,(),(),(),e0]) ?post)
  case fin2=>
   rintro c f ⟨rfl,d,o,rfl,r,w,t,l⟩;exact#[rfl,d,o,rfl,r,t,l, .inl ()]
  case step=>
   rintro x c f _ Z ⟨rfl,d,o,rfl,r,w,t,l⟩;dsimp only
   by_cases v:o>=a+1
   .rw[ir v]
    exact FB #[rfl,d,o,rfl,r,t,l, .inl v]
   .rw[mo v]
    have u:a-o<n:=()
    refine Do^mB C (G.at_ _ u) H (G.mem _ u) J ?_;cases e:fi O key left k^g (a-o) with
    |true=>
     dsimp only;rw[ir rfl];exact FB #[rfl,d,o,rfl,r,t,l, .inr #[(),e]]
    |false=>
     dsimp only;rw[mo ∅]
     exact FB #[rfl,_,_,rfl,(),(),(),e]
  case post=>
   rintro c f ⟨rfl,d,o,rfl,T,N,F,z⟩;refine fin (a+1-min o (a+1)) (a-d) () () (λi b=>?_)^λi B y=>P _ _ B y F
   rcases z with z| ⟨z,X⟩
   .lia
   .exact mono _ _ () () X
end
section
variable {O:KeyOrd} {key:Keyed->O.α} {S:Keyed->Prop} {k0:SortKind} {M:Model} {A:Around} {E:Value->Shared->Prop} {s:Shared} {st bV:SortSt}
noncomputable def ky(O:KeyOrd)(key:Keyed->O.α)(a:Array Keyed)(i:Nat):O.α:=key (a[i]?.getD (.none, .none))
def jG(h:a[i]? =b[j]?):ky O key a i=ky O key b j:=by unfold ky;rw[h]
def kG(O:KeyOrd)(key:Keyed->O.α)(xs:Array Keyed)(a b:Nat):Prop:=∀i j,a<=i->i<=j->j<b->O.kle (ky O key xs i)^ky O key xs j
def MQ(O:KeyOrd)(key:Keyed->O.α)(c:Array Keyed)(a b:Nat):Prop:=∀i j,a<=i->i<=j->j<b->O.kle (ky O key c j)^ky O key c i
structure iY (bV st:SortSt) (lo hi:Nat):Prop where
 perm:(arrOf st).Perm (arrOf bV)
 kind:kindOf st=kindOf bV
 failed:failedOf st=failedOf bV
 pend:pendingOf st=pendingOf bV
 out:∀i,i<lo\/hi<=i->(arrOf st)[i]? =(arrOf bV)[i]?
theorem iY.refl(st:SortSt)(lo a:Nat):iY st st lo a:=#[.refl _,rfl,rfl,rfl,λ_ _=>rfl]
theorem iY.trans{d e:fB}{lo c:Nat}(a:iY bV d lo c)(b:iY d e lo c):iY bV e lo c:=
 #[b.perm.trans a.perm,b.kind.trans a.kind,b.failed.trans a.failed,b.pend.trans a.pend,λi h=>(b.out i h).trans^a.out i h]
theorem iY.size{lo b:Nat}(a:iY bV st lo b):(arrOf st).size=(arrOf bV).size:=a.perm.size_eq
theorem iY.mirror{lo a i j:Nat}(c:lo<=i)(d:j<=a)(b:j<=(d6 st).size):iY st (lv st^mirror (d6 st) i j ((j-i) / 2)) lo a:=
 #[mirror_perm _ _ _ _,rfl,rfl,rfl,λk h=>by
  show(PyProof.Rows.mirror (d6 st) i j ((j-i) / 2))[k]? =_;rw[getElem?_mirror_all b,mo ()]]
theorem iY.bubble{lo a src d:Nat}(b:d<=src)(e:lo<=src-d)(f:src<a)(c:src<(d6 st).size):iY st (lv st^bubble (d6 st) src d) lo a:=
 #[bubble_perm _ _ _,rfl,rfl,rfl,λk h=>by
  show(PyProof.Rows.bubble (d6 st) src d)[k]? =_;rw[getElem?_bubble c d b,mo (),mo ()]]
def tN{i j:Nat}(c:j<=a.size)(k:Nat):ky O key (mirror a i j ((j-i) / 2)) k=if i<=k/\k<j then ky O key a (i+j-1-k) else ky O key a k:=by
 have e:=getElem?_mirror_all (i:=i) c k
 by_cases b:i<=k/\k<j
 .rw[ir b] at e ⊢;exact jG e
 .rw[mo b] at e ⊢;exact jG e
def ik(c:j<=a.size)(b:∀k,i<=k->k<j->ky O key a k=ky O key a (j-1))(k:Nat):ky O key (mirror a i j ((j-i) / 2)) k=ky O key a k:=by
 rw[tN c]
 split
 .rw[b _ () (),b k () ()]
 .rfl
def AB(f:src<a.size)(g:d<=src)(k:Nat):
  ky O key (bubble a src d) k=if k=src-d then ky O key a src else if src-d<k/\k<=src then ky O key a (k-1) else ky O key a k:=by
 have e:=getElem?_bubble f d g k
 by_cases b:k=src-d
 .rw[ir b] at e ⊢;exact jG e
 .rw[mo b] at e ⊢
  by_cases c:src-d<k/\k<=src
  .rw[ir c] at e ⊢;exact jG e
  .rw[mo c] at e ⊢;exact jG e
structure Ok (S:Keyed->Prop) (k0:SortKind) (st:SortSt):Prop where
 mem:∀p,p∈(arrOf st).toList->S p
 kind:kindOf st=k0
def Ok.step{lo b:Nat}(o:Ok S k0 bV)(a:iY bV st lo b):Ok S k0 st:=
 #[λp c=>o.mem p^(Gw.mp a.perm).mem_iff.mp c,a.kind.trans o.kind]
def Ok.at{i:Nat}(o:Ok S k0 st)(a:i<(d6 st).size):(d6 st)[i]?\((d6 st)[i]?.getD (.none, .none))/\S ((d6 st)[i]?.getD (.none, .none)):=by
 have e:(d6 st)[i]? =some (d6 st)[i]:=adV _ i a;rw[e];exact#[rfl,o.mem _^by simp]
def qJ(C:iW O key S k0 M A E s)(o:Ok S k0 st)(a:i<(d6 st).size)(b:j<(d6 st).size)
  (q:Q (some^O.blt (ky O key (d6 st) i)^ky O key (d6 st) j) st):lu M A E s (ltAt' i j) Q st:=by
 rw[ltAt'_eq];let⟨c,d⟩:=o.at a;let⟨e,f⟩:=o.at b;refine Do^adZ^Do^bp c^Do^bp e^C _ _ _ _ d f o.kind q
theorem wpS_binarySort(C:iW O key S k0 M A E s){lo n ok:Nat}{Q:Bool->fB->Prop}(o:Ok S k0 st)(Z:lo+n<=(d6 st).size)(hok:ok<=n)(H:kG O key (d6 st) lo (lo+ok))
  (h:∀b,iY st b lo (lo+n)->kG O key (d6 b) lo (lo+n)->Q true b):lu M A E s (binarySort' lo n ok) Q st:=by
 rw[binarySort'_eq]
 refine wpS_bind (wpS_mono (wpS_forRange (I:=λk c b=>c=(none,⟨⟩)/\iY st b lo (lo+n)/\kG O key (d6 b) lo (lo+min k n))
  (Q:=λc b=>c=(none,⟨⟩)/\iY st b lo (lo+n)/\kG O key (d6 b) lo (lo+n)) ?step ?fin ?init) ?post)
 case post=>
  rintro c b ⟨rfl,f,e⟩;exact wpS_pure^h b f e
 case init=>
  refine#[rfl, .refl _ _ _,λi j t B J=>?_]
  by_cases p:ok=0
  .have:i=j:=()
   subst this;exact KeyOrd.kle_refl _
  .exact H i j t B ()
 case fin=>
  rintro c b ⟨L,f,e⟩;exists L,f
  rwa [show min (max (max ok 1) n) n=n by lia] at e
 case step=>
  rintro k c b N P ⟨rfl,f,e⟩;rw[show min k n=k by lia] at e
  have R:=o.step f;have e8:=f.size;have q:lo+k<(d6 b).size:=()
  refine wpS_bind (wpS_mono (wpS_forRange (I:=λx c d=>d=b/\∃l r,c=(none,l,r)/\l<=r/\r<=k/\r-l<=k-x/\
    (∀i,i<l->O.kle (ky O key (d6 b) (lo+i))^ky O key (d6 b) (lo+k))/\(∀i,r<=i->i<k->O.klt (ky O key (d6 b) (lo+k))^ky O key (d6 b) (lo+i)))
   (Q:=λc d=>d=b/\∃l r,c=(none,l,r)/\l<=k/\
    (∀i,i<l->O.kle (ky O key (d6 b) (lo+i))^ky O key (d6 b) (lo+k))/\(∀i,l<=i->i<k->O.klt (ky O key (d6 b) (lo+k))^ky O key (d6 b) (lo+i))) ?istep ?ifin ?iinit) ?ipost)
  case iinit=>exact#[rfl,0,k,rfl,(),(),(),λi t=>by lia,λi p u=>by lia]
  case ifin=>
   rintro c d ⟨rfl,l,r,rfl,v,w,T,g,m⟩
   have:l=r:=()
   subst this;exact#[rfl,l,l,rfl,w,g,m]
  case istep=>
   rintro x c d _ X ⟨rfl,l,r,rfl,v,w,T,g,m⟩;dsimp only
   by_cases F:l>=r
   .rw[if_pos F]
    have:l=r:=()
    subst this;exact wpS_pure #[rfl,l,l,rfl,w,g,m]
   .rw[if_neg F]
    refine wpS_bind^qJ C R q () ?_
    cases G:O.blt (ky O key (d6 d) (lo+k))^ky O key (d6 d) (lo+(l+r) / 2)
    case true=>
     simp only[if_true];refine wpS_pure #[rfl,l,(l+r) / 2,rfl,(),(),(),g,λi p u=>?_]
     exact KeyOrd.klt_of_klt_of_kle G^e _ _ () () ()
    case false=>
     simp only[fL,if_false];refine wpS_pure #[rfl,(l+r) / 2+1,r,rfl,(),(),(),λi p=>?_,m]
     exact KeyOrd.kle_trans (e (lo+i) (lo+(l+r) / 2) () () ()) (show O.kle _ _ from G)
  case ipost=>
   rintro c d ⟨rfl,l,r,rfl,Y,g,m⟩;show lu _ _ _ _ (do moveDown' (lo+k) (lo+l);pure^ForInStep.yield (none,Unit.unit)) _ _
   rw[moveDown'_eq];have ed:lo+k-(lo+l)=k-l:=()
   refine wpS_bind^wpS_modify^wpS_pure #[rfl,f.trans^iY.bubble () () () q,?_]
   rw[show min (k+1) n=k+1 by lia]
   intro i j t B J;show O.kle (ky O key (bubble (d6 d) (lo+k) (lo+k-(lo+l))) i)^ky O key (bubble (d6 d) (lo+k) (lo+k-(lo+l))) j;rw[AB q (),AB q (),show lo+k-(lo+k-(lo+l))=lo+l by lia]
   have y:∀a,lo<=a->a<lo+l->O.kle (ky O key (d6 d) a)^ky O key (d6 d) (lo+k):=λa p u=>by
    have:=g (a-lo) ();rwa [show lo+(a-lo)=a by lia] at this
   have z:∀a,lo+l<=a->a<lo+k->O.klt (ky O key (d6 d) (lo+k))^ky O key (d6 d) a:=λa p u=>by
    have:=m (a-lo) () ();rwa [show lo+(a-lo)=a by lia] at this
   repeat' split
   all_goals first
    | (exfalso;lia)
    |exact KeyOrd.kle_refl _
    |exact y _ () ()
    |exact KeyOrd.kle_of_klt^z _ () ()
    |exact e _ _ () () ()
end
noncomputable def GP(lo a d:Nat):StateT fB j_ AscSt:=
 forIn [a:d] ((none,a):AscSt) λ_ b=>do
  let c <-ltAt' (lo+b.snd) (lo+b.snd-1)
  match c with
  |some e=>if e=true then pure^ForInStep.done (none,b.snd) else pure^ForInStep.yield (none,b.snd+1)
  |_=>pure^ForInStep.done (some none,b.snd)
noncomputable def tailL(lo n b:Nat):StateT fB j_^Option Nat:=do
 jN lo (lo+n)
 let a <-GP lo n b
 match a.fst with
 |some r=>pure r
 |none=>pure^some a.snd
noncomputable def EX(lo n c:Nat):StateT fB j_ DescSt:=
 forIn [n:c] ((none,n,0):DescSt) λ_ a=>do
  let b <-ltAt' (lo+a.snd.fst) (lo+a.snd.fst-1)
  match b with
  |some d=>
   if d=true then
    if a.snd.snd>0 then do
     jN (lo+a.snd.fst-(a.snd.snd+1)) (lo+a.snd.fst)
     pure (ForInStep.yield (none,a.snd.fst+1,0))
    else pure (ForInStep.yield (none,a.snd.fst+1,0))
   else do
    let b <-ltAt' (lo+a.snd.fst-1) (lo+a.snd.fst)
    match b with
    |some e=>
     if e=true then pure (ForInStep.done (none,a.snd.fst,a.snd.snd))
     else pure^ForInStep.yield (none,a.snd.fst+1,a.snd.snd+1)
    |_=>pure^ForInStep.done (some none,a.snd.fst,a.snd.snd)
  |_=>pure^ForInStep.done (some none,a.snd.fst,a.snd.snd)
noncomputable def descP(lo n b:Nat):StateT fB j_^Option Nat:=do
 liftM^rule "list.sort.descending-run"
 let a <-EX lo (n+1) b
 match a.fst with
 |some r=>pure r
 |none=>
  if a.snd.snd>0 then do
   jN (lo+a.snd.fst-(a.snd.snd+1)) (lo+a.snd.fst)
   tailL lo a.snd.fst b
  else tailL lo a.snd.fst b
theorem Ck(lo c:Nat):countRun' lo c=(do
  let a <-GP lo 1 c
  match a.fst with
  |some r=>pure r
  |none=>
   if (a.snd==c)=true then pure (some a.snd)
   else if a.snd>1 then do
    let e <-ltAt' lo (lo+a.snd-1)
    match e with
    |some g=>if g=true then pure^some a.snd else do
      jN lo (lo+a.snd)
      descP lo a.snd c
    |_=>pure none
   else descP lo a.snd c):=by
 rw[countRun'_eq];dsimp only;unfold descP tailL EX GP
 congr 1
 funext a
 obtain⟨r,n⟩:=a;cases r with
 |some r=>rfl
 |none=>
  dsimp only
  split
  .rfl
  .split
   .congr 1
    funext x
    cases x with
    |none=>rfl
    |some g=>
     dsimp only
     split
     .rfl
     .congr 1
      funext _r
      (congr 1;funext _u;congr 1;congr 1;funext s2;obtain⟨d,h,i⟩:=s2;cases d with
 |some d=>rfl
 |none=>(dsimp only;split;(congr 1;funext _v;(congr 1;funext _w;congr 1;(funext s3;obtain⟨b,f⟩:=s3;cases b<;>rfl)));(congr 1;funext _w;congr 1;(funext s3;obtain⟨b,f⟩:=s3;cases b<;>rfl))))
   ·(congr 1;funext _u;congr 1;congr 1;funext s2;obtain⟨d,h,i⟩:=s2;cases d with
 |some d=>rfl
 |none=>(dsimp only;split;(congr 1;funext _v;(congr 1;funext _w;congr 1;(funext s3;obtain⟨b,f⟩:=s3;cases b<;>rfl)));(congr 1;funext _w;congr 1;(funext s3;obtain⟨b,f⟩:=s3;cases b<;>rfl))))
section
variable {O:KeyOrd} {key:Keyed->O.α} {S:Keyed->Prop} {k0:SortKind} {prog:Program} {w:World} {A:Around} {E:Value->Shared->Prop} {s:Shared} {st bV:SortSt}
def Ey(C:iW O key S k0 (d5 prog w) A E s){lo a b:Nat}{Q:AscSt->fB->Prop}(o:Ok S k0 st)(v:lo+b<=(d6 st).size)(y:1<=a)(f:a<=b)(m:kG O key (d6 st) lo (lo+a))
  (h:∀n,a<=n->n<=b->kG O key (d6 st) lo (lo+n)->(n=b\/O.klt (ky O key (d6 st) (lo+n))^ky O key (d6 st) (lo+n-1))->Q (none,n) st):
  lu (d5 prog w) A E s (GP lo a b) Q st:=by
 unfold GP;refine SL (I:=λx c e=>e=st/\c=(none,x)/\kG O key (d6 st) lo (lo+x)) ?step ?fin #[rfl,rfl,m]
 case fin=>
  rintro c e ⟨rfl,rfl,d⟩;rw[show max a b=b by lia] at d ⊢
  exact h b f (aZ _) d^.inl rfl
 case step=>
  rintro x c e g p ⟨rfl,rfl,d⟩;dsimp only;refine Do^qJ C o () () ?_
  cases k:O.blt (ky O key (d6 e) (lo+x))^ky O key (d6 e) (lo+x-1)
  case true=>
   simp only[adD];exact FB^h x g () d^.inr k
  case false=>
   simp only[fL,Pi];refine FB #[rfl,rfl,λi j l q z=>?_]
   by_cases r:j<lo+x
   .exact d i j l q r
   .have t:j=lo+x:=()
    subst t
    by_cases u:i=lo+x
    .subst u;exact adp _
    .exact M2 (d i (lo+x-1) l () ()) k
def wC(h:Q ⟨⟩^lv st^mirror (d6 st) i j ((j-i) / 2)):lu (d5 prog w) A E s (jN i j) Q st:=by
 rw[reverseSlice'_eq];exact aea h
def BL(C:iW O key S k0 (d5 prog w) A E s){lo n a:Nat}{Q:Option Nat->fB->Prop}(o:Ok S k0 st)(f:lo+a<=(d6 st).size)(g:1<=n)(k:n<=a)(l:MQ O key (d6 st) lo (lo+n))
  (h:∀m b,iY st b lo (lo+a)->1<=m->m<=a->kG O key (d6 b) lo (lo+m)->Q (some m) b):lu (d5 prog w) A E s (tailL lo n a) Q st:=by
 unfold tailL;have c:lo+n<=(d6 st).size:=()
 refine Do^wC ?_;have d:iY st (lv st^mirror (d6 st) lo (lo+n) ((lo+n-lo) / 2)) lo (lo+a):=iY.mirror (aZ _) () c
 refine Do (Ey C (o.step d) (by rw[d.size];exact f) g k ?_ λm p q e _=>FB^h m _ d () q e)
 intro i j r t u;show O.kle (ky O key (mirror (d6 st) lo (lo+n) ((lo+n-lo) / 2)) i)^ky O key (mirror (d6 st) lo (lo+n) ((lo+n-lo) / 2)) j;rw[tN c,tN c,ir (),ir ()]
 exact l _ _ () () ()
def Lp(C:iW O key S r (d5 prog w) A E s){lo n d:Nat}{Q:DescSt->fB->Prop}(o:Ok S r st)(hn:lo+d<=(d6 st).size)(p:1<=n)(R:n<=d)(T:MQ O key (d6 st) lo (lo+n))
  (h:∀m b a,iY st a lo (lo+d)->n<=m->m<=d->MQ O key (d6 a) lo (lo+m)->b+1<=m->(∀i,lo+m-(b+1)<=i->i<lo+m->ky O key (d6 a) i=ky O key (d6 a) (lo+m-1))->Q (none,m,b) a):
  lu (d5 prog w) A E s (EX lo n d) Q st:=by
 unfold EX
 refine SL (I:=λx c a=>∃b,c=(none,x,b)/\iY st a lo (lo+d)/\MQ O key (d6 a) lo (lo+x)/\b+1<=x/\
   (∀i,lo+x-(b+1)<=i->i<lo+x->ky O key (d6 a) i=ky O key (d6 a) (lo+x-1))) ?step ?fin #[0,rfl, .refl _ _ _,T,(),λi p t=>by congr 1;lia]
 case fin=>
  rintro c a ⟨b,rfl,e,f,q,g⟩;rw[show max n d=d by lia] at f q g ⊢
  exact h d b a e R (aZ _) f q g
 case step=>
  intro x c a X Y u;refine ae λG0 r=>?_;let⟨b,rfl,e,f,q,g⟩:=u;refine r ?_;dsimp only;have G:=o.step e;have hz:=e.size;have H:lo+x<=(d6 a).size:=()
  refine Do^qJ C G () () ?_
  cases J:O.blt (ky O key (d6 a) (lo+x))^ky O key (d6 a) (lo+x-1)
  case true=>
   simp only[adD]
   have L:∀v:Array Keyed,(∀k,ky O key v k=ky O key (d6 a) k)->MQ O key v lo (lo+(x+1)):=by
    intro v M i j l y Z;rw[M,M]
    by_cases z:j<lo+x
    .exact f i j l y z
    .have B:j=lo+x:=()
     subst B
     by_cases F:i=lo+x
     .subst F;exact adp _
     .exact M2 (SB J)^f i (lo+x-1) l () ()
   by_cases N:b>0
   .rw[ir N]
    refine Do^wC^FB #[0,rfl,e.trans^iY.mirror () () H,L _^ik H g,(),λi p t=>by congr 1;lia]
   .rw[mo N]
    exact FB #[0,rfl,e,L _^λ_=>rfl,(),λi p t=>by congr 1;lia]
  case false=>
   simp only[fL,Pi];refine Do^qJ C G () () ?_
   cases QP:O.blt (ky O key (d6 a) (lo+x-1))^ky O key (d6 a) (lo+x)
   case true=>
    simp only[adD];exact FB^h x b a e () () f q g
   case false=>
    simp only[fL,Pi];have P:ky O key (d6 a) (lo+x)=ky O key (d6 a) (lo+x-1):=O.total _ _ J QP;refine FB #[b+1,rfl,e,λi j l y Z=>?_,(),λi p t=>?_]
    .by_cases z:j<lo+x
     .exact f i j l y z
     .have B:j=lo+x:=()
      subst B
      by_cases F:i=lo+x
      .subst F;exact adp _
      .rw[P];exact f i (lo+x-1) l () ()
    .rw[show lo+(x+1)-1=lo+x by lia]
     by_cases UK:i=lo+x
     .subst UK;rfl
     .rw[P];exact g i () ()
def BE(C:iW O key S k0 (d5 prog w) A E s){lo n b:Nat}{Q:Option Nat->fB->Prop}(o:Ok S k0 st)(u:lo+b<=(d6 st).size)(v:n+1<=b)(x:MQ O key (d6 st) lo (lo+(n+1)))
  (h:∀m a,iY st a lo (lo+b)->1<=m->m<=b->kG O key (d6 a) lo (lo+m)->Q (some m) a):lu (d5 prog w) A E s (descP lo n b) Q st:=by
 unfold descP;refine Do^aep^adI #[rfl,?_];refine Do (Lp C o u () v x λm d a c y p q G r=>?_)
 dsimp only;have H:=c.size;have e:lo+m<=(d6 a).size:=()
 by_cases t:d>0
 .rw[ir t]
  have f:iY a (lv a^mirror (d6 a) (lo+m-(d+1)) (lo+m) ((lo+m-(lo+m-(d+1))) / 2)) lo (lo+b):=iY.mirror () () e
  refine Do^wC (BL C (o.step^c.trans f) (by rw[f.size];lia) () p ?_ λg k l=>h g k^(c.trans f).trans l)
  intro i j z B F;show O.kle (ky O key (mirror (d6 a) _ _ _) j)^ky O key (mirror (d6 a) _ _ _) i;rw[ik e r,ik e r];exact q i j z B F
 .rw[mo t]
  exact BL C (o.step c) () () p q λg k l=>h g k^c.trans l
def wpS_countRun(C:iW O key S k0 (d5 prog w) A E s){lo a:Nat}{Q:Option Nat->fB->Prop}(o:Ok S k0 st)(y:lo+a<=(d6 st).size)(J:1<=a)
  (h:∀m f,iY st f lo (lo+a)->1<=m->m<=a->kG O key (d6 f) lo (lo+m)->Q (some m) f):lu (d5 prog w) A E s (countRun' lo a) Q st:=by
 rw[Ck];refine Do (Ey C o y (aZ 1) J (λi j d z B=>by have:i=j:=();subst this;exact adp _) λn F G e g=>?_)
 dsimp only
 by_cases l:n=a
 .rw[ir^~~~l]
  exact FB^h n st (.refl _ _ _) F G e
 .rw[mo^~~~l]
  have H:O.klt (ky O key (d6 st) (lo+n))^ky O key (d6 st) (lo+n-1):=g.resolve_left l
  by_cases b:n>1
  .rw[ir b]
   refine Do^qJ C o () () ?_
   cases L:O.blt (ky O key (d6 st) lo)^ky O key (d6 st) (lo+n-1)
   case true=>
    simp only[adD];exact FB^h n st (.refl _ _ _) F G e
   case false=>
    simp only[fL,Pi];have p:lo+n<=(d6 st).size:=()
    have c:∀k,lo<=k->k<lo+n->ky O key (d6 st) k=ky O key (d6 st) (lo+n-1):=by
     intro k I M;have N:=e lo k () I M
     have P:=e k (lo+n-1) I () ()
     exact KeyOrd.kle_antisymm P^M2 L N
    have q:iY st (lv st^mirror (d6 st) lo (lo+n) ((lo+n-lo) / 2)) lo (lo+a):=iY.mirror (aZ _) () p
    refine Do^wC (BE C (o.step q) (by rw[q.size];lia) () ?_ λR T X=>h R T^q.trans X)
    intro i j d z B;show O.kle (ky O key (mirror (d6 st) _ _ _) j)^ky O key (mirror (d6 st) _ _ _) i;rw[ik p c,ik p c]
    by_cases r:j<lo+n
    .rw[c i d (),c j () r];exact adp _
    .have Y:j=lo+n:=()
     subst Y
     by_cases t:i=lo+n
     .subst t;exact adp _
     .rw[c i d ()];exact SB H
  .rw[mo b]
   have u:n=1:=()
   subst u;refine BE C o y () ?_ h
   intro i j d z B
   by_cases t:i=j
   .subst t;exact adp _
   .have v:i=lo:=()
    have x:j=lo+1:=()
    subst v;subst x;exact SB H
end
section lists
variable (O:KeyOrd) (key:Keyed->O.α)
def LE(x y:Keyed):Prop:=O.kle (key x)^key y
structure MI (l o ra rb:List Keyed):Prop where
 perm:(o++(ra++rb)).Perm l
 so:o.Pairwise (LE O key)
 sa:ra.Pairwise (LE O key)
 sb:rb.Pairwise (LE O key)
 le:∀x∈o,∀y∈ra++rb,LE O key x y
def Res(l r:List Keyed):Prop:=r.Perm l/\r.Pairwise^LE O key
variable {O key}
def MI.n9{l o xs e b:List Keyed}(m:MI O key l o (xs++e) b)(h:∀x∈xs,∀y∈b,LE O key x y):MI O key l (o++xs) e b:=by
 let⟨f,g,c⟩:=wH.mp m.sa;refine#[by simpa [kB] using m.perm,wH.mpr #[m.so,f,λx d y a=>m.le x d y^by simp[a]],g,m.sb,λx d y a=>?_]
 rcases bF.mp d with z|z
 .refine m.le x z y ?_
  rcases bF.mp a with u|u<;>simp[u]
 .rcases bF.mp a with u|u
  .exact c x z y u
  .exact h x z y u
def MI.swap(m:MI O key l o a b):MI O key l o b a:=
 #[(List.Perm.append_left o wI).trans m.perm,m.so,m.sb,m.sa,λx c y d=>m.le x c y^by rcases bF.mp d with u|u<;>simp[u]]
def MI.og{l o xs a b:List Keyed}(m:MI O key l o a (xs++b))(h:∀x∈xs,∀y∈a,LE O key x y):MI O key l (o++xs) a b:=(m.swap.n9 h).swap
def MI.Hm(m:MI O key l o a []):Res O key l (o++a):=
 #[by simpa using m.perm,wH.mpr #[m.so,m.sa,λx b y c=>m.le x b y^by simp[c]]]
def MI.Fs(m:MI O key l o a b)(h:∀y∈b,∀x∈a,LE O key y x):Res O key l (o++b++a):=by
 have c:MI O key l o a (b++ []):=by rw[fe];exact m
 exact(c.og h).Hm
end lists
noncomputable def Fw(a b:Array Keyed)(h e f d:Nat)(out:Array Keyed)(g:Nat):StateT fB j_^ForInStep (Option^Array Keyed×Array Keyed×Nat×Nat×Nat×Nat×Nat):=do
 let c <-gv a d
 let out:Array Keyed:=out.push c
 let d:Nat:=d+1
 if (d+1==a.size)=true then pure (ForInStep.done (some (out++b.extract g b.size++a.extract d a.size),out,d,g,h,e,f))
 else if (decide (e<7)&&decide (f<7))=true then pure (ForInStep.done (none,out,d,g,h,e,f))
 else pure^ForInStep.yield (none,out,d,g,h,e,f)
noncomputable def xF(a b:Array Keyed)(f g i d:Nat)(out:Array Keyed)(e:Nat):StateT fB j_^ForInStep (Option^Array Keyed×Array Keyed×Nat×Nat×Nat×Nat×Nat):=do
 let c <-gv b d
 let out:Array Keyed:=out.push c
 let d:Nat:=d+1
 if (d==b.size)=true then pure (ForInStep.done (some (out++a.extract e a.size++b.extract d b.size),out,e,d,f,g,i))
 else do
  let c <-gv a e
  let h <-fX true c b d (b.size-d) 0
  match h with
  |some k=>
   if k>0 then
    if (d+k==b.size)=true then pure (ForInStep.done (some (out++b.extract d (d+k)++a.extract e a.size++b.extract (d+k) b.size),out++b.extract d (d+k),e,d+k,f,g,k))
    else Fw a b f g k e (out++b.extract d (d+k)) (d+k)
   else Fw a b f g k e out d
  |_=>pure^ForInStep.done (some (out++a.extract e a.size++b.extract d b.size),out,e,d,f,g,i)
noncomputable def tP(a b:Array Keyed)(g i c e:Nat)(out:Array Keyed)(f:Nat):StateT fB j_^ForInStep (Option^Array Keyed×Array Keyed×Nat×Nat×Nat×Nat×Nat):=do
 setMinGallop' f
 let d <-gv b e
 let h <-fX false d a c (a.size-c) 0
 match h with
 |some k=>
  if k>0 then
   if (c+k+1==a.size)=true then pure (ForInStep.done (some (out++a.extract c (c+k)++b.extract e b.size++a.extract (c+k) a.size),out++a.extract c (c+k),c+k,e,f,k,g))
   else if (c+k==a.size)=true then pure (ForInStep.done (some (out++a.extract c (c+k)++a.extract (c+k) a.size++b.extract e b.size),out++a.extract c (c+k),c+k,e,f,k,g))
   else xF a b f k g e (out++a.extract c (c+k)) (c+k)
  else xF a b f k g e out c
 |_=>pure^ForInStep.done (some (out++a.extract c a.size++b.extract e b.size),out,c,e,f,i,g)
noncomputable def Fy(a b:Array Keyed)(c:Option^Array Keyed×Array Keyed×Nat×Nat×Nat×Nat×Nat):StateT fB j_^ForInStep (Option^Array Keyed×Array Keyed×Nat×Nat×Nat×Nat×Nat):=
 if c.2.2.2.2.1>1 then tP a b c.2.2.2.2.2.2 c.2.2.2.2.2.1 c.2.2.1 c.2.2.2.1 c.2.1 (c.2.2.2.2.1-1) else tP a b c.2.2.2.2.2.2 c.2.2.2.2.2.1 c.2.2.1 c.2.2.2.1 c.2.1 c.2.2.2.2.1
noncomputable def Fx(a b:Array Keyed)(e:Nat)(c:Option^Array Keyed×Array Keyed×Nat×Nat×Nat×Nat):StateT fB j_^ForInStep (Option^Array Keyed×Array Keyed×Nat×Nat×Nat×Nat):=do
 let y <-gv b c.2.2.2.1
 let x <-gv a c.2.2.1
 let d <-lt' y x
 match d with
 |some f=>
  if f=true then do
   let y <-gv b c.2.2.2.1
   if (c.2.2.2.1+1==b.size)=true then pure (ForInStep.done (some (c.2.1.push y++a.extract c.2.2.1 a.size++b.extract (c.2.2.2.1+1) b.size),c.2.1.push y,c.2.2.1,c.2.2.2.1+1,0,c.2.2.2.2.2+1))
   else if c.2.2.2.2.2+1>=e then pure (ForInStep.done (none,c.2.1.push y,c.2.2.1,c.2.2.2.1+1,0,c.2.2.2.2.2+1))
   else pure (ForInStep.yield (none,c.2.1.push y,c.2.2.1,c.2.2.2.1+1,0,c.2.2.2.2.2+1))
  else do
   let x <-gv a c.2.2.1
   if (c.2.2.1+1+1==a.size)=true then pure (ForInStep.done (some (c.2.1.push x++b.extract c.2.2.2.1 b.size++a.extract (c.2.2.1+1) a.size),c.2.1.push x,c.2.2.1+1,c.2.2.2.1,c.2.2.2.2.1+1,0))
   else if c.2.2.2.2.1+1>=e then pure (ForInStep.done (none,c.2.1.push x,c.2.2.1+1,c.2.2.2.1,c.2.2.2.2.1+1,0))
   else pure^ForInStep.yield (none,c.2.1.push x,c.2.2.1+1,c.2.2.2.1,c.2.2.2.2.1+1,0)
 |_=>pure^ForInStep.done (some (c.2.1++a.extract c.2.2.1 a.size++b.extract c.2.2.2.1 b.size),c.2.1,c.2.2.1,c.2.2.2.1,c.2.2.2.2.1,c.2.2.2.2.2)
noncomputable def vD(a b:Array Keyed)(f:Option^Array Keyed×Array Keyed×Nat×Nat×Nat):StateT fB j_^ForInStep (Option^Array Keyed×Array Keyed×Nat×Nat×Nat):=do
 let e <-forIn [0:a.size+b.size] (none,f.2.1,f.2.2.1,f.2.2.2.1,0,0) λ_ c=>Fx a b f.2.2.2.2 c
 match e.1 with
 |some r=>pure^ForInStep.done (some r,e.2.1,e.2.2.1,e.2.2.2.1,f.2.2.2.2)
 |none=>do
  liftM^rule "list.sort.gallop"
  let d <-forIn [0:a.size+b.size] (none,e.2.1,e.2.2.1,e.2.2.2.1,f.2.2.2.2+1,e.2.2.2.2.1,e.2.2.2.2.2) λ_ c=>Fy a b c
  match d.1 with
  |some r=>pure^ForInStep.done (some r,d.2.1,d.2.2.1,d.2.2.2.1,d.2.2.2.2.1)
  |none=>do
   setMinGallop' (d.2.2.2.2.1+1)
   pure^ForInStep.yield (none,d.2.1,d.2.2.1,d.2.2.2.1,d.2.2.2.2.1+1)
def dW{b d:Type}{m c:StateT SortSt Sem b}{f a:b->StateT SortSt Sem d}(h:m=c)(g:∀x,f x=a x):m>>=f=c>>=a:=by rw[h,show f=a from funext g]
def E3{a:Type}{n:Nat}{d:a}{f b:Nat->a->StateT fB j_^ForInStep a}(h:∀i c,f i c=b i c):forIn [0:n] d f=forIn [0:n] d b:=by rw[show f=b from funext λi=>funext (h i)]
def gm [Decidable c] (h:c->x=a) (g:¬c->y=b):(if c then x else y)=if c then a else b:=by
 by_cases e:c
 .rw[ir e,ir e];exact h e
 .rw[mo e,mo e];exact g e
def CH(a b:Array Keyed):rA a b=(do
 rule "list.sort.merge-lo"
 let total:=a.size+b.size
 let done (out:Array Keyed) (c d:Nat):=out++a.extract c a.size++b.extract d b.size
 let e (out:Array Keyed) (c d:Nat):=out++b.extract d b.size++a.extract c a.size
 let mut out:Array Keyed:= [<-elem' b 0].toArray
 let mut c:=0
 let mut d:=1
 if d==b.size then return done out c d
 if c+1==a.size then return e out c d
 let mut minGallop:=gallopOf (<-get)
 for _ in [0:total] do
  let mut acount:=0
  let mut bcount:=0
  for _ in [0:total] do
   let some Jk <-lt' (<-elem' b d) (<-elem' a c) |return done out c d
   if Jk then
    out:=out.push (<-elem' b d);d:=d+1;bcount:=bcount+1;acount:=0
    if d==b.size then return done out c d
    if bcount>=minGallop then break
   else
    out:=out.push (<-elem' a c);c:=c+1;acount:=acount+1;bcount:=0
    if c+1==a.size then return e out c d
    if acount>=minGallop then break
  rule "list.sort.gallop"
  minGallop:=minGallop+1
  for _ in [0:total] do
   if minGallop>1 then minGallop:=minGallop-1
   setMinGallop' minGallop
   let some k <-fX false (<-elem' b d) a c (a.size-c) 0|return done out c d
   acount:=k
   if k>0 then
    out:=out++a.extract c (c+k);c:=c+k
    if c+1==a.size then return e out c d
    if c==a.size then return done out c d
   out:=out.push (<-elem' b d);d:=d+1
   if d==b.size then return done out c d
   let some k <-fX true (<-elem' a c) b d (b.size-d) 0|return done out c d
   bcount:=k
   if k>0 then
    out:=out++b.extract d (d+k);d:=d+k
    if d==b.size then return done out c d
   out:=out.push (<-elem' a c);c:=c+1
   if c+1==a.size then return e out c d
   if acount<7&&bcount<7 then break
  minGallop:=minGallop+1
  setMinGallop' minGallop
 unsupported "internal:list.sort.merge-bound"):=rfl
theorem FD(a b:Array Keyed):rA a b=(do
 liftM^rule "list.sort.merge-lo"
 let y <-gv b 0
 if (1==b.size)=true then pure ([y].toArray++a.extract 0 a.size++b.extract 1 b.size)
 else if (0+1==a.size)=true then pure ([y].toArray++b.extract 1 b.size++a.extract 0 a.size)
 else do
  let d <-get
  let e <-forIn [0:a.size+b.size] (none, [y].toArray,0,1,gallopOf d) λ_ c=>vD a b c
  match e.1 with
  |some r=>pure r
  |none=>liftM^jd (α:=Array Keyed) "internal:list.sort.merge-bound"):=by
 rw[CH];dsimp only;refine dW rfl λ_=>dW rfl λy=>?_;refine IR (ite _ _)^IR (ite _ _) ?_;refine dW rfl λg=>dW (E3 λ_ c=>?_) λu=>?_
 .unfold vD
  refine dW (E3 λ_ t=>?_) λt=>?_
  .unfold Fx
   refine dW rfl λ_=>dW rfl λ_=>dW rfl λz=>?_;cases z<;>rfl
  .obtain⟨i,l⟩:=t
   cases i with
   |some r=>rfl
   |none=>
    dsimp only;refine dW rfl λ_=>dW (E3 λ_ u=>?_) λu=>?_
    .unfold Fy
     have m:∀h,tP a b u.2.2.2.2.2.2 u.2.2.2.2.2.1 u.2.2.1 u.2.2.2.1 u.2.1 h=tP a b u.2.2.2.2.2.2 u.2.2.2.2.2.1 u.2.2.1 u.2.2.2.1 u.2.1 h:=λ_=>rfl;refine gm (λ_=>?_)^λ_=>?_
     all_goals
      unfold tP;refine dW rfl λ_=>dW rfl λ_=>dW rfl λz=>?_;cases z with
      |none=>rfl
      |some k=>
       dsimp only;refine gm (λ_=>?_)^λ_=>?_
       .refine gm (λ_=>rfl)^λ_=>gm (λ_=>rfl)^λ_=>?_
        unfold xF;refine dW rfl λ_=>gm (λ_=>rfl)^λ_=>dW rfl λ_=>dW rfl λz=>?_;cases z with
        |none=>rfl
        |some k=>rfl
       .unfold xF
        refine dW rfl λ_=>gm (λ_=>rfl)^λ_=>dW rfl λ_=>dW rfl λz=>?_;cases z with
        |none=>rfl
        |some k=>rfl
    .obtain⟨f,j⟩:=u
     cases f<;>rfl
 .obtain⟨f,j⟩:=u
  cases f<;>rfl
structure GS (st au:SortSt):Prop where
 arr:arrOf au=arrOf st
 kind:kindOf au=kindOf st
 failed:failedOf au=failedOf st
 pend:pendingOf au=pendingOf st
def GS.refl(st:SortSt):GS st st:=#[rfl,rfl,rfl,rfl]
theorem GS.trans(x:GS a b)(y:GS b c):GS a c:=#[y.arr.trans x.arr,y.kind.trans x.kind,y.failed.trans x.failed,y.pend.trans x.pend]
def we(g:Nat):setMinGallop' g=modify λs=>SortSt.mk' (kindOf s) (d6 s) (d7 s) g^hB s:=rfl
def ext_toList(a:Array Keyed)(i j:Nat):(a.extract i j).toList=(a.toList.drop i).take (j-i):=by
 rw[Array.toList_extract]
def m7(a:Array Keyed)(i:Nat):(a.extract i a.size).toList=a.toList.drop i:=by
 rw[ext_toList,sW^by simp]
def drop_cons{xs:Array Keyed}(h:xs[i]?\x):xs.toList.drop i=x::xs.toList.drop (i+1):=by
 have a:xs.toList[i]?\x:=by rw[<-h];simp
 obtain⟨b,e⟩:=cD.mp a;rw[qN b,e]
def pQ(l:List Keyed)(i k:Nat):l.drop i=(l.drop i).take k++l.drop (i+k):=by
 rw[<-List.drop_drop,gL]
def fF{l:List Keyed}{i k:Nat}{x:Keyed}(h:x∈(l.drop i).take k):∃j,j<k/\i+j<l.length/\l[i+j]?\x:=by
 obtain⟨j,a⟩:=jw h;rw[BQ] at a
 split at a
 .rename_i c
  rw[yY] at a;exact#[j,c,(cD.mp a).1,a]
 .cases a
def iI{l:List Keyed}{i:Nat}{x:Keyed}(h:x∈l.drop i):∃j,i+j<l.length/\l[i+j]?\x:=by
 obtain⟨j,a⟩:=jw h;rw[yY] at a;exact#[j,(cD.mp a).1,a]
section
variable {O:KeyOrd} {key:Keyed->O.α} {S:Keyed->Prop} {k0:SortKind} {M:Model} {A:Around} {E:Value->Shared->Prop} {s:Shared} {st bV:SortSt}
def rZ(h:∀a,GS st a->Q ⟨⟩ a):lu M A E s (setMinGallop' g) Q st:=by
 rw[we];exact aea^h _ #[rfl,rfl,rfl,rfl]
structure k8 (O:KeyOrd) (key:Keyed->O.α) (S:Keyed->Prop) (a b:Array Keyed):Prop where
 ma:∀x∈a.toList,S x
 mb:∀x∈b.toList,S x
 sa:a.toList.Pairwise (LE O key)
 sb:b.toList.Pairwise (LE O key)
 na:1<=a.size
 nb:1<=b.size
 first:∀y,b[0]?\y->∀x∈a.toList,LE O key y x
 last:∀x,a[a.size-1]?\x->∀y∈b.toList,LE O key y x
def k8.Fs(T:k8 O key S a b)(h:c+1=a.size):∀y∈b.toList.drop d,∀x∈a.toList.drop c,LE O key y x:=λy f x g=>by
 let⟨j,i,e⟩:=iI g;rw[dj] at i
 have:c+j=a.size-1:=()
 rw[this] at e;exact T.last x (by rw[<-e];simp) y^List.mem_of_mem_drop f
def gY{l:List Keyed}(h:l.Pairwise^LE O key){i j:Nat}{x y:Keyed}(k:i<=j)(b:l[i]?\x)(a:l[j]?\y):LE O key x y:=by
 by_cases e:i=j
 .subst e
  rw[b] at a;cases a;exact adp _
 .obtain⟨c,d⟩:=cD.mp b
  let⟨f,g⟩:=cD.mp a;rw[<-d,<-g];exact BY.mp h i j c f ()
def rX{xs:Array Keyed}(m:∀x∈xs.toList,S x){i n:Nat}(h:i+n<=xs.size):Seg S xs i n (λj=>xs[i+j]?.getD (.none, .none)):=
 #[λj a=>by
  have:i+j<xs.size:=()
  rw[adV xs (i+j) this];rfl,λj a=>by
  have:i+j<xs.size:=()
  rw[adV xs (i+j) this];exact m _^by simp]
def bI{xs:Array Keyed}{i:Nat}(h:i<xs.size):∃x,xs[i]?\x/\x∈xs.toList/\xs.toList[i]?\x:=by
 refine#[xs[i],adV xs i h,by simp,?_]
 rw[gr];exact adV xs i h
def ni{a:Array Keyed}{i:Nat}{x:Keyed}(h:a[i]?\x):a.toList[i]?\x:=by rw[gr];exact h
def l0{a:Array Keyed}{i:Nat}{x:Keyed}(h:a.toList[i]?\x):a[i]?\x:=by rw[<-gr];exact h
structure IV (O:KeyOrd) (key:Keyed->O.α) (a b out:Array Keyed) (ia ib:Nat):Prop where
 mi:MI O key (a.toList++b.toList) out.toList (a.toList.drop ia) (b.toList.drop ib)
 ha:ia<a.size
 hb:ib<b.size
def IV.xT{a b out:Array Keyed}(v:MI O key (a.toList++b.toList) out.toList (a.toList.drop c)^b.toList.drop d)(e:b[d]?\y)(h:∀x∈a.toList.drop c,LE O key y x):
  MI O key (a.toList++b.toList) (out.push y).toList (a.toList.drop c)^b.toList.drop (d+1):=by
 rw[drop_cons e] at v;rw[B3];exact MI.og (xs:= [y]) v λx f=>by rw[bW.mp f];exact h
def IV.xS{a b out:Array Keyed}(v:MI O key (a.toList++b.toList) out.toList (a.toList.drop c)^b.toList.drop d)(e:a[c]?\x)(h:∀y∈b.toList.drop d,LE O key x y):
  MI O key (a.toList++b.toList) (out.push x).toList (a.toList.drop (c+1))^b.toList.drop d:=by
 rw[drop_cons e] at v;rw[B3];exact MI.n9 (xs:= [x]) v λx e=>by rw[bW.mp e];exact h
theorem IV.og{a b out:Array Keyed}(v:MI O key (a.toList++b.toList) out.toList (a.toList.drop d)^b.toList.drop c)(h:∀y∈(b.toList.drop c).take k,∀x∈a.toList.drop d,LE O key y x):
  MI O key (a.toList++b.toList) (out++b.extract c (c+k)).toList (a.toList.drop d)^b.toList.drop (c+k):=by
 rw[pQ b.toList c k] at v;rw[kA,ext_toList,show c+k-c=k by lia]
 exact MI.og v h
theorem IV.n9{a b out:Array Keyed}(v:MI O key (a.toList++b.toList) out.toList (a.toList.drop c)^b.toList.drop d)(h:∀x∈(a.toList.drop c).take k,∀y∈b.toList.drop d,LE O key x y):
  MI O key (a.toList++b.toList) (out++a.extract c (c+k)).toList (a.toList.drop (c+k))^b.toList.drop d:=by
 rw[pQ a.toList c k] at v;rw[kA,ext_toList,show c+k-c=k by lia]
 exact MI.n9 v h
def IV.wW{a b out:Array Keyed}(v:MI O key (a.toList++b.toList) out.toList (a.toList.drop d)^b.toList.drop c)(h:c=b.size):Res O key (a.toList++b.toList) (out++a.extract d a.size++b.extract c b.size).toList:=by
 have e:b.toList.drop c= []:=BZ^by rw[dj];lia
 rw[kA,kA,m7,m7,e,fe];rw[e] at v;exact v.Hm
def IV.wV{a b out:Array Keyed}(v:MI O key (a.toList++b.toList) out.toList (a.toList.drop c)^b.toList.drop d)(h:c=a.size):Res O key (a.toList++b.toList) (out++a.extract c a.size++b.extract d b.size).toList:=by
 have e:a.toList.drop c= []:=BZ^by rw[dj];lia
 rw[kA,kA,m7,m7,e,fe];rw[e] at v;exact v.swap.Hm
def IV.last(T:k8 O key S a b)(v:MI O key (a.toList++b.toList) out.toList (a.toList.drop c)^b.toList.drop d)(h:c+1=a.size):Res O key (a.toList++b.toList) (out++b.extract d b.size++a.extract c a.size).toList:=by
 rw[kA,kA,m7,m7];exact v.Fs^T.Fs h
end
section
variable {O:KeyOrd} {key:Keyed->O.α} {S:Keyed->Prop} {k0:SortKind} {M:Model} {A:Around} {E:Value->Shared->Prop} {s:Shared} {st bV:SortSt} {a b:Array Keyed}
def Inv(O:KeyOrd)(key:Keyed->O.α)(a b:Array Keyed)(n:Nat)(out:Array Keyed)(c d:Nat):Prop:=MI O key (a.toList++b.toList) out.toList (a.toList.drop c)^b.toList.drop d/\c+1<a.size/\d<b.size/\n<=c+d
def Fin{d:Type}(O:KeyOrd)(key:Keyed->O.α)(a b:Array Keyed)(n:Nat)(c:Option^Array Keyed×Array Keyed×Nat×Nat×d):Prop:=
 (∃r,c.1\r/\Res O key (a.toList++b.toList) r.toList)\/(c.1=none/\Inv O key a b n c.2.1 c.2.2.1 c.2.2.2.1)
def Out{d:Type}(O:KeyOrd)(key:Keyed->O.α)(a b:Array Keyed)(n:Nat)(r:ForInStep (Option^Array Keyed×Array Keyed×Nat×Nat×d)):Prop:=match r with
 | .done c=>Fin O key a b n c
 | .yield c=>c.1=none/\Inv O key a b n c.2.1 c.2.2.1 c.2.2.2.1
def aaL{d:Type}(O:KeyOrd)(key:Keyed->O.α)(a b:Array Keyed)(n:Nat)(r:ForInStep (Option^Array Keyed×Array Keyed×Nat×Nat×d)):Prop:=match r with
 | .done c=>∃r,c.1\r/\Res O key (a.toList++b.toList) r.toList
 | .yield c=>c.1=none/\Inv O key a b n c.2.1 c.2.2.1 c.2.2.2.1
def BK(T:k8 O key S a b)(g:GS bV st)(v:MI O key (a.toList++b.toList) out.toList (a.toList.drop c)^b.toList.drop d)(w:c+1<a.size)(p:d<b.size)(z:n<=c+d)
  (q:∀x,a[c]?\x->∀y∈b.toList.drop d,LE O key x y):lu M A E s (Fw a b o h j c out d) (λr t=>GS bV t/\Out O key a b n r) st:=by
 unfold Fw;rfl';let⟨x,e,C,u⟩:=bI (xs:=a) (i:=c) ()
 ac_rfl;refine Do^bp e ?_;have k:=IV.xS v e^q x e;dsimp only
 by_cases f:c+1+1=a.size
 .rw[ir^~~~f]
  exact FB #[g, .inl #[_,rfl,IV.last T k f]]
 .rw[mo^~~~f]
  have l:Inv O key a b n (out.push x) (c+1) d:=#[k,(),p,()]
  by_cases m:(decide (h<7)&&decide (j<7))=true
  .rw[ir m]
   exact FB #[g, .inr #[rfl,l]]
  .rw[mo m]
   exact FB #[g,rfl,l]
def BJ(C:iW O key S f M A E s)(R:kindOf st=f)(T:k8 O key S a b)(g:GS bV st)(v:MI O key (a.toList++b.toList) out.toList (a.toList.drop d)^b.toList.drop c)(H:d+1<a.size)(hb:c<b.size)(hn:n<=d+c)
  (hy:∀y,b[c]?\y->∀x∈a.toList.drop d,LE O key y x):lu M A E s (xF a b X Y Z c out d) (λr au=>GS bV au/\Out O key a b n r) st:=by
 unfold xF;refine ae λG0 f=>?_;let⟨y,o,my,D⟩:=bI (xs:=b) (i:=c) hb;refine f ?_;refine Do^bp o ?_;have q:=IV.xT v o^hy y o;dsimp only
 by_cases t:c+1=b.size
 .rw[ir^~~~t]
  exact FB #[g, .inl #[_,rfl,IV.wW q t]]
 .rw[mo^~~~t]
  refine ae λG0 f=>?_;let⟨x,I,mx,lx⟩:=bI (xs:=a) (i:=d) ()
  refine f ?_;refine Do^bp I ?_
  have w:∀z∈a.toList.drop d,LE O key x z:=λz k=>by
   let⟨j,D,l⟩:=iI k;exact gY T.sa () lx l
  have J:∀j z,c+1+j<b.size->b.toList[c+1+j]?\z->b[c+1+j]?.getD (Value.none,Value.none)=z:=λj z B e=>by rw[l0 e];rfl
  refine Do (iQ C (rX T.mb (i:=c+1) (n:=b.size-(c+1)) ()) (T.ma x mx) R () (λi j fj B h=>?_) λp hp pt pf=>?_)
  .obtain⟨yi,e1,_,l1⟩:=bI (xs:=b) (i:=c+1+i) ()
   let⟨yj,e2,D,l2⟩:=bI (xs:=b) (i:=c+1+j) ()
   unfold fi at h ⊢;rw[ir rfl] at h ⊢;rw[e2] at h;rw[e1];exact ad4 (gY T.sb () l1 l2) h
  .have lo:∀y∈(b.toList.drop (c+1)).take p,∀x∈a.toList.drop d,LE O key y x:=λz k u hu=>by
    let⟨j,B,m,l⟩:=fF k;rw[dj] at m
    have:=pt j B
    unfold fi at this;rw[ir rfl,J j z m l] at this;exact M2 (SB this)^w u hu
   have L:∀F,a[d]?\F->∀y∈b.toList.drop (c+1+p),LE O key F y:=λF N z k=>by
    rw[I] at N;cases N;let⟨j,m,l⟩:=iI k;rw[dj] at m
    have:=pf (p+j) () ()
    unfold fi at this;rw[ir rfl,J (p+j) z ()^by rw[<-l];congr 1;lia] at this
    exact this
   dsimp only
   by_cases P:p>0
   .rw[ir P]
    have Q:=IV.og q lo
    by_cases G:c+1+p=b.size
    .rw[ir^~~~G]
     exact FB #[g, .inl #[_,rfl,IV.wW Q G]]
    .rw[mo^~~~G]
     exact BK T g Q H () () L
   .rw[mo P]
    have:p=0:=()
    subst this;exact BK T g q H () () L
def BI(C:iW O key S l M A E s)(Y:kindOf st=l)(T:k8 O key S a b)(g:GS bV st)(iv:Inv O key a b n out c d):lu M A E s (tP a b bc ac c d out Z) (λr au=>GS bV au/\Out O key a b n r) st:=by
 let⟨v,ha,q,hn⟩:=iv;unfold tP;refine Do (rZ λF5 L=>?_);have t:kindOf F5=l:=L.kind.trans Y;have m:=g.trans L;refine ae λG0 l=>?_;let⟨y,N,my,ly⟩:=bI (xs:=b) (i:=d) q;refine l ?_;refine Do^bp N ?_
 have w:∀z∈b.toList.drop d,LE O key y z:=λz f=>by
  let⟨j,D,k⟩:=iI f;exact gY T.sb () ly k
 have P:∀j z,c+j<a.size->a.toList[c+j]?\z->a[c+j]?.getD (Value.none,Value.none)=z:=λj z B e=>by rw[l0 e];rfl
 refine Do (iQ C (rX T.ma (i:=c) (n:=a.size-c) ()) (T.mb y my) t () (λi j fj B h=>?_) λp hp pt pf=>?_)
 .obtain⟨xi,e1,_,l1⟩:=bI (xs:=a) (i:=c+i) ()
  let⟨xj,e2,D,l2⟩:=bI (xs:=a) (i:=c+j) ()
  unfold fi at h ⊢;rw[mo ∅] at h ⊢
  rw[e2] at h;rw[e1];have F:O.kle (key xj)^key y:=by unfold KeyOrd.kle;simpa using h
  have:=M2 (gY T.sa () l1 l2) F
  unfold KeyOrd.kle at this;simpa using this
 .have lo:∀x∈(a.toList.drop c).take p,∀y∈b.toList.drop d,LE O key x y:=λz f u hu=>by
   let⟨j,B,o,k⟩:=fF f;rw[dj] at o
   have:=pt j B
   unfold fi at this;rw[mo ∅,P j z o k] at this
   have F:O.kle (key z)^key y:=by unfold KeyOrd.kle;simpa using this
   exact M2 F^w u hu
  have Q:∀G,b[d]?\G->∀x∈a.toList.drop (c+p),LE O key G x:=λG R z f=>by
   rw[N] at R;cases R;let⟨j,o,k⟩:=iI f;rw[dj] at o
   have:=pf (p+j) () ()
   unfold fi at this;rw[mo ∅,P (p+j) z ()^by rw[<-k];congr 1;lia] at this
   exact SB (show O.blt _ _=true by simpa using this)
  dsimp only
  by_cases X:p>0
  .rw[ir X]
   have H:=IV.n9 v lo
   by_cases I:c+p+1=a.size
   .rw[ir^~~~I]
    exact FB #[m, .inl #[_,rfl,IV.last T H I]]
   .rw[mo^~~~I]
    by_cases J:c+p=a.size
    .rw[ir^~~~J]
     exact FB #[m, .inl #[_,rfl,IV.wV H J]]
    .rw[mo^~~~J]
     exact BJ C t T m H () q () Q
  .rw[mo X]
   have:p=0:=()
   subst this;exact BJ C t T m v ha q hn Q
def Lu(C:iW O key S k0 M A E s)(d:kindOf st=k0)(T:k8 O key S a b)(g:GS bV st)(c:Option^Array Keyed×Array Keyed×Nat×Nat×Nat×Nat×Nat)(e:Inv O key a b n c.2.1 c.2.2.1 c.2.2.2.1):
  lu M A E s (Fy a b c) (λr f=>GS bV f/\Out O key a b n r) st:=by
 unfold Fy
 by_cases h:c.2.2.2.2.1>1
 .rw[ir h];exact BI C d T g e
 .rw[mo h];exact BI C d T g e
theorem Ls(C:iW O key S o M A E s)(F:kindOf st=o)(T:k8 O key S a b)(g:GS bV st)(c:Option^Array Keyed×Array Keyed×Nat×Nat×Nat×Nat)(d:Inv O key a b n c.2.1 c.2.2.1 c.2.2.2.1):
  lu M A E s (Fx a b p c) (λr G=>GS bV G/\Out O key a b (n+1) r) st:=by
 let⟨X,out,l,m,H,I⟩:=c;let⟨v,J,B,L⟩:=d;dsimp only at v J B L;unfold Fx;dsimp only;refine ae λY o=>?_;let⟨y,q,N,P⟩:=bI (xs:=b) (i:=m) B;let⟨x,t,Q,R⟩:=bI (xs:=a) (i:=l) ()
 refine o ?_;refine Do^bp q^Do^bp t^Do^C _ _ _ _ (T.mb y N) (T.ma x Q) F ?_;cases e:O.blt (key y)^key x with
 |true=>
  dsimp only;rw[ir rfl];refine Do^bp q ?_
  have h:=IV.xT v q λz u=>by
   let⟨j,D,w⟩:=iI u;exact M2 (SB e)^gY T.sa () R w
  by_cases f:m+1=b.size
  .rw[ir^~~~f]
   exact FB #[g, .inl #[_,rfl,IV.wW h f]]
  .rw[mo^~~~f]
   have d:Inv O key a b (n+1) (out.push y) l (m+1):=#[h,(),(),()]
   by_cases k:I+1>=p
   .rw[ir k];exact FB #[g, .inr #[rfl,d]]
   .rw[mo k];exact FB #[g,rfl,d]
 |false=>
  dsimp only;rw[mo ∅]
  refine Do^bp t ?_
  have h:=IV.xS v t λz u=>by
   let⟨j,D,w⟩:=iI u;exact M2 e^gY T.sb () P w
  by_cases f:l+1+1=a.size
  .rw[ir^~~~f]
   exact FB #[g, .inl #[_,rfl,IV.last T h f]]
  .rw[mo^~~~f]
   have d:Inv O key a b (n+1) (out.push x) (l+1) m:=#[h,(),(),()]
   by_cases k:H+1>=p
   .rw[ir k];exact FB #[g, .inr #[rfl,d]]
   .rw[mo k];exact FB #[g,rfl,d]
def Inv.le(h:Inv O key a b n out c d)(e:m<=n):Inv O key a b m out c d:=#[h.1,h.2.1,h.2.2.1,jz e h.2.2.2]
theorem Gg(C:iW O key S l M A E s)(H:kindOf st=l)(T:k8 O key S a b)(g:GS bV st)(t:kindOf bV=l)(c:Option^Array Keyed×Array Keyed×Nat×Nat×Nat)(u:Inv O key a b n c.2.1 c.2.2.1 c.2.2.2.1):
  lu M A E s (vD a b c) (λr h=>GS bV h/\aaL O key a b (n+1) r) st:=by
 have J:0<a.size+b.size:=by have:=T.na;lia
 unfold vD;refine Do (SC (SL (I:=λ(x:Nat)(f:Option^Array Keyed×Array Keyed×Nat×Nat×Nat×Nat)(h:fB)=>GS bV h/\f.1=none/\Inv O key a b (n+min x 1) f.2.1 f.2.2.1 f.2.2.2.1) (Q:=λf h=>GS bV h/\Fin O key a b (n+1) f) ?step ?fin #[g,rfl,u.le ()]) ?post)
 case fin=>
  rintro f h ⟨i,m,j⟩;exact#[i, .inr #[m,j.le ()]]
 case step=>
  rintro x f h _ _ ⟨i,m,j⟩;refine SC (Ls C (i.kind.trans t) T i f j) λr v q=>?_;refine ae λw l=>?_;let⟨p,o⟩:=q;refine l ?_;cases r with
  |done d=>
   exists p
   rcases o with o| ⟨y,z⟩
   .exact .inl o
   .exact .inr #[y,z.le ()]
  |yield d=>exact#[p,o.1,o.2.le ()]
 case post=>
  rintro⟨L,N⟩ h ⟨i,o⟩
  rcases o with ⟨r,e,k⟩ | ⟨e,B⟩
  .dsimp only at e
   subst e;exact FB #[i,r,rfl,k]
  .dsimp only at e
   subst e;dsimp only;refine Do^aep^adI #[rfl,?_];refine Do (SC (SL (I:=λ(x:Nat)(f:Option^Array Keyed×Array Keyed×Nat×Nat×Nat×Nat×Nat)(h:fB)=>GS bV h/\f.1=none/\Inv O key a b (n+1) f.2.1 f.2.2.1 f.2.2.2.1) (Q:=λf h=>GS bV h/\Fin O key a b (n+1) f) ?step2 ?fin2 #[i,rfl,B]) ?post2)
   case fin2=>
    rintro f h ⟨i,m,j⟩;exact#[i, .inr #[m,j]]
   case step2=>
    rintro x f h _ _ ⟨i,m,j⟩;refine SC (Lu C (i.kind.trans t) T i f j) λr v q=>?_;refine ae λw l=>?_;let⟨p,o⟩:=q;refine l ?_;cases r with
    |done d=>exact#[p,o]
    |yield d=>exact#[p,o]
   case post2=>
    rintro⟨P,R⟩ h ⟨i,o⟩
    rcases o with ⟨r,e,k⟩ | ⟨e,F⟩
    .dsimp only at e
     subst e;exact FB #[i,r,rfl,k]
    .dsimp only at e
     subst e;refine Do (rZ λX G=>FB #[i.trans G,rfl,F])
def Gj(C:iW O key S h M A E s)(p:kindOf st=h)(T:k8 O key S a b)(q:∀r c,GS st c->Res O key (a.toList++b.toList) r.toList->Q r c):lu M A E s (rA a b) Q st:=by
 rw[FD];refine Do^aep^adI #[rfl,?_];refine ae λu h=>?_;let⟨y,m,B,F⟩:=bI (xs:=b) (i:=0) T.nb;refine h ?_;refine Do^bp m ?_;have v:MI O key (a.toList++b.toList) (#[]:Array Keyed).toList (a.toList.drop 0)^b.toList.drop 0:=#[by simp,by simp,by simpa using T.sa,by simpa using T.sb,by simp]
 have l:=IV.xT v m^T.first y m;have w:(#[]:Array Keyed).push y= [y].toArray:=rfl;rw[w] at l
 by_cases j:1=b.size
 .rw[ir^~~~j]
  exact FB^q _ _ (GS.refl _)^IV.wW l j
 .rw[mo^~~~j]
  by_cases f:0+1=a.size
  .rw[ir^~~~f]
   exact FB^q _ _ (GS.refl _)^IV.last T l f
  .rw[mo^~~~f]
   refine Do^adZ ?_;have G:=T.na;have H:=T.nb;refine Do (SC (SL (I:=λ(x:Nat)(g:Option^Array Keyed×Array Keyed×Nat×Nat×Nat)(c:fB)=>GS st c/\g.1=none/\Inv O key a b (x+1) g.2.1 g.2.2.1 g.2.2.2.1) (Q:=λg c=>GS st c/\∃r,g.1\r/\Res O key (a.toList++b.toList) r.toList) ?step ?fin #[GS.refl _,rfl,l,by show 0+1<a.size;lia,by show 1<b.size;lia,by show 0+1<=0+1;lia]) ?post)
   case fin=>
    rintro g c ⟨k,j,f⟩
    have:=f.2.2.2
    have:=f.2.1
    have:=f.2.2.1
    lia
   case step=>
    rintro x g c _ _ ⟨k,j,f⟩;refine SC (Gg C (k.kind.trans p) T k p g f) λr J z=>?_;refine ae λu h=>?_;let⟨t,o⟩:=z;refine h ?_;cases r with
    |done d=>exact#[t,o]
    |yield d=>exact#[t,o]
   case post=>
    rintro⟨L,N⟩ c ⟨k,r,e,n⟩;dsimp only at e;subst e;exact FB^q r c k n
end
def CG(a b:Array Keyed):rz a b=(do
 rule "list.sort.merge-hi"
 let total:=a.size+b.size
 let done (out:Array Keyed) (na nb:Nat):=a.extract 0 na++b.extract 0 nb++out.reverse
 let c (out:Array Keyed) (na nb:Nat):=b.extract 0 nb++a.extract 0 na++out.reverse
 let mut na:=a.size-1
 let mut nb:=b.size
 let mut out:Array Keyed:= [<-elem' a na].toArray
 if na==0 then return done out na nb
 if nb==1 then return c out na nb
 let mut minGallop:=gallopOf (<-get)
 for _ in [0:total] do
  let mut acount:=0
  let mut bcount:=0
  for _ in [0:total] do
   let some Ji <-lt' (<-elem' b (nb-1)) (<-elem' a (na-1)) |return done out na nb
   if Ji then
    na:=na-1;out:=out.push (<-elem' a na);acount:=acount+1;bcount:=0
    if na==0 then return done out na nb
    if acount>=minGallop then break
   else
    nb:=nb-1;out:=out.push (<-elem' b nb);bcount:=bcount+1;acount:=0
    if nb==1 then return c out na nb
    if bcount>=minGallop then break
  rule "list.sort.gallop"
  minGallop:=minGallop+1
  for _ in [0:total] do
   if minGallop>1 then minGallop:=minGallop-1
   setMinGallop' minGallop
   let some at_ <-fX false (<-elem' b (nb-1)) a 0 na (na-1) |return done out na nb
   let k:=na-at_
   acount:=k
   if k>0 then
    out:=out++(a.extract at_ na).reverse;na:=at_
    if na==0 then return done out na nb
   nb:=nb-1;out:=out.push (<-elem' b nb)
   if nb==1 then return c out na nb
   let some at_ <-fX true (<-elem' a (na-1)) b 0 nb (nb-1) |return done out na nb
   let k:=nb-at_
   bcount:=k
   if k>0 then
    out:=out++(b.extract at_ nb).reverse;nb:=at_
    if nb==1 then return c out na nb
    if nb==0 then return done out na nb
   na:=na-1;out:=out.push (<-elem' a na)
   if na==0 then return done out na nb
   if acount<7&&bcount<7 then break
  minGallop:=minGallop+1
  setMinGallop' minGallop
 unsupported "internal:list.sort.merge-bound"):=rfl
abbrev S7:=Option^Array Keyed×Nat×Nat×Array Keyed×Nat×Nat×Nat
abbrev S6:=Option^Array Keyed×Nat×Nat×Array Keyed×Nat×Nat
abbrev S5:=Option^Array Keyed×Nat×Nat×Array Keyed×Nat
noncomputable def j4(a b out:Array Keyed)(c d:Nat):Array Keyed:=a.extract 0 c++b.extract 0 d++out.reverse
noncomputable def rg(a b out:Array Keyed)(c d:Nat):Array Keyed:=b.extract 0 d++a.extract 0 c++out.reverse
noncomputable def Fe(a b:Array Keyed)(g d e c:Nat)(out:Array Keyed)(f:Nat):StateT fB j_^ForInStep S7:=do
 let x <-gv a (c-1)
 if (c-1==0)=true then pure (ForInStep.done (some^j4 a b (out.push x) (c-1) f,c-1,f,out.push x,g,d,e))
 else if (decide (d<7)&&decide (e<7))=true then pure (ForInStep.done (none,c-1,f,out.push x,g,d,e))
 else pure^ForInStep.yield (none,c-1,f,out.push x,g,d,e)
noncomputable def xf(a b:Array Keyed)(e f h c:Nat)(out:Array Keyed)(d:Nat):StateT fB j_^ForInStep S7:=do
 let y <-gv b (c-1)
 if (c-1==1)=true then pure (ForInStep.done (some^rg a b (out.push y) d (c-1),d,c-1,out.push y,e,f,h))
 else do
  let x <-gv a (d-1)
  let g <-fX true x b 0 (c-1) (c-1-1)
  match g with
  |some p=>
   if c-1-p>0 then
    if (p==1)=true then pure (ForInStep.done (some^rg a b (out.push y++(b.extract p (c-1)).reverse) d p,d,p,out.push y++(b.extract p (c-1)).reverse,e,f,c-1-p))
    else if (p==0)=true then pure (ForInStep.done (some^j4 a b (out.push y++(b.extract p (c-1)).reverse) d p,d,p,out.push y++(b.extract p (c-1)).reverse,e,f,c-1-p))
    else Fe a b e f (c-1-p) d (out.push y++(b.extract p (c-1)).reverse) p
   else Fe a b e f (c-1-p) d (out.push y) (c-1)
  |_=>pure^ForInStep.done (some^j4 a b (out.push y) d (c-1),d,c-1,out.push y,e,f,h)
noncomputable def Aq(a b:Array Keyed)(f h c d:Nat)(out:Array Keyed)(e:Nat):StateT fB j_^ForInStep S7:=do
 setMinGallop' e
 let y <-gv b (d-1)
 let g <-fX false y a 0 c (c-1)
 match g with
 |some p=>
  if c-p>0 then
   if (p==0)=true then pure (ForInStep.done (some^j4 a b (out++(a.extract p c).reverse) p d,p,d,out++(a.extract p c).reverse,e,c-p,f))
   else xf a b e (c-p) f d (out++(a.extract p c).reverse) p
  else xf a b e (c-p) f d out c
 |_=>pure^ForInStep.done (some^j4 a b out c d,c,d,out,e,h,f)
noncomputable def Fg(a b:Array Keyed)(c:S7):StateT fB j_^ForInStep S7:=
 if c.2.2.2.2.1>1 then Aq a b c.2.2.2.2.2.2 c.2.2.2.2.2.1 c.2.1 c.2.2.1 c.2.2.2.1 (c.2.2.2.2.1-1) else Aq a b c.2.2.2.2.2.2 c.2.2.2.2.2.1 c.2.1 c.2.2.1 c.2.2.2.1 c.2.2.2.2.1
noncomputable def Ff(a b:Array Keyed)(e:Nat)(c:S6):StateT fB j_^ForInStep S6:=do
 let y <-gv b (c.2.2.1-1)
 let x <-gv a (c.2.1-1)
 let d <-lt' y x
 match d with
 |some f=>
  if f=true then do
   let x <-gv a (c.2.1-1)
   if (c.2.1-1==0)=true then pure (ForInStep.done (some^j4 a b (c.2.2.2.1.push x) (c.2.1-1) c.2.2.1,c.2.1-1,c.2.2.1,c.2.2.2.1.push x,c.2.2.2.2.1+1,0))
   else if c.2.2.2.2.1+1>=e then pure (ForInStep.done (none,c.2.1-1,c.2.2.1,c.2.2.2.1.push x,c.2.2.2.2.1+1,0))
   else pure (ForInStep.yield (none,c.2.1-1,c.2.2.1,c.2.2.2.1.push x,c.2.2.2.2.1+1,0))
  else do
   let y <-gv b (c.2.2.1-1)
   if (c.2.2.1-1==1)=true then pure (ForInStep.done (some^rg a b (c.2.2.2.1.push y) c.2.1 (c.2.2.1-1),c.2.1,c.2.2.1-1,c.2.2.2.1.push y,0,c.2.2.2.2.2+1))
   else if c.2.2.2.2.2+1>=e then pure (ForInStep.done (none,c.2.1,c.2.2.1-1,c.2.2.2.1.push y,0,c.2.2.2.2.2+1))
   else pure^ForInStep.yield (none,c.2.1,c.2.2.1-1,c.2.2.2.1.push y,0,c.2.2.2.2.2+1)
 |_=>pure^ForInStep.done (some^j4 a b c.2.2.2.1 c.2.1 c.2.2.1,c.2.1,c.2.2.1,c.2.2.2.1,c.2.2.2.2.1,c.2.2.2.2.2)
noncomputable def uS(a b:Array Keyed)(f:S5):StateT fB j_^ForInStep S5:=do
 let e <-forIn [0:a.size+b.size] ((none,f.2.1,f.2.2.1,f.2.2.2.1,0,0):S6) λ_ c=>Ff a b f.2.2.2.2 c
 match e.1 with
 |some r=>pure^ForInStep.done (some r,e.2.1,e.2.2.1,e.2.2.2.1,f.2.2.2.2)
 |none=>do
  liftM^rule "list.sort.gallop"
  let d <-forIn [0:a.size+b.size] ((none,e.2.1,e.2.2.1,e.2.2.2.1,f.2.2.2.2+1,e.2.2.2.2.1,e.2.2.2.2.2):S7) λ_ c=>Fg a b c
  match d.1 with
  |some r=>pure^ForInStep.done (some r,d.2.1,d.2.2.1,d.2.2.2.1,d.2.2.2.2.1)
  |none=>do
   setMinGallop' (d.2.2.2.2.1+1)
   pure^ForInStep.yield (none,d.2.1,d.2.2.1,d.2.2.2.1,d.2.2.2.2.1+1)
theorem FC(a b:Array Keyed):rz a b=(do
 liftM^rule "list.sort.merge-hi"
 let x <-gv a (a.size-1)
 if (a.size-1==0)=true then pure (j4 a b [x].toArray (a.size-1) b.size)
 else if (b.size==1)=true then pure (rg a b [x].toArray (a.size-1) b.size)
 else do
  let d <-get
  let e <-forIn [0:a.size+b.size] ((none,a.size-1,b.size, [x].toArray,gallopOf d):S5) λ_ c=>uS a b c
  match e.1 with
  |some r=>pure r
  |none=>liftM^jd (α:=Array Keyed) "internal:list.sort.merge-bound"):=by
 rw[CG];dsimp only;refine dW rfl λ_=>dW rfl λy=>?_;refine IR (ite _ _)^IR (ite _ _) ?_;refine dW rfl λg=>dW (E3 λ_ c=>?_) λu=>?_
 .unfold uS
  refine dW (E3 λ_ t=>?_) λt=>?_
  .unfold Ff
   refine dW rfl λ_=>dW rfl λ_=>dW rfl λz=>?_;cases z<;>rfl
  .obtain⟨h,j⟩:=t
   cases h with
   |some r=>rfl
   |none=>
    dsimp only;refine dW rfl λ_=>dW (E3 λ_ u=>?_) λu=>?_
    .unfold Fg
     refine gm (λ_=>?_)^λ_=>?_
     all_goals
      unfold Aq;refine dW rfl λ_=>dW rfl λ_=>dW rfl λz=>?_;cases z with
      |none=>rfl
      |some k=>
       dsimp only;refine gm (λ_=>?_)^λ_=>?_
       .refine gm (λ_=>rfl)^λ_=>?_
        unfold xf;refine dW rfl λ_=>gm (λ_=>rfl)^λ_=>dW rfl λ_=>dW rfl λz=>?_;cases z with
        |none=>rfl
        |some k=>rfl
       .unfold xf
        refine dW rfl λ_=>gm (λ_=>rfl)^λ_=>dW rfl λ_=>dW rfl λz=>?_;cases z with
        |none=>rfl
        |some k=>rfl
    .obtain⟨f,i⟩:=u
     cases f<;>rfl
 .obtain⟨f,i⟩:=u
  cases f<;>rfl
noncomputable def WT(O:KeyOrd):KeyOrd:={α:=O.α,blt:=λa b=>O.blt b a,irrefl:=O.irrefl,trans:=λa b c d e=>O.trans _ _ _ e d,negTrans:=λa b c h=>(O.negTrans c b a h).symm,total:=λa b d e=>O.total a b e d}
section
variable {O:KeyOrd} {key:Keyed->O.α} {S:Keyed->Prop} {k0:SortKind} {M:Model} {A:Around} {E:Value->Shared->Prop} {s:Shared} {st bV:SortSt} {a b:Array Keyed}
abbrev MJ(O:KeyOrd)(key:Keyed->O.α)(a b out:Array Keyed)(c d:Nat):Prop:=MI (WT O) key (a.toList++b.toList) out.toList (a.toList.take c).reverse (b.toList.take d).reverse
def xU(h:Res (WT O) key l r.reverse):Res O key l r:=
 #[(afb r).symm.trans h.1,by
   have:=aet.mp h.2
   exact this.imp λh=>h]
def Dy(c:Array Keyed)(n:Nat):(c.extract 0 n).toList=c.toList.take n:=by rw[ext_toList];simp
def Ew{xs:Array Keyed}(f:1<=n)(h:xs[n-1]?\x):(xs.toList.take n).reverse=x::(xs.toList.take (n-1)).reverse:=by
 have c:=ni h;obtain⟨d,e⟩:=cD.mp c
 have:xs.toList.take n=xs.toList.take (n-1)++ [x]:=by
  have:=aeq d
  rw[show n-1+1=n by lia,e] at this
  exact this
 rw[this,B2];rfl
def qF(l:List Keyed)(h:p<=n):l.take n=l.take p++(l.drop p).take (n-p):=by
 conv=>lhs;rw[<-gL p^l.take n]
 rw[List.take_take,show min p n=p by lia,List.drop_take]
def iJ{l:List Keyed}{x:Keyed}(h:x∈l.take n):∃j,j<n/\j<l.length/\l[j]?\x:=by
 have:=fF (l:=l) (i:=0) (k:=n) (x:=x)^~~~h
 let⟨j,c,d,e⟩:=this;exact#[j,c,by simpa using d,by simpa using e]
def MJ.xS(v:MJ O key a b out c d)(e:1<=c)(f:a[c-1]?\x)(h:∀y∈b.toList.take d,LE O key y x):MJ O key a b (out.push x) (c-1) d:=by
 unfold MJ at v ⊢;rw[Ew e f] at v;rw[B3];exact MI.n9 (xs:= [x]) v λz g y i=>by rw[bW.mp g];exact h y^yZ.mp i
def MJ.xT(v:MJ O key a b out d c)(e:1<=c)(f:b[c-1]?\y)(h:∀x∈a.toList.take d,LE O key x y):MJ O key a b (out.push y) d (c-1):=by
 unfold MJ at v ⊢;rw[Ew e f] at v;rw[B3];exact MI.og (xs:= [y]) v λz g x i=>by rw[bW.mp g];exact h x^yZ.mp i
theorem MJ.n9(v:MJ O key a b out c d)(e:p<=c)(h:∀x∈(a.toList.drop p).take (c-p),∀y∈b.toList.take d,LE O key y x):MJ O key a b (out++(a.extract p c).reverse) p d:=by
 unfold MJ at v ⊢;rw[qF a.toList e,B2] at v;rw[kA,BP,ext_toList];exact MI.n9 v λx f y g=>h x (yZ.mp f) y^yZ.mp g
theorem MJ.og(v:MJ O key a b out d c)(e:p<=c)(h:∀y∈(b.toList.drop p).take (c-p),∀x∈a.toList.take d,LE O key x y):MJ O key a b (out++(b.extract p c).reverse) d p:=by
 unfold MJ at v ⊢;rw[qF b.toList e,B2] at v;rw[kA,BP,ext_toList];exact MI.og v λx f y g=>h x (yZ.mp f) y^yZ.mp g
def MJ.wV(v:MJ O key a b out 0 c):Res O key (a.toList++b.toList) (j4 a b out 0 c).toList:=by
 refine xU ?_;unfold j4 MJ at*;rw[kA,kA,Dy,Dy,BP,y4,sY,B2,aeG];rw[y4,List.reverse_nil] at v;exact v.swap.Hm
def MJ.wW(v:MJ O key a b out c 0):Res O key (a.toList++b.toList) (j4 a b out c 0).toList:=by
 refine xU ?_;unfold j4 MJ at*;rw[kA,kA,Dy,Dy,BP,y4,fe,B2,aeG];rw[y4,List.reverse_nil] at v;exact v.Hm
theorem MJ.first(T:k8 O key S a b)(v:MJ O key a b out c 1):Res O key (a.toList++b.toList) (rg a b out c 1).toList:=by
 refine xU ?_;have h:=v.swap.Fs λx d y f=>?_
 .unfold rg
  rw[kA,kA,Dy,Dy,BP,B2,aeG,B2,<-kB];exact h
 .obtain⟨j,g,_,e⟩:=iJ^yZ.mp f
  have:j=0:=()
  subst this;exact T.first y (l0 e) x^aeH^yZ.mp d
def r9(O:KeyOrd)(key:Keyed->O.α)(a b:Array Keyed)(n:Nat)(c d:Nat)(out:Array Keyed):Prop:=MJ O key a b out c d/\1<=c/\c<=a.size/\2<=d/\d<=b.size/\n+c+d<=a.size+b.size
def XW{d:Type}(O:KeyOrd)(key:Keyed->O.α)(a b:Array Keyed)(n:Nat)(c:Option^Array Keyed×Nat×Nat×Array Keyed×d):Prop:=
 (∃r,c.1\r/\Res O key (a.toList++b.toList) r.toList)\/(c.1=none/\r9 O key a b n c.2.1 c.2.2.1 c.2.2.2.1)
def OT{d:Type}(O:KeyOrd)(key:Keyed->O.α)(a b:Array Keyed)(n:Nat)(r:ForInStep (Option^Array Keyed×Nat×Nat×Array Keyed×d)):Prop:=match r with
 | .done c=>XW O key a b n c
 | .yield c=>c.1=none/\r9 O key a b n c.2.1 c.2.2.1 c.2.2.2.1
def aaK{d:Type}(O:KeyOrd)(key:Keyed->O.α)(a b:Array Keyed)(n:Nat)(r:ForInStep (Option^Array Keyed×Nat×Nat×Array Keyed×d)):Prop:=match r with
 | .done c=>∃r,c.1\r/\Res O key (a.toList++b.toList) r.toList
 | .yield c=>c.1=none/\r9 O key a b n c.2.1 c.2.2.1 c.2.2.2.1
def BH(g:GS bV st)(v:MJ O key a b out c d)(p:1<=c)(f:c<=a.size)(q:2<=d)(t:d<=b.size)(B:n+c+d<=a.size+b.size)
  (u:∀x,a[c-1]?\x->∀y∈b.toList.take d,LE O key y x):lu M A E s (Fe a b o k l c out d) (λr w=>GS bV w/\OT O key a b n r) st:=by
 unfold Fe;rfl';let⟨x,h,F,z⟩:=bI (xs:=a) (i:=c-1) ()
 ac_rfl;refine Do^bp h ?_;have j:=MJ.xS v p h^u x h
 by_cases e:c-1=0
 .rw[ir^~~~e]
  rw[e] at j ⊢;exact FB #[g, .inl #[_,rfl,j.wV]]
 .rw[mo^~~~e]
  have m:r9 O key a b n (c-1) d^out.push x:=#[j,(),(),q,t,()]
  by_cases f:(decide (k<7)&&decide (l<7))=true
  .rw[ir f]
   exact FB #[g, .inr #[rfl,m]]
  .rw[mo f]
   exact FB #[g,rfl,m]
def BG(C:iW O key S f M A E s)(Q:kindOf st=f)(T:k8 O key S a b)(g:GS bV st)(v:MJ O key a b out d c)(H:1<=d)(I:d<=a.size)(h3:2<=c)(h4:c<=b.size)(hn:n+d+c<=a.size+b.size)
  (Z:∀y,b[c-1]?\y->∀x∈a.toList.take d,LE O key x y):lu M A E s (xf a b R X Y c out d) (λr au=>GS bV au/\OT O key a b n r) st:=by
 unfold xf;refine ae λG0 f=>?_;let⟨y,w,my,D⟩:=bI (xs:=b) (i:=c-1) ()
 refine f ?_;refine Do^bp w ?_;have q:=MJ.xT v () w^Z y w
 by_cases e:c-1=1
 .rw[ir^~~~e]
  rw[e] at q ⊢;exact FB #[g, .inl #[_,rfl,MJ.first T q]]
 .rw[mo^~~~e]
  refine ae λG0 f=>?_;let⟨x,J,mx,lx⟩:=bI (xs:=a) (i:=d-1) ()
  refine f ?_;refine Do^bp J ?_
  have B:∀z∈a.toList.take d,LE O key z x:=λz k=>by
   let⟨j,t,D,l⟩:=iJ k;exact gY T.sa () l lx
  have L:∀j z,b.toList[j]?\z->b[0+j]?.getD (Value.none,Value.none)=z:=λj z e=>by rw[mD,l0 e];rfl
  refine Do (iQ C (rX T.mb (i:=0) (n:=c-1) ()) (T.ma x mx) Q () (λi j fj t h=>?_) λp hp pt pf=>?_)
  .obtain⟨yi,m,_,l1⟩:=bI (xs:=b) (i:=0+i) ()
   let⟨yj,o,D,l2⟩:=bI (xs:=b) (i:=0+j) ()
   unfold fi at h ⊢;rw[ir rfl] at h ⊢;rw[o] at h;rw[m];exact ad4 (gY T.sb () l1 l2) h
  .have hi:∀y∈(b.toList.drop p).take (c-1-p),∀x∈a.toList.take d,LE O key x y:=λz k u hu=>by
    let⟨j,t,hl,l⟩:=fF k
    have:=pf (p+j) () ()
    unfold fi at this;rw[ir rfl,L (p+j) z l] at this;exact M2 (B u hu) this
   have lo:∀F,a[d-1]?\F->∀y∈b.toList.take p,LE O key y F:=λF N z k=>by
    rw[J] at N;cases N;let⟨j,t,D,l⟩:=iJ k
    have:=pt j t
    unfold fi at this;rw[ir rfl,L j z l] at this;exact SB this
   dsimp only
   by_cases P:c-1-p>0
   .rw[ir P]
    have G:=MJ.og q hp hi
    by_cases m:p=1
    .rw[ir^~~~m]
     subst m;exact FB #[g, .inl #[_,rfl,MJ.first T G]]
    .rw[mo^~~~m]
     by_cases o:p=0
     .rw[ir^~~~o]
      subst o;exact FB #[g, .inl #[_,rfl,G.wW]]
     .rw[mo^~~~o]
      exact BH g G H I () () () lo
   .rw[mo P]
    have:p=c-1:=()
    subst this;exact BH g q H I () () () lo
def BF(C:iW O key S k0 M A E s)(P:kindOf st=k0)(T:k8 O key S a b)(g:GS bV st)(Y:r9 O key a b n c d out):lu M A E s (Aq a b X R c d out Q) (λr Z=>GS bV Z/\OT O key a b n r) st:=by
 let⟨v,h1,h2,B,F,hn⟩:=Y;unfold Aq;refine Do (rZ λF5 G=>?_);have o:kindOf F5=k0:=G.kind.trans P;have q:=g.trans G;let⟨y,H,my,ly⟩:=bI (xs:=b) (i:=d-1) ()
 refine Do^bp H ?_
 have t:∀z∈b.toList.take d,LE O key z y:=λz f=>by
  let⟨j,m,D,k⟩:=iJ f;exact gY T.sb () k ly
 have I:∀j z,a.toList[j]?\z->a[0+j]?.getD (Value.none,Value.none)=z:=λj z e=>by rw[mD,l0 e];rfl
 refine Do (iQ C (rX T.ma (i:=0) (n:=c) ()) (T.mb y my) o () (λi j fj m h=>?_) λp hp pt pf=>?_)
 .obtain⟨xi,l,_,l1⟩:=bI (xs:=a) (i:=0+i) ()
  let⟨xj,e2,D,l2⟩:=bI (xs:=a) (i:=0+j) ()
  unfold fi at h ⊢;rw[mo ∅] at h ⊢
  rw[e2] at h;rw[l];have h':O.kle (key xj)^key y:=by unfold KeyOrd.kle;simpa using h
  have:=M2 (gY T.sa () l1 l2) h'
  unfold KeyOrd.kle at this;simpa using this
 .have hi:∀x∈(a.toList.drop p).take (c-p),∀y∈b.toList.take d,LE O key y x:=λz f u hu=>by
   let⟨j,m,hl,k⟩:=fF f
   have:=pf (p+j) () ()
   unfold fi at this;rw[mo ∅,I (p+j) z k] at this
   exact M2 (t u hu)^SB (show O.blt _ _=true by simpa using this)
  have lo:∀w,b[d-1]?\w->∀x∈a.toList.take p,LE O key x w:=λw J z f=>by
   rw[H] at J;cases J;let⟨j,m,D,k⟩:=iJ f
   have:=pt j m
   unfold fi at this;rw[mo ∅,I j z k] at this
   show O.blt _ _=false;simpa using this
  dsimp only
  by_cases L:c-p>0
  .rw[ir L]
   have N:=MJ.n9 v hp hi
   by_cases l:p=0
   .rw[ir^~~~l]
    subst l;exact FB #[q, .inl #[_,rfl,N.wV]]
   .rw[mo^~~~l]
    exact BG C o T q N () () B F () lo
  .rw[mo L]
   have:p=c:=()
   subst this;exact BG C o T q v h1 h2 B F hn lo
def Lr(C:iW O key S k0 M A E s)(d:kindOf st=k0)(T:k8 O key S a b)(g:GS bV st)(c:S7)(e:r9 O key a b n c.2.1 c.2.2.1 c.2.2.2.1):
  wpS M A E s (Fg a b c) (λr f=>GS bV f/\OT O key a b n r) st:=by
 unfold Fg
 by_cases h:c.2.2.2.2.1>1
 .rw[ir h];exact BF C d T g e
 .rw[mo h];exact BF C d T g e
theorem Lq(C:iW O key S o M A E s)(H:kindOf st=o)(T:k8 O key S a b)(g:GS bV st)(c:S6)(d:r9 O key a b n c.2.1 c.2.2.1 c.2.2.2.1):
  lu M A E s (Ff a b p c) (λr I=>GS bV I/\OT O key a b (n+1) r) st:=by
 let⟨Z,l,m,out,J,L⟩:=c;let⟨v,B,f,F,G,N⟩:=d;dsimp only at v B f F G N;unfold Ff;dsimp only;refine ae λG0 o=>?_;let⟨y,q,P,Q⟩:=bI (xs:=b) (i:=m-1) ()
 let⟨x,t,R,X⟩:=bI (xs:=a) (i:=l-1) ()
 refine o ?_;refine Do^bp q^Do^bp t^Do^C _ _ _ _ (T.mb y P) (T.ma x R) H ?_;cases e:O.blt (key y)^key x with
 |true=>
  dsimp only;rw[ir rfl];refine Do^bp t ?_
  have h:=MJ.xS v B t λz u=>by
   let⟨j,Y,D,w⟩:=iJ u;exact M2 (gY T.sb () w Q)^SB e
  by_cases k:l-1=0
  .rw[ir^~~~k]
   rw[k] at h ⊢;exact FB #[g, .inl #[_,rfl,h.wV]]
  .rw[mo^~~~k]
   have d:r9 O key a b (n+1) (l-1) m^out.push x:=#[h,(),(),F,G,()]
   by_cases f:J+1>=p
   .rw[ir f];exact FB #[g, .inr #[rfl,d]]
   .rw[mo f];exact FB #[g,rfl,d]
 |false=>
  dsimp only;rw[mo ∅]
  refine Do^bp q ?_
  have h:=MJ.xT v () q λz u=>by
   let⟨j,Y,D,w⟩:=iJ u;exact M2 (gY T.sa () w X) e
  by_cases k:m-1=1
  .rw[ir^~~~k]
   rw[k] at h ⊢;exact FB #[g, .inl #[_,rfl,MJ.first T h]]
  .rw[mo^~~~k]
   have d:r9 O key a b (n+1) l (m-1)^out.push y:=#[h,(),(),(),(),()]
   by_cases f:L+1>=p
   .rw[ir f];exact FB #[g, .inr #[rfl,d]]
   .rw[mo f];exact FB #[g,rfl,d]
def r9.le(h:r9 O key a b n c d out)(e:m<=n):r9 O key a b m c d out:=#[h.1,h.2.1,h.2.2.1,h.2.2.2.1,h.2.2.2.2.1,by have:=h.2.2.2.2.2;lia]
theorem Ge(C:iW O key S l M A E s)(T:k8 O key S a b)(g:GS bV st)(t:kindOf bV=l)(c:S5)(u:r9 O key a b n c.2.1 c.2.2.1 c.2.2.2.1):
  lu M A E s (uS a b c) (λr h=>GS bV h/\aaK O key a b (n+1) r) st:=by
 have H:0<a.size+b.size:=by have:=T.na;lia
 unfold uS;refine Do (SC (SL (I:=λ(x:Nat)(f:S6)(h:fB)=>GS bV h/\f.1=none/\r9 O key a b (n+min x 1) f.2.1 f.2.2.1 f.2.2.2.1) (Q:=λf h=>GS bV h/\XW O key a b (n+1) f) ?step ?fin #[g,rfl,u.le ()]) ?post)
 case fin=>
  rintro f h ⟨i,m,j⟩;exact#[i, .inr #[m,j.le ()]]
 case step=>
  rintro x f h _ _ ⟨i,m,j⟩;refine SC (Lq C (i.kind.trans t) T i f j) λr v q=>?_;refine ae λw l=>?_;let⟨p,o⟩:=q;refine l ?_;cases r with
  |done d=>
   exists p
   rcases o with o| ⟨y,z⟩
   .exact .inl o
   .exact .inr #[y,z.le ()]
  |yield d=>exact#[p,o.1,o.2.le ()]
 case post=>
  rintro⟨J,L⟩ h ⟨i,o⟩
  rcases o with ⟨r,e,k⟩ | ⟨e,B⟩
  .dsimp only at e
   subst e;exact FB #[i,r,rfl,k]
  .dsimp only at e
   subst e;dsimp only;refine Do^aep^adI #[rfl,?_];refine Do (SC (SL (I:=λ(x:Nat)(f:S7)(h:fB)=>GS bV h/\f.1=none/\r9 O key a b (n+1) f.2.1 f.2.2.1 f.2.2.2.1) (Q:=λf h=>GS bV h/\XW O key a b (n+1) f) ?step2 ?fin2 #[i,rfl,B]) ?post2)
   case fin2=>
    rintro f h ⟨i,m,j⟩;exact#[i, .inr #[m,j]]
   case step2=>
    rintro x f h _ _ ⟨i,m,j⟩;refine SC (Lr C (i.kind.trans t) T i f j) λr v q=>?_;refine ae λw l=>?_;let⟨p,o⟩:=q;refine l ?_;cases r with
    |done d=>exact#[p,o]
    |yield d=>exact#[p,o]
   case post2=>
    rintro⟨N,P⟩ h ⟨i,o⟩
    rcases o with ⟨r,e,k⟩ | ⟨e,F⟩
    .dsimp only at e
     subst e;exact FB #[i,r,rfl,k]
    .dsimp only at e
     subst e;refine Do (rZ λR G=>FB #[i.trans G,rfl,F])
def Gi(C:iW O key S k M A E s)(u:kindOf st=k)(T:k8 O key S a b)(q:∀r c,GS st c->Res O key (a.toList++b.toList) r.toList->Q r c):lu M A E s (rz a b) Q st:=by
 rw[FC];refine Do^aep^adI #[rfl,?_];refine ae λv k=>?_;have w:=T.na;have H:=T.nb;let⟨x,n,J,L⟩:=bI (xs:=a) (i:=a.size-1) ()
 refine k ?_;refine Do^bp n ?_
 have z:MJ O key a b #[] a.size b.size:=by
  refine#[?_,by simp,?_,?_,by simp]
  .rw[sW^by simp,sW^by simp]
   simpa using(afb a.toList).append^afb b.toList
  .rw[sW^by simp]
   exact aet.mpr (T.sa.imp λh=>h)
  .rw[sW^by simp]
   exact aet.mpr (T.sb.imp λh=>h)
 have j:=MJ.xS z w n λy B=>T.last x n y^aeH B;have F:(#[]:Array Keyed).push x= [x].toArray:=rfl;rw[F] at j
 by_cases l:a.size-1=0
 .rw[ir^~~~l]
  rw[l] at j ⊢;exact FB^q _ _ (GS.refl _) j.wV
 .rw[mo^~~~l]
  by_cases g:b.size=1
  .rw[ir^~~~g]
   rw[g] at j ⊢;exact FB^q _ _ (GS.refl _)^MJ.first T j
  .rw[mo^~~~g]
   refine Do^adZ ?_;refine Do (SC (SL (I:=λ(x:Nat)(f:S5)(c:fB)=>GS st c/\f.1=none/\r9 O key a b (x+1) f.2.1 f.2.2.1 f.2.2.2.1) (Q:=λf c=>GS st c/\∃r,f.1\r/\Res O key (a.toList++b.toList) r.toList) ?step ?fin #[GS.refl _,rfl,j,by show 1<=a.size-1;lia,by show a.size-1<=a.size;lia,by show 2<=b.size;lia,aZ _,by show 0+1+(a.size-1)+b.size<=a.size+b.size;lia]) ?post)
   case fin=>
    rintro f c ⟨m,l,g⟩
    have:=g.2.2.2.2.2
    have:=g.2.1
    lia
   case step=>
    rintro x f c _ _ ⟨m,l,g⟩;refine SC (Ge C T m u f g) λr N G=>?_;refine ae λv k=>?_;let⟨t,o⟩:=G;refine k ?_;cases r with
    |done d=>exact#[t,o]
    |yield d=>exact#[t,o]
   case post=>
    rintro⟨P,R⟩ c ⟨m,r,e,p⟩;dsimp only at e;subst e;exact FB^q r c m p
end
def FA(i:Nat):mergeAt' i=(do
 let s <-get
 let (some (sa,na,power),some (sb,nb,_)):=((d7 s)[i]?,(d7 s)[i+1]?) |jd "internal:list.sort.pending"
 set^h0 s^((d7 s).setIfInBounds i (sa,na+nb,power)).eraseIdxIfInBounds (i+1)
 let some k <-fX false (<-gv (d6 s) sb) (d6 s) sa na 0|return false
 let (sa,na):=(sa+k,na-k)
 if na==0 then return true
 let some nb <-fX true (<-gv (d6 s) (sa+na-1)) (d6 s) sb nb (nb-1) |return false
 if nb==0 then return true
 let x:=(d6 s).extract sa sb
 let y:=(d6 s).extract sb (sb+nb)
 let merged <-if na<=nb then rA x y else rz x y
 modify λs=>lv s (merged.toList.zipIdx.foldl (λa (p,j)=>a.setIfInBounds (sa+j) p)^d6 s)
 return (hB (<-get)).isNone):=rfl
theorem tF:∀(m:List Keyed)(off b:Nat)(c:Array Keyed),b+off+m.length<=c.size->
  ((m.zipIdx off).foldl (λa (p:Keyed×Nat)=>a.setIfInBounds (b+p.2) p.1) c).size=c.size/\∀i,((m.zipIdx off).foldl (λa (p:Keyed×Nat)=>a.setIfInBounds (b+p.2) p.1) c)[i]? =if b+off<=i/\i<b+off+m.length then m[i-(b+off)]? else c[i]?
 | [],off,b,c,_=>#[rfl,λi=>by rw[mo^by simp];rfl]
 |x::m,off,b,c,h=>by
  rw[cJ] at h;have e:=tF m (off+1) b (c.setIfInBounds (b+off) x)^by rw[ad5];lia
  rw[List.zipIdx_cons,afC];refine#[by rw[e.1,ad5],λi=>?_]
  rw[e.2 i]
  by_cases f:b+(off+1)<=i/\i<b+(off+1)+m.length
  .rw[ir f,ir^by rw[cJ];lia,show i-(b+off)=(i-(b+(off+1)))+1 by lia,wF]
  .rw[mo f,aeR]
   by_cases d:b+off=i
   .rw[ir d,ir (),ir^by rw[cJ];lia,<-d,oJ];rfl
   .rw[mo d,mo^by rw[cJ];lia]
noncomputable def putAt(c m:Array Keyed)(b:Nat):Array Keyed:=m.toList.zipIdx.foldl (λa (p:Keyed×Nat)=>a.setIfInBounds (b+p.2) p.1) c
def A8(h:b+m.size<=a.size)(i:Nat):(putAt a m b)[i]? =if b<=i/\i<b+m.size then m[i-b]? else a[i]? :=by
 have:=(tF m.toList 0 b a^~~~h).2 i
 unfold putAt;rw[this];simp
def Io(h:b+m.size<=a.size):(putAt a m b).size=a.size:=(tF m.toList 0 b a^~~~h).1
def Im(h:b+m.size<=a.size)(p:m.toList.Perm^(a.toList.drop b).take m.size):(putAt a m b).Perm a:=by
 rw[Gw]
 have e:(putAt a m b).toList=a.toList.take b++(m.toList++a.toList.drop (b+m.size)):=by
  apply ph;intro i;rw[gr,A8 h,aeE,aeE,hV,dj,dj,BQ,yY,gr,gr,gr]
  repeat' split
  all_goals first|rfl| (exfalso;lia) | (congr 1;lia)
 have c:a.toList=a.toList.take b++((a.toList.drop b).take m.size++a.toList.drop (b+m.size)):=by
  conv=>lhs;rw[<-gL b a.toList,pQ a.toList b m.size]
 rw[e]
 conv=>rhs;rw[c]
 exact List.Perm.append_left _^p.append_right _
section
variable {O:KeyOrd} {key:Keyed->O.α} {S:Keyed->Prop} {k0:SortKind} {prog:Program} {w:World} {A:Around} {E:Value->Shared->Prop} {s:Shared} {st bV:SortSt}
def TJ(h:Q ⟨⟩ a):wpS M A E s (set a:StateT SortSt Sem PUnit) Q st:=by
 unfold wpS;rw[StateT.run_set];exact tz #[rfl,h]
def gq{xs:Array Keyed}{a b:Nat}(h:kG O key xs a b){i j:Nat}(c:a<=i)(d:i<=j)(e:j<b)(f:xs[i]?\x)(g:xs[j]?\y):LE O key x y:=by
 have:=h i j c d e
 unfold ky at this;rw[f,g] at this;exact this
def F4{xs:Array Keyed}(k:b<=xs.size)(h:∀i j x y,a<=i->i<=j->j<b->xs[i]?\x->xs[j]?\y->LE O key x y):kG O key xs a b:=λi j e f g=>by
 obtain⟨x,c,_,_⟩:=bI (xs:=xs) (i:=i) ()
 obtain⟨y,d,_,_⟩:=bI (xs:=xs) (i:=j) ()
 unfold ky;rw[c,d];exact h i j x y e f g c d
def ext_get{xs:Array Keyed}{a b i:Nat}(c:b<=xs.size)(d:i<b-a):(xs.extract a b)[i]? =xs[a+i]? :=by
 rw[Array.getElem?_extract,ir ()]
def ext_mem{c:Array Keyed}{a b:Nat}{x:Keyed}(h:x∈(c.extract a b).toList):∃i,a<=i/\i<b/\i<c.size/\c[i]?\x:=by
 rw[ext_toList] at h;obtain⟨j,f,d,e⟩:=fF h;rw[dj] at d;exact#[a+j,(),(),d,l0 e]
def L4(h:kG O key xs a b)(c:b<=xs.size):(xs.extract a b).toList.Pairwise^LE O key:=by
 rw[BY];intro i j d e l;have f:(xs.extract a b).toList.length=b-a:=by rw[dj,yc];lia
 rw[f] at d e;have g:=ext_get (xs:=xs) (a:=a) c d;have k:=ext_get (xs:=xs) (a:=a) c e;refine gq h (i:=a+i) (j:=a+j) () () () ?_ ?_
 .rw[<-g,<-gr];exact bA _
 .rw[<-k,<-gr];exact bA _
def Gh(C:iW O key S k0 (d5 prog w) A E s)(o:Ok S k0 st)(hf:hB st=none)(p1:(d7 st)[i]?\(b,d,pw))(p2:(d7 st)[i+1]?\(b+d,v,Oi))(hna:1<=d)(UN:1<=v)(e8:b+d+v<=(d6 st).size)
  (N:kG O key (d6 st) b (b+d)) (P:kG O key (d6 st) (b+d) (b+d+v))
  (q:∀l,(d6 l).Perm^d6 st->kindOf l=kindOf st->hB l=none->d7 l=((d7 st).setIfInBounds i (b,d+v,pw)).eraseIdxIfInBounds (i+1)->(∀j,j<b\/b+d+v<=j->(d6 l)[j]? =(d6 st)[j]?)->kG O key (d6 l) b (b+(d+v))->Q true l):
  lu (d5 prog w) A E s (mergeAt' i) Q st:=by
 rw[FA];refine Do^adZ ?_;rw[p1,p2];dsimp only;refine Do^TJ ?_;generalize ((d7 st).setIfInBounds i (b,d+v,pw)).eraseIdxIfInBounds (i+1)=pn at q;have o':Ok S k0^h0 st pn:=#[o.mem,o.kind];have mem:∀x∈(d6 st).toList,S x:=o.mem;let⟨Y,Yx,mb0,lb0⟩:=bI (xs:=d6 st) (i:=b+d) ()
 refine Do^bp Yx ?_;have sD:∀(j:Nat)(z:Keyed),(d6 st)[j]?\z->(d6 st)[j]?.getD (Value.none,Value.none)=z:=λj z e=>by rw[e];rfl
 refine Do (iQ C (rX mem (i:=b) (n:=d) ()) (mem Y mb0) o'.kind () (λi j G Z h=>?_) λk hk kt kf=>?_)
 .obtain⟨xi,M,_,_⟩:=bI (xs:=d6 st) (i:=b+i) ()
  let⟨xj,e2,D,K⟩:=bI (xs:=d6 st) (i:=b+j) ()
  unfold fi at h ⊢;rw[mo ∅] at h ⊢
  rw[e2] at h;rw[M];have h':O.kle (key xj)^key Y:=by unfold KeyOrd.kle;simpa using h
  have:=M2 (gq N () () () M e2) h'
  unfold KeyOrd.kle at this;simpa using this
 have klo:∀j x,b<=j->j<b+k->(d6 st)[j]?\x->LE O key x Y:=λj x f B e=>by
  have:=kt (j-b) ()
  unfold fi at this;rw[mo ∅,show b+(j-b)=j by lia,sD j x e] at this
  show O.blt _ _=false;simpa using this
 have khi:∀j x,b+k<=j->j<b+d->(d6 st)[j]?\x->LE O key Y x:=λj x f B e=>by
  have:=kf (j-b) () ()
  unfold fi at this;rw[mo ∅,show b+(j-b)=j by lia,sD j x e] at this
  exact SB (show O.blt _ _=true by simpa using this)
 dsimp only;have WH:∀j y,b+d<=j->j<b+d+v->(d6 st)[j]?\y->LE O key Y y:=λj y f B e=>gq P () f B Yx e
 by_cases e0:d-k=0
 .rw[ir^~~~e0]
  refine FB^q _ (.refl _) rfl hf rfl (λ_ _=>rfl) ?_;refine F4 (by show b+(d+v)<=(d6 st).size;lia) λi j x y f G Z H I=>?_
  by_cases c1:j<b+d
  .exact gq N f G c1 H I
  .by_cases c2:i<b+d
   .exact M2 (klo i x f () H)^WH j y () () I
   .exact gq P () G () H I
 rw[mo^~~~e0]
 have abg:b+k+(d-k)-1=b+d-1:=()
 let⟨al,Uw,mal,lal⟩:=bI (xs:=d6 st) (i:=b+k+(d-k)-1) ()
 refine Do^bp Uw ?_;rw[abg] at Uw;refine Do (iQ C (rX mem (i:=b+d) (n:=v) ()) (mem al mal) o'.kind () (λi j G Z h=>?_) λm hm mt mf=>?_)
 .obtain⟨yi,M,_,_⟩:=bI (xs:=d6 st) (i:=b+d+i) ()
  let⟨yj,e2,D,K⟩:=bI (xs:=d6 st) (i:=b+d+j) ()
  unfold fi at h ⊢;rw[ir rfl] at h ⊢;rw[e2] at h;rw[M];exact ad4 (gq P () () () M e2) h
 have mlo:∀j y,b+d<=j->j<b+d+m->(d6 st)[j]?\y->LE O key y al:=λj y f B e=>by
  have:=mt (j-(b+d)) ()
  unfold fi at this;rw[ir rfl,show b+d+(j-(b+d))=j by lia,sD j y e] at this
  exact SB this
 have mhi:∀j y,b+d+m<=j->j<b+d+v->(d6 st)[j]?\y->LE O key al y:=λj y f B e=>by
  have:=mf (j-(b+d)) () ()
  unfold fi at this;rw[ir rfl,show b+d+(j-(b+d))=j by lia,sD j y e] at this
  exact this
 have xal:∀j x,b<=j->j<b+d->(d6 st)[j]?\x->LE O key x al:=λj x f B e=>gq N f () () e Uw
 dsimp only
 by_cases M:m=0
 .rw[ir^~~~M]
  refine FB^q _ (.refl _) rfl hf rfl (λ_ _=>rfl) ?_;refine F4 (by show b+(d+v)<=(d6 st).size;lia) λi j x y f G Z H I=>?_
  by_cases c1:j<b+d
  .exact gq N f G c1 H I
  .by_cases c2:i<b+d
   .exact M2 (xal i x f c2 H)^mhi j y () () I
   .exact gq P () G () H I
 rw[mo^~~~M]
 have T:k8 O key S ((d6 st).extract (b+k) (b+d))^(d6 st).extract (b+d) (b+d+m):=by
  refine#[λx J=>?_,λx J=>?_,L4 (λi j f B h3=>N i j () B h3) (),L4 (λi j f B h3=>P i j f B ()) (),by rw[yc];lia,by rw[yc];lia,λy hy x J=>?_,λx J y hy=>?_]
  .obtain⟨i,_,_,_,e⟩:=ext_mem J
   exact mem x^cU^ni e
  .obtain⟨i,_,_,_,e⟩:=ext_mem J
   exact mem x^cU^ni e
  .rw[ext_get () ()] at hy
   have NI:(d6 st)[b+d]?\y:=hy;rw[Yx] at NI;cases NI;let⟨i,f,B,D,e⟩:=ext_mem J;exact khi i x f B e
  .have hsz2:((d6 st).extract (b+k) (b+d)).size=d-k:=by rw[yc];lia
   rw[hsz2,ext_get () ()] at J
   rw[show b+k+(d-k-1)=b+d-1 by lia,Uw] at J;cases J
   let⟨i,f,B,D,e⟩:=ext_mem hy;exact mlo i y f B e
 have szx:((d6 st).extract (b+k) (b+d)).size=d-k:=by rw[yc];lia
 have szy:((d6 st).extract (b+d) (b+d+m)).size=m:=by rw[yc];lia
 have fin:∀(r:Array Keyed)(l:fB),GS (h0 st pn) l->Res O key (((d6 st).extract (b+k) (b+d)).toList++((d6 st).extract (b+d) (b+d+m)).toList) r.toList->
   lu (d5 prog w) A E s (do
    modify λs=>lv s (r.toList.zipIdx.foldl (λa (p,j)=>a.setIfInBounds (b+k+j) p)^d6 s)
    return (hB (<-get)).isNone) Q l:=by
  intro r l g u;refine Do^aea^Do^adZ ?_;have hfl:hB l=none:=g.failed.trans hf
  have hr:r.size=d-k+m:=by
   have:=u.1.length_eq
   rw[dJ,dj,dj,dj,szx,szy] at this;exact this
  have hb:b+k+r.size<=(d6 l).size:=by rw[g.arr];show _<=(d6 st).size;lia
  have ac6:(r.toList.zipIdx.foldl (λa (x:Keyed×Nat)=>match x with| (p,j)=>a.setIfInBounds (b+k+j) p)^d6 l)=putAt (d6 l) r (b+k):=rfl
  show lu _ _ _ _ (pure (hB l).isNone) Q^lv l^putAt (d6 l) r (b+k);rw[hfl];have ga:d6 l=d6 st:=g.arr;rw[ga] at hb ⊢;have L8:=λi=>A8 hb i;rw[hr] at L8
  have Xh:∀j x,b+k<=j->j<b+d+m->(putAt (d6 st) r (b+k))[j]?\x->∃i,b+k<=i/\i<b+d+m/\(d6 st)[i]?\x:=λj x f B e=>by
   rw[L8,ir ()] at e
   have hm:=u.1.mem_iff.mp^cU^ni e
   rcases bF.mp hm with z|z
   .obtain⟨i,R,a2,_,X⟩:=ext_mem z
    exact#[i,R,(),X]
   .obtain⟨i,R,a2,_,X⟩:=ext_mem z
    exact#[i,(),a2,X]
  have t:∀j,j<b+k\/b+d+m<=j->(putAt (d6 st) r (b+k))[j]? =(d6 st)[j]? :=λj h=>by rw[L8,mo ()]
  have Rw:∀i x j y,b<=i->i<b+k->(d6 st)[i]?\x->b+k<=j->j<b+d+v->(d6 st)[j]?\y->LE O key x y:=λi x j y R a2 a3 X a5 a6=>by
   by_cases c:j<b+d
   .exact gq N R () c a3 a6
   .exact M2 (klo i x R a2 a3)^WH j y () a5 a6
  have UJ:∀i x j y,b<=i->i<b+d+m->(d6 st)[i]?\x->b+d+m<=j->j<b+d+v->(d6 st)[j]?\y->LE O key x y:=λi x j y R a2 a3 X a5 a6=>by
   by_cases c:i<b+d
   .exact M2 (xal i x R c a3)^mhi j y X a5 a6
   .exact gq P () () a5 a3 a6
  refine FB^q _ ?_ g.kind hfl g.pend (λj Z=>t j ()) ?_
  .refine Im hb ?_
   rw[hr];refine u.1.trans ?_;rw[ext_toList,ext_toList,show b+d-(b+k)=d-k by lia,show b+d+m-(b+d)=m by lia]
   have:((d6 st).toList.drop (b+k)).take (d-k+m)=((d6 st).toList.drop (b+k)).take (d-k)++((d6 st).toList.drop (b+d)).take m:=by
    rw[qF _ (show d-k<=d-k+m by lia),List.drop_drop,show b+k+(d-k)=b+d by lia,show d-k+m-(d-k)=m by lia]
   rw[this]
  .refine F4 (by show b+(d+v)<=(putAt (d6 st) r (b+k)).size;rw[Io hb];lia) λi j x y f G Z H I=>?_
   have L:(putAt (d6 st) r (b+k))[i]?\x:=H;have F:(putAt (d6 st) r (b+k))[j]?\y:=I
   by_cases ci:i<b+k
   .rw[t i^.inl ci] at L
    by_cases cj:j<b+k
    .rw[t j^.inl cj] at F
     exact gq N f G () L F
    .by_cases cj2:j<b+d+m
     .obtain⟨j',b1,b2,b3⟩:=Xh j y () cj2 F
      exact Rw i x j' y f ci L b1 () b3
     .rw[t j^.inr ()] at F
      exact Rw i x j y f ci L () () F
   .by_cases ci2:i<b+d+m
    .by_cases cj2:j<b+d+m
     .rw[L8,ir ()] at L F
      exact gY u.2 () (ni L)^ni F
     .obtain⟨i',b1,b2,b3⟩:=Xh i x () ci2 L
      rw[t j^.inr ()] at F
      exact UJ i' x j y () b2 b3 () () F
    .rw[t i^.inr ()] at L
     rw[t j^.inr ()] at F
     exact gq P () G () L F
 by_cases c:d-k<=m
 .rw[ir c]
  exact Do (Gj C o'.kind T λr l g u=>fin r l g u)
 .rw[mo c]
  exact Do (Gi C o'.kind T λr l g u=>fin r l g u)
end
abbrev U1:=Option Unit×Unit
noncomputable def ME(b:Nat):StateT fB j_^ForInStep U1:=do
 let st <-get
 match (if (d7 st).size>1 then(d7 st)[(d7 st).size-2]? else none) with
 |some (_,_,a)=>
  if a<=b then pure (ForInStep.done (none,Unit.unit))
  else do
   let ok <-mergeAt' ((d7 st).size-2)
   if (!ok)=true then pure^ForInStep.done (some ⟨⟩,Unit.unit) else pure^ForInStep.yield (none,Unit.unit)
 |_=>pure^ForInStep.done (none,Unit.unit)
noncomputable def oF(size lo n:Nat):StateT fB j_^ForInStep (Option Unit×Nat):=do
 let st <-get
 match (d7 st).back? with
 |some (b,a,_)=>do
  let t <-forIn [0:size] ((none,⟨⟩):U1) λ_ _=>ME^power' size (2*b+a) (2*b+a+a+n) size
  match t.1 with
  |some r=>pure^ForInStep.done (some r,lo)
  |none=>do
   modify λs=>h0 s ((d7 s).modify ((d7 s).size-1) λx=>(x.1,x.2.1,power' size (2*b+a) (2*b+a+a+n) size))
   modify λs=>h0 s ((d7 s).push (lo,n,0))
   pure^ForInStep.yield (none,lo+n)
 |_=>do
  modify λs=>h0 s ((d7 s).push (lo,n,0))
  pure^ForInStep.yield (none,lo+n)
noncomputable def F3(size lo:Nat):StateT fB j_^ForInStep (Option Unit×Nat):=
 if lo>=size then pure (ForInStep.done (none,lo))
 else do
  let x <-countRun' lo (size-lo)
  match x with
  |some a=>
   if a<minRun' size size 0 then do
    liftM^rule "list.sort.binary-insertion"
    let ok <-binarySort' lo (min (size-lo)^minRun' size size 0) a
    if (!ok)=true then pure^ForInStep.done (some ⟨⟩,lo) else oF size lo (min (size-lo)^minRun' size size 0)
   else oF size lo a
  |_=>pure^ForInStep.done (some ⟨⟩,lo)
noncomputable def Ld:StateT fB j_^ForInStep U1:=do
 let st <-get
 if (d7 st).size<=1 then pure (ForInStep.done (none,Unit.unit))
 else do
  let ok <-mergeAt' (if (if (d7 st).size-2>0 then(d7 st)[(d7 st).size-2-1]?.map (·.2.1) else none).any (·<((d7 st)[(d7 st).size-2+1]?.elim 0 (·.2.1))) then(d7 st).size-2-1 else(d7 st).size-2)
  if (!ok)=true then pure^ForInStep.done (some ⟨⟩,Unit.unit) else pure^ForInStep.yield (none,Unit.unit)
theorem Bn:sortRuns'=(do
 let st <-get
 let c <-forIn [0:(d6 st).size] ((none,0):Option Unit×Nat) λ_ c=>F3 (d6 st).size c.2
 match c.1 with
 |some r=>pure r
 |none=>do
  let t <-forIn [0:(d6 st).size] ((none,⟨⟩):U1) λ_ _=>Ld
  match t.1 with
  |some r=>pure r
  |none=>pure ⟨⟩):=by
 rw[sortRuns'_eq];dsimp only;refine dW rfl λst=>dW (E3 λ_ c=>?_) λc=>?_
 .unfold F3
  refine gm (λ_=>rfl)^λ_=>dW rfl λx=>?_;cases x with
  |none=>rfl
  |some f=>
   dsimp only;have i:∀n:Nat,oF (d6 st).size c.2 n=oF (d6 st).size c.2 n:=λ_=>rfl;refine gm (λ_=>dW rfl λ_=>dW rfl λok=>gm (λ_=>rfl)^λ_=>?_)^λ_=>?_
   all_goals
    unfold oF;refine dW rfl λd=>?_;cases(d7 d).back? with
    |none=>rfl
    |some e=>
     obtain⟨j,k,l⟩:=e;dsimp only;refine dW (E3 λ_ c=>?_) λt=>?_
     .unfold ME
      refine dW rfl λa=>?_;cases(if (d7 a).size>1 then(d7 a)[(d7 a).size-2]? else none) with
      |none=>rfl
      |some e=>rfl
     .obtain⟨b,g⟩:=t
      cases b<;>rfl
 .obtain⟨h,m⟩:=c
  cases h with
  |some r=>rfl
  |none=>
   dsimp only;refine dW (E3 λ_ c=>?_) λt=>?_
   .rfl
   .obtain⟨b,g⟩:=t
    cases b<;>rfl
section
variable {O:KeyOrd} {key:Keyed->O.α} {S:Keyed->Prop} {k0:SortKind} {prog:Program} {w:World} {A:Around} {E:Value->Shared->Prop} {s:Shared} {st bV:SortSt}
def kX(O:KeyOrd)(key:Keyed->O.α)(c:Array Keyed):Nat->List (Nat×Nat)->Nat->Prop
 |a,[],b=>a=b
 |a,e::r,b=>e.1=a/\1<=e.2/\kG O key c a (a+e.2)/\kX O key c (a+e.2) r b
theorem kX.app:∀{j g:List (Nat×Nat)}{a b:Nat},kX O key i a (j++g) b↔∃c,kX O key i a j c/\kX O key i c g b
 | [],g,a,b=>#[λh=>#[a,rfl,h],λ#[c,d,f]=>by cases d;exact f]
 |e::j,g,a,b=>by
  constructor
  .rintro⟨d,f,k,n⟩
   obtain⟨c,l,m⟩:=kX.app.mp n;exact#[c,#[d,f,k,l],m]
  .rintro⟨c,⟨d,f,k,l⟩,m⟩
   exact#[d,f,k,kX.app.mpr #[c,l,m]]
theorem kX.le:∀{l:List (Nat×Nat)}{a b:Nat},kX O key c a l b->a+l.length<=b
 | [],a,b,h=>by cases h;simp
 |e::l,a,b,#[_,f,_,d]=>by
  have:=kX.le d
  rw[cJ];lia
def Bt(h:∀i,a<=i->i<b->d[i]? =c[i]?)(g:kG O key c a b):kG O key d a b:=λi j e k f=>by
 rw[jG^h i e (),jG^h j () f];exact g i j e k f
theorem kX.congr:∀{l:List (Nat×Nat)}{a b:Nat},(∀i,a<=i->i<b->d[i]? =c[i]?)->kX O key c a l b->kX O key d a l b
 | [],a,b,_,h=>h
 |e::l,a,b,f,#[m,n,o,g]=>by
  have:=kX.le g
  exact#[m,n,Bt (λi j k=>f i j ()) o,kX.congr (λi j k=>f i () k) g]
noncomputable def pl(st:SortSt):List (Nat×Nat):=(pendingOf st).toList.map λe=>(e.1,e.2.1)
structure SI (O:KeyOrd) (key:Keyed->O.α) (S:Keyed->Prop) (k0:SortKind) (a0:Array Keyed) (st:SortSt) (lo:Nat):Prop where
 ok:Ok S k0 st
 failed:failedOf st=none
 perm:(arrOf st).Perm a0
 cov:kX O key (arrOf st) 0 (pl st) lo
 le:lo<=a0.size
theorem SI.size{a:Array Keyed}{lo:Nat}(h:SI O key S k0 a st lo):(arrOf st).size=a.size:=h.perm.size_eq
def IZ(C:iW O key S d (d5 prog w) A E s){n:Array Keyed}{lo i:Nat}{Q:Bool->fB->Prop}(h:SI O key S d n st lo)(J:i+1<(d7 st).size)
  (q:∀a,SI O key S d n a lo->(d7 a).size=(d7 st).size-1->(∀j,lo<=j->(d6 a)[j]? =(d6 st)[j]?)->Q true a):lu (d5 prog w) A E s (mergeAt' i) Q st:=by
 have L:(d7 st)[i]? =some (d7 st)[i]:=adV _ i ()
 have M:(d7 st)[i+1]? =some (d7 st)[i+1]:=adV _ (i+1) J
 have o:(d7 st).toList=(d7 st).toList.take i++((d7 st)[i]::(d7 st)[i+1]::(d7 st).toList.drop (i+2)):=by
  conv=>lhs;rw[<-gL i (d7 st).toList]
  congr 1
  rw[qN^by rw[dj];lia,qN^by rw[dj];lia]
  rfl
 generalize hx:(d7 st)[i]=x at*;generalize hy:(d7 st)[i+1]=y at*;let⟨e,f,N⟩:=x;let⟨sb,g,Oi⟩:=y;have k:=h.cov;unfold pl at k;refine ae λG0 d=>?_;rw[o,dk,cY,cY] at k;let⟨c,P,R⟩:=kX.app.mp k;let⟨r,t,u,v,z,B,l⟩:=R;refine d ?_;dsimp only at r t u v z B l;subst r;subst v;have T:=l.le;have e8:=h.size;have xh:=h.le;refine Gh C h.ok h.failed L M t z () u B λa F X Y Z m b6=>?_
 have G:(d7 a).toList=(d7 st).toList.take i++((e,f+g,N)::(d7 st).toList.drop (i+2)):=by
  rw[Z,Array.toList_eraseIdxIfInBounds,Array.toList_setIfInBounds]
  conv=>lhs;rw[o]
  have b:((d7 st).toList.take i).length=i:=by rw[hV,dj];lia
  rw[List.set_append_right _ _ (),List.eraseIdx_append_of_length_le (),b,oJ,show i+1-i=1 by lia]
  rfl
 refine q a #[#[λp hp=>h.ok.mem p^(Gw.mp F).mem_iff.mp hp,X.trans h.ok.kind],Y,F.trans h.perm,?_,h.le] ?_ λj hj=>m j^.inr ()
 .unfold pl
  rw[G,dk,cY];refine kX.app.mpr #[e,kX.congr (λj H I=>m j^.inl I) P,rfl,?_,b6,?_]
  .show 1<=f+g;lia
  .show kX O key (d6 a) (e+(f+g)) _ lo
   rw[<-Nat.add_assoc];exact kX.congr (λj H I=>m j^.inr H) l
 .rw[<-dj,G,dJ,cJ,hV,ji,dj];lia
def Kp(bV st:SortSt)(lo:Nat):Prop:=∀j,lo<=j->(arrOf st)[j]? =(arrOf bV)[j]?
def OL(C:iW O key S k0 (d5 prog w) A E s){f:Array Keyed}{lo g:Nat}(h:SI O key S k0 f st lo)(d:Kp bV st lo):lu (d5 prog w) A E s (ME g) (λr a=>match r with| .done c=>c=(none,⟨⟩)/\SI O key S k0 f a lo/\Kp bV a lo| .yield c=>c=(none,⟨⟩)/\SI O key S k0 f a lo/\Kp bV a lo) st:=by
 unfold ME;refine Do^adZ ?_
 by_cases i:(d7 st).size>1
 .rw[ir i]
  cases e:(d7 st)[(d7 st).size-2]? with
  |none=>exact FB #[rfl,h,d]
  |some x=>
   let⟨o,p,l⟩:=x;dsimp only
   by_cases b:l<=g
   .rw[ir b];exact FB #[rfl,h,d]
   .rw[mo b]
    refine Do (IZ C h () λa m _ n=>?_)
    exact FB #[rfl,m,λj k=>(n j k).trans^d j k]
 .rw[mo i]
  exact FB #[rfl,h,d]
def Sq{lo n:Nat}:pl^h0 st^(d7 st).push (lo,n,0)=pl st++ [(lo,n)]:=by
 unfold pl;show((d7 st).push (lo,n,0)).toList.map _=_;rw[B3,dk];rfl
def KJ:pl^h0 st ((d7 st).modify i λx=>(x.1,x.2.1,a))=pl st:=by
 unfold pl;show((d7 st).modify i λx=>(x.1,x.2.1,a)).toList.map _=_;apply ph;intro j;rw[cL,cL,gr,gr,Array.getElem?_modify]
 by_cases e:i=j
 .rw[ir e]
  cases(d7 st)[j]? <;>rfl
 .rw[mo e]
def SI.Mq{a:Array Keyed}{lo n:Nat}(h:SI O key S k0 a st lo)(b:1<=n)(c:lo+n<=a.size)(d:kG O key (d6 st) lo (lo+n)):SI O key S k0 a (h0 st^(d7 st).push (lo,n,0)) (lo+n):=by
 refine#[#[h.ok.mem,h.ok.kind],h.failed,h.perm,?_,c];rw[Sq];exact kX.app.mpr #[lo,h.cov,rfl,b,d,rfl]
theorem yR(C:iW O key S k0 (d5 prog w) A E s){b:Array Keyed}{lo n:Nat}(h:SI O key S k0 b st lo)(k:1<=n)(l:lo+n<=b.size)(m:kG O key (d6 st) lo (lo+n)):
  lu (d5 prog w) A E s (oF b.size lo n) (λr a=>match r with| .done c=>False| .yield c=>c=(none,lo+n)/\SI O key S k0 b a (lo+n)) st:=by
 unfold oF;refine Do^adZ ?_;cases(d7 st).back? with
 |none=>exact Do^aea^FB #[rfl,h.Mq k l m]
 |some e=>
  let⟨p,j,v⟩:=e;dsimp only;refine Do^SC (SL (I:=λ(x:Nat)(c:U1)(a:fB)=>c=(none,⟨⟩)/\SI O key S k0 b a lo/\Kp st a lo) (Q:=λc a=>c=(none,⟨⟩)/\SI O key S k0 b a lo/\Kp st a lo) (λx c a _ _ g=>?_) (λc a g=>g) #[rfl,h,λ_ _=>rfl]) ?_
  .refine SC (OL C g.2.1 g.2.2) λr y o=>?_
   cases r with
   |done d=>exact o
   |yield d=>exact o
  .rintro c a ⟨rfl,f,q⟩
   dsimp only;refine Do^aea^Do^aea^FB #[rfl,?_]
   have t:SI O key S k0 b (h0 a ((d7 a).modify ((d7 a).size-1) λx=>(x.1,x.2.1,power' b.size (2*p+j) (2*p+j+j+n) b.size))) lo:=
    #[#[f.ok.mem,f.ok.kind],f.failed,f.perm,by rw[KJ];exact f.cov,f.le]
   exact t.Mq k l^Bt (λi u z=>q i u) m
def SI.stp{b:Array Keyed}{lo c:Nat}{a:fB}(h:SI O key S k0 b st lo)(t:iY st a lo c):SI O key S k0 b a lo:=
 #[h.ok.step t,t.failed.trans h.failed,t.perm.trans h.perm,by
  have:pl a=pl st:=by unfold pl;rw[t.pend]
  rw[this];exact kX.congr (λi _ d=>t.out i^.inl d) h.cov,h.le]
theorem Lw(C:iW O key S k0 (d5 prog w) A E s){a:Array Keyed}{lo:Nat}(h:SI O key S k0 a st lo):
  lu (d5 prog w) A E s (F3 a.size lo) (λr b=>match r with| .done c=>c=(none,lo)/\a.size<=lo/\SI O key S k0 a b lo| .yield c=>∃n,1<=n/\c=(none,lo+n)/\SI O key S k0 a b (lo+n)) st:=by
 unfold F3;have t:=h.size;have j:=h.le
 by_cases f:lo>=a.size
 .rw[ir f];exact FB #[rfl,f,h]
 .rw[mo f]
  refine Do (wpS_countRun C h.ok () () λm u k m1 v g=>?_)
  dsimp only;have e:=h.stp k;have l:=e.size
  by_cases i:m<minRun' a.size a.size 0
  .rw[ir i]
   refine Do^aep^adI #[rfl,?_];refine Do (wpS_binarySort C e.ok () () g λx p q=>?_)
   rw[mo ∅]
   refine SC (yR C (e.stp p) () () q) λr b o=>?_
   cases r with
   |done d=>exact o.elim
   |yield d=>exact#[_,(),o.1,o.2]
  .rw[mo i]
   refine SC (yR C e m1 () g) λr b o=>?_
   cases r with
   |done d=>exact o.elim
   |yield d=>exact#[_,m1,o.1,o.2]
def ite_le [Decidable c]:(if c then p-1 else p)<=p:=by split<;>lia
def Lv(C:iW O key S k0 (d5 prog w) A E s)(h:SI O key S k0 a st a.size)(g:(d7 st).size<=max 1 (a.size-x)):
  lu (d5 prog w) A E s Ld (λr b=>match r with| .done c=>c=(none,⟨⟩)/\SI O key S k0 a b a.size/\(d7 b).size<=1| .yield c=>c=(none,⟨⟩)/\SI O key S k0 a b a.size/\(d7 b).size<=max 1 (a.size-(x+1))) st:=by
 unfold Ld;refine Do^adZ ?_
 by_cases d:(d7 st).size<=1
 .rw[ir d];exact FB #[rfl,h,d]
 .rw[mo d]
  refine Do (IZ C h (nI (Nat.succ_le_succ ite_le) ()) λb f e _=>?_)
  exact FB #[rfl,f,()]
theorem wpS_sortRuns(C:iW O key S k0 (d5 prog w) A E s){Q:Unit->fB->Prop}(o:Ok S k0 st)(t:hB st=none)(u:d7 st= #[])(F:1<=(d6 st).size)
  (q:∀a,(d6 a).Perm^d6 st->hB a=none->kG O key (d6 a) 0 (d6 st).size->Q ⟨⟩ a):lu (d5 prog w) A E s sortRuns' Q st:=by
 rw[Bn];refine Do^adZ ?_;have v:SI O key S k0 (d6 st) st 0:=#[o,t, .refl _,by unfold pl;rw[u];rfl,eB _]
 refine Do^SC (SL (I:=λ(x:Nat)(c:Option Unit×Nat)(a:fB)=>∃lo,c=(none,lo)/\min x (d6 st).size<=lo/\SI O key S k0 (d6 st) a lo) (Q:=λc a=>c=(none,(d6 st).size)/\SI O key S k0 (d6 st) a (d6 st).size) (λx c a _ _ b=>?_) (λc a b=>?_) #[0,rfl,(),v]) ?_
 .obtain⟨lo,rfl,y,f⟩:=b
  refine SC (Lw C f) λr g o=>?_;cases r with
  |done d=>
   let⟨e,G,h⟩:=o
   have:=h.le
   have j:lo=(d6 st).size:=()
   rw[j] at e h;exact#[e,h]
  |yield d=>
   let⟨n,H,e,h⟩:=o;exact#[lo+n,e,(),h]
 .obtain⟨lo,rfl,y,f⟩:=b
  have:=f.le
  have j:lo=(d6 st).size:=()
  rw[j] at f ⊢;exact#[rfl,f]
 .rintro c a ⟨rfl,f⟩
  dsimp only
  have p:(d7 a).size<=(d6 st).size:=by
   have:=f.cov.le
   unfold pl at this;rw[aI,dj] at this;lia
  refine Do^SC (SL (I:=λ(x:Nat)(c:U1)(a:fB)=>c=(none,⟨⟩)/\SI O key S k0 (d6 st) a (d6 st).size/\(d7 a).size<=max 1 ((d6 st).size-x)) (Q:=λc a=>c=(none,⟨⟩)/\SI O key S k0 (d6 st) a (d6 st).size/\(d7 a).size<=1) (λx c a _ _ b=>?_) (λc a b=>?_) #[rfl,f,()]) ?_
  .refine SC (Lv C b.2.1 b.2.2) λr g o=>?_
   cases r with
   |done d=>exact o
   |yield d=>exact o
  .exact#[b.1,b.2.1,by have:=b.2.2;lia]
  .rintro c g ⟨rfl,k,l⟩
   refine FB^q g k.perm k.failed ?_;have i:=k.cov;have m:(pl g).length<=1:=by unfold pl;rw[aI,dj];exact l
   match cR:pl g,m with
   | [],_=>rw[cR] at i;exact absurd i (by show ¬(0=(d6 st).size);lia)
   | [e],_=>
    rw[cR] at i;let⟨J,L,z,B⟩:=i
    have:0+e.2=(d6 st).size:=B
    rw[<-this];exact z
end
section
variable {O:KeyOrd} {key:Keyed->O.α} {S:Keyed->Prop} {k0:SortKind} {prog:Program} {w:World} {A:Around} {E:Value->Shared->Prop} {s:Shared}
def Keeps(s a:Shared):Prop:=∀b o,s.heap.get? b\o->a.heap.get? b\o
def yb(a:List Value):(a.toArray.zip a.toArray).toList=a.map λv=>(v,v):=by
 rw[Array.toList_zip];show List.zip a a=_
 induction a with
 |nil=>rfl
 |cons v r b=>rw[List.zip_cons_cons,cY,b]
def We(h:kG O key a 0 a.size):a.toList.Pairwise^LE O key:=by
 rw[BY];intro i j c b d;rw[dj] at c b;exact gq h (eB _) (lR d) b (l0^bA _)^l0^bA _
def qd(j:s.heap.get? a\(gk "list" c.toArray n))(N:2<=c.length)(R:c.length<=1000)(ne:∀b o,s.heap.get? b\o->b≠a->True)
  {s0:c_} (k:∀b o,s0.heap.get? b\o->b≠a/\s.heap.get? b\o)
  (z:∀(E:b_->c_->Prop)(d:c_)(m:hT->c_->Prop),Keeps s0 d->m k0 d->d_ (d5 prog w) A (keyKind' c.toArray) m E d)
  (C:∀(E:b_->c_->Prop)(d:c_),Keeps s0 d->iW O key S k0 (d5 prog w) A E d) (mem:∀v∈c,S (v,v))
  (h:∀out:Array Keyed,out.toList.Perm (c.map λv=>(v,v))->out.toList.Pairwise^LE O key->P (.done^.ret .none) {s with heap:=sortedHeap s.heap a c^out.map (·.2)}):
  d_ (d5 prog w) A (Builtin.«list.sort» #[[.ref a],[]]) P E s:=by
 rw[list_sort_plain];have q:a<s.heap.objs.size:=Da j;have T:1000<sizeLine:=∅
 refine a_^listItems_at j rfl ?_;refine a_^ae4 j rfl ?_ (by rw[cE];lia)^eB _
 obtain⟨l,r⟩:∃l,(s.heap.update a (Obj.mapSeq λ_=> #[])).get? a\(gk "list" #[] l):=#[_,get?_update_seq j^λ_=> #[]];refine a_^afJ r rfl ?_;refine a_^afP ?_^by show c.length<=_;lia
 refine a_^aem ?_^eB _;refine On ?_
 have t:(((s.heap.update a (Obj.mapSeq λ_=> #[])).push^gk "tuple" c.toArray 0).push^gk "list" #[] 0).get? a\(gk "list" #[] l):=by
  rw[aed _ _ _^by rw[afc,adW];exact bX^ye q,aed _ _ _^by rw[adW];exact bX q]
  exact r
 show d_ (d5 prog w) A _ P E {s with heap:=((s.heap.update a (Obj.mapSeq λ_=> #[])).push^gk "tuple" c.toArray 0).push^gk "list" #[] 0}
 have u:Keeps s0 {s with heap:=((s.heap.update a (Obj.mapSeq λ_=> #[])).push^gk "tuple" c.toArray 0).push^gk "list" #[] 0}:=λb o e=>by
  let⟨B,F⟩:=k b o e;refine AC _^AC _ ?_;rw[adQ _ _ _ _ B];exact F
 dsimp only;have X:c.toArray.size=c.length:=by simp
 have x:¬c.toArray.size<2:=()
 rw[mo x,mo x];refine a_^z _ _ _ u ?_;have g:(c.toArray.zip c.toArray).size=c.length:=by rw[<-dj,yb,aI]
 refine a_ (hH (wpS_sortRuns (C _ _ u) (st:=SortSt.mk' k0 (c.toArray.zip c.toArray) #[] 7 none)
   (Q:=λ_ f=>(d6 f).Perm^c.toArray.zip c.toArray/\hB f=none/\kG O key (d6 f) 0 (c.toArray.zip c.toArray).size)
   #[λp i=>?_,rfl] rfl rfl (by show 1<=(c.toArray.zip c.toArray).size;lia) λf G H I=>#[G,H,I]) ?_ λ_ _ e=>e)
 .have y:p∈(c.toArray.zip c.toArray).toList:=i
  rw[yb] at y;let⟨v,J,rfl⟩:=bR.mp y;exact mem v J
 rintro⟨⟨⟩,f⟩ d ⟨rfl,i,L,M⟩;dsimp only;have Y:(d6 f).size=c.length:=by rw[i.size_eq,g]
 refine a_^afJ t rfl ?_;refine a_^ae4 t rfl ?_ (eB _)^by rw[Array.size_map];lia
 rw[L];simp only[afa,fL,Pi];refine tz^h (d6 f) ?_ ?_
 .rw[<-yb];exact Gw.mp i
 .refine We ?_
  rw[i.size_eq];exact M
def IH(j:s.heap.IsList l a.toArray)(k:2<=a.length)(n:a.length<=1000)
  (p:∀(E:b_->c_->Prop)(c:c_)(g:hT->c_->Prop),Keeps s c->g k0 c->d_ (d5 prog w) A.in1.in1 (keyKind' a.toArray) g E c)
  (C:∀(E:b_->c_->Prop)(c:c_),Keeps s c->iW O key S k0 (d5 prog w) A.in1.in1 E c) (mem:∀v∈a,S (v,v))
  (h:∀out:Array Keyed,out.toList.Perm (a.map λv=>(v,v))->out.toList.Pairwise^LE O key->Q (.ref (s.heap.objs.size+1)) {s with heap:=sortedAll s.heap a^out.map (·.2)}):
  d_ (d5 prog w) A (call (.builtin "sorted") [.ref l]) Q E s:=by
 have u:1000<sizeLine:=∅
 refine ad1 kind_sorted afX afY (afZ _) ?_;unfold Builtin.«sorted»;refine a_ (m:=checkCount "sorted" 1 1 _)^tz ?_;refine a_^af0 j ?_ ()
 refine a_^aem ?_^by show a.length<=_;lia
 have d:((s.heap.push^gk "list" #[] 0).update s.heap.objs.size^Obj.mapSeq (·++a.toArray)).objs.size=s.heap.objs.size+1:=by
  rw[adW,afc]
 have i:(((s.heap.push^gk "list" #[] 0).update s.heap.objs.size^Obj.mapSeq (·++a.toArray)).push^gk "list" a.toArray 0).get? (s.heap.objs.size+1)\(gk "list" a.toArray 0):=by
  rw[<-d];exact GM _ rfl
 have keep:∀b o,s.heap.get? b\o->(((s.heap.push^gk "list" #[] 0).update s.heap.objs.size^Obj.mapSeq (·++a.toArray)).push^gk "list" a.toArray 0).get? b\o:=λb o q=>by
  have f:b<s.heap.objs.size:=Da q;rw[aed _ _ _^by rw[d];exact bX^ye f,adQ _ _ _ _^bX f,aed _ _ _^bX f]
  exact q
 show d_ _ _ _ _ _ {s with heap:=((s.heap.push^gk "list" #[] 0).update s.heap.objs.size^Obj.mapSeq (·++a.toArray)).push^gk "list" a.toArray 0}
 rw[d];refine a_^On^ads k_ #[_,i,rfl] j0 (qd (s0:=s) i k n (λ_ _ _ _=>trivial) (λb o e=>#[bX^ye^Da e,keep b o e]) p C mem λout r t=>#[_,rfl,?_])^aeQ _;exact tz #[_,rfl,h out r t]
end
end TS
namespace L2
open PySem PySem.Spec PyProof.Rows
noncomputable def lexOrd:KeyOrd where
 α:=Nat×Nat
 blt:=lE
 irrefl:=λa=>by unfold lE;rw[ir rfl];simp
 trans:=λa b c d e=>Rn _ _ _ d e
 negTrans:=λa b c h=>NP _ _ _ h
 total:=λa b d e=>Wb.rq (AF e)^AF d
noncomputable def keyOf(L:List (Addr×(Nat×Nat)))(v:Keyed):Nat×Nat:=match v.1 with
 | .ref a=>((L.find? λe=>e.1==a).map (·.2)).getD (0,0)
 |_=>(0,0)
def KD(h:i8 k=i8 b):k=b:=by
 unfold i8 at h
 injection h with c a
 injection a with a _
 injection c with c
 injection a with a
 exact UV () ()
def nY(c:se H L)(d:e∈L)(v:Value):keyOf L (.ref e.1,v)=e.2:=by
 unfold keyOf;dsimp only;cases b:L.find? λx=>x.1==e.1 with
 |none=>exact absurd (BR.mp b e d) (by simp)
 |some x=>
  have f:=afd b;have g:=List.find?_some b;have h:x.1=e.1:=by simpa using g
  have a:=c x f;have i:=c e d;rw[h,i] at a
  injection a with a
  injection a with a
  exact(KD a).symm
theorem kN [DecidableEq a] (f:a->b):∀(l:List b)(L:List a),l.Perm^L.map f->∃M:List a,M.Perm L/\l=M.map f
 | [],L,h=>by
  have:=h.length_eq
  rw[aI] at this
  have:L= []:=List.length_eq_zero_iff.mp this.symm
  subst this;exact#[[], .refl _,rfl]
 |x::r,L,h=>by
  let⟨e,d,rfl⟩:=bR.mp^h.mem_iff.mp cF;have c:=List.perm_cons_erase d;have g:(f e::r).Perm (f e::(L.erase e).map f):=h.trans^c.map f;let⟨M,m1,rfl⟩:=kN f r (L.erase e)^(List.perm_cons _).mp g;exact#[e::M,(m1.cons e).trans c.symm,rfl]
section
variable {X:Cx}
theorem II(I:Inv X d Y H s)(E:se H L)(hz:L.length<=1000)
  (Z:∀(P:List b_->c_->Prop),(∀h' tk,s.heap.objs.size<=h'.objs.size->(∀b o,s.heap.get? b\o->h'.get? b\o)->P (L.map λe=>Value.ref e.1) {s with heap:=h',toks:=tk})->d_ (d5 X.prog X.w) X.A.in1 (collect v) P X.xe s)
  (q:∀(q:Addr)(M:List (Addr×(Nat×Nat))),H q=none->M.Perm L->(M.map (·.2)).Pairwise Wb.lexLe->Q (.ref q)^upd H q^.lst (M.map λe=>V.ref e.1)):
  d_ (d5 X.prog X.w) X.A (call (.builtin "sorted") [v]) (EP X d Y Q) X.xe s:=by
 have eO:1000<sizeLine:=∅
 refine ad1 kind_sorted afX afY (afZ _) ?_;unfold Builtin.«sorted»;refine a_ (m:=checkCount "sorted" 1 1 _)^tz^a_ (Z _ λk Tx F RW=>a_^aem ?_^by rw[aI];lia)
 have G:(k.push^gk "list" (L.map λe=>Value.ref e.1).toArray 0).get? k.objs.size\(gk "list" (L.map λe=>Value.ref e.1).toArray 0):=GM _ rfl;have AL:∀b o,s.heap.get? b\o->b<k.objs.size:=λb o e=>Da^RW b o e
 have fin:∀(M:List (Addr×(Nat×Nat)))(out:Array b_),M.Perm L->(M.map (·.2)).Pairwise Wb.lexLe->out.toList=M.map (λe=>Value.ref e.1)->EP X d Y Q (.ref k.objs.size) {s with heap:=sortedHeap (k.push^gk "list" (L.map λe=>Value.ref e.1).toArray 0) k.objs.size (L.map λe=>Value.ref e.1) out,toks:=Tx}:=λM out B ms J=>by
  let⟨c,N⟩:=sortedHeap_at (out:=out) G;refine#[.ref k.objs.size,_,I.laid (t':=Tx) (λb o e=>?_) F (o:= .lst (M.map λe=>V.ref e.1)) #[by rw[aI,B.length_eq];lia,out.toList,c,?_,by rw[Array.toArray_toList];exact N],rfl,q _ M (I.hok.fresh F) B ms]
  .rw[sortedHeap_old (bX^AL b o e)^by rw[afc];exact ye^AL b o e]
   exact AC _^RW b o e
  .rw[J,show(λe:Addr×(Nat×Nat)=>V.ref e.1)=V.ref∘(·.1) from rfl,show(λe:Addr×(Nat×Nat)=>Value.ref e.1)=Value.ref∘(·.1) from rfl,<-cZ,<-cZ]
   exact tW _
 by_cases h2:L.length<2
 .refine a_^On^ads k_ #[_,G,rfl] j0 (KS.yN G (by rw[aI];exact h2) #[_,rfl,tz #[_,rfl,fin L _ (.refl _) ?_ rfl]])^aeQ _
  match L,h2 with
  | [],_=>exact .nil
  | [_],_=>exact Gy _ _
 .have l:∀e∈L,∀j:c_,TS.Keeps s j->∃t u,IsTup j.heap e.1 [.int (e.2.1:Nat) t, .int (e.2.2:Nat) u].toArray:=λe he j C=>by
   refine ae λG0 k0=>?_;let⟨t,u,o,J,N,n,hd⟩:=N5 I^E e he;refine k0 ?_;exact#[t,u,o,C _ _ J,N,n,hd]
  refine a_^On^ads k_ #[_,G,rfl] j0 (TS.qd (s0:=s) (O:=lexOrd) (key:=keyOf L) (S:=λp=>∃e∈L,p=(Value.ref e.1,Value.ref e.1)) (k0:=tuples' true) G (by rw[aI];lia) (by rw[aI];lia) (λ_ _ _ _=>trivial) (λb o e=>#[bX^AL b o e,AC _^RW b o e]) (λE' j P C hq=>?_) (λE' j C x y st P sx sy hk hq=>?_) (λv r=>?_) λout qa J0=>#[_,rfl,tz #[_,rfl,?_]])^aeQ _
  .have go:∀(M:List (Addr×(Nat×Nat))),(∀e∈M,e∈L)->∃fs:List b_,PySem.W.KatTups j.heap (M.map λe=>Value.ref e.1) fs/\fs.length=M.length/\∀v∈fs,∃i t,v= .int i t:=by
    intro M
    induction M with
    |nil=>exact λ_=>#[[],PySem.W.KatTups.nil,rfl,λv r=>by cases r]
    |cons e M ih=>
     intro hM;refine ae λG0 k0=>?_;let⟨fs,a,b,c⟩:=ih λx hx=>hM x^dS _ hx;let⟨t,u,o,J,N,n,hd⟩:=l e (hM e cF) j C;refine k0 ?_;refine#[.int (e.2.1:Nat) t::fs,PySem.W.KatTups.cons J N hd rfl a,by simp[b],λv r=>?_]
     rcases b7.mp r with z|z
     .exact#[_,_,z]
     .exact c v z
   let⟨fs,kt,kl,ki⟩:=go L λ_ h=>h;refine PySem.W.kat_kind (T:= .type "int") kt () (λv r=>by let⟨i,t,rfl⟩:=ki v r;exact .now) ∅ ?_
   have hb:(Value.type "int" !=Value.type "tuple")=true:=∅
   rw[hb];exact hq
  .obtain⟨f,m1,rfl⟩:=sx
   let⟨g,R,rfl⟩:=sy;rw[lt'_eq];refine Do^adZ ?_;rw[hk];refine ae λG0 k0=>?_;let⟨t1,t2,k1⟩:=l f m1 j C;let⟨u1,u2,k2⟩:=l g R j C;refine k0 ?_;refine Do^aep^ae5^U2 k1 k2 #[rfl,?_]
   have eb:(if ((f.2.1:Nat):Int)=((g.2.1:Nat):Int) then decide (((f.2.2:Nat):Int)<((g.2.2:Nat):Int)) else decide (((f.2.1:Nat):Int)<((g.2.1:Nat):Int)))=lexOrd.blt (keyOf L (.ref f.1, .ref f.1))^keyOf L (.ref g.1, .ref g.1):=by
    rw[nY E m1,nY E R];show _=lE f.2 g.2;unfold lE;simp only[Int.ofNat_inj,Int.ofNat_lt]
   rw[eb];exact FB hq
  .obtain⟨e,he,rfl⟩:=bR.mp r
   exact#[e,he,rfl]
  .rw[cZ] at qa
   let⟨M,B,em⟩:=kN (λe:Addr×(Nat×Nat)=>((Value.ref e.1,Value.ref e.1):Keyed)) out.toList L qa;refine fin M _ B ?_^by rw[Array.toList_map,em,cZ];rfl
   rw[em,iA] at J0;rw[iA];refine adt ?_ J0;intro f g m1 R hle;have Hz:lE (keyOf L (.ref g.1, .ref g.1))^keyOf L (.ref f.1, .ref f.1)=false:=hle;rw[nY E^B.mem_iff.mp m1,nY E^B.mem_iff.mp R] at Hz;exact AF Hz
def Cg:cV X (.builtin "sorted") (λc H Q=>∃(p:Addr)(L:List (Addr×(Nat×Nat))),c= [.ref p]/\aK X.K H p (L.map λe=>V.ref e.1)/\se H L/\L.length<=1000/\
  ∀(q:Addr)(M:List (Addr×(Nat×Nat))),H q=none->M.Perm L->(M.map (·.2)).Pairwise Wb.lexLe->Q (.ref q)^upd H q^.lst (M.map λe=>V.ref e.1)):=by
 intro d s n H c us Q I f h;rfl';let⟨p,L,rfl,i,j,k,q⟩:=h;let⟨u,rfl,l⟩:=f.one;subst l;let⟨a,r,pl,g⟩:=I.list i
 have m:a=L.map λe=>Value.ref e.1:=by
  have:=t7 (as:=L.map (·.1)) (us:=a)^by rw[cZ];exact r
  rw[this,cZ];rfl
 have v:1000<sizeLine:=∅
 ac_rfl;subst m;refine II I j k (λw h=>af0 pl.isList (h _ _ ?_ λb o e=>?_)^by rw[aI];lia) q
 .rw[adW,afc];exact lS _
 .rw[adQ _ _ _ _^bX^Da e];exact AC _ e
end
section
open PySem.SeqAt
open PySem.AutoSeq1 (wpAny_loadPart')
open PySem.MeetsSeq PySem.MeetsSeq2 PySem.MeetsSeq3
def HH{c:List Value}{d:List Int}(h:IntsAre c d){i:Nat}{a:Int}(e:d[i]?\a):∃t,c[i]?\(.int a t):=by
 induction h generalizing i with
 |nil=>simp at e
 |cons b t _ f=>
  cases i with
  |zero=>simp at e;subst e;exact#[t,rfl]
  |succ i=>simp at e;obtain⟨u,g⟩:=f e;exact#[u,by simpa using g]
theorem Ry(l b:Addr)(a j:Array b_)(n G:Nat)(H I:Option Addr)(J L:Array^Option b_)(m f:List Int)(C:ii a.toList m)(E:ii j.toList f)(k:Nat):
  ∀i:Nat,a.size-i=k->i<=a.size->i<=j.size->Meets (Builtin.«list.__eq__.loop» #[[.ref l, .ref b,kI i,kI 0],[]])
   (λA R s=>s.heap.get? l\{cls:= .type "list",dict:=H,data:= .seq a n,slots:=J}/\s.heap.get? b\{cls:= .type "list",dict:=I,data:= .seq j G,slots:=L}/\
    R (.ok^.ret^.bool^HT.lexLt (m.drop i)^f.drop i) s):=by
 have z1:a.size=m.length:=by rw[<-C.length];simp
 have z2:j.size=f.length:=by rw[<-E.length];simp
 induction k with
 |zero=>
  intro i M N O prog w A R s h;let⟨x,g,d,y,os⟩:=s;let⟨o,p,h⟩:=h
  wp_walk using gi o,gi p
  have r:a[((i:Nat):Int).toNat]? =none:=by simp;lia
  rw[r];have P:m.drop i= []:=BZ ()
  rw[P] at h
  have Q:HT.lexLt []^f.drop i=decide (a.size<j.size):=by
   by_cases c:i<f.length
   .rw[qN c,HT.zk]
    exact(Gc ()).symm
   .rw[BZ (),HT.AG]
    exact(GE ()).symm
  rw[Q] at h
  wp_walk using gi o,gi p
  exact h
 |succ k S=>
  intro i M N O prog w A R s h;let⟨x,g,d,y,os⟩:=s;let⟨o,p,h⟩:=h
  wp_walk using gi o,gi p
  have z:i<m.length:=()
  let⟨t,T⟩:=HH C^bA z;have r:a[((i:Nat):Int).toNat]?\(.int m[i] t):=by rw[lP,<-gr];exact T
  have X:((i:Int)+1)=((i+1:Nat):Int):=by push_cast;rfl
  rw[r]
  by_cases c:i<f.length
  .obtain⟨u,Y⟩:=HH E^bA c
   have v:j[((i:Nat):Int).toNat]?\(.int f[i] u):=by rw[lP,<-gr];exact Y
   rw[v];rw[qN z,qN c,HT.iO] at h;let⟨e,Z,F⟩:=HT.Nf A.in1 #[x,g,d,y,os] m[i] t f[i] u;refine a_^Z prog w _ _ ?_;cases e with
   |true=>
    rw[ir^F.mp rfl] at h
    wp_walk
    rw[X]
    exact#[adY ae6 _,adT entry_eq_loop (by
     rw[adK ae6 _];exact S (i+1) () () () prog w A R _ #[o,p,h])]
   |false=>
    rw[mo^λq=>absurd (F.mpr q) dZ] at h
    wp_walk using gi o,gi p
    rw[r,v];have B:=HT.Ef A.in1 #[x,g,d,y,os] m[i] t f[i] u prog w
    wp_walk using B
    exact h
  .have v:j[((i:Nat):Int).toNat]? =none:=by simp;lia
   rw[v];rw[qN z,BZ (show f.length<=i by lia),HT.zj] at h
   wp_walk using gi o,gi p
   show R (.ok^.ret^.bool (decide (a.size<j.size))) _;rw[GE ()]
   exact h
end
section
open PySem.SeqAt
open PySem.AutoSeq1 (wpAny_loadPart')
open PySem.MeetsSeq PySem.MeetsSeq2 PySem.MeetsSeq3
def CF(l b:Addr)(a c:Array b_)(n i:Nat)(j k:Option Addr)(m o:Array^Option b_)(e f:List Int)(r:ii a.toList e)(t:ii c.toList f):
  Meets (Builtin.«list.__lt__» #[[.ref l, .ref b],[]])
   (λ_ R s=>s.heap.get? l\{cls:= .type "list",dict:=j,data:= .seq a n,slots:=m}/\s.heap.get? b\{cls:= .type "list",dict:=k,data:= .seq c i,slots:=o}/\
    R (.ok^.ret^.bool^HT.lexLt e f) s):=by
 intro prog w A R s h;let⟨u,g,d,v,os⟩:=s;let⟨p,q,h⟩:=h;have x:=AutoSeq1.sub_list_list
 wp_walk using gi p,gi q
 exact#[adY ae6 _,adT entry_eq_loop (by
  rw[adK ae6 _];exact Ry l b a c n i j k m o e f r t _ 0 rfl (eB _) (eB _) prog w A R _ #[p,q,h])]
end
section
variable {prog:Program} {w:World} {A:Around} {E:Value->Shared->Prop} {s:Shared}
theorem Ib(o:s.heap.IsList l a)(p:s.heap.IsList b d)(q:ii a.toList e)(r:ii d.toList f)(t:A.units<cLine)
  (h:Q (HT.lexLt e f) s):d_ (d5 prog w) A (oneLt' true (.ref l)^.ref b) Q E s:=by
 rfl';obtain⟨⟨cls,v,i,x⟩,g,j,n,k⟩:=id o;obtain⟨⟨y,z,data2,B⟩,C,m,G,c⟩:=id p;ac_rfl;simp only at j k m c;subst j k m c;rw[oneLt'_eq];simp only[adD];refine a_^wpAny_cRoomFor t ?_;refine a_^wpAny_callSpecialIfBound?_slot #[_,g,rfl] PySem.F.slot_list_lt^ad9 PySem.F.slot_list_lt #[_,g,rfl] PySem.F.entry_list_lt (PySem.F.args_list_lt_2 _ _) (CF l b a d n G v z x B e f q r) #[g,C,?_];exact P3 h
end
theorem vB:∀a:List Int,HT.lexLt a a=false
 | []=>rfl
 |x::b=>by rw[HT.iO,ir rfl];exact vB b
theorem zL:∀a b c:List Int,HT.lexLt a b=true->HT.lexLt b c=true->HT.lexLt a c=true
 | [],[],_,h,_=>by cases h
 | [],_::_,[],_,h=>by cases h
 | [],_::_,_::_,_,_=>rfl
 |_::_,[],_,h,_=>by cases h
 |_::_,_::_,[],_,h=>by cases h
 |x::i,y::j,z::k,g,e=>by
  rw[HT.iO] at*
  by_cases f:x=y
  .rw[ir f] at g
   by_cases d:y=z
   .rw[ir d] at e
    rw[ir^f.trans d];exact zL i j k g e
   .rw[mo d] at e
    rw[mo^by rw[f];exact d,f];exact e
  .rw[mo f] at g
   have l:=KF g
   by_cases d:y=z
   .rw[mo^by rw[<-d];exact f,<-d];exact g
   .rw[mo d] at e
    have m:=KF e;rw[mo ()]
    exact Gc ()
theorem vC:∀a b:List Int,HT.lexLt a b=false->HT.lexLt b a=false->a=b
 | [],[],_,_=>rfl
 | [],_::_,h,_=>by cases h
 |_::_,[],_,h=>by cases h
 |x::f,y::g,c,d=>by
  rw[HT.iO] at*
  by_cases e:x=y
  .rw[ir e] at c
   rw[ir e.symm] at d;rw[e,vC f g c d]
  .rw[mo e] at c
   rw[mo^λz=>e z.symm] at d
   have:=UF c
   have:=UF d
   lia
def HN(a b c:List Int)(h:HT.lexLt a c=true):HT.lexLt a b=true\/HT.lexLt b c=true:=by
 cases e:HT.lexLt a b with
 |true=>exact .inl rfl
 |false=>
  right
  cases d:HT.lexLt b a with
  |true=>exact zL _ _ _ d h
  |false=>rw[<-vC a b e d];exact h
noncomputable def Rt:KeyOrd where
 α:=List Int
 blt:=HT.lexLt
 irrefl:=vB
 trans:=zL
 negTrans:=HN
 total:=vC
noncomputable def iy(r:List Nat):List Int:=r.map λ(n:Nat)=>(n:Int)
def hU(a b:List Nat):Prop:=HT.lexLt (iy b)^iy a=false
def Je(H:Hp)(L:List (Addr×List Nat)):Prop:=∀p∈L,H p.1\(.lst^(iy p.2).map V.int)
def IS(h:(iy a).map V.int=(iy b).map V.int):a=b:=by
 unfold iy at h;rw[cZ,cZ] at h
 induction a generalizing b with
 |nil=>cases b with
  |nil=>rfl
  |cons y b=>simp at h
 |cons x a d=>
  cases b with
  |nil=>simp at h
  |cons y b=>
   rw[cY,cY] at h
   injection h with e f
   have c:V.int (x:Int)=V.int (y:Int):=e
   injection c with c
   rw[d f,show x=y by lia]
noncomputable def tM(L:List (Addr×List Nat))(v:Keyed):List Int:=match v.1 with
 | .ref a=>((L.find? λe=>e.1==a).map λe=>iy e.2).getD []
 |_=> []
def nX(c:Je H L)(d:e∈L)(v:Value):tM L (.ref e.1,v)=iy e.2:=by
 unfold tM;dsimp only;cases b:L.find? λx=>x.1==e.1 with
 |none=>exact absurd (BR.mp b e d) (by simp)
 |some x=>
  have f:=afd b;have g:=List.find?_some b;have h:x.1=e.1:=by simpa using g
  have a:=c x f;have i:=c e d;rw[h,i] at a
  injection a with a
  injection a with a
  show iy x.2=iy e.2;rw[IS a]
section
variable {X:Cx}
theorem Aa(hu:X.A.units+64<cLine):cV X (.builtin "sorted") (λR H Q=>∃(p:Addr)(L:List (Addr×List Nat)),R= [.ref p]/\aK X.K H p (L.map λe=>V.ref e.1)/\Je H L/\L.length<=1000/\
  ∀(q:Addr)(M:List (Addr×List Nat)),H q=none->M.Perm L->(M.map (·.2)).Pairwise hU->Q (.ref q)^upd H q^.lst (M.map λe=>V.ref e.1)):=by
 intro Y s σ H R us Q I rv h;refine ae λZ k0=>?_;let⟨p,L,rfl,hp,l,hz,q⟩:=h;let⟨u,rfl,ru⟩:=rv.one;subst ru;let⟨d,r,pl,D⟩:=I.list hp;have hl:=r.length;rw[aI] at hl;have eO:1000<sizeLine:=∅
 refine k0 ?_
 have B:d=L.map λe=>Value.ref e.1:=by
  have:=t7 (as:=L.map (·.1)) (us:=d)^by rw[cZ];exact r
  rw[this,cZ];rfl
 by_cases h2:L.length<2
 .refine KS.CQ pl.isList () ?_
  let⟨e,g⟩:=afW s.heap d d.toArray;have C:H (s.heap.objs.size+1)=none:=I.hok.fresh^lS _;refine#[.ref (s.heap.objs.size+1),_,I.laid (t':=s.toks) (λb o E=>afR E) (lS _) (o:= .lst (L.map λe=>V.ref e.1)) #[by rw[aI];lia,d,e,r,g],rfl,q _ L C (.refl _) ?_]
  match L,h2 with
  | [],_=>exact .nil
  | [_],_=>exact Gy _ _
 .have lst:∀e∈L,∀f:c_,TS.Keeps s f->∃a:Array b_,f.heap.IsList e.1 a/\ii a.toList^iy e.2:=λe g f k=>by
   refine ae λZ k0=>?_;let⟨F,r2,p2,D⟩:=I.list^aK.of^l e g;let⟨o,G,m,n,hd⟩:=p2.isList;refine k0 ?_;exact#[F.toArray,#[o,k _ _ G,m,n,hd],by simpa using intsAre_of r2]
  refine TS.IH (O:=Rt) (key:=tM L) (S:=λp=>∃e∈L,p=(Value.ref e.1,Value.ref e.1)) (k0:=oneType') pl.isList () () (λE' f Q' k J=>?_) (λE' f k x y st Q' sx sy hk J=>?_) (λv t=>?_) λout qa J0=>?_
  .refine PySem.W.kas_kind (T:= .type "list") () (λv t=>?_) ∅ ∅ J
   rw[B] at t;let⟨e,g,rfl⟩:=bR.mp t;obtain⟨a,⟨o,G,m,_⟩,_⟩:=lst e g f k;rw[<-m];exact(PySem.W.Looks.ld G).andThen .now
  .obtain⟨i,m1,rfl⟩:=sx
   let⟨j,w,rfl⟩:=sy;rw[lt'_eq];refine Do^adZ ?_;rw[hk,keyLt'_oneType];refine ae λZ k0=>?_;let⟨i1,l1,n1⟩:=lst i m1 f k;let⟨i2,l2,n2⟩:=lst j w f k;refine k0 ?_;refine Do^aep^ae5^Ib l1 l2 n1 n2 ?_ #[rfl,?_]
   .rw[afr,afr];lia
   .have eb:HT.lexLt (iy i.2)^iy j.2=Rt.blt (tM L (.ref i.1, .ref i.1))^tM L (.ref j.1, .ref j.1):=by
     rw[nX l m1,nX l w];rfl
    rw[eb];exact FB J
  .rw[B] at t
   let⟨e,g,rfl⟩:=bR.mp t;exact#[e,g,rfl]
  .rw[B,cZ] at qa
   let⟨M,z,em⟩:=kN (λe:Addr×List Nat=>((Value.ref e.1,Value.ref e.1):Keyed)) out.toList L qa
   have N:(out.map (·.2)).toList=M.map λe=>Value.ref e.1:=by
    rw[Array.toList_map,em,cZ];rfl
   let⟨c,m⟩:=afW s.heap d^out.map (·.2);have C:H (s.heap.objs.size+1)=none:=I.hok.fresh^lS _;have JV:=z.length_eq;refine#[.ref (s.heap.objs.size+1),_,I.laid (t':=s.toks) (λb o E=>afR E) (lS _) (o:= .lst (M.map λe=>V.ref e.1)) #[by rw[aI];lia,(out.map (·.2)).toList,c,?_,by rw[Array.toArray_toList];exact m],rfl,q _ M C z ?_]
   .rw[N,show(λe:Addr×List Nat=>V.ref e.1)=V.ref∘(·.1) from rfl,show(λe:Addr×List Nat=>Value.ref e.1)=Value.ref∘(·.1) from rfl,<-cZ,<-cZ]
    exact tW _
   .rw[em,iA] at J0
    rw[iA];refine adt ?_ J0;intro i j m1 w P;have Hz:HT.lexLt (tM L (.ref j.1, .ref j.1))^tM L (.ref i.1, .ref i.1)=false:=P;rw[nX l^z.mem_iff.mp m1,nX l^z.mem_iff.mp w] at Hz;exact Hz
end
end L2
namespace PySem.SetTable
def pI(xs:Array Nat):Prop:=∀i j (a:j<xs.size),i<j->xs[i]! <xs[j]!
def Qm{a:Array Nat}{i d:Nat}(h:i<a.size):a.getD i d=a[i]! :=by
 simp[Array.getD,h]
theorem An(R:pI h)(j:Nat):∀(f lo g:Nat),g-lo<=f->lo<=g->g<=h.size->(∀i,i<lo->h[i]! <j)->(∀i,g<=i->i<h.size->j<=h[i]!)->
  lo<=below.go h j f lo g/\below.go h j f lo g<=g/\(∀i,i<below.go h j f lo g->h[i]! <j)/\∀i,below.go h j f lo g<=i->i<h.size->j<=h[i]!
 |0,lo,g,m,n,k,a,b=>by
  have:lo=g:=()
  subst this;rw[below.go];exact#[aZ _,aZ _,a,b]
 |f+1,lo,g,m,n,k,a,b=>by
  rw[below.go]
  by_cases c:lo<g
  .rw[ir c]
   have l:(lo+g) / 2<h.size:=()
   dsimp only;rw[Qm l]
   by_cases d:h[(lo+g) / 2]! <j
   .rw[ir d]
    have:=An R j f ((lo+g) / 2+1) g () () k (λi p=>by
     by_cases e:i=(lo+g) / 2
     .rw[e];exact d
     .have:=R i ((lo+g) / 2) l ();lia) b
    exact#[(),this.2.1,this.2.2]
   .rw[mo d]
    have:=An R j f lo ((lo+g) / 2) () () () a (λi q o=>by
     by_cases e:i=(lo+g) / 2
     .rw[e];lia
     .have:=R ((lo+g) / 2) i o ();lia)
    exact#[this.1,(),this.2.2]
  .rw[mo c]
   have:lo=g:=()
   subst this;exact#[aZ _,aZ _,a,b]
def l6{xs:Array Nat}(R:pI xs)(j:Nat):below xs j<=xs.size/\(∀i,i<below xs j->xs[i]! <j)/\∀i,below xs j<=i->i<xs.size->j<=xs[i]! :=by
 have:=An R j xs.size 0 xs.size () (eB _) (aZ _) (λi h=>by lia)^λi a b=>by lia
 exact#[this.2.1,this.2.2]
def below_at(R:pI a)(h:a[i]?\j):below a j=i:=by
 obtain⟨b,e⟩:=BX.mp h;have g:a[i]! =j:=by simp[b,e]
 obtain⟨k,d,f⟩:=l6 R j;apply Nat.le_antisymm
 .apply FM
  intro c
  have:=d i ()
  lia
 .apply FM
  intro c;have l:=f (below a j) (aZ _) ()
  have m:=R (below a j) i b ()
  lia
def tY{t:SetTable}(R:pI t.place)(h:t.place[i]?\j):t.slot j= .live i:=by
 unfold slot;rw[below_at R h];simp[h]
def IG{t:ln}(R:pI t.place)(a:t.dummies= #[])(h:∀i:Nat,t.place[i]? ≠some j):t.slot j= .empty:=by
 unfold slot
 have b:(t.place[below t.place j]? ==some j)=false:=by
  rw[ado];exact h _
 dsimp only;rw[mo^by rw[b];exact dZ]
 unfold has;rw[a];rfl
noncomputable def pk(mask:Nat)(p:Probe):Probe:=
 if p.more>0 then {p with j:=p.j+1,more:=p.more-1} else
 let (i,perturb):=leap mask p.i p.perturb
 {p with j:=i,more:=runEnd mask i-i,i,perturb}
noncomputable def bV(mask:Nat)(h:Int):Probe:={j:=bits h%(mask+1),more:=runEnd mask (bits h%(mask+1))-bits h%(mask+1),i:=bits h%(mask+1),perturb:=bits h,dummy:=none}
noncomputable def tZ(mask:Nat)(h:Int):Nat->Probe
 |0=>bV mask h
 |k+1=>pk mask^tZ mask h k
noncomputable def cp(mask:Nat)(h:Int)(k:Nat):Nat:=(tZ mask h k).j
def Pf(h:Int):bits h<2<<<64:=by
 unfold bits;have a:0<=h%(2<<<64:Int):=aeI _ ∅
 have b:h%(2<<<64:Int)<2<<<64:=GD _ ∅
 lia
noncomputable def fq(mask:Nat)(i p:Nat):Nat->Nat×Nat
 |0=>(i,p)
 |r+1=>leap mask (fq mask i p r).1 (fq mask i p r).2
theorem mK(mask i p:Nat):∀r,(fq mask i p r).2=p / 32<<<r
 |0=>by simp[fq]
 |r+1=>by
  show(fq mask i p r).2 / 32=_;rw[mK mask i p r,Nat.div_div_eq_div_mul,Nat.pow_succ]
noncomputable def U8(mask:Nat)(i:Nat):Nat:=(i*5+1)%(mask+1)
noncomputable def mn(mask:Nat)(i:Nat):Nat->Nat
 |0=>i
 |r+1=>U8 mask^mn mask i r
theorem nh(mask i:Nat)(a:Nat):∀b,mn mask i (a+b)=mn mask (mn mask i a) b
 |0=>rfl
 |b+1=>by
  show U8 mask^mn mask i (a+b)=_;rw[nh mask i a b];rfl
theorem xW{mask i p a:Nat}(h:(fq mask i p a).2=0):∀r,fq mask i p (a+r)=(mn mask (fq mask i p a).1 r,0)
 |0=>by rw[Nat.add_zero,mn];exact UV rfl h
 |r+1=>by
  show leap mask (fq mask i p (a+r)).1 (fq mask i p (a+r)).2=_;rw[xW h r];unfold leap;simp[mn,U8]
def y6(mask:Nat):Prop:=mask=7\/mask=31\/mask=127\/mask=511
noncomputable def orb(mask:Nat):Nat->Nat->List Nat
 |_,0=> []
 |i,n+1=>i::orb mask (U8 mask i) n
theorem HV{mask s:Nat}:∀{i n:Nat},s∈orb mask i n->∃r,r<n/\mn mask i r=s
 |i,0,h=>by cases h
 |i,n+1,h=>by
  rcases b7.mp h with rfl|h
  .exact#[0,(),rfl]
  .obtain⟨r,a,e⟩:=HV h
   refine#[r+1,(),?_]
   have:=nh mask i 1 r
   rw[show 1+r=r+1 by lia] at this
   rw[this];exact e
def aad{mask:Nat}(h:y6 mask):(∀s,s<=mask->∃r,r<=mask/\mn mask 0 r=s)/\mn mask 0 (mask+1)=0:=by
 have key:∀m,(aj (m+1)).all (λs=>(orb m 0 (m+1)).contains s)=true->∀s,s<=m->∃r,r<=m/\mn m 0 r=s:=λm a s b=>by
  have:=aeo.mp a s^d9.mpr ()
  let⟨r,c,e⟩:=HV^List.contains_iff_mem.mp this;exact#[r,(),e]
 rcases h with rfl|rfl|rfl|rfl
 .exact#[key 7^by decide+kernel,by decide+kernel]
 .exact#[key 31^by decide+kernel,by decide+kernel]
 .exact#[key 127^by decide+kernel,by decide+kernel]
 .exact#[key 511^by decide+kernel,by decide+kernel]
def cover{mask:Nat}(h:y6 mask){i s:Nat}(d:i<=mask)(e:s<=mask):∃r,r<=mask/\mn mask i r=s:=by
 obtain⟨o,per⟩:=aad h;obtain⟨a,f,rfl⟩:=o i d;obtain⟨b,g,rfl⟩:=o s e
 by_cases c:a<=b
 .refine#[b-a,(),?_]
  rw[<-nh,show a+(b-a)=b by lia]
 .refine#[mask+1-a+b,(),?_]
  rw[<-nh,show a+(mask+1-a+b)=mask+1+b by lia,nh,per]
noncomputable def c7(mask:Nat)(p:Probe):Nat->Probe
 |0=>p
 |k+1=>pk mask^c7 mask p k
theorem mV(mask:Nat)(p:Probe)(a:Nat):∀b,c7 mask p (a+b)=c7 mask (c7 mask p a) b
 |0=>rfl
 |b+1=>by
  show pk mask^c7 mask p (a+b)=_;rw[mV mask p a b];rfl
theorem oG(mask:Nat)(h:Int):∀k,tZ mask h k=c7 mask (bV mask h) k
 |0=>rfl
 |k+1=>by
  show pk mask _=pk mask _;rw[oG mask h k]
theorem wM(mask:Nat)(p:Probe):∀c,c<=p.more->c7 mask p c={p with j:=p.j+c,more:=p.more-c}
 |0,_=>rfl
 |c+1,a=>by
  show pk mask^c7 mask p c=_;rw[wM mask p c ()]
  unfold pk;rw[ir^by show p.more-c>0;lia]
  show({p with j:=p.j+c+1,more:=p.more-c-1}:Probe)={p with j:=p.j+(c+1),more:=p.more-(c+1)}
  rw[show p.more-c-1=p.more-(c+1) by lia,show p.j+c+1=p.j+(c+1) by lia]
noncomputable def Wf(mask:Nat)(p:Probe)(a:Nat×Nat):Probe:={p with j:=a.1,more:=runEnd mask a.1-a.1,i:=a.1,perturb:=a.2}
def more_le(mask i:Nat):runEnd mask i-i<=9:=by
 unfold runEnd
 split<;>lia
def tj(mask:Nat)(p:Probe):c7 mask p (p.more+1)=Wf mask p^leap mask p.i p.perturb:=by
 show pk mask^c7 mask p p.more=_;rw[wM mask p p.more^aZ _];unfold pk;rw[mo^by show ¬p.more-p.more>0;lia]
 rfl
theorem zX(mask:Nat)(p:Probe):∀r,∃k,k<=p.more+1+10*r/\c7 mask p k=Wf mask p^fq mask p.i p.perturb (r+1)
 |0=>#[p.more+1,(),tj mask p]
 |r+1=>by
  let⟨k,a,e⟩:=zX mask p r;have b:=more_le mask (fq mask p.i p.perturb (r+1)).1;refine#[k+((runEnd mask (fq mask p.i p.perturb (r+1)).1-(fq mask p.i p.perturb (r+1)).1)+1),(),?_]
  rw[mV,e];exact tj mask^Wf mask p^fq mask p.i p.perturb (r+1)
def Iy(mask i p:Nat)(r:Nat):(fq mask i p (r+1)).1<=mask:=by
 show(((fq mask i p r).1*5+1+(fq mask i p r).2 / 32)%(mask+1))<=mask
 have:=kE ((fq mask i p r).1*5+1+(fq mask i p r).2 / 32) (show 0<mask+1 by lia)
 lia
def Mu{mask i:Nat}(h:i<=mask):i+(runEnd mask i-i)<=mask:=by
 unfold runEnd
 split<;>lia
structure wL (mask:Nat) (p:Probe):Prop where
 le:p.j+p.more<=mask
 more:p.more<=9
 per:p.perturb<2<<<64
 dum:p.dummy=none
theorem wL.pk{mask:Nat}{p:Probe}(o:wL mask p):wL mask^pk mask p:=by
 unfold SetTable.pk
 split
 .next h=>exact#[by show p.j+1+(p.more-1)<=mask;have:=o.le;lia,by show p.more-1<=9;have:=o.more;lia,o.per,o.dum]
 .refine#[Mu^by have:=kE (p.i*5+1+p.perturb / 32) (show 0<mask+1 by lia);show(p.i*5+1+p.perturb / 32)%(mask+1)<=mask;lia,more_le _ _,?_,o.dum]
  show p.perturb / 32<2<<<64
  have:=o.per
  lia
def wL.start(mask:Nat)(h:Int):wL mask^bV mask h:=#[Mu (mask:=mask) (i:=bits h%(mask+1))^by have:=kE (bits h) (show 0<mask+1 by lia);lia,more_le _ _,Pf h,rfl]
theorem wL.c7{mask:Nat}{p:Probe}(o:wL mask p):∀k,wL mask^c7 mask p k
 |0=>o
 |k+1=>(o.c7 k).pk
def meets{mask:Nat}(f:y6 mask){p:Probe}(o:wL mask p){s:Nat}(a:s<=mask):∃k,k<10*turns mask/\(c7 mask p k).j=s:=by
 have z:(fq mask p.i p.perturb 13).2=0:=by
  rw[mK];exact Nat.div_eq_of_lt^dR o.per ∅
 let⟨r,c,e⟩:=cover f (Iy mask p.i p.perturb 12) a;let⟨k,d,b⟩:=zX mask p (12+r);refine#[k,?_,?_]
 .have:=o.more
  unfold turns;lia
 .rw[b]
  show(fq mask p.i p.perturb (12+r+1)).1=s;rw[show 12+r+1=13+r by lia,xW z]
  exact e
theorem Eb(R:pI t.place)(o:t.dummies= #[])(hashAt:Nat->Int)(h:Int):∀(K d:Nat)(p:Probe),p.dummy=none->K<d->(∀i:Nat,t.place[i]? ≠some (c7 t.mask p K).j)->
  ∃e,e<=K/\(∀f,f<e->∃i:Nat,t.place[i]?\(c7 t.mask p f).j/\hashAt i≠h)/\
   (((∀i:Nat,t.place[i]? ≠some (c7 t.mask p e).j)/\probe.go t hashAt h d p\(.empty (c7 t.mask p e).j none))\/
    (∃i:Nat,t.place[i]?\(c7 t.mask p e).j/\hashAt i=h/\probe.go t hashAt h d p\(.candidate (c7 t.mask p e).j i^c7 t.mask p (e+1))))
 |K,0,p,_,v,_=>by lia
 |K,d+1,p,q,v,r=>by
  by_cases c:∃i:Nat,t.place[i]?\p.j
  .obtain⟨i,g⟩:=c
   have s:=tY R g
   by_cases l:hashAt i=h
   .refine#[0,eB _,λf u=>by lia, .inr #[i,g,l,?_]]
    rw[probe.go,s];dsimp only;rw[ir^~~~l]
    rfl
   .cases K with
    |zero=>exact absurd g^r i
    |succ K=>
     have n:(pk t.mask p).dummy=none:=by
      unfold pk
      split<;>exact q
     have m:∀k,c7 t.mask (pk t.mask p) k=c7 t.mask p (k+1):=λk=>by
      have:=mV t.mask p 1 k
      rw[show 1+k=k+1 by lia] at this
      exact this.symm
     let⟨e,x,a,b⟩:=Eb R o hashAt h K d (pk t.mask p) n ()^by rw[m];exact r
     have w:probe.go t hashAt h (d+1) p=probe.go t hashAt h d^pk t.mask p:=by
      rw[probe.go,s];dsimp only;rw[mo^~~~l]
      rfl
     refine#[e+1,(),λf u=>?_,?_]
     .cases f with
      |zero=>exact#[i,g,l]
      |succ f=>
       have:=a f ()
       rw[m] at this;exact this
     .rw[m,m] at b
      rw[w];exact b
  .have c:∀i:Nat,t.place[i]? ≠some p.j:=λi g=>c #[i,g]
   refine#[0,eB _,λf u=>by lia, .inl #[c,?_]]
   rw[probe.go,IG R o c];dsimp only;rw[q];rfl
structure TOk (t:SetTable) (hs:List Int):Prop where
 few:y6 t.mask
 dum:t.dummies= #[]
 rise:pI t.place
 size:t.place.size=hs.length
 le:∀(i j:Nat),t.place[i]?\j->j<=t.mask
 room:t.place.size<=t.mask
 path:∀(i:Nat)(h:Int),hs[i]?\h->∃k,t.place[i]?\(cp t.mask h k)/\∀k',k'<k->∃i':Nat,t.place[i']?\(cp t.mask h k')
def FY(mask:Nat)(h:Int)(k:Nat):cp mask h k<=mask:=by
 unfold cp;rw[oG]
 have:=((wL.start mask h).c7 k).le
 lia
def TOk.empty(T:TOk t a):∃s,s<=t.mask/\∀i:Nat,t.place[i]? ≠some s:=by
 apply FM;intro c
 have all:∀s∈aj (t.mask+1),s∈t.place.toList:=λs a=>by
  apply FM;intro n;refine c #[s,by have:=d9.mp a;lia,λi b=>n ?_]
  rw[<-gr] at b;exact cU b
 have:=Wb.ba uD all
 rw[jx,dj] at this
 have:=T.room
 lia
theorem TOk.probe(T:TOk t g)(hashAt:Nat->Int)(h:Int)(k:Nat):
  ∃d,k<=d/\(∀e,k<=e->e<d->∃i:Nat,t.place[i]?\(cp t.mask h e)/\hashAt i≠h)/\
   (((∀i:Nat,t.place[i]? ≠some^cp t.mask h d)/\t.probe hashAt h^tZ t.mask h k\(.empty (cp t.mask h d) none))\/
    (∃i:Nat,t.place[i]?\(cp t.mask h d)/\hashAt i=h/\t.probe hashAt h^tZ t.mask h k\(.candidate (cp t.mask h d) i^tZ t.mask h (d+1)))):=by
 let⟨s,j,l⟩:=T.empty;have o:=(wL.start t.mask h).c7 k;rw[<-oG] at o;let⟨K,m,n⟩:=meets T.few o j;have f:∀c,c7 t.mask (tZ t.mask h k) c=tZ t.mask h (k+c):=λc=>by rw[oG,oG,<-mV]
 let⟨d,p,a,b⟩:=Eb T.rise T.dum hashAt h K (10*turns t.mask) (tZ t.mask h k) o.dum m^by rw[n];exact l
 refine#[k+d,(),λe q r=>?_,?_]
 .have:=a (e-k) ()
  rw[f,show k+(e-k)=e by lia] at this
  exact this
 .rw[f,f] at b
  exact b
def mI{xs:Array a}(x:a)(e:p<=xs.size)(i:Nat):(insertAt xs p x)[i]? =if i<p then xs[i]? else if i=p then some x else xs[i-1]? :=by
 rw[<-gr,afs];have lt:(xs.toList.take p).length=p:=by rw[hV,dj];lia
 by_cases c:i<p
 .rw[ir c,iR (),Gx c,gr]
 .rw[mo c]
  by_cases d:i=p
  .subst d
   rw[ir rfl,jg (),lt,oJ];rfl
  .rw[mo d,jg (),lt]
   obtain⟨m,b⟩:∃m,i-p=m+1:=#[i-p-1,()]
   rw[b,wF,yY,gr]
   congr 1;lia
def i5(xs:Array a)(p:Nat)(x:a):(insertAt xs p x).size=xs.size+1:=by
 rw[<-dj,(afK xs p x).length_eq];simp
def kS{a:Array Nat}{i j:Nat}(h:a[i]?\j):a[i]! =j:=by
 obtain⟨b,e⟩:=BX.mp h;simp[b,e]
def Oj{xs:Array Nat}(R:pI xs){j:Nat}(h:∀i:Nat,xs[i]? ≠some j):pI^insertAt xs (below xs j) j:=by
 let⟨t,w,x⟩:=l6 R j;have g:=mI (xs:=xs) j t;intro a b y A;rw[i5] at y
 have m:∀i,i<xs.size+1->∃v,(insertAt xs (below xs j) j)[i]?\v/\((i<below xs j/\xs[i]?\v)\/(i=below xs j/\v=j)\/(below xs j<i/\xs[i-1]?\v)):=λi r=>by
  rw[g i]
  by_cases c:i<below xs j
  .rw[ir c,sU ()]
   exact#[_,rfl, .inl #[c,rfl]]
  .rw[mo c]
   by_cases d:i=below xs j
   .rw[ir d];exact#[j,rfl, .inr^.inl #[d,rfl]]
   .rw[mo d,sU ()]
    exact#[_,rfl, .inr^.inr #[(),rfl]]
 let⟨G,B,C⟩:=m a ()
 let⟨H,E,s⟩:=m b ()
 rw[kS B,kS E];have lo:∀i v,i<below xs j->xs[i]?\v->v<j:=λi v n f=>by have:=w i n;rw[kS f] at this;exact this
 have r:∀i v,below xs j<=i->xs[i]?\v->j<v:=λi v n f=>by
  have:=x i n (BX.mp f).1
  rw[kS f] at this
  have:v≠j:=λz=>h i^by rw[f,z]
  lia
 have o:∀i k v u,xs[i]?\v->xs[k]?\u->i<k->v<u:=λi k v u n f F=>by
  have:=R i k (BX.mp f).1 F
  rw[kS n,kS f] at this;exact this
 rcases C with ⟨q,p⟩ | ⟨q,rfl⟩ | ⟨q,p⟩
 .rcases s with ⟨l,e⟩ | ⟨l,rfl⟩ | ⟨l,e⟩
  .exact o _ _ _ _ p e A
  .exact lo _ _ q p
  .have:=lo _ _ q p;have:=r (b-1) _ () e;lia
 .rcases s with ⟨l,e⟩ | ⟨l,rfl⟩ | ⟨l,e⟩
  .lia
  .lia
  .exact r (b-1) _ () e
 .rcases s with ⟨l,e⟩ | ⟨l,rfl⟩ | ⟨l,e⟩
  .lia
  .lia
  .exact o _ _ _ _ p e ()
def Sw{xs:Array Nat}(R:pI xs){j s:Nat}:(∃i:Nat,(insertAt xs (below xs j) j)[i]?\s)↔s=j\/∃i:Nat,xs[i]?\s:=by
 obtain⟨a,_,_⟩:=l6 R j;have g:=mI (xs:=xs) j a
 constructor
 .rintro⟨i,h⟩
  rw[g i] at h
  split at h
  .exact .inr #[i,h]
  .split at h
   .exact .inl (Fk h).symm
   .exact .inr #[_,h]
 .rintro(rfl| ⟨i,h⟩)
  .exact#[below xs s,by rw[g,mo (),ir rfl]]
  .by_cases c:i<below xs j
   .exact#[i,by rw[g,ir c];exact h]
   .exact#[i+1,by rw[g,mo (),mo ()];exact h]
theorem TOk.put(T:TOk t l)(v:∀i:Nat,t.place[i]? ≠some^cp t.mask h k)(w:∀a,a<k->∃i:Nat,t.place[i]?\(cp t.mask h a))(room:t.place.size+1<=t.mask):
  (t.put^cp t.mask h k).2=below t.place^cp t.mask h k/\below t.place^cp t.mask h k<=l.length/\
  TOk (t.put^cp t.mask h k).1 (l.take^below t.place^cp t.mask h k++h::l.drop^below t.place^cp t.mask h k):=by
 let⟨x,z,A⟩:=l6 T.rise^cp t.mask h k;have g:=mI (xs:=t.place) (cp t.mask h k) x;have sz:=T.size;have o:=λs=>Sw (s:=s) (j:=cp t.mask h k) T.rise;refine#[rfl,(),T.few,?_,Oj T.rise v,?_,?_,?_,?_]
 .show(if has t.dummies _=true then _ else t.dummies)= #[]
  rw[T.dum];rfl
 .show(insertAt t.place _ _).size=_
  rw[i5,dJ,hV,cJ,ji];lia
 .intro i j p
  have p:(insertAt t.place (below t.place^cp t.mask h k)^cp t.mask h k)[i]?\j:=p
  rcases(o j).mp #[i,p] with rfl| ⟨u,e⟩
  .exact FY _ _ _
  .exact T.le _ _ e
 .show(insertAt t.place _ _).size<=_
  rw[i5];exact room
 .intro i e b
  show ∃f,(insertAt t.place (below t.place^cp t.mask h k)^cp t.mask h k)[i]?\(cp t.mask e f)/\∀a,a<f->∃u:Nat,(insertAt t.place (below t.place^cp t.mask h k)^cp t.mask h k)[u]?\(cp t.mask e a);have lt:(l.take^below t.place^cp t.mask h k).length=below t.place^cp t.mask h k:=by rw[hV];lia
  by_cases c:i<below t.place^cp t.mask h k
  .rw[iR (),Gx c] at b
   let⟨f,q,r⟩:=T.path i e b;exact#[f,by rw[g,ir c];exact q,λa n=>(o _).mpr^.inr^r a n]
  .rw[jg (),lt] at b
   by_cases d:i=below t.place^cp t.mask h k
   .rw[d,oJ] at b
    cases(Fk b);exact#[k,by rw[d,g,mo (),ir rfl],λa n=>(o _).mpr^.inr^w a n]
   .obtain⟨m,y⟩:∃m,i-below t.place^cp t.mask h k=m+1:=#[i-below t.place^cp t.mask h k-1,()]
    rw[y,wF,yY] at b;let⟨f,q,r⟩:=T.path _ e b;refine#[f,?_,λa n=>(o _).mpr^.inr^r a n];rw[g,mo c,mo d,show i-1=below t.place^cp t.mask h k+m by lia]
    exact q
theorem yF(mask i p:Nat):∀r,fq mask i p (r+1)=fq mask (leap mask i p).1 (leap mask i p).2 r
 |0=>rfl
 |r+1=>by
  show leap mask (fq mask i p (r+1)).1 (fq mask i p (r+1)).2=_;rw[yF mask i p r];rfl
def Own(o:Array^Option Nat)(s:Nat):Prop:=(o.getD s^some 0).isNone=false
theorem Al{mask:Nat}(e:Array^Option Nat):∀(f:Nat)(p:Probe),p.j=p.i->p.more=runEnd mask p.i-p.i->p.i<=runEnd mask p.i->(∃r,r<f/\¬Own e (fq mask p.i p.perturb r).1)->
  ∃h,layClean.free mask e f p.i p.perturb\(c7 mask p h).j/\¬Own e (c7 mask p h).j/\∀g,g<h->Own e (c7 mask p g).j
 |0,p,_,_,_,#[r,v,_]=>by lia
 |f+1,p,w,E,F,#[r,v,q]=>by
  have run:∀c,c<=p.more->(c7 mask p c).j=p.i+c:=λc t=>by rw[wM mask p c t];show p.j+c=_;rw[w]
  cases l:(aj (runEnd mask p.i+1-p.i)).find? λk=>(e.getD (p.i+k)^some 0).isNone with
  |some k=>
   let⟨x,m,bs,o,y⟩:=List.find?_eq_some_iff_append.mp l;have G:k<runEnd mask p.i+1-p.i:=d9.mp^by rw[o];simp
   have z:m.length=k:=by
    have A:m.length<(aj (runEnd mask p.i+1-p.i)).length:=by rw[o];simp
    have:=nH (n:=runEnd mask p.i+1-p.i) (i:=m.length)^~~~A
    rw[o,jg^aZ _,oJ] at this;exact(Fk this).symm
   refine#[k,?_,?_,λg B=>?_]
   .rw[layClean.free,l,run k ()]
   .rw[run k ()]
    unfold Own;rw[x];exact Bool.noConfusion
   .rw[run g ()]
    have C:g∈m:=by
     have:=nH (n:=runEnd mask p.i+1-p.i) (i:=g) ()
     rw[o,iR ()] at this
     exact cU this
    have:=y g C
    unfold Own;exact Bool.not_eq_true' _▸this
  |none=>
   have all:=BR.mp l
   have own:∀c,c<=p.more->Own e (p.i+c):=λc t=>by
    have:=all c^d9.mpr ()
    unfold Own;exact B4.mpr this
   cases r with
   |zero=>exact absurd (own 0^eB _) q
   |succ r=>
    have u:=tj mask p
    let⟨h,a,b,c⟩:=Al e f (Wf mask p^leap mask p.i p.perturb) rfl rfl (by
     show(leap mask p.i p.perturb).1<=runEnd mask (leap mask p.i p.perturb).1;unfold runEnd;split<;>lia) #[r,(),by rw[yF] at q;exact q]
    rw[<-u] at a b c;have s:∀k,c7 mask (c7 mask p (p.more+1)) k=c7 mask p (p.more+1+k):=λk=>(mV mask p (p.more+1) k).symm;refine#[p.more+1+h,?_,?_,λg B=>?_]
    .rw[layClean.free,l,<-s,<-a,u];rfl
    .rw[<-s];exact b
    .by_cases d:g<=p.more
     .rw[run g d];exact own g d
     .have:=c (g-(p.more+1)) ()
      rw[s,show p.more+1+(g-(p.more+1))=g by lia] at this
      exact this
structure Laid (mask:Nat) (hs:List Int) (owner:Array^Option Nat) (ss:List Nat):Prop where
 size:owner.size=mask+1
 len:ss.length=hs.length
 nd:ss.Nodup
 le:∀s∈ss,s<=mask
 get:∀s,s<=mask->∀k,owner.getD s^some 0\k↔ss[k]?\s
 path:∀(k:Nat)(h:Int),hs[k]?\h->∃c,ss[k]?\(cp mask h c)/\∀c',c'<c->cp mask h c'∈ss
def Laid.own{mask:Nat}{c:List Int}{a:Array^Option Nat}{b:List Nat}(L:Laid mask c a b){s:Nat}(h:s<=mask):Own a s↔s∈b:=by
 unfold Own
 constructor
 .intro e
  cases o:a.getD s^some 0 with
  |none=>rw[o] at e;cases e
  |some k=>exact cU^(L.get s h k).mp o
 .intro e
  let⟨k,d⟩:=jw e;rw[(L.get s h k).mpr d];rfl
def Kg{mask:Nat}(f:y6 mask){l:List Int}{g:Array^Option Nat}{m:List Nat}(L:Laid mask l g m)(room:l.length<=mask)(h:Int):
  ∃j,layClean.free mask g (turns mask) (bits h%(mask+1))^bits h\j/\Laid mask (l++ [h]) (g.setIfInBounds j^some l.length) (m++ [j]):=by
 have o:=wL.start mask h
 obtain⟨s,C,F⟩:∃s,s<=mask/\s∉m:=by
  apply FM;intro c
  have all:∀s∈aj (mask+1),s∈m:=λs l=>by
   apply FM;intro n;exact c #[s,by have:=d9.mp l;lia,n]
  have:=Wb.ba uD all
  rw[jx,L.len] at this;lia
 have z:(fq mask (bV mask h).i (bV mask h).perturb 13).2=0:=by
  rw[mK];exact Nat.div_eq_of_lt^dR o.per ∅
 let⟨r,N,e⟩:=cover f (Iy mask (bV mask h).i (bV mask h).perturb 12) C
 have O:(bV mask h).i<=mask:=by
  have:=kE (bits h) (show 0<mask+1 by lia)
  show bits h%(mask+1)<=mask;lia
 let⟨p,a,b,c⟩:=Al g (turns mask) (bV mask h) rfl rfl (by unfold runEnd;split<;>lia) #[13+r,by unfold turns;lia,by
  rw[xW z];show ¬Own g^mn mask _ r;rw[e,L.own C];exact F]
 have E:∀k,(c7 mask (bV mask h) k).j=cp mask h k:=λk=>by unfold cp;rw[oG]
 rw[E] at a b;have u:=FY mask h p;rw[L.own u] at b;refine#[cp mask h p,a,?_,?_,?_,?_,?_,?_]
 .rw[ad5];exact L.size
 .rw[dJ,dJ,L.len];rfl
 .exact cQ.mpr #[L.nd,by simp,λx t y G z=>b^by rw[<-bW.mp G,<-z];exact t]
 .intro x t
  rcases bF.mp t with t|t
  .exact L.le x t
  .rw[bW.mp t];exact u
 .intro x t k
  have w:(g.setIfInBounds (cp mask h p)^some l.length).getD x^some 0=if cp mask h p=x then some l.length else g.getD x^some 0:=by
   rw[Jc,Jc,aeR]
   by_cases d:cp mask h p=x
   .rw[ir d,ir d,ir^by rw[L.size];lia];rfl
   .rw[mo d,mo d]
  rw[w]
  by_cases d:cp mask h p=x
  .rw[ir d]
   constructor
   .intro e
    cases(Fk e);rw[<-L.len,jg^aZ _,oJ,<-d];rfl
   .intro e
    by_cases q:k<m.length
    .rw[iR q] at e
     exact absurd (by rw[d];exact cU e) b
    .have:k<(m++ [cp mask h p]).length:=(cD.mp e).1
     rw[dJ] at this
     have:k<m.length+1:=this
     rw[show k=m.length by lia,L.len]
  .rw[mo d,L.get x t k]
   constructor
   .intro e
    rw[iR (cD.mp e).1];exact e
   .intro e
    by_cases q:k<m.length
    .rw[iR q] at e;exact e
    .have:k<(m++ [cp mask h p]).length:=(cD.mp e).1
     rw[dJ] at this
     have:k<m.length+1:=this
     rw[show k=m.length by lia,jg^aZ _,oJ] at e
     exact absurd (Fk e) d
 .intro k H v
  by_cases q:k<l.length
  .rw[iR q] at v
   let⟨I,w,J⟩:=L.path k H v;exact#[I,by rw[iR^by rw[L.len];exact q];exact w,λA B=>fK _^J A B]
  .have:k<(l++ [h]).length:=(cD.mp v).1
   rw[dJ] at this
   have:k<l.length+1:=this
   have M:k=l.length:=()
   subst M;rw[jg^aZ _,oJ] at v;cases(Fk v);refine#[p,by rw[<-L.len,jg^aZ _,oJ];rfl,λA B=>fK _ ?_]
   have:=c A B
   rw[E] at this;exact(L.own^FY _ _ _).mp this
def Kh(mask:Nat):Laid mask [] (dz (mask+1) none) [] where
 size:=by simp
 len:=rfl
 nd:=iV
 le:=λs h=>by cases h
 get:=λs a k=>by
  rw[Jc,Array.getElem?_replicate,ir ()]
  simp
 path:=λk h e=>by cases e
noncomputable def DX(mask:Nat)(acc:Option (Array^Option Nat×Nat))(h:Int):Option (Array^Option Nat×Nat):=do
 let (owner,k) <-acc
 let j <-layClean.free mask owner (turns mask) (bits h%(mask+1)) (bits h)
 pure (owner.setIfInBounds j^some k,k+1)
theorem DY{mask:Nat}(f:y6 mask):∀(b done:List Int)(a:Array^Option Nat)(g:List Nat),Laid mask done a g->done.length+b.length<=mask+1->
  ∃d c,b.foldl (DX mask)^some (a,done.length)\(d,done.length+b.length)/\Laid mask (done++b) d c
 | [],done,a,g,L,_=>#[a,g,rfl,by rw[fe];exact L]
 |h::b,done,a,g,L,l=>by
  rw[cJ] at l;let⟨j,e,m⟩:=Kg f L () h
  have n:DX mask (some (a,done.length)) h\(a.setIfInBounds j^some done.length,done.length+1):=by
   unfold DX;simp[e]
  let⟨d,c,i,k⟩:=DY f b (done++ [h]) _ _ m^by rw[dJ];show done.length+1+b.length<=_;lia
  refine#[d,c,?_,by rw[kB] at k;exact k]
  rw[afC,n];rw[dJ] at i;have i:b.foldl (DX mask)^some (a.setIfInBounds j^some done.length,done.length+1)\(d,done.length+1+b.length):=i;rw[i,cJ]
  congr 2;lia
def Ft{mask:Nat}(f:y6 mask)(b:List Int)(room:b.length<=mask+1):∃a c,layClean mask b.toArray\a/\Laid mask b a c:=by
 rfl';let⟨a,c,e,L⟩:=DY f b [] _ _ (Kh mask)^~~~room
 ac_rfl;refine#[a,c,?_,by simpa using L]
 have:layClean mask b.toArray=(b.foldl (DX mask)^some (dz (mask+1) none,0)).map (·.1):=by
  unfold layClean;rw[List.foldl_toArray];rfl
 have e:b.foldl (DX mask)^some (dz (mask+1) none,0)\(a,[].length+b.length):=e;rw[this,e];rfl
noncomputable def fm(mask:Nat)(a:Array^Option Nat):List (Nat×Nat):=(aj (mask+1)).filterMap λj=>(a.getD j none).map (j,·)
def NQ{mask:Nat}{b:List Int}{a:Array^Option Nat}{c:List Nat}(L:Laid mask b a c){j k:Nat}:(j,k)∈fm mask a↔c[k]?\j:=by
 unfold fm;rw[aeW]
 have dflt:∀s,s<=mask->a.getD s none=a.getD s^some 0:=λs b=>by
  rw[Jc,Jc,sU^by rw[L.size];lia];rfl
 constructor
 .rintro⟨s,d,e⟩
  have d:=d9.mp d;rw[dflt s ()] at e
  cases o:a.getD s^some 0 with
  |none=>rw[o] at e;cases e
  |some f=>
   rw[o] at e;have e:=Fk e;have h:s=j:=(GT e).1;have i:f=k:=(GT e).2;rw[<-h,<-i];exact(L.get s () f).mp o
 .intro e
  have g:=L.le j^cU e;refine#[j,d9.mpr (),?_]
  rw[dflt j g,(L.get j g k).mpr e];rfl
def Kl(mask:Nat)(c:Array^Option Nat):((fm mask c).map (·.1)).Pairwise (·<·):=by
 unfold fm;rw[iA,List.pairwise_filterMap];refine GA.imp λ {a b} h x d y e=>?_;cases f:c.getD a none with
 |none=>rw[f] at d;cases d
 |some i=>
  cases g:c.getD b none with
  |none=>rw[g] at e;cases e
  |some j=>
   rw[f] at d;rw[g] at e;cases(Fk d);cases(Fk e);exact h
theorem Rm{mask:Nat}(f:y6 mask)(l:List Int)(room:l.length<=mask)(finger moves:Nat)(led plain:Bool):
  ∃t g,laid mask finger moves led plain l.toArray\(t,g)/\t.mask=mask/\t.led=led/\t.plain=plain/\t.moves=moves/\g.toList.Perm^aj l.length/\TOk t (g.toList.map λk=>l.getD k 0):=by
 rfl';let⟨d,u,e,L⟩:=Ft f l ()
 have m:=λ {j k:Nat}=>NQ (j:=j) (k:=k) L;have v:=Kl mask d;ac_rfl
 have G:((fm mask d).map (·.2)).Nodup:=by
  rw[oY,iA];rw[iA] at v;refine v.imp_of_mem λ {a b} H q r z=>?_;let⟨I,J⟩:=a;let⟨M,bk⟩:=b;have A:=m.mp H;have N:=m.mp q;have z:J=bk:=z;rw[z,N] at A
  have:=Fk A
  have r:I<M:=r;lia
 have perm:((fm mask d).map (·.2)).Perm^aj l.length:=by
  refine(qM G uD).mpr λk=>?_;rw[bR,d9]
  constructor
  .rintro⟨⟨j,k'⟩,h,rfl⟩
   have:=(cD.mp^m.mp h).1
   rw[L.len] at this;exact this
  .intro n
   have O:k<u.length:=by rw[L.len];exact n
   exact#[(u[k],k),m.mpr^bA O,rfl]
 have P:(fm mask d).length=l.length:=by
  have:=perm.length_eq
  simpa using this
 refine#[{mask,place:=((fm mask d).map (·.1)).toArray,dummies:= #[],finger,led,moves,plain},((fm mask d).map (·.2)).toArray,?_,rfl,rfl,rfl,rfl,by simpa using perm,?_]
 .unfold laid
  rw[e];rfl
 have w:∀(i j:Nat),((fm mask d).map (·.1)).toArray[i]?\j↔∃k,(fm mask d)[i]?\(j,k):=λi j=>by
  rw[aeu,cL];cases o:(fm mask d)[i]? with
  |none=>simp
  |some x=>
   let⟨a,b⟩:=x;simp
 have y:∀s,s∈u->∃i:Nat,((fm mask d).map (·.1)).toArray[i]?\s:=λs Q=>by
  let⟨k,n⟩:=jw Q;let⟨i,p⟩:=jw^m.mpr n;exact#[i,(w i s).mpr #[k,p]]
 refine#[f,rfl,?_,?_,?_,?_,?_]
 .intro a b q r
  have q:b<((fm mask d).map (·.1)).length:=q
  have:=BY.mp v a b () q r
  simp[show a<(fm mask d).length by simpa using(show a<((fm mask d).map (·.1)).length by lia),show b<(fm mask d).length by simpa using q]
  simpa using this
 .simp
 .intro i j h
  let⟨k,n⟩:=(w i j).mp h;exact L.le j^cU^m.mp^cU n
 .show((fm mask d).map (·.1)).toArray.size<=mask
  simp[P];exact room
 .intro i B p
  rw[cL] at p;cases o:(fm mask d)[i]? with
  |none=>
   have:(((fm mask d).map (·.2)).toArray.toList)[i]? =none:=by simp[o]
   rw[this] at p;cases p
  |some x=>
   let⟨j,k⟩:=x;have R:(((fm mask d).map (·.2)).toArray.toList)[i]?\k:=by simp[o]
   rw[R] at p;have C:=m.mp^cU o;have n:k<l.length:=by rw[<-L.len];exact(cD.mp C).1
   have S:l[k]?\B:=by
    rw[<-Fk p];show _\(l.getD k 0);rw[bO,bA n];rfl
   let⟨c,E,T⟩:=L.path k B S;rw[C] at E;refine#[c,(w i _).mpr #[k,by rw[o,Fk E]],λX Y=>y _^T X Y]
end PySem.SetTable
namespace PySem
open SetTable PyProof.Rows
noncomputable def iF(w:World):Bool:=w.params.followText "set-order"
structure oM (bt:Bool) (o:Obj) (es:Array (Int×Value)) (ep:Nat) (t:SetTable):Prop where
 ex:o.ExactSet
 dat:o.data= .set es ep t
 tok:TOk t (es.toList.map (·.1))
 pl:t.plain=true
 ld:t.led= !bt
 few:5*es.size<3*t.mask
theorem TOk.fits(T:TOk t a):t.fits a.length=true:=by
 simp only[SetTable.fits,SetTable.fill,T.dum,T.size,uC,adz,decide_eq_true_eq,true_and]
 have:=T.room
 rw[T.size] at this;simpa using this
theorem oM.fits(S:oM w o a b t):t.fits a.size=true:=by
 have:=TOk.fits S.tok
 simpa using this
def Nh{mask n:Nat}(f:y6 mask)(h:5*n<3*mask):n+1<=mask:=by
 rcases f with rfl|rfl|rfl|rfl<;>lia
def JH{mask n:Nat}(f:y6 mask)(a:3*mask<=5*n)(b:5*(n-1)<3*mask)(c:n<=306):y6 (sizeAbove^grown n-1)/\5*n<3*(sizeAbove^grown n-1)/\n<=sizeAbove^grown n-1/\sizeAbove^grown n<=512:=by
 rcases f with rfl|rfl|rfl|rfl
 .have:n=5:=()
  subst this;exact#[.inr^.inl rfl,∅,∅,∅]
 .have:n=19:=()
  subst this;exact#[.inr^.inr^.inl rfl,∅,∅,∅]
 .have:n=77:=()
  subst this;exact#[.inr^.inr^.inr rfl,∅,∅,∅]
 .lia
theorem K1{t:ln}{c:Array (Int×b_)}(T:TOk t^c.toList.map (·.1))(d:t.tooFull=true)(near:5*(c.size-1)<3*t.mask)(small:c.size<=306):
  ∃f a,t.relaid (c.map (·.1))^grown c.size\(f,a)/\a.toList.Perm^aj c.size/\(a.filterMap (c[·]?)).toList.Perm c.toList/\(a.filterMap (c[·]?)).size=c.size/\
   TOk f^(a.filterMap (c[·]?)).toList.map (·.1)/\f.plain=t.plain/\f.led=t.led/\5*c.size<3*f.mask/\sizeAbove^grown c.size<=512:=by
 have sz:t.place.size=c.size:=by rw[T.size];simp
 have m:3*t.mask<=5*c.size:=by
  unfold SetTable.tooFull SetTable.fill at d;rw[T.dum,sz] at d;simp at d;lia
 rfl';let⟨o,p,q,r⟩:=JH T.few m near small;let⟨f,a,e,em,s,u,n,g,v⟩:=Rm o (c.toList.map (·.1)) (~~~q) t.finger (t.movedTo (sizeAbove^grown c.size-1)) t.led t.plain
 rw[aI,dj] at g;ac_rfl
 have i:(a.filterMap (c[·]?)).toList.Perm c.toList:=by
  rw[afL];exact(g.filterMap _).trans^by rw[filterMap_getElem?_range]
 have w:(a.filterMap (c[·]?)).size=c.size:=by rw[<-dj,i.length_eq,dj]
 refine#[f,a,?_,g,i,w,?_,u,s,by rw[em];exact p,r]
 .unfold SetTable.relaid
  rw[show c.map (·.1)=(c.toList.map (·.1)).toArray by apply afp.mp;simp]
  exact e
 .have:(a.filterMap (c[·]?)).toList.map (·.1)=a.toList.map λk=>(c.toList.map (·.1)).getD k 0:=by
   rw[afL];have lt:∀k∈a.toList,k<c.size:=λk h=>d9.mp^g.mem_iff.mp h;generalize a.toList=l at lt
   induction l with
   |nil=>rfl
   |cons k l x=>
    have h:=lt k (cF ..);rw[List.filterMap_cons_some (b:=c[k])^by simp[h],cY,cY,x λj y=>lt j^dS _ y]
    simp[h]
  rw[this];exact v
end PySem
set_option maxHeartbeats 1000000
namespace PySem
open SetTable PyProof.Rows
section
variable {prog:Program} {w:World} {A:Around} {E:Value->Shared->Prop} {s:Shared}
def yL{h:Heap}(g:h.get? a\o)(e:o.data= .set f d t)(b:Array (Int×b_))(c:ln):
  (h.update a^Obj.putSet b c).get? a\{o with data:= .set b (d+1) c}:=by
 have:=PP (Obj.putSet b c) g^by rw[putSet_of b c e];rfl
 rw[putSet_of b c e] at this;exact this
def Ac{Q₁:b_->c_->Prop}
  (h:Q₁ (.ref s.heap.objs.size) {s with heap:=s.heap.push {cls:= .type "set",dict:=none,data:= .set #[] 0^.fresh 0 0 (!iF w)}}):
  gj (d5 prog w) A (.call (.builtin "set.__new__") #[[.type "set"],[]]) (wants Q₁ E) s:=by
 refine ad0 ?_;refine a_^aeU F.newCall_set_0^tz #[adY F.plain_set_new _,adT F.entry_set_new ?_];rw[adK F.plain_set_new _];unfold Builtin.«set.__new__» Builtin.Frozenset.newClass;have a:=sub_set_self;let⟨b,g,d,c,os⟩:=s;dsimp only
 wp_walk
 refine afq^tz ?_;dsimp only;simp only[newObj];refine a_^wpAny_alloc^tz ?_;exact tz h
theorem EN 
  (h:Q (.ref s.heap.objs.size) {s with heap:=s.heap.push {cls:= .type "set",dict:=none,data:= .set #[] 0^.fresh 0 0 (!iF w)}}):
  d_ (d5 prog w) A (call (.type "set") []) Q E s:=by
 let⟨c,u,i⟩:=F.called_set.mro;have j:=F.called_set.made;have k:=F.called_set.sub;refine adJ^ad0 ?_;show d_ _ _ (callAny (.type "set") _) _ _ _;refine tz #[aeY _^by decide+kernel,adT F.entry_type_call ?_]
 rw[Around.under_plain (weight_type_call_type "set" [] []) rfl];have v:=F.called_set.notType;have x:=F.called_set.canCreate;have l:=F.typeCall_set_0
 repeat (any_goals (first|assumption|wp_step))
 refine adq (Ac (E:=E) (Q₁:=λobj a=>obj= .ref s.heap.objs.size/\a={s with heap:=s.heap.push {cls:= .type "set",dict:=none,data:= .set #[] 0^.fresh 0 0 (!iF w)}}) #[rfl,rfl]) λr a b=>?_
 cases r with
 |error e=>exact b
 |ok m=>
  cases m with
  |ret obj=>
   let⟨rfl,rfl⟩:=b;have n:(s.heap.push {cls:= .type "set",dict:=none,data:= .set #[] 0^.fresh 0 0 (!iF w)}).get? s.heap.objs.size\{cls:= .type "set",dict:=none,data:= .set #[] 0^.fresh 0 0 (!iF w)}:=GM _ rfl;have o:Shared.TypeIs {s with heap:=s.heap.push {cls:= .type "set",dict:=none,data:= .set #[] 0^.fresh 0 0 (!iF w)}} (.ref s.heap.objs.size) "set":=#[_,n,rfl]
   have p:=F.called_set.init.lookup;have q:=F.called_set.init.bind^.ref s.heap.objs.size
   repeat (any_goals (first|assumption|wp_step))
   refine adq (aeF (R:=wants (λr g=>r= .none/\Q (.ref s.heap.objs.size) g) E) F.called_set.init.plain F.entry_set_init^check_set_init o ?_) λd g f=>?_
   .unfold Builtin.«set.__init__» noKeywords
    wp_walk
    exact#[rfl,h]
   .cases d with
    |error e=>exact f
    |ok t=>
     cases t with
     |ret r=>
      let⟨rfl,y⟩:=f
      repeat (any_goals (first|assumption|wp_step))
     |_=>exact f.elim
  |_=>exact b.elim
def oM.new(w:ei):oM (iF w) {cls:= .type "set",dict:=none,data:= .set #[] 0^.fresh 0 0 (!iF w)} #[] 0 (.fresh 0 0 (!iF w)) where
 ex:=#[rfl,rfl,rfl]
 dat:=rfl
 tok:=#[.inl rfl,rfl,λi j a=>by simp[SetTable.fresh] at a,rfl,λi j h=>by simp[SetTable.fresh] at h,by simp[SetTable.fresh],λi h e=>by simp at e]
 pl:=rfl
 ld:=rfl
 few:=by simp[SetTable.fresh]
end
section
variable {prog:Program} {w:World} {A:Around} {E:Value->Shared->Prop} {s:Shared}
def ItemsAre.ints(h:ItemsAre (intKind prog w) c b):∀v∈b,∃i t,v= .int i t:=by
 induction h with
 |nil=>intro v a;simp at a
 | @cons k f c b d _ e=>
  intro v a
  rcases b7.mp a with rfl|a
  .obtain⟨t,rfl⟩:=Value.isInt_shape d
   exact#[k,t,rfl]
  .exact e v a
def qI(f:f_ (eh prog w) s.heap j a)(h:Q false s):d_ (d5 prog w) A (jo 8^.ref a) Q E s:=by
 have k:=f.typeIs;let⟨o,c,n,l,z,m,p⟩:=f;unfold jo;refine a_^afU k ?_;dsimp only;simp only[beq_self_eq_true, ↓reduceIte];refine a_^tz ?_;simp only[ae7,fL, ↓reduceIte];refine a_^aeb l m ?_;dsimp only;refine a_ ?_;rw[<-GF];refine aft _ (λb r d=>r.1=none/\d=s/\∀v∈b,∃i t,v=Value.int i t) _ ?_ ?_ _ _ #[rfl,rfl,p.ints]
 .rintro v b r d ⟨e,rfl,g⟩
  let⟨i,t,rfl⟩:=g v cF;refine a_^aeU (show jo 7^.int i t=pure false from by unfold jo;rfl) ?_
  simp only[fL,Pi];exact tz #[rfl,rfl,λu q=>g u^dS _ q]
 .rintro⟨x,y⟩ d ⟨e,rfl,_⟩
  simp only at e;subst e;exact tz h
def IY(j:f_ (eh prog w) s.heap n b)(stored:List b_)(o:∀y∈stored,∃f a,y=Value.ref a/\f_ (eh prog w) s.heap f a)(h:Q false s):
  d_ (d5 prog w) A (searchCouldBeSeen (.ref b) stored) Q E s:=by
 unfold searchCouldBeSeen;refine a_ ?_;refine aft _ (λd r g=>r.1=none/\g=s/\∀y∈d,∃f a,y=Value.ref a/\f_ (eh prog w) s.heap f a) _ ?_ ?_ _ _ #[rfl,rfl,o]
 .rintro y d r g ⟨i,rfl,k⟩
  let⟨f,a,rfl,l⟩:=k y cF;have m:∀y∈d,∃f a,y=Value.ref a/\f_ (eh prog w) g.heap f a:=λy p=>k y^dS _ p;have e:(carriedByValue^Value.ref b&&carriedByValue^Value.ref a)=false:=by simp[carriedByValue]
  dsimp only;rw[e,Bool.or_false]
  by_cases c:(b==a)=true
  .rw[ir c]
   exact tz #[rfl,rfl,m]
  .rw[mo c]
   refine a_^wpAny_eqIsQuiet_tuple j ?_;simp only[ae7,fL,Pi];refine a_^wpAny_eqIsQuiet_tuple l ?_;simp only[ae7,fL,Pi];refine a_^qI j ?_;simp only[fL,Pi];refine a_^qI l ?_;simp only[fL,Pi];exact tz #[rfl,rfl,m]
 .rintro⟨q,t⟩ g ⟨i,rfl,_⟩
  simp only at i;subst i;exact tz h
def CU(f:f_ (eh prog w) s.heap j a)(h:Q true s):d_ (d5 prog w) A (hashByValue 8^.ref a) Q E s:=by
 rfl';have l:=f.typeIs;let⟨o,c,n,m,k,p,q⟩:=f;ac_rfl;unfold hashByValue;refine a_^aeJ l F.slot_tuple_hash.lookup ?_;dsimp only;refine a_^aeb m p ?_;refine a_ ?_;show d_ _ _ (forIn c _ _) _ _ s;rw[<-GF];refine aft _ (λb r d=>r.1=none/\d=s/\∀v∈b,∃i t,v=Value.int i t) _ ?_ ?_ _ _ #[rfl,rfl,q.ints]
 .rintro v b r d ⟨e,rfl,g⟩
  let⟨i,t,rfl⟩:=g v cF;refine a_^aeU (show hashByValue 7^.int i t=pure true from by unfold hashByValue;rfl) ?_
  simp only[ae7,fL,Pi];exact tz #[rfl,rfl,λu x=>g u^dS _ x]
 .rintro⟨z,B⟩ d ⟨e,rfl,_⟩
  simp only at e;subst e;exact tz h
def OY(prog:Program)(w:World)(h:Heap)(b:Array (Int×Value)):Prop:=∀(i:Nat)(e:Int×Value),b[i]?\e->∃k a,e=(tupleKeyHash (intKind prog w) k, .ref a)/\IsTupleKey (intKind prog w) h k a
noncomputable def To(a:Array (Int×Value))(i:Nat):Int:=(a[i]?.map (·.1)).getD 0
def P6(h:y6 m):m%2=1:=by rcases h with rfl|rfl|rfl|rfl<;>rfl
def Eg{a:Array Nat}(R:pI a){i j v:Nat}(b:a[i]?\v)(c:a[j]?\v):i=j:=by
 rw[<-below_at R b,<-below_at R c]
theorem sT(hu:A.units<cLine)(ho:s.heap.get? a\o)(S:oM (iF w) o q M t)(P:OY prog w s.heap q)(hk:f_ (eh prog w) s.heap u b)
  (UI:(∃(i:Nat)(c:Addr),q[i]?\(e_ (eh prog w) u, .ref c)/\f_ (eh prog w) s.heap u c)->∀r:Option Nat,(B=false->r.isSome=true)->Q (.there r) s)
  (Fd:(∀(i:Nat)(e:Int×b_),q[i]?\e->∀c,e.2= .ref c->¬f_ (eh prog w) s.heap u c)->∀g,(∀i:Nat,t.place[i]? ≠some^cp t.mask (e_ (eh prog w) u) g)->(∀j,j<g->∃i:Nat,t.place[i]?\(cp t.mask (e_ (eh prog w) u) j))->
   Q (.free (cp t.mask (e_ (eh prog w) u) g) false) s):
  d_ (d5 prog w) A (setSearch a (.ref b) (e_ (eh prog w) u) B) Q E s:=by
 generalize hh:e_ (eh prog w) u=h at*;have T:=S.tok;obtain⟨s0,hs0,N⟩:=T.empty;obtain⟨K,hK,eK⟩:=meets T.few (wL.start t.mask h) hs0;have eK:cp t.mask h K=s0:=by unfold cp;rw[oG];exact eK
 have kb:K<6000:=by
  have:10*turns t.mask<=5260:=by
   rcases T.few with e|e|e|e<;>rw[e]<;>decide
  lia
 have sz:t.place.size=q.size:=by rw[T.size];simp
 have hN:(t.mask%2==0)=false:=by rw[P6 T.few];rfl
 have O:∀(n:Nat)(k:Nat)(l:Nat)(R:Option Probe),K+1-k<=n->n<l->k<=K->R.getD^t.probeStart h=tZ t.mask h k->(∀j,j<k->∃i:Nat,t.place[i]?\(cp t.mask h j))->
   (∀(i:Nat) c,q[i]?\(h, .ref c)->f_ (eh prog w) s.heap u c->∀C,t.place[i]?\(cp t.mask h C)->k<=C)->
   d_ (d5 prog w) A (g_ a (.ref b) h B l R) Q E s:=by
  intro n
  induction n with
  |zero=>intro k l R h1 h2 h3;lia
  |succ n ih=>
   intro k l R h1 h2 h3 h4 h5 h6;obtain⟨f,rfl⟩:∃f,l=f+1:=#[l-1,()]
   unfold g_;refine a_^adH ho S.dat S.fits ?_;dsimp only;unfold SetTable.gaveWay;rw[hN];simp only[fL,Pi]
   have X:∀(i:Nat)(e:Int×b_),q[i]?\e->To q i=e.1:=λi e d=>by
    show(q[i]?.map (·.1)).getD 0=e.1;rw[d];rfl
   generalize I:t.probe _ h^R.getD^t.probeStart h=r;have I:t.probe (To q) h^tZ t.mask h k=r:=by rw[<-h4];exact I
   generalize To q=hA at X I;obtain⟨g,zd,hp,alt⟩:=TOk.probe T hA h k
   have k0K:g<=K:=by
    apply FM;intro c;obtain⟨i,d,_⟩:=hp K h3 ()
    rw[eK] at d;exact N i d
   have Vl:∀j,j<g->∃i:Nat,t.place[i]?\(cp t.mask h j):=λj h'=>by
    by_cases c:j<k
    .exact h5 j c
    .obtain⟨i,d,_⟩:=hp j () h'
     exact#[i,d]
   have F:∀(i:Nat) c,q[i]?\(h, .ref c)->f_ (eh prog w) s.heap u c->∀C,t.place[i]?\(cp t.mask h C)->g<=C:=λi c d hc C Y=>by
    have hkx:=h6 i c d hc C Y;apply FM;intro z;obtain⟨p,G,jO⟩:=hp C hkx ()
    have:i=p:=Eg T.rise Y G
    subst this;exact jO^X i _ d
   rcases alt with ⟨QJ,M⟩ | ⟨i,d,JR,M⟩
   .rw[M] at I
    subst I;dsimp only;refine tz^Fd (λi e d c hc Z=>?_) g QJ Vl;obtain⟨j,a',e1,gG⟩:=P i e d;subst e1;cases hc
    have:j=u:=gG.inj Z
    subst this;rw[hh] at d;obtain⟨ky,hy1,hy2⟩:=T.path i h^by rw[cL,gr,d];rfl
    have lt:=F i _ d Z ky hy1
    by_cases c1:g<ky
    .obtain⟨p,G⟩:=hy2 g c1
     exact QJ p G
    .have:ky=g:=()
     subst this;exact QJ i hy1
   .rw[M] at I
    subst I;dsimp only
    have ZM:i<q.size:=by
     have:=(BX.mp d).1
     lia
    obtain⟨j,c,e1,gG⟩:=P i q[i]^sU ZM;have L:q[i]?\(e_ (eh prog w) j, .ref c):=by rw[sU ZM,e1]
    have H:d_ (d5 prog w) A (match q[i]? with
      |some (fst,y)=>do
       let m <-gP [y]^eqBool y^Value.ref b
       let J <-setState a
       if (B&&m)=true then pure (SetFound.there none)
        else
         match J.2.snd.sameMemory t.moves t.mask with
         |some same=>
          match if same=true then J.2.snd.slot^cp t.mask h g else Slot.empty with
          |Slot.live p=>
           match J.fst[p]? with
           |some (fst,y')=>do
            let v <-isSame y' y
            let Bw <-pure^if v=true then some p else none
            match Bw with
             |none=>do
              rule "set.search.anew"
              g_ a (Value.ref b) h B f none
             |some p=>
              if m=true then pure (SetFound.there^some p)
              else g_ a (Value.ref b) h B f^some^tZ t.mask h (g+1)
           |none=>do
            let Bw <-pure none
            match Bw with
             |none=>do
              rule "set.search.anew"
              g_ a (Value.ref b) h B f none
             |some p=>
              if m=true then pure (SetFound.there^some p)
              else g_ a (Value.ref b) h B f^some^tZ t.mask h (g+1)
          |x=>do
           let Bw <-pure none
           match Bw with
            |none=>do
             rule "set.search.anew"
             g_ a (Value.ref b) h B f none
            |some p=>
             if m=true then pure (SetFound.there^some p)
             else g_ a (Value.ref b) h B f^some^tZ t.mask h (g+1)
         |x=>jd "set.changed-during-lookup:is-the-new-block-at-the-old-address"
      |x=>jd "internal:set-entry") Q E s:=by
     rw[L];dsimp only;refine a_^On^wpAny_eqBool_tuple hu gG hk ?_;refine a_^adH ho S.dat S.fits ?_;dsimp only;have sm:t.sameMemory t.moves t.mask\true:=by unfold SetTable.sameMemory;simp
     have jO:j≠u->d_ (d5 prog w) A (g_ a (Value.ref b) h B f^some^tZ t.mask h (g+1)) Q E s:=λne=>by
      by_cases kk:g=K
      .subst kk
       rw[eK] at d;exact absurd d^N i
      refine ih (g+1) f _ () () () rfl (λUY h''=>?_) λp c' G pz C Y=>?_
      .by_cases z:UY=g
       .subst z;exact#[i,d]
       .exact Vl UY ()
      .have l1:=F p c' G pz C Y
       have:C≠g:=λz=>by
        subst z
        have:p=i:=Eg T.rise Y d
        subst this;rw[L] at G;cases G;exact ne^gG.inj pz
       lia
     have there:j=u->∀r:Option Nat,(B=false->r.isSome=true)->Q (.there r) s:=λe=>by
      subst e;rw[hh] at L;exact UI #[i,c,L,gG]
     by_cases e:j=u
     .rw[Gc e,Bool.and_true]
      cases B with
      |true=>exact tz (there e none λz=>absurd z ∅)
      |false=>
       simp only[fL,Pi];rw[sm];dsimp only;rw[ir rfl,tY T.rise d];dsimp only;rw[L];dsimp only;refine a_^wpAny_isSame_ref_self ?_;refine a_^tz ?_;simp only[adD];exact tz (there e (some i) λ_=>rfl)
     .rw[GE e,Bool.and_false]
      simp only[fL,Pi];rw[sm];dsimp only;rw[ir rfl,tY T.rise d];dsimp only;rw[L];dsimp only;refine a_^wpAny_isSame_ref_self ?_;refine a_^tz ?_;simp only[adD];exact jO e
    by_cases led:(!t.led)=true
    .rw[ir led]
     refine a_^IY hk _ (λy hy=>?_) ?_
     .obtain⟨e,he,rfl⟩:=bR.mp hy
      have he:=(Array.mem_filter.mp^Array.mem_toList_iff.mp he).1;obtain⟨p,G,rfl⟩:=Array.mem_iff_getElem.mp he;obtain⟨UY,c',e1,abw⟩:=P p q[p]^sU G;exact#[UY,c',by rw[e1],abw]
     .simp only[fL,Pi]
      exact H
    .rw[mo led]
     exact H
 refine O (K+1) 0 100000 none (aZ _) () (eB _) rfl (λj h'=>by lia) λi c d hc C _=>eB _
end
section
variable {prog:Program} {w:World} {A:Around} {E:Value->Shared->Prop} {s:Shared}
def yk(b:Addr)(a:Array (Int×Value)):byScan (.ref b) a=false:=rfl
def CT(k:A.units<cLine)(g:s.heap.get? a\o)(S:oM (iF w) o f j t)(P:OY prog w s.heap f)(l:f_ (eh prog w) s.heap d b)
  (m:(∃(i:Nat)(c:Addr),f[i]?\(e_ (eh prog w) d, .ref c)/\f_ (eh prog w) s.heap d c)->∀r:Option Nat,r.isSome=true->Q r s)
  (n:(∀(i:Nat)(e:Int×b_),f[i]?\e->∀c,e.2= .ref c->¬f_ (eh prog w) s.heap d c)->Q none s):
  d_ (d5 prog w) A (setFind a (.ref b)^e_ (eh prog w) d) Q E s:=by
 unfold setFind setFindIn;refine a_^adH g S.dat S.fits ?_;dsimp only;rw[yk];simp only[fL,Pi];refine a_ (sT k g S P l (λh r p=>?_) λh q _ _=>?_)
 .exact tz^m h r^p rfl
 .exact tz^n h
def Gd(hu:A.units<cLine)(q:s.heap.get? a\o)(S:oM (iF w) o d ep t)(P:OY prog w s.heap d)(M:f_ (eh prog w) s.heap g b)(room:d.size<=305)
  (hy:(∃(i:Nat)(c:Addr),d[i]?\(e_ (eh prog w) g, .ref c)/\f_ (eh prog w) s.heap g c)->Q false s)
  (N:(∀(i:Nat)(e:Int×b_),d[i]?\e->∀c,e.2= .ref c->¬f_ (eh prog w) s.heap g c)->∀F O R Aj t',Heap.SameBut a s.heap F->F.get? a\O->oM (iF w) O R Aj t'->R.toList.Perm (d.toList++ [(e_ (eh prog w) g, .ref b)])->Q true {s with heap:=F}):
  d_ (d5 prog w) A (setAddHashed a (.ref b)^e_ (eh prog w) g) Q E s:=by
 have z:=S.dat;have X:=S.fits;have T:=S.tok;have sz:t.place.size=d.size:=by rw[T.size];simp
 unfold setAddHashed setAddHashedIn;refine On^a_^adH q z X ?_;dsimp only;rw[yk];simp only[fL,Pi];refine a_ (sT hu q S P M (λh r hr=>?_) λh k G Vl=>?_)
 .exact tz^hy h
 .dsimp only
  refine a_^adH q z X ?_;dsimp only;let⟨p1,p2,m⟩:=TOk.put T G Vl^by rw[sz];exact Nh T.few S.few
  rw[p1]
  have e:(SetTable.insertAt d (below t.place^cp t.mask (e_ (eh prog w) g) k) (e_ (eh prog w) g,Value.ref b)).toList.map (·.1)=(d.toList.map (·.1)).take^below t.place^cp t.mask (e_ (eh prog w) g) k++e_ (eh prog w) g::(d.toList.map (·.1)).drop^below t.place^cp t.mask (e_ (eh prog w) g) k:=by
   rw[afs];simp
  rw[<-e] at m;have pl:(t.put^cp t.mask (e_ (eh prog w) g) k).1.plain=true:=S.pl;have ld:(t.put^cp t.mask (e_ (eh prog w) g) k).1.led= !iF w:=S.ld;have mk:(t.put^cp t.mask (e_ (eh prog w) g) k).1.mask=t.mask:=rfl;generalize hx:((e_ (eh prog w) g,Value.ref b):Int×b_)=x at*;generalize hp:below t.place^cp t.mask (e_ (eh prog w) g) k=p at*;generalize (t.put^cp t.mask (e_ (eh prog w) g) k).1=n at*;rw[ir pl];refine a_^CU M ?_;simp only[adD,Bool.not_false,Bool.true_and];have u:(SetTable.insertAt d p x).size=d.size+1:=SetTable.i5 ..;have l:=afK d p x;rw[B3] at l;refine a_^wpAny_storeSet_of q z ?_^by rw[u];refine fits_of_scanBound ?_;show d.size+1<4096;lia
  have B:=yL q z (SetTable.insertAt d p x) n;have v:=Heap.SameBut.update s.heap a^Obj.putSet (SetTable.insertAt d p x) n
  have H:n.fits (SetTable.insertAt d p x).size=true:=by
   have:=TOk.fits m
   rw[aI,dj] at this;exact this
  by_cases j:n.tooFull=true
  .rw[ir j]
   refine ae λG0 k=>?_;let⟨C,f,Y,D,pf,Z,T2,I,l2,f2,J⟩:=K1 m j (by rw[u,mk];have:=S.few;lia)^by rw[u];lia
   refine k ?_;rw[u] at Y f2 J;refine a_ ?_;unfold setRelay;refine a_^adH B rfl H ?_;dsimp only;have big:512<=sizeLine:=∅
   rw[mo (),Y]
   have y:(f.filterMap ((SetTable.insertAt d p x)[·]?)).size=d.size+1:=by rw[Z,u]
   refine a_ (aeU (a:=(f.filterMap ((SetTable.insertAt d p x)[·]?),C)) ?_ ?_)
   .show(if ((f.filterMap ((SetTable.insertAt d p x)[·]?)).size !=(SetTable.insertAt d p x).size)=true then _ else pure (f.filterMap ((SetTable.insertAt d p x)[·]?),C))=_
    rw[mo^by rw[Z];simp]
   .dsimp only
    refine wpAny_storeSet_of B rfl ?_^by rw[y];refine fits_of_scanBound ?_;show d.size+1<4096;lia
    have HB:=yL B rfl (f.filterMap ((SetTable.insertAt d p x)[·]?)) C;exact tz^N h _ _ _ _ C (v.trans^Heap.SameBut.update _ a _) HB #[S.ex,rfl,T2,by rw[I];exact pl,by rw[l2];exact ld,by rw[y];exact f2]^pf.trans l
  .rw[mo j]
   refine tz^N h _ _ _ _ n v B #[S.ex,rfl,m,pl,ld,?_] l;have L:n.tooFull=false:=by simpa using j
   unfold SetTable.tooFull SetTable.fill at L;rw[m.dum,m.size] at L;simp at L;lia
variable {a b:Addr} {o:Obj} {es:Array (Int×Value)} {ep:Nat} {t:SetTable} {ks:List Int}
open Classical in
noncomputable def pZ(prog:Program)(w:World)(h:Heap)(es:Array (Int×Value))(ks:List Int):Bool:=decide (∃(i:Nat)(c:Addr),es[i]?\(tupleKeyHash (intKind prog w) ks, .ref c)/\IsTupleKey (intKind prog w) h ks c)
def QB(h:∀(i:Nat)(e:Int×Value),es[i]?\e->∀c,e.2= .ref c->¬IsTupleKey (intKind prog w) s.heap ks c):pZ prog w s.heap es ks=false:=by
 classical
 unfold pZ;exact GE λ#[i,c,d,f]=>h i _ d c rfl f
def Nz(h:∃(i:Nat)(c:Addr),es[i]?\(tupleKeyHash (intKind prog w) ks, .ref c)/\IsTupleKey (intKind prog w) s.heap ks c):pZ prog w s.heap es ks=true:=by
 classical
 unfold pZ;exact Gc h
def wB(k:A.units+64<cLine)(d:s.heap.get? a\o)(S:oM (iF w) o es ep t)(P:OY prog w s.heap es)(e:f_ (eh prog w) s.heap ks b)
  (h:∀f,Q (pZ prog w s.heap es ks) {s with toks:=f}):d_ (d5 prog w) A (contains (.ref a)^.ref b) Q E s:=by
 have c:s.TypeIs (.ref a) "set":=#[o,d,S.ex.1];unfold contains
 try with_reducible refine On ?_
 refine a_^aeJ c F.slot_set_contains.lookup ?_;show d_ _ _ (if (some^Value.builtin "set.__contains__"==some Value.none)=true then _ else _) _ E s;rw[mo^by rw[beq_builtin_none];exact dZ]
 refine a_^wpAny_callSpecialUnlessNone?_slot (name:=Str.ofString "__contains__") c F.slot_set_contains
  (ads F.slot_set_contains c entry_set_contains ?_^F.args_set_contains_2 _ _)
 unfold Builtin.«frozenset.__contains__» Builtin.Frozenset.oneOther;simp only[List.isEmpty_nil,bind_assoc];unfold Builtin.Frozenset.addrOf Builtin.Frozenset.withSetAsKey setContains;refine a_^tz ?_
 try dsimp only
 refine a_^tz ?_
 try dsimp only
 refine a_^wpAny_tryCatch ?_;refine On ?_;refine a_^wpAny_pyHash_tuple ?_ e ?_
 .show A.units+1<cLine;lia
 refine a_ (CT (s:={s with toks:=s.toks+(ks.length+1)}) ?_ d S P e (λg r i=>?_) λj=>?_)
 .show A.units+1<cLine;lia
 .refine tz ?_
  show d_ _ _ (ret^Value.bool r.isSome) _ _ _;rw[i]
  have:=h (s.toks+(ks.length+1))
  rw[Nz g] at this;exact tz #[_,rfl,P3 this]
 .refine tz ?_
  have:=h (s.toks+(ks.length+1))
  rw[QB j] at this;exact tz #[_,rfl,P3 this]
end
end PySem
set_option maxHeartbeats 4000000
namespace L2
open PySem PySem.Spec PyProof.Rows
inductive FV where
 |int (i:Int) |bl (b:Bool)
inductive XD where
 |vT (b:Bool) (ps:List (Int×Int)) |eL (ks:List (Int×Int)) (vs:List FV)
inductive D where
 |aS|bl (b:Bool) |int (i:Int) |str (x:eg) |lst (l:List D) |tup (l:List D) |qC (ns:List Int) |rng (lo hi:Int) |obj (a:Addr) |gw (w:List^List Nat) |set (b:Bool) (l:List Int) |x (k:XD) |err (C:Addr) (ks:List eg) (l:List D)
structure DC where
 K:ad
 C:Addr
def az(n:Nat):D:= .int n
noncomputable def aE(r:List Nat):D:= .lst^r.map az
noncomputable def bz(w:List^List Nat):D:= .lst^w.map aE
def aaJ(a:Array (Int×Value))(b:List Int):Prop:=(∀e∈a.toList,∃k t,e=(hashInt k,Value.int k t))/\b.Nodup/\∃c,IntsAre (a.toList.map (·.2)) c/\c.Perm b
def WD(b:Bool)(a:Addr)(d:List Int)(h:Heap):Prop:=∃o c e t,h.get? a\o/\oM b o c e t/\aaJ c d
noncomputable def bT(p:Int×Int):Int:=reduceHash^Builtin.Tuple.tupleHashOf [hashInt p.1,hashInt p.2]
inductive hZ (H:Hp):List (Int×Addr)->List (Int×Int)->Prop
 |nil:hZ H [] []
 |cons {a:Addr} {p:Int×Int} {es:List (Int×Addr)} {ps:List (Int×Int)}:H a\(.tup [.int p.1, .int p.2])->hZ H es ps->hZ H ((bT p,a)::es) (p::ps)
theorem hZ.mono{H a:Hp}(s:aC H a):∀{b:List (Int×Addr)}{c:List (Int×Int)},hZ H b c->hZ a b c
 |_,_, .nil=> .nil
 |_,_, .cons h t=> .cons (s _ _ h)^t.mono s
def gz(b:Bool)(a:Addr)(d:List (Int×Addr))(h:Heap):Prop:=∃o c f t,h.get? a\o/\oM b o c f t/\c.toList.Perm (d.map λe=>(e.1,Value.ref e.2))
def MR:FV->Value->Prop
 | .int i,v=>∃t,v= .int i t
 | .bl b,v=>v= .bool b
inductive MN:List DictEntry->List (Int×Addr)->List FV->Prop
 |nil:MN [] [] []
 |cons {e:DictEntry} {l:List DictEntry} {h:Int} {a:Addr} {v:FV} {es:List (Int×Addr)} {vs:List FV}:e.hash=h->e.key= .ref a->MR v e.val->MN l es vs->MN (e::l) ((h,a)::es) (v::vs)
def cu(a:Addr)(c:List (Int×Addr))(d:List FV)(h:Heap):Prop:=(a==sysModules)=false/\∃o b e,h.get? a\o/\o.ExactDict/\o.data= .dict b e/\MN b.toList c d
def MX(H:Hp)(a:Addr)(d:Heap->Prop):XD->Prop
 | .vT b e=>e.Nodup/\∃c,d=gz b a c/\hZ H c e
 | .eL ks f=>ks.Nodup/\∃c,d=cu a c f/\hZ H c ks
theorem MX.mono{H c:Hp}(s:aC H c):∀{k:XD},MX H a d k->MX c a d k
 | .vT _ _,#[n,b,e,p]=>#[n,b,e,p.mono s]
 | .eL _ _,#[n,b,e,p]=>#[n,b,e,p.mono s]
def TY(H:Hp)(d:Option Addr)(a:List eg)(b:List V):Prop:=(d=none/\a= []/\b= [])\/∃c,d\c/\H c\(EJ c^a.zip b)/\a.length=b.length
theorem TY.mono{H d:Hp}(s:aC H d)(h:TY H e f g):TY d e f g:=h.imp id λ#[i,a,b,c]=>#[i,a,s _ _ b,c]
mutual
inductive Dv (Z:DC) (H:Hp):V->D->Prop
 |aS:Dv Z H .aS .aS
 |bl (b:Bool):Dv Z H (.bl b)^.bl b
 |int (i:Int):Dv Z H (.int i)^.int i
 |str (x:eg) (h:PyData.strOk x=true):Dv Z H (.str x)^.str x
 |lst {a:Addr} {xs:List V} {ds:List D}:H a\(.lst xs)->DvAll Z H xs ds->Dv Z H (.ref a)^.lst ds
 |tup {a:Addr} {xs:List V} {ds:List D}:H a\(.tup xs)->DvAll Z H xs ds->Dv Z H (.ref a)^.tup ds
 |obj (a:Addr):Dv Z H (.ref a)^.obj a
 |rng {a:Addr} {lo hi:Int}:H a\(.rng lo hi)->Dv Z H (.ref a)^.rng lo hi
 |qC {a:Addr} {ns:List Int}:aK Z.K H a^ns.map V.int->ns.length<=63->Dv Z H (.ref a)^.qC ns
 |gw {p dx R:Addr} {w:List^List Nat}:H p\(.ins Z.C dx [("rows", .ref R)])->Dv Z H (.ref R)^bz w->Wb.Good w->1<=w.length->w.length<=14->Dv Z H (.ref p)^.gw w
 |set {a:Addr} {b:Bool} {ns:List Int}:H a\(.ext^WD b a ns)->Dv Z H (.ref a)^.set b ns
 |x {a:Addr} {φ:Heap->Prop} {k:XD}:H a\(.ext φ)->MX H a φ k->Dv Z H (.ref a)^.x k
 |err {a C:Addr} {od:Option Addr} {ks:List eg} {xs:List V} {ds:List D}:H a\(pG C a od)->TY H od ks xs->DvAll Z H xs ds->Dv Z H (.ref a)^.err C ks ds
inductive DvAll (Z:DC) (H:Hp):List V->List D->Prop
 |nil:DvAll Z H [] []
 |cons {v:V} {vs:List V} {d:D} {ds:List D}:Dv Z H v d->DvAll Z H vs ds->DvAll Z H (v::vs) (d::ds)
end
def aK.mono{K:ad}{H b:Hp}(s:aC H b)(h:aK K H a xs):aK K b a xs:=by
 rcases h with (h| ⟨o,h⟩) |h
 .exact .inl^.inl^s _ _ h
 .exact .inl^.inr #[o,s _ _ h]
 .exact .inr h
section
variable {Z:DC} {H H' G G':Hp}
def Dv.ofInt(h:Dv Z H v^.int i):v= .int i:=by cases h;rfl
def Dv.vH(h:Dv Z H v^.bl b):v= .bl b:=by cases h;rfl
def Dv.j6(h:Dv Z H v^.lst b):∃a xs,v= .ref a/\H a\(.lst xs)/\DvAll Z H xs b:=by cases h with|lst h e=>exact#[_,_,rfl,h,e]
def Dv.xJ{v:V}{ds:List D}(h:Dv Z H v^.tup ds):∃a xs,v= .ref a/\H a\(.tup xs)/\DvAll Z H xs ds:=by cases h with|tup h e=>exact#[_,_,rfl,h,e]
def Dv.FH{v:V}{ns:List Int}(h:Dv Z H v^.qC ns):∃a,v= .ref a/\aK Z.K H a^ns.map V.int/\ns.length<=63:=by cases h with|qC h z=>exact#[_,rfl,h,z]
def DvAll.Z7(h:DvAll Z H a []):a= []:=by cases h;rfl
def DvAll.FG(h:DvAll Z H c (d::e)):∃v f,c=v::f/\Dv Z H v d/\DvAll Z H f e:=by cases h with|cons a b=>exact#[_,_,rfl,a,b]
def DvAll.ofOne(h:DvAll Z H c [d]):∃v,c= [v]/\Dv Z H v d:=by
 obtain⟨v,e,rfl,a,b⟩:=h.FG;rw[b.Z7];exact#[v,rfl,a]
def DvAll.xK(h:DvAll Z H f [d,e]):∃v u,f= [v,u]/\Dv Z H v d/\Dv Z H u e:=by
 obtain⟨v,g,rfl,a,b⟩:=h.FG;obtain⟨u,rfl,c⟩:=b.ofOne;exact#[v,u,rfl,a,c]
theorem Dv.mono(s:aC H H')(h:Dv Z H v d):Dv Z H' v d:=
 Dv.rec (motive_1:=λv d _=>Dv Z H' v d) (motive_2:=λc e _=>DvAll Z H' c e) .aS .bl .int .str (λh _ a=> .lst (s _ _ h) a) (λh _ a=> .tup (s _ _ h) a) .obj (λh=> .rng^s _ _ h) (λh z=> .qC (h.mono s) z) (λh _ g a b r=> .gw (s _ _ h) r g a b) (λh=> .set^s _ _ h) (λh k=> .x (s _ _ h)^k.mono s) (λh k _ a=> .err (s _ _ h) (k.mono s) a) .nil (λ_ _ a b=> .cons a b) h
def DvAll.ind{p:List V->List D->Prop}(n:p [] [])(c:∀{v:V}{e:List V}{d:D}{f:List D},Dv Z H v d->DvAll Z H e f->p e f->p (v::e) (d::f)){f:List D}(h:DvAll Z H e f):p e f:=
 DvAll.rec (motive_1:=λ_ _ _=>True) (motive_2:=λe f _=>p e f) trivial (λ_=>trivial) (λ_=>trivial) (λ_ _=>trivial) (λ_ _ _=>trivial) (λ_ _ _=>trivial) (λ_=>trivial) (λ_=>trivial) (λ_ _=>trivial) (λ_ _ _ _ _ _=>trivial) (λ_=>trivial) (λ_ _=>trivial) (λ_ _ _ _=>trivial) n (λa b _ q=>c a b q) h
theorem DvAll.mono(s:aC H H')(h:DvAll Z H c d):DvAll Z H' c d:=h.ind .nil λa _ b=> .cons (a.mono s) b
theorem DvAll.length{a:List V}(h:DvAll Z H a b):a.length=b.length:=h.ind (p:=λa b=>a.length=b.length) rfl λ_ _ e=>IR (·+1) e
def DvAll.get{i:Nat}{d:D}(h:DvAll Z H b c)(e:c[i]?\d):∃v,b[i]?\v/\Dv Z H v d:=by
 revert i
 refine h.ind (p:=λb c=>∀{i:Nat},c[i]?\d->∃v,b[i]?\v/\Dv Z H v d) (λe=>by cases e) λa _ f i e=>?_
 cases i with
 |zero=>cases e;exact#[_,rfl,a]
 |succ i=>exact f e
def DvAll.Qn{b:List V}{c:List D}{i:Nat}{v:V}(h:DvAll Z H b c)(e:b[i]?\v):∃d,c[i]?\d/\Dv Z H v d:=by
 revert i
 refine h.ind (p:=λb c=>∀{i:Nat},b[i]?\v->∃d,c[i]?\d/\Dv Z H v d) (λe=>by cases e) λa _ f i e=>?_
 cases i with
 |zero=>cases e;exact#[_,rfl,a]
 |succ i=>exact f e
def DvAll.append(h:DvAll Z H c d)(k:DvAll Z H e f):DvAll Z H (c++e) (d++f):=h.ind (p:=λc d=>DvAll Z H (c++e) (d++f)) k λa _ b=> .cons a b
theorem DvAll.take:∀{b:List V}{c:List D}(n:Nat),DvAll Z H b c->DvAll Z H (b.take n)^c.take n
 |_,_,0,_=>DvAll.nil
 |_,_,n+1, .nil=>DvAll.nil
 |_,_,n+1, .cons a d=>DvAll.cons a^d.take n
theorem DvAll.drop:∀{b:List V}{c:List D}(n:Nat),DvAll Z H b c->DvAll Z H (b.drop n)^c.drop n
 |_,_,0,h=>h
 |_,_,n+1, .nil=>by simpa using DvAll.nil
 |_,_,n+1, .cons a d=>by simpa using d.drop n
theorem DvAll.set{v:V}(h:Dv Z H v d):∀{c:List V}{e:List D}(n:Nat),DvAll Z H c e->DvAll Z H (c.set n v)^e.set n d
 |_,_,_, .nil=> .nil
 |_,_,0, .cons a b=> .cons h b
 |_,_,n+1, .cons a b=> .cons a^DvAll.set h n b
theorem DvAll.ints:∀(a:List Int),DvAll Z H (a.map V.int)^a.map D.int
 | []=> .nil
 |n::a=> .cons (.int n)^DvAll.ints a
def DvAll.snoc{e:List D}(a:DvAll Z H c e)(b:Dv Z H v d):DvAll Z H (c++ [v]) (e++ [d]):=a.append^.cons b .nil
structure Ext (G H G' H':Hp):Prop where
 gg:aC G G'
 sub:aC G' H'
 hh:aC H H'
 off:∀b,H b≠none->G b=none->G' b=none
theorem Ext.refl(s:aC G H):Ext G H G H:=#[.refl _,s, .refl _,λ_ _ h=>h]
theorem Ext.trans{c d f i:Hp}(a:Ext G H c d)(b:Ext c d f i):Ext G H f i:=
 #[a.gg.trans b.gg,b.sub,a.hh.trans b.hh,λx h g=>b.off x (λz=>by
  cases e:H x with
  |none=>exact h e
  |some o=>rw[a.hh x o e] at z;cases z)^a.off x h g]
def Ext.new{o:HO}(s:aC G H)(h:H p=none):Ext G H (upd G p o)^upd H p o:=by
 have a:G p=none:=s.free h;refine#[aA a o,λb u e=>?_,aA h o,λb c a=>?_]
 .by_cases z:b=p
  .subst z;rw[af] at e ⊢;exact e
  .rw[ag z] at e ⊢;exact s b u e
 .have:b≠p:=λz=>c^by rw[z];exact h
  rw[ag this];exact a
end
abbrev DN:=List^Option D
structure eJ (Z:DC) (G:Hp) (σ:St) (ρ:DN):Prop where
 len:ρ.length=σ.length
 at_:∀(i:Nat)(d:D),ρ[i]?\(some d)->∃v,σ[i]?\(some v)/\Dv Z G v d
section
variable {Z:DC} {G G' H H':Hp} {σ:St} {ρ:DN}
theorem eJ.mono(e:eJ Z G σ ρ)(s:aC G G'):eJ Z G' σ ρ:=#[e.len,λi d h=>let #[v,a,b]:=e.at_ i d h;#[v,a,b.mono s]]
theorem eJ.set{v:V}(e:eJ Z G σ ρ)(h:Dv Z G v d):eJ Z G (σ.set i^some v)^ρ.set i^some d:=by
 refine#[by rw[iU,iU];exact e.len,λj c a=>?_]
 by_cases z:i=j
 .subst z
  by_cases b:i<ρ.length
  .rw[oZ b] at a
   cases Fk a;exact#[v,by rw[oZ (e.len▸b)],h]
  .rw[EA^lQ b] at a
   rw[fJ^lQ b] at a;cases a
 .rw[qO z] at a ⊢
  exact e.at_ j c a
end
abbrev bb:=DN->(D->Prop)->Prop
abbrev dU:=DN->(Bool->Prop)->Prop
abbrev iE:=DN->(List D->Prop)->Prop
abbrev i3:=D->D->(D->Prop)->Prop
abbrev ft:=D->DN->(DN->Prop)->Prop
abbrev kY:=DN->(List D->Prop)->Prop
def dX(Z:DC)(t:bb):TE:=λe H Q=>∃(G:Hp)(a:DN)(P:D->Prop),aC G H/\eJ Z G e a/\t a P/\∀d,P d->∀v b c,Ext G H b c->Dv Z b v d->Q v c
def liftT(Z:DC)(t:dU):TT:=λd H Q=>∃(G:Hp)(a:DN)(P:Bool->Prop),aC G H/\eJ Z G d a/\t a P/\∀b,P b->∀e c,Ext G H e c->Q b c
def Fv(Z:DC)(t:iE):TA:=λf H Q=>∃(G:Hp)(a:DN)(P:List D->Prop),aC G H/\eJ Z G f a/\t a P/\∀b,P b->∀c d e,Ext G H d e->DvAll Z d c b->Q c e
def cc(Z:DC)(r:i3):R2:=λx y H Q=>∃(G:Hp)(a b:D)(P:D->Prop),aC G H/\Dv Z G x a/\Dv Z G y b/\r a b P/\∀d,P d->∀v c e,Ext G H c e->Dv Z c v d->Q v e
def j5(Z:DC)(r:List D->(D->Prop)->Prop):List V->Hp->VK->Prop:=λe H Q=>∃(G:Hp)(a:List D)(P:D->Prop),aC G H/\DvAll Z G e a/\r a P/\∀d,P d->∀v b c,Ext G H b c->Dv Z b v d->Q v c
abbrev fh:=List D->(D->Prop)->Prop
def aU(Z:DC)(a:fh):Sp:=λb H Q _=>j5 Z a b H Q
def DE(Z:DC)(X:Cx)(e:fz)(t:bb):Prop:=PE X e^dX Z t
def DT(Z:DC)(X:Cx)(e:fz)(t:dU):Prop:=PT X e^liftT Z t
def DA(Z:DC)(X:Cx)(a:List fz)(t:iE):Prop:=PA X a^Fv Z t
def PE.imp{X:Cx}{t t':TE}(h:PE X e t)(f:∀b H Q,t' b H Q->t b H Q):PE X e t':=λa s b H Q I q=>h a s b H Q I^f _ _ _ q
def PT.imp{X:Cx}{t t':TT}(h:PT X e t)(f:∀b H Q,t' b H Q->t b H Q):PT X e t':=λa s b H Q I q=>h a s b H Q I^f _ _ _ q
def PW.imp{X:Cx}{t t':TT}(h:PW X e t)(f:∀b H Q,t' b H Q->t b H Q):PW X e t':=λc a s b H Q I q=>h c a s b H Q I^f _ _ _ q
def PA.imp{X:Cx}{t t':TA}(h:PA X c t)(f:∀b H Q,t' b H Q->t b H Q):PA X c t':=λpos a s b H Q I q=>h pos a s b H Q I^f _ _ _ q
def OpR.imp{X:Cx}{f:b_->b_->j_ b_}{r d:R2}(h:OpR X f r)(g:∀x y H Q,d x y H Q->r x y H Q):OpR X f d:=λc s e H x y v u Q I a b q=>h c s e H x y v u Q I a b^g _ _ _ _ q
def cV.imp{X:Cx}{f:b_}{r d:List V->Hp->VK->Prop}(h:cV X f r)(g:∀c H Q,d c H Q->r c H Q):cV X f d:=λb s e H c i Q I a q=>h b s e H c i Q I a^g _ _ _ q
def sE(i:Nat):bb:=λa P=>∃d,a[i]?\(some d)/\P d
def dC(d:D):bb:=λ_ P=>P d
section
variable {Z:DC} {X:Cx}
def U(i:Nat)(c:X.N[i]?\x<|>zn)(a:Cc X.env.scope x<|>zb)(b:(x==("__debug__":eg))=false<|>zm)
  (f:(x==("__classdict__":eg))=false<|>zm):DE Z X (.Name x pos)^sE i:=by
 refine(Mo c a b f).imp λj H Q g=>?_;rfl';obtain⟨G,l,P,s,e,⟨d,b,p⟩,q⟩:=g;ac_rfl;exact let #[v,a,dv]:=e.at_ i d b;#[v,a,q d p v G H (.refl s) dv]
def bH{i j pos}:DE Z X (.Constant (.int i) j pos)^dC^.int i:=by
 refine aX.imp λc H Q a=>?_;rfl';let⟨G,f,P,s,e,p,q⟩:=a;ac_rfl;exact q _ p _ G H (.refl s)^.int i
def mE{b j pos}:DE Z X (.Constant (.bool b) j pos)^dC^.bl b:=by
 refine aae.imp λd H Q a=>?_;rfl';let⟨G,g,P,s,e,p,q⟩:=a;ac_rfl;exact q _ p _ G H (.refl s)^.bl b
def eX{j pos}:DE Z X (.Constant .none j pos)^dC .aS:=by
 refine VC.imp λc H Q a=>?_;rfl';let⟨G,f,P,s,e,p,q⟩:=a;ac_rfl;exact q _ p _ G H (.refl s) .aS
def uL{x j pos}(h:PyData.strOk x=true<|>xz):DE Z X (.Constant (.str x) j pos)^dC^.str x:=by
 refine rM.imp λc H Q a=>?_;rfl';let⟨G,f,P,s,e,p,q⟩:=a;ac_rfl;exact q _ p _ G H (.refl s)^.str x h
def wR(c:Gl X x)(a:∃b,X.mg x\(.int i b))(d:(x==("__debug__":eg))=false<|>zm):DE Z X (.Name x pos)^dC^.int i:=by
 let⟨b,a⟩:=a;exact(Sh c a (v:= .int i) #[b,rfl] d).imp λf H Q #[G,g,P,s,e,p,q]=>q _ p _ G H (.refl s)^.int i
def EU(r:i3)(d e:bb):bb:=λc P=>d c λa=>e c λb=>r a b P
variable {a b c:Expr} {ta tb tc:bb} {pos:Pos}
def AH:∀f H Q,dX Z (EU r ta tb) f H Q->Ga (cc Z r) (dX Z ta) (dX Z tb) f H Q:=by
 intro f H Q k;rfl';obtain⟨G,j,P,s,e,h,q⟩:=k;ac_rfl;refine#[G,j,_,s,e,h,λa m v n E g dv=>?_];refine#[n,j,_,g.sub,e.mono g.gg,m,λb o u p F i t=>?_];exact#[p,a,b,P,i.sub,dv.mono i.gg,t,o,λd w x y z A B=>q d w x y z ((g.trans i).trans A) B]
def jZ(e:OpR X (h_ d)^cc Z r)(f:DE Z X a ta)(g:DE Z X b tb):DE Z X (.BinOp a d b pos)^EU r ta tb:=(di e f g).imp AH
def zC(e:OpR X (ff d)^cc Z r)(f:DE Z X a ta)(g:DE Z X b tb)(h:il d b=false):DE Z X (.Compare a [d] [b] pos)^EU r ta tb:=(Ih e f g h).imp AH
def Jv(t:bb):dU:=λe P=>t e λd=>∃k,d= .bl k/\P k
def D4:∀d H Q,liftT Z (Jv t) d H Q->Lh (dX Z t) d H Q:=by
 intro d H Q f;rfl';obtain⟨G,i,P,s,e,h,q⟩:=f;ac_rfl;exists G,i,_,s,e,h;rintro _ ⟨k,rfl,p⟩ v j l m dv;cases dv.vH;exact#[k,rfl,q k p j l m]
def cf(f:OpR X (ff d)^cc Z r)(g:DE Z X a ta)(i:DE Z X b tb)(j:il d b=false):DT Z X (.Compare a [d] [b] pos)^Jv^EU r ta tb:=
 (jR f g i j).imp λe H Q h=>by
  obtain h:=D4 e H Q h;exact AH e H _ h
def ES(r e:i3)(f g tc:bb):bb:=λd P=>f d λx=>g d λy=>r x y λz=>∃k,z= .bl k/\(if k=true then tc d λh=>e y h P else P^.bl false)
def AI:∀f H Q,dX Z (ES r o ta tb tc) f H Q->F8 (cc Z r) (cc Z o) (dX Z ta) (dX Z tb) (dX Z tc) f H Q:=by
 intro f H Q y;rfl';let⟨G,g,P,s,e,h,q⟩:=y;ac_rfl;refine#[G,g,_,s,e,h,λa A v B X i dv=>?_];refine#[B,g,_,i.sub,e.mono i.gg,A,λb C u E H2 j p=>?_];exists E,a,b,_,j.sub,dv.mono j.gg,p,C;rintro _ ⟨k,rfl,t⟩ v' w F l I;cases I.vH;exists k,rfl;have x:=(i.trans j).trans l;cases k with
 |false=>exact cO^q _ t _ w F x^.bl false
 |true=>
  refine dD #[w,g,_,l.sub,e.mono x.gg,t,λc J w' L H4 m M=>?_];exact#[L,b,c,P,m.sub,(p.mono l.gg).mono m.gg,M,J,λd N n O R S T=>q d N n O R ((x.trans m).trans S) T]
def M7(g:OpR X (ff d)^cc Z r)(h:OpR X (ff e)^cc Z f)(i:DE Z X a ta)(j:DE Z X b tb)(k:DE Z X c tc)
  (l:lastMarks [d,e] [b,c]=false<|>xv):DE Z X (.Compare a [d,e] [b,c] pos)^ES r f ta tb tc:=(N6 g h i j k l).imp AI
def Dj(i:OpR X (ff d)^cc Z r)(j:OpR X (ff e)^cc Z f)(k:DE Z X a ta)(l:DE Z X b tb)(m:DE Z X c tc)
  (n:lastMarks [d,e] [b,c]=false<|>xv):DT Z X (.Compare a [d,e] [b,c] pos)^Jv^ES r f ta tb tc:=
 (Og i j k l m n).imp λg H Q h=>by
  obtain h:=D4 g H Q h;exact AI g H _ h
noncomputable def Ex:D->Bool
 | .aS=>false
 | .bl b=>b
 | .int i=>i !=0
 | .str x=>x.length !=0
 | .lst l=>!l.isEmpty
 | .tup l=>!l.isEmpty
 | .qC l=>!l.isEmpty
 | .rng lo d=>decide (lo<d)
 | .obj _=>true
 | .gw _=>true
 | .set _ l=>!l.isEmpty
 | .x _=>true
 | .err _ _ _=>true
noncomputable def abQ:D->Bool
 | .bl _=>true
 | .int _=>true
 | .lst _=>true
 | .tup _=>true
 | .aS=>true
 |_=>false
def abb(t:bb):dU:=λe P=>t e λd=>abQ d=true/\P^Ex d
def yx(h:DvAll Z G d e):d.isEmpty=e.isEmpty:=by cases h<;>rfl
def mh(ha:DE Z X a ta)(he:(∀whole,isTrue a X.env whole=(do let v <-whole;ie a.pos;gP [v]^truthy v))<|>za):DT Z X a^abb ta:=by
 refine(Oh ha he).imp ?_;intro σ H Q aP;rfl';obtain⟨G,ρ,P,s,e,h,q⟩:=aP;ac_rfl;exists G,ρ,_,s,e,h;rintro d ⟨hd,p⟩ v G1 H1 x1 dv;refine#[Ex d,?_,q _ p G1 H1 x1];cases dv with
 |aS=>rfl
 |bl b=>rfl
 |int i=>rfl
 |lst h a=>exact .inl #[_,aK.of^x1.sub _ _ h,by rw[yx a];rfl]
 |tup h a=>exact .inr^.inl #[_,fW.of^x1.sub _ _ h,by rw[yx a];rfl]
 |_=>cases hd
def aaV(t u:dU):dU:=λd P=>t d λc=>if c=true then u d P else P false
def dOr(t u:dU):dU:=λd P=>t d λc=>if c=true then P true else u d P
def aa5(t:dU):dU:=λd P=>t d λc=>P (!c)
variable {tA F7:dU} {rest:List Expr}
def DW(Z:DC)(X:Cx)(e:fz)(t:dU):Prop:=PW X e^liftT Z t
def DW.dt(h:DW Z X e t):DT Z X e t:=PW.pt h
def PU(d:DT Z X a tA):DW Z X (.BoolOp .And [a] pos) tA:=Ba d
def L0(d:DT Z X a tA):DW Z X (.BoolOp .Or [a] pos) tA:=VO d
def Uv(k:DT Z X a tA)(f:DW Z X (.BoolOp .And (b::rest) pos) F7):DW Z X (.BoolOp .And (a::b::rest) pos)^aaV tA F7:=by
 refine(FT k f).imp ?_;intro t H Q l;rfl';let⟨G,g,P,s,e,h,q⟩:=l;ac_rfl;refine#[G,g,_,s,e,h,λc i j n d=>?_];cases c with
 |true=>exact dD #[j,g,P,d.sub,e.mono d.gg,i,λb f o p r=>q b f o p^d.trans r]
 |false=>exact cO^q _ i j n d
def PV(k:DT Z X a tA)(f:DW Z X (.BoolOp .Or (b::rest) pos) F7):DW Z X (.BoolOp .Or (a::b::rest) pos)^dOr tA F7:=by
 refine(aak k f).imp ?_;intro t H Q l;rfl';let⟨G,g,P,s,e,h,q⟩:=l;ac_rfl;refine#[G,g,_,s,e,h,λc i j n d=>?_];cases c with
 |false=>exact cO #[j,g,P,d.sub,e.mono d.gg,i,λb f o p r=>q b f o p^d.trans r]
 |true=>exact dD^q _ i j n d
def nP(d:DT Z X a tA):DT Z X (.UnaryOp .Not a pos)^aa5 tA:=by
 refine(Mp d).imp ?_;rintro l H Q ⟨G,f,P,s,e,h,q⟩;exact#[G,f,_,s,e,h,λc g i j k=>q _ g i j k]
def Ya(e f:bb):bb:=λd P=>e d λx=>∃c,x= .bl c/\if c=true then f d P else P^.bl false
def aa6(e f:bb):bb:=λd P=>e d λx=>∃c,x= .bl c/\if c=true then P^.bl true else f d P
def Yj(d:bb):bb:=λe P=>d e λx=>∃c,x= .bl c/\P^.bl (!c)
def LW{op}(h:DE Z X a ta):DE Z X (.BoolOp op [a] pos) ta:=VE h
def LU(k:DE Z X a ta)(f:DE Z X (.BoolOp .And (b::rest) pos) tb):DE Z X (.BoolOp .And (a::b::rest) pos)^Ya ta tb:=by
 refine(Vw k f).imp ?_;intro u H Q l;rfl';let⟨G,g,P,s,e,h,q⟩:=l;ac_rfl;exists G,g,_,s,e,h;rintro _ ⟨c,rfl,i⟩ v j n d dv;cases dv.vH;exists c,rfl;cases c with
 |true=>exact dD #[j,g,P,d.sub,e.mono d.gg,i,λb f v o p r t=>q b f v o p (d.trans r) t]
 |false=>exact cO^q _ i _ j n d^.bl false
def Yp(k:DE Z X a ta)(f:DE Z X (.BoolOp .Or (b::rest) pos) tb):DE Z X (.BoolOp .Or (a::b::rest) pos)^aa6 ta tb:=by
 refine(aag k f).imp ?_;intro u H Q l;rfl';let⟨G,g,P,s,e,h,q⟩:=l;ac_rfl;exists G,g,_,s,e,h;rintro _ ⟨c,rfl,i⟩ v j n d dv;cases dv.vH;exists c,rfl;cases c with
 |false=>exact cO #[j,g,P,d.sub,e.mono d.gg,i,λb f v o p r t=>q b f v o p (d.trans r) t]
 |true=>exact dD^q _ i _ j n d^.bl true
def Uk(d:DE Z X a ta):DE Z X (.UnaryOp .Not a pos)^Yj ta:=by
 refine(VD d).imp ?_;intro n H Q f;rfl';let⟨G,i,P,s,e,h,q⟩:=f;ac_rfl;exists G,i,_,s,e,h;rintro _ ⟨c,rfl,j⟩ v k l m dv;cases dv.vH;exact#[c,rfl,q _ j _ k l m^.bl _]
def dIf(t:dU)(e f:bb):bb:=λd P=>t d λc=>if c=true then e d P else f d P
def Yo{c:fz}(g:DT Z X c tA)(o:DE Z X a ta)(f:DE Z X b tb):DE Z X (.IfExp c a b pos)^dIf tA ta tb:=by
 refine(N7 g o f).imp ?_;intro t H Q p;rfl';let⟨G,i,P,s,e,h,q⟩:=p;ac_rfl;refine#[G,i,_,s,e,h,λc g n w d=>?_];cases c with
 |true=>exact dD #[n,i,P,d.sub,e.mono d.gg,g,λb f v j k l m=>q b f v j k (d.trans l) m]
 |false=>exact cO #[n,i,P,d.sub,e.mono d.gg,g,λb f v j k l m=>q b f v j k (d.trans l) m]
def l8:iE:=λ_ P=>P []
def Af(e:bb)(t:iE):iE:=λd P=>e d λx=>t d λf=>P (x::f)
variable {es:List Expr} {t:iE} {e:Expr}
def ar:DA Z X [] l8:=by
 refine aB.imp λg H Q d=>?_;rfl';obtain⟨G,i,P,s,e,p,q⟩:=d;ac_rfl;exact q _ p _ G H (.refl s) .nil
def aa(d:DE Z X e ta)(j:DA Z X es t)(k:d4 (e::es) X.env=(false,f7 e X.env)::d4 es X.env<|>zn):DA Z X (e::es)^Af ta t:=by
 refine(ah d j k).imp ?_;intro w H Q l;rfl';let⟨G,g,P,s,e,h,q⟩:=l;ac_rfl;refine#[G,g,_,s,e,h,λa d v n y f dv=>?_];exact#[n,g,_,f.sub,e.mono f.gg,d,λz o A p r i u=>q _ o _ p r (f.trans i)^.cons (dv.mono i.gg) u]
def WS(t:iE):bb:=λf P=>t f λd=>d.length<=sizeLine/\P^.tup d
def WO(t:iE):bb:=λf P=>t f λd=>d.length<=sizeLine/\P^.lst d
def dN{d}(h:DA Z X es t):DE Z X (.Tuple es d pos)^WS t:=by
 refine(zM h).imp ?_;intro n H Q i;rfl';let⟨G,k,P,s,e,h,q⟩:=i;ac_rfl;exists G,k,_,s,e,h;rintro r ⟨l,m⟩ u v w d f;exact#[by rw[f.length];exact l,λp g=>q _ m _ _ _ (d.trans^.new d.sub g)^.tup af^f.mono^aA (d.sub.free g) _]
def l9(h:DA Z X es t):DE Z X (.List es pos)^WO t:=by
 refine(gn h).imp ?_;intro n H Q i;rfl';let⟨G,k,P,s,e,h,q⟩:=i;ac_rfl;exists G,k,_,s,e,h;rintro r ⟨l,m⟩ u v w d f;exact#[by rw[f.length];exact l,λp g=>q _ m _ _ _ (d.trans^.new d.sub g)^.lst af^f.mono^aA (d.sub.free g) _]
def wQ(r:List D->(D->Prop)->Prop)(t:iE):bb:=λd P=>t d λf=>r f P
def xE:∀f H Q,dX Z (wQ r t) f H Q->Fv Z t f H λg i=>j5 Z r g i Q:=by
 intro f H Q k;rfl';obtain⟨G,m,P,s,e,h,q⟩:=k;ac_rfl;exact#[G,m,_,s,e,h,λn o g p i j u=>#[p,n,P,j.sub,u,o,λd w v x y z dv=>q d w v x y (j.trans z) dv]]
def Pz(F:FnOk X.prog X.w X.K X.mg X.base fM k f g i^aU Z d)(m:b8 k X.A)(n:Gl X x)(o:X.mg x\(.ref f))(r:am X.K^.ref f=true)(u:Binds X.K g i [])
  (v:DA Z X (e::es) t) (y:(x==("__debug__":eg))=false<|>zm) (z:d4 (e::es) X.env=(false,f7 e X.env)::d4 es X.env<|>zn) (B:(gd pos^d4 es X.env).any (·.1)=false<|>zn):
  DE Z X (.Call (.Name x p) (e::es) [] pos)^wQ d t:=
 (bM F m n o r u .nil cT v y z B).imp λC H Q h=>by
  rfl';have h:=xE C H Q h;let⟨G,I,P,s,e,h,q⟩:=h;ac_rfl;exact#[G,I,P,s,e,h,λJ L j M l N O=>by show aU Z d (j++ []) l Q E0;rw[fe];exact q J L j M l N O]
theorem bC{id:String}{x:eg}{p:jp}{r:List D->(D->Prop)->Prop}(d:cV X (.builtin id)^j5 Z r)(f:Gl X x)(g:X.mg x=none)(h:f8 x\(.builtin id))(i:DA Z X (e::es) t)(j:x≠"__name__"<|>zm)(k:(x==("__debug__":eg))=false<|>zm)
  (l:d4 (e::es) X.env=(false,f7 e X.env)::d4 es X.env<|>zn) (m:(gd pos^d4 es X.env).any (·.1)=false<|>zn):
  DE Z X (.Call (.Name x p) (e::es) [] pos)^wQ r t:=(eS d f g h i j k l m).imp xE
def lj(d:cV X (.type T)^j5 Z r)(f:Gl X x)(g:X.mg x=none)(h:f8 x\(.type T))(i:DA Z X (e::es) t)(j:x≠"__name__"<|>zm)(k:(x==("__debug__":eg))=false<|>zm)
  (l:d4 (e::es) X.env=(false,f7 e X.env)::d4 es X.env<|>zn) (m:(gd pos^d4 es X.env).any (·.1)=false<|>zn):
  DE Z X (.Call (.Name x p) (e::es) [] pos)^wQ r t:=(A2 d f g h i j k l m).imp xE
end
end L2
namespace L2
open PySem PySem.Spec PyProof.Rows
section
variable {Z:DC} {X:Cx}
def Pn:i3:=λx y P=>match x,y with
 | .int i, .int j=>P^.int (i+j)
 | .lst a, .lst b=>a.length+b.length<=sizeLine/\P^.lst (a++b)
 | .tup a, .tup b=>a≠ []/\a.length+b.length<=sizeLine/\b≠ []/\P^.tup (a++b)
 |_,_=>False
def dI(c:Int->Int->Prop)(g:Int->Int->Int):i3:=λx y P=>match x,y with
 | .int i, .int j=>c i j/\P^.int^g i j
 |_,_=>False
def aaX:i3:=dI OM λi j=>i / j
def aa3:i3:=dI (λ_ j=>0<j) λi j=>i%j
def Me(h:OpR X f (rI c λi j=> .int^g i j)):OpR X f^cc Z^dI c g:=by
 refine h.imp ?_;intro x y H Q e;rfl';let⟨G,a,b,P,s,l,m,d,q⟩:=e;ac_rfl;unfold dI at d
 split at d
 .exact#[_,_,l.ofInt,m.ofInt,d.1,q _ d.2 _ G H (.refl s)^.int _]
 .exact d.elim
def Vm:OpR X (h_ .FloorDiv)^cc Z aaX:=Me Ic
def FF:OpR X (h_ .Mod)^cc Z aa3:=Me rG
def mq(e:X.K=Z.K<|>zn):OpR X (h_ .Add)^cc Z Pn:=by
 refine(i7.or^FK.or^RY).imp ?_;rintro x y H Q ⟨G,a,b,P,s,h,i,c,q⟩;unfold Pn at c
 split at c
 .exact .inl #[_,_,h.ofInt,i.ofInt,q _ c _ G H (.refl s)^.int _]
 .obtain⟨t,j,rfl,k,d⟩:=h.j6
  let⟨u,l,rfl,m,f⟩:=i.j6;let⟨n,o⟩:=c;refine .inr^.inl #[_,_,_,_,rfl,rfl,s _ _ k,s _ _ m,by rw[d.length,f.length];exact n,λp g=>?_]
  exact q _ o _ _ _ (.new s g)^.lst af^(d.append f).mono^aA (s.free g) _
 .obtain⟨t,j,rfl,k,d⟩:=h.xJ
  let⟨u,l,rfl,m,f⟩:=i.xJ;let⟨v,n,r,o⟩:=c;refine .inr^.inr #[_,_,_,_,rfl,rfl,fW.of^s _ _ k,fW.of^s _ _ m,?_,by rw[d.length,f.length];exact n,?_]
  .rintro rfl;cases d;exact v rfl
  .refine#[?_,λ_ p g=>q _ o _ _ _ (.new s g)^.tup af^(d.append f).mono^aA (s.free g) _]
   rintro rfl;cases f;exact(r rfl).elim
 .exact c.elim
mutual
noncomputable def D.py:D->Option PyData
 | .aS=>some .none
 | .bl b=>some^.bool b
 | .int i=>some^.int i
 | .str x=>some^.str x
 | .lst l=>(fG l).map PyData.list
 | .tup l=>(fG l).map PyData.tuple
 | .qC _=>none
 | .rng _ _=>none
 | .obj _=>none
 | .gw _=>none
 | .set _ _=>none
 | .x _=>none
 | .err _ _ _=>none
noncomputable def fG:List D->Option^List PyData
 | []=>some []
 |d::ds=>(D.py d).bind λa=>(fG ds).map λas=>a::as
end
def Dv.dp{K:ad}{G:Hp}{v:V}{d:D}(h:Dv Z G v d):∀{e:PyData},d.py\e->Dp K G v e:=by
 refine Dv.rec (motive_1:=λv d _=>∀{e:PyData},d.py\e->Dp K G v e) (motive_2:=λn f _=>∀{g:List PyData},fG f\g->DpAll K G n g) ?_ ?_ ?_ ?_ ?_ ?_ ?_ ?_ ?_ ?_ ?_ ?_ ?_ ?_ ?_ h
 .intro e h;rw[D.py] at h;cases h;exact .aS
 .intro b e h;rw[D.py] at h;cases h;exact .bl b
 .intro i e h;rw[D.py] at h;cases h;exact .int i
 .intro x k e h;rw[D.py] at h;cases h;exact .str x k
 .intro a o f q _ j e h
  rw[D.py] at h;cases c:fG f with
  |none=>rw[c] at h;cases h
  |some l=>rw[c] at h;cases h;exact .lst (aK.of q)^j c
 .intro a o f q _ j e h
  rw[D.py] at h;cases c:fG f with
  |none=>rw[c] at h;cases h
  |some l=>rw[c] at h;cases h;exact .tup (fW.of q)^j c
 .intro a e h;simp[D.py] at h
 .intro a lo u _ e h;simp[D.py] at h
 .intro a r _ _ e h;simp[D.py] at h
 .intro p z R w _ _ _ _ _ _ e h;simp[D.py] at h
 .intro a b r _ e h;simp[D.py] at h
 .intro a A k _ _ e h;simp[D.py] at h
 .intro a C B E o f _ _ _ _ e h;simp[D.py] at h
 .intro g h;rw[fG] at h;cases h;exact .nil
 .intro v n d f _ _ s t g h
  rw[fG] at h;cases c:d.py with
  |none=>rw[c] at h;cases h
  |some x=>
   rw[c] at h;cases m:fG f with
   |none=>rw[m] at h;cases h
   |some y=>rw[m] at h;cases h;exact .cons (s c)^t m
theorem DvAll.dp{K:ad}{G:Hp}{e:List V}{c:List D}(h:DvAll Z G e c):∀{b:List PyData},fG c\b->DpAll K G e b:=by
 refine h.ind (p:=λe c=>∀{b:List PyData},fG c\b->DpAll K G e b) ?_ ?_
 .intro b h;rw[fG] at h;cases h;exact .nil
 .intro v e d c a _ i b h
  rw[fG] at h;cases f:d.py with
  |none=>rw[f] at h;cases h
  |some x=>
   rw[f] at h;cases g:fG c with
   |none=>rw[g] at h;cases h
   |some y=>rw[g] at h;cases h;exact .cons (a.dp f)^i g
def fW.mono{K:ad}{H b:Hp}(s:aC H b)(h:fW K H a c):fW K b a c:=by
 rcases h with (h| ⟨o,h⟩) |h
 .exact .inl^.inl^s _ _ h
 .exact .inl^.inr #[o,s _ _ h]
 .exact .inr h
theorem Dp.mono{K:ad}{G H:Hp}(s:aC G H)(h:Dp K G v d):Dp K H v d:=
 Dp.rec (motive_1:=λv d _=>Dp K H v d) (motive_2:=λc e _=>DpAll K H c e) .aS .bl .int .str (λh _ a=> .lst (h.mono s) a) (λh _ a=> .tup (h.mono s) a) .nil (λ_ _ a b=> .cons a b) h
theorem DpAll.mono{K:ad}{G H:Hp}(s:aC G H)(h:DpAll K G c e):DpAll K H c e:=
 DpAll.rec (motive_1:=λv d _=>Dp K H v d) (motive_2:=λc e _=>DpAll K H c e) .aS .bl .int .str (λh _ a=> .lst (h.mono s) a) (λh _ a=> .tup (h.mono s) a) .nil (λ_ _ a b=> .cons a b) h
def WL(c:Bool):i3:=λx y P=>∃a b,x.py\a/\y.py\b/\a.depth<=64/\P^.bl^if c then !PyData.eqv a b else PyData.eqv a b
abbrev Po:i3:=WL false
abbrev ET:i3:=WL true
def xG(e:X.A.units+64<cLine):OpR X (ff .Eq)^cc Z Po:=by
 refine(Vs e).imp ?_;intro x y H Q f;rfl';obtain⟨G,a,b,P,s,h,i,⟨c,d,j,k,l,m⟩,q⟩:=f;ac_rfl;exact#[c,d,(h.dp j).mono s,(i.dp k).mono s,l,q _ m _ G H (.refl s)^.bl _]
def xI(e:X.A.units+64<cLine):OpR X (ff .NotEq)^cc Z ET:=by
 refine(FL e).imp ?_;intro x y H Q f;rfl';obtain⟨G,a,b,P,s,h,i,⟨c,d,j,k,l,m⟩,q⟩:=f;ac_rfl;exact#[c,d,(h.dp j).mono s,(i.dp k).mono s,l,q _ m _ G H (.refl s)^.bl _]
def uJ(h:P^.bl (decide (i=j))):Po (.int i) (.int j) P:=#[.int i, .int j,rfl,rfl,by simp[PyData.depth],by
 have:PyData.eqv (.int i)^.int j=decide (i=j):=by
  rw[PyData.eqv]
  by_cases z:i=j<;>simp[z]
 simpa [this] using h]
def Pt(h:P^.bl (!decide (i=j))):ET (.int i) (.int j) P:=#[.int i, .int j,rfl,rfl,by simp[PyData.depth],by
 have:PyData.eqv (.int i)^.int j=decide (i=j):=by
  rw[PyData.eqv]
  by_cases z:i=j<;>simp[z]
 simpa [this] using h]
def Ha(p:Int->Int->Bool):i3:=λx y P=>match x,y with
 | .int i, .int j=>P^.bl^p i j
 |_,_=>False
def AJ(h:OpR X f (KY λi j=> .bl^p i j)):OpR X f^cc Z^Ha p:=by
 refine h.imp ?_;intro x y H Q d;rfl';let⟨G,a,b,P,s,g,k,c,q⟩:=d;ac_rfl;unfold Ha at c
 split at c
 .exact#[_,_,g.ofInt,k.ofInt,q _ c _ G H (.refl s)^.bl _]
 .exact c.elim
end
end L2
namespace L2
open PySem PySem.Spec PyProof.Rows
section
variable {Z:DC} {X:Cx}
abbrev dLt:i3:=Ha λi j=>decide (i<j)
abbrev dLe:i3:=Ha λi j=>decide (i<=j)
abbrev dGt:i3:=Ha λi j=>decide (j<i)
def RK:OpR X (ff .Lt)^cc Z dLt:=AJ Kz
def AU:OpR X (ff .LtE)^cc Z dLe:=AJ aab
def RG:OpR X (ff .Gt)^cc Z dGt:=AJ Kx
noncomputable def Kd:D->Bool
 | .aS=>true
 |_=>false
def WM(a:Bool):i3:=λx y P=>match y with
 | .aS=>P^.bl^if a then !Kd x else Kd x
 |_=>False
def DQ(h:Dv Z G v d):decide (v= .aS)=Kd d:=by cases h<;>rfl
def xH:OpR X (ff .Is)^cc Z^WM false:=by
 refine Vu.imp ?_;rintro x y H Q ⟨G,a,b,P,s,d,e,c,q⟩;cases e<;>first|exact c.elim|skip
 exact#[rfl,by rw[DQ d];exact q _ c _ G H (.refl s)^.bl _]
def NX:OpR X (ff .IsNot)^cc Z^WM true:=by
 refine Sa.imp ?_;rintro x y H Q ⟨G,a,b,P,s,d,e,c,q⟩;cases e<;>first|exact c.elim|skip
 exact#[rfl,by rw[DQ d];exact q _ c _ G H (.refl s)^.bl _]
noncomputable def jD:D->Bool
 | .aS=>true
 | .bl _=>true
 | .int _=>true
 | .str _=>true
 |_=>false
noncomputable def mj:D->D->Bool
 | .aS, .aS=>true
 | .bl a, .bl b=>a==b
 | .bl a, .int b=>(if a then 1 else 0)==b
 | .int a, .bl b=>a==(if b then 1 else 0)
 | .int a, .int b=>a==b
 | .str a, .str b=>a==b
 |_,_=>false
noncomputable def inD(x:D)(l:List D):Bool:=l.any λy=>mj y x
def uP(h:Dv Z G v d):iG v=jD d:=by cases h<;>rfl
def pW(h:DvAll Z G b c):b.all iG=c.all jD:=h.ind (p:=λb c=>b.all iG=c.all jD) rfl λa _ e=>by rw[ae3,ae3,uP a,e]
def E1(h:Dv Z G v d)(k:Dv Z G u e):tD v u=mj d e:=by cases h<;>first|rfl| (cases k<;>rfl)
theorem Ka(h:Dv Z G v d):∀{b:List V}{c:List D},DvAll Z G b c->J9 v b=inD d c
 |_,_, .nil=>rfl
 |_,_, .cons a e=>by
  unfold J9 inD;rw[yf,yf,E1 a h];exact IR _^Ka h e
def Uc(a:Bool):i3:=λx y P=>match y with
 | .lst l=>jD x=true/\l.all jD=true/\P^.bl^if a then !inD x l else inD x l
 | .tup l=>jD x=true/\l.all jD=true/\P^.bl^if a then !inD x l else inD x l
 |_=>False
def SH:∀x y H Q,cc Z (Uc c) x y H Q->VP X.K c x y H Q:=by
 rintro x y H Q ⟨G,a,b,P,s,d,l,f,q⟩;cases l<;>first|exact f.elim|skip
 .rename_i p g m h e
  let⟨i,j,k⟩:=f;refine#[p,g,rfl, .inl^aK.of^s _ _ h,by rw[uP d];exact i,by rw[pW e];exact j,?_]
  rw[Ka d e];exact q _ k _ G H (.refl s)^.bl _
 .rename_i p g m h e
  let⟨i,j,k⟩:=f;refine#[p,g,rfl, .inr^fW.of^s _ _ h,by rw[uP d];exact i,by rw[pW e];exact j,?_]
  rw[Ka d e];exact q _ k _ G H (.refl s)^.bl _
def RH:OpR X (ff .In)^cc Z^Uc false:=Ky.imp SH
def NY:OpR X (ff .NotIn)^cc Z^Uc true:=sN.imp SH
def Yf:i3:=λx y P=>match x,y with
 | .lst l, .int i=>∃d,h8 l i\d/\P d
 | .tup l, .int i=>∃d,h8 l i\d/\P d
 | .qC l, .int i=>∃n,h8 l i\n/\P^.int n
 |_,_=>False
def EK(h:DvAll Z G b a)(e:h8 a i\d):∃v,h8 b i\v/\Dv Z G v d:=by
 unfold h8 at e ⊢;rw[h.length];cases z:pB a.length i with
 |none=>rw[z] at e;cases e
 |some j=>rw[z] at e;exact h.get e
def O6(f:a->b)(l:List a)(i:Int):h8 (l.map f) i=(h8 l i).map f:=by
 unfold h8;rw[aI];cases pB l.length i with
 |none=>rfl
 |some j=>show(l.map f)[j]? =_;rw[cL];rfl
variable {a b c e:Expr} {ta tb tc te:bb} {pos:Pos}
def gE(p:DE Z X a ta)(r:DE Z X b tb)(t:X.K=Z.K<|>zn)(u:uH b<|>xr):DE Z X (.Subscript a b pos)^EU Yf ta tb:=by
 refine(dh (bU.or Mc) p r u).imp λw H Q h=>?_;rfl';let⟨G,x,P,s,e,h,q⟩:=AH w H Q h;ac_rfl;refine#[G,x,P,s,e,h,λd y v z A B dv=>?_];rfl';let⟨C,E,F,I,J,L,M⟩:=q d y v z A B dv;ac_rfl;refine#[C,E,F,I,J,L,λN k O R S T Y=>?_];let⟨G,a,b,P,s,l,m,f,q⟩:=M N k O R S T Y;unfold Yf at f
 split at f
 .obtain⟨d,i,j⟩:=f
  let⟨c,g,rfl,h,e⟩:=l.j6;let⟨v,n,dv⟩:=EK e i;exact .inl #[_,_,_,v,rfl,m.ofInt,aK.of^s _ _ h,n,q _ j _ G _ (.refl s) dv]
 .obtain⟨d,i,j⟩:=f
  let⟨c,g,rfl,h,e⟩:=l.xJ;let⟨v,n,dv⟩:=EK e i;exact .inr #[_,_,_,v,rfl,m.ofInt,fW.of^s _ _ h,n,q _ j _ G _ (.refl s) dv]
 rotate_left
 .exact f.elim
 .obtain⟨d,i,j⟩:=f
  rfl';let⟨c,rfl,h,g⟩:=l.FH;ac_rfl;refine .inl #[_,_,_, .int d,rfl,m.ofInt,by rw[t];exact h.mono s,by rw[O6,i];rfl,q _ j _ G _ (.refl s)^.int d]
noncomputable def cutD{f:Type}(d:List f)(lo g:Option Int):List f:=(d.drop^HT.cn d.length 0 lo).take (HT.cn d.length d.length g-HT.cn d.length 0 lo)
def LO(h:DvAll Z G d f)(lo g:Option Int):DvAll Z G (ju d lo g)^cutD f lo g:=by
 unfold ju cutD;rw[h.length];exact(h.drop _).take _
def M5(f:d->h)(l:List d)(lo g:Option Int):cutD (l.map f) lo g=(cutD l lo g).map f:=by
 unfold cutD;rw[aI,yg,ael]
abbrev MP:=DN->(Option Int->Prop)->Prop
def Pu:MP:=λ_ P=>P none
def Yk(t:bb):MP:=λf P=>t f λd=>match d with
 | .int i=>P^some i
 |_=>False
def ZP(Z:DC)(t:MP):TO:=λg H Q=>∃(G:Hp)(d:DN)(P:Option Int->Prop),aC G H/\eJ Z G g d/\t d P/\∀o,P o->∀h f,Ext G H h f->Q o f
def DO(Z:DC)(X:Cx)(e:Option fz)(t:MP):Prop:=PO X e^ZP Z t
def PO.imp{e:Option fz}{t t':TO}(h:PO X e t)(f:∀g H Q,t' g H Q->t g H Q):PO X e t':=λd s g H Q I q=>h d s g H Q I^f _ _ _ q
def pO:DO Z X none Pu:=by
 refine A6.imp λg H Q d=>?_;rfl';let⟨G,i,P,s,e,p,q⟩:=d;ac_rfl;exact q _ p G H^.refl s
def pP(h:DE Z X e te):DO Z X (some e)^Yk te:=by
 refine(qi h).imp ?_;intro n H Q g;rfl';let⟨G,j,P,s,e,h,q⟩:=g;ac_rfl;refine#[G,j,_,s,e,h,λd f v k l m dv=>?_];cases dv<;>first|exact f.elim|skip
 exact#[_,rfl,q _ f k l m]
def dSl(g:bb)(h i:MP):bb:=λf P=>g f λx=>h f λlo=>i f λd=>match x with
 | .lst l=>P^.lst^cutD l lo d
 | .tup l=>¬(HT.cn l.length 0 lo=0/\HT.cn l.length l.length d=l.length)/\P^.tup^cutD l lo d
 | .qC l=>P^.lst^(cutD l lo d).map D.int
 |_=>False
variable {lo hi:Option Expr} {tl th:MP} {p2:Pos}
def mY(r:DE Z X e te)(m:DO Z X lo tl)(g:DO Z X hi th)(t:X.K=Z.K<|>zn):DE Z X (.Subscript e (.Slice lo hi none p2) pos)^dSl te tl th:=by
 refine(rL (wg.or V1) r m g).imp ?_;intro C H Q w;rfl';let⟨G,n,P,s,o,h,q⟩:=w;ac_rfl;refine#[G,n,_,s,o,h,λd z v A F j dv=>?_];refine#[A,n,_,j.sub,o.mono j.gg,z,λl m B I k=>?_];refine#[B,n,_,k.sub,(o.mono j.gg).mono k.gg,m,λu g J L f=>?_];have x:=(j.trans k).trans f;have dv:=(dv.mono k.gg).mono f.gg;cases dv<;>first|exact g.elim|skip
 .rename_i h e
  exact .inl #[_,_,rfl,aK.of^f.sub _ _ h,λp i=>q _ g _ _ _ (x.trans^.new f.sub i)^.lst af^(LO e l u).mono^aA (f.sub.free i) _]
 .rename_i h e
  refine .inr #[_,_,rfl,fW.of^f.sub _ _ h,by rw[e.length];exact g.1,λp i=>q _ g.2 _ _ _ (x.trans^.new f.sub i)^.tup af^(LO e l u).mono^aA (f.sub.free i) _]
 .rename_i h _
  refine .inl #[_,_,rfl,by rw[t];exact h.mono f.sub,λp i=>q _ g _ _ _ (x.trans^.new f.sub i)^.lst af ?_]
  show DvAll Z _ (cutD _ l u) _;rw[M5];exact .ints _
def GR:fh:=λd P=>match d with
 | [.lst l]=>P^.int l.length
 | [.tup l]=>P^.int l.length
 | [.qC l]=>P^.int l.length
 |_=>False
def fw(f:X.K=Z.K<|>zn):cV X (.builtin "len")^j5 Z GR:=by
 refine c5.imp ?_;rintro g H Q ⟨G,i,P,s,dv,d,q⟩;unfold GR at d
 split at d
 .obtain⟨_,rfl,a⟩:=dv.ofOne
  let⟨b,c,rfl,h,e⟩:=a.j6;exact#[_,_,rfl, .inl^aK.of^s _ _ h,by rw[e.length];exact q _ d _ G H (.refl s)^.int _]
 .obtain⟨_,rfl,a⟩:=dv.ofOne
  let⟨b,c,rfl,h,e⟩:=a.xJ;exact#[_,_,rfl, .inr^fW.of^s _ _ h,by rw[e.length];exact q _ d _ G H (.refl s)^.int _]
 .obtain⟨_,rfl,a⟩:=dv.ofOne
  let⟨b,rfl,h,c⟩:=a.FH;exact#[_,_,rfl, .inl^by rw[f];exact h.mono s,by rw[aI];exact q _ d _ G H (.refl s)^.int _]
 .exact d.elim
def O8:fh:=λd P=>match d with
 | [.lst l]=>P^.lst l
 | [.tup l]=>P^.lst l
 |_=>False
def Ab:cV X (.type "list")^j5 Z O8:=by
 refine Cd.imp ?_;rintro g H Q ⟨G,i,P,s,dv,d,q⟩;unfold O8 at d
 split at d
 .obtain⟨_,rfl,a⟩:=dv.ofOne
  let⟨b,c,rfl,h,e⟩:=a.j6;exact#[_,_,rfl, .inl^aK.of^s _ _ h,λp f=>q _ d _ _ _ (.new s f)^.lst af^e.mono^aA (s.free f) _]
 .obtain⟨_,rfl,a⟩:=dv.ofOne
  let⟨b,c,rfl,h,e⟩:=a.xJ;exact#[_,_,rfl, .inr^fW.of^s _ _ h,λp f=>q _ d _ _ _ (.new s f)^.lst af^e.mono^aA (s.free f) _]
 .exact d.elim
noncomputable def isI:String->D->Bool
 |"int", .int _=>true
 |"int", .bl _=>true
 |"bool", .bl _=>true
 |"list", .lst _=>true
 |"tuple", .tup _=>true
 |_,_=>false
noncomputable def Z8(n:String):Bool:=n=="int"||n=="bool"||n=="list"||n=="tuple"
noncomputable def Xv:D->Bool
 | .aS=>true
 | .bl _=>true
 | .int _=>true
 | .str _=>true
 | .lst _=>true
 | .tup _=>true
 |_=>false
def aa2(n:String)(t:bb):bb:=λf P=>t f λd=>Xv d=true/\P^.bl^isI n d
def U5{K:ad}{H:Hp}{v:V}{d:D}{n:String}(hn:Z8 n=true)(hd:Xv d=true)(h:Dv Z H v d):∃t,lZ K H v t/\cy K t^.type n\(isI n d):=by
 unfold Z8 at hn;rw[BW,BW,BW,beq_iff_eq,beq_iff_eq,beq_iff_eq,beq_iff_eq] at hn;cases h with
 |aS=>exists _, .aS;rcases hn with ((rfl|rfl) |rfl) |rfl<;>kernel_rfl
 |bl b=>exists _, .bl b;rcases hn with ((rfl|rfl) |rfl) |rfl<;>kernel_rfl
 |int b=>exists _, .int b;rcases hn with ((rfl|rfl) |rfl) |rfl<;>kernel_rfl
 |str b=>exists _, .str b;rcases hn with ((rfl|rfl) |rfl) |rfl<;>kernel_rfl
 |lst h a=>exists _, .lst h;rcases hn with ((rfl|rfl) |rfl) |rfl<;>kernel_rfl
 |tup h a=>exists _, .tup h;rcases hn with ((rfl|rfl) |rfl) |rfl<;>kernel_rfl
 |_=>cases hd
end
section
variable {Z:DC} {X:Cx} {a b c e:Expr} {ta tb tc te:bb} {pos:Pos}
def LV(n:String)(l:DE Z X a ta)(m:Gl X "isinstance")(o:X.mg "isinstance"=none)(g:Gl X x)(r:X.mg x=none)(u:f8 x\(.type n))(ok:Z8 n=true<|>zm)
  (w:x≠"__name__"<|>zm) (y:(x==("__debug__":eg))=false<|>zm) (i:d4 [a, .Name x f] X.env=(false,f7 a X.env)::d4 [.Name x f] X.env<|>zn)
  (z:(gd pos^d4 [.Name x f] X.env).any (·.1)=false<|>zn) (A:d4 [.Name x f] X.env=(false,f7 (.Name x f) X.env)::d4 [] X.env<|>zn):
  DE Z X (.Call (.Name "isinstance" p) [a, .Name x f] [] pos)^aa2 n ta:=by
 have B:PE X (.Name x f)^tC^.ty n:=Sf g r u rfl w y;refine(eS EM m o (by decide+kernel) (ah l (ah B aB A) i) ∅ ∅ i z).imp ?_
 intro O H Q C;rfl';let⟨G,F,P,s,e,h,q⟩:=C;ac_rfl;exists G,F,_,s,e,h;rintro d ⟨I,J⟩ v L j k dv;let⟨t,M,N⟩:=U5 (K:=X.K) (H:=j) ok I^dv.mono k.sub;exact#[v,n,t,_,rfl,M,N,q _ J _ L j k^.bl _]
def qc(Z:DC)(g:ft):TG:=λv j H Q=>∃(G:Hp)(f:DN)(d:D)(P:DN->Prop),aC G H/\eJ Z G j f/\Dv Z G v d/\g d f P/\∀h,P h->∀i,eJ Z G i h->Q i H
def DG(Z:DC)(X:Cx)(e:fz)(g:ft):Prop:=PG X e^qc Z g
def PG.imp{e:fz}{t t':TG}(h:PG X e t)(f:∀v g H Q,t' v g H Q->t v g H Q):PG X e t':=λd s g H v u Q I r q=>h d s g H v u Q I r^f _ _ _ _ q
def kH(i:Nat):ft:=λd f P=>P^f.set i^some d
def bQ(i:Nat)(f:X.N.Nodup)(g:X.N[i]?\x<|>zn)(j:Loc X.env.scope x:=by exact Or.inl rfl)(k:X.fn x=true\/X.env.scope.names.lookup x\.local<|>zb):DG Z X (.Name x pos)^kH i:=by
 refine(cH f g j k).imp λv n H Q l=>?_;rfl';let⟨G,p,d,P,s,e,dv,h,q⟩:=l;ac_rfl;exact q _ h _^e.set dv
abbrev oK:=List D->DN->(DN->Prop)->Prop
def U9(Z:DC)(g:oK):Cb:=λj k H Q=>∃(G:Hp)(d:DN)(f:List D)(P:DN->Prop),aC G H/\eJ Z G k d/\DvAll Z G j f/\g f d P/\∀h,P h->∀i,eJ Z G i h->Q i H
def TX(Z:DC)(X:Cx)(d:List fz)(g:oK):Prop:=EH X d^U9 Z g
def EH.imp{i:List fz}{t t':Cb}(h:EH X i t)(f:∀v g H Q,t' v g H Q->t v g H Q):EH X i t':=λd s g H v u Q I r q=>h d s g H v u Q I r^f _ _ _ _ q
def Jw:oK:=λd f P=>d= []/\P f
def zE(g:ft)(f:oK):oK:=λh i P=>match h with
 |d::r=>g d i λj=>f r j P
 | []=>False
def mZ:TX Z X [] Jw:=by
 refine nv.imp λv g H Q d=>?_;rfl';obtain⟨G,j,k,P,s,e,dv,⟨h,p⟩,q⟩:=d;subst h;cases dv;ac_rfl;exact#[rfl,q _ p _ e]
def eQ(i:DG Z X e g)(j:TX Z X d f)(k:(gl (e::d) X.env).map (·.2)=jq e X.env::(gl d X.env).map (·.2)<|>zn):TX Z X (e::d)^zE g f:=by
 refine(f9 i j k).imp ?_;intro v u H Q l;rfl';let⟨G,n,x,P,s,e,dv,h,q⟩:=l;ac_rfl;cases dv with
 |nil=>exact h.elim
 |cons a o=>
  refine#[_,_,rfl,G,n,_,_,s,e,a,h,λp r y t=>?_];exact#[G,p,_,P,s,t,o,r,q]
def Jx(n:Nat)(f:oK):ft:=λd g P=>match d with
 | .tup l=>l.length=n/\f l g P
 |_=>False
def qV(n:Nat)(i:X.calm=true)(h:TX Z X f g)(j:(gl f X.env).length=n<|>zn)(l:(gl f X.env).findIdx? (·.1)=none<|>zn):DG Z X (.Tuple f k pos)^Jx n g:=by
 refine(rN i h j l).imp ?_;rintro v r H Q ⟨G,m,d,P,s,e,dv,h,q⟩;cases dv<;>first|exact h.elim|skip
 rename_i a o t p f
 exact#[a,o,rfl,fW.of^s _ _ p,by rw[f.length];exact h.1,G,m,_,P,s,e,f,h.2,q]
def C1(Z:DC)(G:Hp)(J:It)(g:List D):Prop:=∀h f,aC G h->aC h f->∀i:Nat,(i<g.length->J.go i f)/\(g.length<=i->J.stop i f)/\
 ∀x j,i<g.length->J.yld i f x j->∃k d,Ext h f k j/\g[i]?\d/\Dv Z k x d
def tO(Z:DC)(i:kY):TI:=λj H R=>∃(G:Hp)(d:DN)(P:List D->Prop),aC G H/\eJ Z G j d/\i d P/\∀f,P f->∀J g h,Ext G H g h->C1 Z g J f->R J h
def DI(Z:DC)(X:Cx)(d e:fz)(f:kY):Prop:=PI X d e^tO Z f
def PI.imp{i e:fz}{t t':TI}(h:PI X i e t)(f:∀g H Q,t' g H Q->t g H Q):PI X i e t':=λd s g H Q I q=>h d s g H Q I^f _ _ _ q
def PK(t:bb):kY:=λf P=>t f λd=>match d with
 | .lst l=>P l
 |_=>False
def HK{K:ad}{a:Addr}(h:G a\(.lst f))(e:DvAll Z G f j):C1 Z G (MT K a) j:=by
 intro o r k m i;have g:=aK.of (K:=K)^m _ _^k _ _ h;have l:=e.length;refine#[λn=>#[f,f[i],g,bA ()],λn=>#[f,g,()],?_]
 rintro x s n ⟨rfl,p⟩;let⟨d,q,dv⟩:=e.Qn^p _ g;exact#[o,d, .refl m,q,dv.mono k]
def b9(h:DE Z X e te):DI Z X j e^PK te:=by
 refine(lG h).imp ?_;intro r H Q k;rfl';let⟨G,m,P,s,n,h,q⟩:=k;ac_rfl;refine#[G,m,_,s,n,h,λd f v o p g dv=>?_];cases dv<;>first|exact f.elim|skip
 rename_i i e
 exact#[_,rfl,#[_,aK.of^g.sub _ _ i],q _ f _ o p g^HK i e]
noncomputable def gZ(lo:Int)(n:Nat):List D:=(aj n).map λ(k:Nat)=>D.int (lo+(k:Int))
def Iq{lo:Int}{n i:Nat}(h:i<n):(gZ lo n)[i]?\(.int (lo+i)):=by
 unfold gZ;rw[cL,nH h];rfl
def NL(lo:Int)(n:Nat):C1 Z G (GI lo n)^gZ lo n:=by
 intro f h j g i;have l:(gZ lo n).length=n:=by unfold gZ;simp
 rw[l];refine#[λd=>d,λd=>d,?_];rintro x k d ⟨rfl,rfl⟩;exact#[f,_, .refl g,Iq d, .int _]
def abe(t:iE):kY:=λd P=>t d λf=>match f with
 | [.int j]=>(-(2<<<62)<=j/\j<2<<<62)/\P^gZ 0 j.toNat
 |_=>False
variable {t:iE}
def Jy(g:Gl X "range")(i:X.mg "range"=none)(j:DA Z X [a] t)(k:d4 [a] X.env= [(false,f7 a X.env)]<|>zn):DI Z X f (.Call (.Name "range" p) [a] [] pos)^abe t:=by
 refine(om g i j k).imp ?_;intro w H Q l;rfl';let⟨G,n,P,s,o,h,q⟩:=l;ac_rfl;refine#[G,n,_,s,o,h,λy d z r u v dv=>?_]
 split at d
 .obtain⟨_,rfl,a⟩:=dv.ofOne
  exact#[_,by rw[a.ofInt],d.1.1,d.1.2,q _ d.2 _ r u v^NL 0 _]
 .exact d.elim
noncomputable def c9(l:List D):List D:=l.mapIdx λi x=> .tup [.int (i:Int),x]
def Up(t:iE):kY:=λd P=>t d λf=>match f with
 | [.lst l]=>P^c9 l
 |_=>False
def Rg{K:ad}{a:Addr}(h:G a\(.lst f))(e:DvAll Z G f g):C1 Z G (MS K a)^c9 g:=by
 intro r s m j i;have k:=aK.of (K:=K)^j _ _^m _ _ h;have l:=e.length;rw[show(c9 g).length=g.length by unfold c9;simp]
 refine#[λn=>#[f,f[i],k,bA ()],λn=>#[f,k,()],?_]
 rintro x u n ⟨t,y,rfl,o,rfl,p⟩;let⟨d,q,dv⟩:=e.Qn^p _ k;refine#[_,_, .new j o,by unfold c9;rw[List.getElem?_mapIdx,q];rfl,?_]
 exact .tup af^.cons (.int _)^.cons ((dv.mono m).mono^aA (j.free o) _) .nil
def eY{k1}(j:Gl X "enumerate")(k:X.mg "enumerate"=none)(l:DA Z X [a] t)(m:d4 [a] X.env= [(false,f7 a X.env)]<|>zn):DI Z X (.Tuple g k1 i) (.Call (.Name "enumerate" p) [a] [] pos)^Up t:=by
 refine(A4 j k l m).imp ?_;intro x H Q n;rfl';let⟨G,r,P,s,u,h,q⟩:=n;ac_rfl;refine#[G,r,_,s,u,h,λz d A v w f dv=>?_]
 split at d
 .obtain⟨_,rfl,a⟩:=dv.ofOne
  let⟨b,c,rfl,h,e⟩:=a.j6;exact#[_,rfl,#[_,f.sub _ _ h],q _ d _ v w f^Rg h e]
 .exact d.elim
noncomputable def Br(src:List^Option Nat)(d:DN):DN:=src.map λo=>o.bind λi=>(d[i]?).bind id
theorem eJ.src{ρ:DN}(e:eJ Z G g ρ)(src:List^Option Nat):eJ Z G (lN src g)^Br src ρ:=by
 refine#[by unfold lN Br;simp,λi d h=>?_]
 unfold Br at h;unfold lN;rw[cL] at h ⊢;cases k:src[i]? with
 |none=>rw[k] at h;cases h
 |some o=>
  rw[k] at h;cases o with
  |none=>cases h
  |some j=>
   have f:(ρ[j]?).bind id\d:=Fk h;cases m:ρ[j]? with
   |none=>rw[m] at f;cases f
   |some z=>
    rw[m] at f;rfl';have n:z\d:=f;subst n;let⟨v,p,dv⟩:=e.at_ j d m;ac_rfl;exact#[v,by show some^(g[j]?).bind id=_;rw[p];rfl,dv]
def lcW(g:ft)(h:dU)(i:bb):List D->DN->List D->(DN->List D->Prop)->Prop
 | [],j,acc,N=>N j acc
 |x::k,j,acc,N=>g x j λf=>h f λb=>if b=true then i f λd=>acc.length<sizeLine/\lcW g h i k f (acc++ [d]) N else lcW g h i k f acc N
def Yg(f:kY)(g:ft)(h:dU)(i:bb)(src:List^Option Nat):bb:=λd P=>f d λj=>lcW g h i j (Br src d) [] λ_ out=>P^.lst out
def sI(g:ft)(f:dU)(h:kY)(i:ft)(j:dU)(k:bb):List D->DN->List D->(List D->Prop)->Prop
 | [],_,acc,P=>P acc
 |x::l,m,acc,P=>g x m λd=>f d λb=>if b=true then h d λn=>lcW i j k n d acc λo p=>sI g f h i j k l o p P else sI g f h i j k l d acc P
def WN(f:kY)(g:ft)(h:dU)(i:kY)(j:ft)(k:dU)(l:bb)(src:List^Option Nat):bb:=λd P=>f d λm=>sI g h i j k l m (Br src d) [] λout=>P^.lst out
def mX:dU:=λ_ P=>P true
def EC(Z:DC)(X:Cx)(d:List fz)(t:dU):Prop:=k6 X d^liftT Z t
def k6.imp{d:List fz}{t t':TT}(h:k6 X d t)(f:∀i H Q,t' i H Q->t i H Q):k6 X d t':=λg s i H Q I q=>h g s i H Q I^f _ _ _ q
def eZ:EC Z X [] mX:=by
 refine vU.imp λg H Q d=>?_;rfl';let⟨G,i,P,s,e,p,q⟩:=d;ac_rfl;exact q _ p G H^.refl s
def Ah(h:DT Z X c d):EC Z X [c] d:=Il h
def CS(Z:DC)(d f:Hp)(g:Addr)(i:DN)(acc:List D)(j:St)(H:Hp):Prop:=
 ∃(G:Hp)(h:List V),aC d G/\aC G H/\aC f H/\(∀b,f b≠none->d b=none->G b=none)/\G g=none/\H g\(.lst h)/\DvAll Z G h acc/\eJ Z G j i
def fI(s:aC H d){b:Addr}(h:H b≠none):d b≠none:=λz=>by
 cases e:H b with
 |none=>exact h e
 |some o=>rw[s b o e] at z;cases z
def m6{d:Type}{l:List d}{i:Nat}{x:d}(h:l[i]?\x):l.drop i=x::l.drop (i+1):=by
 obtain⟨f,e⟩:=cD.mp h;rw[qN f,e]
theorem DZ(hA:m f=none)(A:Hp)(it:C1 Z A J n)(i:Nat)(L:DN)(acc:List D)(σ:St)(H:Hp)
  (c:CS Z l m f L acc σ H) (hG:∀G,aC l G->aC A G) (hi:i<n.length) (h:lcW g u w (n.drop i) L acc N):
  J.go i H/\∀x B,J.yld i H x B->qc Z g x σ B λp H4=>liftT Z u p H4 λb M=>
   if b=true then dX Z w p M λv O=>∃k,O f\(.lst k)/\k.length<sizeLine/\(∃q r,CS Z l m f q r p^upd O f^.lst (k++ [v])/\lcW g u w (n.drop (i+1)) q r N)
   else ∃q r,CS Z l m f q r p M/\lcW g u w (n.drop (i+1)) q r N:=by
 rfl';let⟨Q,k,R,s2,S,off,gA,T,Y,en⟩:=c;let⟨go,K,yld⟩:=it Q H (hG _ R) s2 i;ac_rfl;refine#[go hi,λx B y=>?_];rfl';let⟨G3,d,C,hd,dv⟩:=yld x B hi y;rw[m6 hd] at h;ac_rfl;refine#[G3,L,d,_,C.sub,en.mono C.gg,dv,h,λE F p I=>?_];refine#[G3,E,_,C.sub,I,F,λb hb G5 M s=>?_];have j:=C.trans s;have a:∀{G t:Hp},Ext Q H G t->G f=none:=λx=>x.off f (by rw[T];exact λz=>nomatch z) gA
 have yD:∀{G t:Hp},Ext Q H G t->∀b,m b≠none->l b=none->G b=none:=λx b F h2=>x.off b (fI S F)^off b F h2;cases b with
 |false=>
  refine cO #[E,acc,#[G5,k,R.trans j.gg,j.sub,S.trans j.hh,yD j,a j,j.hh _ _ T,Y.mono j.gg,I.mono s.gg],?_];simpa using hb
 |true=>
  refine dD #[G5,E,_,s.sub,I.mono s.gg,(~~~hb),λd' lB v G6 O x6 X=>?_]
  have x:=j.trans x6;refine#[k,x.hh _ _ T,by rw[Y.length];exact lB.1,E,_,#[G6,k++ [v],R.trans x.gg,λb o e=>?_,λb o e=>?_,yD x,a x,af,(Y.mono x.gg).snoc X,(I.mono s.gg).mono x6.gg],lB.2]
  .rw[ag^ao e^a x];exact x.sub _ _ e
  .rw[ag^ao e hA];exact(S.trans x.hh) _ _ e
def CS.done(c:CS Z h g d n acc p i)(f:Ext G H h g)(q:g d=none):∃j,Ext G H j i/\Dv Z j (.ref d)^.lst acc:=by
 rfl';let⟨s,u,v,w,x,off,k,y,A,E⟩:=c;ac_rfl;refine#[upd s d^.lst u,#[(f.gg.trans v).trans^aA k _,λb o e=>?_,f.hh.trans x,λb l B=>?_], .lst af^A.mono^aA k _]
 .by_cases z:b=d
  .subst z;rw[af] at e;cases e;exact y
  .rw[ag z] at e;exact w _ _ e
 .have m:=fI f.hh l
  rw[ag^λz=>m^by rw[z];exact q]
  exact off b m^f.off b l B
def CS.begin(s:aC d f)(i:f g=none)(l:eJ Z d k j):CS Z d f g j [] k^upd f g^.lst []:=
 #[d,[], .refl _,λb o e=>by rw[ag^ao e^s.free i];exact s _ _ e,aA i _,λ_ _ h=>h,s.free i,af, .nil,l]
variable {tg iter elt:fz} {ifs:List fz} {scope:Scope} {NC:List eg} {src:List^Option Nat} {wi:kY} {g:ft} {tt:dU}
def Mg:∀o H Q,dX Z (Yg wi g tt te src) o H Q->Wh (tO Z wi) (qc Z g) (liftT Z tt) (dX Z te) src o H Q:=by
 intro o H Q C;rfl';let⟨G,E,P,s,y,h,q⟩:=C;ac_rfl;refine#[G,E,_,s,y,h,λd F J z I p A L r=>?_];refine#[λi m u j=>m=d.length-i/\i<=d.length/\∃l acc,CS Z z I L l acc u j/\lcW g tt te (d.drop i) l acc λ_ out=>P^.lst out,#[_,rfl,eB _,_,[], .begin p.sub r^(y.mono p.gg).src src,F],?_];intro i m u j M;rfl';let⟨rfl,Y,l,acc,c,v⟩:=M;ac_rfl
 by_cases B:i<d.length
 .obtain⟨N,k⟩:=DZ r z A i l acc u j c (λ_ s=>s) B v
  exact .inr #[N,_,λa b n=>#[d.length-(i+1),(),rfl,B,n],k]
 .have e:d.drop i= []:=yV ()
  rfl';rw[e] at v;let⟨O,x,dv⟩:=c.done p r;let⟨R,t,S,T,f⟩:=c;ac_rfl;exact .inl #[(A R j S T i).2.1 (),q _ v _ O j x dv]
def pM(f:X.calm=true)(c:bD X scope)(h:dM scope X.N src NC)(i:DI Z X tg iter wi)
  (j:∀d s H,DG Z (bK X scope NC d s H) tg g) (k:∀d s H,EC Z (bK X scope NC d s H) ifs tt) (l:∀d s H,DE Z (bK X scope NC d s H) elt te)
  (m:(∀x,ey iter X.env x=pure x)<|>za):DE Z X (.ListComp elt [#[tg,iter,ifs,0]] scope pos)^Yg wi g tt te src:=(Si f c h i j k l m).imp Mg
variable {t0 i0 t1 i1:Expr} {f0 f1:List Expr} {cK:kY} {g1:ft} {bY:dU}
def Rr:∀σ H Q,dX Z (WN wi g tt cK g1 bY te src) σ H Q->XI (tO Z wi) (qc Z g) (liftT Z tt) (tO Z cK) (qc Z g1) (liftT Z bY) (dX Z te) src σ H Q:=by
 intro σ H Q aP;rfl';let⟨G,ρ,P,s,en,h,q⟩:=aP;ac_rfl;refine#[G,ρ,_,s,en,h,λl hd J E r x1 it j hA=>?_];refine#[λi m dQ F=>m=l.length-i/\i<=l.length/\∃u acc,CS Z E r j u acc dQ F/\sI g tt cK g1 bY te (l.drop i) u acc λout=>P^.lst out,#[_,rfl,eB _,_,[], .begin x1.sub hA^(en.mono x1.gg).src src,hd],?_];intro i m dQ F jf;rfl';let⟨rfl,hi,u,acc,c,hl⟩:=jf;ac_rfl
 by_cases cg:i<l.length
 .have c0:=c
  rfl';let⟨R,p,S,s2,s3,off,gA,pq,bN,Yz⟩:=c;let⟨go,f,yld⟩:=it R F S s2 i;ac_rfl;refine .inr #[go cg,λT I=>∃Y a,CS Z E r j Y a T I/\sI g tt cK g1 bY te (l.drop (i+1)) Y a λout=>P^.lst out,λT I n=>#[l.length-(i+1),(),rfl,cg,n],λx H3 y=>?_]
  rfl';let⟨G3,d,x3,JN,dv⟩:=yld x H3 cg y;rw[m6 JN] at hl;ac_rfl;refine#[G3,u,d,_,x3.sub,Yz.mono x3.gg,dv,hl,λt L fg uN=>?_];refine#[G3,t,_,x3.sub,uN,L,λb X G5 H5 x5=>?_];have w:=x3.trans x5;have vI:∀{G M:Hp},Ext R F G M->G j=none:=λx=>x.off j (by rw[pq];exact λz=>nomatch z) gA
  have yD:∀{G M:Hp},Ext R F G M->∀b,r b≠none->E b=none->G b=none:=λx b L h2=>x.off b (fI s3 L)^off b L h2;cases b with
  |false=>exact cO #[t,acc,#[G5,p,S.trans w.gg,w.sub,s3.trans w.hh,yD w,vI w,w.hh _ _ pq,bN.mono w.gg,uN.mono x5.gg],by simpa using X]
  |true=>
   refine dD #[G5,t,_,x5.sub,uN.mono x5.gg,(~~~X),λN Zb J1 G6 H6 x6 HJ=>?_]
   have x:=w.trans x6;have c6:CS Z G6 H6 j t acc fg H6->True:=λ_=>trivial
   refine#[λk m qS A=>m=N.length-k/\k<=N.length/\∃(B6:DN)(GN:List D),(∃(G:Hp)(p:List V),aC G6 G/\aC G A/\aC r A/\(∀b,r b≠none->E b=none->G b=none)/\G j=none/\A j\(.lst p)/\DvAll Z G p GN/\eJ Z G qS B6)/\
    lcW g1 bY te (N.drop k) B6 GN λu zW=>sI g tt cK g1 bY te (l.drop (i+1)) u zW λout=>P^.lst out,
    #[_,rfl,eB _,t,acc,#[G6,p, .refl _,x.sub,s3.trans x.hh,yD x,vI x,x.hh _ _ pq,bN.mono x.gg,(uN.mono x5.gg).mono x6.gg],Zb],?_]
   intro k m qS A jf;rfl';obtain⟨rfl,hk,B6,GN,⟨G7,Wx,a1,a2,a3,a4,a5,a6,a7,a8⟩,su⟩:=jf;ac_rfl;have YD:aC E G6:=S.trans x.gg
   by_cases Ar:k<N.length
   .obtain⟨YG,_,TL⟩:=HJ G7 A a1 a2 k
    refine .inr #[YG Ar,λT I=>∃(Y:DN)(a:List D),(∃(G:Hp)(p:List V),aC G6 G/\aC G I/\aC r I/\(∀b,r b≠none->E b=none->G b=none)/\G j=none/\I j\(.lst p)/\DvAll Z G p a/\eJ Z G T Y)/\
     lcW g1 bY te (N.drop (k+1)) Y a λu zW=>sI g tt cK g1 bY te (l.drop (i+1)) u zW λout=>P^.lst out,λT I n=>#[N.length-(k+1),(),rfl,Ar,n],λy H8 hy=>?_]
    rfl';let⟨G8,d8,x8,Y6,Yt⟩:=TL y H8 Ar hy;rw[m6 Y6] at su;ac_rfl;refine#[G8,B6,d8,_,x8.sub,a8.mono x8.gg,Yt,su,λCZ h9 σ9 Cn=>?_];refine#[G8,CZ,_,x8.sub,Cn,h9,λb X OO y8 zA=>?_];have B:=x8.trans zA;have oA:∀{G M:Hp},Ext G7 A G M->G j=none:=λx=>x.off j (by rw[a6];exact λz=>nomatch z) a5
    have oB:∀{G M:Hp},Ext G7 A G M->∀b,r b≠none->E b=none->G b=none:=λx b L h2=>x.off b (fI a3 L)^a4 b L h2;cases b with
    |false=>exact cO #[CZ,GN,#[OO,Wx,a1.trans B.gg,B.sub,a3.trans B.hh,oB B,oA B,B.hh _ _ a6,a7.mono B.gg,Cn.mono zA.gg],by simpa using X]
    |true=>
     refine dD #[OO,CZ,_,zA.sub,Cn.mono zA.gg,(~~~X),λd' lB v XS B9 Ly PR=>?_]
     have C:=B.trans Ly;refine#[Wx,C.hh _ _ a6,by rw[a7.length];exact lB.1,CZ,_,#[XS,Wx++ [v],a1.trans C.gg,λb o e=>?_,λb o e=>?_,oB C,oA C,af,(a7.mono C.gg).snoc PR,(Cn.mono zA.gg).mono Ly.gg],lB.2]
     .rw[ag^ao e^oA C];exact C.sub _ _ e
     .rw[ag^ao e hA];exact(a3.trans C.hh) _ _ e
   .have e:N.drop k= []:=yV ()
    rw[e] at su;exact .inl #[(HJ G7 A a1 a2 k).2.1 (),B6,GN,#[G7,Wx,YD.trans a1,a2,a3,a4,a5,a6,a7,a8],su]
 .have e:l.drop i= []:=yV ()
  rfl';rw[e] at hl;let⟨G',x,dv⟩:=c.done x1 hA;let⟨R,p,S,s2,f⟩:=c;ac_rfl;exact .inl #[(it R F S s2 i).2.1 (),q _ hl _ G' F x dv]
def Ui(f:X.calm=true)(c:bD X scope)(h:dM scope X.N src NC)(i:DI Z X t0 i0 wi)
  (j:∀d s H,DG Z (bK X scope NC d s H) t0 g) (k:∀d s H,EC Z (bK X scope NC d s H) f0 tt) (l:∀d s H,DI Z (bK X scope NC d s H) t1 i1 cK) (m:∀d s H,DG Z (bK X scope NC d s H) t1 g1)
  (n:∀d s H,EC Z (bK X scope NC d s H) f1 bY) (o:∀d s H,DE Z (bK X scope NC d s H) elt te)
  (p:(∀x,ey i0 X.env x=pure x)<|>za) (q:(∀env x,ey i1 env x=pure x)<|>xu):
  DE Z X (.ListComp elt [#[t0,i0,f0,0],#[t1,i1,f1,0]] scope pos)^WN wi g tt cK g1 bY te src:=(VB f c h i j k l m n o p q).imp Rr
end
inductive kZ (R:V->D->List Addr->Prop):List V->List D->List Addr->Prop
 |nil:kZ R [] [] []
 |cons {v:V} {vs:List V} {d:D} {ds:List D} {f fs:List Addr}:R v d f->kZ R vs ds fs->kZ R (v::vs) (d::ds) (f++fs)
noncomputable def isL:D->Bool
 | .lst _=>true
 |_=>false
def Own(Z:DC)(G H:Hp):Nat->V->D->List Addr->Prop
 |0,v,d,c=>Dv Z G v d/\c= []
 |n+1,v,d,c=>(∃a e g i,v= .ref a/\d= .lst g/\H a\(.lst e)/\c=a::i/\kZ (Own Z G H n) e g i)\/(1<=n/\∃a e g,v= .ref a/\d= .tup g/\G a\(.tup e)/\kZ (λv d f=>(isL d=true/\Own Z G H n v d f)\/(isL d=false/\Dv Z G v d/\f= [])) e g c)\/(∃a h,v= .ref a/\H a\(.ext h)/\c= [a]/\((n=98/\∃b j,d= .set b j/\h=WD b a j)\/(n=97/\∃k,d= .x k/\MX G a h k)))
def Own.xA(o:Own Z G H 98 v (.x k) d):∃a c,v= .ref a/\H a\(.ext c)/\d= [a]/\MX G a c k:=by
 rcases o with ⟨_,_,_,_,_,e,_⟩ | ⟨_,a,j,l,_,e,_⟩ | ⟨a,c,f,g,h,⟨_,b,m,e,n⟩ | ⟨_,k,e,i⟩⟩
 .cases e
 .cases e
 .cases e
 .cases e;exact#[a,c,f,g,h,i]
def Own.one{d:D}(o:Own Z G H 1 v d b):∃a c e f,v= .ref a/\d= .lst e/\H a\(.lst c)/\b=a::f/\kZ (Own Z G H 0) c e f:=by
 rcases o with o| ⟨z,_⟩ | ⟨_,_,_,_,_,⟨z,_⟩ | ⟨z,_⟩⟩
 .exact o
 .exact absurd z ∅
 .exact absurd z ∅
 .exact absurd z ∅
def kZ.imp{i:List V}(o:kZ R i j c)(h:∀v d f,(∀b∈f,b∈c)->R v d f->g v d f):kZ g i j c:=by
 induction o with
 |nil=>exact .nil
 |cons a _ k=>exact .cons (h _ _ _ (λb e=>fK _ e) a) (k λv d f l r=>h v d f (λb e=>fb _^l b e) r)
section
variable {Z:DC} {G G' H H':Hp}
theorem Own.keep:∀{v:V}{d:D}{g:List Addr},Own Z G H n v d g->aC G G'->(∀b∈g,H' b=H b)->Own Z G' H' n v d g:=by
 induction n with
 |zero=>exact λh s _=>#[h.1.mono s,h.2]
 |succ n u=>
  intro v d g h s k
  rcases h with ⟨a,j,l,w,c,m,e,i,o⟩ | ⟨p,a,j,l,c,m,e,o⟩ | ⟨a,x,c,e,i,y⟩
  .subst i
   exact .inl #[a,j,l,w,c,m,by rw[k a (cF ..)];exact e,rfl,o.imp λv d f t r=>u r s λb q=>k b^dS _^t b q]
  .exact .inr^.inl #[p,a,j,l,c,m,s _ _ e,o.imp λv d f t r=>r.imp (λr=>#[r.1,u r.2 s λb q=>k b^t b q]) λr=>#[r.1,r.2.1.mono s,r.2.2]]
  .exact .inr^.inr #[a,x,c,by rw[k a^by rw[i];exact cF ..];exact e,i,y.imp id λ#[p,k,z,A]=>#[p,k,z,A.mono s]]
def kZ.WV(o:kZ R e g h)(k:∀v d f,(∀b∈f,b∈h)->R v d f->Dv Z G' v d):DvAll Z G' e g:=by
 induction o with
 |nil=>exact .nil
 |cons a _ i=>exact .cons (k _ _ _ (λb c=>fK _ c) a) (i λv d f j r=>k v d f (λb c=>fb _^j b c) r)
def Own.WU(o:HO->Prop)(y:∀j,o^.lst j)(t:∀u,o^.ext u):∀{v:V}{d:D}{l:List Addr},Own Z G H n v d l->aC G G'->(∀b∈l,∀x,o x->H b\x->G' b\x)->Dv Z G' v d:=by
 induction n with
 |zero=>exact λh s _=>h.1.mono s
 |succ n w=>
  intro v d l h s k
  rcases h with ⟨a,j,z,B,i,c,g,e,m⟩ | ⟨_,a,j,z,i,c,g,m⟩ | ⟨a,u,i,g,e,A⟩
  .subst e i c
   exact .lst (k a (cF ..) _ (y _) g) (m.WV λv d f e r=>w r s λb p=>k b^dS _^e b p)
  .subst i c
   exact .tup (s _ _ g) (m.WV λv d f e r=>r.elim (λr=>w r.2 s λb p=>k b^e b p) λr=>r.2.1.mono s)
  .subst i e
   rcases A with ⟨_,b,C,c,q⟩ | ⟨_,E,c,q⟩
   .subst c q
    exact .set^k a (cF ..) _ (t _) g
   .subst c
    exact .x (k a (cF ..) _ (t _) g)^q.mono s
def Own.dv{d:D}(h:Own Z G H n v d a)(s:aC G G')(k:∀b∈a,∀o,H b\o->G' b\o):Dv Z G' v d:=h.WU (λ_=>True) (λ_=>trivial) (λ_=>trivial) s λb c x _ e=>k b c x e
def kZ.flat(o:kZ (Own Z G H 0) b c d):DvAll Z G b c/\d= []:=by
 induction o with
 |nil=>exact#[.nil,rfl]
 |cons a _ e=>exact#[.cons a.1 e.1,by rw[a.2,e.2];rfl]
def DvAll.own(h:DvAll Z G c d):kZ (Own Z G H 0) c d []:=h.ind (p:=λc d=>kZ (Own Z G H 0) c d []) .nil λa _ b=> .cons (f:= []) (fs:= []) #[a,rfl] b
end
mutual
noncomputable def qf:D->Bool
 | .aS=>true
 | .bl _=>true
 | .int _=>true
 | .str _=>true
 | .tup l=>Ml l
 |_=>false
noncomputable def Ml:List D->Bool
 | []=>true
 |d::ds=>qf d&&Ml ds
end
theorem Dv.qf(k:∀b xs,G b\(.tup xs)->e b\(.tup xs))(h:Dv Z G v d):L2.qf d=true->Dv Z e v d:=by
 have c:∀{p:Prop}{d:D},L2.qf d=false->L2.qf d=true->p:=λa b=>by rw[a] at b;cases b
 refine Dv.rec (motive_1:=λv d _=>L2.qf d=true->Dv Z e v d) (motive_2:=λj g _=>Ml g=true->DvAll Z e j g) (λ_=> .aS) (λb _=> .bl b) (λi _=> .int i) (λx h _=> .str x h) (λ_ _ _=>c^by rw[L2.qf]<;>simp) (λh _ l f=> .tup (k _ _ h)^l^by rw[L2.qf] at f;exact f) (λ_=>c^by rw[L2.qf]<;>simp) (λ_=>c^by rw[L2.qf]<;>simp) (λ_ _=>c^by rw[L2.qf]<;>simp) (λ_ _ _ _ _ _=>c^by rw[L2.qf]<;>simp) (λ_=>c^by rw[L2.qf]<;>simp) (λ_ _=>c^by rw[L2.qf]<;>simp) (λ_ _ _ _=>c^by rw[L2.qf]<;>simp) (λ_=> .nil) (λ_ _ m n f=>?_) h
 rw[Ml,uC] at f;exact .cons (m f.1)^n f.2
noncomputable def Sb:HO->Bool
 | .lst _=>true
 | .ext _=>true
 |_=>false
def Own.dvL(h:Own Z G H n v d c)(s:aC G a)(k:∀b∈c,∀o,Sb o=true->H b\o->a b\o):Dv Z a v d:=h.WU (λo=>Sb o=true) (λ_=>rfl) (λ_=>rfl) s k
structure Bs where
 G₀:Hp
 H₀:Hp
 Gf:Hp
structure SIx (Z:DC) (B:Bs) (md:List Nat) (ρ:DN) (σ:St) (H G:Hp) (fp:Nat->List Addr):Prop where
 ex:Ext B.G₀ B.H₀ G H
 fl:aC B.Gf G
 len:ρ.length=σ.length
 at_:∀(i:Nat)(d:D),ρ[i]?\(some d)->∃v,σ[i]?\(some v)/\Own Z G H (md.getD i 0) v d (fp i)
 nd:∀i,(fp i).Nodup
 ap:∀i j b,i≠j->b∈fp i->b∉fp j
 nw:∀i b,b∈fp i->B.H₀ b=none/\H b≠none/\G b=none
def SI(Z:DC)(B:Bs)(a:List Nat)(b:DN)(c:St)(H:Hp):Prop:=∃G d,SIx Z B a b c H G d
noncomputable def cX:List Nat->DN->DN
 |_,[]=> []
 | [],o::a=>o::a
 |0::b,o::a=>o::cX b a
 | (_+1)::b,_::a=>none::cX b a
theorem tU:∀(a:List Nat)(b:DN),(cX a b).length=b.length
 |a,[]=>by cases a<;>rfl
 | [],o::b=>rfl
 |0::a,o::b=>by rw[cX,cJ,tU a b,cJ]
 | (_+1)::a,_::b=>by rw[cX,cJ,tU a b,cJ]
theorem xR:∀(c:List Nat)(e:DN)(i:Nat),(cX c e)[i]?\(some d)->c.getD i 0=0/\e[i]?\(some d)
 |c,[],i,h=>by cases c<;>simp[cX] at h
 | [],o::e,i,h=>#[by simp,h]
 |0::c,o::e,0,h=>#[rfl,by simpa [cX] using h]
 |0::c,o::e,i+1,h=>by
  rw[cX,wF] at h;obtain⟨a,b⟩:=xR c e i h;exact#[by rw[GC];exact a,by rw[wF];exact b]
 | (_+1)::c,_::e,0,h=>by simp[cX] at h
 | (_+1)::c,_::e,i+1,h=>by
  rw[cX,wF] at h;obtain⟨a,b⟩:=xR c e i h;exact#[by rw[GC];exact a,by rw[wF];exact b]
noncomputable def Lo(b:List Nat):Bool->DN->DN
 |true,a=>a
 |false,a=>cX b a
def zG:Bool->D->Prop
 |true,d=>qf d=true
 |false,_=>True
section
variable {Z:DC} {B:Bs} {md:List Nat} {ρ:DN} {σ:St} {H G:Hp} {fp:Nat->List Addr}
def KU(h:(cX md ρ)[i]?\(some d)):md.getD i 0=0/\ρ[i]?\(some d):=xR md ρ i h
def SIx.uO(S:SIx Z B md ρ σ H G fp):eJ Z G σ^cX md ρ:=by
 refine#[by rw[tU];exact S.len,λi d h=>?_]
 let⟨z,h⟩:=KU h;let⟨v,a,o⟩:=S.at_ i d h;rw[z] at o;exact#[v,a,o.1]
def SIx.abi(S:SIx Z B md ρ σ H G fp):eJ Z H σ ρ:=by
 refine#[S.len,λi d h=>?_];obtain⟨v,a,o⟩:=S.at_ i d h;exact#[v,a,o.dv S.ex.sub λb _ u e=>e]
theorem SIx.grow{c f:Hp}(S:SIx Z B md ρ σ H G fp)(x:Ext G H c f):SIx Z B md ρ σ f c fp where
 ex:=S.ex.trans x
 fl:=S.fl.trans x.gg
 len:=S.len
 at_:=λi d h=>by
  obtain⟨v,j,o⟩:=S.at_ i d h;refine#[v,j,o.keep x.gg λb a=>?_];cases e:H b with
  |none=>exact absurd e (S.nw i b a).2.1
  |some u=>exact x.hh _ _ e
 nd:=S.nd
 ap:=S.ap
 nw:=λi b a=>let #[k,g,l]:=S.nw i b a;#[k,fI x.hh g,x.off b g l]
def Ext.all(s:aC G H)(x:Ext H H b a):Ext G H G a:=#[.refl _,s.trans x.hh,x.hh,λ_ _ h=>h]
open Classical in
noncomputable def kc(G H:Hp)(fp:Nat->List Addr):Hp:=λb=>if ∃i,b∈fp i then(match H b with|some (.lst xs)=>some (.lst xs) |some (.ext φ)=>some (.ext φ) |_=>none) else G b
open Classical in
noncomputable def xC(G:Hp)(fp:Nat->List Addr):Hp:=λb=>if ∃i,b∈fp i then none else G b
def OK(i:Nat)(h:b∈fp i)(a:Sb o=true)(e:H b\o):kc G H fp b\o:=by
 unfold kc;rw[ir #[i,h],e];cases o<;>first|rfl|cases a
def uB(h:¬∃i,b∈fp i):kc G H fp b=G b:=mo h
def SIx.WW(S:SIx Z B md ρ σ H G fp):aC G^kc G H fp/\aC (kc G H fp) H/\eJ Z (kc G H fp) σ ρ:=by
 have c:aC G^kc G H fp:=λb o e=>by
  by_cases h:∃i,b∈fp i
  .obtain⟨i,f⟩:=h
   rw[(S.nw i b f).2.2] at e;cases e
  .rw[uB h];exact e
 refine#[c,λb o e=>?_,S.len,λi d h=>?_]
 .by_cases h:∃i,b∈fp i
  .unfold kc at e
   rw[ir h] at e
   split at e
   .next l a=>rw[a];exact e
   .next m a=>rw[a];exact e
   .cases e
  .rw[uB h] at e;exact S.ex.sub _ _ e
 .obtain⟨v,g,o⟩:=S.at_ i d h
  exact#[v,g,o.dvL c λb j u k a=>OK i j k a]
def SIx.aca(S:SIx Z B md ρ σ H G fp)(x:Ext (kc G H fp) H a g):Ext G H (xC a fp) g/\∀b d,a b\(.tup d)->xC a fp b\(.tup d):=by
 let⟨j,l,m⟩:=S.WW;refine#[#[λb o e=>?_,λb o e=>?_,x.hh,λb f k=>?_],λb d e=>?_]
 .have h:¬∃i,b∈fp i:=by
   rintro⟨i,c⟩;rw[(S.nw i b c).2.2] at e;cases e
  unfold xC;rw[mo h];exact x.gg _ _^j _ _ e
 .unfold xC at e
  split at e
  .cases e
  .exact x.sub _ _ e
 .unfold xC
  split
  .rfl
  .next h=>exact x.off b f^by rw[uB h];exact k
 .have h:¬∃i,b∈fp i:=by
   rintro⟨i,c⟩;have f:=(S.nw i b c).2.1;cases hw:kc G H fp b with
   |none=>rw[x.off b f hw] at e;cases e
   |some o=>
    have:=x.gg _ _ hw
    rw[e] at this;cases Fk this;unfold kc at hw;rw[ir #[i,c]] at hw
    split at hw<;>cases hw
  unfold xC;rw[mo h];exact e
theorem SIx.ev(S:SIx Z B md ρ σ H G fp)(m:Bool)(h:t (Lo md m ρ) P)
  (f:∀d,P d->zG m d/\∀v b a,SIx Z B md ρ σ a b fp->Ext G H b a->Dv Z b v d->Q v a):dX Z t σ H Q:=by
 cases m with
 |false=>exact#[G,_,P,S.ex.sub,S.uO,h,λd c v b a x dv=>(f d c).2 v b a (S.grow x) x dv]
 |true=>
  let⟨j,i,e⟩:=S.WW;refine#[kc G H fp,_,P,i,e,h,λd c v b a x dv=>?_];let⟨g,k⟩:=S.aca x;exact(f d c).2 v _ a (S.grow g) g^dv.qf k (f d c).1
def SIx.evT(S:SIx Z B md ρ σ H G fp)(h:t ρ P)(c:∀b,P b->∀a,SIx Z B md ρ σ a G fp->Q b a):liftT Z t σ H Q:=
 #[H,ρ,P, .refl _,S.abi,h,λb d e a x=>c b d a^S.grow^Ext.all S.ex.sub x]
def SIx.oW(S:SIx Z B md ρ σ H G fp)(l:md.getD i 0=0)(dv:Dv Z G v d):SIx Z B md (ρ.set i^some d) (σ.set i^some v) H G (λj=>if j=i then[] else fp j) where
 ex:=S.ex
 fl:=S.fl
 len:=by rw[iU,iU];exact S.len
 at_:=λj c h=>by
  by_cases z:i=j
  .subst z
   by_cases a:i<ρ.length
   .rw[oZ a] at h
    cases Fk h;exact#[v,oZ^by rw[<-S.len];exact a,by rw[l,ir rfl];exact#[dv,rfl]]
   .rw[EA^lQ a,fJ^lQ a] at h;cases h
  .rw[qO z] at h ⊢
   rw[mo^Ne.symm z];exact S.at_ j c h
 nd:=λj=>by split;exact iV;exact S.nd j
 ap:=λj k b ne e f=>by
  split at e
  .cases e
  .split at f
   .cases f
   .exact S.ap j k b ne e f
 nw:=λj b g=>by
  split at g
  .cases g
  .exact S.nw j b g
def SIx.S0{f:List Addr}(S:SIx Z B md ρ σ H G fp)(m:md.getD i 0=n)(o:Own Z G H n v d f)(nd:f.Nodup)(nw:∀b∈f,B.H₀ b=none/\H b≠none/\G b=none)(ap:∀b∈f,∀j,j≠i->b∉fp j):
  SIx Z B md (ρ.set i^some d) (σ.set i^some v) H G (λj=>if j=i then f else fp j) where
 ex:=S.ex
 fl:=S.fl
 len:=by rw[iU,iU];exact S.len
 at_:=λj c h=>by
  by_cases z:i=j
  .subst z
   by_cases e:i<ρ.length
   .rw[oZ e] at h
    cases Fk h;exact#[v,oZ^by rw[<-S.len];exact e,by rw[m,ir rfl];exact o]
   .rw[EA^lQ e,fJ^lQ e] at h;cases h
  .rw[qO z] at h ⊢
   rw[mo^Ne.symm z];exact S.at_ j c h
 nd:=λj=>by split;exact nd;exact S.nd j
 ap:=λj k b ne g a=>by
  split at g
  .next z=>
   rw[mo^λw=>ne^z.trans w.symm] at a;exact ap b g k (λw=>ne^z.trans w.symm) a
  .next z=>
   split at a
   .exact ap b a j z g
   .exact S.ap j k b ne g a
 nw:=λj b l=>by
  split at l
  .exact nw b l
  .exact S.nw j b l
noncomputable def plus(G H:Hp)(F:Addr->Prop):Hp:=λb=>open Classical in if F b then H b else G b
def jQ(h:F b):plus G H F b=H b:=by unfold plus;rw[ir h]
def gX(h:¬F b):plus G H F b=G b:=by unfold plus;rw[mo h]
def rO(s:aC G H):aC (plus G H F) H:=λb o e=>by
 by_cases h:F b
 .rw[jQ h] at e;exact e
 .rw[gX h] at e;exact s _ _ e
def iP(s:aC G H):aC G^plus G H F:=λb o e=>by
 by_cases h:F b
 .rw[jQ h];exact s _ _ e
 .rw[gX h];exact e
def SIx.evR(S:SIx Z B md ρ σ H G fp)(h:t ρ P)(g:∀d,P d->∀v a c,Ext B.G₀ B.H₀ a c->Dv Z a v d->Q v c):dX Z t σ H Q:=by
 let F:Addr->Prop:=λb=>∃i,b∈fp i
 have s:=S.ex.sub
 have j:Ext B.G₀ B.H₀ (plus G H F) H:=#[S.ex.gg.trans^iP s,rO s,S.ex.hh,λb f k=>by
  rw[gX^λ#[i,l]=>f (S.nw i b l).1];exact S.ex.off b f k]
 refine#[plus G H F,ρ,P,rO s,#[S.len,λi d h=>?_],h,λd m v a c x dv=>g d m v a c (j.trans x) dv];obtain⟨v,n,o⟩:=S.at_ i d h;exact#[v,n,o.dv (iP s) λb f u e=>by rw[jQ #[i,f]];exact e]
end
structure gf where
 nx:DN->Prop
 rt:D->Prop
 bk:DN->Prop:=λ_=>False
 ct:DN->Prop:=λ_=>False
 xc:DN->D->Prop:=λ_ _=>False
abbrev eG:=gf->DN->Prop
structure Meets (Z:DC) (X:Cx) (B:Bs) (md:List Nat) (rn:Nat) (E:gf) (Dn:Ends):Prop where
 nx:∀ρ,E.nx ρ->∀σ H,SI Z B md ρ σ H->Dn.nx σ H
 rt:∀d,E.rt d->∀v f G' H',Ext B.G₀ B.H₀ G' H'->Own Z G' H' rn v d f->f.Nodup->(∀b∈f,B.H₀ b=none/\H' b≠none/\G' b=none)->Dn.rt v H'
 bk:∀ρ,E.bk ρ->∀σ H,SI Z B md ρ σ H->Dn.bk σ H
 ct:∀ρ,E.ct ρ->∀σ H,SI Z B md ρ σ H->Dn.ct σ H
 xc:∀ρ d,E.xc ρ d->∀σ H G fp a,SIx Z B md ρ σ H G fp->Dv Z G (.ref a) d->GL X σ H a
def n4(Z:DC)(X:Cx)(a:List Nat)(c:Nat)(t:eG):TS:=λd e H=>∃(B:Bs)(b:DN)(E:gf),SI Z B a b e H/\t E b/\Meets Z X B a c E d
def DSt(Z:DC)(X:Cx)(a:List Nat)(b:Nat)(st:Stmt)(t:eG):Prop:=PS X st^n4 Z X a b t
def pj(Z:DC)(X:Cx)(a:List Nat)(b:Nat)(c:List Stmt)(t:eG):Prop:=kF X c^n4 Z X a b t
def PS.imp{X:Cx}{st:Stmt}{t t':TS}(h:PS X st t)(f:∀D b H,t' D b H->t D b H):PS X st t':=λa s b H D I q=>h a s b H D I^f _ _ _ q
def kF.imp{X:Cx}{st:List Stmt}{t t':TS}(h:kF X st t)(f:∀D b H,t' D b H->t D b H):kF X st t':=λa s b H D I q=>h a s b H D I^f _ _ _ q
section
variable {Z:DC} {X:Cx} {md:List Nat} {rn:Nat} {st:Stmt} {By:List Stmt} {t u:eG} {e:Expr} {te:bb} {pos:Pos}
def Yi:eG:=λE a=>E.nx a
def aba(t u:eG):eG:=λE a=>t {E with nx:=u E} a
def bw:pj Z X md rn [] Yi:=by
 refine qj.imp λD b H a=>?_;obtain⟨B,c,E,S,h,M⟩:=a;exact M.nx _ h _ _ S
def aw(a:DSt Z X md rn st t)(b:pj Z X md rn By u):pj Z X md rn (st::By)^aba t u:=by
 refine(aG a b).imp λD k H c=>?_;rfl';let⟨B,f,E,S,h,M⟩:=c;ac_rfl;exact#[B,f,_,S,h,#[λg i m n j=>#[B,g,E,j,i,M],M.rt,M.bk,M.ct,M.xc]]
def av(a:DSt Z X md rn st t):pj Z X md rn [st] t:=bo a
def dss_never:pj Z X md rn By (λ_ _=>False):=by
 refine KQ.imp λD b H a=>?_;obtain⟨B,c,E,S,h,M⟩:=a;exact h
def Dg:DSt Z X md rn st (λ_ _=>False):=by
 refine Of.imp λD b H a=>?_;obtain⟨B,c,E,S,h,M⟩:=a;exact h
def aa9(a:bb):eG:=λE b=>a b E.rt
def aW(a:DE Z X e te):DSt Z X md 0 (.Return (some e) pos)^aa9 te:=by
 refine(iB a).imp λD l H c=>?_;rfl';obtain⟨B,n,E,⟨G,o,S⟩,h,M⟩:=c;ac_rfl;exact S.evR h λd g v i j x dv=>M.rt d g v [] i j x #[dv,rfl] iV^λb k=>by cases k
def aaZ(c:dU)(t u:eG):eG:=λE a=>c a λb=>if b=true then t E a else u E a
def dA(j:DT Z X c tc)(k:pj Z X md rn a t)(d:pj Z X md rn b u):DSt Z X md rn (.If c a b pos)^aaZ tc t u:=by
 refine(A7 j k d).imp ?_;intro D n H l;rfl';obtain⟨B,f,E,⟨G,g,S⟩,h,M⟩:=l;ac_rfl;refine S.evT h λb d p i=>?_;cases b with
 |true=>exact dD #[B,f,E,#[G,g,i],(d),M]
 |false=>exact cO #[B,f,E,#[G,g,i],(d),M]
def WR(b:List Nat)(m:Bool)(i:Nat)(c:bb):eG:=λE a=>c (Lo b m a) λd=>zG m d/\E.nx^a.set i^some d
def cz(m:Bool)(i:Nat)(f:X.N.Nodup)(g:DE Z X e j)(k:b.getD i 0=0<|>zn)(l:X.N[i]?\x<|>zn)(n:Loc X.env.scope x<|>zb)(o:gs e (some^.Name x a) pos.line X.env=pure false<|>zn)
  (p:X.fn x=true\/X.env.scope.names.lookup x\.local<|>zb):DSt Z X b y (.Assign [.Name x a] e pos)^WR b m i j:=by
 refine(ck f l n g o p).imp ?_;intro D z H q;rfl';obtain⟨B,C,E,⟨G,F,S⟩,h,M⟩:=q;ac_rfl;exact S.ev m h λd c=>#[c.1,λv s I w x dv=>M.nx _ c.2 _ _ #[s,_,w.oW k dv]]
def qY(i:Nat){NC:List eg}{src:List^Option Nat}(q:X.calm=true)(r:X.N.Nodup)(c:bD X a)(w:dM a X.N src NC)(y:DI Z X k iter n)
  (z:∀j s H,DG Z (bK X a NC j s H) k g) (A:∀j s H,EC Z (bK X a NC j s H) f o) (C:∀j s H,DE Z (bK X a NC j s H) b te)
  (F:gs (.ListComp b [#[k,iter,f,0]] a pos) (some^.Name x l) m.line X.env=pure true<|>zn) (I:md.getD i 0=0<|>zn) (J:X.N[i]?\x<|>zn) (L:Loc X.env.scope x<|>zb)
  (O:X.fn x=true\/X.env.scope.names.lookup x\.local<|>zb)
  (P:(∀x,ey iter X.env x=pure x)<|>za):DSt Z X md rn (.Assign [.Name x l] (.ListComp b [#[k,iter,f,0]] a pos) m)^WR md false i^Yg n g o te src:=by
 refine(nz q r J L c w y z A C F O P).imp ?_;intro D Q H R;rfl';obtain⟨B,u,E,⟨G,fp,S⟩,h,M⟩:=R;ac_rfl;refine Mg Q H _ (S.ev false h λd p=>#[p.1,λv Y H' e x dv=>M.nx _ p.2 _ _ #[Y,_,e.oW I dv]])
end
end L2
namespace L2
open PySem PySem.Spec PyProof.Rows
section
variable {Z:DC} {X:Cx} {B:Bs} {md:List Nat} {rn:Nat} {ρ:DN} {σ:St} {H G:Hp} {fp:Nat->List Addr}
def Md(Z:DC)(a:List Nat)(g:ft):TG:=λv f H Q=>∃(B:Bs)(b:DN)(d:D)(P:DN->Prop)(G:Hp)(h:Nat->List Addr),SIx Z B a b f H G h/\Dv Z G v d/\g d b P/\∀c,P c->∀e i,SIx Z B a c e H G i->Q e H
def Rq(Z:DC)(a:List Nat)(g:oK):Cb:=λf h H Q=>∃(B:Bs)(b:DN)(c:List D)(P:DN->Prop)(G:Hp)(i:Nat->List Addr),SIx Z B a b h H G i/\DvAll Z G f c/\g c b P/\∀d,P d->∀e j,SIx Z B a d e H G j->Q e H
def MO(Z:DC)(X:Cx)(a:List Nat)(e:fz)(g:ft):Prop:=PG X e^Md Z a g
def LL(Z:DC)(X:Cx)(a:List Nat)(b:List fz)(g:oK):Prop:=EH X b^Rq Z a g
def aN(i:Nat)(a:X.N.Nodup)(b:c.getD i 0=0<|>zn)(e:X.N[i]?\x<|>zn)(f:Loc X.env.scope x<|>zb)(g:X.fn x=true\/X.env.scope.names.lookup x\.local<|>zb):MO Z X c (.Name x pos)^kH i:=by
 refine(cH a e f g).imp λv l H Q j=>?_;rfl';let⟨B,n,d,P,G,o,S,dv,h,q⟩:=j;ac_rfl;exact q _ h _ _^S.oW b dv
def cW:LL Z X md [] Jw:=by
 refine nv.imp λv c H Q a=>?_;rfl';obtain⟨B,e,f,P,G,g,S,dv,⟨h,p⟩,q⟩:=a;subst h;cases dv;ac_rfl;exact#[rfl,q _ p _ _ S]
def aR(d:MO Z X md e g)(f:LL Z X md b c)(i:(gl (e::b) X.env).map (·.2)=jq e X.env::(gl b X.env).map (·.2)<|>zn):LL Z X md (e::b)^zE g c:=by
 refine(f9 d f i).imp ?_;intro v t H Q j;rfl';let⟨B,l,w,P,G,m,S,dv,h,q⟩:=j;ac_rfl;cases dv with
 |nil=>exact h.elim
 |cons a n=>exact#[_,_,rfl,B,l,_,_,G,m,S,a,h,λo p x r s=>#[B,o,_,P,G,r,s,n,p,q]]
def fS(n:Nat)(e:X.calm=true)(h:LL Z X md b c)(f:(gl b X.env).length=n<|>zn)(g:(gl b X.env).findIdx? (·.1)=none<|>zn):MO Z X md (.Tuple b k pos)^Jx n c:=by
 refine(rN e h f g).imp ?_;rintro v o H Q ⟨B,i,d,P,G,j,S,dv,h,q⟩;cases dv<;>first|exact h.elim|skip
 rename_i a l p m b
 exact#[a,l,rfl,fW.of^S.ex.sub _ _ m,by rw[b.length];exact h.1,B,i,_,P,G,j,S,b,h.2,q]
def aaW(b:List Nat)(c:bb)(g:ft):eG:=λE a=>c (cX b a) λd=>g d a E.nx
def EY(f:DE Z X e b)(i:MO Z X md a g)(j:js [a] e pos.line X.env=pure false<|>zn)(hw:jt [a] e X.env=pure none<|>zn)
  (k:(gl [a] X.env).map (·.2)= [jq a X.env]<|>zn):DSt Z X md rn (.Assign [a] e pos)^aaW md b g:=by
 refine(rP f i j hw k).imp ?_;intro D u H l;rfl';obtain⟨B,n,E,⟨G,o,S⟩,h,M⟩:=l;ac_rfl;exact S.ev false h λd p=>#[trivial,λv c y q x dv=>#[B,n,d,E.nx,c,o,q,dv,p,λz r A s t=>M.nx _ r _ _ #[c,s,t]]]
def kj(g:ft)(a:eG)(E:gf):List D->DN->Prop
 | [],b=>E.nx b
 |x::c,b=>g x b λd=>a {nx:=kj g a E c,ct:=kj g a E c,bk:=E.nx,rt:=E.rt,xc:=E.xc} d
def aaY(b:List Nat)(m:Bool)(c:kY)(g:ft)(d:eG):eG:=λE a=>c (Lo b m a) λe=>kj g d E e a
def DJ(S:SIx Z B md h c H G fp)(O:C1 Z G J k)(P:kj g r E k h)(M:Meets Z X B md rn E q):
  ∃W:Nat->Nat->St->Hp->Prop,(∃m,W 0 m c H)/\∀i m c H,W i m c H->
   (J.stop i H/\q.nx c H)\/(J.go i H/\∃N:St->Hp->Prop,(∀j a,N j a->∃F,F<m/\W (i+1) F j a)/\∀x a,J.yld i H x a->Md Z md g x c a λI v=>n4 Z X md rn r {q with nx:=N,ct:=N,bk:=q.nx} I v):=by
 let p:Bs:={B with Gf:=G}
 have back:∀h c H,SI Z p md h c H->SI Z B md h c H:=λh c H #[s,t,f]=>#[s,t,#[f.ex,S.fl.trans f.fl,f.len,f.at_,f.nd,f.ap,f.nw]];have Q:SIx Z p md h c H G fp:=#[S.ex, .refl _,S.len,S.at_,S.nd,S.ap,S.nw];refine#[λi m c H=>m=k.length-i/\i<=k.length/\∃h,SI Z p md h c H/\kj g r E (k.drop i) h,#[_,rfl,eB _,h,#[G,fp,Q],P],?_];intro i m I v R;rfl';obtain⟨rfl,hi,Y,⟨s,t,f⟩,u⟩:=R;obtain⟨go,stop,yld⟩:=O s v f.fl f.ex.sub i;ac_rfl
 by_cases z:i<k.length
 .refine .inr #[go z,λj a=>∃l,SI Z p md l j a/\kj g r E (k.drop (i+1)) l,λj a n=>#[k.length-(i+1),(),rfl,z,n],λx a y=>?_]
  rfl';obtain⟨L,d,x3,JN,dv⟩:=yld x a z y;rw[m6 JN] at u;ac_rfl;refine#[p,Y,d,_,L,t,f.grow x3,dv,u,λA h4 fg C S4=>?_];exact#[p,A,_,#[L,C,S4],h4,#[λl o j a b=>#[l,b,o],M.rt,λl o j a b=>M.nx _ o _ _^back _ _ _ b,λl o j a b=>#[l,b,o],λl d o j a G' tG a' b tw=>M.xc l d o j a G' tG a' #[b.ex,S.fl.trans b.fl,b.len,b.at_,b.nd,b.ap,b.nw] tw]]
 .have e:k.drop i= []:=yV ()
  rw[e] at u;exact .inl #[stop (),M.nx _ u _ _^back _ _ _ #[s,t,f]]
variable {tg iter:Expr} {body:List Stmt} {wi:kY} {g:ft} {tb:eG} {pos:Pos}
def dO(a:X.calm=true)(b:PassesOwn (d5 X.prog X.w) X.A X.env X.xe)(c:DI Z X tg iter wi)(d:MO Z X md tg g)(e:pj Z X md rn body tb)
  (f:(∀x,ey iter X.env x=pure x)<|>za):DSt Z X md rn (.For tg iter body [] pos)^aaY md false wi g tb:=by
 refine(kO b a c d e f).imp ?_;intro D n H i;rfl';obtain⟨B,p,E,⟨G,q,S⟩,h,M⟩:=i;ac_rfl;exact#[G,_,_,S.ex.sub,S.uO,h,λr k J s t l m=>DJ (S.grow l) m k M]
variable {a b e:Expr} {ta te:bb} {t:iE}
def LR(c:dU)(i:eG):eG:=λE d=>∃W:Nat->DN->Prop,(∃m,W m d)/\∀m d,W m d->c d λb=>if b=true then i {nx:=λh=>∃f,f<m/\W f h,ct:=λh=>∃f,f<m/\W f h,bk:=E.nx,rt:=E.rt,xc:=E.xc} d else E.nx d
def wY(z:PassesOwn (d5 X.prog X.w) X.A X.env X.xe)(C:DT Z X c tc)(l:pj Z X md rn body tb):DSt Z X md rn (.While c body [] pos)^LR tc tb:=by
 refine(Ed z C l).imp ?_;intro D s H p;rfl';obtain⟨B,n,E,S,⟨W,⟨m0,I⟩,h⟩,M⟩:=p;ac_rfl;refine#[λm s H=>∃n,SI Z B md n s H/\W m n,#[m0,n,S,I],?_];intro m O P p;rfl';obtain⟨u,⟨v,x,J⟩,L⟩:=p;ac_rfl;refine J.evT (h m u L) λb l i y=>?_;cases b with
 |false=>exact cO^M.nx _ (l) _ _ #[v,x,y]
 |true=>
  refine dD #[λo i=>∃d f,f<m/\SI Z B md d o i/\W f d,λo i #[d,f,j,k,N]=>#[f,j,d,k,N],B,u,_,#[v,x,y],(l),?_];exact#[λd #[f,j,k] o i r=>#[d,f,j,r,k],M.rt,M.nx,λd #[f,j,k] o i r=>#[d,f,j,r,k],M.xc]
abbrev GH:=DN->(List D->Prop)->Prop
def Kk(Z:DC)(n:Nat)(t:GH):TE:=λj H Q=>∃(G:Hp)(h:DN)(P:List D->Prop),aC G H/\eJ Z G j h/\t h P/\∀i,P i->∀v f d c,Ext G H d c->Own Z d c n v (.lst i) f->f.Nodup->(∀b∈f,H b=none/\c b≠none/\d b=none)->Q v c
def DF(Z:DC)(X:Cx)(n:Nat)(e:fz)(t:GH):Prop:=PE X e^Kk Z n t
def Ext.side(x:Ext G H d c)(f:c p=none):Ext G H d^upd c p o:=
 #[x.gg,λb u e=>by rw[ag^ao e^x.sub.free f];exact x.sub _ _ e,x.hh.trans^aA f _,x.off]
def Sd(x:Ext G H d f)(i:f p=none)(dv:DvAll Z d c h):
  Own Z d (upd f p^.lst c) 1 (.ref p) (.lst h) [p]/\([p]:List Addr).Nodup/\∀b∈([p]:List Addr),H b=none/\(upd f p^.lst c) b≠none/\d b=none:=by
 refine#[.inl #[p,c,h,[],rfl,rfl,af,rfl,dv.own],by simp,λb j=>?_]
 have:b=p:=by simpa using j
 subst this;exact#[x.hh.free i,(af▸λz=>nomatch z),x.sub.free i]
def abj(t:iE):GH:=λd P=>t d λc=>c.length<=sizeLine/\P c
def qU(h:DA Z X c t):DF Z X 1 (.List c pos)^abj t:=by
 refine(gn h).imp ?_;intro v H Q j;rfl';let⟨G,l,P,s,e,h,q⟩:=j;ac_rfl;exists G,l,_,s,e,h;rintro x ⟨m,n⟩ y z A d f;refine#[by rw[f.length];exact m,λp i=>?_]
 let⟨o,r,u⟩:=Sd d i f;exact q _ n _ _ _ _ (d.side i) o r u
def fLC(d:kY)(g:ft)(f:dU)(h:bb)(src:List^Option Nat):GH:=λc P=>d c λi=>lcW g f h i (Br src c) [] λ_ out=>P out
def Rp:∀u H Q,Kk Z 1 (fLC wi g r te src) u H Q->Wh (tO Z wi) (qc Z g) (liftT Z r) (dX Z te) src u H Q:=by
 intro u H Q O;rfl';let⟨G,S,P,s,w,h,q⟩:=O;ac_rfl;refine#[G,S,_,s,w,h,λf T J C Y d E j x=>?_];refine#[λi m y k=>m=f.length-i/\i<=f.length/\∃o acc,CS Z C Y j o acc y k/\lcW g r te (f.drop i) o acc λ_ out=>P out,#[_,rfl,eB _,_,[], .begin d.sub x^(w.mono d.gg).src src,T],?_];rintro i m y k ⟨rfl,hi,o,acc,c,A⟩
 by_cases F:i<f.length
 .obtain⟨a,l⟩:=DZ x C E i o acc y k c (λ_ s=>s) F A
  exact .inr #[a,_,λay H' n=>#[f.length-(i+1),(),rfl,F,n],l]
 .have e:f.drop i= []:=yV ()
  rfl';rw[e] at A;let⟨I,t,L,M,B,off,X,N,bN,w⟩:=c;ac_rfl;refine .inl #[(E I k L M i).2.1 (),q _ A (.ref j) [j] I k #[d.gg.trans L,M,d.hh.trans B,λb p hg=>off b (fI d.hh p)^d.off b p hg] (.inl #[j,t,acc,[],rfl,rfl,N,rfl,bN.own]) (by simp) λb p=>?_]
  have:b=j:=by simpa using p
  subst this;exact#[d.hh.free x,(by rw[N];exact λz=>nomatch z),X]
variable {elt:fz} {ifs:List fz} {scope:Scope} {NC:List eg} {src:List^Option Nat} {tt:dU}
def WQ(d:List Nat)(i:Nat)(t:GH):eG:=λE c=>t (cX d c) λf=>E.nx^c.set i^some^.lst f
def D7{t:GH}(p:md.getD i 0=n)(S:SIx Z B md ρ σ H G fp)(h:t (cX md ρ) λl=>E.nx^ρ.set i^some^.lst l)(M:Meets Z X B md rn E k):Kk Z n t σ H λv m=>k.nx (σ.set i^some v) m:=by
 refine#[G,_,_,S.ex.sub,S.uO,h,λl q v f r m x o s d=>?_];refine M.nx _ q _ _ #[r,_,(S.grow x).S0 p o s (λb c=>#[S.ex.hh.free (d b c).1,(d b c).2]) λb c j _ u=>(S.nw j b u).2.1 (d b c).1]
def qX(i:Nat){t:GH}(f:X.N.Nodup)(j:DF Z X n e t)(k:d.getD i 0=n<|>zn)(l:X.N[i]?\x<|>zn)(m:Loc X.env.scope x<|>zb)(o:gs e (some^.Name x c) pos.line X.env=pure false<|>zn)
  (p:X.fn x=true\/X.env.scope.names.lookup x\.local<|>zb):DSt Z X d s (.Assign [.Name x c] e pos)^WQ d i t:=by
 refine(ck f l m j o p).imp ?_;intro D u H q;rfl';obtain⟨B,w,E,⟨G,y,S⟩,h,M⟩:=q;ac_rfl;exact D7 k S h M
def Nb(i:Nat)(k:X.calm=true)(l:X.N.Nodup)(c:bD X scope)(m:dM scope X.N src NC)(n:DI Z X tg iter wi)
  (o:∀d s H,DG Z (bK X scope NC d s H) tg g) (p:∀d s H,EC Z (bK X scope NC d s H) ifs tt) (q:∀d s H,DE Z (bK X scope NC d s H) elt te)
  (r:gs (.ListComp elt [#[tg,iter,ifs,0]] scope pos) (some^.Name x f) j.line X.env=pure true<|>zn) (u:md.getD i 0=1<|>zn) (v:X.N[i]?\x<|>zn) (w:Loc X.env.scope x<|>zb)
  (y:X.fn x=true\/X.env.scope.names.lookup x\.local<|>zb)
  (z:(∀x,ey iter X.env x=pure x)<|>za):DSt Z X md rn (.Assign [.Name x f] (.ListComp elt [#[tg,iter,ifs,0]] scope pos) j)^WQ md i^fLC wi g tt te src:=by
 refine(nz k l v w c m n o p q r y z).imp ?_;intro D A H C;rfl';obtain⟨B,J,E,⟨G,L,S⟩,h,M⟩:=C;ac_rfl;exact Rp A H _^D7 u S h M
end
section
variable {Z:DC} {X:Cx} {B:Bs} {md:List Nat} {rn:Nat} {ρ:DN} {σ:St} {H G:Hp} {fp:Nat->List Addr} {a e k o:Expr} {ta te tk tp:bb} {pos apos aY p2:Pos}
def SIx.mut{b:Addr}(S:SIx Z B md ρ σ H G fp)(r:σ[i]?\(some v))(n:b∈fp i)(o:Own Z G (upd H b c) (md.getD i 0) v m^fp i):SIx Z B md (ρ.set i^some m) σ (upd H b c) G fp where
 ex:=by
  let⟨d,p,f⟩:=S.nw i b n;exact#[S.ex.gg,λx u e=>by rw[ag^ao e f];exact S.ex.sub _ _ e,λx u e=>by rw[ag^ao e d];exact S.ex.hh _ _ e,S.ex.off]
 fl:=S.fl
 len:=by rw[iU];exact S.len
 at_:=λj w h=>by
  by_cases z:i=j
  .subst z
   by_cases g:i<ρ.length
   .rw[oZ g] at h
    cases Fk h;exact#[v,r,o]
   .rw[EA^lQ g,fJ^lQ g] at h;cases h
  .rw[qO z] at h
   let⟨u,s,t⟩:=S.at_ j w h;exact#[u,s,t.keep (.refl _) λx l=>ag λq=>S.ap i j b z n (q▸l)]
 nd:=S.nd
 ap:=S.ap
 nw:=λj x l=>by
  let⟨d,p,f⟩:=S.nw j x l;refine#[d,?_,f]
  by_cases z:x=b
  .rw[z,af];exact λq=>nomatch q
  .rw[ag z];exact p
theorem SIx.one{i:Nat}{d:D}(S:SIx Z B md ρ σ H G fp)(j:md.getD i 0=1)(h:ρ[i]?\(some d)):∃l b c,d= .lst c/\σ[i]?\(some^.ref l)/\H l\(.lst b)/\DvAll Z G b c/\
  ∀f g,DvAll Z G f g->SIx Z B md (ρ.set i^some^.lst g) σ (upd H l^.lst f) G fp:=by
 rfl';let⟨v,m,o⟩:=S.at_ i d h;rw[j] at o;let⟨l,b,c,u,rfl,rfl,q,n,r⟩:=o.one;let⟨dv,rfl⟩:=r.flat;ac_rfl;refine#[l,b,c,rfl,m,q,dv,λf g s=>S.mut m (by rw[n];simp) ?_]
 rw[j,n];exact .inl #[l,f,g,[],rfl,rfl,af,rfl,s.own]
def ty_list{K:ad}{l:Addr}{b:List V}(h:H l\(.lst b)):Wq K "list" (.ref l) H:= .inl #[rfl,_,aK.of h]
def WJ(f:List Nat)(m:Bool)(i:Nat)(g:bb):eG:=λE b=>∃c,b[i]?\(some^.lst c)/\g (Lo f m b) λd=>zG m d/\c.length<sizeLine/\E.nx^b.set i^some^.lst (c++ [d])
def qW(m:Bool)(i:Nat)(t:DE Z X e te)(g:md.getD i 0=1<|>zn)(u:X.N[i]?\x<|>zn)(w:Cc X.env.scope x<|>zb)(f:(x==("__debug__":eg))=false<|>zm)(y:(x==("__classdict__":eg))=false<|>zm)
  (z:gt (.Name x b) "append" X.env^f7 (.Name x b) X.env=f7 (.Name x b) X.env<|>zn)
  (A:((gd aY^d4 [e] X.env).all (λx=>!x.1)&&(im aY^g6 [] X.env).all (λx=>x.1.isSome)&&decide (([e]:List fz).length+([]:List ix).length+(if ([]:List ix).isEmpty then 0 else 1)<30))=true<|>zn)
  (C:(apos.endLine==aY.line)=true<|>zn) (j:d4 [e] X.env=(false,f7 e X.env)::d4 [] X.env<|>zn) (F:(gd aY^d4 [] X.env).any (·.1)=false<|>zn)
  (I:gs (.Call (.Attribute (.Name x b) "append" apos) [e] [] aY) none pos.line X.env=pure false<|>zn):
  DSt Z X md rn (.Expr (.Call (.Attribute (.Name x b) "append" apos) [e] [] aY) pos)^WJ md m i te:=by
 refine(dY (i9 KB ad6 ad7 lF (pv i u w f y) (ah t aB j) z A C j F) I).imp ?_;intro D o H J;rfl';obtain⟨B,ρ,E,⟨G,L,S⟩,⟨ds,p,h⟩,M⟩:=J;ac_rfl;rfl';let⟨l,xs,c,n,q,O,K⟩:=S.one g p;ac_rfl;refine#[_,q,ty_list O,S.ev m h λd f=>#[f.1,λv P H' Q x dv=>?_]];rfl';let⟨c,R,T⟩:=f;let⟨l',Y,Jz,a,r,k,s,put⟩:=Q.one g p;cases a;ac_rfl;rw[q] at r;cases r;exact#[l,Y,v,rfl,rfl,k,by rw[s.length];exact R,M.nx _ T _ _ #[P,L,put _ _^s.snoc dv]]
def Ue(f:List Nat)(m:Bool)(i:Nat)(g h:bb):eG:=λE b=>h (Lo f m b) λd=>zG m d/\∃c,b[i]?\(some^.lst c)/\g b λl=>∃k j,l= .int k/\pB c.length k\j/\E.nx^b.set i^some^.lst^c.set j d
def Dh(m:Bool)(i:Nat)(z:DE Z X k tk)(A:DE Z X e te)(r:md.getD i 0=1<|>zn)(C:X.N[i]?\x<|>zn)(F:Cc X.env.scope x<|>zb)(g:(x==("__debug__":eg))=false<|>zm)(I:(x==("__classdict__":eg))=false<|>zm)
  (J:(∀v,jq (.Subscript (.Name x b) k c) X.env v=(do
   let n <-gP [v]^f7 (.Name x b) X.env
   let q <-gP [v,n] (f7 k X.env)
   ie c
   gP [v,n,q] (setItem n q v)
   release [v,n,q] []))<|>za)
  (L:js [.Subscript (.Name x b) k c] e pos.line X.env=pure false<|>zn) (hw:jt [.Subscript (.Name x b) k c] e X.env=pure none<|>zn)
  (p:(gl [.Subscript (.Name x b) k c] X.env).map (·.2)= [jq (.Subscript (.Name x b) k c) X.env]<|>zn):DSt Z X md rn (.Assign [.Subscript (.Name x b) k c] e pos)^Ue md m i tk te:=by
 refine(rP A (FP (pv i C F g I) z set_list J) L hw p).imp ?_;intro D σ H O;rfl';obtain⟨B,ρ,E,⟨G,P,S⟩,h,M⟩:=O;ac_rfl;refine S.ev m h λd g=>#[g.1,λv G' H' t x dv=>?_];rfl';obtain⟨_,ds,p,h⟩:=g;obtain⟨l,xs,_,_,u,e3,_⟩:=t.one r p;ac_rfl;refine#[_,u,t.ev true h ?_];rintro _ ⟨k,j,rfl,Q,R⟩;refine#[rfl,λv1 T H1 Y a o=>?_];rfl';cases o.ofInt;obtain⟨l',CW,Jz,e1,w,Yv,y,put⟩:=Y.one r p;cases e1;ac_rfl;rw[u] at w;cases w;exact#[l,CW,k,j,rfl,rfl,Yv,by rw[y.length];exact Q,M.nx _ R _ _ #[T,P,put _ _^y.set (dv.mono a.gg) j]]
def aa8(f:List Nat)(i j:Nat):eG:=λE b=>∃c d,b[j]?\(some^.lst (c++ [d]))/\E.nx^(b.set j^some^.lst c).set i^some d
def Ur(i j:Nat)(t:X.N.Nodup)(u:f.getD i 0=0<|>zn)(w:f.getD j 0=1<|>zn)(z:X.N[i]?\x<|>zn)(A:Loc X.env.scope x<|>zb)
  (C:X.N[j]?\y<|>zn) (I:Cc X.env.scope y<|>zb) (J:(y==("__debug__":eg))=false<|>zm) (L:(y==("__classdict__":eg))=false<|>zm)
  (O:gt (.Name y py) "pop" X.env^f7 (.Name y py) X.env=f7 (.Name y py) X.env<|>zn) (P:(b.endLine==q.line)=true<|>zn)
  (Q:gs (.Call (.Attribute (.Name y py) "pop" b) [] [] q) (some^.Name x p) pos.line X.env=pure false<|>zn)
  (R:X.fn x=true\/X.env.scope.names.lookup x\.local<|>zb):DSt Z X f rn (.Assign [.Name x p] (.Call (.Attribute (.Name y py) "pop" b) [] [] q) pos)^aa8 f i j:=by
 refine(ck t z A (Vx KB PySem.F.slot_list_pop PySem.F.type_list_pop Vc (pv j C I J L) O P) Q R).imp ?_;intro D σ H T;rfl';obtain⟨B,ρ,E,⟨G,fp,S⟩,⟨m,d,a,h⟩,M⟩:=T;ac_rfl;rfl';let⟨l,c,Jz,e,k,r,n,put⟩:=S.one w a;cases e;have s:c.length=m.length+1:=by rw[n.length];simp
 let⟨v,o,dv⟩:=n.get (i:=c.length-1) (d:=d)^by rw[s];simp
 ac_rfl;refine#[_,k,ty_list r,l,c,v,rfl,rfl,r,o,M.nx _ h _ _ #[G,_,(put c.dropLast m ?_).oW u dv]]
 have:=n.take m.length
 rw[List.take_left'] at this
 .rw[List.dropLast_eq_take,s];exact this
 .rfl
def SIx.VT(S:SIx Z B md ρ σ H G fp)(h:ρ[j]?\(some d)):∃v,σ[j]?\(some v)/\Dv Z (plus G H λb=>b∈fp j) v d/\SIx Z B md (ρ.set j none) σ H (plus G H λb=>b∈fp j) (λk=>if k=j then[] else fp k):=by
 have s:=S.ex.sub;let⟨v,m,o⟩:=S.at_ j d h;refine#[v,m,o.dv (iP s) λb g u e=>by rw[jQ g];exact e,?_]
 refine#[#[S.ex.gg.trans^iP s,rO s,S.ex.hh,λb g n=>?_],S.fl.trans^iP s,by rw[iU];exact S.len,λk c f=>?_,λk=>by split;exact iV;exact S.nd k,λk p b ne f i=>?_,λk b g=>?_]
 .rw[gX^λz=>g (S.nw j b z).1];exact S.ex.off b g n
 .by_cases z:j=k
  .subst z
   by_cases l:j<ρ.length
   .rw[oZ l] at f;cases f
   .rw[EA^lQ l,fJ^lQ l] at f;cases f
  .rw[qO z] at f
   let⟨u,q,r⟩:=S.at_ k c f;exact#[u,q,by rw[mo^Ne.symm z];exact r.keep (iP s) λ_ _=>rfl]
 .split at f
  .cases f
  .split at i
   .cases i
   .exact S.ap k p b ne f i
 .split at g
  .cases g
  .next z=>
   let⟨t,x,y⟩:=S.nw k b g;exact#[t,x,by rw[gX^λw=>S.ap k j b z g w];exact y]
end
structure aaG (mg:Str->Option Value):Prop where
 len:mg "len"=none
 range:mg "range"=none
 max:mg "max"=none
 min:mg "min"=none
 enumerate:mg "enumerate"=none
 zip:mg "zip"=none
 sorted:mg "sorted"=none
 all:mg "all"=none
 isinstance:mg "isinstance"=none
 int:mg "int"=none
 bool:mg "bool"=none
 list:mg "list"=none
 tuple:mg "tuple"=none
 sum:mg "sum"=none
 reversed:mg "reversed"=none
def T7:bootBuiltins "min"\(.builtin "min"):=by decide+kernel
def Pd:bootBuiltins "bool"\(.type "bool"):=by decide+kernel
def T6:bootBuiltins "int"\(.type "int"):=by decide+kernel
def pL:bootBuiltins "list"\(.type "list"):=by decide+kernel
def k9:bootBuiltins "sorted"\(.builtin "sorted"):=by decide+kernel
def fu:bootBuiltins "len"\(.builtin "len"):=by decide+kernel
def M0:bootBuiltins "range"\(.type "range"):=by decide+kernel
section
variable {P:Program} {w:World} {K:ad} {mg:Str->Option Value} {base:Heap} {Z:DC}
noncomputable def oH(N:List Str)(a:List D):DN:=a.map some++b5 (N.length-a.length) none
def HP(Z:DC)(n:Nat)(g:fh):Sp:=λh H Q _=>∃(G:Hp)(e:List D)(P:D->Prop),aC G H/\DvAll Z G h e/\g e P/\∀d,P d->∀v f c a,Ext G H c a->Own Z c a n v d f->f.Nodup->(∀b∈f,H b=none/\a b≠none/\c b=none)->Q v a
def Own.pure(x:Ext G H c a)(o:Own Z c a n v d f)(i:∀b∈f,H b=none/\a b≠none/\c b=none):∃h,Ext G H h a/\Dv Z h v d:=by
 refine#[plus c a λb=>b∈f,#[x.gg.trans^iP x.sub,rO x.sub,x.hh,λb g j=>?_],o.dv (iP x.sub) λb g u e=>by rw[jQ g];exact e]
 rw[gX^λz=>g (i b z).1];exact x.off b g j
def spF:∀a H Q E,aU Z b a H Q E->HP Z n b a H Q E:=by
 intro a H Q E c;rfl';obtain⟨G,g,P,s,dv,h,q⟩:=c;ac_rfl;exact#[G,g,P,s,dv,h,λd i v f t j x o u k=>let #[l,m,p]:=o.pure x k;q d i v l j m p]
theorem Nj(l:Nat){x a:Str}{st:Stmt}{f:Addr}{o:FuncData}{N g:List Str}{k:Nat}{m:fh}(F:uG K x a st f o)(S:aH N g (aq st))(p:List Nat)(y:∀i,i<g.length->p.getD i 0=0)(len:∀c P,m c P->c.length=g.length)
  (B:∀(j:Value)(A:Around)(outer:List Env)(s:Shared)(H:Hp)(E:XK)(c:List D)(R:D->Prop),b8 k (A.deeper (envOfC a (aq st) s.heap.objs.size f j))->m c R->
   ∃t,pj Z (lh fM P w K mg base N a (aq st) f j A outer s H E).mJ p l (dB st) t/\t {nx:=λ_=>l=0/\R .aS,rt:=R} (oH N c)):FnOk P w K mg base fM (k+1) f o g (HP Z l m):=by
 refine F.ok S (λC H Q E h=>?_) (λj A outer s H C Q E I h=>?_)
 .obtain⟨G,c,R,s,dv,h,q⟩:=h
  rw[dv.length];exact len _ _ h
 rfl';obtain⟨G,c,R,L,dv,h,q⟩:=h;have n:=q;obtain⟨t,M,O⟩:=B j A outer s H E c R I h;have hl:=len _ _ h;ac_rfl;refine#[_,M,#[G,H,G],_,_,#[G,λ_=> [],?_],O,#[λρ r ay T #[X,fp,Y]=>q _ r.2 _ [] X T Y.ex (by rw[r.1];exact#[.aS,rfl]) iV (λb hb=>by cases hb),n,λ_ z=>z.elim,λ_ z=>z.elim,λ_ _ z=>z.elim]]
 refine#[.refl L, .refl _,by unfold oH start;simp[dv.length],λi d e=>?_,λ_=>iV,(λ_ _ _ _ z=>by cases z),(λ_ _ z=>by cases z)]
 unfold oH at e
 have u:i<c.length:=by
  apply FM;intro z;rw[jg (~~~lQ z),yU] at e
  split at e<;>cases e
 rw[iR (~~~u),cL] at e
 have lB:c[i]?\d:=by
  cases z:c[i]? with
  |none=>rw[z] at e;cases e
  |some d'=>rw[z] at e;cases e;rfl
 obtain⟨v,hv,tw⟩:=dv.get lB;refine#[v,?_,by rw[y i ()];exact#[tw,rfl]]
 unfold start;rw[iR (by simpa [dv.length] using u),cL,hv];rfl
def bx{x c:eg}{st:Stmt}{f:Addr}{m:ge}{N e:List eg}{k:Nat}{j:fh}(F:uG K x c st f m)(S:aH N e^aq st)(l:List Nat)(n:∀i,i<e.length->l.getD i 0=0)(len:∀d P,j d P->d.length=e.length)
  (o:∀(g:b_)(A:f5)(outer:List lz)(s:c_)(H:Hp)(E:XK)(d:List D)(R:D->Prop),b8 k^A.deeper^jW c (aq st) s.heap.objs.size f g->j d R->
   ∃t,pj Z (lh fM P w K mg base N c (aq st) f g A outer s H E).mJ l 0 (dB st) t/\t {nx:=λ_=>0=0/\R .aS,rt:=R}^oH N d):FnOk P w K mg base fM (k+1) f m e^aU Z j:=
 (Nj 0 F S l n len λg A outer s H E d R p h=>let #[t,a,b]:=o g A outer s H E d R p h;#[t,a,b]).imp spF
end
section
variable {Z:DC} {X:Cx} {a b c e o:Expr} {ta tb te:bb} {t:iE} {es:List Expr} {pos apos:Pos}
def aa4(f:bb):bb:=λg P=>f g λd=>match d with
 | .int i=>P^.int (-i)
 |_=>False
def Uj(g:DE Z X a ta):DE Z X (.UnaryOp .USub a pos)^aa4 ta:=by
 refine(aah Wr g).imp ?_;intro r H Q i;rfl';let⟨G,k,P,s,l,h,q⟩:=i;ac_rfl;refine#[G,k,_,s,l,h,λd f v m n p dv=>?_];cases dv<;>first|exact f.elim|skip
 exact#[_,rfl,q _ f _ m n p^.int _]
theorem pT:∀{d:List V}{f:List Int},DvAll Z G d^f.map D.int->d=f.map V.int
 |d,[],h=>by cases h;rfl
 |d,b::bs,h=>by
  cases h with
  |cons a g=>cases a;rw[pT g];rfl
def LN:fh:=λg P=>∃d:List Int,g= [.lst^d.map D.int]/\d.length<64/\∀f:List Int,f.Perm d->f.Pairwise (·<=·)->P^.lst^f.map D.int
def C7:cV X (.builtin "sorted")^j5 Z LN:=by
 refine Cf.imp ?_;rintro n H Q ⟨G,r,P,s,dv,⟨f,rfl,g,i⟩,q⟩;cases dv with
 |cons a j=>
  cases j;cases a with
  |lst h e=>
   refine#[_,f,rfl,aK.of (pT e▸s _ _ h),g,λp d k l m=>?_];exact q _ (i d l m) _ _ _ (.new s k)^.lst af^.ints d
noncomputable def pairD(k:Nat×Nat):D:= .tup [.int (k.1:Nat), .int (k.2:Nat)]
def T5:fh:=λg P=>∃d:List (Nat×Nat),g= [.lst^d.map pairD]/\d.length<=1000/\∀f:List (Nat×Nat),f.Perm d->f.Pairwise Wb.lexLe->P^.lst^f.map pairD
theorem Dm:∀{d:List V}{f:List (Nat×Nat)},DvAll Z G d^f.map pairD->∃L:List (Addr×(Nat×Nat)),d=L.map (λe=>V.ref e.1)/\L.map (·.2)=f/\se G L
 |d,[],h=>by cases h;exact#[[],rfl,rfl,λp g=>by cases g]
 |d,n::f,h=>by
  cases h with
  |cons a j=>
   let⟨L,k,l,m⟩:=Dm j;unfold pairD at a;cases a with
   | @tup p r x g e=>
    refine#[(p,n)::L,by rw[k];rfl,by rw[<-l];rfl,λq i=>?_]
    rcases b7.mp i with rfl|i
    .have:r=i8 n:=by
      cases e with
      |cons s u=>
       cases u with
       |cons v w=>cases s;cases v;cases w;rfl
     rw[<-this];exact g
    .exact m q i
theorem se.dv:∀{L:List (Addr×(Nat×Nat))},se G L->DvAll Z G (L.map λe=>V.ref e.1)^(L.map (·.2)).map pairD
 | [],_=> .nil
 |x::L,h=> .cons (.tup (h x (cF ..))^.cons (.int _)^.cons (.int _) .nil) (se.dv λp d=>h p^dS _ d)
def C8:cV X (.builtin "sorted")^j5 Z T5:=by
 refine Cg.imp ?_;rintro v H Q ⟨G,k,P,s,dv,⟨f,rfl,w,d⟩,q⟩;cases dv with
 |cons a l=>
  cases l;cases a with
  | @lst p y k h e=>
   let⟨L,rfl,g,i⟩:=Dm e;have z:L.length=f.length:=by rw[<-g];simp
   refine#[_,L,rfl,aK.of^s _ _ h,λp d=>s _ _^i p d,(),λp M j m1 m=>?_]
   have n:(M.map (·.2)).Perm f:=by rw[<-g];exact m1.map _
   have r:se (upd G p^.lst (M.map λe=>V.ref e.1)) M:=λx u=>aA (s.free j) _ _ _^i x^m1.mem_iff.mp u;exact q _ (d _ n m) _ _ _ (.new s j)^.lst af r.dv
def Ud(g h:bb):bb:=λf P=>g f λd=>∃l,d= .lst l/\h f λy=>jD y=true/\l.all jD=true/\∃(j:Nat)(z:D),l[j]?\z/\mj z y=true/\(∀(m:Nat) z,m<j->l[m]?\z->mj z y=false)/\P^.int (j:Nat)
theorem Df(E:DE Z X o ta)(F:DE Z X e tb)
  (I:gt o "index" X.env^f7 o X.env=f7 o X.env<|>zn)
  (J:((gd d^d4 [e] X.env).all (λx=>!x.1)&&(im d^g6 [] X.env).all (λx=>x.1.isSome)&&decide (([e]:List fz).length+([]:List ix).length+(if ([]:List ix).isEmpty then 0 else 1)<30))=true<|>zn)
  (L:(apos.endLine==d.line)=true<|>zn) (r:d4 [e] X.env=(false,f7 e X.env)::d4 [] X.env<|>zn) (M:(gd d^d4 [] X.env).any (·.1)=false<|>zn):
  DE Z X (.Call (.Attribute o "index" apos) [e] [] d)^Ud ta tb:=by
 refine(i9 KB adR adS rB E (ah F aB r) I J L r M).imp ?_;intro σ H Q N;rfl';let⟨G,A,P,s,B,h,q⟩:=N;ac_rfl;exists G,A,_,s,B,h;rintro _ ⟨l,rfl,R⟩ v S H1 f dv;cases dv with
 | @lst p T ds C e=>
  refine#[ty_list^f.sub _ _ C,S,A,_,f.sub,B.mono f.gg,R,λy Y u a b i k=>?_];rfl';let⟨c,t,j,z,h3,h4,h5,h6⟩:=Y;have n:=e.mono i.gg;let⟨w,hw,dw⟩:=n.get h3;ac_rfl;refine#[p,T,u,j,w,rfl,rfl,i.hh _ _^f.sub _ _ C,by rw[uP k];exact c,by rw[pW n];exact t,hw,by rw[E1 dw k];exact h4,λm z' hm hz=>?_,q _ h6 _ a b (f.trans i)^.int _]
  let⟨d',lB,tw⟩:=n.Qn hz;rw[E1 tw k];exact h5 m d' hm lB
end
structure LM (Z:DC):Prop where
 cl:zS Z.K Z.C
 nR:gO Z.K Z.C "rows"
section
variable {Z:DC} {X:Cx} {a b c e o:Expr} {ta tb te:bb} {t:iE} {es:List Expr} {pos apos:Pos}
def Yl(f:bb):bb:=λg P=>f g λd=>∃w,d= .gw w/\P^bz w
def uK(T:LM Z)(i:DE Z X o ta)(d:X.K=Z.K<|>zn)(j:gt o "rows" X.env^f7 o X.env=f7 o X.env<|>zn):DE Z X (.Attribute o "rows" apos)^Yl ta:=by
 refine(VA i j).imp ?_;intro B H Q k;rfl';let⟨G,m,P,s,n,h,q⟩:=k;ac_rfl;exists G,m,_,s,n,h;rintro _ ⟨w,rfl,r⟩ v u x f dv;cases dv with
 | @gw p y R w z A g F I=>exact#[p,Z.C,y,_, .ref R,rfl,f.sub _ _ z,by rw[d];exact T.cl,by rw[d];exact T.nR,rfl,q _ r _ u x f A]
def Jt(g:fh)(h:bb)(t:iE):bb:=λf P=>h f λd=>∃w,d= .gw w/\t f λi=>g (.gw w::i) P
def D3(y:([("rows",V.ref 0)]:List (Str×V)).lookup m=none):∀j H Q,dX Z (Jt i ta t) j H Q->Lg Z.C m (aU Z i) [] E0 (dX Z ta) (Fv Z t) j H Q:=by
 intro j H Q A;rfl';obtain⟨G,u,P,s,x,h,q⟩:=A;ac_rfl;exists G,u,_,s,x,h;rintro _ ⟨w,rfl,k⟩ v E c f dv;have l:=dv;cases dv with
 | @gw p F R w I e g o X=>
  refine#[p,F,_,rfl,f.sub _ _ I,?_,E,u,_,f.sub,x.mono f.gg,k,λds J L M N n O=>?_]
  .have S:(m==("rows":Str))=false:=by
    cases z:(m==("rows":Str)) with
    |false=>rfl
    |true=>simp[ca,z] at y
   simp[ca,S]
  .show aU Z i (V.ref p::(L++ [])) N Q E0
   rw[fe];exact#[M,_,P,n.sub, .cons (l.mono n.gg) O,J,λd k v T Y a r=>q d k v T Y ((f.trans n).trans a) r]
variable {sd:fh} {k:Nat} {f:Addr} {fd:FuncData} {ps:List Str} {m:Str}
def Hg(T:LM Z)(h:DE Z X o ta)(i:Meth Z.K Z.C m f)(F:FnOk X.prog X.w X.K X.mg X.base fM k f fd ps^aU Z sd)(j:b8 k X.A)(l:Binds X.K fd ps [])(n:DA Z X (e::es) t)(d:X.K=Z.K<|>zn)
  (p:([("rows",V.ref 0)]:List (eg×V)).lookup m=none<|>zm) (q:d4 (e::es) X.env=(false,f7 e X.env)::d4 es X.env<|>zn) (r:(gd pos^d4 es X.env).any (·.1)=false<|>zn)
  (s:f7 (.Call (.Attribute o m apos) (e::es) [] pos) X.env=(do
   let g <-f7 o X.env
   ie apos.atName
   let (f,first) <-gP [g] (km g m pl)
   callWith pos f first (gd pos^d4 (e::es) X.env)^im pos^g6 [] X.env)<|>zn):DE Z X (.Call (.Attribute o m apos) (e::es) [] pos)^Jt sd ta t:=
 (Sk (pl:=pl) h (by rw[d];exact T.cl) (by rw[d];exact i) F j l .nil cT n q r s).imp^D3 p
def jC(T:LM Z)(l:DE Z X o ta)(n:Meth Z.K Z.C m f)(F:FnOk X.prog X.w X.K X.mg X.base fM k f fd ps^aU Z sd)(r:b8 k X.A)(u:Binds X.K fd ps [])(i:X.K=Z.K<|>zn)
  (x:([("rows",V.ref 0)]:List (eg×V)).lookup m=none<|>zm)
  (y:f7 (.Call (.Attribute o m apos) [] [] pos) X.env=(do
   let j <-f7 o X.env
   ie apos.atName
   let (f,first) <-gP [j] (km j m pl)
   callWith pos f first (gd pos^d4 [] X.env)^im pos^g6 [] X.env)<|>zn):DE Z X (.Call (.Attribute o m apos) [] [] pos)^Jt sd ta l8:=
 (N9 (pl:=pl) l (by rw[i];exact T.cl) (by rw[i];exact n) F r u .nil cT y).imp λz H Q h=>by
  rfl';obtain⟨G,E,P,s,I,h,q⟩:=D3 x z H Q h;ac_rfl;refine#[G,E,P,s,I,h,λd J v L M N dv=>?_];rfl';obtain⟨p,O,fs,R,S,Y,a,aJ,P',b,c,e,t⟩:=q d J v L M N dv;ac_rfl;exact#[p,O,fs,R,S,Y,t _ e _ a _ (.refl b) .nil]
def Bo(Z:DC):Sp:=λi H Q _=>∃(p h:Addr)(v:V)(G:Hp)(w:List^List Nat),i= [.ref p,v]/\H p\(.ins Z.C h [])/\aC G H/\G p=none/\Dv Z G v^bz w/\Wb.Good w/\1<=w.length/\w.length<=14/\
 ∀(R:Addr)(d g:Hp),aC G d->aC d g->(∀b o,H b\o->b≠p->g b\o)->(∀b,H b≠none->G b=none->d b=none)->g p\(.ins Z.C h [("rows", .ref R)])->Dv Z d (.ref R)^bz w->Q .aS g
def Yh(t:iE):bb:=λd P=>t d λg=>∃w,g= [bz w]/\Wb.Good w/\1<=w.length/\w.length<=14/\P^.gw w
theorem PB(M:Mk Z.K Z.C f)(F:FnOk X.prog X.w X.K X.mg X.base fM k f fd ps^Bo Z)(L:b8 (k+1) X.A)(r:Gl X x)(N:X.mg x\(.ref Z.C))(l:Binds X.K fd ps [])
  (O:DA Z X (e::es) t) (S:X.K=Z.K<|>zn) (T:(x==("__debug__":eg))=false<|>zm) (Y:d4 (e::es) X.env=(false,f7 e X.env)::d4 es X.env<|>zn) (a:(gd pos^d4 es X.env).any (·.1)=false<|>zn):
  DE Z X (.Call (.Name x p) (e::es) [] pos)^Yh t:=by
 refine(Sj (by rw[S];exact M) F L r N l .nil cT O T Y a).imp ?_
 intro σ H Q c;rfl';let⟨G,ρ,P,s,en,h,q⟩:=c;ac_rfl;exists G,ρ,_,s,en,h;rintro _ ⟨w,rfl,g,B,h14,hp⟩ vs G1 H1 d u p n i lV ne;cases u with
 | @cons v _ _ _ dv u=>
  cases u;have uV:upd H1 n (.own p) p=none:=by rw[ag^Ne.symm ne];exact i
  have y:=(aA lV^.own p).trans^aA uV^.ins Z.C n [];refine#[p,n,v,G1,w,rfl,af,d.sub.trans y,d.sub.free i,dv,g,B,h14,λR E H2 g1 g2 kp off NH Ai=>#[rfl,?_]];have I:E p=none:=off p (by rw[af];exact λz=>nomatch z)^d.sub.free i
  refine q _ hp _ (upd E p^.ins Z.C n [("rows", .ref R)]) H2 #[(d.gg.trans g1).trans^aA I _,λb o e=>?_,λb o e=>?_,λb l r=>?_]^.gw af (Ai.mono^aA I _) g B h14
  .by_cases z:b=p
   .subst z;rw[af] at e;cases e;exact NH
   .rw[ag z] at e;exact g2 _ _ e
  .have J:=d.hh _ _ e
   exact kp b o (y _ _ J)^ao J i
  .have j:=fI d.hh l
   have nb:b≠p:=λz=>j^by rw[z];exact i
   rw[ag nb];exact off b (fI y j)^d.off b l r
end
section
variable {Z:DC} {X:Cx} {pos:Pos}
variable {tg iter elt:fz} {scope:Scope} {NC:List eg} {src:List^Option Nat} {wi:kY} {g:ft} {tf:GH} {md:List Nat} {rn:Nat}
end
abbrev gU:=inClass
structure EG (Z:DC) (m qual:Str) (st:Stmt) (ps:List Str) where
 f:Addr
 fd:FuncData
 F:uG Z.K m qual st f fd
 b:Binds Z.K fd ps []
 m:Meth Z.K Z.C m f
def wk(K:ad):Sp:=λc H Q _=>∃(a:Addr)(b:List Int),c= [.ref a]/\aK K H a^b.map V.int/\b.length<=63/\∀d,Q (.bl true) d
def F0:fh:=λb P=>∃a:List Int,b= [.qC a]/\a.length<=63/\P^.bl true
def U7{Z:DC}:∀b H Q E,wk Z.K b H Q E->aU Z F0 b H Q E:=by
 rintro b H Q E ⟨a,c,rfl,f,e,q⟩;exact#[H,[.qC c],λd=>d= .bl true, .refl _, .cons (.qC f e) .nil,#[c,rfl,e,rfl],λd g v i h x dv=>by subst g;cases dv;exact q h]
def aay(k:Nat){l:cM}{q:ee}{e:List eg}{o:(eg->Option b_)->Heap->Prop}{m:ei->Heap->Prop}{d:DefRec}{K:Params->ad}(H:3*k<150)(p:l.most\63)(r:d.params.defaults= [])
  (t:∀(w:ei)(h:Heap),m w h->(K w.params).In h)
  (F:∀(w:ei)(g:eg->Option b_)(i:Addr)(h:Heap),(K w.params).In h->h.Ns fD g->g d.name\(.ref i)->
   ∃j:ge,(∀(s:c_)(u:b_),BindsTo s j #[[u],[]] [("_law_script",u)])/\∀base:Heap,(K w.params).In base->base.Ns fD g->FnOk l.prog w (K w.params) g base fM k i j ["_law_script"]^wk^K w.params):
  d3 q e o m l.row.toRowW d [] (λf v=>dV f v):=
 L2.TH (n:=63) (k:=50) (x:="_law_script") (CX:=λ_=>fM) (sp:=λw=>wk^K w.params) p ∅ r #[rfl,∅,∅] t (λw g i h a b c=>by
  let⟨j,A,B⟩:=F w g i h a b c;exact#[j,A,λbase x y=>(B base x y).mono ()]) (λ_ _ a C E _ G=>#[a,C,rfl,G,E,λ_=>rfl]) λ_ _ _ _ _ z=>z
def fT{c:Bool}{A B:Prop}(a:c=true->A)(b:c=false->B):if c=true then A else B:=by
 cases c with
 |true=>exact dD^a rfl
 |false=>exact cO^b rfl
theorem vA{ρ:DN}(a:g->D)(p:g->Bool)(f:g->D):∀(d:List g)(c:DN)(acc:List D)(N:DN->List D->Prop),(∀y∈d,∀(Y:D->Prop)(q:Prop),(p y=true->Y^f y)->(p y=false->q)->j (ρ.set i^some^a y) λb=>if b=true then n (ρ.set i^some^a y) Y else q)->
  (∃o,c=ρ.set i o)->acc.length+d.length<=sizeLine->(∀c,N c (acc++(d.filter p).map f))->lcW (kH i) j n (d.map a) c acc N
 | [],c,acc,N,_,_,_,h=>by
  show N c acc;simpa using h c
 |y::d,c,acc,N,k,#[o,r],e,h=>by
  show j (c.set i^some^a y) _;rw[r,List.set_set];rw[cJ] at e;refine k y (cF ..) _ _ (λl=>#[(),?_])^λl=>?_
  .refine vA a p f d _ (acc++ [f y]) N (λz e=>k z^dS _ e) #[_,rfl] (by simp;lia) λm=>?_
   have:=h m
   rw[BS,l] at this;simpa using this
  .refine vA a p f d _ acc N (λz e=>k z^dS _ e) #[_,rfl] () λm=>?_
   have:=h m
   rw[BS,l] at this;simpa using this
def nZ{ρ:DN}(a:c->D)(f:c->D)(b:List c)(N:DN->List D->Prop)(j:∀y∈b,∀(Y:D->Prop),Y^f y->g (ρ.set i^some^a y) Y)(k:ρ[i]?\none)(l:b.length<=sizeLine)(h:∀d,N d^b.map f):lcW (kH i) mX g (b.map a) ρ [] N:=by
 refine vA (ρ:=ρ) a (λ_=>true) f b ρ [] N (λy m Y o n _=>?_) #[none,?_] (~~~l) λd=>by rw[List.filter_eq_self.mpr^λ_ _=>rfl,sY];exact h d
 .unfold mX
  dsimp only;rw[ir rfl];exact j y m Y^n rfl
 .obtain⟨p,e⟩:=cD.mp k
  rw[<-e,List.set_getElem_self]
theorem DD(I:Nat->DN->Prop):∀(b:List D)(k:Nat)(a:DN),I k a->(∀(j:Nat)(d:D)(a:DN),b[j]?\d->I (k+j) a->∀A:DN->Prop,(∀a,I (k+j+1) a->A a)->g d a λn=>m {nx:=A,ct:=A,bk:=E.nx,rt:=E.rt,xc:=E.xc} n)->
  (∀a,I (k+b.length) a->E.nx a)->kj g m E b a
 | [],k,a,c,e,f=>f a c
 |d::b,k,a,c,e,f=>by
  refine e 0 d a rfl c _ λo p=>?_
  exact DD I b (k+1) o p (λj q h r i A s=>by
   refine e (j+1) q h (~~~r) (by rw[show k+(j+1)=k+1+j by lia];exact i) A λl t=>s l ?_
   rw[show k+1+j+1=k+(j+1)+1 by lia];exact t)^λh i=>f h^by rw[cJ,show k+(b.length+1)=k+1+b.length by lia];exact i
def cw(I:Nat->DN->Prop)(e:I 0 a)(f:∀(j:Nat)(d:D)(a:DN),b[j]?\d->I j a->∀A:DN->Prop,(∀a,I (j+1) a->A a)->g d a λi=>c {nx:=A,ct:=A,bk:=E.nx,rt:=E.rt,xc:=E.xc} i)
  (k:∀a,I b.length a->E.nx a):kj g c E b a:=DD I b 0 a e (λj d a l h A m=>f j d a l (~~~h) A λn o=>m n^~~~o)^λa h=>k a^~~~h
def uA(I:Nat->DN->Prop)(m0:Nat)(g:I m0 a)(h:∀m a,I m a->c a λb=>if b=true then f {nx:=λe=>∃d,d<m/\I d e,ct:=λe=>∃d,d<m/\I d e,bk:=E.nx,rt:=E.rt,xc:=E.xc} a else E.nx a):LR c f E a:=#[I,#[m0,g],h]
section
variable {X:Cx} {elt t0 i0 t1 i1:fz} {f0 f1:List fz} {scope:Scope} {pos:jp} {wi cK:TI} {g g1:TG} {tt bY:TT} {te:TE} {src:List^Option Nat} {NC:List eg}
end
section
variable {Z:DC} {X:Cx} {md:List Nat} {rn:Nat} {elt t0 i0 t1 i1:fz} {f0 f1:List fz} {scope:Scope} {pos:jp} {wi cK:kY} {g g1:ft} {tt bY:dU} {te:bb} {src:List^Option Nat} {NC:List eg}
end
section
variable {Z:DC} {X:Cx} {md:List Nat} {rn:Nat} {e:Expr} {pos:Pos}
end
def lq{l:List D}{j:Nat}{d:D}(h:(c9 l)[j]?\d):∃x,l[j]?\x/\d= .tup [.int (j:Int),x]:=by
 unfold c9 at h;rw[List.getElem?_mapIdx] at h;cases e:l[j]? with
 |none=>rw[e] at h;cases h
 |some x=>rw[e] at h;cases h;exact#[x,rfl,rfl]
def gF(l:List D):(c9 l).length=l.length:=by unfold c9;simp
def dF{a b:Type}{f:a->b}{l:List a}{j:Nat}{y:b}(h:(l.map f)[j]?\y):∃x,l[j]?\x/\y=f x:=by
 rw[cL] at h;cases e:l[j]? with
 |none=>rw[e] at h;cases h
 |some x=>rw[e] at h;cases h;exact#[x,rfl,rfl]
def kR(r:List Nat):(r.map az).all jD=true:=by simp[az,jD]
def Aw{r:List Nat}{p:Nat}:inD (az p)^r.map az=decide (p∈r):=by
 unfold inD;rw[List.any_map]
 have:((λy=>mj y^az p)∘az)=λq:Nat=>decide (q=p):=by
  funext q
  simp[az,mj,Function.comp]
  by_cases z:q=p
  .simp[z]
  .have:¬(q:Int)=(p:Int):=()
   simp[z,this]
 rw[this]
 by_cases h:p∈r
 .rw[Gc h,BU];exact#[p,h,by simp]
 .rw[GE h]
  apply B4.mpr;intro z;rw[BU] at z;let⟨q,a,e⟩:=z
  exact h (by have:q=p:=by simpa using e
              rw[<-this];exact a)
def jA{p:Nat}(h:l[p]?\d):h8 l (p:Int)\d:=c8 h
def wA(h:p<w.length):(w.map aE)[p]?\(aE^Wb.row w p):=by
 rw[cL,Wb.qk h];rfl
section
variable {Z:DC} {X:Cx} {md:List Nat} {rn:Nat} {e:Expr} {te:bb} {pos:Pos}
end
def XR(h:A):mX a (λb=>if b=true then A else B):=by
 unfold mX;dsimp only;rw[ir rfl];exact h
theorem mm(I:DN->Prop)(c:m->D)(p:m->Bool)(f:m->D):∀(i:List m)(e:DN)(acc:List D)(N:DN->List D->Prop),(∀y∈i,∀e,I e->∀(Y:DN->D->Prop)(u:DN->Prop),(∀a,I a->p y=true->Y a^f y)->(∀a,I a->p y=false->u a)->g (c y) e λa=>k a λb=>if b=true then l a^Y a else u a)->
  I e->acc.length+i.length<=sizeLine->(∀e,I e->N e (acc++(i.filter p).map f))->lcW g k l (i.map c) e acc N
 | [],e,acc,N,_,n,_,h=>by
  show N e acc;simpa using h e n
 |y::i,e,acc,N,o,n,j,h=>by
  rw[cJ] at j;refine o y (cF ..) e n (λa d=>acc.length<sizeLine/\lcW g k l (i.map c) a (acc++ [d]) N) (λa=>lcW g k l (i.map c) a acc N) (λa q r=>#[(),?_])^λa q r=>?_
  .refine mm I c p f i _ (acc++ [f y]) N (λz j=>o z^dS _ j) q (by simp;lia) λs t=>?_
   have:=h s t
   rw[BS,r] at this;simpa using this
  .refine mm I c p f i _ acc N (λz j=>o z^dS _ j) q () λs t=>?_
   have:=h s t
   rw[BS,r] at this;simpa using this
def Xa(h:b.length=1):∃d,b= [d]:=by
 cases b with
 |nil=>cases h
 |cons a l=>
  cases l with
  |nil=>exact#[a,rfl]
  |cons _ _=>cases h
def Xb(h:b.length=2):∃e c,b= [e,c]:=by
 cases b with
 |nil=>cases h
 |cons a l=>
  let⟨c,rfl⟩:=Xa^Nat.succ.inj h;exact#[a,c,rfl]
def abV(h:b.length=3):∃f c d,b= [f,c,d]:=by
 cases b with
 |nil=>cases h
 |cons a l=>
  let⟨c,d,rfl⟩:=Xb^Nat.succ.inj h;exact#[a,c,d,rfl]
section
variable {Z:DC} {X:Cx}
end
def bD.nest(k:f.kind= .function)(a:∀x∈f.names,x.2= .local->f.names.lookup x.1\.local)(b:∀x∈f.names,x.2≠ .cell)
  (d:∀x∈f.names,x.2= .free->c.names.lookup x.1\.free):bD (bK X c NC g s H) f where
 kind:=k
 names:=a
 nocell:=b
 free:=λx i e=>by
  have h:(bK X c NC g s H).env.kindOf x.1=(c.names.lookup x.1).map λk=>if (k==NameKind.free&&X.env.scope.kind== .function&&X.env.kindOf x.1==some .cell) then NameKind.cell else k:=iC c.names x.1;rw[h,d x i e,uF]
  split
  .exact .inl rfl
  .exact .inr rfl
section
variable {Z:DC} {X:Cx} {e:Expr} {es:List Expr} {t:iE} {pos:Pos}
def aL{a:fh}{k j:Nat}{x:eg}{st:Stmt}{c:List eg}{p:jp}(d:bP X.K X.mg x st c)(F:FnOk X.prog X.w X.K X.mg X.base fM k d.f d.fd c^aU Z a)(g:b8 j X.A)(h:DA Z X (e::es) t)(i:Gl X x<|>zn)(l:k<=j<|>xx)
  (n:(x==("__debug__":eg))=false<|>zm) (o:d4 (e::es) X.env=(false,f7 e X.env)::d4 es X.env<|>zn) (q:(gd pos^d4 es X.env).any (·.1)=false<|>zn):
  DE Z X (.Call (.Name x p) (e::es) [] pos)^wQ a t:=Pz F (g.mono l) i d.m d.F.kp d.b h n o q
def uI(f:Scope)(e:X.env.scope=f<|>zn)(k:d.kind= .function<|>zn)(a:(∀x∈d.names,x.2= .local->d.names.lookup x.1\.local)<|>xz)(b:(∀x∈d.names,x.2≠ .cell)<|>xz)
  (c:(∀x∈d.names,x.2= .free->f.names.lookup x.1\.cell\/f.names.lookup x.1\.free)<|>xz):bD X d:=bD.of f e k a b c
def aaS{NC:List Str}(k:f.kind= .function<|>zn)(a:(∀x∈f.names,x.2= .local->f.names.lookup x.1\.local)<|>xz)(b:(∀x∈f.names,x.2≠ .cell)<|>xz)
  (d:(∀x∈f.names,x.2= .free->c.names.lookup x.1\.free)<|>xz):bD (bK X c NC g s H) f:=bD.nest k a b d
end
section
variable {K:ad} {h:Heap} {mg:Str->Option Value}
abbrev TZ(K:ad)(x:eg)(d:Addr):Prop:=ce K fD x\(some^.ref d)
abbrev Ca(K:ad)(x a:eg)(st:Stmt)(d:Addr)(b c:Option Addr)(e:Array^Option b_)(f kV g i j k:b_):Prop:=K.lookup d\#[f,b, .func^bv x a (ic st) (dB st) (aq st) .none kV g i c j k,e]
noncomputable def bP.of{x:eg}{st:Stmt}{e:List eg}{d:Addr}{o f:Option Addr}{p:Array^Option b_}{q kV r g n i:b_}(X:K.In h)(G:h.Ns fD mg)(a:TZ K x d)(l:Ca K x x st d o f p q kV r g n i)(c:bf K n x=true)(k:am K^.ref d=true)
  (b:∀(kV j g:b_)(f:Option Addr)(s i:b_)(m:List b_),m.length=e.length->li (bv x x (ic st) (dB st) (aq st) .none kV j g f s i) #[m,[]]=pure^e.zip m):bP K mg x st e:=
 #[d,_,nV l c k,(nV l c k).binds b,adv X G a]
noncomputable def EG.of{Z:DC}{m e:eg}{st:Stmt}{g:List eg}{d:Addr}{r i:Option Addr}{s:Array^Option b_}{t kV u j q n:b_}(a:ak Z.K (.ref Z.C) m\(some^.ref d))(f:bu Z.K^.ref d=true)(l:Ca Z.K m e st d r i s t kV u j q n)(c:bf Z.K q e=true)(k:am Z.K^.ref d=true)
  (b:∀(kV o j:b_)(i:Option Addr)(v n:b_)(p:List b_),p.length=g.length->li (bv m e (ic st) (dB st) (aq st) .none kV o j i v n) #[p,[]]=pure^g.zip p):EG Z m e st g:=
 #[d,_,nV l c k,(nV l c k).binds b,#[a,f,k]]
end
end L2
namespace Wb
noncomputable def fR(w:W):Nat:=(w.map cI).sum
theorem uM{r:List Nat}:∀{w:W}{p:Nat},p<w.length->fR^w.set p r+(row w p).length=fR w+r.length
 | [],_,h=>by simp at h
 |a::w,0,_=>by simp[fR,row];lia
 |a::w,p+1,h=>by
  have b:=uM (r:=r) (w:=w) (p:=p)^~~~h
  have e:row (a::w) (p+1)=row w p:=by simp[row]
  rw[e];simp only[fR,List.set_cons_succ,cY,List.sum_cons] at b ⊢;lia
def Na(w:W)(r:List Nat):fR (w++ [r])=fR w+r.length:=by simp[fR]
def M9(h:p<w.length):fR^leaf w p i=fR w+2:=by
 unfold leaf
 have:=uM (r:=ins (row w p) i w.length) h
 rw[Ax] at this;rw[Na];simp;lia
def Hh{w:W}{p i u j:Nat}(a:p<w.length)(c:u<w.length)(ne:u≠p):fR^mS w p i u j=fR w+2:=by
 unfold mS;have d:=uM (r:=ins (row w p) i u) a;have b:=uM (w:=w.set p^ins (row w p) i u) (r:=ins (row w u) j p) (p:=u)^~~~c
 rw[iw a,mo^Ne.symm ne] at b;rw[Ax] at d b;lia
def Oc{l c:List Nat}(h:l.Perm c):l.sum=c.sum:=by
 induction h with
 |nil=>rfl
 |cons x _ d=>simp[d]
 |swap x y l=>simp;lia
 |trans _ _ a b=>exact a.trans b
def wU(w:W):fR w=((aj w.length).map λp=>(row w p).length).sum:=by
 unfold fR
 congr 1
 refine List.ext_getElem (by simp) λi b c=>?_
 rw[BV,BV,aeX];have a:i<w.length:=by simpa using b
 have:=qk a
 rw[bA a] at this;rw[Fk this]
def PJ{ord:List Nat}(f:a.length=w.length)(d:ord.Perm^aj w.length)(g:∀p,p<w.length->(row a^ord.getD p 0).Perm ((row w p).map λx=>ord.getD x 0)):fR a=fR w:=by
 rw[wU a,f,wU w,<-Oc (d.map λp=>(row a p).length)]
 congr 1
 have b:ord.length=w.length:=by rw[d.length_eq,jx]
 refine List.ext_getElem (by simp[b]) λi j h=>?_
 rw[BV,BV,aeX];have c:i<w.length:=by simpa using h
 have e:ord.getD i 0=ord[i]'(by rw[b];exact c):=by rw[bO,bA^by rw[b];exact c];rfl
 have:=(g i c).length_eq
 rw[aI,e] at this;exact this
def jB(w:W):(aQ w).length=fR w:=by
 rw[wU];unfold aQ;rw[List.length_flatMap]
 congr 1
 apply yX;intro p _;rw[aI]
def bh(g:Good w):(aQ w).Nodup:=by
 unfold aQ cP;refine qh (λp _=>?_) ?_
 .rw[iA]
  exact(g.nod p).imp λne e=>ne^IR Prod.snd e
 .refine List.Pairwise.imp ?_ GA
  intro a b lt x c y d e;let⟨f,h,rfl⟩:=bR.mp c;let⟨f,h,rfl⟩:=bR.mp d
  have:=IR Prod.fst e
  simp at this;lia
def gK(w:W):fV (row w) w.length=(aQ w).filter λd=>decide (d.1<d.2):=by
 unfold fV aQ;rw[List.filter_flatMap]
 congr 1
 funext p
 rw[List.filter_map];rfl
def Lj(g:Good w):2*(fV (row w) w.length).length<=fR w:=by
 rw[gK,<-jB];have i:=List.length_eq_countP_add_countP (λd:Nat×Nat=>decide (d.1<d.2)) (l:=aQ w)
 have p:((aQ w).filter λd=>decide (d.1<d.2)).length<=((aQ w).filter λd=>decide (d.2<d.1)).length:=by
  have:=ba (l:=((aQ w).filter λd=>decide (d.1<d.2)).map λd=>(d.2,d.1)) (m:=(aQ w).filter λd=>decide (d.2<d.1)) ?_ ?_
  .rwa [aI] at this
  .unfold cP
   rw[iA];refine List.Pairwise.imp ?_^(bh g).filter _;intro a b ne e;have j:=IR Prod.fst e;have k:=IR Prod.snd e;exact ne^UV k j
  .intro x n
   let⟨d,o,rfl⟩:=bR.mp n;let⟨c,f⟩:=qR.mp o;refine qR.mpr #[aD.mpr^g.sym _ _^aD.mp c,?_];simpa using f
 have q:((aQ w).filter λd=>decide (d.2<d.1)).length<=(aQ w).countP λd=>!decide (d.1<d.2):=by
  rw[<-aeS];apply List.countP_mono_left;intro d _ h;simp at h ⊢;lia
 rw[aeS] at i
 have r:(aQ w).countP (λd=>!decide (d.1<d.2))=List.countP (λa=>decide ¬(decide (a.1<a.2)=true))^aQ w:=by
  congr 1
  funext d
  by_cases h:d.1<d.2<;>simp[h]
 lia
structure RI (w:W) (bs:List Bool) (ws ex:List Nat) (c:Nat):Prop where
 len:bs.length=w.length
 z:bs[0]?\true
 wt:∀x∈ws,bs[x]?\true
 cl:∀x,bs[x]?\true->x∈ws\/x∈ex\/∀q∈row w x,bs[q]?\true
 cnt:bs.count false+ws.length<=c
def RI.pop(h:RI w bs (b++ [p]) [] (c+1)):RI w bs b [p] c:=
 #[h.len,h.z,λx a=>h.wt x^fK _ a,λx a=>by
  rcases h.cl x a with q|q|q
  .rcases bF.mp q with q|q
   .exact .inl q
   .exact .inr^.inl q
  .cases q
  .exact .inr^.inr q,by have:=h.cnt;rw[dJ] at this;simp at this;lia]
def RI.push(h:RI w bs d f c)(i:bs[q]?\false):RI w (bs.set q true) (d++ [q]) f c:=by
 let⟨b,g⟩:=cD.mp i
 have up:∀x,bs[x]?\true->(bs.set q true)[x]?\true:=λx a=>by
  rw[pb]
  by_cases e:q=x
  .rw[ir e,ir b]
  .rw[mo e];exact a
 refine#[by rw[iU];exact h.len,up _ h.z,λx a=>?_,λx a=>?_,?_]
 .rcases bF.mp a with z|z
  .exact up _^h.wt x z
  .have:x=q:=by simpa using z
   rw[this,pb,ir rfl,ir b]
 .by_cases e:q=x
  .exact .inl^by rw[e];simp
  .rw[pb,mo e] at a
   rcases h.cl x a with z|z|z
   .exact .inl^fK _ z
   .exact .inr^.inl z
   .exact .inr (.inr λy j=>up _^z y j)
 .have k:=h.cnt
  have:0<bs.count false:=aeZ.mpr^by rw[<-g];exact iT b
  rw[aeT b,g,dJ];simp;lia
def RI.close(h:RI w bs a [p] c)(b:∀q∈row w p,bs[q]?\true):RI w bs a [] c:=
 #[h.len,h.z,h.wt,λx d=>by
  rcases h.cl x d with q|q|q
  .exact .inl q
  .have:x=p:=by simpa using q
   rw[this];exact .inr^.inr b
  .exact .inr^.inr q,h.cnt]
def RI.all(g:Good w)(h:RI w bs [] [] c):bs=b5 w.length true:=by
 have:=G9 g (S:=λx=>bs[x]?\true) h.z λp q b d=>by
  rcases h.cl p b with z|z|z
  .cases z
  .cases z
  .exact z q d
 refine ph λi=>?_
 by_cases a:i<w.length
 .rw[this i a,yU,ir a]
 .rw[fJ^by rw[h.len];lia,fJ^by simp;lia]
structure C2 (w:W):Prop where
 rng:∀p q,q∈row w p->q<w.length
 irr:∀p,p∉row w p
 nod:∀p,(row w p).Nodup
 sym:∀p q,q∈row w p->p∈row w q
def Good.near(g:Good w):C2 w:=#[g.rng,g.irr,g.nod,g.sym]
def C2.good(n:C2 w)(h:∀p,p<w.length->Reach w 0 p):Good w:=#[n.rng,n.irr,n.nod,n.sym,h]
end Wb
namespace L2
open PySem PySem.Spec PyProof.Rows
section
variable {X:Cx} {Z:DC} {pins:List (Addr×Obj)} {σ:St} {H:Hp} {s:Shared}
open Classical in
noncomputable def JB(h:Heap)(d:PyData)(u:Value):Bool:=decide (∃e as,Reads h u e as/\e.canLay0=true/\PyData.eqv e d=true)
open Classical in
theorem Uy{h:Heap}{d e:PyData}{u:Value}{as:List Addr}(r:Reads h u e as)(c:e.canLay0=true):JB h d u=PyData.eqv e d:=by
 unfold JB
 by_cases z:PyData.eqv e d=true
 .rw[z];exact Gc #[e,as,r,c,z]
 .rw[B4.mpr z]
  refine GE ?_;rintro⟨e',as',r',c',z'⟩;rw[(r.unique e' as' r').1] at z;exact z z'
theorem DR(I:Inv X pins σ H s){d:PyData}(f:Reads s.heap v d bs)(g:d.canLay0=true)(n:d.depth<=60)(o:X.A.units+64<cLine):∀{i:List V}{j:List PyData}{b:List b_},DpAll X.K H i j->Vals i b->
  b.any^JB s.heap d=j.any (λe=>PyData.eqv e d)/\∀u∈b,SeqAt.EqAt X.A.in1 s u v^JB s.heap d u
 |_,_,_, .nil, .nil=>#[rfl,λu h=>by cases h]
 |_,_,_, .cons (d:=e) a p, .cons r q=>by
  let⟨t,w⟩:=DR I f g n o p q;obtain⟨⟨x,k⟩,l⟩:=a.reads I r;have m:=Uy (d:=d) k l;refine#[by rw[yf,yf,t,m],λu c=>?_]
  rcases b7.mp c with rfl|c
  .rw[m]
   exact SeqAt.eqAt_reads e d X.A.in1 s _ _ x bs k f l g^by have:=afn e.depth d.depth;simp only[afr];lia
  .exact w u c
def Xx(K:ad)(a:Bool):R2:=λx y H Q=>∃p c d b,y= .ref p/\aK K H p c/\Dp K H x d/\DpAll K H c b/\d.depth<=60/\Q (.bl^if a then !(b.any λe=>PyData.eqv e d) else b.any λe=>PyData.eqv e d) H
def Vt(c:X.A.units+64<cLine):OpR X (ff .In)^Xx X.K false:=by
 intro b s z H x y v u Q I e f h;rfl';let⟨p,C,d,E,rfl,i,j,k,l,q⟩:=h;subst f;obtain⟨⟨bs,m⟩,n⟩:=j.reads I e;let⟨a,r,pl,g⟩:=I.list i;let⟨o,t⟩:=DR I m n l c k r;ac_rfl;refine SeqAt.in_listAt (JB s.heap d) pl.isList (λw hw=>t w^~~~hw) #[.bl _,H,I,rfl,?_]
 rw[show a.toArray.any^JB s.heap d=a.any (JB s.heap d) by simp,o]
 exact q
def Pq(b:Bool):i3:=λx y P=>match y with
 | .lst l=>∃a c,x.py\a/\fG l\c/\a.depth<=60/\P^.bl^if b then !(c.any λe=>PyData.eqv e a) else c.any λe=>PyData.eqv e a
 |_=>False
def VS{d:Bool}{K:ad}:∀x y H Q,cc Z (Pq d) x y H Q->Xx K d x y H Q:=by
 intro x y H Q i;rfl';let⟨G,a,b,P,f,k,l,g,q⟩:=i;ac_rfl;unfold Pq at g
 split at g
 .obtain⟨p,m,rfl,n,e⟩:=l.j6
  rfl';let⟨c,o,r,t,u,v⟩:=g;ac_rfl;exact#[p,m,c,o,rfl,aK.of^f _ _ n,(k.dp r).mono f,(e.dp t).mono f,u,q _ v _ G H (.refl f)^.bl _]
 .exact g.elim
def Vn(a:X.A.units+64<cLine):OpR X (ff .In)^cc Z^Pq false:=(Vt a).imp VS
theorem C4{f:Nat->Int}(g:Int->Int->Bool)(e:∀a b,g a b=decide (a<b)):∀k,argBest (λi j=>g (f i)^f j) k<=k/\∀i,i<=k->f^argBest (λi j=>g (f i)^f j) k<=f i
 |0=>#[aZ _,λi h=>by(obtain rfl:i=0:=();exact Int.le_refl _)]
 |k+1=>by
  let⟨l,d⟩:=C4 (f:=f) g e k;unfold argBest;simp only[e] at l d ⊢
  by_cases c:f (k+1)<f^argBest (λi j=>decide (f i<f j)) k
  .rw[ir^Gc c]
   refine#[aZ _,λi m=>?_]
   by_cases z:i=k+1
   .subst z;exact Int.le_refl _
   .have:=d i ();lia
  .rw[mo^~~~c]
   refine#[(),λi m=>?_]
   by_cases z:i=k+1
   .subst z;lia
   .exact d i ()
def Jp(P:X.calm=true):cV X (.builtin "min") (λL H Q=>∃(p:Addr)(c:List Int),L= [.ref p]/\H p\(.lst^c.map V.int)/\c≠ []/\∀n∈c,(∀m∈c,n<=m)->Q (.int n) H):=by
 intro M s σ H L us Q I R h;obtain⟨p,c,rfl,S,B,q⟩:=h;obtain⟨u,rfl,T⟩:=R.one;subst T;obtain⟨d,r,pl,hz⟩:=I.list^aK.of S;have Y:=r.length;rw[aI] at Y;have W7:0<c.length:=EB.mpr B
 have C:∀i:Nat,(g:i<c.length)->∃t,d[i]?\(.int c[i] t):=λi g=>by
  obtain⟨w,hw,Z⟩:=r.get (i:=i) (x:= .int c[i])^by rw[cL,bA g];rfl
  obtain⟨t,rfl⟩:=Z;exact#[t,hw]
 refine call_min_walk^wpAny_pyIter_list pl.isList ?_
 have jO:p≠s.heap.objs.size:=by
  obtain⟨o,E,_⟩:=pl.isList;exact bX^Da E
 let f:Nat->Int:=λi=>c.getD i 0
 have z:∀k,(y:k<c.length)->f k=c[k]:=λk y=>by
  show c.getD k 0=_;rw[bO,bA y];rfl
 refine#[_,_,_,d.toArray.size,_,_,λi j=>(λa b=>decide (a<b)) (f i)^f j,rfl,Walks.list (show X.A.in1.handled=none from I.ok.hd P) s.heap.objs.size p jO d.toArray,#[#[_,GM _ rfl,rfl,rfl],pl.isList.push _],?_,?_,?_,?_]
 .intro b hb
  have:b=s.heap.objs.size\/b=p:=by simpa using hb
  obtain⟨o,E,_⟩:=pl.isList;have lt:=Da E;have e:(s.heap.push {cls:= .type "list_iterator",data:= .fields [.ref p, .int 0 0].toArray}).objs.size=s.heap.objs.size+1:=by simp[Heap.push]
  rcases this with rfl|rfl
  .exact Nat.lt_of_lt_of_eq (aen _) e.symm
  .exact Nat.lt_of_lt_of_eq (ye lt) e.symm
 .rw[cE];lia
 .intro i j u v s' Q' E' J6 J7 hq
  have F:d[i]?\u:=by simpa using J6
  have l:d[j]?\v:=by simpa using J7
  have g:i<c.length:=by have:=(cD.mp F).1;lia
  have N:j<c.length:=by have:=(cD.mp l).1;lia
  obtain⟨t1,h1⟩:=C i g;obtain⟨t2,h2⟩:=C j N;rw[h1] at F;rw[h2] at l;obtain rfl:=Fk F;cases Fk l;have nW:Q' (.bool (decide (c[i]<c[j]))) s':=by rw[<-z i g,<-z j N];exact hq
  exact HT.Ef _ _ _ _ _ _ _ _ _ _ nW
 .intro v h' tk O kk
  have kept:∀b o,s.heap.get? b\o->h'.get? b\o:=λb o e=>kk b o (by simp;exact bX^Da e)^AC _ e
  obtain⟨y,G⟩:=C4 (f:=f) (λa b=>decide (a<b)) (λ_ _=>rfl) (d.toArray.size-1);generalize argBest (λi j=>(λa b=>decide (a<b)) (f i)^f j) (d.toArray.size-1)=k at O y G;rw[cE] at y G;have J:k<c.length:=()
  have l:d[k]?\v:=by simpa using O
  obtain⟨t,ht⟩:=C k J;rw[ht] at l;cases Fk l;refine#[.int c[k],H,I.kept kept,#[t,rfl],q _ (iT J) λm zg=>?_];obtain⟨i,g,rfl⟩:=aeK.mp zg
  have:=G i ()
  rw[z i g,z k J] at this;exact this
def X5:fh:=λb P=>∃a:List Int,b= [.lst^a.map D.int]/\a≠ []/\∀n∈a,(∀m∈a,n<=m)->P^.int n
def Pj(b:X.calm=true):cV X (.builtin "min")^j5 Z X5:=by
 refine(Jp b).imp ?_;intro l H Q c;rfl';obtain⟨G,o,P,s,dv,⟨f,rfl,g,i⟩,q⟩:=c;let⟨v,rfl,a⟩:=dv.ofOne;let⟨p,r,rfl,h,e⟩:=a.j6;ac_rfl;rw[pT e] at h;exact#[p,f,rfl,s _ _ h,g,λn j k=>q _ (i n j k) _ G H (.refl s)^.int n]
end
section
variable {X:Cx} {Z:DC}
def Jq:cV X (.type "range") (λa H Q=>∃i:Int,a= [.int i]/\∀q,H q=none->Q (.ref q)^upd H q^.rng 0 i):=by
 intro c s f H a g Q I d h;let⟨i,rfl,q⟩:=h;obtain⟨j,rfl,⟨k,rfl⟩⟩:=d.one;refine call_range_1 ?_;exact#[.ref s.heap.objs.size,_,I.laid (λb o e=>AC _ e) (aZ _) (o:= .rng 0 i) #[_,_,_,GM _ rfl],rfl,q _^I.hok.fresh^aZ _]
def X6:fh:=λa P=>∃i:Int,a= [.int i]/\P^.rng 0 i
def Pk:cV X (.type "range")^j5 Z X6:=by
 refine Jq.imp ?_;intro f H Q b;rfl';obtain⟨G,h,P,s,dv,⟨i,rfl,d⟩,q⟩:=b;let⟨v,rfl,a⟩:=dv.ofOne;ac_rfl;refine#[i,by rw[a.ofInt],λp e=>q _ d _ _ _ (.new s e)^.rng af]
def T4:fh:=λa P=>∃i j:Int,a= [.rng i j]/\(-(2<<<62)<=i/\i<2<<<62/\-(2<<<62)<=j/\j<2<<<62/\(j-i).toNat<=1000)/\P^.lst^gZ i (j-i).toNat
def KZ(i:Int)(n:Nat):DvAll Z G (ot i n)^gZ i n:=by
 unfold ot gZ
 induction aj n with
 |nil=>exact .nil
 |cons k l a=>exact .cons (.int _) a
def M4(b:X.calm=true):cV X (.type "list")^j5 Z T4:=by
 refine(z9 b).imp ?_;intro o H Q c;rfl';obtain⟨G,t,P,s,dv,⟨i,j,rfl,⟨e,f,g,k,l⟩,m⟩,q⟩:=c;let⟨v,rfl,a⟩:=dv.ofOne;ac_rfl;cases a with
 |rng h=>exact#[_,i,j,rfl,s _ _ h,e,f,g,k,l,λp n=>q _ m _ _ _ (.new s n)^.lst af^KZ i _]
end
open PySem.Calls PySem.W
section
variable {X:Cx} {C:Addr} {x:Str} {p pos:Pos} {e:Expr} {es:List Expr} {te:TE} {t:TA}
def Tv(C:Addr)(t:TA):TE:=λb H Q=>t b H λc a=>c.length<=1000/\∀e,a e=none->Q (.ref e)^upd a e^sh C e none
def Iz(M:GK X.K C^.builtin "ValueError.__init__")(I:Inv X a f H s)(F:c.length<=1000)(h:∀e,H e=none->Q (.ref e)^upd H e^sh C e none):
  d_ (d5 X.prog X.w) X.A (call (.ref C) c) (EP X a f Q) X.xe s:=by
 let⟨G,q,N,bs,J,L,O,sub,P,l,R,S,T,Y,Z,p,i,j,m,n⟩:=M.obj;have r:=h (s.heap.objs.size+1)^I.hok.fresh^lS _;have k:c.length<=sizeLine:=by rw[adL];lia
 have v:((s.heap.push {cls:= .type "tuple",data:= .seq c.toArray}).push^cC C s.heap.objs.size none).get? (s.heap.objs.size+1)\(cC C s.heap.objs.size none):=by
  have:=GM (s.heap.push {cls:= .type "tuple",data:= .seq c.toArray}) (o:=cC C s.heap.objs.size none) rfl
  rwa [adU] at this
 let⟨y,g,d,z,os⟩:=s
 refine adJ^yT (init:= .builtin "ValueError.__init__") adG j m n (I.dE _ _ i) (afx I.dE M.call) (PySem.W.looks_instIn I.dE M.typ) (aeC I.dE M.ini)
  (λself=>PySem.W.Looks.of_pure^adG.init.bind self) k ?_
 refine yr adG j (AC _^AC _^I.dE _ _ i) v (λt t' B E=>?_) k;refine#[rfl,#[V.ref (y.objs.size+1),_,I.laid (t':=z) (λb u q=>E b u ?_^AC _^AC _ q) (lS _)^Gm B,rfl,r]];exact bX^ye^Da q
def KG(M:GK X.K C^.builtin "ValueError.__init__")(c:Gl X x)(d:X.mg x\(.ref C))(f:PA X (e::es) t)(g:(x==("__debug__":eg))=false<|>zm)
  (i:d4 (e::es) X.env=(false,f7 e X.env)::d4 es X.env<|>zn) (j:(gd pos^d4 es X.env).any (·.1)=false<|>zn):
  PE X (.Call (.Name x p) (e::es) [] pos)^Tv C t:=by
 intro a s k H Q I h;refine SZ^i6 I c d ?_ g;refine adA (h₀:=X.base) I.ok.mod.kin M.kp (thn (f pos a s k H _ I h) λm n #[o,u,b,r,l,q]=>#[b.dE,?_]) i j;exact Iz M b (by rw[sY,<-r.length];exact l) q
def Wj(X:Cx)(f:TE):TS:=λ_ b H=>f b H λv c=>∃a C d,v= .ref a/\c a\(sh C a d)/\oN X.K C/\mroIn X.K C^.type "BaseException"\true/\GL X b (upd c a^pG C a d) a
def Ec(y:X.calm=true)(z:PE X e te):PS X (.Raise (some e) none pos)^Wj X te:=by
 intro c s m H D I h;rw[arm_exec_Raise];refine a_^lf ?_;simp only[evalOpt,Option.map];unfold raiseStmt;refine a_^a_ (thn (z c s m H _ I h) λu f #[v,B,l,E,a,C,d,ev,n,F,j,q]=>a_^lf^fQ ?_);subst ev;obtain rfl:u=Value.ref a:=E;let⟨t,k⟩:=zQ l.hok n;let⟨Y,Z,N,bs,G,p,sn,sub,ab,J,dd,r,k1,k2,k3,k5,w,cB,cA,cN⟩:=F.obj;have i:=l.dE _ _ w
 have L:(Value.ref C::G).contains^.type "BaseException"=true:=by
  unfold mroIn clsIn at j;rw[w] at j;simpa using j
 have M:Inv X c m (upd B a^pG C a d) f:=by
  refine ae λG0 r=>?_;have O:=l.write (x:=a) (e:=a) (o:=pG C a d) (h':=f.heap) (t':=f.toks) (by rw[n];exact True.intro) (.inl rfl) (λb u j q=>q) #[_,k]^P8 (tb:= .none) k
  let⟨P,g,Q,R,os⟩:=f;refine r ?_;exact O
 have S:X.xe (.ref a) f:=q f M.Pc #[C,t, .none,d,af,k, .inl rfl];have T:X.A.handled=none:=I.ok.hd y;let⟨P,g,Q,R,os⟩:=f
 repeat (first|with_reducible refine gu k ?_|with_reducible refine gu i ?_| (with_reducible refine gM i ?_;rw[L]) |wp_step)
 exact wpAny_raiseNew_none T S
end
section
variable {X:Cx} {k:Nat} {f C:Addr} {fd:FuncData} {ps:List Str} {sp:Sp} {x m:Str} {p pos apos:Pos} {e o:Expr} {es:List Expr} {ta:TE} {t:TA}
def MY(X:Cx)(b:St):XK:=λe _ c=>∃a,e= .ref a/\GL X b c a
theorem SR{pins:List (Addr×Obj)}{σ:St}{H:Hp}{s:c_}{Q:VK}{us:List b_}{vs:List V}(F:FnOk X.prog X.w X.K X.mg X.base (r8 X.prog X.w) k f fd ps sp)(hr:b8 k X.A)(hb:Binds X.K fd ps [])
  (I:Inv X pins σ H s) (r:Vals vs us) (h:sp vs H Q^MY X σ):d_ (d5 X.prog X.w) X.A (call (.ref f) us) (EP X pins σ Q) X.xe s:=by
 have hl:(us++ []).length=ps.length:=by rw[fe,<-r.length];exact F.len _ _ _ _ h
 have Cp:=hb s us I.dE hl;rw[fe] at Cp;refine i_ (je (F.run X.A X.stack s H #[us,[]] us vs Q (MY X σ) hr I.Ho Cp r h) λr s' hq=>?_);cases r with
 |error e=>
  rfl';let⟨a,H',rfl,fl,a',ea,q⟩:=hq;cases ea;let⟨I2,f2⟩:=L5 I fl;ac_rfl;exact q s' I2 f2
 |ok fl=>
  cases fl with
  |ret u=>exact I.after hq
  |next=>exact False.elim hq
  |brk=>exact False.elim hq
  |cont=>exact False.elim hq
def MG(X:Cx)(b:Sp)(t:TA):TE:=λa H Q=>t a H λc d=>b c d Q^MY X a
def Ea(F:FnOk X.prog X.w X.K X.mg X.base (r8 X.prog X.w) k f fd ps sp)(c:b8 k X.A)(d:Gl X x)(g:X.mg x\(.ref f))(i:am X.K^.ref f=true)(j:Binds X.K fd ps [])
  (l:PA X (e::es) t) (n:(x==("__debug__":eg))=false<|>zm) (u:d4 (e::es) X.env=(false,f7 e X.env)::d4 es X.env<|>zn) (v:(gd pos^d4 es X.env).any (·.1)=false<|>zn):
  PE X (.Call (.Name x p) (e::es) [] pos)^MG X sp t:=by
 intro a s y H Q I h;refine SZ^i6 I d g ?_ n;refine adA (h₀:=X.base) I.ok.mod.kin i (thn (l pos a s y H _ I h) λz B #[E,G,b,r,q]=>#[b.dE,?_]) u v;exact SR F c j b r q
end
section
variable {X:Cx} {pins:List (Addr×Obj)} {σ:St} {H:Hp} {s:Shared}
def Hv{K:ad}{C:Addr}{b:Value}{r:Bool}{f q:Str}{N:Addr}{bs e:List Value}{g:Bool}{h:List Str}{sub:List Value}{i:Bool}{c:Option Bool}{j:Option Addr}{k l m n o:Option Value}{a:String}
  (p:K.lookup C\(excClassObj f q C N bs e g h sub i c j k l m n o a)) (d:mroIn K C b\r):(Value.ref C::e).contains b=r:=by
 unfold mroIn clsIn at d;rw[p] at d;simpa using d
def P0{M:Model}{A:f5}{E:b_->c_->Prop}{Q:Bool->c_->Prop}{K:ad}{a C e t:Addr}{j:b_}{d:Option Addr}{b:Bool}(X:K.In s.heap)(k:s.heap.get? a\(kh C t j d))(l:oN K C)(m:oN K e)(n:mroIn K e^.type "BaseException"\true)(o:mroIn K C^.ref e\b)
  (h:Q b s):d_ M A (excMatches (.ref a)^.ref e) Q E s:=by
 let⟨S,T,N,bs,Y,Z,H,sub,ab,p,dd,k0,k1,k2,k3,k5,i,D⟩:=l.obj;let⟨q,r,N',u,v,w,x,y,z,B,F,G,I,J,L,O,c,D⟩:=m.obj;have P:=Hv i o;have R:=Hv c n
 replace i:=X _ _ i
 replace c:=X _ _ c
 have f:=tc_notTuple;let⟨hp,g,dr,tk,os⟩:=s;unfold excMatches
 repeat (first|with_reducible refine gu k ?_|with_reducible refine gu c ?_| (with_reducible refine gM c ?_;rw[R]) | (with_reducible refine gM i ?_;rw[P]) |wp_step)
 cases b<;>(wp_walk;exact h)
end
abbrev Cx.xq(X:Cx)(a:Addr):Cx:={X with A:=X.A.mark^some^.ref a,calm:=false,xe:=λ_ _=>False}
abbrev Cx.tr(X:Cx)(pn:List (Addr×Obj))(E:Value->Shared->Prop):Cx:={X with pn:=pn,xe:=E}
section
variable {X:Cx} {pins pn:List (Addr×Obj)} {σ:St} {H:Hp} {s:Shared} {E:Value->Shared->Prop} {a:Addr}
theorem Inv.xq(I:Inv X pins σ H s)(a:Addr):Inv (X.xq a) pins σ H s:=
 #[#[I.ok.mod,I.ok.kind,I.ok.glob,I.ok.blt,I.ok.above,I.ok.inj,I.ok.has,I.ok.cab,(λz=>nomatch z),I.ok.frames,I.ok.stk,I.ok.exf,I.ok.bs,I.ok.bsz,I.ok.noex,I.ok.exfs,I.ok.funs,I.ok.frf],I.os,I.bare,I.base,I.loc,I.cell,I.free,I.freeC,I.pin,I.hok,I.len]
def Inv.Gb(ok:X.Ok)(I:Inv (X.xq a) pins σ H s):Inv X pins σ H s:=#[ok,I.os,I.bare,I.base,I.loc,I.cell,I.free,I.freeC,I.pin,I.hok,I.len]
theorem Inv.tr(I:Inv X pins σ H s)(E:b_->c_->Prop):Inv (X.tr (X.pn++pins) E) [] σ H s:=
 #[#[I.ok.mod,I.ok.kind,I.ok.glob,I.ok.blt,I.ok.above,I.ok.inj,I.ok.has,I.ok.cab,I.ok.hd,I.ok.frames,I.ok.stk,I.ok.exf,I.ok.bs,I.ok.bsz,I.ok.noex,I.ok.exfs,I.ok.funs,I.ok.frf],I.os,I.bare,I.base,I.loc,I.cell,I.free,I.freeC,λp b=>I.pin p^by rw[fe] at b;exact b,I.hok,I.len]
def Inv.IW(ok:X.Ok)(I:Inv (X.tr (X.pn++pins) E) [] σ H s):Inv X pins σ H s:=#[ok,I.os,I.bare,I.base,I.loc,I.cell,I.free,I.freeC,λp b=>I.pin p^by rw[fe];exact b,I.hok,I.len]
def E2{X:Cx}(f:zT X H s a)(h:Q ⟨⟩ s):d_ M A (kv (.ref a) none) Q E s:=by
 rfl';let⟨C,t,l,d,i,c,b⟩:=f;ac_rfl
 rcases b with rfl| ⟨T,rfl,_,_,_,_,_,o,j,e,g,b⟩
 .unfold kv
  refine a_^adu (x:= .none) c rfl rfl ?_;rw[mo ∅]
  exact tz h
 .refine wpAny_setFlight_none c rfl rfl e g (BX.mp b).1 ?_
  rw[Heap.update_setField_same _ _ o j 3 .none e g b];exact h
end
noncomputable def abh:Option Nat->Ends->Ends
 |none,D=>D
 |some i,D=>{nx:=λa H=>D.nx (a.set i none) H,rt:=D.rt,bk:=λa H=>D.bk (a.set i none) H,ct:=λa H=>D.ct (a.set i none) H}
noncomputable def acs:Option Nat->Addr->St->St
 |none,_,b=>b
 |some i,a,b=>b.set i^some^.ref a
abbrev OP:=List (Addr×Option Nat×(Addr->TS))
def F9(K:ad):OP->Ends->St->Hp->Addr->Addr->Prop
 | [],_,_,_,_,_=>False
 | (d,n,e)::r,D,c,H,a,C=>∃b,mroIn K C^.ref d\b/\if b=true then e a (abh n D) (acs n a c) H else F9 K r D c H a C
def PH(X:Cx)(e:List ExceptHandler)(l:OP):Prop:=
 ∀(b:List (Addr×Obj))(c:St)(H:Hp)(s:Shared)(a C:Addr)(d:Option Addr)(D:Ends),Inv X b c H s->zT X H s a->H a\(pG C a d)->oN X.K C->F9 X.K l D c H a C->wpAny (model X.prog X.w) X.A (handleBy (.ref a) X.env e) (SP X b D) X.xe s
section
variable {X:Cx} {pos p:Pos} {c n:Str} {Cm:Addr} {GY:Stmt} {BA:List Stmt} {rest:List ExceptHandler} {l:OP} {th:Addr->TS}
def VG:PH X [] []:=λ_ _ _ _ _ _ _ _ _ _ _ _ h=>h.elim
def P7{h:Heap}(e:pG C a d=pG f a i)(g:h.get? a\(kh C t b d)):C=f:=by
 have:=IR (λo=>match o with|HO.ext k=>k h|_=>True) e
 have m:∃t b,h.get? a\(kh f t b i):=by
  have:(∃t b,h.get? a\(kh C t b d))=(∃t b,h.get? a\(kh f t b i)):=this
  rw[<-this];exact#[t,b,g]
 obtain⟨r,q,j⟩:=m;rw[g] at j;cases j;rfl
theorem Sm(hg:Gl X c)(hm:X.mg c\(.ref Cm))(xm:oN X.K Cm)(tL:mroIn X.K Cm^.type "BaseException"\true)(hs:∀a,kF (X.xq a) (GY::BA)^th a)(hr:PH X rest l)(fC:(c==("__debug__":eg))=false<|>zm):
  PH X (.ExceptHandler (some^.Name c p) none (GY::BA) pos::rest) ((Cm,none,th)::l):=by
 intro pins σ H s a C d D I fl ha xc h;rfl';let⟨C',t,tb,d',h1,h2,h3⟩:=id fl;have eC:C'=C:=P7 (Option.some.inj^h1.symm.trans ha) h2;subst eC;let⟨b,hb,h⟩:=h;ac_rfl;refine wpAny_handleBy_cons (codeAny_handlers_test (hH (i6 (I.xq a) hg hm ?_ fC) (λ_ _ x=>x) λ_ _ z=>z))^by intro q;cases q
 refine P0 I.dE h2 xc xm tL hb ?_;cases b with
 |false=>exact hr pins σ H s a C' d D I fl ha xc h
 |true=>
  refine codeAny_handlers_suite^E2 fl ?_;refine hH (hs a pins s σ H D (I.xq a) h) (λf s1 q=>?_) λ_ _ z=>z.elim;cases f with
  |next=>let⟨ay,H',I',q⟩:=q;exact#[ay,H',I'.Gb I.ok,q]
  |brk=>let⟨ay,H',I',q⟩:=q;exact#[ay,H',I'.Gb I.ok,q]
  |cont=>let⟨ay,H',I',q⟩:=q;exact#[ay,H',I'.Gb I.ok,q]
  |ret u=>let⟨v,ay,H',I',r,q⟩:=q;exact#[v,ay,H',I'.Gb I.ok,r,q]
def acK(X:Cx)(g:List (Addr×Obj)->(Value->Shared->Prop)->TS)(h:TS)(l:OP):TS:=λD i H=>∀e E,(∀f b a C d,b a\(pG C a d)->oN X.K C->F9 X.K l D f b a C->GL (X.tr e E) f b a)->g e E {D with nx:=h D} i H
theorem VM{body orelse:List Stmt}{h₀:ip}{hs:List ip}{tb:List (Addr×Obj)->(b_->c_->Prop)->TS}{to:TS}(lW:X.stack=X.env::X.outer)(QM:X.env.frame\X.env.locals)
  (hb:∀pn E,kF (X.tr pn E) body^tb pn E) (ho:kF X orelse to) (hh:PH X (h₀::hs) l):PS X (.Try body (h₀::hs) orelse [] pos)^acK X tb to l:=by
 intro pins s σ H D I h;refine wpAny_Try_except ?_
 let E':b_->c_->Prop:=λe s₁=>d_ (d5 X.prog X.w) X.A (kn e X.env) (λ_ Et=>d_ (d5 X.prog X.w) X.A (kv e none) (λ_ wo=>d_ (d5 X.prog X.w) X.A (handleBy e X.env (h₀::hs)) (SP X pins D) X.xe wo) X.xe Et) X.xe s₁
 have hw:=h (X.pn++pins) E' λay H' a C d h1 h2 h3=>by
  intro s1 I1 f1;refine D2 (X:=X.tr (X.pn++pins) E') lW QM I1 f1 λs2 I2 f2=>?_;rfl';have I2':=I2.IW I.ok;obtain⟨C',t,tb,d',g1,g2,g3⟩:=f2;ac_rfl;refine hh pins ay H' s2 a C d D I2' #[C',t,tb,d',g1,g2,g3.imp id λ#[T,e1,e2,e3,e4,e5,e6]=>#[T,e1,e2,e3,e4,λp hp=>e5 p^fK _ hp,e6]] h1 h2 h3
 refine hH (hb _ E' [] s σ H _ (I.tr E') hw) (λf s1 q=>?_) λ_ _ z=>z;cases f with
 |next=>obtain⟨ay,H',I',q⟩:=q;exact ho pins s1 ay H' D (I'.IW I.ok) q
 |brk=>obtain⟨ay,H',I',q⟩:=q;exact#[ay,H',I'.IW I.ok,q]
 |cont=>obtain⟨ay,H',I',q⟩:=q;exact#[ay,H',I'.IW I.ok,q]
 |ret u=>obtain⟨v,ay,H',I',r,q⟩:=q;exact#[v,ay,H',I'.IW I.ok,r,q]
end
def CC:(aj 100).all (λn=>decide ((Str.ofString^toString (n:Int)).length<=3))=true:=by decide+kernel
def int_text{i:Int}(a:0<=i)(b:i<100):(Str.ofString^toString i).length<=3/\i.natAbs.log2<1920:=by
 obtain⟨n,rfl⟩:∃n:Nat,i=n:=#[i.toNat,()]
 refine#[KF^aeo.mp CC n^d9.mpr (),?_]
 have:(n:Int).natAbs=n:=by simp
 rw[this];exact nI (Nat.log2_le_self n) ()
section
variable {X:Cx} {a b:Str} {x y:Expr} {k1 k2:Option String} {p1 p2 p3 p4 pos:Pos} {tx ty:TE}
def tF4(d e:TE):TE:=λc H Q=>d c H λv f=>∃i,v= .int i/\0<=i/\i<100/\e c f λu g=>∃j,u= .int j/\0<=j/\j<100/\∀z,Q (.str z) g
def aaf{k1 k2}(o:PE X x tx)(p:PE X y ty)(Z:a.length<=1000)(hb:b.length<=1000):
  PE X (.JoinedStr [.Constant (.str a) k1 p1, .FormattedValue x (-1) none p2, .Constant (.str b) k2 p3, .FormattedValue y (-1) none p4] pos)^tF4 tx ty:=by
 intro c s e H Q I h;have z1:(Str.empty++a).length<=1000:=by rw[ae8];show 0+_<=_;lia
 have sz:∀n,n<=3000->n<=sizeLine:=λn hn=>by rw[adL];lia
 refine wpAny_JoinedStr ?_;refine thn (rM (X:=X) (x:=a) (j:=k1) (pos:=p1) c s e H (λv f=>v= .str a/\f=H) I #[rfl,rfl]) λu q #[v,r,w,d,ev,g]=>?_;subst ev g;obtain⟨z,rfl⟩:∃t,u= .str a t:=d;refine#[a,z,rfl,sz _ (),?_]
 refine ae9 (thn (o c q e r _ w h) λu s2 k=>?_);rfl';let⟨v,m,B,d,i,ev,C,E,F⟩:=k;ac_rfl;subst ev;obtain⟨t2,rfl⟩:∃t,u= .int i t:=d;let⟨n1,G⟩:=int_text C E;refine wpAny_formatField_int G ?_;have z2:(Str.empty++a++Str.ofString^toString i).length<=1003:=by rw[ae8];lia
 refine#[_,_,rfl,sz _ (),?_]
 refine thn (rM (X:=X) (x:=b) (j:=k2) (pos:=p3) c _ e m (λv f=>v= .str b/\f=m) (B.tok _) #[rfl,rfl]) λu J #[v,L,M,d,ev,g]=>?_;subst ev g;obtain⟨N,rfl⟩:∃t,u= .str b t:=d;have z3:(Str.empty++a++Str.ofString^toString i++b).length<=2003:=by rw[ae8];lia
 refine#[b,N,rfl,sz _ (),?_]
 refine ae9 (thn (p c J e L _ M F) λu s4 k=>?_);rfl';let⟨v,O,P,d,j,ev,R,S,T⟩:=k;ac_rfl;subst ev;obtain⟨t4,rfl⟩:∃t,u= .int j t:=d;let⟨m1,Y⟩:=int_text R S;refine wpAny_formatField_int Y ?_;have z4:(Str.empty++a++Str.ofString^toString i++b++Str.ofString^toString j).length<=2006:=by rw[ae8];lia
 refine#[_,_,rfl,sz _ (),sz _ (),?_]
 exact#[.str _,O,(P.tok _).tok _,#[_,rfl],T _]
end
abbrev B8:=List D->(D->Prop)->(D->Prop)->Prop
def gH(Z:DC)(f:B8):Sp:=λg H Q E=>∃(G:Hp)(e:List D)(P R:D->Prop),aC G H/\DvAll Z G g e/\f e P R/\(∀d,P d->∀v b c,Ext G H b c->Dv Z b v d->Q v c)/\∀d,R d->∀a b c,Ext G H b c->Dv Z b (.ref a) d->E (.ref a) none c
section
variable {P:Program} {w:World} {K:ad} {mg:Str->Option Value} {base:Heap} {Z:DC}
def uG.okX{x a:eg}{st:Stmt}{f:Addr}{g:ge}{N d:List eg}{k:Nat}{e:Sp}{h:pF}(F:uG K x a st f g)(S:aH N d^aq st)(len:∀b H Q E,e b H Q E->b.length=d.length)
  (i:∀(c:b_)(A:f5)(outer:List lz)(s:c_)(H:Hp)(b:List V)(Q:VK)(E:XK),b8 k^A.deeper^jW a (aq st) s.heap.objs.size f c->e b H Q E->
   ∃t,kF (lh h P w K mg base N a (aq st) f c A outer s H E) (dB st) t/\t {nx:=λ_ j=>Q .aS j,rt:=Q} (start N b) H):FnOk P w K mg base h (k+1) f g d e:=by
 rfl';let⟨u,v,kV,m,y,z,c,B,C,rfl,n,o⟩:=F.ex;ac_rfl;exact Qd n o S len λA outer s H b Q E p q=>i c A outer s H b Q E p q
theorem m8{x b:eg}{st:Stmt}{f:Addr}{B:ge}{N m:List eg}{k:Nat}{p:B8}(F:uG K x b st f B)(S:aH N m^aq st)(C:List Nat)(J:∀i,i<m.length->C.getD i 0=0)(len:∀c P R,p c P R->c.length=m.length)
  (L:∀(n:b_)(A:f5)(outer:List lz)(s:c_)(H:Hp)(E:XK)(c:List D)(R g:D->Prop),b8 k^A.deeper^jW b (aq st) s.heap.objs.size f n->p c R g->
   ∃t,pj Z (lh (r8 P w) P w K mg base N b (aq st) f n A outer s H E) C 0 (dB st) t/\t {nx:=λ_=>R .aS,rt:=R,xc:=λ_ d=>g d}^oH N c):FnOk P w K mg base (r8 P w) (k+1) f B m^gH Z p:=by
 refine F.okX S (λM H Q E h=>?_)^λn A outer s H M Q E O h=>?_
 .obtain⟨G,c,R,g,s,dv,h,q⟩:=h
  rw[dv.length];exact len _ _ _ h
 rfl';let⟨G,c,R,g,X,dv,h,q,Y⟩:=h;let⟨t,ht,hq⟩:=L n A outer s H E c R g O h;have hl:=len _ _ _ h;ac_rfl;refine#[_,ht,#[G,H,G],_,_,#[G,λ_=> [],?_],hq,#[λρ UU ay j #[l,fp,r]=>q _ UU _ l j r.ex .aS,λd u v f l j x o nd nw=>q d u v l j x o.1,λ_ z=>z.elim,λ_ z=>z.elim,λρ d u ay j l fp a r y s2 I2 f2=>P9 I2 f2^Y d u a l j r.ex y]];refine#[.refl X, .refl _,by unfold oH start;simp[dv.length],λi d e=>?_,λ_=>iV,(λ_ _ _ _ z=>by cases z),(λ_ _ z=>by cases z)]
 unfold oH at e
 have I:i<c.length:=by
  apply FM;intro z;rw[jg^~~~lQ z,yU] at e
  split at e<;>cases e
 rw[iR^~~~I,cL] at e
 have lB:c[i]?\d:=by
  cases z:c[i]? with
  |none=>rw[z] at e;cases e
  |some d'=>rw[z] at e;cases e;rfl
 let⟨v,hv,y⟩:=dv.get lB;refine#[v,?_,by rw[J i ()];exact#[y,rfl]]
 unfold start;rw[iR^by simpa [dv.length] using I,cL,hv];rfl
end
section
variable {Z:DC} {X:Cx} {md:List Nat} {rn:Nat} {st:Stmt} {By:List Stmt} {t:iE} {e x1 y1:Expr} {es:List Expr} {tx ty:bb} {sd:B8} {k j:Nat} {x:Str} {ps:List Str} {p pos aY:Pos}
def LP(b:List Nat)(c:B8)(t:iE)(K:gf->DN->D->Prop):eG:=λE a=>t (cX b a) λd=>c d (K E a)^E.xc a
def yl{B:Bs}{b:DN}{g:St}{H G:Hp}{i:Nat->List Addr}{E:gf}{r:Ends}{K:D->Prop}{Q:VK}(S:SIx Z B md b g H G i)(h:t (cX md b) λl=>sd l K^E.xc b)(M:Meets Z X B md rn E r)
  (q:∀d,K d->∀v c f,SIx Z B md b g f c i->Dv Z c v d->Q v f):MG X (gH Z sd) (Fv Z t) g H Q:=by
 refine#[G,_,_,S.ex.sub,S.uO,h,λl s y u z n w=>?_];have o:=S.grow n;exact#[u,l,K,E.xc b,n.sub,w,s,λd m v c f x dv=>q d m v c f (o.grow x) dv,λd m a c f x dv=>#[a,rfl,M.xc b d m g f c i a (o.grow x) dv]]
def wX(d:bP X.K X.mg x st ps)(F:FnOk X.prog X.w X.K X.mg X.base (r8 X.prog X.w) k d.f d.fd ps^gH Z sd)(c:b8 j X.A)(g:DA Z X (e::es) t)(i:Gl X x<|>zn)(l:k<=j<|>xx)
  (n:(x==("__debug__":eg))=false<|>zm) (o:d4 (e::es) X.env=(false,f7 e X.env)::d4 es X.env<|>zn) (q:(gd aY^d4 es X.env).any (·.1)=false<|>zn) (r:gs (.Call (.Name x p) (e::es) [] aY) none pos.line X.env=pure false<|>zn):
  DSt Z X md rn (.Expr (.Call (.Name x p) (e::es) [] aY) pos) (LP md sd t λE a _=>E.nx a):=by
 refine(dY (Ea F (c.mono l) i d.m d.F.kp d.b g n o q) r).imp ?_;intro D J H s;rfl';obtain⟨B,a,E,⟨G,y,S⟩,h,M⟩:=s;ac_rfl;exact yl S h M λd z v C N I dv=>M.nx _ z _ _ #[C,y,I]
def PN(i:Nat)(g:X.N.Nodup)(d:bP X.K X.mg x st ps)(F:FnOk X.prog X.w X.K X.mg X.base (r8 X.prog X.w) k d.f d.fd ps^gH Z sd)(l:b8 j X.A)(n:DA Z X (e::es) t)(o:Gl X x<|>zn)(q:k<=j<|>xx)
  (r:(x==("__debug__":eg))=false<|>zm) (s:d4 (e::es) X.env=(false,f7 e X.env)::d4 es X.env<|>zn) (u:(gd aY^d4 es X.env).any (·.1)=false<|>zn) (z:gs (.Call (.Name x p) (e::es) [] aY) (some^.Name y a) pos.line X.env=pure false<|>zn)
  (C:md.getD i 0=0<|>zn) (I:X.N[i]?\y<|>zn) (J:Loc X.env.scope y<|>zb) (L:X.fn y=true\/X.env.scope.names.lookup y\.local<|>zb):
  DSt Z X md rn (.Assign [.Name y a] (.Call (.Name x p) (e::es) [] aY) pos) (LP md sd t λE c d=>E.nx^c.set i^some d):=by
 refine(ck g I J (Ea F (l.mono q) o d.m d.F.kp d.b n r s u) z L).imp ?_;intro D Y H O;rfl';obtain⟨B,c,E,⟨G,fp,S⟩,h,M⟩:=O;ac_rfl;exact yl S h M λd Q v R H' T dv=>M.nx _ Q _ _ #[R,_,T.oW C dv]
structure XE (K:ad) (C:Addr):Prop where
 cls:C3 K C
 obj:oN K C
def Ln(H:Hp)(a:Addr)(o u:HO):upd (upd H a o) a u=upd H a u:=by
 funext b
 by_cases h:b=a
 .rw[h,af,af]
 .rw[ag h,ag h,ag h]
def Pw(b:List Nat)(C:Addr)(c f:bb):eG:=λE a=>c (cX b a) λd=>∃i,d= .int i/\0<=i/\i<100/\f (cX b a) λd=>∃j,d= .int j/\0<=j/\j<100/\E.xc a^.err C [] []
def Ip(S:SIx Z B md b c H G d)(h:E.xc b^.err C [] [])(M:Meets Z X B md rn E f)(g:H a=none):GL X c (upd (upd H a^sh C a none) a^pG C a none) a:=by
 rw[Ln];have x:Ext G H (upd G a^pG C a none)^upd H a^pG C a none:= .new S.ex.sub g;exact M.xc b _ h c _ _ d a (S.grow x)^.err af (.inl #[rfl,rfl,rfl]) .nil
def JA{k1 k2}(u:X.calm=true)(M:GK X.K C^.builtin "ValueError.__init__")(r:XE X.K C)(w:X.mg x\(.ref C))(y:DE Z X c tx)(A:DE Z X y1 ty)(F:Gl X x<|>zn)(o:a.length<=1000<|>xz)(I:b.length<=1000<|>xz)(J:(x==("__debug__":eg))=false<|>zm)
  (s:d4 [.JoinedStr [.Constant (.str a) k1 f, .FormattedValue c (-1) none g, .Constant (.str b) k2 l, .FormattedValue y1 (-1) none m] n] X.env=(false,f7 (.JoinedStr [.Constant (.str a) k1 f, .FormattedValue c (-1) none g, .Constant (.str b) k2 l, .FormattedValue y1 (-1) none m] n) X.env)::d4 [] X.env<|>zn) (L:(gd aY^d4 [] X.env).any (·.1)=false<|>zn):
  DSt Z X md rn (.Raise (some^.Call (.Name x p) [.JoinedStr [.Constant (.str a) k1 f, .FormattedValue c (-1) none g, .Constant (.str b) k2 l, .FormattedValue y1 (-1) none m] n] [] aY) none pos)^Pw md C tx ty:=by
 refine(Ec u^KG M F w (ah (aaf y A o I) aB s) J s L).imp ?_;intro D t H N;rfl';obtain⟨B,ρ,E,⟨G,fp,S⟩,h,M⟩:=N;ac_rfl;exists G,_,_,S.ex.sub,S.uO,h;rintro d ⟨i,rfl,P,Q,h⟩ v R H1 c dv;exists i,dv.ofInt,P,Q;have q:=S.grow c;exists R,_,_,q.ex.sub,q.uO,h;rintro d ⟨j,rfl,T,Y,h⟩ v G2 H2 e dv;refine#[j,dv.ofInt,T,Y,λz=>?_];have k:=q.grow e;refine#[by show 1<=1000;decide,λa o=>#[a,C,none,rfl,af,r.obj,r.cls.be,Ip k h M o]]
noncomputable def PX:Option Nat->gf->gf
 |none,E=>{E with xc:=λ_ _=>False}
 |some i,E=>{nx:=λa=>E.nx^a.set i none,rt:=E.rt,bk:=λa=>E.bk^a.set i none,ct:=λa=>E.ct^a.set i none}
noncomputable def SY:Option Nat->D->DN->DN
 |none,_,a=>a
 |some i,d,a=>a.set i^some d
abbrev EE:=List (Addr×Option Nat×eG)
def Ye(K:ad)(C:Addr):EE->gf->DN->D->Prop
 | [],_,_,_=>False
 | (c,n,f)::r,E,a,d=>∃b,cm K C^.ref c\b/\if b=true then f (PX n E)^SY n d a else Ye K C r E a d
def Yd(K:ad)(l:EE)(E:gf)(a:DN):D->Prop
 | .err C b c=>oN K C/\Ye K C l E a^.err C b c
 |_=>False
def abc(K:ad)(tb a:eG)(l:EE):eG:=λE b=>tb {E with nx:=a E,xc:=Yd K l E} b
def SIx.drop{ρ:DN}{b:St}{d:Nat->List Addr}{i:Nat}(S:SIx Z B md ρ b H G d):SIx Z B md (ρ.set i none) (b.set i none) H G d where
 ex:=S.ex
 fl:=S.fl
 len:=by rw[iU,iU];exact S.len
 at_:=λj c h=>by
  by_cases z:i=j
  .subst z
   by_cases a:i<ρ.length
   .rw[oZ a] at h;cases h
   .rw[EA^lQ a,fJ^lQ a] at h;cases h
  .rw[qO z] at h ⊢
   exact S.at_ j c h
 nd:=S.nd
 ap:=S.ap
 nw:=S.nw
noncomputable def Xd(Z:DC)(X:Cx)(b:List Nat)(d:Nat)(l:EE):OP:=l.map λc=>(c.1,c.2.1,λa=>n4 Z (X.xq a) b d c.2.2)
def okH(a:List Nat)(l:EE):Prop:=∀c∈l,∀i,c.2.1\i->a.getD i 0=0
def DHs(Z:DC)(X:Cx)(a:List Nat)(b:Nat)(c:List ip)(l:EE):Prop:=PH X c^Xd Z X a b l/\okH a l
theorem DL{B:Bs}{E:gf}{s:Ends}(M:Meets Z X B md rn E s){q:DN}{u:St}{H G:Hp}{v:Nat->List Addr}(S:SIx Z B md q u H G v){a C:Addr}{d:D}(dv:Dv Z G (.ref a) d){K:ad}:∀(l:EE),okH md l->Ye K C l E q d->F9 K (Xd Z X md rn l) s u H a C
 | [],_,h=>h
 | (L,n,F)::r,ok,#[b,I,h]=>by
  exists b,I;cases b with
  |false=>exact cO^DL M S dv r (λc J=>ok c^dS _ J)^h
  |true=>
   have h:F (PX n E)^SY n d q:=h;refine dD ?_;cases n with
   |none=>exact#[B,q,_,#[G,v,S],h,#[M.nx,M.rt,M.bk,M.ct,λ_ _ z=>z.elim]]
   |some i=>
    refine#[B,_,_,#[G,_,S.oW (ok _ (cF ..) i rfl) dv],h,#[λw f y A #[g,m,o]=>M.nx _ f _ _ #[g,m,o.drop],M.rt,λw f y A #[g,m,o]=>M.bk _ f _ _ #[g,m,o.drop],λw f y A #[g,m,o]=>M.ct _ f _ _ #[g,m,o.drop],λ_ _ z=>z.elim]]
def Us(v:∀g E,pj Z (X.tr g E) md rn c tb)(w:pj Z X md rn b o)(q:DHs Z X md rn (f::n) l)(y:X.stack=X.env::X.outer<|>zn)(z:X.env.frame\X.env.locals<|>zn):
  DSt Z X md rn (.Try c (f::n) b [] pos)^abc X.K tb o l:=by
 refine(VM (tb:=λg E=>n4 Z (X.tr g E) md rn tb) y z v w q.1).imp ?_;intro P Q H A g R F;rfl';let⟨B,J,E,S,h,M⟩:=A;ac_rfl;refine#[B,J,_,S,h,#[λr L s u i=>#[B,r,E,i,L,M],M.rt,M.bk,M.ct,λr d m s u G Y a i dv=>?_]];cases d<;>first|exact False.elim m|skip
 rename_i C e j
 have N:=dv;cases dv with
 |err O k p=>exact F s u a C _ (i.ex.sub _ _ O) m.1^DL M i N l q.2 m.2
def Uo:DHs Z X md rn [] []:=#[VG,λc a=>by cases a]
variable {c n:Str} {Cm:Addr} {GY:Stmt} {BA:List Stmt} {rest:List ExceptHandler} {l:EE} {th:eG}
def Ag(g:X.mg c\(.ref Cm))(d:XE X.K Cm)(h:∀a,pj Z (X.xq a) md rn (m::BA) th)(f:DHs Z X md rn rest l)(o:Gl X c<|>zn)(q:(c==("__debug__":eg))=false<|>zm):
  DHs Z X md rn (.ExceptHandler (some^.Name c p) none (m::BA) pos::rest) ((Cm,none,th)::l):=
 #[Sm o g d.obj d.cls.be h f.1 q,λc b=>by
  rcases b7.mp b with rfl|b
  .intro i z;cases z
  .exact f.2 c b]
end
section
variable {X:Cx}
structure IsX (K:ad):Prop where
 hn:bi K (.builtin "object.__class__") "__get__"\(some^.builtin "getset_descriptor.__get__")
 htk:db K^.builtin "object.__class__"\true
end
section
variable {Z:DC} {X:Cx} {a c:Expr} {cs:List Expr} {ta:bb} {p pos:Pos}
end
section
variable {P:Program} {w:World} {K:ad} {mg:Str->Option Value} {base:Heap} {Z:DC}
end
section
variable {Z:DC} {X:Cx} {e:Expr} {es:List Expr} {t:iE} {pos:Pos}
end
noncomputable def Tz:List Value->Bool
 | []=>false
 |v::r=>if isRef v then Mb r else Mb (v::r)
def OF(h:Tz a=true):a= [.type "ValueError", .type "Exception", .type "BaseException", .type "object"]\/∃M,a= [.ref M, .type "ValueError", .type "Exception", .type "BaseException", .type "object"]:=by
 cases a with
 |nil=>cases h
 |cons v r=>
  rw[Tz] at h;cases b:isRef v with
  |true=>
   rw[ir b] at h;cases v with
   |ref M=>rw[Ay h];exact .inr #[M,rfl]
   |_=>cases b
  |false=>
   rw[mo^by rw[b];exact dZ] at h
   exact .inl^Ay h
def aaz{K:ad}{C N:Addr}{d:ClassData}{e:List b_}{f q:eg}{bs s:List b_}{g:Bool}{h:List eg}{sub:List b_}{i:Bool}{c:Option Bool}{j:Option Addr}{k l m n o:Option b_}
  (t:cq K C=true) (u:ak K (.ref C) "__getattribute__"\(some^.builtin "BaseException.__getattribute__")) (v:ak K (.ref C) "__getattr__"\none)
  (w:ak K (.ref C) "__setattr__"\(some^.builtin "object.__setattr__")) (x:ak K (.ref C) "__class__"\(some^.builtin "object.__class__"))
  (p:PySem.W.clsIn K C\d) (r:d.mro= .ref C::e) (lo:K.lookup C\(hX f q C N bs s g h sub i c j k l m n o "ValueError.__new__")) (y:s=e) (z:Tz e=true):XE K C:=by
 have a:∀b,cm K C b\((Value.ref C::e).contains b):=λb=>by
  unfold cm;rw[p,Option.bind_some,r];rfl
 subst y
 rcases OF z with rfl| ⟨M,rfl⟩
 .refine#[#[t,u,v,w,?_,x,?_,?_],#[f,q,N,bs,_,g,h,sub,i,c,j,k,l,m,n,o,lo,rfl,rfl,rfl]]
  .unfold FO
   rw[p];show rJ d.mro=true;rw[r];rfl
  .rw[a];rfl
  .rw[a];rfl
 .refine#[#[t,u,v,w,?_,x,?_,?_],#[f,q,N,bs,_,g,h,sub,i,c,j,k,l,m,n,o,lo,rfl,rfl,rfl]]
  .unfold FO
   rw[p];show rJ d.mro=true;rw[r];rfl
  .rw[a];rfl
  .rw[a];rfl
structure EI (K:ad) (C:Addr) (qual:eg) (st:Stmt) (ps:List eg) where
 f:Addr
 fd:ge
 F:uG K "__init__" qual st f fd
 b:Binds K fd ps []
 made:GK K C (.ref f)
 fn:bu K^.ref f=true
structure XBs (K:ad) (mg:eg->Option b_) (M:Addr):Prop where
 m:mg "MapError"\(.ref M)
 sg:bi K (.ref M) "__getattribute__"\(some^.builtin "type.__getattribute__")
 rd:dg K M^.type "type"=true
 fc:dq K (.ref M) (.type "type") "__init__"\(.val^.builtin "ValueError.__init__")
def FZ(Z:DC)(C:Addr)(g:List eg)(ok:List D->Prop):Sp:=λj H Q _=>∃(a:Addr)(h:List V)(G:Hp)(f:List D),j= .ref a::h/\H a\(sh C a none)/\G a=none/\aC G H/\DvAll Z G h f/\ok f/\f.length=g.length/\
 ∀c i d e,aC G d->aC d e->(∀b o,b≠a->H b\o->e b\o)->(∀b,H b≠none->G b=none->d b=none)->e a\(sh C a^some c)->H c=none->e c\(EJ c^g.zip i)->d c=none->DvAll Z d i f->Q .aS e
section
variable {Z:DC} {X:Cx} {md:List Nat} {rn:Nat} {st:Stmt} {t:iE} {e:Expr} {es:List Expr} {k j:Nat} {x qual:Str} {ps:List Str} {p pos aY:Pos}
def Px(d:List Nat)(C:Addr)(b:List eg)(ok:List D->Prop)(t:iE):eG:=λE c=>t (cX d c) λa=>ok a/\a.length=b.length/\E.xc c^.err C b a
def tu(hc:X.calm=true)(I:EI X.K C qual st R)(F:FnOk X.prog X.w X.K X.mg X.base fM k I.f I.fd R^FZ Z C l ok)(hr:b8 j X.A)(T:XE X.K C)(hm:X.mg x\(.ref C))(g:DA Z X (e::es) t)(r:Gl X x<|>zn)(hk:k+1<=j<|>xx)(QZ:R.length<=1000<|>zm)
  (fC:(x==("__debug__":eg))=false<|>zm) (he:d4 (e::es) X.env=(false,f7 e X.env)::d4 es X.env<|>zn) (cR:(gd aY^d4 es X.env).any (·.1)=false<|>zn):
  DSt Z X md rn (.Raise (some^.Call (.Name x p) (e::es) [] aY) none pos)^Px md C l ok t:=by
 refine(Ec hc^Ob I.made I.fn F (hr.mono hk) r hm I.b QZ cT g fC he cR).imp ?_;intro D σ H aP;rfl';obtain⟨B,ρ,E,⟨G,fp,S⟩,h,M⟩:=aP;ac_rfl;refine#[G,_,_,S.ex.sub,S.uO,h,λds u vs m Y v bN a g=>?_];rfl';let⟨ok,hl,hx⟩:=u;ac_rfl;have S1:=S.grow v;have y:m a=none:=v.sub.free g;refine#[a,vs,m,ds,rfl,af,y,v.sub.trans^aA g _,bN,ok,hl,λd zs n H' g1 g2 g3 g4 g5 q g7 g8 g9=>#[rfl,a,C,some d,rfl,g5,T.obj,T.cls.be,?_]];have Vg:d≠a:=λz=>by rw[z,af] at q;cases q
 have J:Y d=none:=by rw[ag Vg] at q;exact q
 have L:m d=none:=g1.free g8;have N:n a=none:=g4 a (by rw[af];exact λz=>nomatch z) y
 have x2:Ext m Y (upd (upd n d^EJ d^l.zip zs) a^pG C a^some d)^upd H' a^pG C a^some d:=by
  refine#[λb o c=>?_,λb o c=>?_,λb o c=>?_,λb O r=>?_]
  .rw[ag^ao c y,ag^ao c L];exact g1 _ _ c
  .by_cases z:b=a
   .rw[z,af] at c ⊢;exact c
   .rw[ag z] at c ⊢
    by_cases P:b=d
    .rw[P,af] at c;cases c;rw[P];exact g7
    .rw[ag P] at c;exact g2 _ _ c
  .have i:b≠a:=ao c g
   rw[ag i];exact g3 b o i^by rw[ag i];exact c
  .have i:b≠a:=λz=>O^by rw[z];exact g
   have Q:b≠d:=λz=>O^by rw[z];exact J
   rw[ag i,ag Q];exact g4 b (by rw[ag i];exact O) r
 have s2:aC n^upd (upd n d^EJ d^l.zip zs) a^pG C a^some d:=λb o c=>by rw[ag^ao c N,ag^ao c g8];exact c
 exact M.xc ρ _ hx σ _ _ fp a (S1.grow x2)^.err af (.inr #[d,rfl,by rw[ag Vg,af],by rw[g9.length];exact hl.symm])^g9.mono s2
end
section
variable {Z:DC} {X:Cx} {a:Expr} {ta:bb} {p p1 p2 p3 p4 pos:Pos}
end
section
variable {P:Program} {w:World} {K:ad} {mg:Str->Option Value} {base:Heap} {CX:pF} {k:Nat} {f:Addr} {fd:FuncData} {ps:List Str} {sp Tb:Sp}
def FnOk.up(F:FnOk P w K mg base fM k f fd ps sp):FnOk P w K mg base CX k f fd ps sp:=
 #[F.len,λA outer s H a b c Q E d g i j h=>adq (F.run A outer s H a b c Q E d g i j h) λr m q=>by
  cases r with
  |error e=>exact False.elim q
  |ok l=>cases l<;>exact q]
def FnOk.or(F:FnOk P w K mg base CX k f fd ps sp)(c:FnOk P w K mg base CX k f fd ps Tb):FnOk P w K mg base CX k f fd ps (λa H Q E=>sp a H Q E\/Tb a H Q E):=
 #[λa H Q E h=>h.elim (F.len a H Q E)^c.len a H Q E,λA outer s H b d a Q E e g i j h=>h.elim (F.run A outer s H b d a Q E e g i j)^c.run A outer s H b d a Q E e g i j]
end
section
variable {X:Cx} {k:Nat} {f C:Addr} {fd:FuncData} {ps:List Str} {sp:Sp} {x:Str} {p pos:Pos} {e:Expr} {es:List Expr} {t:TA}
theorem K5{pins:List (Addr×Obj)}{σ:St}{H:Hp}{s:c_}{Q:VK}{us:List b_}{vs:List V}(M:Mk X.K C f)(F:FnOk X.prog X.w X.K X.mg X.base (r8 X.prog X.w) k f fd ps sp)(hr:b8 (k+1) X.A)(hb:Binds X.K fd ps [])
  (I:Inv X pins σ H s) (r:Vals vs us)
  (h:∀x dx,H x=none->H dx=none->dx≠x->sp (.ref x::vs) (upd (upd H dx^.own x) x^.ins C dx []) (λv H2=>v= .aS/\Q (.ref x) H2)^MY X σ):
  d_ (d5 X.prog X.w) X.A (call (.ref C) us) (EP X pins σ Q) X.xe s:=by
 have hq:=h (s.heap.objs.size+1) s.heap.objs.size (I.hok.fresh^lS _) (I.hok.fresh^aZ _)^bX^Nat.lt_succ_self _;have I2:=Inv.made (C:=C) I;have r2:Vals (V.ref (s.heap.objs.size+1)::vs) (Value.ref (s.heap.objs.size+1)::us):= .cons rfl r
 have hl:(Value.ref (s.heap.objs.size+1)::us++ []).length=ps.length:=by
  have e:=r2.length;rw[F.len _ _ _ _ hq] at e;rw[fe];exact e.symm
 have Cp:=hb _ (Value.ref (s.heap.objs.size+1)::us) I2.dE hl;rw[fe] at Cp
 refine i_^D6 (f:=f) I.dE M.makes M.init (beq_iff_eq.mp M.fn) (je (F.run _ X.stack _ _ #[Value.ref (s.heap.objs.size+1)::us,[]] (Value.ref (s.heap.objs.size+1)::us) _ _ (MY X σ) (hr.make C us [])
  (I2.Ho.make C us []) Cp r2 hq) λr s' nW=>?_)
 cases r with
 |error e=>
  rfl';let⟨a,H',rfl,fl,a',ea,q⟩:=nW;cases ea;let⟨I3,f3⟩:=L5 I2 fl;ac_rfl;exact q s' I3 f3
 |ok fl=>
  cases fl with
  |ret u=>
   rfl';let⟨v,H',I3,rv,ev,q3⟩:=I2.after nW;subst ev;ac_rfl;exact#[rv,#[V.ref (s.heap.objs.size+1),H',I3,rfl,q3]]
  |next=>exact False.elim nW
  |brk=>exact False.elim nW
  |cont=>exact False.elim nW
def Wi(X:Cx)(C:Addr)(d:Sp)(t:TA):TE:=λc H Q=>t c H λg b=>∀x a,b x=none->b a=none->a≠x->d (.ref x::g) (upd (upd b a^.own x) x^.ins C a []) (λv h=>v= .aS/\Q (.ref x) h)^MY X c
def N8(M:Mk X.K C f)(F:FnOk X.prog X.w X.K X.mg X.base (r8 X.prog X.w) k f fd ps sp)(c:b8 (k+1) X.A)(d:Gl X x)(g:X.mg x\(.ref C))(i:Binds X.K fd ps [])
  (j:PA X (e::es) t) (l:(x==("__debug__":eg))=false<|>zm) (m:d4 (e::es) X.env=(false,f7 e X.env)::d4 es X.env<|>zn) (n:(gd pos^d4 es X.env).any (·.1)=false<|>zn):
  PE X (.Call (.Name x p) (e::es) [] pos)^Wi X C sp t:=by
 intro a s o H Q I h;refine SZ^i6 I d g ?_ l;refine adA (h₀:=X.base) I.ok.mod.kin M.kp (thn (j pos a s o H _ I h) λu v #[y,z,b,r,q]=>#[b.dE,?_]) m n;exact K5 M F c i b r q
end
section
variable {Z:DC} {X:Cx} {md:List Nat} {rn k j:Nat} {f:Addr} {fd:FuncData} {ps:List Str} {t:iE} {e:Expr} {es:List Expr} {x:Str} {p pos aY:Pos}
end
def gy(K:ad)(x:eg)(st:Stmt):Prop:=∃(d:Addr)(b c:Option Addr)(e:Array^Option b_)(f kV g h a i:b_),TZ K x d/\Ca K x x st d b c e f kV g h a i/\bf K a x=true/\am K^.ref d=true
def Jf(K:ad)(C:Addr)(m a:eg)(st:Stmt):Prop:=∃(d:Addr)(c e:Option Addr)(f:Array^Option b_)(g kV h i b j:b_),ak K (.ref C) m\(some^.ref d)/\bu K^.ref d=true/\Ca K m a st d c e f g kV h i b j/\bf K b a=true/\am K^.ref d=true
abbrev pH(K:ad)(x:Str):Prop:=ce K mainGlobals x\none
section
variable {K:ad} {h:Heap} {mg:Str->Option Value}
def dfH{x:eg}{st:Stmt}{d:Addr}{e f:Option Addr}{g:Array^Option b_}{i kV j m b n:b_}(a:TZ K x d)(l:Ca K x x st d e f g i kV j m b n)(c:bf K b x=true)(k:am K^.ref d=true):gy K x st:=#[_,_,_,_,_,_,_,_,_,_,a,l,c,k]
def mfH{C:Addr}{m b:eg}{st:Stmt}{d:Addr}{g i:Option Addr}{j:Array^Option b_}{n kV o p e q:b_}(a:ak K (.ref C) m\(some^.ref d))(f:bu K^.ref d=true)(l:Ca K m b st d g i j n kV o p e q)(c:bf K e b=true)(k:am K^.ref d=true):Jf K C m b st:=#[_,_,_,_,_,_,_,_,_,_,a,f,l,c,k]
noncomputable def bP.ch{x:eg}{st:Stmt}{d:List eg}(X:K.In h)(G:h.Ns fD mg)(e:gy K x st)
  (b:∀(kV f i:b_)(j:Option Addr)(m n:b_)(g:List b_),g.length=d.length->li (bv x x (ic st) (dB st) (aq st) .none kV f i j m n) #[g,[]]=pure^d.zip g):bP K mg x st d:=
 Classical.choice (by
  let⟨o,p,q,r,s,t,u,v,w,y,a,l,c,k⟩:=e;exact#[.of X G a l c k b])
noncomputable def EG.ch{Z:DC}{m d:eg}{st:Stmt}{g:List eg}(e:Jf Z.K Z.C m d st)
  (b:∀(kV i n:b_)(o:Option Addr)(p q:b_)(j:List b_),j.length=g.length->li (bv m d (ic st) (dB st) (aq st) .none kV i n o p q) #[j,[]]=pure^g.zip j):EG Z m d st g:=
 Classical.choice (by
  let⟨h,r,s,t,u,v,w,x,y,z,a,f,l,c,k⟩:=e;exact#[.of a f l c k b])
end
abbrev Dk(P:Program)(w:World)(base:Heap)(k:Nat){K:ad}{a:Str->Option Value}{x:Str}{st:Stmt}{b:List Str}(D:bP K a x st b)(c:Sp):Prop:=FnOk P w K a base fM k D.f D.fd b c
abbrev Dx(P:Program)(w:World)(base:Heap)(k:Nat){K:ad}{a:Str->Option Value}{x:Str}{st:Stmt}{b:List Str}(D:bP K a x st b)(c:Sp):Prop:=FnOk P w K a base (r8 P w) k D.f D.fd b c
section
variable {K:ad} {E M:Addr}
def T3{p:Addr->Prop}:∀a∈([]:List Addr),p a:=λ_ h=>nomatch h
def O5{p:Addr->Prop}{a:Addr}{l:List Addr}(h:p a)(k:∀x∈l,p x):∀x∈a::l,p x:=λx b=>by
 rcases b7.mp b with rfl|b
 .exact h
 .exact k x b
structure KitX (K:ad) (E:Addr) (Zf Mf Mt:List Addr):Prop where
 ve:cy K (.ref E)^.type "ValueError"\true
 zf:∀a∈Zf,cy K (.ref E)^.ref a\false
 mf:∀a∈Mf,cm K E^.ref a\false
 mt:∀a∈Mt,cm K E^.ref a\true
variable {Zf Mf Mt:List Addr}
def KitX.m0(h:KitX K E Zf Mf Mt)(i:Nat)(e:Mf[i]?\a):cm K E^.ref a\false:=h.mf a^cU e
def KitX.m1(h:KitX K E Zf Mf Mt)(i:Nat)(e:Mt[i]?\a):cm K E^.ref a\true:=h.mt a^cU e
structure MW (K:ad) (C:Addr) (init:b_):Prop where
 call:bi K (.ref C) "__call__"\(some^.builtin "type.__call__")
 typ:dH K (.ref C)^.type "type"\true
 ini:ak K (.ref C) "__init__"\(some init)
 kp:am K^.ref C=true
def OS(K:ad)(E:Addr)(a:eg)(st:Stmt):Prop:=∃(J:Addr)(c d:Option Addr)(e:Array^Option b_)(f g h i b j:b_),MW K E^.ref J/\bu K^.ref J=true/\Ca K "__init__" a st J c d e f g h i b j/\bf K b a=true/\am K^.ref J=true
def jnH{e:eg}{st:Stmt}{J:Addr}{h i:Option Addr}{j:Array^Option b_}{n o p q g r:b_}(a:bi K (.ref E) "__call__"\(some^.builtin "type.__call__"))(b:dH K (.ref E)^.type "type"\true)
  (c:ak K (.ref E) "__init__"\(some^.ref J)) (d:am K^.ref E=true) (f:bu K^.ref J=true) (l:Ca K "__init__" e st J h i j n o p q g r) (m:bf K g e=true) (k:am K^.ref J=true):OS K E e st:=
 #[_,_,_,_,_,_,_,_,_,_,#[a,b,c,d],f,l,m,k]
def MW.mk'(h:MW K E init)(o:oN K E):GK K E init:=#[o,h.call,h.typ,h.ini,h.kp]
noncomputable def EI.ch{a:eg}{st:Stmt}{c:List eg}(e:OS K E a st)(o:oN K E)
  (b:∀(kV d h:b_)(i:Option Addr)(j n:b_)(g:List b_),g.length=c.length->li (bv "__init__" a (ic st) (dB st) (aq st) .none kV d h i j n) #[g,[]]=pure^c.zip g):EI K E a st c:=
 Classical.choice (by
  let⟨J,p,q,r,s,t,u,v,w,y,x,f,l,m,k⟩:=e;exact#[#[J,_,nV l m k,(nV l m k).binds b,x.mk' o,f]])
structure O4 (K:ad) (M C:Addr):Prop where
 xe:XE K C
def Ww{N:Addr}{b:ClassData}{c q:eg}{bs:List b_}{d:Bool}{e:List eg}{sub:List b_}{f:Bool}{a:Option Bool}{g:Option Addr}{h i j k l:Option b_}
  (m:cq K E=true) (n:ak K (.ref E) "__getattribute__"\(some^.builtin "BaseException.__getattribute__")) (o:ak K (.ref E) "__getattr__"\none)
  (p:ak K (.ref E) "__setattr__"\(some^.builtin "object.__setattr__")) (r:ak K (.ref E) "__class__"\(some^.builtin "object.__class__"))
  (s:PySem.W.clsIn K E\b) (t:b.mro= .ref E:: [.ref M, .type "ValueError", .type "Exception", .type "BaseException", .type "object"])
  (lo:K.lookup E\(hX c q E N bs [.ref M, .type "ValueError", .type "Exception", .type "BaseException", .type "object"] d e sub f a g h i j k l "ValueError.__new__")):O4 K M E:=#[aaz m n o p r s t lo rfl rfl]
end
end L2
namespace wK
open PySem L2 Wb
noncomputable def top(i:Nat):Stmt:=PySem.Challenge.pw_mapdye_k75_whole_crossed_back.main.body.getD i^.Pass #[0,0,0,0]
abbrev mQ:Stmt:=top 12
abbrev qs:Stmt:=top 13
abbrev Bj:Stmt:=top 14
abbrev qr:Stmt:=top 15
abbrev mP:Stmt:=top 16
abbrev qq:Stmt:=top 19
abbrev lH:Stmt:=top 20
abbrev mR:Stmt:=top 21
abbrev lK:Stmt:=top 22
abbrev mO:Stmt:=top 23
abbrev eF:Stmt:=top 24
abbrev lI:Stmt:=top 25
abbrev lJ:Stmt:=top 26
abbrev qt:Stmt:=top 29
abbrev iD:Stmt:=top 30
abbrev ja:Stmt:=top 31
abbrev fA:Stmt:=top 32
abbrev oE:Stmt:=top 33
abbrev vW:Stmt:=top 35
abbrev sP:Stmt:=top 36
abbrev qp:Stmt:=top 37
abbrev vX:Stmt:=top 38
abbrev vY:Stmt:=top 39
abbrev oz:Stmt:=top 40
abbrev mN:Stmt:=top 41
abbrev yH:Stmt:=top 42
abbrev oP:Stmt:=top 43
abbrev yI:Stmt:=top 44
abbrev mM:Stmt:=top 45
abbrev j8:Stmt:=top 46
abbrev j9:Stmt:=top 49
abbrev fU:Stmt:=top 50
abbrev gJ:Stmt:=top 51
abbrev Bk:Stmt:=top 52
abbrev f6:Stmt:=L2.gU (top 27) 0
abbrev qo:Stmt:=L2.gU (top 27) 1
abbrev kP:Stmt:=L2.gU (top 27) 2
abbrev mw:Stmt:=L2.gU (top 27) 3
abbrev yG:Stmt:=L2.gU (top 27) 4
abbrev mL:Stmt:=L2.gU (top 27) 5
abbrev gI:Stmt:=L2.gU (top 8) 0
def jv:aH ["self","counted"] ["self","counted"]^aq gI:=by bv_omega
abbrev iK:Stmt:=L2.gU (top 9) 0
def kr:aH ["self","tie"] ["self","tie"]^aq iK:=by bv_omega
abbrev iL:Stmt:=L2.gU (top 10) 0
def ku:aH ["self","one","other"] ["self","one","other"]^aq iL:=by bv_omega
def qA:aH ["web","side","sides","p","q"] ["web","side"]^aq mQ:=by bv_omega
def En:aH ["web","walked","told","side","sides","step"] ["web"]^aq qs:=by bv_omega
def Em:aH ["web"] ["web"]^aq Bj:=by bv_omega
def wc:aH ["web","points","ties","rounds"] ["web"]^aq qr:=by bv_omega
def qz:aH ["web"] ["web"]^aq mP:=by bv_omega
def wb:aH ["thing","many"] ["thing","many"]^aq qq:=by bv_omega
def oR:aH ["rows","p","row","q"] ["rows"]^aq lH:=by bv_omega
def qB:aH ["rows","p","row"] ["rows"]^aq mR:=by bv_omega
def oV:aH ["rows","p","row","place","q"] ["rows"]^aq lK:=by bv_omega
def qy:aH ["rows","p","row","q"] ["rows"]^aq mO:=by bv_omega
def jb:aH ["rows","reached","waiting","p","q"] ["rows"]^aq eF:=by bv_omega
def oS:aH ["rows","q","reached"] ["rows"]^aq lI:=by bv_omega
def oU:aH ["rows","fault"] ["rows"]^aq lJ:=by bv_omega
def wd:aH ["land"] ["land"]^aq qt:=by bv_omega
def nE:aH ["web"] ["web"]^aq iD:=by bv_omega
def lM:aH ["web","number_of","a","b"] ["web","number_of"]^aq ja:=by bv_omega
def jT:aH ["rows","one","row","shared"] ["rows"]^aq fA:=by bv_omega
def yJ:aH ["web","number_of","rows"] ["web"]^aq oE:=by bv_omega
def sR:aH ["_law_turns","_law_side","_law_p","_law_q"] ["_law_turns","_law_side"]^aq oz:=by bv_omega
def qw:aH ["_law_turns","_law_side","_law_found","_law_here"] ["_law_turns","_law_side"]^aq mN:=by bv_omega
def qv:aH ["_law_turns","_law_found","_law_seen","_law_p","_law_turn","_law_q","_law_side"] ["_law_turns"]^aq mM:=by bv_omega
def nA:aH ["_law_turns","_law_found","_law_number","_law_sides","_law_side"] ["_law_turns"]^aq j8:=by bv_omega
def nB:aH ["_law_web_here","_law_found"] ["_law_web_here"]^aq j9:=by bv_omega
def kz:aH ["_law_one","_law_other"] ["_law_one","_law_other"]^aq fU:=by bv_omega
def oQ:aH ["_law_turns","_law_rows","_law_by_side_here","_law_places_here","_law_p","_law_turn","_law_around","_law_some"] ["_law_turns","_law_rows"]^aq gJ:=by bv_omega
def MB:aH ["_law_script","_law_most","_law_turns","_law_web_here","_law_found","_law_told","_law_places_here","_law_back","_law_p","_law_turn"] ["_law_script"]^aq Bk:=by bv_omega
def hJ:aH ["self","turns","rows","fault"] ["self","turns"]^aq f6:=by bv_omega
def vZ:aH ["self"] ["self"]^aq qo:=by bv_omega
def sQ:aH ["self"] ["self"]^aq kP:=by bv_omega
def wa:aH ["self"] ["self"]^aq mw:=by bv_omega
def qu:aH ["self","p","q","row"] ["self","p","q"]^aq mL:=by bv_omega
set_option genInjectivity false in
structure Txt (Z:DC) (mg:Str->Option Value) where
 B:aaG mg
 u0:mg "set"=none
 u1:mg "dict"=none
 u2:bP Z.K mg "round_from" mQ ["web","side"]
 u3:bP Z.K mg "lands" qs ["web"]
 u4:bP Z.K mg "count" Bj ["web"]
 u5:bP Z.K mg "is_plane" qr ["web"]
 u6:bP Z.K mg "need_plane" mP ["web"]
 u7:bP Z.K mg "is_among" qq ["thing","many"]
 u8:bP Z.K mg "alien_fault" lH ["rows"]
 u9:bP Z.K mg "self_fault" mR ["rows"]
 ua:bP Z.K mg "twice_fault" lK ["rows"]
 ub:bP Z.K mg "lone_fault" mO ["rows"]
 uc:bP Z.K mg "reached_from_first" eF ["rows"]
 ud:bP Z.K mg "apart_fault" lI ["rows"]
 ue:bP Z.K mg "first_fault" lJ ["rows"]
 uf:bP Z.K mg "sides_of" qt ["land"]
 ug:bP Z.K mg "land_numbers" iD ["web"]
 uh:bP Z.K mg "need_no_bridge" ja ["web","number_of"]
 ui:bP Z.K mg "need_none_shared" fA ["rows"]
 uj:bP Z.K mg "crossed" oE ["web"]
 uk:bP Z.K mg "_law_cell" vW ["_law_script","_law_k"]
 ul:bP Z.K mg "_law_mixed" sP ["_law_script","_law_turn"]
 um:bP Z.K mg "_law_digits" qp ["_law_script","_law_at"]
 un:bP Z.K mg "_law_take" vX ["_law_left","_law_many"]
 uo:bP Z.K mg "_law_tree" vY ["_law_many","_law_left"]
 up:bP Z.K mg "_law_next" oz ["_law_turns","_law_side"]
 uq:bP Z.K mg "_law_round" mN ["_law_turns","_law_side"]
 ur:bP Z.K mg "_law_tie" yH ["_law_turns","_law_left","_law_plane_here"]
 us:bP Z.K mg "_law_renamed" oP ["_law_turns","_law_order","_law_left"]
 ut:bP Z.K mg "_law_web" yI ["_law_script","_law_most","_law_plane_here"]
 uu:bP Z.K mg "_law_lands" mM ["_law_turns"]
 uv:bP Z.K mg "_law_by_side" j8 ["_law_turns"]
 uw:bP Z.K mg "_law_crossed" j9 ["_law_web_here"]
 ux:bP Z.K mg "_law_goes_round" fU ["_law_one","_law_other"]
 uy:bP Z.K mg "_law_places" gJ ["_law_turns","_law_rows"]
 uz:bP Z.K mg "law" Bk ["_law_script"]
 W:LM Z
 mC:mg "Web"\(.ref Z.C)
 v0:Addr
 v1:FuncData
 v2:uG Z.K "__init__" "Web.__init__" f6 v0 v1
 v3:Mk Z.K Z.C v0
 v4:Binds Z.K v1 ["self","turns"] []
 v5:EG Z "many" "Web.many" qo ["self"]
 v6:EG Z "turns" "Web.turns" kP ["self"]
 v7:EG Z "ties" "Web.ties" mw ["self"]
 v8:EG Z "tied" "Web.tied" yG ["self","a","b"]
 v9:EG Z "behind" "Web.behind" mL ["self","p","q"]
 iX:IsX Z.K
 va:Addr
 vb:mg "MapError"\(.ref va)
 vc:Addr
 vd:mg "TooMany"\(.ref vc)
 ve:Addr
 vf:mg "NotPlane"\(.ref ve)
 vg:Addr
 vh:mg "Bridge"\(.ref vg)
 vi:Addr
 vj:mg "Shared"\(.ref vi)
 vk:XE Z.K vc
 vl:XE Z.K ve
 vm:XE Z.K vg
 vn:XE Z.K vi
 xb:XBs Z.K mg va
 vo:EI Z.K ve "NotPlane.__init__" gI ["self","counted"]
 vp:gO Z.K ve "counted"
 vq:KitX Z.K ve [] [vc,vg,vi] []
 vr:EI Z.K vg "Bridge.__init__" iK ["self","tie"]
 vs:gO Z.K vg "tie"
 vt:KitX Z.K vg [] [vc,vi] [vg]
 vu:EI Z.K vi "Shared.__init__" iL ["self","one","other"]
 vv:gO Z.K vi "one"
 vw:gO Z.K vi "other"
 vx:KitX Z.K vi [] [vc,vg] [vi]
 vy:GK Z.K vc (.builtin "ValueError.__init__")
 vz:KitX Z.K vc [] [vg,vi] [vc]
 y0:∃tk,mg "__name__"\(.str "law_mapdye_k75_whole_crossed_back" tk)
 y1:∃tk,mg "MOST_POINTS"\(.int 14 tk)
variable {P:Program} {w:World} {mg:Str->Option Value} {base:Heap} {Z:DC} (T:Txt Z mg)
def Tc:fh:=λa P=>∃(i n:Int),a= [.int i, .int n]/\P^.bl (decide (0<=i/\i<n))
def FJ:Dk P w base 1 T.u7^aU Z Tc:=by
 have d:=wb.nd;refine bx T.u7.F wb [0,0] ∅ (λb R h=>by let⟨g,j,rfl,k⟩:=h;rfl)^λe A outer s H E b R c h=>?_
 have f:=c.units;exists _,(av^aW^LU (LV "int" (U 0) rfl T.B.isinstance rfl T.B.int T6)^LU (Uk^LV "bool" (U 0) rfl T.B.isinstance rfl T.B.bool Pd)^LW^M7 AU RK bH (U 0)^U 1);let⟨i,n,rfl,q⟩:=h;refine#[_,rfl,rfl,true,rfl,dD #[_,rfl,rfl,false,rfl,true,rfl,dD #[_,rfl,?_]]];refine#[_,rfl,fT (λa=>#[_,rfl,?_])^λa=>?_]
 .have a:0<=i:=KF a
  show R^.bl (decide (i<n));rw[show decide (i<n)=decide (0<=i/\i<n) by simp[a]]
  exact q
 .have a:¬0<=i:=UF a
  rw[show decide (0<=i/\i<n)=false by simp[a]] at q
  exact q
def zP:fh:=λa P=>∃(w:W),a= [bz w]/\C2 w/\1<=w.length/\w.length<=14/\P .aS
def wz{w:W}(h:(c9^w.map aE)[j]?\d):j<w.length/\d= .tup [.int (j:Int),aE^row w j]:=by
 let⟨x,b,rfl⟩:=lq h;let⟨r,a,rfl⟩:=dF b;have c:j<w.length:=(cD.mp a).1;exists c;rw[VY a]
def zt:Dk P w base 2 T.u8^aU Z zP:=by
 have c:=oR.nd;refine bx T.u8.F oR [0,0,0,0] ∅ (λm R h=>by let⟨D,rfl,K⟩:=h;rfl)^λv A outer s H E m R l h=>?_
 have y:=l.units
 refine#[_,(aw (dO rfl FS (eY rfl T.B.enumerate^aa (U 0) ar) (fS 2 rfl^aR (aN 1 c)^aR (aN 2 c) cW)^av^dO rfl FS (b9^U 2) (aN 3 c)^av^dA (nP^mh^aL T.u7 (FJ T) l^aa (U 3)^aa (bC fw rfl T.B.len fu^aa (U 0) ar) ar) (av^aW^dN^aa uL^aa (U 1)^aa (U 3) ar) bw)
   (av^aW eX)),?_]
 let⟨a,rfl,g,z,h14,q⟩:=h;refine#[_,rfl,cw (λ_ e=>∃f i b,e= [some^bz a,f,i,b]) #[_,_,_,rfl] ?_ ?_]
 .rintro j d _ n ⟨f,i,b,rfl⟩ A o
  let⟨C,rfl⟩:=wz n;exists rfl,rfl;refine#[_,rfl,cw (λ_ e=>∃b,e= [some^bz a,some^.int (j:Int),some^aE^row a j,b]) #[_,rfl] ?_ ?_]
  .rintro k G _ p ⟨r,rfl⟩ I t
   let⟨x,u,rfl⟩:=dF p;refine#[_,rfl,_,rfl,_,_,rfl,#[rfl,?_]];have J:x<a.length:=g.rng _ _^cU u;rw[show decide ((0:Int)<=(x:Int)/\(x:Int)<((a.map aE).length:Int))=true by simp;lia]
   exact cO^t _ #[_,rfl]
  .rintro _ ⟨r,rfl⟩
   exact o _ #[_,_,_,rfl]
 .rintro _ ⟨f,i,b,rfl⟩
  exact q
def A1:Dk P w base 1 T.u9^aU Z zP:=by
 have f:=qB.nd;refine bx T.u9.F qB [0,0,0] ∅ (λi R h=>by let⟨x,rfl,y⟩:=h;rfl)^λo A outer s H E i R k h=>?_
 have t:=k.units
 refine#[_,(aw (dO rfl FS (eY rfl T.B.enumerate^aa (U 0) ar) (fS 2 rfl^aR (aN 1 f)^aR (aN 2 f) cW)^av^dA (cf RH (U 1) (U 2)^by with_unfolding_all rfl) (av^aW^dN^aa uL^aa (U 1)^aa (U 1) ar) bw)
   (av^aW eX)),?_]
 let⟨a,rfl,g,u,h14,q⟩:=h;refine#[_,rfl,cw (λ_ l=>∃b c,l= [some^bz a,b,c]) #[_,_,rfl] ?_ ?_]
 .rintro j d _ m ⟨b,c,rfl⟩ A n
  let⟨v,rfl⟩:=wz m;exists rfl,rfl;exists _,rfl,_,rfl,rfl,kR _,_,rfl
  have e:inD (.int (j:Int))^(row a j).map az=false:=by
   have:=Aw (r:=row a j) (p:=j)
   rw[GE^g.irr j] at this;exact this
  rw[mo dZ,e];exact cO^n _ #[_,_,rfl]
 .rintro _ ⟨b,c,rfl⟩
  exact q
def tq(l:List a)(k:Nat)(h:k<=l.length):cutD l none^some (k:Int)=l.take k:=by
 unfold cutD;have b:HT.cn l.length 0 none=0:=rfl
 have c:HT.cn l.length l.length^some (k:Int)=k:=by
  simp only[HT.cn]
  split<;>lia
 rw[b,c];simp
def zv:Dk P w base 1 T.ua^aU Z zP:=by
 have f:=oV.nd;refine bx T.ua.F oV [0,0,0,0,0] ∅ (λr R h=>by let⟨D,rfl,K⟩:=h;rfl)^λO A outer s H E r R t h=>?_
 have Q:=t.units
 refine#[_,(aw (dO rfl FS (eY rfl T.B.enumerate^aa (U 0) ar) (fS 2 rfl^aR (aN 1 f)^aR (aN 2 f) cW)^av^dO rfl FS (eY rfl T.B.enumerate^aa (U 2) ar) (fS 2 rfl^aR (aN 3 f)^aR (aN 4 f) cW)^av^dA (cf RH (U 4) (mY (U 2) pO^pP^U 3)^by with_unfolding_all rfl) (av^aW^dN^aa uL^aa (U 1)^aa (U 4) ar) bw)
   (av^aW eX)),?_]
 let⟨a,rfl,g,S,h14,q⟩:=h;refine#[_,rfl,cw (λ_ i=>∃l n b c,i= [some^bz a,l,n,b,c]) #[_,_,_,_,rfl] ?_ ?_]
 .rintro j d _ u ⟨l,n,b,c,rfl⟩ A v
  let⟨X,rfl⟩:=wz u;exists rfl,rfl;refine#[_,rfl,cw (λ_ i=>∃b c,i= [some^bz a,some^.int (j:Int),some^aE^row a j,b,c]) #[_,_,rfl] ?_ ?_]
  .rintro k Y _ C ⟨G,I,rfl⟩ A' J
   let⟨y,L,rfl⟩:=lq C;let⟨x,p,rfl⟩:=dF L;have gG:k<(row a j).length:=(cD.mp p).1;exists rfl,rfl;exists _,rfl,_,rfl,_,rfl;have M:cutD ((row a j).map az) none^some (k:Int)=((row a j).take k).map az:=by rw[tq _ _^by simp;lia,yg]
   refine(?_:Uc false (az x) (.lst^cutD ((row a j).map az) none^some (k:Int)) _);rw[M];exists rfl,kR _,_,rfl
   have e:inD (az x)^((row a j).take k).map az=false:=by
    rw[Aw,GE];intro z;let⟨m,o⟩:=jw z
    have N:m<k:=by
     have:=(cD.mp o).1
     rw[hV] at this;lia
    rw[Gx N] at o;exact absurd ((aee ()^g.nod j).mp^o.trans p.symm) ()
   rw[mo dZ,e];exact cO^J _ #[_,_,rfl]
  .rintro _ ⟨G,I,rfl⟩
   exact v _ #[_,_,_,_,rfl]
 .rintro _ ⟨l,n,b,c,rfl⟩
  exact q
def AZ:Dk P w base 1 T.ub^aU Z zP:=by
 have f:=qy.nd;refine bx T.ub.F qy [0,0,0,0] ∅ (λn R h=>by let⟨D,rfl,K⟩:=h;rfl)^λI A outer s H E n R o h=>?_
 have J:=o.units
 refine#[_,(aw (dO rfl FS (eY rfl T.B.enumerate^aa (U 0) ar) (fS 2 rfl^aR (aN 1 f)^aR (aN 2 f) cW)^av^dO rfl FS (b9^U 2) (aN 3 f)^av^dA (cf NY (U 1) (gE (U 0)^U 3)^by with_unfolding_all rfl) (av^aW^dN^aa uL^aa (U 1)^aa (U 3) ar) bw)
   (av^aW eX)),?_]
 let⟨a,rfl,g,L,h14,q⟩:=h;refine#[_,rfl,cw (λ_ i=>∃l m b,i= [some^bz a,l,m,b]) #[_,_,_,rfl] ?_ ?_]
 .rintro j d _ t ⟨l,m,b,rfl⟩ A u
  let⟨M,rfl⟩:=wz t;exists rfl,rfl;refine#[_,rfl,cw (λ_ i=>∃b,i= [some^bz a,some^.int (j:Int),some^aE^row a j,b]) #[_,rfl] ?_ ?_]
  .rintro k N _ v ⟨y,rfl⟩ O z
   let⟨x,C,rfl⟩:=dF v;have c:=cU C;have G:x<a.length:=g.rng _ _ c;exists _,rfl,_,rfl,_,rfl,_,jA^wA G,rfl,kR _,_,rfl
   have e:inD (.int (j:Int))^(row a x).map az=true:=by
    have:=Aw (r:=row a x) (p:=j)
    rw[Gc^g.sym _ _ c] at this;exact this
   rw[ir rfl,e];exact cO^z _ #[_,rfl]
  .rintro _ ⟨y,rfl⟩
   exact u _ #[_,_,_,rfl]
 .rintro _ ⟨l,m,b,rfl⟩
  exact q
noncomputable def y9(bs:List Bool):List D:=bs.map D.bl
def Pg{bs:List Bool}{i:Nat}{b:Bool}(h:bs[i]?\b):(y9 bs)[i]?\(.bl b):=by unfold y9;rw[cL,h];rfl
def GX(bs:List Bool)(i:Nat)(b:Bool):(y9 bs).set i^.bl b=y9^bs.set i b:=by unfold y9;rw[List.map_set]
def GW(bs:List Bool):(y9 bs).length=bs.length:=aI _
def DS{n k:Nat}(h:k<n):pB n (k:Int)\k:=by unfold pB;rw[ir (),ir ()];simp
def Lc:fh:=λa P=>∃(w:W),a= [bz w]/\C2 w/\1<=w.length/\w.length<=14/\∀bs m,RI w bs [] [] m->(∀x,bs[x]?\true->Reach w 0 x)->P^.lst^y9 bs
def Met(w:W)(bs:List Bool):Prop:=∀x,bs[x]?\true->Reach w 0 x
def oi:Dk P w base 1 T.uc^aU Z Lc:=by
 have B:=jb.nd;refine bx T.uc.F jb [0,1,1,0,0] ∅ (λds R h=>by let⟨K,rfl,V⟩:=h;rfl)^λaV A outer s H E ds R hr h=>?_
 have hu:=hr.units
 refine#[_,(aw (Nb 1 (NC:= ["row"]) (src:= [none]) rfl B (uI^aq eF) trivial (b9^U 0) (λ_ _ _=>(bQ 0 (show(["row"]:List eg).Nodup from by decide+kernel))) (λ_ _ _=>eZ)^λ_ _ _=>mE)
   (aw (Dh false 1 bH mE)
   (aw (qX 2 B^qU^aa bH ar)
   (aw (wY FS (mh^U 2)^aw (Ur 3 2 B)
   (av^dO rfl FS (b9^gE (U 0)^U 3) (aN 4 B)^av^dA (nP^mh^gE (U 1)^U 4) (aw (Dh false 1 (U 4) mE)
   (av^qW false 2^U 4)) bw))
   (av^aW^U 1))))),?_]
 let⟨c,rfl,g,h1,h14,q⟩:=h;refine#[_,rfl,nZ (ρ:= [none]) aE (λ_=> .bl false) c _ (λy b Y h=>h) rfl (small ()) λaJ=>?_]
 have e0:c.map (λ_=>D.bl false)=y9^b5 c.length false:=by unfold y9;rw[List.map_replicate,List.map_const']
 rw[e0];refine#[trivial,_,rfl,0,0,rfl,by rw[GW,yW];exact DS (k:=0) (),?_]
 rw[GX];refine#[by show 1<=sizeLine;decide,?_]
 refine uA (λm ρ=>∃(bs:List Bool)(l:List Nat)(S C:Option D),ρ= [some^bz c,some^.lst^y9 bs,some^.lst^l.map az,S,C]/\RI c bs l [] m/\Met c bs/\m<=14/\bs.count false+l.length=m) c.length ?_ ?_
 .refine#[_,[0],none,none,rfl,#[by simp,?_,?_,λx d=>?_,?_],λx d=>?_,h14,?_]
  .rw[pb,ir rfl,ir^by rw[yW];lia]
  .intro x d
   have:x=0:=by simpa using d
   rw[this,pb,ir rfl,ir^by rw[yW];lia]
  .by_cases e:0=x
   .exact .inl^by rw[<-e];simp
   .rw[pb,mo e,yU] at d
    split at d<;>cases d
  .rw[aeT^by rw[yW];lia,afe,afM]
   simp;lia
  .by_cases e:0=x
   .rw[<-e];exact .refl _
   .rw[pb,mo e,yU] at d
    split at d<;>cases d
  .rw[aeT^by rw[yW];lia,afe,afM]
   simp;lia
 .rintro m _ ⟨bs,l,S,C,rfl,G,mt,hc,o⟩
  exists _,rfl,rfl
  rcases List.eq_nil_or_concat l with rfl| ⟨i,p,e⟩
  .exact cO #[_,rfl,q bs m G mt]
  .rw[aev] at e
   subst e;rw[show Ex^.lst^(i++ [p]).map az=true by simp[Ex]]
   refine dD ?_;rw[dJ] at o;simp only[GB] at o;obtain⟨r,rfl⟩:∃r,m=r+1:=#[m-1,()]
   have N:=G.pop;have X:bs[p]?\true:=G.wt p^by simp
   have J0:p<c.length:=by rw[<-G.len];exact(cD.mp X).1
   refine#[i.map az,az p,by rw[dk];rfl,?_]
   refine#[_,rfl,_,rfl,_,jA^wA J0,cw (λj ρ=>∃(a:List Bool)(f:List Nat)(C:Option D),ρ= [some^bz c,some^.lst^y9 a,some^.lst^f.map az,some^az p,C]/\RI c a f [p] r/\Met c a/\(∀k y,k<j->(row c p)[k]?\y->a[y]?\true)/\a.count false+f.length=r) ?_ ?_ ?_]
   .exact#[bs,i,_,rfl,N,mt,(λk n t=>by lia),()]
   .rintro j x _ d ⟨a,f,o5,rfl,u,I,J,O⟩ A hA
    let⟨n,L,rfl⟩:=dF d;have Zr:=g.rng _ _^cU L;have Q:n<a.length:=by rw[u.len];exact Zr
    have v:a[n]?\(a[n]):=bA Q;exists _,rfl,_,rfl,_,jA^Pg v,rfl;generalize a[n]=bn at v;cases bn with
    |true=>
     refine cO^hA _ #[a,f,_,rfl,u,I,λk y t b=>?_,O]
     by_cases e:k=j
     .rw[e,L] at b;cases b;exact v
     .exact J k y () b
    |false=>
     refine dD ?_;refine#[trivial,_,rfl,_,rfl,_,n,rfl,by rw[GW];exact DS Q,?_]
     rw[GX];have M:=u.push v;have ac4:=M.cnt;refine#[_,rfl,_,rfl,trivial,bL^by rw[aI];lia,?_]
     have er:f.map az++ [az n]=(f++ [n]).map az:=by rw[dk];rfl
     rw[er];refine hA _ #[a.set n true,f++ [n],_,rfl,M,λy b=>?_,λk y t b=>?_,?_]
     .by_cases e:n=y
      .rw[<-e];exact .step (mt p X)^cU L
      .rw[pb,mo e] at b;exact I y b
     .rw[pb]
      by_cases e:n=y
      .rw[ir e,ir Q]
      .rw[mo e]
       refine J k y ?_ b;apply FM;intro z
       have:k=j:=()
       rw[this,L] at b;cases b;exact e rfl
     .obtain⟨hl,he⟩:=cD.mp v
      have:0<a.count false:=aeZ.mpr^by rw[<-he];exact iT hl
      rw[aeT hl,he,dJ];simp;lia
   .rintro _ ⟨a,f,o5,rfl,u,I,J,O⟩
    have M:=u.close λy b=>by
     let⟨k,t⟩:=jw b;exact J k y (by rw[aI];exact(cD.mp t).1) t
    exact#[r,(),a,f,_,_,rfl,M,I,(),O]
def IJ:fh:=λa P=>∃(w:W),a= [bz w]/\C2 w/\1<=w.length/\w.length<=14/\(Good w->P .aS)/\(¬Good w->∀q,P^.tup [.str "apart", .int 0,az q])
def zu:Dk P w base 2 T.ud^aU Z IJ:=by
 have i:=oS.nd;refine bx T.ud.F oS [0,0,0] ∅ (λr R h=>by let⟨D,rfl,K⟩:=h;rfl)^λL A outer s H E r R l h=>?_
 have M:=l.units
 refine#[_,(aw (dO rfl FS (eY rfl T.B.enumerate^aa (aL T.uc (oi T) l^aa (U 0) ar) ar) (fS 2 rfl^aR (aN 1 i)^aR (aN 2 i) cW)^av^dA (nP^mh^U 2) (av^aW^dN^aa uL^aa bH^aa (U 1) ar) bw)
   (av^aW eX)),?_]
 let⟨n,rfl,g,t,h14,u,v⟩:=h;refine#[_,rfl,n,rfl,g,t,h14,λbs m o mt=>cw (λk z=>(∀x,x<k->bs[x]?\true)/\∃c f,z= [some^bz n,c,f]) #[λx q=>absurd q^Nat.not_lt_zero x,_,_,rfl] ?_ ?_]
 .rintro j d _ C ⟨up,c,f,rfl⟩ A G
  let⟨y,I,rfl⟩:=lq C;let⟨b,a,rfl⟩:=dF I;exists rfl,rfl;cases b with
  |true=>
   refine#[_,rfl,rfl,cO^G _ #[λx q=>?_,_,_,rfl]]
   by_cases e:x=j
   .rw[e];exact a
   .exact up x ()
  |false=>
   refine#[_,rfl,rfl,dD #[_,rfl,by show 3<=sizeLine;decide,v (λJ=>?_) j]]
   have:=o.all J
   rw[this,yU] at a
   split at a<;>cases a
 .rintro _ ⟨up,c,f,rfl⟩
  refine u (g.good λp N=>mt p^up p ?_)
  have:=o.len
  unfold y9 c9;simp;lia
def oO:Dk P w base 3 T.ue^aU Z IJ:=by
 have b:=oU.nd;refine bx T.ue.F oU [0,0] ∅ (λf R h=>by let⟨m,rfl,n⟩:=h;rfl)^λk A outer s H E f R a h=>?_
 have l:=a.units
 refine#[_,(aw (cz false 1 b^aL T.u8 (zt T) a^aa (U 0) ar)
   (aw (dA (cf xH (U 1) eX^bJ _) (av^cz false 1 b^aL T.u9 (A1 T) a^aa (U 0) ar) bw)
   (aw (dA (cf xH (U 1) eX^bJ _) (av^cz false 1 b^aL T.ua (zv T) a^aa (U 0) ar) bw)
   (aw (dA (cf xH (U 1) eX^bJ _) (av^cz false 1 b^aL T.ub (AZ T) a^aa (U 0) ar) bw)
   (aw (dA (cf xH (U 1) eX^bJ _) (av^cz false 1 b^aL T.ud (zu T) a^aa (U 0) ar) bw)
   (av^aW^U 1)))))),?_]
 let⟨c,rfl,g,d,h14,i,j⟩:=h;exists _,rfl,c,rfl,g,d,h14,trivial;refine#[_,rfl,_,rfl,dD #[_,rfl,c,rfl,g,d,h14,trivial,?_]];refine#[_,rfl,_,rfl,dD #[_,rfl,c,rfl,g,d,h14,trivial,?_]];refine#[_,rfl,_,rfl,dD #[_,rfl,c,rfl,g,d,h14,trivial,?_]];refine#[_,rfl,_,rfl,dD #[_,rfl,c,rfl,g,d,h14,λe=>#[trivial,_,rfl,i e],λe q=>#[trivial,_,rfl,j e q]]]
def nq{P:ee}{w:ei}{base:Heap}{Z:DC}(T:Txt Z m):FnOk P w Z.K m base fM 4 T.v0 T.v1 ["self","turns"]^Bo Z:=by
 have Ql:=oO (P:=P) (w:=w) (base:=base) T;have n:=hJ.nd;refine T.v2.ok hJ (λL H Q E h=>?_)^λaV A outer s H L Q E r h=>?_
 .obtain⟨p,u,v,G,a,rfl,_⟩:=h;rfl
 let⟨p,u,v,G,a,rfl,x,M,N,dv,g,O,h14,q⟩:=h;have hu:=r.units
 refine#[_,aG (t:=n4 Z _ [0,0,0,0] 0 _)
   (dA (nP^Dj AU AU bH (bC fw rfl T.B.len fu^aa (U 1) ar)^wR rfl T.y1) (av Dg) bw)
  (aG (t:=n4 Z _ [0,0,0,0] 0 _)
   (qY 2 (NC:= ["row"]) (src:= [none]) rfl n (uI^aq f6) trivial (b9^U 1) (λ_ _ _=>(bQ 0 (show(["row"]:List eg).Nodup from by decide+kernel))) (λ_ _ _=>eZ)^λ_ _ _=>(lj Ab rfl T.B.list pL^aa (U 0) ar))
  (aG (t:=n4 Z _ [0,0,0,0] 0 _)
   (cz false 3 n^aL T.ue (oO T) r^aa (U 2) ar)
  (aG (t:=n4 Z _ [0,0,0,0] 0 _)
   (dA (cf NX (U 3) eX^bJ _) (av Dg) bw)
  (bo^VJ (pv 0) (pv 2) rfl)))),?_]
 have F:(a.map aE).length=a.length:=aI _;refine#[#[G,H,G],[some^.obj p,some^bz a,none,none],{nx:=λρ=>ρ= [some^.obj p,some^bz a,none,none],rt:=λ_=>False},#[G,λ_=> [],?_],?_,#[?_,λ_ z=>z.elim,λ_ z=>z.elim,λ_ z=>z.elim,λ_ _ z=>z.elim]]
 .refine#[.refl M, .refl _,rfl,λi d c=>?_,λ_=>iV,(λ_ _ _ _ z=>by cases z),(λ_ _ z=>by cases z)]
  match i,c with
  |0,c=>cases c;exact#[_,rfl, .obj p,rfl]
  |1,c=>cases c;exact#[_,rfl,dv,rfl]
  |2,c=>cases c
  |3,c=>cases c
  |i+4,c=>cases c
 .have S:D.bl (decide ((1:Int)<=((a.map aE).length:Int)))= .bl true:=IR D.bl^Gc^by rw[F];lia
  have X:D.bl (decide (((a.map aE).length:Int)<=14))= .bl true:=IR D.bl^Gc^by rw[F];lia
  exact#[_,rfl,true,S,dD #[true,X,cO rfl]]
 rintro _ rfl LK H1 S1;refine#[#[G,H,G],_,{nx:=λρ=>ρ= [some^.obj p,some^bz a,some^bz a,none],rt:=λ_=>False},S1,?_,#[?_,λ_ z=>z.elim,λ_ z=>z.elim,λ_ z=>z.elim,λ_ _ z=>z.elim]]
 .exact#[_,rfl,nZ (ρ:= [none]) aE aE a _ (λy hy Y h=>#[_,rfl,h]) rfl (small ()) λaJ=>#[trivial,rfl]]
 rintro _ rfl dQ H2 S2;refine#[#[G,H,G],_,{nx:=λρ=>ρ= [some^.obj p,some^bz a,some^bz a,some .aS],rt:=λ_=>False},S2,?_,#[?_,λ_ z=>z.elim,λ_ z=>z.elim,λ_ z=>z.elim,λ_ _ z=>z.elim]]
 .exact#[_,rfl,a,rfl,g.near,O,h14,λ_=>#[trivial,rfl],λz=>absurd g z]
 rintro _ rfl zB H3 S3;refine#[#[G,H,G],_,{nx:=λρ=>ρ= [some^.obj p,some^bz a,some^bz a,some .aS],rt:=λ_=>False},S3,?_,#[?_,λ_ z=>z.elim,λ_ z=>z.elim,λ_ z=>z.elim,λ_ _ z=>z.elim]]
 .exact#[_,rfl,_,rfl,cO rfl]
 rintro _ rfl fg H4 ⟨I,fp,f⟩;let⟨v0,zh,o0⟩:=f.at_ 0 _ rfl;let⟨v2,HF,o2⟩:=f.at_ 2 _ rfl;let⟨d0,V⟩:=o0;let⟨J,V⟩:=o2;cases d0;have k:=J;cases J with
 | @lst R xs ds hR e=>
  have l:=f.ex.hh _ _ x;refine#[_,HF,_,zh,p,Z.C,u,[],rfl,l,T.W.cl,T.W.nR,∅,?_]
  have g4:I p=none:=f.ex.off p (by show H p≠none;rw[x];exact λz=>nomatch z) N
  refine q R I _ f.ex.gg (λb o j=>?_) (λb o j nb=>?_) f.ex.off af k
  .rw[ag^ao j g4];exact f.ex.sub _ _ j
  .rw[ag nb];exact f.ex.hh _ _ j
def V5:fh:=λa P=>∃(w:W),a= [.gw w]/\P^.int (w.length:Int)
def vL:FnOk P w Z.K mg base fM 1 T.v5.f T.v5.fd ["self"]^aU Z V5:=by
 have d:=vZ.nd;refine bx T.v5.F vZ [0] ∅ (λb R h=>by let⟨i,rfl,j⟩:=h;rfl)^λe A outer s H E b R c h=>?_
 have g:=c.units;exists _,(av^aW^bC fw rfl T.B.len fu^aa (uK T.W^U 0) ar);let⟨a,rfl,q⟩:=h;exists _,rfl,a,rfl;refine(?_:R^.int ((a.map aE).length:Int));rw[aI];exact q
def Th:fh:=λa P=>∃(w:W),a= [.gw w]/\w.length<=14/\P^bz w
def CM:FnOk P w Z.K mg base fM 1 T.v6.f T.v6.fd ["self"]^aU Z Th:=by
 have d:=sQ.nd;refine bx T.v6.F sQ [0] ∅ (λb R h=>by let⟨k,rfl,l⟩:=h;rfl)^λe A outer s H E b R c h=>?_
 have g:=c.units;refine#[_,(av^aW^pM (NC:= ["row"]) (src:= [none]) rfl (uI^aq kP) trivial (b9^uK T.W^U 0) (λ_ _ _=>(bQ 0 (show(["row"]:List eg).Nodup from by decide+kernel))) (λ_ _ _=>eZ)^λ_ _ _=>(lj Ab rfl T.B.list pL^aa (U 0) ar)),?_]
 let⟨a,rfl,h14,q⟩:=h;exact#[_,rfl,a,rfl,nZ (ρ:= [none]) aE aE a _ (λy i Y h=>#[_,rfl,h]) rfl (small ()) λj=>q]
end wK
namespace L2
open PySem PySem.Spec PyProof.Rows
def gz.ok{P:ee}{w:ei}{H:Hp}{a:Addr}(x:gz b a d h):cG P w H h a^.ext^gz b a d:=by
 refine#[x,let #[o,_,_,_,c,_]:=x;#[o,c],λg i p k=>?_];obtain⟨o,e,f,t,c,r⟩:=p;exact#[o,e,f,t,k o c,r]
theorem hZ.mem:∀{b:List (Int×Addr)}{c:List (Int×Int)},hZ H b c->∀e∈b,∃p∈c,e.1=bT p/\H e.2\(.tup [.int p.1, .int p.2])
 |_,_, .nil,e,a=>nomatch a
 |_,_, .cons (p:=p) h t,e,a=>by
  rcases b7.mp a with rfl|a
  .exact#[p,cF ..,rfl,h]
  .obtain⟨q,d,f⟩:=t.mem e a
   exact#[q,dS _ d,f]
theorem hZ.Xf:∀{c:List (Int×Addr)}{d:List (Int×Int)},hZ H c d->∀p∈d,∃a,(bT p,a)∈c/\H a\(.tup [.int p.1, .int p.2])
 |_,_, .nil,p,b=>nomatch b
 |_,_, .cons (a:=a) h t,p,b=>by
  rcases b7.mp b with rfl|b
  .exact#[a,cF ..,h]
  .obtain⟨e,f,g⟩:=t.Xf p b
   exact#[e,dS _ f,g]
theorem hZ.len:∀{a:List (Int×Addr)}{b:List (Int×Int)},hZ H a b->a.length=b.length
 |_,_, .nil=>rfl
 |_,_, .cons _ t=>IR (·+1) t.len
theorem hZ.snoc(h:H a\(.tup [.int p.1, .int p.2])):∀{b:List (Int×Addr)}{c:List (Int×Int)},hZ H b c->hZ H (b++ [(bT p,a)]) (c++ [p])
 |_,_, .nil=> .cons h .nil
 |_,_, .cons h' t=> .cons h'^hZ.snoc h t
section
variable {X:Cx} {pins:List (Addr×Obj)} {σ:St} {H:Hp} {s:Shared}
def Inv.sO{p:Int×Int}(I:Inv X pins σ H s)(h:H a\(.tup [.int p.1, .int p.2])):f_ (eh X.prog X.w) s.heap [p.1,p.2] a:=by
 rfl';obtain⟨c,r,⟨o,d,e,n,f⟩,_⟩:=I.tuple^fW.of h;obtain⟨i,j,rfl,⟨t,rfl⟩,⟨u,rfl⟩⟩:=Vals.two r;ac_rfl;exact#[o,_,n,d,e,f, .cons (by simp[eh,Value.isInt])^.cons (by simp[eh,Value.isInt]) .nil]
def Inv.oW(I:Inv X pins σ H s)(h:H a\(.ext^gz b a c)):gz b a c s.heap:=(I.hok a _ h).1
def oj(P:Program)(w:World)(p:Int×Int):tupleKeyHash (intKind P w) [p.1,p.2]=bT p:=rfl
def Inv.pes(I:Inv X pins σ H s)(g:hZ H b f)(h:a.toList.Perm (b.map λe=>(e.1,Value.ref e.2))):OY X.prog X.w s.heap a:=λi e c=>by
 rfl';have k:e∈a.toList:=by rw[<-gr] at c;exact cU c
 let⟨d,l,rfl⟩:=bR.mp^h.mem_iff.mp k;let⟨p,j,m,n⟩:=g.mem d l;ac_rfl;exact#[[p.1,p.2],d.2,by rw[oj,m],I.sO n]
def Inv.pZ{h:List (Int×Addr)}{j:List (Int×Int)}{b:Array (Int×b_)}(I:Inv X pins σ H s)(k:hZ H h j)(l:b.toList.Perm (h.map λe=>(e.1,Value.ref e.2)))(p:Int×Int):
  (∃(i:Nat)(c:Addr),b[i]?\(e_ (eh X.prog X.w) [p.1,p.2], .ref c)/\f_ (eh X.prog X.w) s.heap [p.1,p.2] c)↔p∈j:=by
 constructor
 .rintro⟨i,c,d,f⟩
  have g:(e_ (eh X.prog X.w) [p.1,p.2],Value.ref c)∈b.toList:=by rw[<-gr] at d;exact cU d
  let⟨m,r,t⟩:=bR.mp^l.mem_iff.mp g;let⟨q,u,x,n⟩:=k.mem m r
  have:m.2=c:=by have:=(GT t).2;injection this
  rw[this] at n
  have:=(I.sO n).inj f
  simp at this
  have:q=p:=UV this.1 this.2
  rw[<-this];exact u
 .intro v
  let⟨a,d,f⟩:=k.Xf p v;have g:(bT p,Value.ref a)∈b.toList:=l.mem_iff.mpr^bR.mpr #[_,d,rfl];let⟨i,o⟩:=B0.mp g;rw[gr] at o;exact#[i,a,by rw[oj];exact o,I.sO f]
def Oa(c:Gl X "set")(d:X.mg "set"=none):PE X (.Call (.Name "set" p) [] [] pos) (λf H Q=>∀q,H q=none->Q (.ref q)^upd H q^.ext^gz (iF X.w) q []):=by
 intro a s f H Q I h;refine SZ^kK I c d (u:= .type "set") (by decide+kernel) ?_ ∅ ∅
 refine PyProof.Rows.callWith_type rfl^PyProof.Rows.evalArgs_nil3^EN ?_;have g:=I.hok.fresh^aZ _;exact#[.ref s.heap.objs.size,_,I.laid (t':=s.toks) (λb o e=>AC _ e) (aZ _) (o:= .ext^gz (iF X.w) s.heap.objs.size [])^gz.ok #[_,_,_,_,GM _ rfl,oM.new X.w, .refl _],rfl,h _ g]
def abO(i:X.A.units+64<cLine)(I:Inv X pins σ H s)(j:H c\(.tup [.int p.1, .int p.2]))(k:H a\(.ext^gz (iF X.w) a e))(f:hZ H e b)
  (h:∀d,Q (decide (p∈b)) {s with toks:=d}):d_ (d5 X.prog X.w) X.A (contains (.ref a)^.ref c) Q E s:=by
 rfl';let⟨o,m,r,t,n,S,g⟩:=I.oW k;ac_rfl;refine wB i n S (I.pes f g) (I.sO j) λd=>?_
 have:PySem.pZ X.prog X.w s.heap m [p.1,p.2]=decide (p∈b):=by
  classical
  unfold PySem.pZ;exact adX.mpr^I.pZ f g p
 rw[this];exact h d
def KC(f:X.A.units+64<cLine):OpR X (ff .NotIn) (λx y H Q=>∃c a b d p,x= .ref c/\y= .ref a/\H c\(.tup [.int p.1, .int p.2])/\H a\(.ext^gz (iF X.w) a b)/\hZ H b d/\Q (.bl (!decide (p∈d))) H):=by
 intro e s n H x y v u Q I g i h;rfl';let⟨c,a,b,d,p,rfl,rfl,k,l,m,q⟩:=h;ac_rfl;cases g;cases i;exact a_ (abO f I k l m λr=>tz #[.bl _,H,I.tok _,rfl,q])
def RA(hu:X.A.units+64<cLine):OU X "set.add" (λx k H Q=>∃l c d a p,x= .ref l/\k= [.ref c]/\H c\(.tup [.int p.1, .int p.2])/\H l\(.ext^gz (iF X.w) l d)/\hZ H d a/\a.length<=300/\
  (p∈a->Q .aS H)/\(p∉a->Q .aS^upd H l^.ext^gz (iF X.w) l (d++ [(bT p,c)]))):=by
 intro m s σ H x k v us Q I C E h;rfl';let⟨l,c,d,a,p,rfl,rfl,J,n,g,hz,L,M⟩:=h;subst C;let⟨u,rfl,N⟩:=E.one;subst N;let⟨o,O,ep,t,q,S,f⟩:=I.oW n;have P:s.TypeIs (.ref l) "set":=#[o,q,S.ex.1];ac_rfl;refine ads F.slot_set_add P F.entry_set_add ?_^F.args_set_add_2 _ _;unfold Builtin.«set.add» Builtin.Frozenset.oneOther;simp only[List.isEmpty_nil,bind_assoc];unfold Builtin.Frozenset.addrOf setAdd;refine a_^tz ?_
 try dsimp only
 refine a_^tz ?_
 try dsimp only
 refine a_ ?_;refine On ?_;have r:=I.sO J;refine a_^wpAny_pyHash_tuple ?_ r ?_
 .show X.A.units+1<cLine;lia
 have sz:O.size=a.length:=by
  have:=f.length_eq
  rw[dj,aI,g.len] at this;exact this
 refine Gd (s:={s with toks:=s.toks+([p.1,p.2].length+1)}) (by show X.A.units+1<cLine;lia) q S (I.pes g f) r () (λR=>?_) λT h' y Y Z t' sb B S' Oe=>?_
 .show d_ _ _ (ret Value.none) _ _ _
  exact tz #[_,rfl, .aS,H,I.tok _,rfl,L^(I.pZ g f p).mp R]
 .show d_ _ _ (ret Value.none) _ _ _
  have j:p∉a:=λz=>by
   let⟨i,c',h1,h2⟩:=(I.pZ g f p).mpr z;exact T i _ h1 c' rfl h2
  have I':=I.write (h':=h') (t':=s.toks+([p.1,p.2].length+1)) (x:=l) (e:=l) (o:= .ext^gz (iF X.w) l (d++ [(bT p,c)])) (by rw[n];trivial) (.inl rfl) (λb u hb e=>sb.extBut b u hb e) #[y,B]^gz.ok #[y,Y,Z,t',B,S',by
   rw[dk];exact Oe.trans^f.append_right _]
  exact tz #[_,rfl, .aS,_,I',rfl,M j]
def acB(b:Bool)(r:V->List V->Hp->VK->Prop)(d:TE)(t:TA):TE:=λa H Q=>d a H λx c=>(∃p e,x= .ref p/\c p\(.ext^gz b p e))/\t a c λf g=>r x f g Q
variable {o e:Expr} {es:List Expr} {to:TE} {t:TA} {name:Str} {apos aY:Pos} {id:String} {r:V->List V->Hp->VK->Prop}
theorem Vy{b:Bool}(n:PlainAttrs "set")(slot:Slot "set" name id)(q:typeOf^.builtin id=pure^.type "method_descriptor")(u:OU X id r)(w:PE X o to)(y:PA X (e::d) t)
  (z:gt o name X.env^f7 o X.env=f7 o X.env<|>zn)
  (A:((gd f^d4 (e::d) X.env).all (λx=>!x.1)&&(im f^g6 [] X.env).all (λx=>x.1.isSome)
   &&decide ((e::d).length+([]:List ix).length+(if ([]:List ix).isEmpty then 0 else 1)<30))=true<|>zn)
  (B:(apos.endLine==f.line)=true<|>zn) (C:d4 (e::d) X.env=(false,f7 e X.env)::d4 d X.env<|>zn) (E:(gd f^d4 d X.env).any (·.1)=false<|>zn):
  PE X (.Call (.Attribute o name apos) (e::d) [] f)^acB b r to t:=by
 intro c s i H Q I h;refine afH z A B rfl (thn (w c s i H _ I h) λv F G=>?_);rfl';let⟨x,L,k,M,N,O⟩:=G;ac_rfl;rfl';let⟨p,nQ,rfl,P⟩:=N;subst M;let⟨l,j,D,J,g,S,K⟩:=k.oW P;ac_rfl;refine#["set",id,n,slot,q,#[l,g,S.ex.1],λa R=>?_,?_]
 .cases R;exact#[l,g,S.ex.2.1]
 have m:=y f c F i L _ k O;rw[C] at m ⊢;refine aeh (by show(false|| (gd f^d4 d X.env).any (·.1))=false;rw[E]<;>rfl)^Calls.evalArgs_plain ?_
 exact thn m λT Y #[Z,H2,I2,r2,q2]=>u c Y i H2 (.ref p) Z (.ref p) T Q I2 rfl r2 q2
end
noncomputable def HG(a:List (Int×Int))(p:Int×Int):List (Int×Int):=if p∈a then a else a++ [p]
section
variable {Z:DC} {X:Cx} {B:Bs} {md:List Nat} {rn:Nat} {ρ:DN} {σ:St} {H G:Hp} {fp:Nat->List Addr} {a e k o:Expr} {ta te tk tp:bb} {pos apos aY p2:Pos}
noncomputable def KP(p:Int×Int):D:= .tup [.int p.1, .int p.2]
def Dv.D9(h:Dv Z G v^KP p):∃c,v= .ref c/\G c\(.tup [.int p.1, .int p.2]):=by
 rfl';let⟨c,l,rfl,b,f⟩:=Dv.xJ h;let⟨m,n,rfl,g,i⟩:=f.xK;rw[g.ofInt,i.ofInt] at b;ac_rfl;exact#[c,rfl,b]
def aa1(w:ei)(c:Bool):i3:=λa b P=>∃p d,a=KP p/\b= .x^.vT (iF w) d/\P^.bl^if c=true then !decide (p∈d) else decide (p∈d)
def Ku(d:X.A.units+64<cLine):OpR X (ff .NotIn)^cc Z^aa1 X.w true:=by
 refine(KC d).imp ?_;rintro x y H Q ⟨G,a,b,P,s,f,g,⟨p,i,rfl,rfl,h⟩,q⟩;let⟨c,rfl,j⟩:=f.D9;cases g with
 |x l ok=>
  rfl';let⟨e,n,rfl,r⟩:=ok;ac_rfl;exact#[c,_,n,i,p,rfl,rfl,s _ _ j,s _ _ l,r.mono s,q _ h _ G H (.refl s)^.bl _]
def Ug(w:ei)(i:Nat):eG:=λE b=>E.nx^b.set i^some^.x^.vT (iF w) []
def Nc(i:Nat)(m:X.N.Nodup)(n:Gl X "set")(q:X.mg "set"=none)(r:s.getD i 0=98<|>zn)(t:X.N[i]?\x<|>zn)(u:Loc X.env.scope x<|>zb)(v:gs (.Call (.Name "set" p) [] [] y) (some^.Name x d) pos.line X.env=pure false<|>zn)
  (A:X.fn x=true\/X.env.scope.names.lookup x\.local<|>zb):DSt Z X s L (.Assign [.Name x d] (.Call (.Name "set" p) [] [] y) pos)^Ug X.w i:=by
 refine(ck m t u (Oa n q) v A).imp ?_;intro D O H C;rfl';obtain⟨B,Q,E,⟨G,R,S⟩,h,M⟩:=C;ac_rfl;intro c g;have I:G c=none:=S.ex.sub.free g;have x:Ext G H G^upd H c^.ext^gz (iF X.w) c []:=#[.refl _,S.ex.sub.trans^aA g _,aA g _,λ_ _ z=>z];refine M.nx _ h _ _ #[G,_,(S.grow x).S0 r (f:= [c]) (.inr^.inr #[c,_,rfl,af,rfl, .inr #[rfl,_,rfl,iV,[],rfl, .nil]]) (by simp) (λb l=>?_) λb l j _ J=>?_]
 .rw[bW] at l;subst l
  exact#[S.ex.hh.free g,(by rw[af];exact λz=>nomatch z),I]
 .rw[bW] at l;subst l
  exact(S.nw j _ J).2.1 g
def X9(w:ei)(f:List Nat)(m:Bool)(i:Nat)(g:bb):eG:=λE b=>∃c,b[i]?\(some^.x^.vT (iF w) c)/\g (Lo f m b) λd=>∃p,d=KP p/\c.length<=300/\E.nx^b.set i^some^.x^.vT (iF w)^HG c p
def PL(m:Bool)(i:Nat)(hu:X.A.units+64<cLine)(he:DE Z X e te)(s:md.getD i 0=98<|>zn)(hi:X.N[i]?\x<|>zn)(hv:Cc X.env.scope x<|>zb)(t:(x==("__debug__":eg))=false<|>zm)(jF:(x==("__classdict__":eg))=false<|>zm)
  (iH:gt (.Name x g) "add" X.env^f7 (.Name x g) X.env=f7 (.Name x g) X.env<|>zn)
  (p7:((gd aY^d4 [e] X.env).all (λx=>!x.1)&&(im aY^g6 [] X.env).all (λx=>x.1.isSome)&&decide (([e]:List fz).length+([]:List ix).length+(if ([]:List ix).isEmpty then 0 else 1)<30))=true<|>zn)
  (eO:(apos.endLine==aY.line)=true<|>zn) (I:d4 [e] X.env=(false,f7 e X.env)::d4 [] X.env<|>zn) (i4:(gd aY^d4 [] X.env).any (·.1)=false<|>zn)
  (Fp:gs (.Call (.Attribute (.Name x g) "add" apos) [e] [] aY) none pos.line X.env=pure false<|>zn):
  DSt Z X md rn (.Expr (.Call (.Attribute (.Name x g) "add" apos) [e] [] aY) pos)^X9 X.w md m i te:=by
 refine(dY (Vy (b:=iF X.w) PySem.F.plainAttrs_set PySem.F.slot_set_add PySem.F.type_set_add (RA hu) (pv i hi hv t jF) (ah he aB I) iH p7 eO I i4) Fp).imp ?_;intro D σ H aP;rfl';obtain⟨B,J,E,⟨G,L,S⟩,⟨O,n,h⟩,M⟩:=aP;ac_rfl;rfl';let⟨v0,y,P⟩:=S.at_ i _ n;rw[s] at P;let⟨l,φ,rfl,hl,f,nd,es,rfl,pe⟩:=P.xA;ac_rfl;refine#[_,y,#[l,_,rfl,hl],S.ev m h λd t=>?_];let⟨p,rfl,hz,q⟩:=t;refine#[by cases m<;>trivial,λv Q H' C x dv=>?_]
 rfl';let⟨c,rfl,R⟩:=dv.D9;let⟨v1,T,Y⟩:=C.at_ i _ n;rw[y] at T;ac_rfl;cases Fk T;rfl';rw[s] at Y;let⟨l',φ',e',Cv,k,lX,nQ,rfl,o⟩:=Y.xA;cases e';ac_rfl;refine#[l,c,nQ,O,p,rfl,rfl,x.sub _ _ R,Cv,o.mono x.sub,hz,λr=>?_,λr=>?_]
 .rw[HG,ir r] at q
  refine M.nx _ q _ _ #[Q,L,?_]
  have e:J.set i^some^.x^.vT (iF X.w) O=J:=by
   refine ph λj=>?_
   by_cases z:i=j
   .subst z
    have cg:=(cD.mp n).1;rw[oZ cg,n]
   .rw[qO z]
  rw[e];exact C
 .rw[HG,mo r] at q
  refine M.nx _ q _ _ #[Q,L,C.mut y (b:=l) (by rw[k];simp) ?_]
  rw[s,k];refine .inr^.inr #[l,_,rfl,af,rfl, .inr #[rfl,_,rfl,?_,_,rfl,o.snoc R]];rw[cQ];refine#[lX,by simp,λa ha b hb z=>r ?_]
  rw[bW] at hb;rw[<-hb,<-z];exact ha
end
section
variable {Z:DC} {X:Cx}
def O9:fh:=λa P=>∃L:List^List Nat,a= [.lst^L.map aE]/\L.length<=1000/\∀M:List^List Nat,M.Perm L->M.Pairwise hU->P^.lst^M.map aE
def Uu(h:Dv Z G v^aE r):∃a,v= .ref a/\G a\(.lst^(iy r).map V.int):=by
 let⟨a,d,rfl,b,c⟩:=Dv.j6 h
 have:d=(iy r).map V.int:=by
  have e:r.map az=(iy r).map D.int:=by unfold iy;rw[cZ];rfl
  rw[e] at c;exact pT c
 rw[this] at b;exact#[a,rfl,b]
def VW(h:G a\(.lst^(iy r).map V.int)):Dv Z G (.ref a)^aE r:=by
 have e:aE r= .lst^(iy r).map D.int:=by unfold aE iy;rw[cZ];rfl
 rw[e];exact .lst h^.ints _
theorem Dl:∀{b:List V}{L:List^List Nat},DvAll Z G b^L.map aE->∃A:List (Addr×List Nat),b=A.map (λe=>V.ref e.1)/\A.map (·.2)=L/\Je G A
 |b,[],h=>by cases h;exact#[[],rfl,rfl,λp c=>by cases c]
 |b,r::L,h=>by
  cases h with
  |cons a f=>
   let⟨A,g,i,j⟩:=Dl f;let⟨p,rfl,c⟩:=Uu a;refine#[(p,r)::A,by rw[g];rfl,by rw[<-i];rfl,λq d=>?_]
   rcases b7.mp d with rfl|d
   .exact c
   .exact j q d
theorem Je.dv:∀{L:List (Addr×List Nat)},Je G L->DvAll Z G (L.map λe=>V.ref e.1)^(L.map (·.2)).map aE
 | [],_=> .nil
 |x::L,h=> .cons (VW^h x (cF ..)) (Je.dv λp a=>h p^dS _ a)
def Jr(i:X.A.units+64<cLine):cV X (.builtin "sorted")^j5 Z O9:=by
 refine(Aa i).imp ?_;rintro r H Q ⟨G,j,P,s,dv,⟨c,rfl,t,b⟩,q⟩;cases dv with
 |cons a k=>
  cases k;cases a with
  | @lst p u j h e=>
   let⟨L,rfl,d,f⟩:=Dl e;have v:L.length=c.length:=by rw[<-d];simp
   refine#[_,L,rfl,aK.of^s _ _ h,λp b=>s _ _^f p b,(),λp M g m1 l=>?_]
   have m:(M.map (·.2)).Perm c:=by rw[<-d];exact m1.map _
   have n:Je (upd G p^.lst (M.map λe=>V.ref e.1)) M:=λx o=>aA (s.free g) _ _ _^f x^m1.mem_iff.mp o;exact q _ (b _ m l) _ _ _ (.new s g)^.lst af n.dv
end
section
variable {Z:DC} {X:Cx} {md:List Nat} {rn:Nat} {a b:Expr} {pos:Pos} {ta:iE}
def aa7(d:List Nat)(i j:Nat)(e:iE):eG:=λE c=>e (cX d c) λf=>∃a b,f= [a,b]/\E.nx^(c.set i^some a).set j^some b
def LZ(i j:Nat){kt k2 KR}(d:X.calm=true)(e:X.N.Nodup)(f:DA Z X [a,b] ta)(g:X.N[i]?\x<|>zn)(k:X.N[j]?\y<|>zn)(l:i≠j<|>zm)(m:md.getD i 0=0<|>zn)(n:md.getD j 0=0<|>zn)
  (o:X.env.scope.names.lookup x\.local<|>zn) (p:X.env.scope.names.lookup y\.local<|>zn)
  (hw:jt [.Tuple [.Name x c, .Name y py] kt pt] (.Tuple [a,b] k2 KR) X.env=pure^some [x,y]<|>zn)
  (q:js [.Tuple [.Name x c, .Name y py] kt pt] (.Tuple [a,b] k2 KR) pos.line X.env=pure false<|>zn):
  DSt Z X md rn (.Assign [.Tuple [.Name x c, .Name y py] kt pt] (.Tuple [a,b] k2 KR) pos)^aa7 md i j ta:=by
 refine(VL d e g k l o p f hw q).imp ?_;intro D I H r;rfl';obtain⟨B,t,E,⟨G,L,S⟩,h,M⟩:=r;ac_rfl;exists G,cX md t,_,S.ex.sub,S.uO,h;rintro _ ⟨a,b,rfl,w⟩ O z P x A;let⟨v,u,rfl,C,F⟩:=A.xK;exact#[v,u,rfl,M.nx _ w _ _ #[z,_,((S.grow x).oW m C).oW n F]]
end
section
variable {Z:DC} {X:Cx} {o e:Expr} {ta tb:bb} {apos:Pos}
def NR:OU X "list.count" (λx b H Q=>∃(l:Addr)(a:List Int)(k:Int),x= .ref l/\b= [.int k]/\H l\(.lst^a.map V.int)/\Q (.int (a.count k:Nat)) H):=by
 intro c s m H x b v n Q I d f h;let⟨l,a,k,rfl,rfl,g,q⟩:=h;cases d;let⟨u,rfl,i⟩:=f.one;let⟨p,rfl⟩:=i;let⟨j,r,pl,t⟩:=I.list^aK.of g;exact count_list_ints pl.isList (intsAre_of r) #[.int _,H,I.tok _,#[_,rfl],q]
def Ub(c f:bb):bb:=λa P=>c a λd=>∃b:List Int,d= .lst^b.map D.int/\f a λy=>∃k:Int,y= .int k/\P^.int (b.count k:Nat)
theorem M8(j:DE Z X o ta)(l:DE Z X e tb)
  (m:gt o "count" X.env^f7 o X.env=f7 o X.env<|>zn)
  (n:((gd a^d4 [e] X.env).all (λx=>!x.1)&&(im a^g6 [] X.env).all (λx=>x.1.isSome)&&decide (([e]:List fz).length+([]:List ix).length+(if ([]:List ix).isEmpty then 0 else 1)<30))=true<|>zn)
  (r:(apos.endLine==a.line)=true<|>zn) (c:d4 [e] X.env=(false,f7 e X.env)::d4 [] X.env<|>zn) (t:(gd a^d4 [] X.env).any (·.1)=false<|>zn):
  DE Z X (.Call (.Attribute o "count" apos) [e] [] a)^Ub ta tb:=by
 refine(i9 KB PySem.F.slot_list_count PySem.F.type_list_count NR j (ah l aB c) m n r c t).imp ?_;rintro L H Q ⟨G,d,P,s,f,h,q⟩;exists G,d,_,s,f,h;rintro _ ⟨w,rfl,z⟩ v A M b dv;cases dv with
 | @lst p N O g e=>
  refine#[ty_list^b.sub _ _ g,A,d,_,b.sub,f.mono b.gg,z,λy B u C E i I=>?_];let⟨k,rfl,J⟩:=B;cases I;exact#[p,w,k,rfl,rfl,by rw[<-pT e];exact i.hh _ _^b.sub _ _ g,q _ J _ C E (b.trans i)^.int _]
end
def cu.ok{P:ee}{w:ei}{H:Hp}{a:Addr}{vs:List FV}(x:cu a c vs h):cG P w H h a^.ext^cu a c vs:=by
 refine#[x,let #[_,o,_,_,b,_]:=x;#[o,b],λf g p k=>?_];obtain⟨z,o,d,e,b,r⟩:=p;exact#[z,o,d,e,k o b,r]
inductive mT (H:Hp):List (Int×Addr)->List (Int×Int)->List FV->List (List Int×Addr×Value)->Prop
 |nil:mT H [] [] [] []
 |cons {a:Addr} {p:Int×Int} {v:FV} {u:Value} {es:List (Int×Addr)} {ks:List (Int×Int)} {vs:List FV} {xs:List (List Int×Addr×Value)}:H a\(.tup [.int p.1, .int p.2])->MR v u->mT H es ks vs xs->mT H ((bT p,a)::es) (p::ks) (v::vs) (([p.1,p.2],a,u)::xs)
theorem mT.keys:∀{c:List (Int×Addr)}{a:List (Int×Int)}{d:List FV}{b:List (List Int×Addr×Value)},mT H c a d b->b.map (·.1)=a.map λp=> [p.1,p.2]
 |_,_,_,_, .nil=>rfl
 |_,_,_,_, .cons _ _ t=>by rw[cY,cY,t.keys]
theorem mT.len:∀{b:List (Int×Addr)}{a:List (Int×Int)}{c:List FV}{xs:List (List Int×Addr×Value)},mT H b a c xs->xs.length=a.length
 |_,_,_,_, .nil=>rfl
 |_,_,_,_, .cons _ _ t=>IR (·+1) t.len
theorem mT.snoc(b:H a\(.tup [.int p.1, .int p.2]))(h:MR v u):∀{c:List (Int×Addr)}{d:List (Int×Int)}{e:List FV}{f:List (List Int×Addr×b_)},mT H c d e f->mT H (c++ [(bT p,a)]) (d++ [p]) (e++ [v]) (f++ [([p.1,p.2],a,u)])
 |_,_,_,_, .nil=> .cons b h .nil
 |_,_,_,_, .cons k' g t=> .cons k' g^mT.snoc b h t
def yp(P:ee)(w:ei)(p:Int×Int)(a:Addr)(u:b_):lp (hQ^eh P w) ([p.1,p.2],a,u)=#[bT p, .ref a,u]:=by
 unfold lp;rw[show(hQ^eh P w).hash [p.1,p.2]=bT p from oj P w p]
def Yu(d:MN l b g):∀{c:List (Int×Int)},hZ H b c->∃f,mT H b c g f/\∀(P:ee)(w:ei),l=f.map^lp^hQ^eh P w:=by
 induction d with
 |nil=>intro c i;cases i;exact#[[], .nil,λ_ _=>rfl]
 | @cons e l h a v b g j k m d n=>
  intro c i;cases i with
  | @cons _ p _ r h t=>
   let⟨f,o,q⟩:=n t;refine#[([p.1,p.2],a,e.val)::f, .cons h m o,λP w=>?_];rw[cY,<-q P w,yp];let⟨s,u,ev⟩:=e;simp only at j k ⊢;rw[j,k]
def PZ{e:List (Int×Int)}(d:mT H a e b c):MN (c.map^lp^hQ^eh P w) a b:=by
 induction d with
 |nil=>exact .nil
 |cons _ h t f=>
  rw[cY,yp];exact .cons rfl rfl h f
def mT.isKey(I:Inv X a e H s)(d:mT H f g i c):∀x∈c,IsTupleKey (intKind X.prog X.w) s.heap x.1 x.2.1:=by
 induction d with
 |nil=>intro x b;cases b
 |cons h _ _ j=>
  intro x b
  rcases b7.mp b with rfl|b
  .exact I.sO h
  .exact j x b
def l5{K:Type} [DecidableEq K] {b:List (K×Addr×Value)} {k:K}:(atKey b k).isSome=true↔k∈b.map (·.1):=by
 unfold atKey;rw[Option.isSome_map,List.find?_isSome,bR]
 constructor
 .rintro⟨x,a,e⟩;exact#[x,a,KF e]
 .rintro⟨x,a,e⟩;exact#[x,a,Gc e]
def rK{p:Int×Int}{a:List (Int×Int)}: [p.1,p.2]∈a.map (λp=> [p.1,p.2])↔p∈a:=by
 rw[bR]
 constructor
 .rintro⟨q,b,e⟩
  simp at e;rw[<-show q=p from UV e.1 e.2];exact b
 .intro h;exact#[p,h,rfl]
def Ig{c:List (Int×Int)}(h:c.Nodup):(c.map λp=> [p.1,p.2]).Nodup:=by
 rw[oY,iA];rw[oY] at h;exact h.imp λ {a b} n e=>n^by simp at e;exact UV e.1 e.2
section
variable {X:Cx} {pins:List (Addr×Obj)} {σ:St} {H:Hp} {s:Shared}
def Inv.Uq(I:Inv X pins σ H s)(h:H a\(.ext^cu a b e))(f:hZ H b c)(g:c.Nodup):
  (a==iN)=false/\∃xs,mT H b c e xs/\s.heap.DictOfH (hQ^eh X.prog X.w) a xs:=by
 rfl';let⟨z,o,j,k,l,m,n,p⟩:=(I.hok a _ h).1;let⟨xs,d,q⟩:=Yu p f;ac_rfl;exact#[z,xs,d,o,j,k,l,m,n,q _ _,d.isKey I,by rw[d.keys];exact Ig g]
def Sg:PE X (.Dict [] [] pos) (λc H Q=>∀q,H q=none->Q (.ref q)^upd H q^.ext^cu q [] []):=by
 intro b s c H Q I h;have d:=I.hok.fresh^aZ s.heap.objs.size;refine wpAny_Dict_empty #[.ref s.heap.objs.size,_,I.laid (a:=s.heap.objs.size) (t':=s.toks) (λ_ _ q=>AC _ q) (aZ _) (o:= .ext^cu s.heap.objs.size [] [])^cu.ok #[?_,_, #[],0,GM _ rfl,#[rfl,rfl,rfl],rfl, .nil],rfl,h _ d];have e:fD<s.heap.objs.size:=(I.mod.glob.keeps I.bk).lt;have f:iN<s.heap.objs.size:=Nat.lt_trans ∅ e
 exact ado.mpr^Ne.symm^bX f
def Ie(F:X.A.units+64<cLine):OpR X (ff .NotIn) (λx y H Q=>∃c a d b g p,x= .ref c/\y= .ref a/\H c\(.tup [.int p.1, .int p.2])/\H a\(.ext^cu a d g)/\hZ H d b/\b.Nodup/\Q (.bl (!decide (p∈b))) H):=by
 intro i s G H x y v u Q I l m h;rfl';let⟨c,a,d,b,g,p,rfl,rfl,o,r,t,B,q⟩:=h;ac_rfl;cases l;cases m;rfl';let⟨z,C,j,E⟩:=I.Uq r t B;ac_rfl
 have:(atKey C [p.1,p.2]).isSome=decide (p∈b):=by
  by_cases e:p∈b
  .rw[Gc e];exact l5.mpr^by rw[j.keys];exact rK.mpr e
  .rw[GE e]
   apply B4.mpr;exact λz=>e^rK.mp^by rw[<-j.keys];exact l5.mp z
 exact PyProof.Rows.wpAny_notIn_heap (knd:=hQ^eh X.prog X.w) (k:= [p.1,p.2]) (by show X.A.units+1<cLine;lia) (I.sO o) z E^by rw[this];exact#[.bl _,H,I.tok _,rfl,q]
noncomputable def vF:FV->V
 | .int i=> .int i
 | .bl b=> .bl b
def L6(h:RelV (vF f) u):MR f u:=by
 cases f with
 |int i=>exact h
 |bl b=>exact h
variable {o i value:Expr} {td ti tv:TE} {pos pos':Pos}
def aax(h j k:TE):TS:=λD b H=>k b H λv l=>h b l λx m=>j b m λy d=>∃a c f e g p fv,x= .ref a/\y= .ref c/\v=vF fv/\d a\(.ext^cu a f g)/\d c\(.tup [.int p.1, .int p.2])/\hZ d f e/\e.Nodup/\p∉e/\e.length<=300/\D.nx b^upd d a^.ext^cu a (f++ [(bT p,c)]) (g++ [fv])
def Ss(hu:X.A.units+64<cLine)(G:PE X o td)(J:PE X i ti)(L:PE X value tv)(M:gs value (some^.Subscript o i pos') pos.line X.env=pure false<|>zn):PS X (.Assign [.Subscript o i pos'] value pos)^aax td ti tv:=by
 intro d s f H D I h;refine wpAny_Assign_Subscript (thn (L d s f H _ I h) λr N #[v,O,P,Q,R]=>thn (G d N f O _ P R) λu S #[x,T,Y,Z,q2]=>thn (J d S f T _ Y q2) λiv s3 #[y,H3,g,ry,a,c,m,ks,n,p,fv,e1,e2,e3,t,B,pe,nd,np,hz,q3]=>?_) M;subst e1 e2 e3;cases Z;cases ry;let⟨z,j,l,hm⟩:=g.Uq t pe nd;refine wpAny_setItem_heap (knd:=hQ^eh X.prog X.w) (k:= [p.1,p.2]) (by show X.A.units+1<cLine;lia) (g.sO B) hm (λh' C sb=>?_)^small^by rw[l.len];lia
 have na:atKey j [p.1,p.2]=none:=by
  cases e:atKey j [p.1,p.2] with
  |none=>rfl
  |some q=>exact absurd (rK.mp^by rw[<-l.keys];exact l5.mp^by rw[e];rfl) np
 rw[storedH_new na] at C;rfl';have x2:mT H3 (m++ [(bT p,c)]) (ks++ [p]) (n++ [fv]) (j++ [([p.1,p.2],c,r)]):=l.snoc B^L6 Q;let⟨E,Yw,Aj,F,uV,lB,w9,K,U⟩:=C;have I':=g.write (h':=h') (t':=s3.toks+(hQ^eh X.prog X.w).draws [p.1,p.2]) (x:=a) (e:=a) (o:= .ext^cu a (m++ [(bT p,c)]) (n++ [fv])) (by rw[t];trivial) (.inl rfl) (λb u hb e=>sb.extBut b u hb e) #[E,F]^cu.ok #[z,E,Yw,Aj,F,uV,lB,by rw[w9];exact PZ x2]
 ac_rfl;exact#[f,_,I',q3]
end
section
variable {Z:DC} {X:Cx} {B:Bs} {md:List Nat} {rn:Nat} {ρ:DN} {σ:St} {H G:Hp} {fp:Nat->List Addr} {a e k o:Expr} {ta te tk tp:bb} {pos apos aY p2:Pos}
def aa0(c:Bool):i3:=λa b P=>∃p d f,a=KP p/\b= .x^.eL d f/\P^.bl^if c=true then !decide (p∈d) else decide (p∈d)
def Kt(d:X.A.units+64<cLine):OpR X (ff .NotIn)^cc Z^aa0 true:=by
 refine(Ie d).imp ?_;rintro x y H Q ⟨G,a,b,P,s,f,g,⟨p,i,j,rfl,rfl,h⟩,q⟩;let⟨c,rfl,l⟩:=f.D9;cases g with
 |x m ok=>
  rfl';let⟨r,t,rfl,u⟩:=ok;ac_rfl;exact#[c,_,t,i,j,p,rfl,rfl,s _ _ l,s _ _ m,u.mono s,r,q _ h _ G H (.refl s)^.bl _]
def Yb(i:Nat):eG:=λE b=>E.nx^b.set i^some^.x^.eL [] []
def Hk(i:Nat)(m:X.N.Nodup)(n:p.getD i 0=98<|>zn)(q:X.N[i]?\x<|>zn)(r:Loc X.env.scope x<|>zb)(s:gs (.Dict [] [] t) (some^.Name x d) pos.line X.env=pure false<|>zn)
  (u:X.fn x=true\/X.env.scope.names.lookup x\.local<|>zb):DSt Z X p C (.Assign [.Name x d] (.Dict [] [] t) pos)^Yb i:=by
 refine(ck m q r Sg s u).imp ?_;intro D F H v;rfl';obtain⟨B,J,E,⟨G,L,S⟩,h,M⟩:=v;ac_rfl;intro c g;have y:G c=none:=S.ex.sub.free g;have x:Ext G H G^upd H c^.ext^cu c [] []:=#[.refl _,S.ex.sub.trans^aA g _,aA g _,λ_ _ z=>z];refine M.nx _ h _ _ #[G,_,(S.grow x).S0 n (f:= [c]) (.inr^.inr #[c,_,rfl,af,rfl, .inr #[rfl,_,rfl,iV,[],rfl, .nil]]) (by simp) (λb l=>?_) λb l j _ A=>?_]
 .rw[bW] at l;subst l
  exact#[S.ex.hh.free g,(by rw[af];exact λz=>nomatch z),y]
 .rw[bW] at l;subst l
  exact(S.nw j _ A).2.1 g
noncomputable def Qh:FV->D
 | .int i=> .int i
 | .bl b=> .bl b
def Dv.Xr(h:Dv Z G v^Qh f):v=vF f:=by
 cases f with
 |int i=>exact h.ofInt
 |bl b=>exact h.vH
def Ym(f:List Nat)(i:Nat)(h j:bb):eG:=λE b=>j (cX f b) λd=>∃fv c g,d=Qh fv/\b[i]?\(some^.x^.eL c g)/\h (cX f b) λl=>∃p,l=KP p/\p∉c/\c.length<=300/\E.nx^b.set i^some^.x^.eL (c++ [p]) (g++ [fv])
def Hl(i:Nat)(T:X.A.units+64<cLine)(Y:DE Z X k tk)(o:DE Z X e te)(m:md.getD i 0=98<|>zn)(hi:X.N[i]?\x<|>zn)(hv:Cc X.env.scope x<|>zb)(n:(x==("__debug__":eg))=false<|>zm)(jF:(x==("__classdict__":eg))=false<|>zm)
  (hs:gs e (some^.Subscript (.Name x r) k g) pos.line X.env=pure false<|>zn):DSt Z X md rn (.Assign [.Subscript (.Name x r) k g] e pos)^Ym md i tk te:=by
 refine(Ss T (pv i hi hv n jF) Y o hs).imp ?_;intro D σ H aP;rfl';obtain⟨B,ρ,E,⟨G,fp,S⟩,h,M⟩:=aP;ac_rfl;refine S.ev false h λd n=>#[trivial,λv G1 H1 s x1 dv=>?_];rfl';let⟨fv,ks,vs,rfl,t,h2⟩:=n;ac_rfl;obtain rfl:=dv.Xr;rfl';let⟨v0,q,w⟩:=s.at_ i _ t;rw[m] at w;let⟨l,φ,rfl,hl,f,nd,es,rfl,pe⟩:=w.xA;ac_rfl;refine#[_,q,s.ev false h2 λkd UL=>#[trivial,λu G2 H2 y C du=>?_]];rfl';let⟨p,rfl,F,hz,hn⟩:=UL;let⟨c,rfl,I⟩:=du.D9;let⟨v1,J,L⟩:=y.at_ i _ t;rw[q] at J;ac_rfl;cases Fk J;rfl';rw[m] at L;let⟨l',φ',e',Cv,O,P,nQ,rfl,Q⟩:=L.xA;cases e';ac_rfl;refine#[l,c,nQ,ks,vs,p,fv,rfl,rfl,rfl,Cv,C.sub _ _ I,Q.mono C.sub,P,F,hz,M.nx _ hn _ _ #[G2,fp,y.mut q (b:=l) (by rw[O];simp) ?_]]
 rw[m,O];refine .inr^.inr #[l,_,rfl,af,rfl, .inr #[rfl,_,rfl,?_,_,rfl,Q.snoc I]];rw[cQ];refine#[P,by simp,λa ha b R z=>F ?_]
 rw[bW] at R;rw[<-R,<-z];exact ha
end
end L2
namespace Wb
def dm(w:W)(d:Nat×Nat)(r:List (Nat×Nat)):Prop:=∃k,0<k/\br w k d=d/\(∀j,0<j->j<k->br w j d≠d)/\r=walk w d k
def nj:e∈walk w d k↔∃i,i<k/\e=br w i d:=by
 unfold walk;rw[bR]
 constructor
 .rintro⟨i,a,rfl⟩;exact#[i,d9.mp a,rfl]
 .rintro⟨i,a,rfl⟩;exact#[i,d9.mpr a,rfl]
def dm.first(h:dm w d r):d∈r:=by
 obtain⟨k,a,_,_,rfl⟩:=h;exact nj.mpr #[0,a,rfl]
def dm.next{d e:Nat×Nat}(h:dm w d r)(a:e∈r):bq w e∈r:=by
 obtain⟨k,b,f,_,rfl⟩:=h;obtain⟨i,g,rfl⟩:=nj.mp a
 by_cases c:i+1<k
 .exact nj.mpr #[i+1,c,rfl]
 .have:i+1=k:=()
  refine nj.mpr #[0,b,?_];show br w (i+1) d=d;rw[this];exact f
theorem dm.iter(h:dm w d r)(a:e∈r):∀n,br w n e∈r
 |0=>a
 |n+1=>h.next^h.iter a n
def dm.back(h:dm w d r)(a:e∈r):∃n,br w n e=d:=by
 obtain⟨k,c,b,_,rfl⟩:=h;obtain⟨i,f,rfl⟩:=nj.mp a;exists k-i;rw[<-fY i (k-i),show k-i+i=k by lia]
 exact b
def dm.nodup(g:Good w)(h:dm w d r)(a:ax w d):r.Nodup:=by
 obtain⟨k,c,e,b,rfl⟩:=h;exact qH g a b
def dm.aQ(g:Good w)(h:dm w d r)(a:ax w d):∀e∈r,ax w e:=by
 obtain⟨k,b,c,f,rfl⟩:=h;exact oI g a
structure Wk (w:W) (ds:List (Nat×Nat)) (i:Nat) (rs:List^List (Nat×Nat)):Prop where
 rnd:∀r∈rs,∃d,dm w d r/\ax w d/\∀e∈r,lexLe d e
 nod:rs.flatten.Nodup
 met:∀j e,j<i->ds[j]?\e->e∈rs.flatten
def Wk.zero(w:W)(a:List (Nat×Nat)):Wk w a 0 []:=#[(λr h=>by cases h),iV,(λj e h=>by lia)]
def Wk.skip(h:Wk w a i b)(g:a[i]?\d)(k:d∈b.flatten):Wk w a (i+1) b:=
 #[h.rnd,h.nod,λj e l f=>by
  by_cases c:j=i
  .subst c;rw[g] at f;cases f;exact k
  .exact h.met j e () f]
def Wk.take(g:Good w){k:List (Nat×Nat)}(all:∀e,ax w e->e∈k)(dart:∀e∈k,ax w e)(srt:k.Pairwise lexLe){i:Nat}{o:List^List (Nat×Nat)}{d:Nat×Nat}(h:Wk w k i o)(p:k[i]?\d)(u:d∉o.flatten)(l:dm w d r):Wk w k (i+1) (o++ [r]):=by
 have s:ax w d:=dart d^cU p
 have off:∀e∈r,e∉o.flatten:=λe f v=>by
  let⟨q,t,x⟩:=jX.mp v;let⟨L,y,D,K⟩:=h.rnd q t;let⟨n,A⟩:=l.back f;exact u^jX.mpr #[q,t,by rw[<-A];exact y.iter x n]
 refine#[λq B=>?_,?_,λj e m f=>?_]
 .rcases bF.mp B with z|z
  .exact h.rnd q z
  .rw[bW.mp z]
   refine#[d,l,s,λe f=>?_];let⟨j,m⟩:=jw^all e^l.aQ g s e f
   by_cases c:j<i
   .exact absurd (h.met j e c m)^off e f
   .by_cases C:j=i
    .subst C;rw[p] at m;cases m
     exact .inr #[rfl,aZ _]
    .obtain⟨E,F⟩:=cD.mp p
     let⟨G,H⟩:=cD.mp m;rw[<-F,<-H];exact BY.mp srt i j E G ()
 .rw[qP,cQ]
  refine#[h.nod,by simpa using l.nodup g s,λa I b J e=>?_]
  subst e;exact off a (~~~J) I
 .rw[qP,bF]
  by_cases c:j=i
  .subst c;rw[p] at f;cases f
   exact .inr^~~~l.first
  .exact .inl^h.met j e () f
def Wk.fin(g:Good w)(all:∀e,ax w e->e∈a)(h:Wk w a a.length b):b.flatten.Perm^aQ w:=by
 have sub:∀e,e∈b.flatten↔e∈aQ w:=λe=>by
  rw[aD]
  constructor
  .intro c
   let⟨r,i,k⟩:=jX.mp c;let⟨d,R,l,m⟩:=h.rnd r i;exact R.aQ g l e k
  .intro c
   let⟨j,f⟩:=jw^all e c;exact h.met j e (cD.mp f).1 f
 exact(qM h.nod^bh g).mpr sub
def VV(g:Good w)(p:ax w d):∃r,dm w d r:=by
 have:∃k,0<k/\br w k d=d:=FM λq=>by
  have h:∀j,0<j->br w j d≠d:=λj a e=>q #[j,a,e]
  have:=qG g p (k:=(aQ w).length+1) λj a _=>h j a
  lia
 obtain⟨k,i⟩:=this
 have:∀n k,k<=n->0<k->br w k d=d->∃m,0<m/\br w m d=d/\∀j,0<j->j<m->br w j d≠d:=by
  intro n
  induction n with
  |zero=>intro k s l;lia
  |succ n t=>
   intro k s l u
   by_cases c:∃j,0<j/\j<k/\br w j d=d
   .obtain⟨j,b,o,f⟩:=c
    exact t j () b f
   .exact#[k,l,u,λj b o f=>c #[j,b,o,f]]
 obtain⟨m,m1,v,x⟩:=this k k (aZ _) i.1 i.2;exact#[_,m,m1,v,x,rfl]
structure bG (w:W) (rs:List^List (Nat×Nat)):Prop where
 rnd:∀r∈rs,∃d,dm w d r/\ax w d/\∀e∈r,lexLe d e
 perm:rs.flatten.Perm^aQ w
def bG.AV(R:bG w a)(p:b.Perm a):bG w b:=
 #[λr c=>R.rnd r^p.mem_iff.mp c,(p.flatten).trans R.perm]
def jL(g:Good w)(h:ax w d):d.1≠d.2:=λe=>g.irr d.1^by have:d.2∈row w d.1:=h;rw[<-e] at this;exact this
def z8{w:W}(g:Good w){f:List (Nat×Nat)}(l:f.Perm^fV (row w) w.length):(f++f.map λt=>(t.2,t.1)).Perm^aQ w:=by
 have e:=gK w;have n:=bh g
 have m:∀t,t∈f↔ax w t/\t.1<t.2:=λt=>by
  rw[l.mem_iff,e,qR,aD,decide_eq_true_eq]
 have i:f.Nodup:=l.nodup_iff.mpr^by rw[e];exact n.filter _
 refine(qM ?_ n).mpr λd=>?_
 .rw[cQ]
  refine#[i,?_,λa o b p z=>?_]
  .rw[oY,iA]
   rw[oY] at i;exact i.imp λ {a b} h z=>h^UV (GT z).2 (GT z).1
  .obtain⟨c,j,rfl⟩:=bR.mp p
   have k:=((m a).mp o).2;have q:=((m c).mp j).2;rw[z] at k;have k:c.2<c.1:=k;lia
 .rw[bF,bR,aD]
  constructor
  .rintro(h| ⟨c,j,rfl⟩)
   .exact((m d).mp h).1
   .exact g.sym _ _ ((m c).mp j).1
  .intro h
   rcases Nat.lt_or_gt_of_ne^jL g h with c|c
   .exact .inl^(m d).mpr #[h,c]
   .exact .inr #[(d.2,d.1),(m _).mpr #[g.sym _ _ h,c],rfl]
def dm.uniq(h:dm w d r)(b:dm w d a):r=a:=by
 let⟨k,e,f,g,rfl⟩:=h;let⟨m,i,j,l,rfl⟩:=b
 rcases Nat.lt_trichotomy k m with c|c|c
 .exact absurd f^l k e c
 .rw[c]
 .exact absurd j^g m i c
def bG.sub{f b:List^List (Nat×Nat)}(R:bG w f)(g:bG w b):∀r∈f,r∈b:=λr j=>by
 let⟨d,c,k,l⟩:=R.rnd r j;have m:d∈b.flatten:=g.perm.mem_iff.mpr^aD.mpr k;let⟨o,h,a⟩:=jX.mp m;let⟨p,i,u,q⟩:=g.rnd o h;let⟨n,s⟩:=i.back a;have t:lexLe d p:=by rw[<-s];exact l _^c.iter c.first n
 have e:=rq t^q d a;subst e;rw[c.uniq i];exact h
def bG.ne{w:W}{a:List^List (Nat×Nat)}(R:bG w a):∀r∈a,r≠ []:=λr b z=>by
 let⟨d,c,e⟩:=R.rnd r b
 have:=c.first
 rw[z] at this;cases this
theorem yt:∀{l:List^List c},l.flatten.Nodup->(∀r∈l,r≠ [])->l.Nodup
 | [],_,_=>iV
 |a::l,h,b=>by
  rw[iS,cQ] at h;refine kD.mpr #[λd=>?_,yt h.2.1 λr e=>b r^dS _ e];cases a with
  |nil=>exact b [] (cF ..) rfl
  |cons x a=>exact h.2.2 x (cF ..) x (jX.mpr #[_,d,cF ..]) rfl
def bG.nodup(g:Good w)(R:bG w a):a.Nodup:=yt (R.perm.nodup_iff.mpr^bh g) R.ne
abbrev fO(a:List^List (Nat×Nat)):List^List Nat:=a.map λr=>r.map (·.1)
def Km(h:L2.hU a b)(c:L2.hU b a):a=b:=by
 have:=L2.vC (L2.iy a) (L2.iy b) c h
 exact L2.IS^by rw[this]
def bG.uniq(g:Good w)(R:bG w a)(c:bG w b)(s:(fO a).Pairwise L2.hU)(d:(fO b).Pairwise L2.hU):fO a=fO b:=by
 have e:a.Perm b:=(qM (R.nodup g)^c.nodup g).mpr λr=>#[R.sub c r,c.sub R r];exact adN (λ_ _ _ _=>Km) s d^e.map _
open Classical in
noncomputable def xB(w:W):List (List Nat):=if h:∃rs,bG w rs/\(fO rs).Pairwise L2.hU then fO h.choose else[]
def rj(g:Good w)(R:bG w a)(s:(fO a).Pairwise L2.hU):xB w=fO a:=by
 have h:∃a,bG w a/\(fO a).Pairwise L2.hU:=#[a,R,s];unfold xB;rw[dif_pos h];exact h.choose_spec.1.uniq g R h.choose_spec.2 s
def Bc(h:dm w d r)(a:i<r.length):r.getD ((i+1)%r.length) (0,0)=bq w^r.getD i (0,0):=by
 let⟨k,b,f,l,rfl⟩:=h;rw[eV] at a ⊢
 have at_:∀j,j<k->(walk w d k).getD j (0,0)=br w j d:=λj g=>by
  unfold walk;rw[bO,cL,nH g];rfl
 rw[at_ i a]
 by_cases c:i+1<k
 .rw[kC c,at_ _ c];rfl
 .have e:i+1=k:=()
  rw[e,afo,at_ 0 b];show d=br w (i+1) d;rw[e,f]
def rf(r:List (Nat×Nat))(i:Nat):(r.map (·.1)).getD i 0=(r.getD i (0,0)).1:=by
 rw[bO,bO,cL];cases r[i]? <;>rfl
def iM{a b:List Nat}{x y:Nat}(c:(a++x::y::b).Nodup):aO (a++x::y::b) x=y:=by
 have d:x∉a:=λh=>by
  have:=(cQ.mp c).2.2 x h x (cF ..)
  exact this rfl
 have e:(a++x::y::b).idxOf x=a.length:=by
  rw[List.idxOf_append,mo d,List.idxOf_cons_self];simp
 unfold aO;rw[e,kC^by simp,bO,jg ()]
 simp
def jU{b:List Nat}{x y:Nat}(a:(y::(b++ [x])).Nodup):aO (y::(b++ [x])) x=y:=by
 have c:x∉y::b:=λh=>by
  have d:(y::b++ [x]).Nodup:=a;exact(cQ.mp d).2.2 x h x (by simp) rfl
 have e:(y::(b++ [x])).idxOf x=b.length+1:=by
  show(y::b++ [x]).idxOf x=_;rw[List.idxOf_append,mo c];simp
 unfold aO;rw[e]
 have:(b.length+1+1)%(y::(b++ [x])).length=0:=by simp
 rw[this];rfl
def t5{a b:List Nat}{x:Nat}(f:(a++b).Nodup)(h:x∈a++b):aO (b++a) x=aO (a++b) x:=by
 have d:(b++a).Nodup:=(wI.nodup_iff).mp f;let⟨u,v,e⟩:=ae0 h;cases v with
 |cons y v=>
  rw[e,iM (e▸f)]
  rcases List.append_eq_append_iff.mp e with ⟨c,g,i⟩ | ⟨c,g,i⟩
  .
   rw[i,show c++x::y::v++a=c++x::y::(v++a) by simp]
   refine iM ?_;rw[i] at d;simpa using d
  .
   cases c with
   |nil=>
    have j:b=x::y::v:=by simpa using i.symm
    rw[j,show x::y::v++a= []++x::y::(v++a) by simp]
    refine iM ?_;rw[j] at d;simpa using d
   |cons z c=>
    have l:x=z/\y::v=c++b:=by simpa using i
    let⟨rfl,n⟩:=l;cases c with
    |nil=>
     have j:b=y::v:=by simpa using n.symm
     rw[g,j,show y::v++(u++ [x])=y::((v++u)++ [x]) by simp]
     refine jU ?_;rw[g,j] at d;simpa using d
    |cons z c=>
     have l:y=z/\v=c++b:=by simpa using n
     let⟨rfl,rfl⟩:=l;rw[g,show b++(u++x::y::c)=(b++u)++x::y::c by simp]
     refine iM ?_;rw[g] at d;simpa using d
 |nil=>
  cases b with
  |nil=>simp
  |cons y b=>
   rcases List.eq_nil_or_concat b with rfl| ⟨k,z,rfl⟩
   .
    have:a=u/\y=x:=by
     have:=List.append_inj' e rfl
     exact#[this.1,by simpa using this.2]
    let⟨rfl,rfl⟩:=this;cases a with
    |nil=>rfl
    |cons t a=>
     have m:aO (t::a++ [y]) y=t:=jU (b:=a) f;rw[m];show aO ([]++y::t::a) y=t;exact iM^d
   .have o:z=x:=by
     rw[aev] at e;have e:(a++y::k)++ [z]=u++ [x]:=by simpa using e
     exact by simpa using(List.append_inj' e rfl).2
    subst o;rw[aev] at f d ⊢;cases a with
    |nil=>simp
    |cons t a=>
     have m:aO (t::a++y::(k++ [z])) z=t:=by
      have:=jU (y:=t) (b:=a++y::k) (x:=z)^~~~f
      simpa using this
     have p:aO (y::(k++ [z])++t::a) z=t:=by
      have:=iM (a:=y::k) (x:=z) (y:=t) (b:=a)^~~~d
      simpa using this
     rw[m,p]
def Es{i:Nat}(a:l.Nodup)(h:i+1<l.length):aO l^l.getD i 0=l.getD (i+1) 0:=by
 have e:l.getD i 0=l[i]:=by rw[bO,bA ()];rfl
 unfold aO;rw[e,a.idxOf_getElem i (),kC h]
section
variable {w:W} {R:List Nat} {A:Nat×Nat->Prop} {v m:Nat} {y:Nat->Nat}
end
end Wb
set_option maxHeartbeats 1000000
namespace Wb
def zy(a:(v::l).Nodup)(d:x∈l)(f:x≠l.getD (l.length-1) 0):aO (v::l) x=aO l x:=by
 let⟨i,g,rfl⟩:=aeK.mp d;have e:l[i]=l.getD i 0:=by rw[bO,bA g];rfl
 have h:i+1<l.length:=by
  apply FM;intro c;exact f^by rw[e,show l.length-1=i by lia]
 have b:=Es (i:=i+1) a^by simp;lia
 have j:=Es (i:=i) (kD.mp a).2 h;rw[GC,GC] at b;rw[e,b,j]
section
variable {w w':W} {R:List Nat} {f:Nat}
end
theorem Av{f:Nat->Nat}{x:Nat}:∀{l:List Nat},(∀y∈l,f y=f x->y=x)->(l.map f).idxOf^f x=l.idxOf x
 | [],_=>rfl
 |a::l,h=>by
  rw[cY,afD,afD,Av λy b=>h y^dS _ b]
  by_cases c:a=x
  .subst c;simp
  .have:f a≠f x:=λz=>c^h a (cF ..) z
   have d:(f a==f x)=false:=by simpa using this
   have e:(a==x)=false:=by simpa using c
   rw[d,e]
def Le{f:Nat->Nat}{l:List Nat}{x:Nat}(h:∀y∈l,f y=f x->y=x)(a:x∈l):aO (l.map f)^f x=f^aO l x:=by
 have e:=lO a;show(l.map f).getD (((l.map f).idxOf^f x+1)%(l.map f).length) 0=_;rw[Av h,aI,bO,cL,e];rfl
section
variable {w w':W} {f:Nat->Nat}
open Classical in
end
def iz{w:W}{d:Nat×Nat}(h:i<k):(walk w d k)[i]?\(br w i d):=by
 unfold walk;rw[cL,nH h];rfl
def t8{w:W}(h:¬i<k):(walk w d k)[i]? =none:=fJ^by rw[eV];lia
def dm.rot{w:W}(g:Good w)(h:dm w d r)(b:ax w d)(c:m<r.length):dm w (r.getD m (0,0)) (r.drop m++r.take m):=by
 let⟨k,n,l,o,rfl⟩:=h;rw[eV] at c;have e:(walk w d k).getD m (0,0)=br w m d:=by rw[bO,iz c];rfl
 rw[e];have per:br w k^br w m d=br w m d:=by rw[<-fY,af1,fY,l]
 refine#[k,n,per,λj p q z=>?_,?_]
 .have:br w m^br w j d=br w m d:=by rw[<-fY,af1,fY,z]
  exact o j p q^Az g (fE g b j) b m this
 .refine ph λi=>?_
  have a:((walk w d k).drop m).length=k-m:=by rw[ji,eV]
  by_cases s:i<k-m
  .rw[iR^by rw[a];exact s,yY,iz (),iz (),<-fY,af1]
  .rw[jg^by rw[a];lia,a]
   by_cases t:i<k
   .rw[BQ,ir (),iz (),iz t,<-fY,show i+m=(i-(k-m))+k by lia,fY,l]
   .rw[BQ,mo (),t8 ()]
structure GG (w v:W) (f:Nat×Nat->Nat×Nat):Prop where
 dart:∀d,ax w d->ax v (f d)
 inj:∀d e,ax w d->ax w e->f d=f e->d=e
 nx:∀d,ax w d->bq v^f d=f^bq w d
theorem GG.br{w v:W}{f:Nat×Nat->Nat×Nat}(M:GG w v f)(g:Good w){d:Nat×Nat}(a:ax w d):∀n,Wb.br v n^f d=f^Wb.br w n d
 |0=>rfl
 |n+1=>by
  show bq v^Wb.br v n^f d=f^bq w^Wb.br w n d;rw[M.br g a n,M.nx _^fE g a n]
def GG.rnd{w v:W}{f:Nat×Nat->Nat×Nat}(M:GG w v f)(g:Good w)(h:dm w d r)(a:ax w d):dm v (f d)^r.map f:=by
 let⟨k,b,c,e,rfl⟩:=h;refine#[k,b,by rw[M.br g a,c],λj l m z=>?_,?_]
 .rw[M.br g a] at z
  exact e j l m^M.inj _ _ (fE g a j) a z
 .unfold walk
  rw[cZ];exact yX λi _=>(M.br g a i).symm
def gW(a b:Nat×Nat):lexLe a b\/lexLe b a:=by unfold lexLe;lia
def kL(h:lexLe a b)(d:lexLe b c):lexLe a c:=by unfold lexLe at*;lia
theorem D1:∀c:List (Nat×Nat),c≠ []->∃e∈c,∀x∈c,lexLe e x
 | [],h=>absurd rfl h
 | [a],_=>#[a,by simp,λx d=>by rw[bW] at d;subst d;exact(gW x x).elim id id]
 |a::b::c,_=>by
  let⟨e,i,g⟩:=D1 (b::c)^by simp
  rcases gW a e with h|h
  .refine#[a,by simp,λx d=>?_]
   rcases b7.mp d with rfl|d
   .exact(gW x x).elim id id
   .exact kL h^g x d
  .refine#[e,dS _ i,λx d=>?_]
   rcases b7.mp d with rfl|d
   .exact h
   .exact g x d
open Classical in
noncomputable def zi(c:List (Nat×Nat)):Nat:=if h:∃e,e∈c/\∀x∈c,lexLe e x then c.idxOf h.choose else 0
def NM(h:c≠ []):zi c<c.length/\c.getD (zi c) (0,0)∈c/\(∀x∈c,lexLe (c.getD (zi c) (0,0)) x)/\zi c=c.idxOf^c.getD (zi c) (0,0):=by
 have d:∃e,e∈c/\∀x∈c,lexLe e x:=let #[e,a,b]:=D1 c h;#[e,a,b];have g:zi c=c.idxOf d.choose:=by unfold zi;rw[dif_pos d]
 have s:=d.choose_spec;have l:=sV.mpr s.1
 have i:c.getD (zi c) (0,0)=d.choose:=by
  rw[g,bO,bA l];exact qQ l
 rw[i,g];exact#[l,s.1,s.2,rfl]
noncomputable def C6(c:List (Nat×Nat)):List (Nat×Nat):=c.drop^zi c++c.take^zi c
def zY(c:List (Nat×Nat)):(C6 c).Perm c:=by
 unfold C6
 have:=wI (l₁:=c.drop^zi c) (l₂:=c.take^zi c)
 rwa [gL] at this
def M1{w:W}(g:Good w)(h:dm w d r)(a:ax w d):∃e,dm w e^C6 r/\ax w e/\∀x∈C6 r,lexLe e x:=by
 have ne:r≠ []:=λz=>by have:=h.first;rw[z] at this;cases this
 let⟨b,c,i,f⟩:=NM ne;exact#[_,h.rot g a b,h.aQ g a _ c,λx j=>i x^(zY r).mem_iff.mp j]
theorem sF{f:List b->List b}(h:∀r,(f r).Perm r):∀a:List^List b,(a.map f).flatten.Perm a.flatten
 | []=> .nil
 |r::a=>by
  rw[cY,iS,iS];exact(h r).append^sF h a
def Hd{w v:W}(g:Good w)(b:Good v){f:Nat×Nat->Nat×Nat}(dart:∀d,ax w d->ax v^f d)(inj:∀d e,ax w d->ax w e->f d=f e->d=e)(sur:∀e,ax v e->∃d,ax w d/\f d=e):((aQ w).map f).Perm^aQ v:=by
 refine(qM ?_^bh b).mpr λe=>?_
 .rw[oY,iA]
  have:=bh g
  rw[oY] at this;exact adt (λc i n z=>n^inj _ _ (aD.mp c) (aD.mp i) z) this
 .rw[bR,aD]
  exact#[λ#[d,a,z]=>z▸dart d^aD.mp a,λh=>let #[d,a,z]:=sur e h;#[d,aD.mpr a,z]]
structure Jg (w v:W) (φ:Nat->Nat):Prop where
 len:v.length=w.length
 lt:∀p,p<w.length->φ p<w.length
 inj:∀p q,p<w.length->q<w.length->φ p=φ q->p=q
 sur:∀y,y<w.length->∃p,p<w.length/\φ p=y
 row:∀p,p<w.length->∃b,Wb.row v^φ p=((Wb.row w p).map φ).drop b++((Wb.row w p).map φ).take b
def Jg.mem{w v:W}(N:Jg w v a)(c:p<w.length):y∈Wb.row v^a p↔y∈(Wb.row w p).map a:=by
 let⟨b,e⟩:=N.row p c;rw[e,bF]
 conv=>rhs;rw[<-gL b^(Wb.row w p).map a,bF]
 exact or_comm
def Jg.dmap{w v:W}(N:Jg w v c)(g:Good w):GG w v (λd=>(c d.1,c d.2)):=by
 have i:∀d,ax w d->d.1<w.length/\d.2<w.length:=λd h=>#[bZ h,g.rng _ _ h];refine#[λd h=>?_,λd e k l z=>?_,λd h=>?_]
 .exact(N.mem (i d h).1).mpr^bR.mpr #[d.2,h,rfl]
 .have o:=(GT z).1
  have p:=(GT z).2;exact UV (N.inj _ _ (i d k).1 (i e l).1 o)^N.inj _ _ (i d k).2 (i e l).2 p
 .obtain⟨b,e⟩:=N.row d.2 (i d h).2
  have m:d.1∈Wb.row w d.2:=g.sym _ _ h;have j:∀y∈Wb.row w d.2,c y=c d.1->y=d.1:=λy q z=>N.inj _ _ (g.rng _ _ q) (i d h).1 z
  have r:((Wb.row w d.2).map c).Nodup:=by
   have:=g.nod d.2
   rw[oY] at this ⊢;rw[iA];exact adt (λs t n z=>n^N.inj _ _ (g.rng _ _ s) (g.rng _ _ t) z) this
  have u:c d.1∈(Wb.row w d.2).map c:=bR.mpr #[_,m,rfl];show(c d.2,aO (Wb.row v^c d.2)^c d.1)=(c d.2,c^aO (Wb.row w d.2) d.1);rw[e];have A:=t5 (a:=((Wb.row w d.2).map c).take b) (b:=((Wb.row w d.2).map c).drop b) (x:=c d.1) (by rw[gL];exact r)^by rw[gL];exact u
  rw[A,gL,Le j m]
def Jg.acx{w v:W}(N:Jg w v a):∀e,ax v e->∃d,ax w d/\(a d.1,a d.2)=e:=λe h=>by
 have b:=bZ h;rw[N.len] at b;let⟨p,g,c⟩:=N.sur e.1 b;have h:e.2∈Wb.row v e.1:=h;rw[<-c] at h;let⟨q,i,j⟩:=bR.mp^(N.mem g).mp h;exact#[(p,q),i,UV c j]
end Wb
namespace L2
open PySem PySem.Spec PyProof.Rows
section
variable {Z:DC} {X:Cx}
def Pr:i3:=λx y P=>match x,y with
 | .bl b, .bl c=>P^.bl (!(b==c))
 |_,_=>False
def RZ:OpR X (ff .IsNot) (λx y H Q=>∃b c,x= .bl b/\y= .bl c/\Q (.bl (!(b==c))) H):=by
 intro a s f H x y v u Q I d e h;let⟨b,c,rfl,rfl,q⟩:=h;cases d;cases e;exact isnot_bool^eE I q rfl
def RJ:OpR X (ff .IsNot)^cc Z Pr:=by
 refine RZ.imp ?_;intro x y H Q d;rfl';let⟨G,a,b,P,s,f,g,c,q⟩:=d;ac_rfl;unfold Pr at c
 split at c
 .exact#[_,_,f.vH,g.vH,q _ c _ _ _ (.refl s)^.bl _]
 .exact c.elim
end
end L2
set_option maxHeartbeats 4000000
namespace PySem
abbrev nK(h:Heap)(z TI TO a:Addr)(f:Bool):Prop:=
 h.get? z\{cls:= .type "zip",dict:=none,data:= .fields [rawInt a, .bool f, .bool false, .ref TI, .ref TO].toArray,slots:= #[]}
section
variable {prog:Program} {w:World} {A:Around} {E:Value->Shared->Prop} {s:Shared}
theorem Ez(b:nK s.heap z TI TO a f)(g:s.heap.get? a\e)
  (d:∀c,nK c z TI TO a true->Heap.SameBut z s.heap c->Q false {s with heap:=c}):d_ (d5 prog w) A (Builtin.SmallTypes.ownedTupleIsFree^.ref z) Q E s:=by
 unfold Builtin.SmallTypes.ownedTupleIsFree;refine a_^adu b rfl (x:=kI a) rfl ?_;show d_ _ _ (loadIfAlive^(a:Int).toNat>>=_) _ _ _;rw[lP];refine a_^PySem.W.kdx_alive g ?_;simp only[Option.isNone_some,fL,Pi];refine a_^adu b rfl (x:= .bool f) rfl ?_;cases f with
 |true=>
  rw[mo (show ¬((Value.bool true !=Value.bool true)=true) from dZ)];exact tz^d _ b^Heap.SameBut.refl _ _
 |false=>
  rw[ir (show(Value.bool false !=Value.bool true)=true from rfl)];exact a_ (wpAny_setField_rec b (by simp) λh i j=>tz^d _ i j)
def CY{z TI TO b d j k a:Addr}{f:Bool}{H:Obj}{n p:Nat}{C F:Array b_}{x y:b_}{Q:b_->c_->Prop}(D:la z TI TO b d j k)
  (q:nK s.heap z TI TO a f) (I:s.heap.get? a\H) (J:IsPair s.heap TI (.ref b)^.ref d)
  (L:s.heap.IsListIter b j n) (M:s.heap.IsListIter d k p) (N:s.heap.IsList j C) (O:s.heap.IsList k F) (P:C[n]?\x) (R:F[p]?\y)
  (S:∀g,nK g z TI TO a true->g.IsListIter b j (n+1)->g.IsListIter d k (p+1)->IsPair g s.heap.objs.size x y->g.objs.size=s.heap.objs.size+1->
   (∀c o,c≠z->c≠b->c≠d->s.heap.get? c\o->g.get? c\o)->Q (.ref s.heap.objs.size) {s with heap:=g}):
  d_ (d5 prog w) A (Builtin.«zip.__next__» #[[.ref z],[]]) (λfin T=>∃v,fin= .done^.ret v/\Q v T) E s:=by
 show d_ _ _ (field (.ref z) 2>>=_) _ _ _;refine a_^adu q rfl (x:= .bool false) rfl ?_;refine a_^adu q rfl (x:= .ref TI) rfl ?_;refine a_^aeb J rfl ?_;refine a_ (Ez q I λG X h=>?_);simp only[fL,Pi];refine a_ ?_;simp only[<-GF,afA,List.forIn_nil];refine a_^a_^On ?_;show d_ _ _ (Builtin.SmallTypes.nextOf^.ref b>>=_) _ _ _;refine a_ (aej (L.extBut h.extBut D.i1z) (N.extBut h.extBut D.l1z) P λRf Y i=>tz ?_);refine tz ?_;refine a_^a_^On ?_;show d_ _ _ (Builtin.SmallTypes.nextOf^.ref d>>=_) _ _ _
 refine a_ (aej ((M.extBut h.extBut D.i2z).extBut i.extBut D.i12.symm)
  ((O.extBut h.extBut D.l2z).extBut i.extBut D.l2i1) R λl Z m=>tz ?_)
 refine tz^tz ?_;refine a_^afP ?_^by show 2<=sizeLine;decide
 have r:l.objs.size=s.heap.objs.size:=by rw[m.1,i.1,h.1]
 have ZF:nK l z TI TO a true:=m.extBut _ _ D.i2z.symm^i.extBut _ _ D.i1z.symm X;refine tz #[_,rfl,?_];show Q (.ref l.objs.size) _;rw[r];have Zk:∀c o,c≠z->c≠b->c≠d->s.heap.get? c\o->l.get? c\o:=λc o t u B e=>m.extBut _ _ B^i.extBut _ _ u^h.extBut _ _ t e;exact S _ (AC _ ZF) ((Y.extBut m.extBut D.i12).at λo e=>AC _ e) (Z.at λo e=>AC _ e) (r▸GM _ rfl) (by rw[adU,r]) λc o t u B e=>AC _^Zk c o t u B e
theorem Gu(B:A.handled=none)(D:la z TI TO d g j k)
  (q:nK s.heap z TI TO a f) (L:s.heap.get? a\J) (M:IsPair s.heap TI (.ref d)^.ref g)
  (C:s.heap.IsListIter d j l) (N:s.heap.IsListIter g k m) (F:s.heap.IsList j n) (O:s.heap.IsList k p) (P:n[l]? =none\/p[m]? =none)
  (G:∀r e,(∀c o,c≠z->c≠d->c≠g->s.heap.get? c\o->r.get? c\o)->(∃o,r.get? e\o/\o.cls= .type "StopIteration")->E (.ref e) {s with heap:=r}):
  d_ (d5 prog w) A (Builtin.«zip.__next__» #[[.ref z],[]]) Q E s:=by
 show d_ _ _ (field (.ref z) 2>>=_) _ _ _;refine a_^adu q rfl (x:= .bool false) rfl ?_;refine a_^adu q rfl (x:= .ref TI) rfl ?_;refine a_^aeb M rfl ?_;refine a_ (Ez q L λH Y b=>?_);simp only[fL,Pi];refine a_ ?_;simp only[<-GF,afA,List.forIn_nil];refine a_^a_^On ?_;show d_ _ _ (Builtin.SmallTypes.nextOf^.ref d>>=_) _ _ _;cases t:n[l]? with
 |none=>
  exact a_ (wpAny_nextOf_list_end B (C.extBut b.extBut D.i1z) (F.extBut b.extBut D.l1z) t λI e i u=>G I e (λc o v y _ x=>i _ _ y^b.extBut _ _ v x) u)
 |some x=>
  have R:p[m]? =none:=by rcases P with h|h;rw[t] at h;cases h;exact h
  refine a_ (aej (C.extBut b.extBut D.i1z) (F.extBut b.extBut D.l1z) t λI Z i=>tz ?_);refine tz ?_;refine a_^a_^On ?_;show d_ _ _ (Builtin.SmallTypes.nextOf^.ref g>>=_) _ _ _
  exact a_ (wpAny_nextOf_list_end B ((N.extBut b.extBut D.i2z).extBut i.extBut D.i12.symm)
   ((O.extBut b.extBut D.l2z).extBut i.extBut D.l2i1) R λS e T u=>G S e (λc o v y X x=>T _ _ X^i.extBut _ _ y^b.extBut _ _ v x) u)
end
namespace F
def Ks:typeLookup (.type "zip") "__len__"=pure none:=by rw[typeLookup_type,builtinLookup_eq_fast];kernel_rfl
def HX:typeLookup (.type "zip") "__length_hint__"=pure none:=by rw[typeLookup_type,builtinLookup_eq_fast];kernel_rfl
end F
structure ZS (z TI TO i1 i2 l1 l2 S:Addr) (xs ys:Array Value) (k:Nat) (h:Heap):Prop where
 ti:IsPair h TI (.ref i1) (.ref i2)
 s1:h.IsListIter i1 l1 k
 s2:h.IsListIter i2 l2 k
 m1:h.IsList l1 xs
 m2:h.IsList l2 ys
 zz:(IsZip h z TI TO .none/\∃a b,IsPair h TO a b)\/∃a f oa,nK h z TI TO a f/\h.get? a\oa/\a≠z/\a≠i1/\a≠i2/\a≠S
section
variable {prog:Program} {w:World} {A:Around} {E:Value->Shared->Prop} {s:Shared} {z TI TO i1 i2 l1 l2 S:Addr} {xs ys:Array Value} {k:Nat}
def ZS.keep(x:ZS z TI TO i1 i2 l1 l2 S xs ys k h)(i:∀b o,b≠S->h.get? b\o->g.get? b\o)(l:∀b∈ [z,TI,TO,i1,i2,l1,l2],b<S):ZS z TI TO i1 i2 l1 l2 S xs ys k g:=by
 have n:∀b∈ [z,TI,TO,i1,i2,l1,l2],∀o,h.get? b\o->g.get? b\o:=λb m o e=>i b o (bX^l b m) e;refine#[n TI (by simp) _ x.ti,x.s1.at λo e=>n i1 (by simp) o e,x.s2.at λo e=>n i2 (by simp) o e,x.m1.at λo e=>n l1 (by simp) o e,x.m2.at λo e=>n l2 (by simp) o e,?_]
 rcases x.zz with ⟨a,b,c,d⟩ | ⟨a,f,p,q,r,t,u,v,j⟩
 .exact .inl #[n z (by simp) _ a,b,c,n TO (by simp) _ d]
 .exact .inr #[a,f,p,n z (by simp) _ q,i _ _ j r,t,u,v,j]
def TR{x y:b_}(D:la z TI TO i1 i2 l1 l2)(st:ZS z TI TO i1 i2 l1 l2 S xs ys k s.heap)(M:S<s.heap.objs.size)(v:xs[k]?\x)(B:ys[k]?\y)
  (C:∀g,ZS z TI TO i1 i2 l1 l2 S xs ys (k+1) g->IsPair g s.heap.objs.size x y->g.objs.size=s.heap.objs.size+1->
   (∀c o,c≠z->c≠TO->c≠i1->c≠i2->s.heap.get? c\o->g.get? c\o)->Q (some^.ref s.heap.objs.size) {s with heap:=g}):
  d_ (d5 prog w) A (lr^.ref z) Q E s:=by
 let⟨i,n,p,j,l,zz⟩:=st;have lt:∀{c o},s.heap.get? c\o->s.heap.objs.size≠c:=λe=>jY^Da e;have N:s.heap.objs.size≠i1:=by let⟨K,e,U⟩:=n;exact lt e
 have O:s.heap.objs.size≠i2:=by let⟨K,e,U⟩:=p;exact lt e
 rcases zz with ⟨h,a,b,P⟩ | ⟨a,f,R,h,G,H,I,J,T⟩
 .refine wpAny_pyNext_zip_item D h i P n p j l v B λg q b2 r t m u d=>?_
  exact C g #[d _ _ D.TIz D.TITO D.TIi1 D.TIi2 i,r,t,j.at λo e=>d _ o D.l1z D.l1TO D.l1i1 D.l1i2 e,l.at λo e=>d _ o D.l2z D.l2TO D.l2i1 D.l2i2 e, .inr #[_,false,_,q,m,lt h,N,O,jY M]] m u d
 .have L:s.TypeIs (.ref z) "zip":=#[_,h,rfl]
  unfold lr
  refine a_^ae5^aec (name:=Str.ofString "__next__") L aeL
   (ads aeL L F.entry_zip_next
    (CY D h G i n p j l v B λg q r t m u d=>tz ?_)^F.args_zip_next_1 _)
  exact C g #[d _ _ D.TIz D.TIi1 D.TIi2 i,r,t,j.at λo e=>d _ o D.l1z D.l1i1 D.l1i2 e,l.at λo e=>d _ o D.l2z D.l2i1 D.l2i2 e, .inr #[a,true,R,q,d _ _ H I J G,H,I,J,T]] m u λc o X _ Y Z e=>d c o X Y Z e
def TN(h:A.handled=none)(D:la z TI TO i1 i2 l1 l2)(st:ZS z TI TO i1 i2 l1 l2 S xs ys k s.heap)(i:xs[k]? =none\/ys[k]? =none)
  (j:∀g,(∀c o,c≠z->c≠TO->c≠i1->c≠i2->s.heap.get? c\o->g.get? c\o)->Q none {s with heap:=g}):d_ (d5 prog w) A (lr^.ref z) Q E s:=by
 let⟨l,m,n,p,q,zz⟩:=st
 rcases zz with ⟨d,a,b,t⟩ | ⟨a,f,I,d,u,J,L,M,N⟩
 .exact wpAny_pyNext_zip_end h D d l t m n p q i j
 .have r:s.TypeIs (.ref z) "zip":=#[_,d,rfl]
  unfold lr
  refine a_^ae5^aec (name:=Str.ofString "__next__") r aeL
   (ads aeL r F.entry_zip_next (Gu h D d u l m n p q i λg e v x=>?_)^F.args_zip_next_1 _)
  let⟨o,y,B⟩:=x;refine a_^wpAny_isInstance (T:="StopIteration") (b:=true) #[o,y,B] isSubtype_stop ?_;exact tz (j _ λc o C _ G H e=>v c o C G H e)
structure ZG (xs ys:Array Value) (lo:Addr) (h:Heap) (as:List Addr):Prop where
 rise:as.Pairwise (·<·)
 above:∀a∈as,lo<a
 pairs:∀(j:Nat)(a:Addr),as[j]?\a->∃x y,xs[j]?\x/\ys[j]?\y/\IsPair h a x y
theorem TU(hh:A.handled=none)(D:la z TI TO i1 i2 l1 l2)(m:∀b∈ [z,TI,TO,i1,i2,l1,l2],b<S)(hn:min xs.size ys.size<=sizeLine)(u:b_){h₁:Heap}
  (hR:∀g r acc c f,(∀b o,b≠S->b≠z->b≠TO->b≠i1->b≠i2->h₁.get? b\o->g.get? b\o)->g.get? S\{cls:= .type "list",dict:=none,data:= .seq acc c,slots:= #[]}->f.length=min xs.size ys.size->ZG xs ys S g f->
   acc.toList=f.map Value.ref->R (.ok^.ret u) {s with heap:=g,toks:=r}):
  ∀(n i:Nat)(h:Heap)(r c:Nat)(acc:Array b_)(f:List Addr),min xs.size ys.size-i=n->i<=min xs.size ys.size->ZS z TI TO i1 i2 l1 l2 S xs ys i h->
   (∀b o,b≠S->b≠z->b≠TO->b≠i1->b≠i2->h₁.get? b\o->h.get? b\o)->
   h.get? S\{cls:= .type "list",dict:=none,data:= .seq acc c,slots:= #[]}->acc.toList=f.map Value.ref->f.length=i->ZG xs ys S h f->
   gj (d5 prog w) A (.builtin "list.extend.loop" #[[.ref S, .ref z,u],[]]) R {s with heap:=h,toks:=r}:=by
 have nS:∀b∈ [z,TI,TO,i1,i2,l1,l2],b≠S:=λb d=>bX^m b d;intro n
 induction n with
 |zero=>
  intro i h r c acc f hk hi M N I J v p;have hin:i=min xs.size ys.size:=()
  refine adT aff ?_;rw[adK adB _];show d_ _ A.in1 (lr^.ref z>>=_) _ _ _;refine a_ (TN (s:={s with heap:=h,toks:=r}) (A:=A.in1) hh D M (by simp only[Array.getElem?_eq_none_iff];lia) λg he=>?_)
  have O:∀b,S<=b->b≠z/\b≠TO/\b≠i1/\b≠i2:=λb d=>#[jY^dR (m z^by simp) d,jY^dR (m TO^by simp) d,jY^dR (m i1^by simp) d,jY^dR (m i2^by simp) d]
  have up:∀b o,S<=b->h.get? b\o->g.get? b\o:=λb o d e=>let #[P,Q,T,X]:=O b d;he b o P Q T X e;refine tz^hR g r acc c f (λb o L q B C F e=>he b o q B C F^N b o L q B C F e) (up S _ (aZ _) I) () #[p.rise,p.above,λj a l=>?_] J
  obtain⟨x,y,Y,Z,k⟩:=p.pairs j a l;exact#[x,y,Y,Z,up a _ (lR^p.above a^cU l) k]
 |succ n ih=>
  intro i h r c acc f hk hi M N I J v p;have cg:i<min xs.size ys.size:=()
  have UK:i<xs.size:=()
  have G:i<ys.size:=()
  have e8:acc.size=i:=by rw[<-dj,J,aI,v]
  have E:S<h.objs.size:=Da I;refine adT aff ?_;rw[adK adB _];show d_ _ A.in1 (lr^.ref z>>=_) _ _ _;refine a_ (TR (s:={s with heap:=h,toks:=r}) (x:=xs[i]) (y:=ys[i]) D M E (sU UK) (sU G) λg abL ht hz hkp=>?_)
  dsimp only at ht hz hkp ⊢;have O:∀b,S<=b->b≠z/\b≠TO/\b≠i1/\b≠i2:=λb d=>#[jY^dR (m z^by simp) d,jY^dR (m TO^by simp) d,jY^dR (m i1^by simp) d,jY^dR (m i2^by simp) d]
  have H:∀b o,S<=b->h.get? b\o->g.get? b\o:=λb o d e=>let #[P,Q,T,X]:=O b d;hkp b o P Q T X e;have UD:=H S _ (aZ _) I;have up:∀b o,b≠S->g.get? b\o->(g.update S^Obj.mapSeq (·.push^Value.ref h.objs.size)).get? b\o:=λb o d e=>(Os _ _^Ne.symm d).trans e;show d_ _ A.in1 (updateSeq S (·.push^Value.ref h.objs.size)>>=_) _ _ _;refine a_ ?_
  refine aeM UD rfl (tz #[adY adB _,ih (i+1) _ r _ (acc.push^Value.ref h.objs.size) (f++ [h.objs.size]) () cg (abL.keep up m)
   (λb o L q B C F e=>up b o L^hkp b o q B C F^N b o L q B C F e) (PP _ UD rfl) (by rw[B3,J,dk];rfl) (by rw[dJ,v];rfl) #[?_,?_,?_]]) (by rw[e8];lia)^by show(acc.push^Value.ref h.objs.size).size<=sizeLine+1;rw[Array.size_push,e8];lia
  .refine wH.mpr #[p.rise,Gy _ _,λa t b d=>?_]
   rw[bW.mp d];obtain⟨j,l⟩:=B0.mp t;obtain⟨_,_,_,_,e⟩:=p.pairs j a l;exact Da e
  .intro a t
   rcases bF.mp t with t|t
   .exact p.above a t
   .rw[bW.mp t];exact E
  .intro j b l
   rcases Nat.lt_trichotomy j f.length with q|q|q
   .rw[iR q] at l
    obtain⟨x',y',Y,Z,k⟩:=p.pairs j b l;have d:=p.above b^cU l;exact#[x',y',Y,Z,up b _ (jY d)^H b _ (lR d) k]
   .subst q
    have d:h.objs.size=b:=by simpa using l
    subst d;exact#[_,_,by rw[v];exact sU UK,by rw[v];exact sU G,up _ _ (jY E) ht]
   .have Zq:(f++ [h.objs.size])[j]? =none:=fJ^by rw[dJ,GB];lia
    rw[Zq] at l;cases l
def TQ(a:s.TypeIs (.ref z) "zip")(h:Q true s):d_ (d5 prog w) A (Builtin.List.listLengthHint^.ref z) Q E s:=by
 unfold Builtin.List.listLengthHint;refine a_^aeJ a F.Ks ?_;refine a_^aeJ a F.HX ?_;exact tz h
def LH(C:A.handled=none)(D:la z TI TO i1 i2 l1 l2)(n:∀b∈ [z,TI,TO,i1,i2,l1,l2],b<S)(st:ZS z TI TO i1 i2 l1 l2 S xs ys 0 s.heap)(t:s.TypeIs (.ref z) "zip")(F:min xs.size ys.size<=sizeLine)(g:b_)(c₀:Nat)
  (hz:∃u,IsZip s.heap z TI TO u) (p:s.heap.get? S\{cls:= .type "list",data:= .seq #[] c₀})
  (G:∀l i acc c q,(∀b o,b≠S->b≠z->b≠TO->b≠i1->b≠i2->s.heap.get? b\o->l.get? b\o)->l.get? S\{cls:= .type "list",dict:=none,data:= .seq acc c,slots:= #[]}->q.length=min xs.size ys.size->ZG xs ys S l q->
   acc.toList=q.map Value.ref->R (.ok^.ret g) {s with heap:=l,toks:=i}):
  d_ (d5 prog w) A.in1 (Builtin.List.listExtendWith (.ref S) (.ref z) g)
   (λfin m=>match fin with| .done f=>R (.ok f) m| .again v=>v.quiet=true/\gj (d5 prog w) A v R m) (λe m=>R (.error e) m) s:=by
 have r:S≠z:=jY^n z^by simp
 let⟨u,hz⟩:=hz
 have key:∀(h:Heap)(d i:Nat),(∀b o,b≠S->s.heap.get? b\o->h.get? b\o)->
   h.get? S\{cls:= .type "list",data:= .seq #[] d}->gj (d5 prog w) A (.builtin "list.extend.loop" #[[.ref S, .ref z,g],[]]) R {s with heap:=h,toks:=i}:=by
  intro h d i x H;exact TU (s:=s) (h₁:=s.heap) C D n F g G _ 0 h i d #[] [] rfl (eB _) (st.keep x n) (λb o I _ _ _ _ e=>x b o I e) H rfl rfl #[List.Pairwise.nil,(λ_ J=>nomatch J),(λj a L=>by simp at L)]
 unfold Builtin.List.listExtendWith;refine a_^afU (T:="zip") t ?_;have M:Builtin.List.listSameRef (.ref S)^.ref z=false:=by simp[Builtin.List.listSameRef,r]
 have N:(Value.type "zip"==Value.type "list")=false:=∅
 have O:(Value.type "zip"==Value.type "tuple")=false:=∅
 simp only[M,N,O,Bool.or_false,fL,Pi];refine a_^wpAny_pyIter_zip hz ?_;refine a_^On^TQ t ?_;refine wpAny_ite_split (λ_=>?_)^λ_=>tz #[adY adB _,key _ c₀ _ (λb o _ e=>e) p];refine a_^adI ?_;refine a_ ?_;show d_ _ _ (updateSeq S (·.push .none)>>=λ_=>updateSeq S (·.pop)) _ _ _;refine a_^aeM p rfl ?_;have y:=PP (Obj.mapSeq (·.push Value.none)) p rfl;refine aeM (hz:=by seq_fits) y rfl ?_
 have P:=PP (Obj.mapSeq (·.pop)) y rfl;refine tz #[adY adB _,key _ _ _ (λb o B e=>?_) P];exact(Os _ _^Ne.symm B).trans^(Os _ _^Ne.symm B).trans e
def TM(t:A.handled=none)(D:la z TI TO i1 i2 l1 l2)(st:∀S,ZS z TI TO i1 i2 l1 l2 S xs ys 0 s.heap)(u:IsZip s.heap z TI TO .none)(i:∀b∈ [z,TI,TO,i1,i2,l1,l2],b<s.heap.objs.size)(v:min xs.size ys.size<=sizeLine)
  (q:∀f l acc c g,(∀b o,b≠z->b≠TO->b≠i1->b≠i2->s.heap.get? b\o->f.get? b\o)->f.get? s.heap.objs.size\{cls:= .type "list",dict:=none,data:= .seq acc c,slots:= #[]}->g.length=min xs.size ys.size->ZG xs ys s.heap.objs.size f g->
   acc.toList=g.map Value.ref->Q (.ref s.heap.objs.size) {s with heap:=f,toks:=l}):
  d_ (d5 prog w) A (call (.type "list") [.ref z]) Q E s:=by
 refine callType_codes (Q₁:=λobj a=>obj= .ref s.heap.objs.size/\a={s with heap:=s.heap.push {cls:= .type "list",data:= .seq #[]}}) PySem.F.called_list (PySem.F.typeCall_list_1 _) PySem.F.entry_list_init
  (code_list_new _ #[rfl,rfl]) λobj a h=>?_
 obtain⟨rfl,rfl⟩:=h;generalize m:s.heap.objs.size=S at i q ⊢;have j:(s.heap.push {cls:= .type "list",data:= .seq #[]}).get? S\{cls:= .type "list",data:= .seq #[]}:=by rw[<-m];exact GM _ rfl
 have n:∀b o,s.heap.get? b\o->(s.heap.push {cls:= .type "list",data:= .seq #[]}).get? b\o:=λb o e=>AC _ e;exists #[_,j,rfl],PySem.F.args_list_init_2 _ _;show d_ _ A.in1.in1 (do let p <-Builtin.List.listItems^.ref S;Builtin.List.listUpdate (.ref S)^λ_=> #[];letGo p.toList.reverse;Builtin.List.listExtendWith (.ref S) (.ref z) .none) _ _ _
 refine a_ ?_;unfold Builtin.List.listItems;refine a_^aeb j rfl^tz ?_;show d_ _ _ (updateSeq S (λ_=> #[])>>=λ_=>letGo (#[]:Array b_).toList.reverse>>=λ_=>Builtin.List.listExtendWith (.ref S) (.ref z) .none) _ _ _;refine a_^aeM j rfl ?_;have y:=PP (Obj.mapSeq^λ_=>(#[]:Array b_)) j rfl
 have d:∀b o,b≠S->s.heap.get? b\o->((s.heap.push {cls:= .type "list",data:= .seq #[]}).update S^Obj.mapSeq^λ_=>(#[]:Array b_)).get? b\o:=
  λb o B e=>(Os _ _^Ne.symm B).trans^n b o e
 refine a_^wpAny_letGo ?_;have r:=d z _ (bX^i z^by simp) u
 refine LH (A:=A.in1) (c₀:=0) t D i ((st S).keep d i) #[_,r,rfl] v .none #[_,r] y^λf l acc c g C G H I J=>?_;exact#[rfl,q f l acc c g (λb o L M N O e=>C b o (λx=>jy S^by have:=Da e;rw[m,x] at this;exact this) L M N O^d b o (λx=>jy S^by have:=Da e;rw[m,x] at this;exact this) e) G H I J]
end
end PySem
namespace L2
open PySem PySem.Spec PyProof.Rows
noncomputable def zH(H:Hp)(q:Addr)(a:List Addr)(xs c:List V):Hp:=λb=>if b=q then some^.lst^a.map V.ref else if b∈a then some^.tup [xs.getD (a.idxOf b) .aS,c.getD (a.idxOf b) .aS] else H b
section
variable {X:Cx} {Z:DC} {G H H':Hp} {q:Addr} {as:List Addr} {xs ys:List V} {pins:List (Addr×Obj)} {σ:St} {s:Shared} {h':Heap}
def zR(c:H q=none)(d:∀a∈as,H a=none)(e:H b\o):zH H q as xs ys b\o:=by
 unfold zH;rw[mo (λz=>by rw[z,c] at e;cases e),mo (λz=>by rw[d b z] at e;cases e)];exact e
def aaC{a:Addr}{j:Nat}{x y:V}(c:as.Nodup)(d:q∉as)(e:as[j]?\a)(f:xs[j]?\x)(g:ys[j]?\y):zH H q as xs ys a\(.tup [x,y]):=by
 let⟨h,rfl⟩:=cD.mp e;have b:as[j]∈as:=iT h;unfold zH;rw[mo^λz:as[j]=q=>d^by rw[<-z];exact b,ir b,c.idxOf_getElem,bO,f,bO,g];rfl
theorem Inv.abT{t':Nat}(I:Inv X pins σ H s)(k:∀b u,s.heap.get? b\u->h'.get? b\u)(a:∀b o,H b\o->H' b\o)
  (d:∀b o,H b=none->H' b\o->s.heap.objs.size<=b/\cG X.prog X.w H' h' b o):Inv X pins σ H' {s with heap:=h',toks:=t'}:=by
 refine I.un #[λb o e _ _ _=>k b o e,λb o e _ _ _=>#[o.slots,k b o e],λb o e n _=>?_,λb o e _=>#[o,k b o e],λb f e=>a b _ e,λb o u e=>a b _ e,λb g e=>#[#[],by rw[a b _ e];simp]] λb o e=>?_
 .cases z:H' b with
  |none=>rfl
  |some u=>exact absurd (d b u n z).1^Nat.not_le.mpr^Da e
 .cases z:H b with
  |none=>exact(d b o z e).2
  |some u=>
   rw[a b u z] at e;cases Fk e;exact(I.hok b o z).qE (λc v _ q=>k c v q) (λc q=>a c _ q) λc f q=>a c _ q
def LF(n a b:Nat)(c:a<n)(d:b<n):ZipApart (n+4) (n+2) (n+3) n (n+1) a b:=
 #[show n+2≠n+4 by lia,show n+3≠n+4 by lia,show n≠n+4 by lia,show n+1≠n+4 by lia,show n+2≠n+3 by lia,show n+2≠n by lia,show n+2≠n+1 by lia,show n+3≠n by lia,show n+3≠n+1 by lia,show n≠n+1 by lia,
  show a≠n+4 by lia,show a≠n+3 by lia,show a≠n by lia,show a≠n+1 by lia,show b≠n+4 by lia,show b≠n+3 by lia,show b≠n by lia,show b≠n+1 by lia]
theorem DvAll.of_get:∀{a:List V}{b:List D},a.length=b.length->(∀(k:Nat) x d,a[k]?\x->b[k]?\d->Dv Z G x d)->DvAll Z G a b
 | [],[],_,_=> .nil
 | [],_::_,h,_=>by simp at h
 |_::_,[],h,_=>by simp at h
 |x::a,u::f,h,r=> .cons (r 0 x u rfl rfl) (DvAll.of_get (~~~h) λk y w c e=>r (k+1) y w (~~~c)^~~~e)
def OE(K:ad)(h:TA):TE:=λi H Q=>h i H λj b=>∃f g d e,j= [.ref f, .ref g]/\aK K b f d/\aK K b g e/\
 ∀q c,c.length=min d.length e.length->c.Nodup->q∉c->b q=none->(∀a∈c,b a=none)->Q (.ref q)^zH b q c d e
theorem Ii(hc:X.calm=true)(Zg:Gl X "list")(JV:X.mg "list"=none)(Zh:Gl X "zip")(JW:X.mg "zip"=none)(P:PA X [a,b] ta)
  (hs:d4 [.Call (.Name "zip" l) [a,b] [] L] X.env=(false,f7 (.Call (.Name "zip" l) [a,b] [] L) X.env)::d4 [] X.env<|>zn) (cR:(gd pos^d4 [] X.env).any (·.1)=false<|>zn)
  (mH:d4 [a,b] X.env= [(false,f7 a X.env),(false,f7 b X.env)]<|>zn) (UP:d4 [b] X.env= [(false,f7 b X.env)]<|>zn):
  PE X (.Call (.Name "list" p) [.Call (.Name "zip" l) [a,b] [] L] [] pos)^OE X.K ta:=by
 intro r s σ H Q I h;refine SZ^kK I Zg JV pL ?_;refine W1 ?_ hs cR;rw[hs];show d_ _ _ (spliced ((false,f7 _ X.env)::gd pos^d4 [] X.env)) _ _ s;refine Calls.spliced_cons ?_;refine Call_^kK I Zh JW (show f8 "zip"\(.type "zip") by decide+kernel)^W1 (thn (P L r s σ H _ I h) λus f #[vs,R,t,r1,q1]=>?_) (by rw[mH,UP])^by rw[UP];rfl
 rfl';let⟨M,N,T,Y,e,xg,uU,q⟩:=q1;subst e;let⟨u1,u2,rfl,G,Z⟩:=r1.two;subst G;subst Z;let⟨ade,y,p1,NJ⟩:=t.list xg;let⟨uY,A,l,Q7⟩:=t.list uU;have e1:=y.length;have e2:=A.length;have AL:M<f.heap.objs.size:=by let⟨o,ho,U⟩:=p1.isList;exact Da ho
 have Kn:N<f.heap.objs.size:=by let⟨o,ho,U⟩:=l.isList;exact Da ho
 ac_rfl;refine call_zip_2 p1.isList l.isList λg hz Qv Qw h1 h2 e8 kk=>?_;refine Calls.spliced_nil ?_;have D:=LF f.heap.objs.size M N AL Kn;have m1:=p1.isList.at λo e=>kk M o e;have m2:=l.isList.at λo e=>kk N o e;refine TM (s:={f with heap:=g}) (I.ok.hd hc) D (λS=>#[Qv,h1,h2,m1,m2, .inl #[hz,_,_,Qw]]) hz (λb d=>?_) (by simp only[cE];lia) λh3 tk acc c i hk hS hl B pY=>?_
 .show b<g.objs.size
  rw[e8];generalize f.heap.objs.size=n at d AL Kn;simp only[b7,afu,or_false] at d;show b<n+5
  rcases d with z|z|z|z|z|z|z<;>rw[z]
  .show n+4<n+5;lia
  .show n+2<n+5;lia
  .show n+3<n+5;lia
  .show n<n+5;lia
  .show n+1<n+5;lia
  .show M<n+5;exact dR AL ()
  .show N<n+5;exact dR Kn ()
 .have ze:∀b o,f.heap.get? b\o->h3.get? b\o:=λb o e=>by
   have d:=Da e;refine hk b o ?_ ?_ ?_ ?_^kk b o e<;>(intro z;rw[z] at d;revert d;generalize f.heap.objs.size=n;intro d;exact absurd d^by show ¬(_<n);lia)
  have O:f.heap.objs.size<=g.objs.size:=by rw[e8];exact Nat.le_add_right _ _
  have mG:h3.get? g.objs.size\{cls:= .type "list",dict:=none,data:= .seq acc c,slots:= #[]}:=hS;have xq:i.Nodup:=B.rise.imp λh=>bX h;have hqa:g.objs.size∉i:=λm=>jy _^B.above _ m;have C:R g.objs.size=none:=t.hok.fresh O;have E:∀a∈i,R a=none:=λa P=>t.hok.fresh^jz O^lR^B.above a P;have Cv:i.length=min T.length Y.length:=by rw[hl,cE,cE];lia
  refine#[.ref g.objs.size,zH R g.objs.size i T Y,Inv.abT (s:=f) (t':=tk) t ze (λb o e=>zR C E e)^λb o n e=>?_,rfl,q _ i Cv xq hqa C E];unfold zH at e
  by_cases d:b=g.objs.size
  .rw[ir d] at e
   obtain rfl:=Fk e;subst d;refine#[O,by rw[aI,Cv];lia,acc.toList,c,?_,by simpa using mG]
   rw[pY]
   exact Vals.of_get (by simp) λk x w F hw=>by
    rw[cL] at F hw;cases z:i[k]? with
    |none=>rw[z] at F;cases F
    |some a=>rw[z] at F hw;cases F;cases hw;rfl
  .rw[mo d] at e
   by_cases m:b∈i
   .obtain⟨j,hj⟩:=B0.mp m
    let⟨hjl,hjb⟩:=cD.mp hj;let⟨u,v,e3,e4,e5⟩:=B.pairs j b hj;have Hy:j<T.length:=()
    have J:j<Y.length:=()
    let⟨u',J6,ru⟩:=y.get^bA Hy;let⟨v',J7,rv⟩:=A.get^bA J;have eu:u'=u:=by rw[aeu,J6] at e3;exact Fk e3
    have ev:v'=v:=by rw[aeu,J7] at e4;exact Fk e4
    subst eu ev;rw[ir m] at e;have ez:i.idxOf b=j:=by rw[<-hjb];exact xq.idxOf_getElem j hjl
    rw[ez,bO,bO,bA Hy,bA J] at e;cases Fk e;exact#[jz O^lR^B.above _ m,by show 2<=sizeLine;decide,[u',v'], .cons ru^.cons rv .nil,yz e5]
   .rw[mo m,n] at e;cases e
def Wy{G H:Hp}(s:aC G H)(c:H q=none)(d:∀a∈as,H a=none):Ext G H (zH G q as xs ys)^zH H q as xs ys:=by
 refine#[λb o e=>zR (s.free c) (λa m=>s.free^d a m) e,λb o e=>?_,λb o e=>zR c d e,λb f g=>?_]
 .unfold zH at e ⊢
  by_cases h:b=q
  .rw[ir h] at e ⊢;exact e
  .rw[mo h] at e ⊢
   by_cases i:b∈as
   .rw[ir i] at e ⊢;exact e
   .rw[mo i] at e ⊢;exact s b o e
 .unfold zH
  rw[mo^λz=>f^by rw[z];exact c,mo^λz=>f^d b z];exact g
def M6(t:iE):bb:=λa P=>t a λb=>match b with
 | [.lst l, .lst m]=>P^.lst ((l.zip m).map λp=> .tup [p.1,p.2])
 |_=>False
theorem Hf(I:X.calm=true)(J:Gl X "list")(L:X.mg "list"=none)(M:Gl X "zip")(N:X.mg "zip"=none)(O:DA Z X [a,b] t)
  (R:d4 [.Call (.Name "zip" n) [a,b] [] r] X.env=(false,f7 (.Call (.Name "zip" n) [a,b] [] r) X.env)::d4 [] X.env<|>zn) (S:(gd pos^d4 [] X.env).any (·.1)=false<|>zn)
  (T:d4 [a,b] X.env= [(false,f7 a X.env),(false,f7 b X.env)]<|>zn) (Y:d4 [b] X.env= [(false,f7 b X.env)]<|>zn):
  DE Z X (.Call (.Name "list" p) [.Call (.Name "zip" n) [a,b] [] r] [] pos)^M6 t:=by
 refine(Ii I J L M N O R S T Y).imp ?_;rintro σ H Q ⟨G,ρ,P,s,en,h,q⟩;refine#[G,ρ,_,s,en,h,λds c vs i H1 f dv=>?_]
 have Ct:∃l m,ds= [.lst l, .lst m]/\P^.lst ((l.zip m).map λp=> .tup [p.1,p.2]):=by
  split at c
  .exact#[_,_,rfl,c]
  .exact c.elim
 rfl';let⟨l,m,rfl,c⟩:=Ct;let⟨v1,v2,rfl,d1,d2⟩:=dv.xK;let⟨a1,xs,rfl,k1,A⟩:=d1.j6;let⟨a2,B,rfl,k2,C⟩:=d2.j6;ac_rfl;refine#[a1,a2,xs,B,rfl,aK.of^f.sub _ _ k1,aK.of^f.sub _ _ k2,λp j hl hn u E has=>?_];have gp:i p=none:=f.sub.free E;have ga:∀a∈j,i a=none:=λa m=>f.sub.free^has a m;have F:aC i^zH i p j xs B:=λb o e=>zR gp ga e;have g1:=A.length;have g2:=C.length;refine q _ c _ _ _ (f.trans^Wy f.sub E has)^.lst (xs:=j.map V.ref) (by unfold zH;rw[ir rfl]) ?_
 refine DvAll.of_get (by rw[aI,aI,List.length_zip,hl,g1,g2]) λk v d g c=>?_
 rw[cL] at g c;cases z:j[k]? with
 |none=>rw[z] at g;cases g
 |some b=>
  rw[z] at g;obtain rfl:=Fk g;cases w:(l.zip m)[k]? with
  |none=>rw[w] at c;cases c
  |some pr=>
   rw[w] at c;obtain rfl:=Fk c;let⟨c1,c2⟩:=afg.mp w;let⟨x,hx,dx⟩:=A.get c1;let⟨y,hy,dy⟩:=C.get c2;exact .tup (aaC hn u z hx hy)^.cons (dx.mono F)^.cons (dy.mono F) .nil
end
theorem mT.at{H:Hp}{i:List (Int×Addr)}{b:List (Int×Int)}{xs:List (List Int×Addr×b_)}(d:mT H i b c xs):∀{j:Nat}{p:Int×Int}{fv:FV},b.Nodup->b[j]?\p->c[j]?\fv->∃a u,atKey xs [p.1,p.2]\(a,u)/\MR fv u:=by
 induction d with
 |nil=>intro j p fv _ h;cases h
 | @cons a q v u i b c xs x m t n=>
  intro j p fv o g k;have l:=kD.mp o;cases j with
  |zero=>
   cases g;cases k;exact#[a,u,by simp[atKey],m]
  |succ j=>
   let⟨r,s,e,f⟩:=n l.2 g k;refine#[r,s,?_,f]
   have w:¬([q.1,q.2]= [p.1,p.2]):=λz=>l.1 (by
    simp at z;rw[show q=p from UV z.1 z.2];exact cU g)
   unfold atKey at e ⊢;rw[List.find?_cons_of_neg^~~~w];exact e
section
variable {X:Cx} {Z:DC} {a b:Expr} {ta tb:bb} {pos:Pos}
def Qi(h:MR f u):RelV (vF f) u:=by
 cases f with
 |int i=>exact h
 |bl b=>exact h
def Xy:R2:=λx y H Q=>∃(c a:Addr)(e:List (Int×Addr))(d:List (Int×Int))(f:List FV)(p:Int×Int)(j:Nat)(fv:FV),x= .ref a/\y= .ref c/\H c\(.tup [.int p.1, .int p.2])/\H a\(.ext^cu a e f)/\hZ H e d/\d.Nodup/\d[j]?\p/\f[j]?\fv/\Q (vF fv) H
def UX(O:X.A.units+64<cLine):zU X Xy:=by
 intro e f d s l H x y v u Q I m n h o;rfl';let⟨c,a,R,S,T,p,j,fv,rfl,rfl,B,C,E,g,F,G,q⟩:=h;subst m;subst n;let⟨z,Y,J,i⟩:=I.Uq C E g;let⟨b,u,L,M⟩:=J.at g F G;ac_rfl
 exact aeg (x:=u) i.typeIs slot_dict_getitem.lookup
  (wpAny_getItem_heap (knd:=hQ^eh X.prog X.w) (k:= [p.1,p.2]) (p:=(b,u)) (Q:=λr N=>r=u/\EP X d l Q r N) (tupleKind_room_in1 ()) (I.sO B) i L #[rfl,vF fv,H,I.tok _,Qi M,q]) o
def LQ:i3:=λa b P=>∃(p:Int×Int)(c:List (Int×Int))(d:List FV)(j:Nat)(fv:FV),a= .x^.eL c d/\b=KP p/\c[j]?\p/\d[j]?\fv/\P^Qh fv
def Dv.fv(f:FV):Dv Z G (vF f)^Qh f:=by
 cases f with
 |int i=>exact .int i
 |bl b=>exact .bl b
def Ri(h:cc Z LQ x y H Q):Xy x y H Q:=by
 revert h
 rintro⟨G,a,b,P,s,d,e,⟨p,f,g,j,fv,rfl,rfl,i,k,h⟩,q⟩;let⟨c,rfl,l⟩:=e.D9;cases d with
 |x m ok=>
  rfl';let⟨o,r,rfl,t⟩:=ok;ac_rfl;exact#[c,_,r,f,g,p,j,fv,rfl,rfl,s _ _ l,s _ _ m,t.mono s,o,i,k,q _ h _ G H (.refl s)^.fv fv]
def zD(g:X.A.units+64<cLine)(i:DE Z X a ta)(j:DE Z X b tb)(f:uH b<|>xr):DE Z X (.Subscript a b pos)^EU LQ ta tb:=by
 have k:zU X^cc Z LQ:=λc d e s l H x y v u Q I m n h f=>UX g c d e s l H x y v u Q I m n (Ri h) f;exact(dh k i j f).imp AH
end
def StK(D:Addr)(v e:V)(H:Hp)(N:Hp->Prop):Prop:=∃c b a d p fv,v= .ref c/\e=vF fv/\H D\(.ext^cu D b d)/\H c\(.tup [.int p.1, .int p.2])/\hZ H b a/\a.Nodup/\p∉a/\a.length<=300/\N^upd H D^.ext^cu D (b++ [(bT p,c)]) (d++ [fv])
theorem S8(hu:X.A.units+64<cLine)(j:Inv X d n H s)(t:H c\(.tup [.int p.1, .int p.2]))(v:H a\(.ext^cu a f i))(G:hZ H f g)(I:g.Nodup)(J:p∉g)(hz:g.length<=300)(L:RelV (vF fv) r)
  (h:∀y h',Inv X d n (upd H a^.ext^cu a (f++ [(bT p,c)]) (i++ [fv])) {s with heap:=h',toks:=y}->Q ⟨⟩ {s with heap:=h',toks:=y}):d_ (d5 X.prog X.w) X.A (dictSet a (.ref c) r) Q E s:=by
 let⟨z,l,m,M⟩:=j.Uq v G I;refine wpAny_dictSet_heap (knd:=hQ^eh X.prog X.w) (k:= [p.1,p.2]) (by show X.A.units<cLine;lia) (j.sO t) M (λh' B N=>?_)^small^by rw[m.len];lia
 have O:atKey l [p.1,p.2]=none:=by
  cases e:atKey l [p.1,p.2] with
  |none=>rfl
  |some q=>exact absurd (rK.mp^by rw[<-m.keys];exact l5.mp^by rw[e];rfl) J
 rw[storedH_new O] at B;rfl';have R:mT H (f++ [(bT p,c)]) (g++ [p]) (i++ [fv]) (l++ [([p.1,p.2],c,r)]):=m.snoc t^L6 L;let⟨C,S,T,F,Y,Z,w9,D,K⟩:=B;ac_rfl;exact h _ _^j.write (h':=h') (t':=s.toks+(hQ^eh X.prog X.w).draws [p.1,p.2]) (x:=a) (e:=a) (o:= .ext^cu a (f++ [(bT p,c)]) (i++ [fv])) (by rw[v];trivial) (.inl rfl) (λb u hb e=>N.extBut b u hb e) #[C,F]^cu.ok #[z,C,S,T,F,Y,Z,by rw[w9];exact PZ R]
section
variable {X XC:Cx} {kx vx i0 t0 i1 t1:fz} {f0 f1:List fz} {scope:Scope} {pos:jp} {wi cK:TI} {g g1:TG} {tt bY:TT} {tk tv:TE} {src:List^Option Nat} {NC:List eg}
theorem OG:k8 (.DictComp kx vx [#[t0,i0,f0,0],#[t1,i1,f1,0]] scope pos) t0 i0 t1 i1 f0 f1 (λD env=>do
  let b <-f7 kx env
  let d <-gP [b] (f7 vx env)
  ie {kx.pos with endLine:=vx.pos.endLine,endCol:=vx.pos.endCol}
  gP [b,d]^dictSet D b d) where
 u:=λ_ _ _ _ _=>rfl
 z0:=λ_ _ _ _ _=>rfl
 z1:=λ_ _ _ _ _=>rfl
 b0:=λa c=>codeAny_compStart_dict a (c _ _ a)
 b1:=λa c=>by
  refine codeAny_of_tree ?_;refine wpAny_notedAt ?_;unfold compStart;refine a_^wpAny_askSetting^wpAny_ite ?_
  split
  .first
    |exact a_^fQ^fQ #[rfl,a]
    |exact fQ #[rfl,a]
  .refine a_^wpAny_rule ?_
   exact a_^lf^a_^c _ _^fQ #[rfl,a]
def acD(b c:TE):MV:=λD a H N=>b a H λv d=>c a d λe f=>StK D v e f N
def N3(l:X.A.units+64<cLine)(m:PE X kx i)(n:PE X vx tv):OX X (λD env=>do
  let b <-f7 kx env
  let j <-gP [b] (f7 vx env)
  ie {kx.pos with endLine:=vx.pos.endLine,endCol:=vx.pos.endCol}
  gP [b,j]^dictSet D b j)^acD i tv:=λD a s k H N I h=>
 a_ (thn (m a s k H _ I h) λy o d=>by
  rfl';obtain⟨v,r,t,u,w⟩:=d;ac_rfl;refine a_^On (thn (n a o k r _ t w) λP Q d=>?_);rfl';obtain⟨R,S,x,f,c,T,Y,Z,p,fv,z,B,C,E,F,G,J,L,M⟩:=d;ac_rfl;subst z B;subst u;exact a_^adn^On (S8 l x E C F G J L f λi g O=>#[_,O,M]))
def Tt(g:TG)(a:TT)(b:TI)(c:TG)(d:TT)(e f:TE)(D:Addr)(J:It)(Q:VK)(h:St)(H:Hp):Prop:=Qj g a b c d (acD e f) D J Q h H
def XH(c:TI)(g:TG)(d:TT)(e:TI)(f:TG)(h:TT)(i j:TE)(src:List^Option Nat):TE:=λa H Q=>c a H λJ b=>∀D,b D=none->Tt g d e f h i j D J Q (lN src a)^upd b D^.ext^cu D [] []
def Cj{f:List (Addr×Obj)}{l:St}{h:c_}{i:Hp}{t:Addr}{j:List Addr}{u:Nat->Heap->Prop}{J:It}{v:b_->Addr->lb->c_->Prop}{E:b_->c_->Prop}{Q:VK}
  (C:X.A.units+64<cLine) (F:X.calm=true) (c:bD X scope) (G:dM scope X.N src NC) (k:Inv X f l i h) (T:Turn X.prog X.w X.K t0 J j t u) (I:u 0 h.heap) (L:∀b∈j,fN X f i b)
  (m:∀d s H,PG (bK X scope NC d s H) t0 g) (M:∀d s H,k6 (bK X scope NC d s H) f0 tt) (O:∀d s H,PI (bK X scope NC d s H) t1 i1 cK) (P:∀d s H,PG (bK X scope NC d s H) t1 g1)
  (R:∀d s H,k6 (bK X scope NC d s H) f1 bY) (S:∀d s H,PE (bK X scope NC d s H) kx tk) (Y:∀d s H,PE (bK X scope NC d s H) vx tv) (Z:∀env x,ey i1 env x=pure x)
  (hW:∀D,i D=none->Tt g tt cK g1 bY tk tv D J Q (lN src l)^upd i D^.ext^cu D [] [])
  (JK:∀D n p ay y z,Inv X f l p n->(∀b∈j,fN X f p b)->Inv (bK X scope NC j n p) [] ay y z->Q (.ref D) y->v (.ref D) n.heap.objs.size (.ok .next) z):
  d_ (d5 X.prog X.w) X.A newDict (λacc wo=>d_ (d5 X.prog X.w) X.A (jn scope X.env.globals (jK X.env scope.names []) [] X.env.qual none .none^some X.env) (λB wq=>
   gj (d5 X.prog X.w) X.A (.compStart (.DictComp kx vx [#[t0,i0,f0,0],#[t1,i1,f1,0]] scope pos) 0 (.ref t) acc {B with scope:=ka scope X.env}) (v acc B.locals) wq) E wo) E h:=by
 have r:(h.heap.objs.size==iN)=false:=by
  have m:fD<h.heap.objs.size:=(k.mod.glob.keeps k.bk).lt;have hs:iN<h.heap.objs.size:=Nat.lt_trans ∅ m
  exact ado.mpr^Ne.symm^bX hs
 refine BC (o0:=λD=> .ext^cu D [] []) OG F c G k T I L m M O P R (λd s H=>N3 C (S d s H)^Y d s H) Z (λQ' E' q=>?_) hW JK;simp only[newDict,newObj];exact a_^wpAny_alloc^tz (q _ (k.laid (a:=h.heap.objs.size) (t':=h.toks) (λ_ _ q=>AC _ q) (aZ _) (o:= .ext^cu h.heap.objs.size [] [])^cu.ok #[r,_, #[],0,GM _ rfl,#[rfl,rfl,rfl],rfl, .nil]) λb o e=>AC _ e)
def Vz(e:X.A.units+64<cLine)(f:X.calm=true)(c:bD X scope)(i:dM scope X.N src NC)(j:PI X t0 i0 wi)
  (k:∀a s H,PG (bK X scope NC a s H) t0 g) (l:∀a s H,k6 (bK X scope NC a s H) f0 tt) (n:∀a s H,PI (bK X scope NC a s H) t1 i1 cK) (o:∀a s H,PG (bK X scope NC a s H) t1 g1)
  (p:∀a s H,k6 (bK X scope NC a s H) f1 bY) (q:∀a s H,PE (bK X scope NC a s H) kx tk) (r:∀a s H,PE (bK X scope NC a s H) vx tv)
  (t:(∀x,ey i0 X.env x=pure x)<|>za) (u:(∀env x,ey i1 env x=pure x)<|>xu):
  PE X (.DictComp kx vx [#[t0,i0,f0,0],#[t1,i1,f1,0]] scope pos)^XH wi g tt cK g1 bY tk tv src:=by
 intro b s w H Q I h;rw[arm_eval_DictComp];refine adM (use:=none) rfl t (gS^c.cells I.ok) c.kind c.names (thn (j b s w H _ I h) λv Y y=>thn y λZ s2 z=>?_);rfl';let⟨it,fp,tn,J,H2,rfl,C,T,E,F,G⟩:=z;ac_rfl
 exact Cj e f c i C T E F k l n o p q r u G λD s3 H3 ay L s' M O d P=>by
  let⟨m,R,B⟩:=d.loc;exact#[m,R,λh' S=>#[.ref D,L,comp_back M O d S,rfl,P]]
end
section
variable {Z:DC} {X:Cx} {kx vx:fz} {tk tv:bb} {scope:Scope} {NC:List eg} {src:List^Option Nat} {wi:kY} {g:ft} {tt:dU} {pos:jp}
def lcWK(g:ft)(e:dU)(f h:bb):List D->DN->List (Int×Int)->List FV->(DN->List (Int×Int)->List FV->Prop)->Prop
 | [],i,a,d,N=>N i a d
 |x::j,i,a,d,N=>g x i λc=>e c λb=>if b=true then f c λk=>h c λl=>∃p fv,k=KP p/\l=Qh fv/\p∉a/\a.length<=300/\lcWK g e f h j c (a++ [p]) (d++ [fv]) N else lcWK g e f h j c a d N
def lcWK2(g:ft)(e:dU)(f:kY)(h:ft)(i:dU)(j k:bb):List D->DN->List (Int×Int)->List FV->(List (Int×Int)->List FV->Prop)->Prop
 | [],_,a,c,P=>P a c
 |x::l,m,a,c,P=>g x m λd=>e d λb=>if b=true then f d λn=>lcWK h i j k n d a c λo p q=>lcWK2 g e f h i j k l o p q P else lcWK2 g e f h i j k l d a c P
def WK(b:kY)(g:ft)(c:dU)(d:kY)(e:ft)(f:dU)(h i:bb)(src:List^Option Nat):bb:=λa P=>b a λj=>lcWK2 g c d e f h i j (Br src a) [] [] λk l=>P^.x^.eL k l
def MM(Z:DC)(c d:Hp)(a:Addr)(h:DN)(e:List (Int×Int))(i:List FV)(j:St)(H:Hp):Prop:=
 ∃(G:Hp)(f:List (Int×Addr)),aC c G/\aC G H/\aC d H/\(∀b,d b≠none->c b=none->G b=none)/\G a=none/\H a\(.ext^cu a f i)/\hZ G f e/\e.Nodup/\eJ Z G j h
def MM.done(c:MM Z i f a r k h s j)(d:Ext G H i f)(t:f a=none):∃l,Ext G H l j/\Dv Z l (.ref a)^.x^.eL k h:=by
 rfl';let⟨v,m,w,y,A,off,n,B,C,E,J⟩:=c;ac_rfl;refine#[upd v a^.ext^cu a m h,#[(d.gg.trans w).trans^aA n _,λb o e=>?_,d.hh.trans A,λb p F=>?_], .x af #[E,m,rfl,C.mono^aA n _]]
 .by_cases z:b=a
  .subst z;rw[af] at e;cases e;exact B
  .rw[ag z] at e;exact y _ _ e
 .have q:=fI d.hh p
  rw[ag^λz=>q^by rw[z];exact t]
  exact off b q^d.off b p F
def MM.begin(s:aC a c)(f:c d=none)(k:eJ Z a j i):MM Z a c d i [] [] j^upd c d^.ext^cu d [] []:=
 #[a,[], .refl _,λb o e=>by rw[ag^ao e^s.free f];exact s _ _ e,aA f _,λ_ _ h=>h,s.free f,af, .nil,iV,k]
variable {t0 i0 t1 i1:Expr} {f0 f1:List Expr} {cK:kY} {g1:ft} {bY:dU}
def Ro:∀σ H Q,dX Z (WK wi g tt cK g1 bY tk tv src) σ H Q->XH (tO Z wi) (qc Z g) (liftT Z tt) (tO Z cK) (qc Z g1) (liftT Z bY) (dX Z tk) (dX Z tv) src σ H Q:=by
 intro σ H Q aP;rfl';let⟨G,ρ,P,s,en,h,q⟩:=aP;ac_rfl;refine#[G,ρ,_,s,en,h,λt hd J M B x1 it r hA=>?_];refine#[λi m dQ N=>m=t.length-i/\i<=t.length/\∃C j l,MM Z M B r C j l dQ N/\lcWK2 g tt cK g1 bY tk tv (t.drop i) C j l λj l=>P^.x^.eL j l,#[_,rfl,eB _,_,[],[], .begin x1.sub hA^(en.mono x1.gg).src src,hd],?_];intro i m dQ N jf;rfl';let⟨rfl,hi,C,j,l,c,hl⟩:=jf;ac_rfl
 by_cases cg:i<t.length
 .have c0:=c
  rfl';let⟨G2,u,s1,s2,s3,off,gA,pq,VF,nd,Yz⟩:=c;let⟨go,f,yld⟩:=it G2 N s1 s2 i;ac_rfl;refine .inr #[go cg,λay O=>∃aJ X TC,MM Z M B r aJ X TC ay O/\lcWK2 g tt cK g1 bY tk tv (t.drop (i+1)) aJ X TC λj l=>P^.x^.eL j l,λay O n=>#[t.length-(i+1),(),rfl,cg,n],λx H3 y=>?_]
  rfl';let⟨G3,d,x3,JN,dv⟩:=yld x H3 cg y;rw[m6 JN] at hl;ac_rfl;refine#[G3,C,d,_,x3.sub,Yz.mono x3.gg,dv,hl,λbB R fg uN=>?_];refine#[G3,bB,_,x3.sub,uN,R,λb w G5 H5 x5=>?_];have E:=x3.trans x5;have vI:∀{G S:Hp},Ext G2 N G S->G r=none:=λx=>x.off r (by rw[pq];exact λz=>nomatch z) gA
  have yD:∀{G S:Hp},Ext G2 N G S->∀b,B b≠none->M b=none->G b=none:=λx b R h2=>x.off b (fI s3 R)^off b R h2;cases b with
  |false=>exact cO #[bB,j,l,#[G5,u,s1.trans E.gg,E.sub,s3.trans E.hh,yD E,vI E,E.hh _ _ pq,VF.mono E.gg,nd,uN.mono x5.gg],by simpa using w]
  |true=>
   refine dD #[G5,bB,_,x5.sub,uN.mono x5.gg,(~~~w),λT Zb J1 G6 H6 x6 HJ=>?_]
   have x:=E.trans x6
   refine#[λk m qS F=>m=T.length-k/\k<=T.length/\∃(B6:DN)(Y:List (Int×Int))(OI:List FV),(∃(G:Hp)(u:List (Int×Addr)),aC G6 G/\aC G F/\aC B F/\(∀b,B b≠none->M b=none->G b=none)/\G r=none/\F r\(.ext^cu r u OI)/\hZ G u Y/\Y.Nodup/\eJ Z G qS B6)/\
    lcWK g1 bY tk tv (T.drop k) B6 Y OI λC Rl TF=>lcWK2 g tt cK g1 bY tk tv (t.drop (i+1)) C Rl TF λj l=>P^.x^.eL j l,
    #[_,rfl,eB _,bB,j,l,#[G6,u, .refl _,x.sub,s3.trans x.hh,yD x,vI x,x.hh _ _ pq,VF.mono x.gg,nd,(uN.mono x5.gg).mono x6.gg],Zb],?_]
   intro k m qS F jf;rfl';obtain⟨rfl,hk,B6,Y,OI,⟨G7,Yy,a1,a2,a3,a4,a5,a6,a7,Vf,a8⟩,su⟩:=jf;ac_rfl;have YD:aC M G6:=s1.trans x.gg
   by_cases Ar:k<T.length
   .obtain⟨YG,_,TL⟩:=HJ G7 F a1 a2 k
    refine .inr #[YG Ar,λay O=>∃(aJ:DN)(X:List (Int×Int))(TC:List FV),(∃(G:Hp)(u:List (Int×Addr)),aC G6 G/\aC G O/\aC B O/\(∀b,B b≠none->M b=none->G b=none)/\G r=none/\O r\(.ext^cu r u TC)/\hZ G u X/\X.Nodup/\eJ Z G ay aJ)/\
     lcWK g1 bY tk tv (T.drop (k+1)) aJ X TC λC Rl TF=>lcWK2 g tt cK g1 bY tk tv (t.drop (i+1)) C Rl TF λj l=>P^.x^.eL j l,λay O n=>#[T.length-(k+1),(),rfl,Ar,n],λy H8 hy=>?_]
    rfl';let⟨G8,d8,x8,Y6,Yt⟩:=TL y H8 Ar hy;rw[m6 Y6] at su;ac_rfl;refine#[G8,B6,d8,_,x8.sub,a8.mono x8.gg,Yt,su,λCZ h9 σ9 Cn=>?_];refine#[G8,CZ,_,x8.sub,Cn,h9,λb w OO y8 zA=>?_];have I:=x8.trans zA;have oA:∀{G S:Hp},Ext G7 F G S->G r=none:=λx=>x.off r (by rw[a6];exact λz=>nomatch z) a5
    have oB:∀{G S:Hp},Ext G7 F G S->∀b,B b≠none->M b=none->G b=none:=λx b R h2=>x.off b (fI a3 R)^a4 b R h2;cases b with
    |false=>exact cO #[CZ,Y,OI,#[OO,Yy,a1.trans I.gg,I.sub,a3.trans I.hh,oB I,oA I,I.hh _ _ a6,a7.mono I.gg,Vf,Cn.mono zA.gg],by simpa using w]
    |true=>
     refine dD #[OO,CZ,_,zA.sub,Cn.mono zA.gg,(by rw[ir rfl] at w;exact w),λkd UL v XS B9 Ly PR=>?_]
     refine#[XS,CZ,_,Ly.sub,(Cn.mono zA.gg).mono Ly.gg,UL,λvd hvd v2 G12 H12 Gk abf=>?_];rfl';let⟨p,fv,rfl,rfl,np,hz,hn⟩:=hvd;let⟨c,rfl,pz⟩:=PR.D9;obtain rfl:=abf.Xr;ac_rfl;have A:=(I.trans Ly).trans Gk;have Cq:=Gk.gg _ _ pz;refine#[c,Yy,Y,OI,p,fv,rfl,rfl,A.hh _ _ a6,Gk.sub _ _ Cq,(a7.mono A.gg).mono Gk.sub,Vf,np,hz,CZ,_,_,#[G12,_,a1.trans A.gg,λb o e=>?_,λb o e=>?_,oB A,oA A,af,(a7.mono A.gg).snoc Cq,?_,((Cn.mono zA.gg).mono Ly.gg).mono Gk.gg],hn]
     .rw[ag^ao e^oA A];exact A.sub _ _ e
     .rw[ag^ao e hA];exact(a3.trans A.hh) _ _ e
     .rw[cQ]
      refine#[Vf,by simp,λa ha b w z=>np ?_]
      rw[bW] at w;rw[<-w,<-z];exact ha
   .have e:T.drop k= []:=yV ()
    rw[e] at su;exact .inl #[(HJ G7 F a1 a2 k).2.1 (),B6,Y,OI,#[G7,Yy,YD.trans a1,a2,a3,a4,a5,a6,a7,Vf,a8],su]
 .have e:t.drop i= []:=yV ()
  rfl';rw[e] at hl;let⟨G',x,dv⟩:=c.done x1 hA;let⟨G2,u,s1,s2,f⟩:=c;ac_rfl;exact .inl #[(it G2 N s1 s2 i).2.1 (),q _ hl _ G' N x dv]
def Uh(b:X.A.units+64<cLine)(d:X.calm=true)(c:bD X scope)(e:dM scope X.N src NC)(f:DI Z X t0 i0 wi)
  (h:∀a s H,DG Z (bK X scope NC a s H) t0 g) (i:∀a s H,EC Z (bK X scope NC a s H) f0 tt) (j:∀a s H,DI Z (bK X scope NC a s H) t1 i1 cK) (k:∀a s H,DG Z (bK X scope NC a s H) t1 g1)
  (l:∀a s H,EC Z (bK X scope NC a s H) f1 bY) (m:∀a s H,DE Z (bK X scope NC a s H) kx tk) (n:∀a s H,DE Z (bK X scope NC a s H) vx tv)
  (o:(∀x,ey i0 X.env x=pure x)<|>za) (p:(∀env x,ey i1 env x=pure x)<|>xu):
  DE Z X (.DictComp kx vx [#[t0,i0,f0,0],#[t1,i1,f1,0]] scope pos)^WK wi g tt cK g1 bY tk tv src:=(Vz b d c e f h i j k l m n o p).imp Ro
end
end L2
namespace Wb
abbrev Dt:=Nat×Nat
def sZ(w:W):Dt->List Dt->Dt->Prop
 |x,[],y=>x=y
 |x,a::l,y=>x=a/\sZ w (bq w a) l y
theorem iu:∀{l m:List Dt}{x z:Dt},sZ w x (l++m) z↔∃y,sZ w x l y/\sZ w y m z
 | [],m,x,z=>#[λh=>#[x,rfl,h],λ#[y,e,h]=>by have e:x=y:=e;subst e;exact h]
 |a::l,m,x,z=>#[λ#[e,h]=>let #[y,b,c]:=iu.mp h;#[y,#[e,b],c],λ#[y,#[e,b],c]=>#[e,iu.mpr #[y,b,c]]]
def BD(w:W)(d:Dt)(n:Nat):walk w d (n+1)=d::walk w (bq w d) n:=by
 refine ph λi=>?_;cases i with
 |zero=>rw[iz ()];rfl
 |succ i=>
  rw[wF]
  by_cases h:i<n
  .rw[iz (),iz h]
   exact IR some^fY (w:=w) (d:=d) 1 i
  .rw[t8 (),t8 h]
theorem rQ:∀{l:List Dt}{x y:Dt},sZ w x l y↔l=walk w x l.length/\y=br w l.length x
 | [],x,y=>#[λh=>#[rfl,(show x=y from h).symm],λh=>h.2.symm]
 |a::l,x,y=>by
  have e:br w (l.length+1) x=br w l.length^bq w x:=fY (w:=w) (d:=x) 1 l.length
  constructor
  .rintro⟨rfl,h⟩
   let⟨b,c⟩:=rQ.mp h;rw[cJ,BD,e];exact#[IR (x::·) b,c]
  .rintro⟨b,c⟩
   rw[cJ,BD] at b;let⟨f,g⟩:=List.cons.inj b;rw[cJ,e] at c;subst f;exact#[rfl,rQ.mpr #[g,c]]
def dm.Su(h:dm w d r):sZ w d r d:=by
 obtain⟨k,b,a,c,rfl⟩:=h;exact rQ.mpr #[by rw[eV],by rw[eV,a]]
def rS(h:sZ w d r d)(ne:r≠ [])(e:r.Nodup):dm w d r:=by
 let⟨c,f⟩:=rQ.mp h;refine#[r.length,EB.mpr ne,f.symm,λj i g z=>?_,c];have a:r[j]?\(br w j d):=by rw[c];exact iz g
 have b:r[0]?\(br w 0 d):=by rw[c];exact iz ()
 rw[z] at a;have b:r[0]?\d:=b
 have:=(aee (by lia:j<r.length) e).mp^a.trans b.symm
 lia
theorem xQ:∀{l:List Dt}{x y:Dt},sZ w x l y->(∀e∈l,bq v e=bq w e)->sZ v x l y
 | [],x,y,h,_=>h
 |a::l,x,y,#[e,h],k=>#[e,by rw[k a (cF ..)];exact xQ h λe b=>k e^dS _ b]
def gb{w v:W}(h:sZ w x (l++ [z]) y)(k:∀e∈l,bq v e=bq w e)(c:bq v z=b):sZ v x (l++ [z]) b/\bq w z=y:=by
 obtain⟨m,d,f,a⟩:=iu.mp h;have a:bq w z=y:=a;exact#[iu.mpr #[m,xQ d k,f,c],a]
def jH{l:List b}(h:l≠ []):∃a z,l=a++ [z]:=#[l.dropLast,l.getLast h,(List.dropLast_concat_getLast h).symm]
def OC(d:(u::r::t).Nodup):aO (u::r::t) u=r/\∀x∈r::t,aO (u::r::t) x=if aO (r::t) x=r then u else aO (r::t) x:=by
 have f:=(kD.mp d).2;refine#[iM (a:= []) d,λx g=>?_];let⟨b,z,e⟩:=jH (l:=r::t)^by simp
 have i:aO (r::t) z=r:=by
  cases t with
  |nil=>
   have:b= []/\z=r:=by
    cases b with
    |nil=>simp at e;exact#[rfl,e.symm]
    |cons a b=>simp at e
   rw[this.2];unfold aO;simp
  |cons a t=>
   cases b with
   |nil=>simp at e
   |cons c b=>
    have j:a::t=b++ [z]:=(List.cons.inj e).2
    have:=jU (b:=b) (x:=z) (y:=r)^by rw[<-j];exact f
    rw[j];exact this
 have k:z∈r::t:=by rw[e];simp
 by_cases c:x=z
 .subst c
  rw[ir i]
  have:=jU (b:=b) (x:=x) (y:=u)^by rw[<-e];exact d
  rw[e];exact this
 .rw[mo^λh=>c^Bz f g k^h.trans i.symm]
  refine zy d g ?_;rw[e];intro h;apply c;rw[h,bO,dJ,jg^by simp,show b.length+ [z].length-1-b.length=0 by simp];rfl
def O0(l e:List Nat)(r u:Nat):Prop:=∃a t b,l=b++a/\a++b=r::t/\∃c d,e=d++c/\c++d=u::r::t
def O0.succ{r u:Nat}(P:O0 l d r u)(o:l.Nodup)(p:u∉l):aO d u=r/\(∀x∈l,aO d x=if aO l x=r then u else aO l x)/\d.Nodup/\(∀x,x∈d↔x=u\/x∈l)/\r∈l:=by
 rfl';let⟨a,t,b,rfl,f,h,i,rfl,g⟩:=P;have e:(b++a).Perm (r::t):=by rw[<-f];exact wI
 have k:(i++h).Perm (u::r::t):=by rw[<-g];exact wI
 have m:(r::t).Nodup:=e.nodup_iff.mp o;have j:(u::r::t).Nodup:=kD.mpr #[λz=>p^e.mem_iff.mpr z,m];let⟨s,v⟩:=OC j;ac_rfl
 have w:∀x∈r::t,aO (b++a) x=aO (r::t) x:=λx c=>by
  have:=t5 (a:=a) (b:=b) (x:=x) (by rw[f];exact m)^by rw[f];exact c
  rw[this,f]
 have n:∀x∈u::r::t,aO (i++h) x=aO (u::r::t) x:=λx c=>by
  have:=t5 (a:=h) (b:=i) (x:=x) (by rw[g];exact j)^by rw[g];exact c
  rw[this,g]
 refine#[by rw[n u^by simp,s],λx c=>?_,k.nodup_iff.mpr j,λx=>?_,e.mem_iff.mpr^by simp]
 .have c:=e.mem_iff.mp c
  rw[n x^dS _ c,w x c,v x c]
 .rw[k.mem_iff,b7,e.mem_iff]
def A9{i u r:Nat}(h:l[i]?\r):O0 l (ins l i u) r u:=by
 obtain⟨b,e⟩:=cD.mp h;have a:l.drop i=r::l.drop (i+1):=by rw[qN b,e]
 refine#[l.drop i,l.drop (i+1)++l.take i,l.take i,(gL ..).symm,by rw[a];rfl,u::l.drop i,l.take i,rfl,by rw[a];rfl]
def Sv{u r:Nat}(h:l[0]?\r):O0 l (ins l l.length u) r u:=by
 cases l with
 |nil=>simp at h
 |cons a t=>
  simp at h;subst h;refine#[a::t,t,[],rfl,by simp,[u],a::t,?_,rfl]
  unfold ins;simp
def iZ(w:W)(a:List^List Dt):Prop:=∀r∈a,∃d,dm w d r/\ax w d
def Fc(w:W)(n:Nat):Prop:=∃a,iZ w a/\a.flatten.Perm^aQ w/\a.length=n
def Ni(a:List^List c)(r:List c)(b:List^List c):(a++r::b).flatten.Perm (r++(a++b).flatten):=by
 rw[qP,qP,iS,<-kB,<-kB];exact List.Perm.append_right _ wI
def tX(g:Good w)(h:iZ w j)(s:d∈j.flatten):∃k c,dm w d k/\ax w d/\(k++c.flatten).Perm j.flatten/\iZ w c/\c.length+1=j.length:=by
 rfl';let⟨r,l,m⟩:=jX.mp s;let⟨e,n,o⟩:=h r l;let⟨i,p,u⟩:=aeK.mp m;have v:r.getD i (0,0)=d:=by rw[bO,bA p];exact u
 have q:=n.rot g o p;rw[v] at q;let⟨a,b,rfl⟩:=ae0 l;ac_rfl
 have y:(r.drop i++r.take i).Perm r:=by
  have:=wI (l₁:=r.drop i) (l₂:=r.take i)
  rwa [gL] at this
 refine#[_,a++b,q,n.aQ g o d m,?_,λx f=>h x ?_,by simp;lia]
 .exact(y.append_right _).trans (Ni a r b).symm
 .rcases bF.mp f with f|f
  .exact fK _ f
  .exact fb _^dS _ f
def iZ.dart{w:W}(g:Good w)(h:iZ w a):∀e∈a.flatten,ax w e:=λe b=>by
 obtain⟨r,c,f⟩:=jX.mp b;obtain⟨d,R,i⟩:=h r c;exact R.aQ g i e f
def iZ.keep(g:Good w)(h:iZ w a)(k:∀e∈a.flatten,bq v e=bq w e)(dv:∀d,ax w d->ax v d):iZ v a:=λr b=>by
 let⟨d,R,c⟩:=h r b;refine#[d,rS (xQ R.Su λe f=>k e^jX.mpr #[r,b,f]) (λz=>?_)^R.nodup g c,dv d c]
 have:=R.first
 rw[z] at this;cases this
def P4{p r n:Nat}(g:Good w)(N:Good v)(s:ax w (p,r))(hn:n=w.length)
  (G:∀e,ax w e->bq w e≠(p,r)->bq v e=bq w e) (O:∀e,ax w e->bq w e=(p,r)->bq v e=(p,n)) (P:bq v (p,n)=(n,p)) (R:bq v (n,p)=(p,r))
  (dv:∀d,ax v d↔d=(p,n)\/d=(n,p)\/ax w d) (h:Fc w c):Fc v c:=by
 let⟨rs,S,H,hl⟩:=h;let⟨k,m,I,D,T,q,l1⟩:=tX g S^H.mem_iff.mpr^aD.mpr s;have t:=T.trans H;have X:=t.nodup_iff.mpr^bh g;let⟨u,Y,J⟩:=cQ.mp X;have y:k≠ []:=λz=>by have:=I.first;rw[z] at this;cases this
 let⟨Z,z,l⟩:=jH y;have A:=I.Su;rw[l] at A;have L:bq w z=(p,r):=(gb (v:=w) A (λ_ _=>rfl) rfl).2;have m1:∀e∈k,ax w e:=λe i=>aD.mp^t.mem_iff.mp^fK _ i;have B:z∈k:=by rw[l];simp
 have pre:∀e,ax w e->bq w e=(p,r)->e=z:=λe i h=>nk g i (m1 z B)^h.trans L.symm
 have C:z∉Z:=λh=>by
  rw[l] at u;exact(cQ.mp u).2.2 z h z (by simp) rfl
 have M:=(gb (v:=v) A (λe i=>G e (m1 e^by rw[l];exact fK _ i) λh=>C^by rw[<-pre e (m1 e^by rw[l];exact fK _ i) h];exact i)^O z (m1 z B) L).1
 rw[<-l] at M;have Q:sZ v (p,r) (k++ [(p,n),(n,p)]) (p,r):=iu.mpr #[_,M,rfl,P,R]
 have E:∀d,ax w d->d≠(p,n)/\d≠(n,p):=λd h=>#[λz=>by
  have:=g.rng _ _ h;rw[z] at this;have:n<w.length:=this;lia,λz=>by
  have:=bZ h;rw[z] at this;have:n<w.length:=this;lia]
 have pn:p≠n:=by have:=bZ s;have:p<w.length:=this;lia
 have o:(k++ [(p,n),(n,p)]).Nodup:=by
  rw[cQ];refine#[u,?_,λa f b j e=>?_]
  .rw[kD]
   exact#[λh=>by rw[bW] at h;exact pn (GT h).1,by simp]
  .rcases b7.mp j with j|j
   .exact(E a^m1 a f).1^e.trans j
   .rw[bW] at j;exact(E a^m1 a f).2^e.trans j
 refine#[(k++ [(p,n),(n,p)])::m,λx F=>?_,?_,by rw[cJ];lia]
 .rcases b7.mp F with rfl|F
  .exact#[_,rS Q (by simp) o,(dv _).mpr^.inr^.inr s]
  .refine q.keep g (λe i=>G e (q.dart g e i) λh=>?_) (λd h=>(dv d).mpr^.inr^.inr h) x F
   have:=pre e (q.dart g e i) h
   exact J z B e i this.symm
 .refine(qM ?_^bh N).mpr λd=>?_
  .rw[iS,cQ]
   refine#[o,Y,λa f b j e=>?_]
   rcases bF.mp f with f|f
   .exact J a f b j e
   .have:=E b^q.dart g b j
    rcases b7.mp f with f|f
    .exact this.1^e.symm.trans f
    .rw[bW] at f;exact this.2^e.symm.trans f
  .rw[aD,dv,iS,bF,bF,<-aD (w:=w),<-t.mem_iff,bF]
   simp only[b7,afu,or_false]
   constructor
   .rintro((h|h|h) |h)
    .exact .inr^.inr^.inl h
    .exact .inl h
    .exact .inr^.inl h
    .exact .inr^.inr^.inr h
   .rintro(h|h|h|h)
    .exact .inl^.inr^.inl h
    .exact .inl^.inr^.inr h
    .exact .inl^.inl h
    .exact .inr h
def UA(g:Good w)(gx:Good x)(hp:ax w (p,r))(hu:ax w (u,v))(pu:p≠u)(nt:¬ax w (p,u))
  (O:∀e,ax w e->bq w e≠(p,r)->bq w e≠(u,v)->bq x e=bq w e) (k1:∀e,ax w e->bq w e=(p,r)->bq x e=(p,u)) (k2:∀e,ax w e->bq w e=(u,v)->bq x e=(u,p))
  (k3:bq x (p,u)=(u,v)) (k4:bq x (u,p)=(p,r)) (dx:∀d,ax x d↔d=(p,u)\/d=(u,p)\/ax w d) (h:Fc w c):
  (Fc x (c+1)\/(Fc x (c-1)/\2<=c))/\((∃k,dm w (p,r) k/\(u,v)∈k)->Fc x (c+1)):=by
 let⟨rs,hA,pm,hl⟩:=h;let⟨k,I,R1,D,p1,J,l1⟩:=tX g hA^pm.mem_iff.mpr^aD.mpr hp;have S:=p1.trans pm;have nd:=S.nodup_iff.mpr^bh g;let⟨CK,zo,FE⟩:=cQ.mp nd;have Vk:¬ax w (u,p):=λh=>nt^g.sym _ _ h;have o:∀d,ax w d->d≠(p,u)/\d≠(u,p):=λd h=>#[λz=>nt (z▸h),λz=>Vk (z▸h)];have m1:∀e∈k,ax w e:=λe i=>aD.mp^S.mem_iff.mp^fK _ i;have upv:(p,r)≠(u,v):=λz=>pu (GT z).1;have Vd:(p,u)≠((u,p):Dt):=λz=>pu (GT z).1;have up:∀d,ax w d->ax x d:=λd h=>(dx d).mpr^.inr^.inr h
 have one:(u,v)∈k->Fc x (c+1):=λP=>by
  let⟨a,b,T⟩:=ae0 P;have R:=R1.Su;rw[T] at R;let⟨y,Pa,Pb⟩:=iu.mp R;obtain rfl:y=(u,v):=Pb.1;have ane:a≠ []:=λz=>by subst z;exact upv Pa
  let⟨a0,m,q⟩:=jH ane;let⟨b0,n,s⟩:=jH (l:=(u,v)::b)^by simp
  have XY:=Pa;rw[q] at XY;have XZ:=Pb;rw[s] at XZ;have X:bq w m=(u,v):=(gb (v:=w) XY (λ_ _=>rfl) rfl).2;have Y:bq w n=(p,r):=(gb (v:=w) XZ (λ_ _=>rfl) rfl).2;have Vg:(a++(u,v)::b).Nodup:=T▸CK;let⟨na,nb,ZX⟩:=cQ.mp Vg;have A:∀e∈a,e∈k:=λe i=>by rw[T];exact fK _ i
  have B:∀e∈(u,v)::b,e∈k:=λe i=>by rw[T];exact fb _ i
  have C:m∈a:=by rw[q];simp
  have E:n∈(u,v)::b:=by rw[s];simp
  have L:∀e,ax w e->bq w e=(u,v)->e=m:=λe i h=>nk g i (m1 _^A _ C)^h.trans X.symm;have M:∀e,ax w e->bq w e=(p,r)->e=n:=λe i h=>nk g i (m1 _^B _ E)^h.trans Y.symm;have ZW:m∉a0:=λh=>by rw[q] at na;exact(cQ.mp na).2.2 m h m (by simp) rfl
  have ZY:n∉b0:=λh=>by rw[s] at nb;exact(cQ.mp nb).2.2 n h n (by simp) rfl
  have Z:=(gb (v:=x) XY (λe i=>by
   have F:e∈a:=by rw[q];exact fK _ i
   exact O e (m1 _^A e F) (λh=>ZX e F n E^M e (m1 _^A e F) h) λh=>ZW (L e (m1 _^A e F) h▸i))^k2 m (m1 _^A _ C) X).1
  have Qb:=(gb (v:=x) XZ (λe i=>by
   have G:e∈(u,v)::b:=by rw[s];exact fK _ i
   exact O e (m1 _^B e G) (λh=>ZY (M e (m1 _^B e G) h▸i)) λh=>ZX m C e G (L e (m1 _^B e G) h).symm)^k1 n (m1 _^B _ E) Y).1
  rw[<-q] at Z;rw[<-s] at Qb;have Ra:sZ x (p,r) (a++ [(u,p)]) (p,r):=iu.mpr #[_,Z,rfl,k4];have Rb:sZ x (u,v) ((u,v)::b++ [(p,u)]) (u,v):=iu.mpr #[_,Qb,rfl,k3];have Xm:(a++ [(u,p)]).Nodup:=cQ.mpr #[na,by simp,λe i f j z=>by rw[bW] at j;exact(o e^m1 _^A e i).2^z.trans j]
  have Xn:((u,v)::b++ [(p,u)]).Nodup:=cQ.mpr #[nb,by simp,λe i f j z=>by rw[bW] at j;exact(o e^m1 _^B e i).1^z.trans j]
  refine#[(a++ [(u,p)])::((u,v)::b++ [(p,u)])::I,λy H=>?_,?_,by rw[cJ,cJ];lia]
  .rcases b7.mp H with rfl|H
   .exact#[_,rS Ra (by simp) Xm,up _ hp]
   .rcases b7.mp H with rfl|H
    .exact#[_,rS Rb (by simp) Xn,up _ hu]
    .refine J.keep g (λe i=>O e (J.dart g e i) (λh=>?_) λh=>?_) up y H
     .exact FE n (B _ E) e i (M e (J.dart g e i) h).symm
     .exact FE m (A _ C) e i (L e (J.dart g e i) h).symm
  .refine(qM ?_^bh gx).mpr λd=>?_
   .rw[iS,iS,cQ]
    refine#[Xm,cQ.mpr #[Xn,zo,λe i f j z=>?_],λe i f j z=>?_]
    .rcases bF.mp i with i|i
     .exact FE e (B e i) f j z
     .rw[bW] at i;exact(o f^J.dart g f j).1^z.symm.trans i
    .rcases bF.mp j with j|j
     .rcases bF.mp j with j|j
      .rcases bF.mp i with i|i
       .exact ZX e i f j z
       .rw[bW] at i;exact(o f^m1 _^B f j).2^z.symm.trans i
      .rw[bW] at j
       rcases bF.mp i with i|i
       .exact(o e^m1 _^A e i).1^z.trans j
       .rw[bW] at i;exact Vd^j.symm.trans^z.symm.trans i
     .rcases bF.mp i with i|i
      .exact FE e (A e i) f j z
      .rw[bW] at i;exact(o f^J.dart g f j).2^z.symm.trans i
   .rw[aD,dx,<-aD (w:=w),<-S.mem_iff,T]
    simp only[iS,bF,b7,afu,or_false]
    constructor
    .rintro((h|h) | ((h|h) |h) |h)
     .exact .inr^.inr^.inl^.inl h
     .exact .inr^.inl h
     .exact .inr^.inr^.inl^.inr^.inl h
     .exact .inr^.inr^.inl^.inr^.inr h
     .exact .inl h
     .exact .inr^.inr^.inr h
    .rintro(h|h| (h|h|h) |h)
     .exact .inr^.inl^.inr h
     .exact .inl^.inr h
     .exact .inl^.inl h
     .exact .inr^.inl^.inl^.inl h
     .exact .inr^.inl^.inl^.inr h
     .exact .inr^.inr h
 refine#[?_,λ#[r1',X0,P]=>one^by rw[R1.uniq X0];exact P]
 by_cases P:(u,v)∈k
 .exact .inl^one P
 .refine .inr ?_
  have hvr:(u,v)∈I.flatten:=by
   have:=S.mem_iff.mpr^aD.mpr hu
   exact(bF.mp this).resolve_left P
  let⟨t,SJ,R2,D,p2,Qt,l2⟩:=tX g J hvr;have Oi:(k++(t++SJ.flatten)).Perm^aQ w:=(p2.append_left k).trans S;have ndw:=Oi.nodup_iff.mpr^bh g;let⟨D,ab0,RC⟩:=cQ.mp ndw;let⟨Z2,Z5,nd4⟩:=cQ.mp ab0;have N:∀e∈t,ax w e:=λe i=>aD.mp^Oi.mem_iff.mp^fb _^fK _ i;have ne1:k≠ []:=λz=>by have:=R1.first;rw[z] at this;cases this
  have ne2:t≠ []:=λz=>by have:=R2.first;rw[z] at this;cases this
  let⟨a0,m,q⟩:=jH ne1;let⟨b0,n,s⟩:=jH ne2;have R:=R1.Su;rw[q] at R;have P2:=R2.Su;rw[s] at P2;have X:bq w m=(p,r):=(gb (v:=w) R (λ_ _=>rfl) rfl).2;have Y:bq w n=(u,v):=(gb (v:=w) P2 (λ_ _=>rfl) rfl).2;have C:m∈k:=by rw[q];simp
  have E:n∈t:=by rw[s];simp
  have L:∀e,ax w e->bq w e=(p,r)->e=m:=λe i h=>nk g i (m1 _ C)^h.trans X.symm;have M:∀e,ax w e->bq w e=(u,v)->e=n:=λe i h=>nk g i (N _ E)^h.trans Y.symm;have ZW:m∉a0:=λh=>by rw[q] at CK;exact(cQ.mp CK).2.2 m h m (by simp) rfl
  have ZY:n∉b0:=λh=>by rw[s] at Z2;exact(cQ.mp Z2).2.2 n h n (by simp) rfl
  have Gk:∀e∈k,∀f∈t,e≠f:=λe i f j=>RC e i f^fK _ j
  have Z:=(gb (v:=x) R (λe i=>by
   have F:e∈k:=by rw[q];exact fK _ i
   exact O e (m1 e F) (λh=>ZW (L e (m1 e F) h▸i)) λh=>Gk e F n E^M e (m1 e F) h)^k1 m (m1 _ C) X).1
  have Qb:=(gb (v:=x) P2 (λe i=>by
   have G:e∈t:=by rw[s];exact fK _ i
   exact O e (N e G) (λh=>Gk m C e G (L e (N e G) h).symm) λh=>ZY (M e (N e G) h▸i))^k2 n (N _ E) Y).1
  rw[<-q] at Z;rw[<-s] at Qb;have Q:sZ x (p,r) (k++((p,u)::(t++ [(u,p)]))) (p,r):=iu.mpr #[_,Z,rfl,by rw[k3];exact iu.mpr #[_,Qb,rfl,k4]]
  have Xg:∀e,e∈k++((p,u)::(t++ [(u,p)]))↔e∈k\/e=(p,u)\/e∈t\/e=(u,p):=λe=>by simp
  have ndQ:(k++((p,u)::(t++ [(u,p)]))).Nodup:=by
   refine cQ.mpr #[CK,kD.mpr #[λh=>?_,cQ.mpr #[Z2,by simp,λe i f j z=>?_]],λe i f j z=>?_]
   .rcases bF.mp h with h|h
    .exact(o _^N _ h).1 rfl
    .rw[bW] at h;exact Vd h
   .rw[bW] at j;exact(o e^N e i).2^z.trans j
   .rcases b7.mp j with j|j
    .exact(o e^m1 e i).1^z.trans j
    .rcases bF.mp j with j|j
     .exact Gk e i f j z
     .rw[bW] at j;exact(o e^m1 e i).2^z.trans j
  refine#[#[(k++((p,u)::(t++ [(u,p)])))::SJ,λy H=>?_,?_,by rw[cJ];lia],()]
  .rcases b7.mp H with rfl|H
   .exact#[_,rS Q (by simp) ndQ,up _ hp]
   .refine Qt.keep g (λe i=>O e (Qt.dart g e i) (λh=>?_) λh=>?_) up y H
    .exact RC m C e (fb _ i) (L e (Qt.dart g e i) h).symm
    .exact nd4 n E e i (M e (Qt.dart g e i) h).symm
  .refine(qM ?_^bh gx).mpr λd=>?_
   .rw[iS,cQ]
    refine#[ndQ,Z5,λe i f j z=>?_];have df:=Qt.dart g f j
    rcases(Xg e).mp i with i|i|i|i
    .exact RC e i f (fb _ j) z
    .exact(o f df).1^z.symm.trans i
    .exact nd4 e i f j z
    .exact(o f df).2^z.symm.trans i
   .rw[aD,dx,<-aD (w:=w),<-Oi.mem_iff,iS,bF,Xg]
    simp only[bF]
    constructor
    .rintro((h|h|h|h) |h)
     .exact .inr^.inr^.inl h
     .exact .inl h
     .exact .inr^.inr^.inr^.inl h
     .exact .inr^.inl h
     .exact .inr^.inr^.inr^.inr h
    .rintro(h|h|h|h|h)
     .exact .inl^.inr^.inl h
     .exact .inl^.inr^.inr^.inr h
     .exact .inl^.inl h
     .exact .inl^.inr^.inr^.inl h
     .exact .inr h
theorem P5(g:Good w)(B:ax w (p,r))(C:ax w (u,v))(up:u≠p)(A:u∉row w p)(h:Fc w c):
  (Fc (mS w p ((row w p).idxOf r) u^(row w u).idxOf v) (c+1)\/(Fc (mS w p ((row w p).idxOf r) u^(row w u).idxOf v) (c-1)/\2<=c))/\((∃N,dm w (p,r) N/\(u,v)∈N)->Fc (mS w p ((row w p).idxOf r) u^(row w u).idxOf v) (c+1)):=by
 have O:p<w.length:=bZ B;have P:u<w.length:=bZ C;have Q:=DK (i:=(row w p).idxOf r) (j:=(row w u).idxOf v) g O P up A;have E:p∉row w u:=λz=>A^g.sym _ _ z
 have a:∀q,row (mS w p ((row w p).idxOf r) u^(row w u).idxOf v) q=if u=q then ins (row w u) ((row w u).idxOf v) p else if p=q then ins (row w p) ((row w p).idxOf r) u else row w q:=λq=>by
  unfold mS;rw[iw^by rw[iU];exact P,iw O]
 have F:r∈row w p:=B;have G:v∈row w u:=C
 have Y:(row w p)[(row w p).idxOf r]?\r:=by
  have m:=sV.mpr F;rw[bA m];exact IR some^qQ m
 have Z:(row w u)[(row w u).idxOf v]?\v:=by
  have m:=sV.mpr G;rw[bA m];exact IR some^qQ m
 rfl';let⟨a1,a2,D,a4,K⟩:=(A9 (u:=u) Y).succ (g.nod p) A;let⟨b1,b2,D,b4,K⟩:=(A9 (u:=p) Z).succ (g.nod u) E;ac_rfl;generalize mS w p ((row w p).idxOf r) u^(row w u).idxOf v=x at Q a;have H:row x p=ins (row w p) ((row w p).idxOf r) u:=by rw[a,mo up,ir rfl]
 have I:row x u=ins (row w u) ((row w u).idxOf v) p:=by rw[a,ir rfl]
 have R:∀q,q≠p->q≠u->row x q=row w q:=λq b n=>by rw[a,mo^Ne.symm n,mo^Ne.symm b]
 have S:∀e:Dt,ax w e->e.1∈row w e.2:=λe h=>g.sym _ _ h
 have o:∀e:Dt,ax w e->e.2=p->bq x e=if bq w e=(p,r) then(p,u) else bq w e:=λe f h=>by
  have J:=S e f;have L:=a2 e.1^by rw[<-h];exact J
  unfold bq;rw[h,H,L]
  by_cases z:aO (row w p) e.1=r
  .rw[ir z,ir^by rw[z]]
  .rw[mo z,mo^λy=>z (GT y).2]
 have s:∀e:Dt,ax w e->e.2=u->bq x e=if bq w e=(u,v) then(u,p) else bq w e:=λe f h=>by
  have J:=S e f;have L:=b2 e.1^by rw[<-h];exact J
  unfold bq;rw[h,I,L]
  by_cases z:aO (row w u) e.1=v
  .rw[ir z,ir^by rw[z]]
  .rw[mo z,mo^λy=>z (GT y).2]
 have M:∀e:Dt,e.2≠p->e.2≠u->bq x e=bq w e:=λe b n=>by unfold bq;rw[R _ b n]
 have T:∀e:Dt,(bq w e).1=e.2:=λe=>rfl;refine UA g Q B C (Ne.symm up) A (λe f b n=>?_) (λe f b=>?_) (λe f b=>?_) ?_ ?_ (λd=>?_) h
 .by_cases k:e.2=p
  .rw[o e f k,mo b]
  .by_cases l:e.2=u
   .rw[s e f l,mo n]
   .exact M e k l
 .rw[o e f^by rw[<-T e,b],ir b]
 .rw[s e f^by rw[<-T e,b],ir b]
 .show(u,aO (row x u) p)=(u,v)
  rw[I,b1]
 .show(p,aO (row x p) u)=(p,r)
  rw[H,a1]
 .obtain⟨t,X⟩:=d
  show X∈row x t↔_\/_\/X∈row w t
  by_cases k:t=p
  .subst k
   rw[H,a4];exact#[λh=>h.elim (λh=> .inl^by rw[h]) λh=> .inr^.inr h,λh=>h.elim (λh=> .inl (GT h).2) λh=>h.elim (λh=>absurd (GT h).1.symm up) .inr]
  .by_cases l:t=u
   .subst l
    rw[I,b4];exact#[λh=>h.elim (λh=> .inr^.inl^by rw[h]) λh=> .inr^.inr h,λh=>h.elim (λh=>absurd (GT h).1 up) λh=>h.elim (λh=> .inl (GT h).2) .inr]
   .rw[R t k l]
    exact#[λh=> .inr^.inr h,λh=>h.elim (λh=>absurd (GT h).1 k) λh=>h.elim (λh=>absurd (GT h).1 l) id]
def Eu(b:Bool)(w:W):Prop:=2<=w.length->∃c,Fc w c/\2*(w.length+c)<=fR w+4/\(b=true->2*(w.length+c)=fR w+4)
def O3(b:Bool)(w a:W):Prop:=a=w\/∃p r u v,ax w (p,r)/\ax w (u,v)/\u≠p/\u∉row w p/\(b=true->∃c,dm w (p,r) c/\(u,v)∈c)/\a=mS w p ((row w p).idxOf r) u^(row w u).idxOf v
def Eu.mS{w a:W}(g:Good w)(E:Eu b w)(t:O3 b w a):Eu b a:=by
 rcases t with rfl| ⟨p,r,u,v,d,e,up,i,j,rfl⟩
 .exact E
 .intro h
  rw[wx] at h ⊢;let⟨c,f,o,l⟩:=E h;rw[Hh (bZ d) (bZ e) up];let⟨m,n⟩:=P5 g d e up i f;cases b with
  |true=>
   have:=l rfl
   exact#[c+1,n^j rfl,(),λ_=>by lia]
  |false=>
   rcases m with k| ⟨k,q⟩
   .exact#[c+1,k,(),λz=>by cases z]
   .exact#[c-1,k,(),λz=>by cases z]
def Eu.nam{φ:Nat->Nat}(g:Good w)(f:Good v)(E:Eu b w)(N:Jg w v φ)(h:fR v=fR w):Eu b v:=λa=>by
 rw[N.len] at a ⊢;rfl';obtain⟨c,⟨j,k,l,m⟩,n,o⟩:=E a;ac_rfl;rw[h];refine#[c,#[j.map λr=>r.map λd=>(φ d.1,φ d.2),λt p=>?_,?_,by rw[aI];exact m],n,o]
 .obtain⟨r,q,rfl⟩:=bR.mp p
  let⟨d,R,e⟩:=k r q;exact#[_,(N.dmap g).rnd g R e,(N.dmap g).dart d e]
 .rw[<-List.map_flatten]
  exact(l.map _).trans^Hd g f (N.dmap g).dart (N.dmap g).inj N.acx
theorem Ng(g:Good w)(C:p<w.length)(hj:j<=(row w p).length)(h:2<=w.length->Fc w 1):Fc (leaf w p j) 1:=by
 have E:=Ap (i:=j) g C;have f:∀q,row (leaf w p j) q=if q=w.length then[p] else if p=q then ins (row w p) j w.length else row w q:=λq=>Ei C;have P:(leaf w p j).length=w.length+1:=rk ..;generalize leaf w p j=v at E f P;have s:p≠w.length:=()
 have y:row v w.length= [p]:=by rw[f,ir rfl]
 have L:row v p=ins (row w p) j w.length:=by rw[f,mo s,ir rfl]
 have Q:w.length∉row w p:=λz=>jy _^g.rng _ _ z
 have M:bq v (p,w.length)=(w.length,p):=by
  show(w.length,aO (row v w.length) p)=_;rw[y];unfold aO;simp
 by_cases m:row w p= []
 .
  have l1:w.length=1:=by
   apply FM;intro z
   obtain⟨q,t,F⟩:∃q,q<w.length/\q≠p:=by
    by_cases c:p=0
    .exact#[1,(),()]
    .exact#[0,(),λe=>c e.symm]
   have n:∀x,Reach w p x->x=p:=λx R=>by
    induction R with
    |refl=>rfl
    |step _ h o=>rw[o,m] at h;cases h
   have back:∀{a b},Reach w a b->Reach w b a:=λ {a b} h=>by
    have tr:∀{a b c},Reach w a b->Reach w b c->Reach w a c:=λ {a b c} k G=>by
     induction G with
     |refl=>exact k
     |step _ h o=>exact .step o h
    induction h with
    |refl=>exact .refl _
    |step _ h o=>exact tr (.step (.refl _)^g.sym _ _ h) o
   have tr:∀{a b c},Reach w a b->Reach w b c->Reach w a c:=λ {a b c} k G=>by
    induction G with
    |refl=>exact k
    |step _ h o=>exact .step o h
   exact F^n q^tr (back^g.con p C)^g.con q t
  have p0:p=0:=()
  have A:row v p= [w.length]:=by rw[L,m];unfold ins;simp
  have S:bq v (w.length,p)=(p,w.length):=by
   show(p,aO (row v p) w.length)=_;rw[A];unfold aO;simp
  refine#[[[(p,w.length),(w.length,p)]],λr m=>?_,?_,rfl]
  .rw[bW] at m
   subst m;refine#[(p,w.length),rS #[rfl,by rw[M];exact#[rfl,S]] (by simp) ?_,show w.length∈row v p by rw[A];simp]
   rw[kD];exact#[λh=>by rw[bW] at h;exact s (GT h).1,by simp]
  .refine(qM ?_^bh E).mpr λd=>?_
   .show([(p,w.length),(w.length,p)]:List Dt).Nodup
    rw[kD];exact#[λh=>by rw[bW] at h;exact s (GT h).1,by simp]
   .obtain⟨l,u⟩:=d
    rw[aD];show(l,u)∈([(p,w.length),(w.length,p)]:List Dt)↔u∈row v l
    constructor
    .intro h
     rcases b7.mp h with h|h
     .rw[(GT h).1,(GT h).2,A];simp
     .rw[bW] at h;rw[(GT h).1,(GT h).2,y];simp
    .intro h
     have hd:=bZ h
     by_cases c:l=p
     .subst c
      rw[A,bW] at h;subst h;simp
     .have:l=w.length:=()
      subst this;rw[y,bW] at h;subst h;simp
 .have T:2<=w.length:=by
   let⟨q,t⟩:=List.exists_mem_of_ne_nil _ m
   have:=g.rng _ _ t
   have:q≠p:=λe=>g.irr p^by rw[e] at t;exact t
   lia
  obtain⟨r,X⟩:∃r,O0 (row w p) (row v p) r w.length:=by
   rw[L]
   by_cases c:j<(row w p).length
   .exact#[(row w p)[j],A9^bA c]
   .have Y:=EB.mpr m
    rw[show j=(row w p).length by lia]
    exact#[(row w p)[0],Sv^bA Y]
  let⟨Z,N,D,a4,a5⟩:=X.succ (g.nod p) Q;have O:∀e:Dt,ax w e->e.1∈row w e.2:=λe h=>g.sym _ _ h;refine P4 (p:=p) (r:=r) g E a5 rfl (λe B k=>?_) (λe B k=>?_) M ?_ (λd=>?_)^h T
  .by_cases c:e.2=p
   .have H:=N e.1^by rw[<-c];exact O e B
    unfold bq at k ⊢;rw[c] at k ⊢;rw[H,mo^λz=>k^by rw[z]]
   .have:e.2<w.length:=g.rng _ _ B
    unfold bq;rw[f,mo (),mo^Ne.symm c]
  .have c:e.2=p:=IR Prod.fst k
   have H:=N e.1^by rw[<-c];exact O e B
   unfold bq at k ⊢;rw[c] at k ⊢;rw[H,ir (GT k).2]
  .show(p,aO (row v p) w.length)=(p,r)
   rw[Z]
  .obtain⟨l,u⟩:=d
   show u∈row v l↔_\/_\/u∈row w l
   by_cases I:l=p
   .subst I
    rw[a4];exact#[λh=>h.elim (λh=> .inl^by rw[h]) λh=> .inr^.inr h,λh=>h.elim (λh=> .inl (GT h).2) λh=>h.elim (λh=>absurd (GT h).1 s) .inr]
   .by_cases J:l=w.length
    .subst J
     rw[y,bW];exact#[λh=> .inr^.inl^by rw[h],λh=>h.elim (λh=>absurd (GT h).1.symm s) λh=>h.elim (λh=>(GT h).2) λh=>absurd (bZ h)^jy _]
    .rw[f,mo J,mo^Ne.symm I]
     exact#[λh=> .inr^.inr h,λh=>h.elim (λh=>absurd (GT h).1 I) λh=>h.elim (λh=>absurd (GT h).1 J) id]
def PY(h:2<=w.length->Fc w 1)(c:fR w+2=2*w.length):Eu b w:=λa=>#[1,h a,(),λ_=>by lia]
end Wb
namespace L2
open PySem PySem.Spec PyProof.Rows
section
variable {Z:DC} {X:Cx} {md:List Nat} {rn:Nat} {k tg:Expr} {tk:bb} {g:ft} {pos:Pos}
def Yc(d:List Nat)(j:Nat)(e:bb)(g:ft)(f:eG):eG:=λE a=>∃b,a[j]?\(some^.lst b)/\e (Lo d true a) λh=>∃(n:Int)(c:List D),h= .int n/\h8 b n\(.lst c)/\kj g f E c a
def PM(j:Nat)(z:X.calm=true)(C:PassesOwn (d5 X.prog X.w) X.A X.env X.xe)(F:DE Z X k tk)(I:MO Z X md tg g)(J:pj Z X md rn c l)(L:md.getD j 0=1<|>zn)
  (O:X.N[j]?\y<|>zn) (P:Cc X.env.scope y<|>zb) (Q:(y==("__debug__":eg))=false<|>zm) (R:(y==("__classdict__":eg))=false<|>zm)
  (T:uH k<|>xr) (Y:(∀x,ey (.Subscript (.Name y py) k i) X.env x=pure x)<|>za):DSt Z X md rn (.For tg (.Subscript (.Name y py) k i) c [] pos)^Yc md j tk g l:=by
 refine(kO C z (lG^dh bU (pv j O P Q R) F T) I J Y).imp ?_;intro Dn σ H aP;rfl';obtain⟨B,ρ,E,⟨G,fp,S⟩,⟨Yr,p,h⟩,M⟩:=aP;ac_rfl;rfl';let⟨v0,q,o⟩:=S.at_ j _ p;ac_rfl;refine#[_,q,S.ev true h ?_];rintro _ ⟨n,ds,rfl,QC,hf⟩;refine#[rfl,λv G1 H1 e x1 Ys=>?_];rfl';cases Ys.ofInt;let⟨v1,r,s⟩:=e.at_ j _ p;rw[q] at r;cases r;rw[L] at s;let⟨a,xs,pR,Co,rfl,e1,ha,d,ol⟩:=s.one;cases e1;let⟨UT,d⟩:=ol.flat;let⟨u,hu,du⟩:=EK UT QC;let⟨b,ys,rfl,t,f⟩:=du.j6;ac_rfl;exact#[a,xs,n, .ref b,rfl,rfl,aK.of ha,hu,b,rfl,#[_,aK.of^e.ex.sub _ _ t],DJ e (HK t f) hf M]
end
end L2
namespace wK
open PySem L2 Wb
variable {P:Program} {w:World} {mg:Str->Option Value} {base:Heap} {Z:DC} (T:Txt Z mg)
def ZR(a b:Int)(h:0<b):0<=a%b/\a%b<b:=#[aeI _ (),GD _ h]
def eqC{P:D->Prop}(h:P^.bl (decide (i=j))):dC (.int j) a (λb=>Po (.int i) b P):=uJ h
def Ae(l:List a)(k:Nat)(h:k<=l.length):cutD l (some (k:Int)) none=l.drop k:=by
 unfold cutD
 have b:HT.cn l.length 0^some (k:Int)=k:=by
  simp only[HT.cn]
  split<;>lia
 have c:HT.cn l.length l.length none=l.length:=rfl;rw[b,c];exact sW^by simp
def vV{w:W}(h:p<w.length):h8 (w.map aE) (p:Int)\(aE^row w p):=jA^wA h
def vG{a:List Nat}(h:p<a.length):h8 (a.map az) (p:Int)\(az^a.getD p 0):=jA^by rw[cL,bO,bA h];rfl
theorem Fz:∀(b:List Nat)(m:Nat),m<b.idxOf x->b[m]? ≠some x
 | [],m,h=>by simp at h
 |a::b,m,h=>by
  rw[afD] at h
  by_cases e:(a==x)=true
  .rw[e] at h;simp at h
  .rw[B4.mpr e] at h
   cases m with
   |zero=>intro z;simp at z;exact e (by simp[z])
   |succ m=>rw[wF];exact Fz b m^~~~h
def Kb{a:List Nat}{x:Nat}{P:D->Prop}(h:x∈a)(q:P^az^a.idxOf x):jD^az x=true/\(a.map az).all jD=true/\∃(j:Nat)(z:D),(a.map az)[j]?\z/\mj z^az x=true/\(∀(m:Nat) z,m<j->(a.map az)[m]?\z->mj z^az x=false)/\P^.int (j:Nat):=by
 have b:=sV.mpr h;have e:a[a.idxOf x]?\x:=by rw[bA b];exact IR some^qQ b
 refine#[rfl,kR _,a.idxOf x,az x,by rw[cL,e];rfl,by simp[mj,az],λm z c d=>?_,q]
 let⟨y,f,rfl⟩:=dF d
 have:y≠x:=by
  rintro rfl;exact Fz _ _ c f
 have:¬((y:Int)=(x:Int)):=()
 simpa [mj,az] using this
def kJ{a:List Nat}{x:Nat}(h:x∈a):(a.map az)[a.idxOf x]?\(az x)/\mj (az x)^az x=true/\∀(m:Nat) z,m<a.idxOf x->(a.map az)[m]?\z->mj z^az x=false:=by
 have:=Kb (P:=λd=>d=az^a.idxOf x) h rfl
 let⟨o,p,j,z,i,k,l,n⟩:=this;have b:=sV.mpr h;have e:a[a.idxOf x]?\x:=by rw[bA b];exact IR some^qQ b
 refine#[by rw[cL,e];rfl,by simp[mj,az],λm z c f=>?_]
 let⟨y,g,rfl⟩:=dF f
 have:y≠x:=by
  rintro rfl;exact Fz _ _ c g
 have:¬((y:Int)=(x:Int)):=()
 simpa [mj,az] using this
def Bb(n:Nat):gZ 0 n=(aj n).map λ(x:Nat)=>az x:=by unfold gZ az;simp
theorem tV{g:b->PyData}(h:∀a,(f a).py\(g a)):∀l:List b,fG^l.map f\(l.map g)
 | []=>rfl
 |a::l=>by
  have:=tV h l
  rw[cY,fG,h a,this];rfl
def rR(r:List Nat):(aE r).py\(mr r):=by
 unfold aE mr;rw[D.py,tV (g:=nD)^λn=>rfl];rfl
def Ak(a b:List Nat):PyData.eqv (mr a)^mr b=decide (a=b):=by
 by_cases e:a=b
 .rw[Gc e];exact(Ds a b).mpr e
 .rw[GE e]
  apply B4.mpr;exact λz=>e^(Ds a b).mp z
def Pp{v w:List Nat}{P:D->Prop}(h:P^.bl (decide (v=w))):Po (aE v) (aE w) P:=by
 refine#[_,_,rR v,rR w,by have:=pN v;lia,?_]
 rw[mo dZ,Ak];exact h
def Hb{v w:List Nat}{P:D->Prop}(h:P^.bl (!decide (v=w))):ET (aE v) (aE w) P:=by
 refine#[_,_,rR v,rR w,by have:=pN v;lia,?_]
 rw[ir rfl,Ak];exact h
def NT{P:D->Prop}(h:P^.bl (!decide (i=j))):dC (.int j) a (λb=>ET (.int i) b P):=Pt h
variable {P:Program} {w:World} {mg:Str->Option Value} {base:Heap} {Z:DC} (T:Txt Z mg)
theorem Ep{P:D->Prop}(g:L.length<64)(h:∀M:List Nat,M.Perm L->M.Pairwise (·<=·)->P^aE M):LN [aE L] P:=by
 refine#[L.map λ(n:Nat)=>(n:Int),by unfold aE;rw[cZ];rfl,by rw[aI];exact g,λc f srt=>?_]
 have e:∀m∈c,((m.toNat:Nat):Int)=m:=λm d=>by
  let⟨n,k,rfl⟩:=bR.mp^f.mem_iff.mp d;simp
 have i:(c.map Int.toNat).Perm L:=by
  have:=f.map Int.toNat
  rw[cZ] at this;rw[show(Int.toNat∘λ(n:Nat)=>(n:Int))=id from by funext n;simp] at this
  simpa using this
 have:=h (c.map Int.toNat) i (by
  rw[iA];exact srt.imp λ {a b} j=>Int.toNat_le_toNat j)
 unfold aE at this;rw[cZ] at this;rw[show c.map D.int=c.map (az∘Int.toNat) from yX λm d=>by show D.int m=az m.toNat;unfold az;rw[e m d]]
 exact this
noncomputable def tT(k:Nat×Nat):PyData:= .tuple [nD k.1,nD k.2]
def Sx(k:Nat×Nat):(pairD k).py\(tT k):=by
 unfold pairD;rw[D.py,fG,fG,fG];rfl
def Dr(a b:Nat×Nat):PyData.eqv (tT a)^tT b=true↔a=b:=by
 unfold tT nD;simp[PyData.eqv,PyData.eqvAll]
 constructor
 .rintro⟨c,d⟩;exact UV () ()
 .rintro rfl;exact#[rfl,rfl]
variable {P:Program} {w:World} {mg:Str->Option Value} {base:Heap} {Z:DC} (T:Txt Z mg)
noncomputable def zz(d:Nat×Nat):Int×Int:=(d.1,d.2)
def WB(h:zz a=zz b):a=b:=UV (by have:=(GT h).1;lia)^by have:=(GT h).2;lia
def r6{d:Nat×Nat}{l:List (Nat×Nat)}:zz d∈l.map zz↔d∈l:=by
 rw[bR];exact#[λ#[a,b,e]=>by rw[<-WB e];exact b,λh=>#[d,h,rfl]]
def V9:fh:=λb P=>∃(w:W),b= [.gw w]/\Good w/\w.length<=14/\∀a:List (Nat×Nat),a.Perm^fV (row w) w.length->a.Pairwise lexLe->P^.lst^a.map pairD
theorem W9(I:DN->Prop)(J:n->DN->Prop)(l:n->D)(f:n->List t)(u:t->D)(p:n->t->Bool)(k:n->t->A)(d:A->D)(F:∀y G,J y G->I G):∀(j:List n)(i:DN)(acc:List A)(P:List D->Prop),
  (∀y∈j,∀i,I i->∀(Y:DN->List D->Prop),(∀a,J y a->Y a^(f y).map u)->g (l y) i λa=>x a^Y a)->
  (∀y∈j,∀b∈f y,∀i,J y i->∀(Y:DN->D->Prop)(v:DN->Prop),(∀a,J y a->p y b=true->Y a^d^k y b)->(∀a,J y a->p y b=false->v a)->q (u b) i λa=>r a λc=>if c=true then s a^Y a else v a)->
  I i->acc.length+(j.flatMap λy=>((f y).filter^p y).map^k y).length<=sizeLine->(∀y∈j,acc.length+(j.flatMap λy=>((f y).filter^p y).map^k y).length+(f y).length<=sizeLine)->P^(acc++j.flatMap λy=>((f y).filter^p y).map^k y).map d->sI g mX x q r s (j.map l) i (acc.map d) P
 | [],i,acc,P,_,_,H,_,_,h=>by
  show P^acc.map d;simpa using h
 |y::j,i,acc,P,L,M,H,m,N,h=>by
  have B:=N y (cF ..);rw[yd,dJ] at m B;refine L y (cF ..) i H (λa O=>lcW q r s O a (acc.map d) λo Q=>sI g mX x q r s (j.map l) o Q P) λa C=>?_;refine mm (J y) u (p y) (λb=>d^k y b) (f y) a (acc.map d) _ (λb R o E Y v S X=>?_) C (by rw[aI];lia) λo E=>?_
  .exact M y (cF ..) b R o E Y v S X
  .have e:acc.map d++((f y).filter^p y).map (λb=>d^k y b)=(acc++((f y).filter^p y).map^k y).map d:=by rw[dk,cZ];rfl
   rw[e];refine W9 I J l f u p k d F j o (acc++((f y).filter^p y).map^k y) P (λz m=>L z^dS _ m) (λz m=>M z^dS _ m) (F y o E) (by rw[dJ];lia) (λz m=>?_) ?_
   .have:=N z^dS _ m
    rw[yd,dJ] at this;rw[dJ];lia
   .rw[yd] at h
    rw[kB];exact h
def kM:FnOk P w Z.K mg base fM 1 T.v7.f T.v7.fd ["self"]^aU Z V9:=by
 have L:=wa.nd;refine bx T.v7.F wa [0] ∅ (λu R h=>by obtain⟨_,rfl,_⟩:=h;rfl)^λM A outer s H E u R v h=>?_
 have N:=v.units;refine#[_,(av^aW^bC C8 rfl T.B.sorted k9^aa (Ui (NC:= ["p","row","q"]) (src:= [none,none,none]) rfl (uI^aq mw) trivial (eY rfl T.B.enumerate^aa (uK T.W^U 0) ar) (λ_ _ _=>(qV 2 rfl^eQ (bQ 0 (show(["p","row","q"]:List eg).Nodup from by decide+kernel))^eQ (bQ 1 (show(["p","row","q"]:List eg).Nodup from by decide+kernel)) mZ)) (λ_ _ _=>eZ) (λ_ _ _=>(b9^U 1)) (λ_ _ _=>(bQ 2 (show(["p","row","q"]:List eg).Nodup from by decide+kernel))) (λ_ _ _=>(Ah^cf RK (U 0) (U 2)^bJ _))^λ_ _ _=>(dN^aa (U 0)^aa (U 2) ar)) ar),?_]
 let⟨a,rfl,g,h14,q⟩:=h
 have x:c9^a.map aE=(aj a.length).map λ(j:Nat)=>D.tup [.int (j:Int),aE^row a j]:=by
  refine ph λj=>?_;rw[cL]
  by_cases lt:j<a.length
  .rw[nH lt]
   cases e:(c9^a.map aE)[j]? with
   |none=>
    have:=afh.mp e
    rw[gF,aI] at this;lia
   |some d=>rw[(wz e).2];rfl
  .rw[fJ^by rw[gF,aI];lia,fJ^by rw[jx];lia];rfl
 have k:((aj a.length).flatMap λp=>((row a p).filter λq=>decide (p<q)).map λq=>(p,q))=fV (row a) a.length:=rfl
 have z:∀n,n<=a.length->(fV (row a) n).length<=n*14:=λn=>by
  induction n with
  |zero=>intro _;exact aZ _
  |succ n C=>
   intro h
   have:=C ()
   have O:=fH g n;have Q:=aew (λq=>decide (n<q))^row a n;unfold fV at this ⊢;rw[afB,List.flatMap_append,dJ];simp only[yd,List.flatMap_nil,fe,aI];lia
 have G:=z a.length^aZ _;exists _,rfl,a,rfl;refine(?_:sI _ _ _ _ _ _ (c9^a.map aE) _ _ _);rw[x];refine W9 (λi=>∃o r c,i= [o,r,c]) (λp i=>∃c,i= [some^az p,some^aE^row a p,c]) _ (λp=>row a p) az (λp q=>decide (p<q)) (λp q=>(p,q)) pairD (λy i #[c,e]=>#[_,_,_,e]) (aj a.length) _ [] _ (λp t I l Y m=>?_) (λp t b S I l Y X m J=>?_) #[none,none,none,rfl] ?_ (λp t=>?_) ?_
 .obtain⟨o,r,c,rfl⟩:=l
  exact#[rfl,rfl,_,rfl,m _ #[_,rfl]]
 .obtain⟨c,rfl⟩:=l
  exists _,rfl,_,rfl,_,rfl;refine(?_:if decide ((p:Int)<(b:Int))=true then _ else _);rw[show decide ((p:Int)<(b:Int))=decide (p<b) from adX.mpr ()]
  exact fT (λe=>#[_,rfl,_,rfl,by show 2<=sizeLine;decide,m _ #[_,rfl] e])^λe=>J _ #[_,rfl] e
 .rw[k,sX,mD];exact small ()
 .have:=fH g p
  rw[k,sX,mD];exact small ()
 .rw[k,sY]
  exact#[_,rfl,(),q]
def Ou:fh:=λa P=>∃(w:W)(p q:Nat),a= [.gw w,az p,az q]/\Good w/\q∈row w p/\P^az^aO (row w p) q
def qg:FnOk P w Z.K mg base fM 1 T.v9.f T.v9.fd ["self","p","q"]^aU Z Ou:=by
 have e:=qu.nd;refine bx T.v9.F qu [0,0,0,0] ∅ (λk R h=>by let⟨v,x,y,rfl,z⟩:=h;rfl)^λr A outer s H E k R l h=>?_
 have t:=l.units
 refine#[_,(aw (cz false 3 e^gE (uK T.W^U 0)^U 1)
   (av^aW^gE (U 3)^jZ FF (jZ mq (Df (U 3)^U 2) bH)^bC fw rfl T.B.len fu^aa (U 3) ar)),?_]
 let⟨a,p,b,rfl,g,c,q⟩:=h;have m:=bZ c;have u:=fH g p;have d:((row a p).map az).length=(row a p).length:=aI _;have pos:0<(row a p).length:=jh c;have n:(0:Int)<(((row a p).map az).length:Int):=by rw[d];lia
 exists _,rfl,a,rfl,_,rfl,_,vV m,trivial;exists _,rfl,_,rfl,_,rfl,_,rfl,rfl,kR _,_,_,(kJ c).1,(kJ c).2.1,(kJ c).2.2;exists _,rfl,n;have em:(((row a p).idxOf b:Nat):Int)+1=(((row a p).idxOf b+1:Nat):Int):=()
 have o:((((row a p).idxOf b:Nat):Int)+1)%(((row a p).map az).length:Int)=((((row a p).idxOf b+1)%(row a p).length:Nat):Int):=by rw[d,em,afv]
 refine#[az^aO (row a p) b,?_,q];show h8 ((row a p).map az)^(λi j=>i%j) _ _=_;dsimp only;rw[o];exact vG^kE _ pos
def De{P:D->Prop}(h:P^.bl (!decide (a=b))):ET (pairD a) (pairD b) P:=by
 refine#[_,_,Sx a,Sx b,by unfold tT nD;simp[PyData.depth,PyData.depthAll],?_]
 have:PyData.eqv (tT a)^tT b=decide (a=b):=by
  by_cases e:a=b
  .rw[Gc e];exact(Dr a b).mpr e
  .rw[GE e]
   apply B4.mpr;exact λz=>e^(Dr a b).mp z
 rw[ir rfl,this];exact h
def Bp:fh:=λa P=>∃(w:W)(d:Nat×Nat),a= [.gw w,pairD d]/\Good w/\w.length<=14/\ax w d/\∀r,dm w d r->P^.lst^r.map pairD
def A0:Dk P w base 2 T.u2^aU Z Bp:=by
 have f:=qA.nd;refine bx T.u2.F qA [0,0,1,0,0] ∅ (λr R h=>by let⟨D,G,rfl,I⟩:=h;rfl)^λy A outer s H E r R l h=>?_
 have t:=l.units
 refine#[_,(aw (qX 2 f^qU^aa (U 1) ar)
   (aw (EY (U 1)^fS 2 rfl^aR (aN 3 f)^aR (aN 4 f) cW)
   (aw (LZ 3 4 rfl f^aa (U 4)^aa (Hg T.W (U 0) T.v9.m (qg T) (l.mono ∅) T.v9.b^aa (U 4)^aa (U 3) ar) ar)
   (aw (wY FS (cf (xI t) (dN^aa (U 3)^aa (U 4) ar) (U 1)^bJ _)^aw (qW false 2^dN^aa (U 3)^aa (U 4) ar)
   (av^LZ 3 4 rfl f^aa (U 4)^aa (Hg T.W (U 0) T.v9.m (qg T) (l.mono ∅) T.v9.b^aa (U 4)^aa (U 3) ar) ar))
   (av^aW^U 2))))),?_]
 let⟨a,d,rfl,g,h14,n,q⟩:=h;have z:=gB g;have B:a.length*a.length<=14*14:=qK h14 h14;refine#[_,rfl,by show 1<=sizeLine;decide,?_]
 exists _,rfl,rfl,rfl;exists _,rfl,_,rfl,a,rfl,_,rfl,_,rfl,a,d.2,d.1,rfl,g,g.sym _ _ n,_,_,rfl;refine uA (λm u=>∃k,0<k/\m+k=(aQ a).length+1/\(∀j,0<j->j<k->br a j d≠d)/\u= [some^.gw a,some^pairD d,some^.lst^(walk a d k).map pairD,some^az (br a k d).1,some^az (br a k d).2]) (aQ a).length #[1,(),rfl,λj i p=>by lia,rfl] ?_
 rintro m _ ⟨k,v,C,o,rfl⟩;have x:=fE g n k;refine#[_,rfl,_,rfl,by show 2<=sizeLine;decide,_,rfl,?_]
 refine(?_:ET (pairD^br a k d) (pairD d) _);refine De #[_,rfl,fT (λe=>?_)^λe=>?_]
 .have ne:br a k d≠d:=by simpa using e
  have lt:k<(aQ a).length:=by
   have:=qG g n (k:=k+1) λj i p=>by
    by_cases c:j=k
    .subst c;exact ne
    .exact o j i ()
   lia
  refine#[_,rfl,_,rfl,_,rfl,by show 2<=sizeLine;decide,trivial,bL^by rw[aI,eV];lia,?_]
  exists _,rfl,_,rfl,a,rfl,_,rfl,_,rfl,a,(br a k d).2,(br a k d).1,rfl,g,g.sym _ _ x,_,_,rfl;refine#[m-1,(),k+1,(),(),λj i p=>?_,?_]
  .by_cases c:j=k
   .subst c;exact ne
   .exact o j i ()
  .rw[t9,dk];rfl
 .have e:br a k d=d:=by simpa using e
  exact#[_,rfl,q _ #[k,v,e,o,rfl]]
noncomputable def zK(a:List^List (Nat×Nat)):D:= .lst^(a.map λr=>r.map (·.1)).map aE
def IK:fh:=λb P=>∃(w:W),b= [.gw w]/\Good w/\1<=w.length/\w.length<=14/\(w.length=1->P^.lst [aE [0]])/\(2<=w.length->∀a,bG w a->xB w=fO a->P^.lst^(xB w).map aE)
def NK(h:d∉l):HG (l.map zz)^zz d=(l++ [d]).map zz:=by
 unfold HG;rw[mo^λz=>h^r6.mp z,dk];rfl
def rF:Dk P w base 3 T.u3^aU Z IK:=by
 have G:=En.nd;refine bx T.u3.F En [0,98,1,0,0,0] ∅ (λu R h=>by let⟨K,rfl,V⟩:=h;rfl)^λaV A outer s H E u R n h=>?_
 have Q:=n.units
 refine#[_,(aw (dA (cf (xG Q) (jC T.W (U 0) T.v5.m (vL T) (n.mono ∅) T.v5.b) bH^bJ _) (av^aW^l9^aa (l9^aa bH ar) ar) bw)
   (aw (Nc 1 G rfl T.u0)
   (aw (qX 2 G^qU ar)
   (aw (dO rfl FS (b9^bC C8 rfl T.B.sorted k9^aa (jZ mq (jC T.W (U 0) T.v7.m (kM T) (n.mono ∅) T.v7.b)^pM (NC:= ["a","b"]) (src:= [none,none]) rfl (uI^aq qs) trivial (b9^jC T.W (U 0) T.v7.m (kM T) (n.mono ∅) T.v7.b) (λ_ _ _=>(qV 2 rfl^eQ (bQ 0 (show(["a","b"]:List eg).Nodup from by decide+kernel))^eQ (bQ 1 (show(["a","b"]:List eg).Nodup from by decide+kernel)) mZ)) (λ_ _ _=>eZ)^λ_ _ _=>(dN^aa (U 1)^aa (U 0) ar)) ar) (aN 3 G)^av^dA (cf (Ku Q) (U 3) (U 1)^by with_unfolding_all rfl) (aw (cz false 4 G^aL T.u2 (A0 T) n^aa (U 0)^aa (U 3) ar)
   (aw (dO rfl FS (b9^U 4) (aN 5 G)^av^PL false 1 Q^U 5)
   (av^qW false 2^pM (NC:= ["p","q"]) (src:= [none,none]) rfl (uI^aq qs) trivial (b9^U 4) (λ_ _ _=>(qV 2 rfl^eQ (bQ 0 (show(["p","q"]:List eg).Nodup from by decide+kernel))^eQ (bQ 1 (show(["p","q"]:List eg).Nodup from by decide+kernel)) mZ)) (λ_ _ _=>eZ)^λ_ _ _=>(U 0)))) bw)
   (av^aW^bC (Jr Q) rfl T.B.sorted k9^aa (U 2) ar))))),?_]
 let⟨j,rfl,g,h1,h14,q1,q2⟩:=h;have c1:=gB g;have c2:j.length*j.length<=14*14:=qK h14 h14;have lw:(j.map aE).length=j.length:=aI _;exists _,rfl,j,rfl,j,rfl;refine eqC #[_,rfl,fT (λe=>?_)^λe=>?_]
 .have e:j.length=1:=by have:=KF e;lia
  exact#[by show 1<=sizeLine;decide,by show 1<=sizeLine;decide,q1 e]
 have n2:2<=j.length:=by have:=UF e;lia
 refine#[by show 0<=sizeLine;decide,?_]
 refine#[_,rfl,j,rfl,j,rfl,g,h14,λts C srt=>?_];have tl:=Lj g;rw[<-jB] at tl;have tl2:=C.length_eq;refine#[_,rfl,j,rfl,j,rfl,g,h14,λv I XG=>?_];have e2:v=ts:=adN (λ_ _ _ _=>rq) XG srt^I.trans C.symm;subst e2;refine mm (λy=>∃J L,y= [J,L]) pairD (λ_=>true) (λt=>pairD (t.2,t.1)) v _ [] _ (λt ht aJ N Y Nn hY hN=>?_) #[none,none,rfl] (by rw[sX,mD];exact small ()) λaJ N=>?_
 .obtain⟨J,L,rfl⟩:=N
  exact#[rfl,rfl,XR #[_,rfl,_,rfl,by show 2<=sizeLine;decide,hY _ #[_,_,rfl] rfl]]
 have pd:=z8 g C;have pl:=pd.length_eq;rw[dJ,aI] at pl;have ef:v.filter (λ_=>true)=v:=by simp
 rw[sY,ef];refine#[by rw[aI,aI];exact small (),?_]
 have ej:(.lst (v.map pairD++v.map λt=>pairD (t.2,t.1)):D)= .lst^(v++v.map λt=>(t.2,t.1)).map pairD:=by rw[dk,cZ];rfl
 dsimp only[l8];rw[ej];refine#[_,rfl,by rw[dJ,aI];lia,λu S acv=>?_]
 have S:=S.trans pd;have all:∀e,ax j e->e∈u:=λe h=>S.mem_iff.mpr^aD.mpr h;have dart:∀e∈u,ax j e:=λe h=>aD.mp^S.mem_iff.mp h;clear C I srt XG ej pd ef;refine cw (λi y=>∃(f:List^List (Nat×Nat))(o3 o4 p:Option D),y= [some^.gw j,some^.x^.vT (iF w)^f.flatten.map zz,some^zK f,o3,o4,p]/\Wk j u i f) #[[],none,none,none,rfl,Wk.zero j u] ?_ ?_
 .rintro i d _ hd ⟨f,o3,o4,p,rfl,hw⟩ A X
  let⟨e,he,rfl⟩:=dF hd;have de:=dart e^cU he;exists _,rfl,_,rfl,zz e,f.flatten.map zz,rfl,rfl,_,rfl;refine(?_:if (if true=true then !decide (zz e∈f.flatten.map zz) else _)=true then _ else _);rw[ir rfl,show decide (zz e∈f.flatten.map zz)=decide (e∈f.flatten) from adX.mpr r6]
  have sub:∀x∈f.flatten,x∈aQ j:=λx q=>by
   let⟨r,n,ZD⟩:=jX.mp q;let⟨d,R,dd,K⟩:=hw.rnd r n;exact aD.mpr^R.aQ g dd x ZD
  have fl:=ba hw.nod sub;refine fT (λc=>?_)^λc=>?_
  .have c:e∉f.flatten:=by simpa using c
   refine#[_,rfl,_,rfl,j,e,rfl,g,h14,de,λr R=>#[trivial,?_]];have O:=hw.take g all dart acv he c R;have rd:∀x∈r,x∈aQ j:=λx q=>aD.mpr^R.aQ g de x q;have rl:=ba (R.nodup g de) rd;have ZT:(f.flatten++r).Nodup:=by have:=O.nod;rw[qP] at this;simpa using this
   have UB:(f.flatten++r).length<=(aQ j).length:=ba ZT λx q=>(bF.mp q).elim (sub x)^rd x;rw[dJ] at UB;exists _,rfl;refine cw (λk y=>∃p,y= [some^.gw j,some^.x^.vT (iF w)^(f.flatten++r.take k).map zz,some^zK f,some^pairD e,some^.lst^r.map pairD,p]) #[p,by rw[y4,fe];rfl] ?_ ?_
   .rintro k d _ hd ⟨p,rfl⟩ A X
    let⟨x,q,rfl⟩:=dF hd;have hk:=(cD.mp q).1;have tk:r.take (k+1)=r.take k++ [x]:=by rw[qL,q];rfl
    have nx:x∉f.flatten++r.take k:=λz=>by
     have sp:f.flatten++r=(f.flatten++r.take k)++(x::r.drop (k+1)):=by
      rw[kB,<-cD.mp q|>.2,aek,gL]
     rw[sp] at ZT;exact(cQ.mp ZT).2.2 x z x (cF ..) rfl
    refine#[_,rfl,_,rfl,zz x,rfl,by rw[aI,dJ,hV];lia,?_]
    rw[NK nx,kB,<-tk];exact X _ #[_,rfl]
   .rintro _ ⟨p,rfl⟩
    rw[aI,y3]
    have dl:f.length<=300:=by
     have h:∀o:List^List (Nat×Nat),(∀r∈o,r≠ [])->o.length<=o.flatten.length:=λo=>by
      induction o with
      |nil=>intro _;exact aZ _
      |cons a l ih=>
       intro h;have h1:=EB.mpr^h a (cF ..);have h2:=ih λr n=>h r^dS _ n;rw[iS,dJ,cJ];lia
     have:=h f λr n z=>by
      let⟨d,R,K,V⟩:=hw.rnd r n
      have:=R.first
      rw[z] at this;cases this
     lia
    exists _,rfl,_,rfl;refine mm (λy=>∃J L,y= [J,L]) pairD (λ_=>true) (λt=>az t.1) r _ [] _ (λt ht aJ N Y Nn hY hN=>?_) #[none,none,rfl] (by rw[sX,mD];exact small ()) λaJ N=>?_
    .obtain⟨J,L,rfl⟩:=N
     exact#[rfl,rfl,XR #[_,rfl,hY _ #[_,_,rfl] rfl]]
    rw[sY,show r.filter (λ_=>true)=r by simp]
    refine#[trivial,bL^by rw[aI,aI];lia,?_]
    refine X _ #[f++ [r],some^pairD e,some^.lst^r.map pairD,p,?_,O]
    have e1:zK (f++ [r])= .lst ((f.map λr=>r.map (·.1)).map aE++ [.lst (r.map λt=>az t.1)]):=by
     unfold zK aE;rw[dk,dk];simp only[cY,yh,cZ];rfl
    rw[e1,qP,show[r].flatten=r by simp];rfl
  .have c:e∈f.flatten:=by simpa using c
   exact X _ #[f,_,_,_,rfl,hw.skip he c]
 .rintro _ ⟨f,o3,o4,p,rfl,hw⟩
  have hw:Wk j u u.length f:=by rw[aI] at hw;exact hw
  have fin:=hw.fin g all;have R:bG j f:=#[hw.rnd,fin]
  have dl:f.length<=300:=by
   have h:∀o:List^List (Nat×Nat),(∀r∈o,r≠ [])->o.length<=o.flatten.length:=λo=>by
    induction o with
    |nil=>intro _;exact aZ _
    |cons a l ih=>
     intro h;have h1:=EB.mpr^h a (cF ..);have h2:=ih λr n=>h r^dS _ n;rw[iS,dJ,cJ];lia
   have:=h f λr n z=>by
    let⟨d,R,K,V⟩:=hw.rnd r n
    have:=R.first
    rw[z] at this;cases this
   have:=fin.length_eq
   lia
  refine#[_,rfl,f.map^λr=>r.map (·.1),rfl,by rw[aI];lia,λM C srt=>?_]
  let⟨o,p',rfl⟩:=L2.kN (λr:List (Nat×Nat)=>r.map (·.1)) M f C;have R':=R.AV p';have e:=rj g R' srt
  have:=q2 n2 o R' e
  rw[e] at this;exact this
variable {P:Program} {w:World} {mg:Str->Option Value} {base:Heap} {Z:DC} (T:Txt Z mg)
noncomputable def rY(l:List Nat):List (Nat×Nat):=(aj l.length).map λk=>(l.getD k 0,l.getD ((k+1)%l.length) 0)
def LG(l:List Nat):l.zip (l.drop 1++l.take 1)=rY l:=by
 refine ph λi=>?_;unfold rY;rw[cL]
 by_cases h:i<l.length
 .rw[nH h,uF]
  refine afg.mpr #[by rw[bO,bA h];rfl,?_]
  by_cases c:i+1<l.length
  .rw[iR^by rw[ji];lia,yY,kC c,show 1+i=i+1 by lia,bA c];show _\(l.getD (i+1) 0);rw[bO,bA c];rfl
  .have e:i+1=l.length:=()
   rw[jg^by rw[ji];lia,ji,e,afo,show i-(l.length-1)=0 by lia]
   cases l with
   |nil=>simp at h
   |cons a l=>rfl
 .rw[fJ^by rw[List.length_zip,dJ,ji,hV];lia,fJ^by rw[jx];lia];rfl
noncomputable def kQ(l:List Nat):List (Nat×Nat):=if 1<l.length then rY l else[]
def Bq:fh:=λa P=>∃(l:List Nat),a= [aE l]/\l.length<=300/\P^.lst^(kQ l).map pairD
def vN:Dk P w base 1 T.uf^aU Z Bq:=by
 have f:=wd.nd;refine bx T.uf.F wd [0] ∅ (λd R h=>by let⟨m,rfl,n⟩:=h;rfl)^λg A outer s H E d R e h=>?_
 have i:=e.units;exists _,(av^aW^Yo (cf RG (bC fw rfl T.B.len fu^aa (U 0) ar) bH^bJ _) (Hf rfl rfl T.B.list rfl T.B.zip^aa (U 0)^aa (jZ mq (mY (U 0) (pP bH) pO)^mY (U 0) pO^pP bH) ar)^l9 ar);let⟨l,rfl,j,q⟩:=h;have k:(l.map az).length=l.length:=aI _;unfold kQ at q;exists _,rfl,_,rfl;refine(?_:if decide ((1:Int)<((l.map az).length:Int))=true then _ else _);refine fT (λc=>?_)^λc=>?_
 .have c:1<l.length:=by have:=KF c;lia
  rw[ir c] at q;exists _,rfl,_,rfl,_,rfl;have a:cutD (l.map az) (some ((1:Nat):Int)) none=(l.drop 1).map az:=by rw[Ae _ _ (),ael]
  have b:cutD (l.map az) none^some ((1:Nat):Int)=(l.take 1).map az:=by rw[tq _ _ (),yg]
  refine#[small^by rw[show cutD (l.map az) (some 1) none=_ from a,show cutD (l.map az) none^some 1=_ from b,aI,aI,ji,hV];lia,?_]
  refine(?_:R^.lst (((l.map az).zip (cutD (l.map az) (some ((1:Nat):Int)) none++cutD (l.map az) none^some ((1:Nat):Int))).map λp=> .tup [p.1,p.2]));rw[a,b,<-dk,List.zip_map,LG,cZ];exact q
 .have c:¬1<l.length:=by have:=UF c;lia
  rw[mo c] at q;exact#[by show 0<=sizeLine;decide,q]
noncomputable def ql(a:List^List (Nat×Nat)):List (Int×Int):=a.flatten.map zz
noncomputable def jm(n:Nat):List^List (Nat×Nat)->List FV
 | []=> []
 |r::a=>r.map (λ_=>FV.int (n:Int))++jm (n+1) a
def RS(w:W)(a:List^List (Nat×Nat)):Prop:=(w.length=1/\a= [[]])\/(2<=w.length/\bG w a/\xB w=fO a)
noncomputable def w4:Nat->List D->List D
 |_,[]=> []
 |n,x::l=> .tup [.int (n:Int),x]::w4 (n+1) l
theorem Dq:∀(l:List D)(n:Nat),w4 n l=l.mapIdx λi x=> .tup [.int ((n+i:Nat):Int),x]
 | [],n=>rfl
 |x::l,n=>by
  rw[List.mapIdx_cons];show _::w4 (n+1) l=_;rw[Dq l (n+1)]
  congr 1
  congr 1
  funext i x
  rw[show n+1+i=n+(i+1) by lia]
def Hn(l:List D):c9 l=w4 0 l:=by
 rw[Dq];unfold c9
 congr 1
 funext i x
 rw[mD]
theorem IF:∀(c:List (Nat×Nat))(o:Option D)(b:List (Nat×Nat))(d:List FV),(b++c).Nodup->(b++c).length<=300->(∀o,N [some^az n,x,o] ((b++c).map zz) (d++c.map λ_=>FV.int (n:Int)))->
  lcWK (kH 2) mX (sE 2) (sE 0) (c.map pairD) [some^az n,x,o] (b.map zz) d N
 | [],o,b,d,_,_,h=>by
  have:=h o
  rw[fe,yh,fe] at this;exact this
 |s::c,o,b,d,f,g,h=>by
  have e:b++s::c=(b++ [s])++c:=by simp
  have i:s∉b:=λm=>by
   rw[cQ] at f;exact f.2.2 s m s (cF ..) rfl
  simp only[cY,lcWK,kH,mX, ↓reduceIte];refine#[_,rfl,_,rfl,zz s,FV.int (n:Int),rfl,rfl,(λz=>i^r6.mp z),by rw[aI];rw[dJ] at g;lia,?_]
  have:=IF c (some^pairD s) (b++ [s]) (d++ [FV.int (n:Int)]) (e▸f) (e▸g) λo=>by
   have:=h o
   rw[e,cY,show ∀(a:FV)(l:List FV),d++a::l=d++ [a]++l from λa l=>by simp] at this;exact this
  rw[dk] at this;exact this
theorem AR{N:List (Int×Int)->List FV->Prop}:∀(a:List^List Nat)(n:Nat)(e f d:Option D)(b:List (Nat×Nat))(c:List FV),(∀r∈a,r.length<=300)->(b++(a.map kQ).flatten).Nodup->(b++(a.map kQ).flatten).length<=300->
  N ((b++(a.map kQ).flatten).map zz) (c++jm n^a.map kQ)->
  lcWK2 (Jx 2^zE (kH 0)^zE (kH 1) Jw) mX (PK^wQ Bq^Af (sE 1) l8) (kH 2) mX (sE 2) (sE 0) (w4 n^a.map aE) [e,f,d] (b.map zz) c N
 | [],n,e,f,d,b,c,_,_,_,h=>by
  rw[yh,List.flatten_nil,fe] at h;unfold jm at h;rw[fe] at h;exact h
 |r::a,n,e,f,d,b,c,j,g,i,h=>by
  rw[cY,iS,<-kB] at g i h;simp only[cY,w4,lcWK2,mX, ↓reduceIte];exists rfl,rfl;exists _,rfl,r,rfl,j r (cF ..);refine IF (kQ r) d b c (cQ.mp g).1 (by rw[dJ] at i;lia) λo=>?_
  refine AR a (n+1) _ _ _ (b++kQ r) _ (λx k=>j x^dS _ k) g i ?_;unfold jm at h;rw[<-kB] at h;exact h
def K9{w:W}(h:dm w d r):rY^r.map (·.1)=r:=by
 refine ph λi=>?_;unfold rY;rw[cL,aI]
 by_cases a:i<r.length
 .have b:r.getD i (0,0)=r[i]:=by rw[bO,bA a];rfl
  rw[nH a,bA a,uF,rf,rf,Bc h a,b];rfl
 .rw[fJ^by rw[jx];lia,fJ ()];rfl
def Ir{w:W}(g:Good w)(h:dm w d r)(b:ax w d):1<r.length:=by
 obtain⟨k,c,a,_,rfl⟩:=h;rw[eV];apply FM;intro z;obtain rfl:k=1:=()
 have a:bq w d=d:=a;exact jL g b (IR Prod.fst a).symm
theorem rW{w:W}(g:Good w)(R:bG w a):(fO a).map kQ=a:=by
 unfold fO;rw[cZ];refine(yX (g:=id) λr c=>?_).trans^List.map_id _;let⟨d,b,e,f⟩:=R.rnd r c;show kQ^r.map (·.1)=r;unfold kQ;rw[ir^by rw[aI];exact Ir g b e,K9 b]
def rV{w:W}(g:Good w)(h14:w.length<=14)(R:bG w a):a.flatten.Nodup/\a.flatten.length<=196/\∀r∈a,r.length<=196:=by
 have c:=gB g;have d:w.length*w.length<=14*14:=qK h14 h14;have e:=R.perm.length_eq;refine#[R.perm.nodup_iff.mpr^bh g,(),λr b=>?_]
 have:=(ae1 b).length_le
 lia
def Lb:fh:=λb P=>∃(w:W),b= [.gw w]/\Good w/\1<=w.length/\w.length<=14/\∀a,RS w a->P^.x^.eL (ql a)^jm 0 a
def xO:Dk P w base 4 T.ug^aU Z Lb:=by
 have y:=nE.nd;refine bx T.ug.F nE [0] ∅ (λk R h=>by let⟨C,rfl,D⟩:=h;rfl)^λz A outer s H E k R f h=>?_
 have l:=f.units;refine#[_,(av^aW^Uh (NC:= ["number","land","side"]) (src:= [none,none,none]) l rfl (uI^aq iD) trivial (eY rfl T.B.enumerate^aa (aL T.u3 (rF T) f^aa (U 0) ar) ar) (λ_ _ _=>(qV 2 rfl^eQ (bQ 0 (show(["number","land","side"]:List eg).Nodup from by decide+kernel))^eQ (bQ 1 (show(["number","land","side"]:List eg).Nodup from by decide+kernel)) mZ)) (λ_ _ _=>eZ) (λ_ _ _=>(b9^aL T.uf (vN T) f^aa (U 1) ar)) (λ_ _ _=>(bQ 2 (show(["number","land","side"]:List eg).Nodup from by decide+kernel))) (λ_ _ _=>eZ) (λ_ _ _=>(U 2))^λ_ _ _=>(U 0)),?_]
 let⟨m,rfl,g,n,h14,q⟩:=h;refine#[_,rfl,m,rfl,g,n,h14,λo=>?_,λp d R e=>?_]
 .have:=AR (N:=λt u=>R^.x^.eL t u) [[0]] 0 none none none [] [] (λr f=>by rw[bW] at f;subst f;decide) ∅ ∅^q [[]]^.inl #[o,rfl]
  rw[<-Hn] at this;exact this
 .obtain⟨a,b,c⟩:=rV g h14 R
  have i:=rW g R;rw[e];refine(?_:lcWK2 _ _ _ _ _ _ _ (c9^(fO d).map aE) _ _ _ _);rw[Hn];refine AR (fO d) 0 none none none [] [] (λr f=>?_) (by rw[i];exact a) (by rw[i];show d.flatten.length<=300;lia)^by rw[i];exact q d^.inr #[p,R,e]
  let⟨j,v,rfl⟩:=bR.mp f
  have:=c j v
  show(j.map (·.1)).length<=300;rw[aI];lia
end wK
namespace ED
open PySem L2
noncomputable def top(i:Nat):Stmt:=PySem.Challenge.pw_mapdye_k75_whole_crossed_back.main.body.getD i^.Pass #[0,0,0,0]
abbrev Bf:Stmt:=top 35
abbrev zN:Stmt:=top 36
abbrev Bg:Stmt:=top 37
abbrev xY:Stmt:=top 38
def V3(K:ad):Sp:=λd H Q _=>∃(a:Addr)(b:List Int)(k:Int),d= [.ref a, .int k]/\aK K H a^b.map V.int/\b.length<=63/\0<=k/\k<=100/\∀(v:Int)(c:Hp),aC H c->Q (.int v) c
section
variable {P:Program} {w:World} {K:ad} {mg:Str->Option Value} {base:Heap}
def V0:aH ["_law_script","_law_k"] ["_law_script","_law_k"]^aq Bf:=by bv_omega
def AY(D:bP K mg "_law_cell" Bf ["_law_script","_law_k"]):FnOk P w K mg base fM 1 D.f D.fd ["_law_script","_law_k"]^V3 K:=by
 refine D.F.ok V0 (λn H Q E h=>?_)^λC A outer s H n Q E G h=>?_
 .obtain⟨a,b,k,rfl,_⟩:=h
  rfl
 let⟨a,b,k,rfl,o,I,J,L,q⟩:=h;refine#[_,bo^iB^dh bU (di FK (rL wg (pv 0) (qi^pv 1)^qi^di i7 (pv 1) aX)^gn^ah aX aB) aX^λ_ _=>rfl,?_];refine#[_,rfl,_,rfl,k,rfl,_,rfl,_,_,rfl,rfl,_,rfl,a,_,rfl,o,λp t=>?_];refine#[by show 1<=sizeLine;decide,λg l=>?_]
 have ne:p≠g:=ao (af (H:=H) (a:=p)) l;have c:=nM (b.map V.int) (some k)^some (k+1);rw[aI] at c;refine#[p,g,_,_,rfl,rfl,by rw[ag ne];exact af,af,small^by show _+1<=1000;lia,λm i=>?_]
 have u:aC H^upd (upd (upd H p^.lst^ju (b.map V.int) (some k)^some (k+1)) g^.lst [.int 0]) m^.lst (ju (b.map V.int) (some k)^some (k+1)++ [.int 0]):=
  (aA t _).trans^(aA l _).trans^aA i _
 have d:∃v:Int,h8 (ju (b.map V.int) (some k)^some (k+1)++ [V.int 0]) 0\(.int v):=by
  have:∀x∈ju (b.map V.int) (some k)^some (k+1)++ [V.int 0],∃v,x=V.int v:=λx y=>by
   rcases bF.mp y with z|z
   .unfold ju at z
    let⟨v,M,rfl⟩:=bR.mp^List.mem_of_mem_drop^aeH z;exact#[v,rfl]
   .exact#[0,by simpa using z]
  cases e:ju (b.map V.int) (some k)^some (k+1)++ [V.int 0] with
  |nil=>simp at e
  |cons x r=>
   let⟨v,rfl⟩:=this x^by rw[e];exact cF
   exact#[v,c8 (j:=0) rfl]
 let⟨v,B⟩:=d;exact#[m,_,0, .int v,rfl,rfl,aK.of af,B,q v _ u]
end
def boot_max:bootBuiltins "max"\(.builtin "max"):=by decide+kernel
def boot_min:bootBuiltins "min"\(.builtin "min"):=by decide+kernel
def Tg(K:ad):Sp:=λd H Q _=>∃(a:Addr)(b:List Int)(k:Int),d= [.ref a, .int k]/\aK K H a^b.map V.int/\b.length<=63/\∀(v:Int)(c:Hp),aC H c->Q (.int v) c
structure B7 (mg:Str->Option Value):Prop where
 len:mg "len"=none
 range:mg "range"=none
 max:mg "max"=none
 min:mg "min"=none
 enumerate:mg "enumerate"=none
 zip:mg "zip"=none
 sorted:mg "sorted"=none
 all:mg "all"=none
 isinstance:mg "isinstance"=none
 int:mg "int"=none
 bool:mg "bool"=none
 list:mg "list"=none
 tuple:mg "tuple"=none
section
variable {P:Program} {w:World} {K:ad} {mg:Str->Option Value} {base:Heap}
def IC:aH ["_law_script","_law_turn","_law_number","_law_k","_law_part"] ["_law_script","_law_turn"]^aq zN:=by bv_omega
def NZ(B:B7 mg)(C:bP K mg "_law_cell" Bf ["_law_script","_law_k"])(D:bP K mg "_law_mixed" zN ["_law_script","_law_turn"]):FnOk P w K mg base fM 2 D.f D.fd ["_law_script","_law_turn"]^Tg K:=by
 refine D.F.ok IC (λu H Q E h=>?_)^λJ A outer s H u Q E x h=>?_
 .obtain⟨a,c,k,rfl,_⟩:=h
  rfl
 let⟨a,c,k,rfl,r,y,q⟩:=h;have d:=IC.nd
 refine#[_,aG (ck (i:=2) d rfl (Or.inl rfl) aX)
  (aG (kO FS rfl (om rfl B.range^ah (eS (Jn rfl) rfl B.max boot_max^ah aX^ah (eS (Jo rfl) rfl B.min boot_min^ah aX^ah (eS c5 rfl B.len adE^ah (pv 0) aB) aB) aB) aB) (cH (i:=3) d rfl^Or.inl rfl)
   (aG (ck (i:=4) d rfl (Or.inl rfl)^di rG (di rH (di i7 (di i7 (di i7 (di rG (bM (AY C) x rfl C.m C.F.kp C.b .nil cT^ah (pv 0)^ah (pv 3) aB) aX)^di rH aX^pv 3)^di rH aX^pv 1) aX) aX) aX)
    (bo^ck (i:=2) d rfl (Or.inl rfl)^di i7 (di rH (pv 2) aX)^di rG (di rH (pv 4)^pv 4) aX)))
  (bo^iB^pv 2)),?_]
 exists _,rfl,a,_,rfl, .inl r,_,_,rfl,_,_,rfl,_,rfl;have z:(c.map V.int).length=c.length:=aI _;rw[z]
 have G:(if (if (c.length:Int)<63 then(c.length:Int) else 63)>12 then(if (c.length:Int)<63 then(c.length:Int) else 63) else 12)<=63/\0<=(if (if (c.length:Int)<63 then(c.length:Int) else 63)>12 then(if (c.length:Int)<63 then(c.length:Int) else 63) else(12:Int)):=by
  repeat' split
  all_goals lia
 generalize (if (if (c.length:Int)<63 then(c.length:Int) else 63)>12 then(if (c.length:Int)<63 then(c.length:Int) else 63) else(12:Int))=n at G;refine#[(),(),nU (λi g j=>∃num l o,g= [some^.ref a,some^.int k,some^.int num,l,o]/\aC H j) #[_,_,_,rfl,aC.refl _] (λi g j L p=>?_)^λg j p=>?_]
 .obtain⟨num,l,o,rfl,e⟩:=p
  have M:(0:Int)+(i:Int)=(i:Int):=()
  refine#[_,rfl,_,rfl,a,c,_,rfl,e.seq r,y,(),(),λv N I=>?_]
  refine#[_,_,rfl,rfl,(by show(0:Int)<2147483647;decide),?_]
  refine#[_,rfl,_,_,rfl,rfl, .inl #[∅,∅],_,_,rfl,rfl,?_]
  refine#[_,rfl,_,_,rfl,rfl, .inl #[∅,∅],_,_,rfl,rfl,_,_,rfl,rfl,?_]
  refine#[_,_,rfl,rfl, .inr #[∅,∅],_,_,rfl,rfl,(by show(0:Int)<2147483647;decide),?_]
  generalize t:((v%2147483647+40692*(0+(i:Int))+7*k+1)*48271)%2147483647=part;have O:0<=part:=by rw[<-t];exact aeI _ ∅
  have R:part<2147483647:=by rw[<-t];exact GD _ ∅
  refine#[_,rfl,_,_,rfl,rfl, .inr #[∅,∅],?_]
  refine#[_,rfl,_,rfl,_,_,rfl,rfl, .inl #[(),()],_,_,rfl,rfl,(by show(0:Int)<2147483629;decide),_,_,rfl,rfl,?_]
  exact#[_,_,_,rfl,e.trans I]
 .obtain⟨num,l,o,rfl,e⟩:=p
  exact#[_,rfl,q _ _ e]
def Ox(K:ad):Sp:=λe H Q _=>∃(a:Addr)(d:List Int)(k:Int),e= [.ref a, .int k]/\aK K H a^d.map V.int/\d.length<=63/\0<=k/\k<=100/\
 ∀(r:Addr)(b:List Int)(c:Hp),aC H c->H r=none->c r\(.lst^b.map V.int)->b≠ []->b.length<=2->Q (.ref r) c
def Oq:aH ["_law_script","_law_at"] ["_law_script","_law_at"]^aq Bg:=by bv_omega
def Kw(B:B7 mg)(C:bP K mg "_law_cell" Bf ["_law_script","_law_k"])(M:bP K mg "_law_mixed" zN ["_law_script","_law_turn"])(D:bP K mg "_law_digits" Bg ["_law_script","_law_at"]):FnOk P w K mg base fM 3 D.f D.fd ["_law_script","_law_at"]^Ox K:=by
 refine D.F.ok Oq (λz H Q E h=>?_)^λL A outer s H z Q E j h=>?_
 .obtain⟨a,c,k,rfl,_⟩:=h
  rfl
 let⟨a,c,k,rfl,l,n,t,u,q⟩:=h;have x:=(AY (P:=P) (w:=w) (base:=base) C).mono (show 1<=2 by decide)
 have y:=NZ (P:=P) (w:=w) (base:=base) B C M
 refine#[_,aG (A7 (jR Kz (bM x j rfl C.m C.F.kp C.b .nil cT^ah (pv 0)^ah (pv 1) aB) (di Vv aX aX)^bJ _)
   (bo^iB^gn^ah (bM y j rfl M.m M.F.kp M.b .nil cT^ah (pv 0)^ah (pv 1) aB) aB) qj)
  (bo^iB^gn^ah (bM x j rfl C.m C.F.kp C.b .nil cT^ah (pv 0)^ah (pv 1) aB)^ah (bM y j rfl M.m M.F.kp M.b .nil cT^ah (pv 0)^ah (pv 1) aB) aB),?_]
 refine#[_,rfl,_,rfl,a,c,k,rfl,l,n,t,u,λv N d=>?_];refine#[_,_,rfl,rfl,#[∅,∅,∅],_,_,rfl,rfl,_,rfl,?_]
 refine yA (λ_=>?_)^λ_=>?_
 .refine#[_,rfl,_,rfl,a,c,k,rfl,d.seq l,n,λp G o=>?_]
  refine#[by show 1<=sizeLine;decide,λr e=>?_]
  have g:=d.trans o;exact q r [p] _ (g.trans^aA e _) (g.free e) af (by simp)^by simp
 .refine#[_,rfl,_,rfl,a,c,k,rfl,d.seq l,n,t,u,λp G o=>?_]
  refine#[_,rfl,_,rfl,a,c,k,rfl,(d.trans o).seq l,n,λI O J=>?_];refine#[by show 2<=sizeLine;decide,λr e=>?_]
  have i:=(d.trans o).trans J;exact q r [p,I] _ (i.trans^aA e _) (i.free e) af (by simp)^by simp
def V8:Sp:=λc H Q _=>∃(l:Addr)(a:List Int)(m:Int),c= [.ref l, .int m]/\H l\(.lst^a.map V.int)/\a≠ []/\a.length<=1000/\0<m/\m<1073741824/\
 ∀(d:Int)(b:List Int),0<=d->d<m->b≠ []->b.length<=a.length->Q (.int d)^upd H l^.lst^b.map V.int
def My:aH ["_law_left","_law_many","_law_digit"] ["_law_left","_law_many"]^aq xY:=by bv_omega
def vO(B:B7 mg)(D:bP K mg "_law_take" xY ["_law_left","_law_many"]):FnOk P w K mg base fM 1 D.f D.fd ["_law_left","_law_many"] V8:=by
 refine D.F.ok My (λy H Q E h=>?_)^λO A outer s H y Q E R h=>?_
 .obtain⟨a,g,k,rfl,_⟩:=h
  rfl
 let⟨l,g,m,rfl,d,C,S,o,G,q⟩:=h;have I:=My.nd
 refine#[_,aG (A7 (PW.pt^FT (jR Kz (dh bU (pv 0) aX^λ_ _=>rfl) aX^bJ _)^Ba^jR Kx (eS c5 rfl B.len adE^ah (pv 0) aB) aX^bJ _)
   (bo^dY^i9 KB PySem.F.slot_list_pop PySem.F.type_list_pop NS (pv 0)^ah aX aB) qj)
  (aG (ck (i:=2) I rfl (Or.inl rfl)^di rG (dh bU (pv 0) aX^λ_ _=>rfl)^pv 1)
  (aG (rP (di Ic (dh bU (pv 0) aX^λ_ _=>rfl)^pv 1)^FP (pv 0) aX set_list)
  (bo^iB^pv 2))),?_]
 have fin:∀(b:List Int),b≠ []->b.length<=g.length->∀e,e=H\/e=upd H l^.lst^b.map V.int->e l\(.lst^b.map V.int)->
   (Tu (MF (Ga (rI (λ_ j=>0<j) λi j=>V.int (i%j)) (Ga (Mr K) (yP 0)^tC^.int 0)^yP 1)^Am 2)^Tu (MF (Ga (rI OM λi j=>V.int (i / j)) (Ga (Mr K) (yP 0)^tC^.int 0)^yP 1)^WY (yP 0) (tC^.int 0) SG)^XO^yP 2)
    {nx:=λ_ J=>Q .aS J,rt:=Q} (start ["_law_left","_law_many","_law_digit"] [.ref l, .int m]) e:=by
  intro b p L e t u
  obtain⟨x,r,rfl⟩:∃x r,b=x::r:=by
   cases b with
   |nil=>exact absurd rfl p
   |cons x r=>exact#[x,r,rfl]
  exists _,rfl,l,_,0, .int x,rfl,rfl,aK.of u,c8 (j:=0) rfl,_,rfl,_,_,rfl,rfl,o;exists _,rfl,l,_,0, .int x,rfl,rfl,aK.of u,c8 (j:=0) rfl,_,rfl,_,_,rfl,rfl,#[o,G];refine#[_,rfl,l,_,0,0,rfl,rfl,u,?_,?_]
  .show pB (r.length+1|>λn=>((x::r).map V.int).length) 0\0
   unfold pB;rw[ir ∅,ir^by simp]
   rfl
  .refine#[_,rfl,?_]
   have M:upd e l^.lst^((x::r).map V.int).set 0^.int (x / m)=upd H l^.lst^((x / m)::r).map V.int:=by
    rcases t with z|z
    .rw[z];rfl
    .rw[z,wy];rfl
   rw[M];exact q (x%m) ((x / m)::r) (aeI _ ()) (GD _ o) (by simp)^~~~L
 obtain⟨x,r,rfl⟩:∃x r,g=x::r:=by
  cases g with
  |nil=>exact absurd rfl C
  |cons x r=>exact#[x,r,rfl]
 exists _,rfl,l,_,0, .int x,rfl,rfl,aK.of d,c8 (j:=0) rfl,_,_,rfl,rfl,_,rfl;refine yA (λ_=>?_)^λ_=>?_
 .refine#[_,rfl,l,_,rfl, .inl^aK.of d,_,_,rfl,rfl,_,rfl,?_]
  refine yA (λc=>?_)^λ_=>?_
  .have N:=KF c
   have v:r≠ []:=by
    intro z;subst z;simp at N
   refine#[_,rfl, .inl #[rfl,_,aK.of d],l,_,0,0, .int x,rfl,rfl,d,∅,∅,?_,rfl,?_]
   .simp[seqIndex?]
   .exact fin r v (by simp) _ (.inr rfl) af
  .exact fin (x::r) (by simp) (aZ _) _ (.inl rfl) d
 .exact cO^fin (x::r) (by simp) (aZ _) _ (.inl rfl) d
end
open Wb
abbrev K7:Stmt:=top 39
noncomputable def bg(r:List Nat):List V:=r.map λ(n:Nat)=>V.int (n:Int)
def Off(S:List Addr)(H a:Hp):Prop:=∀b o,b∉S->H b\o->a b\o
def Off.trans{S:List Addr}{H d e:Hp}(a:Off S H d)(b:Off S d e):Off S H e:=λc o f h=>b c o f^a c o f h
def Off.of_same{S:List Addr}{H a:Hp}(h:aC H a):Off S H a:=λb o _ e=>h b o e
def Off.put{S:List Addr}(h:a∈S\/H a=none):Off S H^upd H a o:=λb u c e=>by
 rw[ag^λz=>?_]
 .exact e
 .rcases h with h|h
  .rw[z] at c;exact c h
  .rw[z,h] at e;cases e
structure aM (H:Hp) (T:Addr) (as:List Addr) (w:W):Prop where
 top:H T\(.lst^as.map V.ref)
 nod:as.Nodup
 nT:T∉as
 len:as.length=w.length
 row:∀(i:Nat) a,as[i]?\a->H a\(.lst^bg^Wb.row w i)
def aM.keep{T:Addr}(R:aM H T c w)(h:∀b,b=T\/b∈c->d b=H b):aM d T c w:=
 #[by rw[h T^.inl rfl];exact R.top,R.nod,R.nT,R.len,λi a e=>by rw[h a^.inr^cU e];exact R.row i a e]
def aM.off{S:List Addr}(R:aM H T b w)(h:Off S H c)(d:T∉S)(f:∀a∈b,a∉S):aM c T b w:=
 #[h _ _ d R.top,R.nod,R.nT,R.len,λi a e=>h _ _ (f a^cU e)^R.row i a e]
def aM.at{H:Hp}{T:Addr}{b:List Addr}{w:W}(R:aM H T b w)(c:p<w.length):∃a,b[p]?\a/\H a\(.lst^bg^Wb.row w p):=by
 have:p<b.length:=by rw[R.len];exact c
 exact#[_,bA this,R.row p _^bA this]
def get_inj{b:Type}{l:List b}(h:l.Nodup){i j:Nat}{a:b}(c:l[i]?\a)(d:l[j]?\a):i=j:=by
 let⟨g,e⟩:=cD.mp c;let⟨k,f⟩:=cD.mp d;exact(afj h).mp^e.trans f.symm
def aM.put{d:List Addr}(R:aM H T d w)(f:d[p]?\a)(h:∀b,b=T\/b∈d->b≠a->g b=H b)(e:g a\(.lst^bg r)):aM g T d^w.set p r:=by
 have k:p<w.length:=by rw[<-R.len];exact(cD.mp f).1
 have l:=cU f;refine#[by rw[h T (.inl rfl)^λz=>R.nT^by rw[z];exact l];exact R.top,R.nod,R.nT,by rw[R.len,iU],λi b c=>?_]
 rw[iw k]
 by_cases j:p=i
 .subst j
  rw[f] at c;cases c;rw[ir rfl];exact e
 .rw[mo j,h b (.inr^cU c)^λz=>j^get_inj R.nod f^by rw[<-z];exact c]
  exact R.row i b c
def aM.snoc(R:aM H T c w){r:List Nat}(j:a∉c)(k:a≠T)(h:∀b,b∈c->f b=H b)(l:f T\(.lst^(c++ [a]).map V.ref))(e:f a\(.lst^bg r)):aM f T (c++ [a]) (w++ [r]):=by
 refine#[l,?_,λz=>?_,by simp[R.len],λi b d=>?_]
 .rw[cQ]
  exact#[R.nod,by simp,λx g y m z=>by
   have:y=a:=by simpa using m
   rw[this] at z;rw[z] at g;exact j g]
 .rcases bF.mp z with z|z
  .exact R.nT z
  .have n:T=a:=by simpa using z
   exact k n.symm
 .rw[Ej]
  by_cases o:i<c.length
  .rw[iR o] at d
   rw[mo^by rw[<-R.len];lia,h b^cU d]
   exact R.row i b d
  .have p:i=c.length:=by
    have:=(cD.mp d).1
    simp at this;lia
   subst p;rw[jg^aZ _] at d;simp at d;rw[ir R.len,<-d];exact e
def cx(r:List Nat):(bg r).length=r.length:=aI _
def rT(r:List Nat)(i n:Nat):bg^ins r i n=ins (bg r) i^.int (n:Int):=ins_map _ _ _ _
def Wa:Sp:=λf H Q _=>∃(l:Addr)(c:List Int)(m:Nat),f= [.int (m:Int), .ref l]/\H l\(.lst^c.map V.int)/\c≠ []/\c.length<=2/\1<=m/\m<=14/\
 ∀(T:Addr)(e:List Addr)(w:W)(d:List Int)(b:Hp),Off [l] H b->H T=none->(∀a∈e,H a=none)->aM b T e w->Good w->w.length=m->b l\(.lst^d.map V.int)->d≠ []->d.length<=2->fR w+2=2*m->(2<=w.length->Fc w 1)->Q (.ref T) b
section
variable {P:Program} {w:World} {K:ad} {mg:Str->Option Value} {base:Heap}
def Mz:aH ["_law_many","_law_left","_law_turns","_law_new","_law_p"] ["_law_many","_law_left"]^aq K7:=by bv_omega
def RU(B:B7 mg)(Tk:bP K mg "_law_take" xY ["_law_left","_law_many"])(D:bP K mg "_law_tree" K7 ["_law_many","_law_left"]):FnOk P w K mg base fM 2 D.f D.fd ["_law_many","_law_left"] Wa:=by
 refine D.F.ok Mz (λvs H Q E h=>?_) (λaV A outer s H vs Q E hr h=>?_)
 .obtain⟨a,ns,k,rfl,_⟩:=h
  rfl
 obtain⟨l,ns,m,rfl,N,jO,hz,h1,h14,q⟩:=h;have X:=Mz.nd;have gT:=vO (P:=P) (w:=w) (base:=base) B Tk
 refine#[_,aG (ck (i:=2) X rfl (Or.inl rfl) (gn (ah (gn aB) aB)))
  (aG (kO FS rfl (KH rfl B.range (ah aX (ah (pv 0) aB))) (cH (i:=3) X rfl (Or.inl rfl))
   (aG (ck (i:=4) X rfl (Or.inl rfl) (bM gT hr rfl Tk.m Tk.F.kp Tk.b .nil cT (ah (pv 1) (ah (pv 3) aB))))
   (aG (dY (i9 KB adO adP oh (dh bU (pv 2) (pv 4) (λ_ _=>rfl))
     (ah (bM gT hr rfl Tk.m Tk.F.kp Tk.b .nil cT (ah (pv 1) (ah (di i7 (eS c5 rfl B.len adE (ah (dh bU (pv 2) (pv 4) (λ_ _=>rfl)) aB)) aX) aB))) (ah (pv 3) aB))))
   (bo (dY (i9 KB ad6 ad7 lF (pv 2) (ah (gn (ah (pv 4) aB)) aB)))))))
  (bo (iB (pv 2)))),?_]
 refine#[by show 0<=sizeLine;decide,λG Y=>#[by show 1<=sizeLine;decide,λT I=>?_]]
 have Z:T≠G:=λz=>by rw[z,af] at I;cases I
 have YY:H T=none:=by rw[ag Z] at I;exact I
 have O:l≠T:=ao N YY;have nl0:l≠G:=ao N Y;refine#[_,rfl,1,(m:Int),rfl,#[∅,∅,(),()],?_]
 refine nU (λi σ u=>∃n w x o3 o4,σ= [some (.int (m:Int)),some (.ref l),some (.ref T),o3,o4]/\Off [l] H u/\(∀a∈n,H a=none)/\aM u T n w/\Good w/\w.length=i+1/\u l\(.lst (x.map V.int))/\x≠ []/\x.length<=2/\fR w=2*i/\(2<=w.length->Fc w 1)) ?_ (λi σ u hi hP=>?_) (λσ u hP=>?_)
 .refine#[[G],[[]],ns,_,_,rfl,(Off.put (.inr Y)).trans (Off.put (.inr I)),λa v=>?_,#[af,by simp,by simpa using Z,rfl,λi a e=>?_],Np,rfl,?_,jO,hz,rfl,λz=>absurd z ∅]
  .have:a=G:=by simpa using v
   rw[this];exact Y
  .cases i with
   |zero=>
    have:a=G:=by simpa using e.symm
    rw[this,ag (Ne.symm Z),af];rfl
   |succ i=>simp at e
  .rw[ag O,ag nl0];exact N
 .obtain⟨n,t,x,o3,o4,rfl,off,J,R,g,L,Cv,QR,J8,hdg,Zc⟩:=hP
  have ng:l∉n:=λz=>by have:=J l z;rw[N] at this;cases this
  refine#[_,rfl,_,rfl,l,x,_,rfl,Cv,QR,(),(),(),λd pR d0 d1 sH NJ=>?_]
  have R1:aM (upd u l (.lst (pR.map V.int))) T n t:=R.keep λb c=>by
   refine ag λz=>?_
   rcases c with c|c
   .exact O (z.symm.trans c)
   .rw[z] at c;exact ng c
  obtain⟨p,rfl⟩:=wG d0;have S:p<t.length:=()
  obtain⟨a,v,jP⟩:=R1.at S;have Vh:l≠a:=λz=>ng (by rw[z];exact cU v)
  have wO:h8 (n.map V.ref) ((p:Nat):Int)\(.ref a):=c8 (by rw[cL,v];rfl)
  exists _,rfl,_,rfl,T,_,_,_,rfl,rfl,aK.of R1.top,wO, .inl #[rfl,_,aK.of jP];exists _,rfl,_,rfl,_,rfl,T,_,_,_,rfl,rfl,aK.of R1.top,wO,a,_,rfl, .inl (aK.of jP),_,_,rfl,rfl;have rl:=fH g p;rw[cx];refine#[l,pR,_,rfl,af,sH,(by lia),(by lia),(by lia),λd2 nO e0 e1 yw Q7=>?_]
  rw[wy]
  have R2:aM (upd u l (.lst (nO.map V.int))) T n t:=R.keep λb c=>by
   refine ag λz=>?_
   rcases c with c|c
   .exact O (z.symm.trans c)
   .rw[z] at c;exact ng c
  have J4:=R2.row p a v;refine#[_,rfl,a,_,d2,_,rfl,rfl,J4,e0,by rw[cx];lia,nI (by rw[cx];exact rl) (bL ()),?_]
  obtain⟨j,rfl⟩:=wG e0;have ew:(1:Int)+(i:Int)=((t.length:Nat):Int):=()
  rw[ew,lP,<-rT];have y:aM (upd (upd u l (.lst (nO.map V.int))) a (.lst (bg (ins (row t p) j t.length)))) T n (t.set p (ins (row t p) j t.length)):=R2.put v (λb _ c=>ag c) af;refine#[_,rfl, .inl #[rfl,_,aK.of y.top],_,rfl,by show 1<=sizeLine;decide,λr C=>?_]
  have Z4:r≠T:=Ne.symm (ao y.top C)
  have RE:r∉n:=λz=>by
   obtain⟨k,hk⟩:=jw z
   have:=y.row k r hk
   rw[C] at this;cases this
  have Z6:r≠l:=λz=>by
   rw[z,ag Vh,af] at C;cases C
  refine#[T,_, .ref r,rfl,rfl,by rw[ag (Ne.symm Z4)];exact y.top,nI (by rw[aI,y.len,iU];exact aZ _) (bL ()),?_]
  have M:H r=none:=by
   cases e:H r with
   |none=>rfl
   |some o=>
    have:=off r o (~~~Z6) e
    rw[ag (λz=>RE (by rw[z];exact cU v)),ag Z6] at C
    rw[C] at this;cases this
  have haH:H a=none:=J a (cU v);refine#[n++ [r],leaf t p j,nO,_,_,rfl,?_,λb c=>?_,?_,Ap g S,by rw[rk];lia,?_,yw,(),by rw[M9 S];lia,λ_=>Ng g S () Zc]
  .intro b o c e
   have hbl:b≠l:=by simpa using c
   rw[ag (λz=>by rw[z,YY] at e;cases e),ag (λz=>by rw[z,M] at e;cases e),ag (λz=>by rw[z,haH] at e;cases e),ag hbl]
   exact off b o c e
  .rcases bF.mp c with z|z
   .exact J b z
   .have:b=r:=by simpa using z
    rw[this];exact M
  .refine y.snoc (r:= [p]) RE Z4 (λb c=>?_) ?_ ?_
   .rw[ag (λz=>y.nT (by rw[<-z];exact c)),ag (λz=>RE (by rw[<-z];exact c))]
   .rw[af,dk];rfl
   .rw[ag Z4,af];rfl
  .rw[ag O,ag (Ne.symm Z6),ag Vh,af]
 .obtain⟨n,t,x,o3,o4,rfl,off,J,R,g,L,Cv,QR,J8,hdg,Zc⟩:=hP
  exact#[_,rfl,q T n t x u off YY J R g () Cv QR J8 () Zc]
end
abbrev Bh:Stmt:=top 40
abbrev zO:Stmt:=top 41
def jI{r:List Nat}{i n:Nat}(h:r[i]?\n):(bg r)[i]?\(.int (n:Int)):=by unfold bg;rw[cL,h];rfl
def ou(r:List Nat):(bg r).all iG=true:=by
 rw[aeo];intro x a;obtain⟨n,_,rfl⟩:=bR.mp a;rfl
def xV{r:List Nat}{i:Nat}{z:V}(h:(bg r)[i]?\z):∃n,r[i]?\n/\z= .int (n:Int):=by
 unfold bg at h;rw[cL] at h;cases e:r[i]? with
 |none=>rw[e] at h;cases h
 |some n=>rw[e] at h;cases h;exact#[n,rfl,rfl]
def uW{r:List Nat}{p:Nat}(h:p∈r):r[r.idxOf p]?\p:=by
 have lt:=sV.mpr h;rw[bA lt,qQ lt]
def UW{r:List Nat}(a:r.Nodup){p m n:Nat}(h:p∈r)(b:m<r.idxOf p)(e:r[m]?\n):n≠p:=λz=>by
 rw[z] at e
 have:=get_inj a e^uW h
 lia
def qZ(p:Nat):tD (.int (p:Int))^.int (p:Int)=true:=by simp[tD]
def tQ{r:List Nat}(a:r.Nodup){p:Nat}(h:p∈r)(m:Nat)(z:V)(b:m<r.idxOf p)(c:(bg r)[m]?\z):tD z^.int (p:Int)=false:=by
 let⟨n,d,rfl⟩:=xV c
 have:=UW a h b d
 simp[tD];lia
def F2:Sp:=λb H Q _=>∃(T a:Addr)(c:List Addr)(w:W)(d:Nat×Nat),b= [.ref T, .ref a]/\aM H T c w/\Good w/\w.length<=14/\H a\(.tup^i8 d)/\ax w d/\
 ∀t,H t=none->Q (.ref t)^upd H t^.tup^i8^bq w d
section
variable {P:Program} {w:World} {K:ad} {mg:Str->Option Value} {base:Heap}
def Mx:aH ["_law_turns","_law_side","_law_p","_law_q"] ["_law_turns","_law_side"]^aq Bh:=by bv_omega
def RT(B:B7 mg)(D:bP K mg "_law_next" Bh ["_law_turns","_law_side"]):FnOk P w K mg base fM 1 D.f D.fd ["_law_turns","_law_side"] F2:=by
 refine D.F.ok Mx (λu H Q E h=>?_)^λG A outer s H u Q E I h=>?_
 .obtain⟨T,l,m,w,d,rfl,_⟩:=h
  rfl
 obtain⟨T,l,m,c,⟨p,b⟩,rfl,R,g,h14,v,n,q⟩:=h;have o:=Mx.nd
 refine#[_,aG (rP (pv 1)^rN rfl^f9 (cH (i:=2) o rfl^Or.inl rfl)^f9 (cH (i:=3) o rfl^Or.inl rfl) nv)
  (bo^iB^zM^ah (pv 3)^ah (dh bU (dh bU (pv 0) (pv 3)^λ_ _=>rfl)
   (di rG (di i7 (i9 KB adR adS rB (dh bU (pv 0) (pv 3)^λ_ _=>rfl)^ah (pv 2) aB) aX)
    (eS c5 rfl B.len adE^ah (dh bU (pv 0) (pv 3)^λ_ _=>rfl) aB))^λ_ _=>rfl) aB),?_]
 have e:p∈row c b:=g.sym _ _ n;have x:b<c.length:=g.rng _ _ n;let⟨a,y,j⟩:=R.at x;have k:h8 (m.map V.ref) ((b:Nat):Int)\(.ref a):=c8^by rw[cL,y];rfl
 have r:0<(row c b).length:=jh e;exists _,rfl,l,_,rfl,fW.of v,rfl,_,_,rfl,_,_,rfl,rfl;exists _,rfl,_,rfl,_,rfl,T,_,_,_,rfl,rfl,aK.of R.top,k;exists _,rfl,_,rfl,T,_,_,_,rfl,rfl,aK.of R.top,k, .inl #[rfl,_,aK.of j],_,rfl;exists a,_,_,(row c b).idxOf p,_,rfl,rfl,j,rfl,ou _,jI^uW e,qZ p,tQ (g.nod _) e;exists _,_,rfl,rfl,_,rfl,_,rfl,T,_,_,_,rfl,rfl,aK.of R.top,k,a,_,rfl, .inl^aK.of j,_,_,rfl,rfl;rw[cx];refine#[(),?_]
 have em:((((row c b).idxOf p:Nat):Int)+1)%((row c b).length:Int)=((((row c b).idxOf p+1)%(row c b).length:Nat):Int):=by rw[afv,Int.natCast_add];rfl
 have z:h8 (bg^row c b) (((((row c b).idxOf p:Nat):Int)+1)%((row c b).length:Int))\(.int (aO (row c b) p:Nat)):=by
  rw[em];exact c8^jI^lO e
 refine#[a,_,_,_,rfl,rfl,aK.of j,z,by show 2<=sizeLine;decide,λt C=>?_]
 exact q t C
def Bp:Sp:=λc H Q _=>∃(T b:Addr)(f:List Addr)(w:W)(d:Nat×Nat),c= [.ref T, .ref b]/\aM H T f w/\Good w/\w.length<=14/\H b\(.tup^i8 d)/\ax w d/\
 ∀(F:Addr)(L:List (Addr×(Nat×Nat)))(k:Nat)(a:Hp),aC H a->H F=none->a F\(.lst (L.map λe=>V.ref e.1))->se a L->L.map (·.2)=walk w d k->0<k->br w k d=d->(∀j,0<j->j<k->br w j d≠d)->Q (.ref F) a
def ID:aH ["_law_turns","_law_side","_law_found","_law_here"] ["_law_turns","_law_side"]^aq zO:=by bv_omega
def Hi{K:ad}(h:H a\(.tup^i8 d)):Dp K H (.ref a)^oX d:= .tup (fW.of h)^.cons (.int _)^.cons (.int _) .nil
def N0(B:B7 mg)(r:bP K mg "_law_next" Bh ["_law_turns","_law_side"])(D:bP K mg "_law_round" zO ["_law_turns","_law_side"]):FnOk P w K mg base fM 2 D.f D.fd ["_law_turns","_law_side"] Bp:=by
 refine D.F.ok ID (λvs H Q E h=>?_)^λaV A outer s H vs Q E Z h=>?_
 .obtain⟨T,p,x,w,d,rfl,_⟩:=h
  rfl
 let⟨T,p,x,l,d,rfl,R,g,h14,J,hd,q⟩:=h;have nd:=ID.nd;have gN:=RT (P:=P) (w:=w) (base:=base) B r
 refine#[_,aG (ck (i:=2) nd rfl (Or.inl rfl)^gn^ah (pv 1) aB)
  (aG (ck (i:=3) nd rfl (Or.inl rfl)^bM gN Z rfl r.m r.F.kp r.b .nil cT^ah (pv 0)^ah (pv 1) aB)
  (aG (Ed FS (jR (FL Z.units) (pv 3) (pv 1)^bJ _)
   (aG (dY^i9 KB ad6 ad7 lF (pv 2)^ah (pv 3) aB)
    (bo^ck (i:=3) nd rfl (Or.inl rfl)^bM gN Z rfl r.m r.F.kp r.b .nil cT^ah (pv 0)^ah (pv 3) aB)))
  (bo^iB^pv 2))),?_]
 refine#[_,rfl,by show 1<=sizeLine;decide,λF C=>?_]
 have M:aC H^upd H F^.lst [.ref p]:=aA C _;have R1:aM (upd H F^.lst [.ref p]) T x l:=R.off (S:= []) (Off.of_same M) (by simp)^by simp
 refine#[_,rfl,_,rfl,T,p,x,l,d,rfl,R1,g,h14,M _ _ J,hd,λt N=>?_];have dl:=gB g;have hw:l.length*l.length<=196:=qK h14 h14
 refine OJ (λO n=>∃(k:Nat)(L:List (Addr×(Nat×Nat)))(t:Addr),O= [some^.ref T,some^.ref p,some^.ref F,some^.ref t]/\0<k/\L.map (·.2)=walk l d k/\(∀j,0<j->j<k->br l j d≠d)/\aC H n/\n F\(.lst (L.map λe=>V.ref e.1))/\se n L/\n t\(.tup^i8^br l k d))
  (λO n=>(aQ l).length+1-(match n F with|some^.lst xs=>xs.length|_=>0)) ?_ (λO n hP=>?_)^λO H Q Q' hq h=>?_
 .have nFt:F≠t:=λz=>by rw[<-z,af] at N;cases N
  have nsF:p≠F:=ao J C;refine#[1,[(p,d)],t,rfl,(),rfl,λj h1 h2=>by lia,M.trans^aA N _,by rw[ag nFt];exact af,λe he=>?_,af]
  have w9:e=(p,d):=by simpa using he
  rw[w9];exact(M.trans^aA N _) _ _ J
 .obtain⟨k,L,t,rfl,hk,hL,Fj,sm,u,Ma,v⟩:=hP
  refine#[_,rfl,_,rfl,_,_,Hi v,Hi^sm _ _ J,by have:=yo^br l k d;lia,_,rfl,?_]
  refine yA (λc=>?_)^λc=>?_
  .have jO:br l k d≠d:=λz=>by
    rw[(Dw _ _).mpr z] at c;cases c
   have W6:∀j,0<j->j<k+1->br l j d≠d:=λj h1 h2=>by
    by_cases hj:j=k
    .rw[hj];exact jO
    .exact Fj j h1 ()
   have UL:=qG g hd W6;have lL:L.length=k:=by have:=IR cI hL;rw[aI,eV] at this;exact this
   refine#[_,rfl, .inl #[rfl,_,aK.of u],_,rfl,F,_, .ref t,rfl,rfl,u,nI (by rw[aI,lL];exact aZ _)^bL (),?_]
   have nFH:H F=none:=C;have V2:aC H^upd n F^.lst ((L.map λe=>V.ref e.1)++ [.ref t]):=λb o e=>by rw[ag^ao e C];exact sm b o e
   have R2:aM (upd n F^.lst ((L.map λe=>V.ref e.1)++ [.ref t])) T x l:=R.off (S:= []) (Off.of_same V2) (by simp)^by simp
   have G:t≠F:=λz=>by rw[z,u] at v;cases v
   refine#[_,rfl,_,rfl,T,t,x,l,br l k d,rfl,R2,g,h14,by rw[ag G];exact v,fE g hd k,λX I=>?_]
   have RF:X≠F:=λz=>by rw[z,af] at I;cases I
   have Vk:n X=none:=by rw[ag RF] at I;exact I
   refine#[#[k+1,L++ [(t,br l k d)],X,rfl,(),?_,W6,V2.trans^aA I _,?_,λe he=>?_,af],?_]
   .rw[dk,hL,t9];rfl
   .rw[ag^Ne.symm RF,af,dk];rfl
   .rcases bF.mp he with z|z
    .have Y:=Ma e z
     rw[ag^ao Y Vk,ag^λy=>by rw[y,u] at Y;cases Y]
     exact Y
    .have z':e=(t,br l k d):=by simpa using z
     rw[z'];show upd _ X _ t=_;rw[ag^ao v Vk,ag G];exact v
   .show(aQ l).length+1-_<(aQ l).length+1-_
    rw[ag^Ne.symm RF,af,u];simp only[dJ,aI,GB];lia
  .have heq:br l k d=d:=by
    apply FM;intro z;apply c
    have:PyData.eqv (oX^br l k d)^oX d=false:=by
     cases y:PyData.eqv (oX^br l k d)^oX d with
     |false=>rfl
     |true=>exact absurd ((Dw _ _).mp y) z
    rw[this];rfl
   exact#[_,rfl,q F L k n sm C u Ma hL hk heq Fj]
 .obtain⟨v1,e1,v2,e2,d',e',a,b,c,k,ek,q⟩:=h
  exact#[v1,e1,v2,e2,d',e',a,b,c,k,ek,hq _ _ q]
end
end ED
namespace L2
open PySem
theorem LY:∀{M:List (Addr×(Nat×Nat))},se H M->DpAll K H (M.map λe=>V.ref e.1) (M.map λe=>oX e.2)
 | [],_=> .nil
 |e::M,h=> .cons (.tup (fW.of^h e cF)^.cons (.int _)^.cons (.int _) .nil) (LY λx a=>h x^dS _ a)
end L2
namespace ED
open PySem L2 Wb
def Qk{i:Nat}{x:V}{a:St}{H:Hp}{P R:St->Hp->Prop}(h:P (a.set i^some x) H):Am i x a H (λc e=>XQ c e^λb d=>if b=true then P c d else R c d):=by
 show(if true=true then P (a.set i^some x) H else R (a.set i^some x) H);rw[ir rfl];exact h
abbrev Bi:Stmt:=top 42
theorem VX(g:Good w)(j:2<=w.length)(f:p<w.length):row w p≠ []:=by
 intro z
 have c:∃q,q<w.length/\q≠p:=by
  by_cases h:p=0
  .exact#[1,(),()]
  .exact#[0,(),λy=>h y.symm]
 let⟨q,c,ne⟩:=c;have r:=((g.con p f).symm g.sym).trans^g.con q c
 have:∀{a b},Reach w a b->a=p->b=p:=λ {a b} h=>by
  induction h with
  |refl=>exact id
  |step _ d i=>
   intro e
   have:=i e
   rw[this,z] at d;cases d
 exact ne^this r rfl
structure X3 (H:Hp) (w:W) (S:Addr) (L:List (Addr×(Nat×Nat))):Prop where
 at':H S\(.lst (L.map λe=>V.ref e.1))
 prs:se H L
 dart:∀e∈L,ax w e.2
 few:L.length<=196
def aao:Sp:=λg H Q _=>∃(T l:Addr)(b:Bool)(c:List Addr)(w:W)(e:List Int),g= [.ref T, .ref l, .bl b]/\aM H T c w/\Good w/\2<=w.length/\w.length<=14/\H l\(.lst^e.map V.int)/\e≠ []/\e.length<=2/\l≠T/\l∉c/\
 ∀(a:W)(f:List Int)(d:Hp),Off (l::c) H d->aM d T c a->Good a->a.length=w.length->d l\(.lst^f.map V.int)->f≠ []->f.length<=2->fR a<=fR w+2->O3 b w a->Q .aS d
section
variable {P:Program} {w:World} {K:ad} {mg:Str->Option Value} {base:Heap}
def SV:aH ["_law_turns","_law_left","_law_plane_here","_law_p","_law_r","_law_sides","_law_q","_law_turn","_law_u","_law_v"] ["_law_turns","_law_left","_law_plane_here"]^aq Bi:=by bv_omega
theorem Vq(B:B7 mg)(Tk:bP K mg "_law_take" xY ["_law_left","_law_many"])(Nx:bP K mg "_law_next" Bh ["_law_turns","_law_side"])(Rd:bP K mg "_law_round" zO ["_law_turns","_law_side"])
  (D:bP K mg "_law_tie" Bi ["_law_turns","_law_left","_law_plane_here"]):FnOk P w K mg base fM 3 D.f D.fd ["_law_turns","_law_left","_law_plane_here"] aao:=by
 refine D.F.ok SV (λvs H Q E h=>?_)^λaV A outer s H vs Q E hr h=>?_
 .obtain⟨T,l,b,J,w,ns,rfl,_⟩:=h
  rfl
 obtain⟨T,l,b,J,C,ns,rfl,R,g,h2,h14,hl,jO,hz,zp,ng,q⟩:=h;have nd:=SV.nd;have gT:=(vO (P:=P) (w:=w) (base:=base) B Tk).mono (show 1<=2 by decide)
 have gR:=N0 (P:=P) (w:=w) (base:=base) B Nx Rd;have ac2:C.length*C.length<=196:=qK h14 h14;have zo:(["_law_side","_law_p","_law_turns"]:List eg).Nodup:=by decide+kernel
 obtain⟨tE,pE,rE⟩:∃t,kF (lh fM P w K mg base ["_law_turns","_law_left","_law_plane_here","_law_p","_law_r","_law_sides","_law_q","_law_turn","_law_u","_law_v"] "_law_tie" (aq Bi) D.f aV A outer s H E).mJ ((dB Bi).drop 4) t/\
   ∀(p r:Nat)(S:Addr)(L:List (Addr×(Nat×Nat)))(ds:List Int)(o6 o7:Option V)(O:Hp),Off (l::J) H O->aM O T J C->p<C.length->r∈row C p->X3 O C S L->(b=true->∃r1,dm C (p,r) r1/\∀e∈L,e.2∈r1)->O l\(.lst^ds.map V.int)->ds≠ []->ds.length<=2->S≠l->S≠T->S∉J->
    t {nx:=λ_ H'=>Q .aS H',rt:=Q} [some^.ref T,some^.ref l,some^.bl b,some^.int (p:Int),some^.int (r:Int),some^.ref S,o6,o7,none,none] O:=by
  refine#[_,aG (nz (i:=5) (NC:= ["_law_side","_law_p","_law_turns"]) (src:= [none,some 3,some 0]) rfl nd rfl (Or.inl rfl) (bD.of (aq Bi) rfl rfl (by decide+kernel) (by decide+kernel)^by decide+kernel) #[rfl,rfl,rfl,rfl,trivial] (lG^pv 5)
    (λ_ _ _=>cH (i:=0) zo rfl^Or.inl rfl) (λ_ _ _=>Il^PW.pt^FT (jR aac (dh (HM (K:=K)) (pv 0) aX^λ_ _=>rfl) (pv 1)^bJ _)^Ba^jR (KA (K:=K)) (dh (HM (K:=K)) (pv 0) aX^λ_ _=>rfl) (dh (DV (K:=K)) (pv 2) (pv 1)^λ_ _=>rfl) rfl) (λ_ _ _=>pv 0) rfl)
   (bo^A7 (jR (FL hr.units) (pv 5) (gn aB)^bJ _)
    (aG (rP (dh bU (pv 5) (bM gT hr rfl Tk.m Tk.F.kp Tk.b .nil cT^ah (pv 1)^ah (eS c5 rfl B.len adE^ah (pv 5) aB) aB)^λ_ _=>rfl)^rN rfl^f9 (cH (i:=8) nd rfl^Or.inl rfl)^f9 (cH (i:=9) nd rfl^Or.inl rfl) nv)
    (aG (dY^i9 KB adO adP oh (dh bU (pv 0) (pv 3)^λ_ _=>rfl)^ah (i9 KB adR adS rB (dh bU (pv 0) (pv 3)^λ_ _=>rfl)^ah (pv 4) aB)^ah (pv 8) aB)
    (bo^dY^i9 KB adO adP oh (dh bU (pv 0) (pv 8)^λ_ _=>rfl)^ah (i9 KB adR adS rB (dh bU (pv 0) (pv 8)^λ_ _=>rfl)^ah (pv 9) aB)^ah (pv 3) aB))) qj),?_]
  intro p r S L ds o6 o7 O off R1 hp Cz Z hbr xg sH NJ nSl nST Xk;obtain⟨a,ha,jP⟩:=R1.at hp;have wO:h8 (J.map V.ref) ((p:Nat):Int)\(.ref a):=c8^by rw[cL,ha];rfl
  refine#[_,rfl,S,rfl,#[_,aK.of Z.at'],λG hD=>?_];have Ve:S≠G:=ao Z.at' hD;refine Fu (L.map λe=>V.ref e.1).length (λi lT Y=>∃(M:List (Addr×(Nat×Nat)))(o:Option V),lT= [o,some^.int (p:Int),some^.ref T]/\Y=upd O G^.lst (M.map λe=>V.ref e.1)/\(∀e∈M,e∈L/\e.2.1≠p/\e.2.1∉row C p)/\M.length<=i) ?_ ?_ ?_ ?_ ?_
  .exact#[[],none,rfl,rfl,(λe I=>by cases I),aZ _]
  .rintro i lT Y hi ⟨M,o,rfl,rfl,_,_⟩
   exact#[_,_,aK.of^by rw[ag Ve];exact Z.at',bA hi]
  .rintro i lT Y hi ⟨M,o,rfl,rfl,_,_⟩
   exact#[_,aK.of^by rw[ag Ve];exact Z.at',hi]
  .rintro i x lT Y H3 hi ⟨M,o,rfl,rfl,hM,YQ⟩ ⟨rfl,hx⟩
   have uV:=hx _^aK.of^by rw[ag Ve];exact Z.at'
   have ij:i<L.length:=by simpa using hi
   rw[cL,bA ij] at uV;have ex:x= .ref (L[i]).1:=(Fk uV).symm;subst ex;have hm:L[i]∈L:=iT ij
   have DM:upd O G (.lst (M.map λe=>V.ref e.1)) (L[i]).1\(.tup^i8 (L[i]).2):=by
    have:=Z.prs _ hm
    rw[ag^ao this hD];exact this
   have nDT:T≠G:=ao R1.top hD;have nDa:a≠G:=ao jP hD;exists _,rfl,(L[i]).1,_,0,_,rfl,rfl,fW.of DM,c8 (j:=0) rfl,_,rfl,rfl,_,rfl;refine yA (λc=>?_)^λc=>?_
   .refine#[_,rfl,(L[i]).1,_,0,_,rfl,rfl,fW.of DM,c8 (j:=0) rfl,?_]
    refine#[_,rfl,_,rfl,T,_,_,_,rfl,rfl,aK.of^by rw[ag nDT];exact R1.top,wO,a,_,rfl, .inl^aK.of^by rw[ag nDa];exact jP,rfl,ou _,_,rfl,?_]
    refine yA (λc2=>?_)^λc2=>?_
    .refine#[_,rfl,_,af,nI (by rw[aI];exact YQ)^bL^by have:=Z.few;lia,M++ [L[i]],_,rfl,?_,λe I=>?_,by simp;lia]
     .rw[wy,dk];rfl
     .rcases bF.mp I with z|z
      .exact hM e z
      .have z':e=L[i]:=by simpa using z
       rw[z'];refine#[hm,λy=>?_,λy=>?_]
       .rw[show V.int ((L[i]).2.1:Int)=V.int (p:Int) by rw[y]] at c
        simp at c
       .have:J9 (V.int ((L[i]).2.1:Int))^bg^row C p=true:=by
         unfold J9;rw[BU];exact#[_,bR.mpr #[_,y,rfl],qZ _]
        have c3:(!J9 (V.int ((L[i]).2.1:Int))^bg^row C p)=true:=c2;rw[this] at c3;cases c3
    .exact#[M,_,rfl,rfl,hM,()]
   .exact cO #[M,_,rfl,rfl,hM,()]
  .rintro lT Y ⟨M,o,rfl,rfl,hM,YQ⟩
   have nDl:l≠G:=ao xg hD;have nDT:T≠G:=ao R1.top hD;have few:=Z.few;rw[aI] at YQ
   have acf:se (upd O G^.lst (M.map λe=>V.ref e.1)) M:=λe I=>by
    have:=Z.prs e (hM e I).1
    rw[ag^ao this hD];exact this
   refine#[_,rfl,by show 0<=sizeLine;decide,λe1 E7=>?_]
   have n1D:e1≠G:=λz=>by rw[z,af] at E7;cases E7
   have La:aC (upd O G^.lst (M.map λe=>V.ref e.1))^upd (upd O G^.lst (M.map λe=>V.ref e.1)) e1^.lst []:=aA E7 _;have Xw:se (upd (upd O G^.lst (M.map λe=>V.ref e.1)) e1^.lst []) M:=λe I=>La _ _^acf e I;have YL:upd (upd O G^.lst (M.map λe=>V.ref e.1)) e1 (.lst []) G\(.lst (M.map λe=>V.ref e.1)):=La _ _ af;have Xt:Off (l::J) H^upd (upd O G^.lst (M.map λe=>V.ref e.1)) e1^.lst []:=off.trans^(Off.put^.inr hD).trans^Off.put^.inr E7;have Q2:aC O^upd (upd O G^.lst (M.map λe=>V.ref e.1)) e1^.lst []:=(aA hD _).trans La;have R3:aM (upd (upd O G^.lst (M.map λe=>V.ref e.1)) e1^.lst []) T J C:=R1.off (S:= []) (Off.of_same Q2) (by simp)^by simp
   have NF:=Q2 _ _ xg;refine#[_,_, .lst (aK.of YL)^LY Xw, .lst (aK.of af) .nil,?_,_,rfl,?_]
   .rw[PyData.depth]
    have:=mF (f:=λe:Addr×(Nat×Nat)=>oX e.2) (k:=2) (λe=>yo e.2) M
    lia
   generalize hH3:upd (upd O G^.lst (M.map λe=>V.ref e.1)) e1^.lst []=H3 at*;refine yA (λc=>?_)^λc=>?_
   .have hM0:0<M.length:=by
     cases M with
     |nil=>simp[PyData.eqv,PyData.eqvAll] at c
     |cons _ _=>simp
    exists _,rfl,_,rfl,_,rfl,G,_,rfl, .inl^aK.of YL;rw[aI];refine#[l,ds,_,rfl,NF,sH,(),(),(),λdI nO d0 d1 yw Q7=>?_]
    obtain⟨d,rfl⟩:=wG d0;have hd:d<M.length:=()
    have nlD:G≠l:=λz=>nDl z.symm;have abn:upd H3 l (.lst^nO.map V.int) G\(.lst (M.map λe=>V.ref e.1)):=by rw[ag nlD];exact YL
    obtain⟨hmL,HD,hun⟩:=hM _^iT hd;have p6:=Z.dart _ hmL;have DM:=Xw _^iT hd;have ntl:(M[d]).1≠l:=λz=>by rw[z,NF] at DM;cases DM
    refine#[G,_,_, .ref (M[d]).1,rfl,rfl,aK.of abn,c8^by rw[cL,bA hd];rfl,?_]
    refine#[(M[d]).1,_,rfl,fW.of^by rw[ag ntl];exact DM,rfl,_,_,rfl,_,_,rfl,rfl,?_]
    generalize M[d]=me at*;obtain⟨at0,u,v⟩:=me;dsimp only at*;have hu:u<C.length:=bZ p6
    have X:aM (upd H3 l^.lst^nO.map V.int) T J C:=R3.keep λb N=>by
     refine ag λz=>?_
     rcases N with N|N
     .exact zp^z.symm.trans N
     .rw[z] at N;exact ng N
    have Fm:=X.row p a ha;have rlp:=fH g p;have rlu:=fH g u;have ZM:=sV.mpr Cz;have jlt:(row C u).idxOf v<(row C u).length:=sV.mpr p6;exists _,rfl,_,rfl,T,_,_,_,rfl,rfl,aK.of X.top,wO, .inl #[rfl,_,aK.of Fm];exists _,rfl,_,rfl,T,_,_,_,rfl,rfl,aK.of X.top,wO, .inl #[rfl,_,aK.of Fm],_,rfl;exists a,_,_,(row C p).idxOf r,_,rfl,rfl,Fm,rfl,ou _,jI^uW Cz,qZ r,tQ (g.nod _) Cz;refine#[_,rfl,a,_,_,_,rfl,rfl,Fm,(),by rw[cx];lia,nI (by rw[cx];exact rlp)^bL (),?_]
    rw[lP,<-rT];have R5:aM (upd (upd H3 l^.lst^nO.map V.int) a^.lst^bg^ins (row C p) ((row C p).idxOf r) u) T J^C.set p^ins (row C p) ((row C p).idxOf r) u:=X.put ha (λb _ N=>ag N) af;obtain⟨a2,Qy,_⟩:=X.at hu;have qb:=R5.row u a2 Qy;rw[iw hp,mo^Ne.symm HD] at qb;have at2:h8 (J.map V.ref) ((u:Nat):Int)\(.ref a2):=c8^by rw[cL,Qy];rfl
    exists _,rfl,_,rfl,T,_,_,_,rfl,rfl,aK.of R5.top,at2, .inl #[rfl,_,aK.of qb];exists _,rfl,_,rfl,T,_,_,_,rfl,rfl,aK.of R5.top,at2, .inl #[rfl,_,aK.of qb],_,rfl;exists a2,_,_,(row C u).idxOf v,_,rfl,rfl,qb,rfl,ou _,jI^uW p6,qZ v,tQ (g.nod _) p6;refine#[_,rfl,a2,_,_,_,rfl,rfl,qb,(),by rw[cx];lia,nI (by rw[cx];exact rlu)^bL (),?_]
    rw[lP,<-rT];have R6:aM (upd (upd (upd H3 l^.lst^nO.map V.int) a^.lst^bg^ins (row C p) ((row C p).idxOf r) u) a2^.lst^bg^ins (row C u) ((row C u).idxOf v) p) T J^mS C p ((row C p).idxOf r) u^(row C u).idxOf v:=R5.put Qy (λb _ N=>ag N) af;have Vh:l≠a:=λz=>ng^by rw[z];exact cU ha
    have ab4:l≠a2:=λz=>ng^by rw[z];exact cU Qy
    refine q _ nO _ ?_ R6 (DK g hp hu HD hun) (wx _ _ _ _ _) ?_ yw () (by rw[Hh hp hu HD];exact aZ _)^.inr #[p,r,u,v,Cz,p6,HD,hun,λN=>let #[r1,X0,hm]:=hbr N;#[r1,X0,hm _ hmL],rfl]
    .exact Xt.trans^(Off.put^.inl cF).trans^(Off.put^.inl^dS _^cU ha).trans^Off.put^.inl^dS _^cU Qy
    .rw[ag ab4,ag Vh,af]
   .exact q C ds _ Xt R3 g rfl NF sH NJ ()^.inl rfl
 have FE:(["_law_s","_law_q"]:List eg).Nodup:=by decide+kernel
 refine#[_,aG (ck (i:=3) nd rfl (Or.inr rfl)^bM gT hr rfl Tk.m Tk.F.kp Tk.b .nil cT^ah (pv 1)^ah (eS c5 rfl B.len adE^ah (pv 0) aB) aB)
  (aG (ck (i:=4) nd rfl (Or.inl rfl)^dh bU (dh bU (pv 0) (pv 3)^λ_ _=>rfl) (bM gT hr rfl Tk.m Tk.F.kp Tk.b .nil cT^ah (pv 1)^ah (eS c5 rfl B.len adE^ah (dh bU (pv 0) (pv 3)^λ_ _=>rfl) aB) aB)^λ_ _=>rfl)
  (aG (ck (i:=5) nd rfl (Or.inl rfl)^bM gR hr rfl Rd.m Rd.F.kp Rd.b .nil cT^ah (pv 0)^ah (zM^ah (pv 3)^ah (pv 4) aB) aB)
  (aG (A7 (Mp^VN^pv 2)
   (aG (ck (i:=5) nd rfl (Or.inl rfl)^gn aB)
   (bo^kO FS rfl (A4 rfl B.enumerate^ah (pv 0) aB) (rN rfl^f9 (cH (i:=6) nd rfl^Or.inr rfl)^f9 (cH (i:=7) nd rfl^Or.inl rfl) nv)
    (bo^dY^i9 KB PySem.F.slot_list_extend PySem.F.type_list_extend Kq (pv 5)^ah (Si (NC:= ["_law_s","_law_q"]) (src:= [none,some 6]) rfl (bD.of (aq Bi) rfl rfl (by decide+kernel) (by decide+kernel)^by decide+kernel) #[rfl,rfl,trivial] (lG^pv 7)
     (λ_ _ _=>cH (i:=0) FE rfl^Or.inl rfl) (λ_ _ _=>vU)^λ_ _ _=>zM^ah (pv 1)^ah (pv 0) aB) aB))) qj) pE))),?_]
 have Qu:H T=_:=R.top;have lmap:(J.map V.ref).length=C.length:=by rw[aI,R.len]
 refine#[_,rfl,_,rfl,T,_,rfl, .inl^aK.of R.top,l,ns,_,rfl,hl,jO,(),(),(),λdI pR d0 d1 sH NJ=>?_]
 obtain⟨p,rfl⟩:=wG d0;have hp:p<C.length:=()
 have keep:∀(o:HO),aM (upd H l o) T J C:=λo=>R.keep λb N=>by
  refine ag λz=>?_
  rcases N with N|N
  .exact zp^z.symm.trans N
  .rw[z] at N;exact ng N
 have R1:=keep^.lst^pR.map V.int;obtain⟨a,ha,jP⟩:=R1.at hp;have wO:h8 (J.map V.ref) ((p:Nat):Int)\(.ref a):=c8^by rw[cL,ha];rfl
 have rne:=VX g h2 hp;have adk:0<(row C p).length:=EB.mpr rne;have rl:=fH g p;have rvl:=cx^row C p;exists _,rfl,_,rfl,T,_,_,_,rfl,rfl,aK.of R1.top,wO;refine#[_,rfl,_,rfl,_,rfl,T,_,_,_,rfl,rfl,aK.of R1.top,wO,a,_,rfl, .inl^aK.of jP,l,pR,_,rfl,af,sH,(by lia),(by lia),(by lia),λdI2 nO e0 e1 yw Q7=>?_]
 rw[wy];obtain⟨j,rfl⟩:=wG e0;have hj:j<(row C p).length:=()
 have R2:=keep^.lst^nO.map V.int;have J4:=R2.row p a ha;exists a,_,_,_,rfl,rfl,aK.of J4,c8^jI^bA hj;have Cz:(row C p)[j]∈row C p:=iT hj;generalize (row C p)[j]=r at Cz;have Xs:Off (l::J) H^upd H l^.lst^nO.map V.int:=Off.put^.inl cF;have uU:upd H l (.lst^nO.map V.int) l\(.lst^nO.map V.int):=af;generalize upd H l^.lst^nO.map V.int=H2 at R2 Xs uU;refine#[_,rfl,_,rfl,_,rfl,by show 2<=sizeLine;decide,λZ HC=>?_]
 have ss:=aA HC^.tup [V.int (p:Int),V.int (r:Int)];have R3:aM (upd H2 Z^.tup [V.int (p:Int),V.int (r:Int)]) T J C:=R2.off (S:= []) (Off.of_same ss) (by simp)^by simp
 refine#[T,Z,J,C,(p,r),rfl,R3,g,h14,af,Cz,λF L k H4 sm4 Nt hF Ma hL hk hit Fj=>?_];have Ta:aC H2 H4:=ss.trans sm4;have X:aM H4 T J C:=R2.off (S:= []) (Off.of_same Ta) (by simp)^by simp
 have Zl:=Ta _ _ uU;have Xu:Off (l::J) H H4:=Xs.trans^Off.of_same Ta;have p6:ax C (p,r):=Cz;have kd:=qG g p6 Fj;have dl:=gB g;have XX:∀e∈L,ax C e.2:=λe I=>oI g p6 (k:=k) e.2^by rw[<-hL];exact bR.mpr #[e,I,rfl]
 have ac3:L.length=k:=by have:=IR cI hL;rw[aI,eV] at this;exact this
 have nFl:F≠l:=λz=>by rw[z,ss _ _ uU] at Nt;cases Nt
 have nFT:F≠T:=λz=>by rw[z,R3.top] at Nt;cases Nt
 have abY:F∉J:=λz=>by
  obtain⟨i,hi⟩:=jw z;rw[R3.row i F hi] at Nt;cases Nt
 refine#[_,rfl,_,rfl,yA (λcB=>?_)^λ_=>?_]
 .
  refine#[by show 0<=sizeLine;decide,λS hS=>?_]
  have nSl:S≠l:=λz=>by rw[z,Zl] at hS;cases hS
  have nST:S≠T:=λz=>by rw[z,X.top] at hS;cases hS
  have Xk:S∉J:=λz=>by
   obtain⟨i,hi⟩:=jw z;rw[X.row i S hi] at hS;cases hS
  refine#[_,rfl,T,rfl,#[_,(aA hS _) _ _ X.top],DH (xs:=J.map V.ref) (λi σ H'=>∃(o6 o7:Option V)(L:List (Addr×(Nat×Nat))),σ= [some^.ref T,some^.ref l,some^.bl b,some^.int (p:Int),some^.int (r:Int),some^.ref S,o6,o7,none,none]/\aC H4 H'/\H' S\(.lst (L.map λe=>V.ref e.1))/\se H' L/\(∀e∈L,ax C e.2)/\L.length<=i*14) ?_ ?_ ?_ ?_]
  .exact#[_,_,[],rfl,aA hS _,af,(λe I=>by cases I),(λe I=>by cases I),eB _]
  .rintro i σ H' _ ⟨o6,o7,L,rfl,sm,_⟩
   exact aK.of^sm _ _ X.top
  .rintro i x t σ H5 hx ht ⟨o6,o7,L,rfl,Ot,YS,JY,Y5,QO⟩
   rw[cL] at hx;obtain⟨ai,Ny,rfl⟩:=aei.mp hx;have hi:i<C.length:=by rw[<-X.len];exact(cD.mp Ny).1
   exists t,_,rfl,fW.of af,rfl,_,_,rfl,_,_,rfl,rfl;have s6:=aA ht^.tup [V.int (i:Int),V.ref ai];generalize upd H5 t^.tup [V.int (i:Int),V.ref ai]=H6 at s6;have Fn:=s6 _ _^Ot _ _^X.row i ai Ny;have YT:=s6 _ _ YS;have rli:=fH g i;refine#[_,rfl, .inl #[rfl,_,aK.of YT],_,rfl,ai,rfl,#[_,aK.of Fn],λG hD=>?_];have Ve:S≠G:=ao YT hD;refine Fu (bg^row C i).length (λj lT Y=>∃(o:Option V)(M:List (Addr×(Nat×Nat))),lT= [o,some^.int (i:Int)]/\aC H6 Y/\Y G\(.lst (M.map λe=>V.ref e.1))/\se Y M/\(∀e∈M,ax C e.2)/\M.length<=j) ?_ ?_ ?_ ?_ ?_
   .exact#[none,[],rfl,aA hD _,af,(λe I=>by cases I),(λe I=>by cases I),aZ _]
   .rintro j lT Y hj ⟨o,M,rfl,CP,_⟩
    exact#[_,_,aK.of^CP _ _ Fn,bA hj]
   .rintro j lT Y hj ⟨o,M,rfl,CP,_⟩
    exact#[_,aK.of^CP _ _ Fn,hj]
   .rintro j x lT Y H7 hj ⟨o,M,rfl,CP,hM,JZ,Y7,Zn⟩ ⟨rfl,hx⟩
    obtain⟨n,hn,rfl⟩:=xV^hx _^aK.of^CP _ _ Fn;refine Qk ?_;refine#[_,rfl,_,rfl,by show 2<=sizeLine;decide,λtt CB=>?_]
    have s8:=aA CB^.tup [V.int (i:Int),V.int (n:Int)];have W8:upd H7 tt (.tup [V.int (i:Int),V.int (n:Int)]) tt\(.tup^i8 (i,n)):=af;generalize upd H7 tt^.tup [V.int (i:Int),V.int (n:Int)]=H8 at s8 W8;have ntD:tt≠G:=λz=>by rw[z,hM] at CB;cases CB
    refine#[_,s8 _ _ hM,nI (by rw[aI];exact Zn)^bL^by rw[cx] at hj;lia,_,M++ [(tt,(i,n))],rfl,λb u eb=>?_,?_,λe I=>?_,λe I=>?_,by simp;lia]
    .rw[ag^ao eb hD];exact s8 _ _^CP _ _ eb
    .rw[af,dk];rfl
    .rcases bF.mp I with z|z
     .have:=JZ e z
      rw[ag^λy=>by rw[y,hM] at this;cases this]
      exact s8 _ _ this
     .have z':e=(tt,(i,n)):=by simpa using z
      rw[z',ag ntD];exact W8
    .rcases bF.mp I with z|z
     .exact Y7 e z
     .have z':e=(tt,(i,n)):=by simpa using z
      rw[z'];exact cU hn
   .rintro lT Y ⟨o,M,rfl,CP,hM,JZ,Y7,Zn⟩
    rw[cx] at Zn;have hSc:=CP _ _ YT;refine#[S,G,_,_,rfl,rfl,hSc,hM,small^by simp;lia,?_]
    refine#[_,_,L++M,rfl,λb u eb=>?_,?_,λe I=>?_,λe I=>?_,by simp;lia]
    .rw[ag^ao eb hS];exact CP _ _^s6 _ _^Ot _ _ eb
    .rw[af,dk]
    .have hh:Y e.1\(.tup^i8 e.2):=by
      rcases bF.mp I with z|z
      .exact CP _ _^s6 _ _^JY e z
      .exact JZ e z
     rw[ag^λy=>by rw[y,hSc] at hh;cases hh];exact hh
    .rcases bF.mp I with z|z
     .exact Y5 e z
     .exact Y7 e z
  .rintro σ H5 ⟨o6,o7,L,rfl,Ot,YS,JY,Y5,QO⟩
   rw[aI,X.len] at QO;exact rE p r S L nO o6 o7 H5 (Xu.trans^Off.of_same Ot) (X.off (S:= []) (Off.of_same Ot) (by simp)^by simp) hp Cz #[YS,JY,Y5,()] (λN=>by rw[N] at cB;cases cB) (Ot _ _ Zl) yw () nSl nST Xk
 .exact rE p r F L nO none none H4 Xu X hp Cz #[hF,Ma,XX,()] (λ_=>#[_,#[k,hk,hit,Fj,rfl],λe I=>by rw[<-hL];exact bR.mpr #[e,I,rfl]]) Zl yw () nFl nFT abY
end
abbrev IB:Stmt:=top 43
def aM.acn(R:aM H T d w)(n:k<w.length)(o:a∉d)(l:a≠T)(h:∀b,b∈d->g b=H b)(p:g T\(.lst^(d.set k a).map V.ref))
  (e:g a\(.lst^bg r)):aM g T (d.set k a)^w.set k r:=by
 have q:k<d.length:=by rw[R.len];exact n
 refine#[p,?_,λz=>?_,by rw[iU,iU];exact R.len,λi b f=>?_]
 .unfold cP
  rw[BY];intro i j c m lt;rw[iU] at c m;rw[List.getElem_set,List.getElem_set];have s:=BY.mp R.nod
  split
  .split
   .lia
   .intro z;exact o^by rw[z];exact iT m
  .split
   .intro z;exact o^by rw[<-z];exact iT c
   .exact s i j c m lt
 .rcases afi z with z|z
  .exact R.nT z
  .exact l z.symm
 .rw[iw n]
  rw[pb] at f
  by_cases c:k=i
  .rw[ir c,ir q] at f
   cases f;rw[ir c];exact e
  .rw[mo c] at f
   rw[mo c,h b^cU f];exact R.row i b f
def Rj(h:k<n):pB n (k:Int)\k:=by
 unfold pB;rw[ir (),ir (),lP]
def Ua(a:List V)(b:Nat):ju a (some (b:Int)) none=a.drop b:=by
 unfold ju;rw[HT.IA,HT.El]
 by_cases h:b<=a.length
 .rw[afE h,sW^by rw[ji];exact aZ _]
 .rw[Nat.min_eq_right (),BZ^aZ _,BZ ()];simp
def T9(a:List V)(b:Nat):ju a none^some (b:Int)=a.take b:=by
 unfold ju;rw[HT.IA,HT.El,List.drop_zero,Nat.sub_zero]
 by_cases h:b<=a.length
 .rw[afE h]
 .rw[Nat.min_eq_right (),sW^aZ _,sW ()]
def K4(r:List Nat)(b:Nat):(bg r).take b=bg^r.take b:=by unfold bg;rw[yg]
def K3(r:List Nat)(b:Nat):(bg r).drop b=bg^r.drop b:=by unfold bg;rw[ael]
def Om(r s:List Nat):bg r++bg s=bg (r++s):=by unfold bg;rw[dk]
def Ol(l:List a)(b:Nat):(l.drop b++l.take b).Perm l:=by
 have:=(wI (l₁:=l.drop b) (l₂:=l.take b))
 rwa [gL] at this
structure Ord (ord:List Nat) (n:Nat):Prop where
 pm:ord.Perm^aj n
def Ord.len(o:Ord ord n):ord.length=n:=by rw[o.pm.length_eq,jx]
def Ord.get(o:Ord ord n)(h:p<n):ord[p]?\(ord.getD p 0):=by
 rw[bO,bA^by rw[o.len];exact h];rfl
def Ord.into(o:Ord ord n)(h:p<n):ord.getD p 0<n:=d9.mp^o.pm.mem_iff.mp^cU^o.get h
def Ord.inj(o:Ord ord n)(b:p<n)(c:q<n)(e:ord.getD p 0=ord.getD q 0):p=q:=by
 have d:ord.Nodup:=o.pm.nodup_iff.mpr uD;have a:=o.get b;rw[e] at a;exact get_inj d a^o.get c
def Ord.sur(o:Ord ord n)(h:y<n):∃p,p<n/\ord.getD p 0=y:=by
 have:=o.pm.mem_iff.mpr^d9.mpr h
 let⟨p,a⟩:=jw this;have lt:=(cD.mp a).1;rw[o.len] at lt
 have:=o.get lt
 rw[a] at this;exact#[p,lt,(Fk this).symm]
structure X2 (H:Hp) (T:Addr) (as:List Addr) (w:W):Prop where
 top:H T\(.lst^as.map V.ref)
 len:as.length=w.length
 row:∀(i:Nat) a,as[i]?\a->H a\(.lst^bg^Wb.row w i)
def aan:Sp:=λg H Q _=>∃(T O l:Addr)(f:List Addr)(w:W)(ord:List Nat)(d:List Int),g= [.ref T, .ref O, .ref l]/\X2 H T f w/\Good w/\w.length<=14/\H O\(.lst^bg ord)/\Ord ord w.length/\H l\(.lst^d.map V.int)/\d≠ []/\d.length<=2/\l≠T/\l∉f/\l≠O/\
 ∀(F:Addr)(fs:List Addr)(c:W)(e:Hp),Off [l] H e->H F=none->(∀a∈fs,H a=none)->aM e F fs c->Good c->c.length=w.length->fR c=fR w->(∀p,p<w.length->∃b,row c^ord.getD p 0=((row w p).map λx=>ord.getD x 0).drop b++((row w p).map λx=>ord.getD x 0).take b)->Q (.ref F) e
section
variable {P:Program} {w:World} {K:ad} {mg:Str->Option Value} {base:Heap}
def SU:aH ["_law_turns","_law_order","_law_left","_law_found","_law_p","_law_turn","_law_begin","_law_names"] ["_law_turns","_law_order","_law_left"]^aq IB:=by bv_omega
def Vp(B:B7 mg)(Tk:bP K mg "_law_take" xY ["_law_left","_law_many"])(D:bP K mg "_law_renamed" IB ["_law_turns","_law_order","_law_left"]):FnOk P w K mg base fM 2 D.f D.fd ["_law_turns","_law_order","_law_left"] aan:=by
 refine D.F.ok SU (λvs H Q E h=>?_)^λaV A outer s H vs Q E hr h=>?_
 .obtain⟨T,O,l,as,w,ord,ns,rfl,_⟩:=h
  rfl
 let⟨T,O,l,as,c,ord,ns,rfl,R,g,h14,hO,Y,hl,jO,hz,zp,ng,nlO,q⟩:=h;have nd:=SU.nd;have CK:(["_law_turn"]:List eg).Nodup:=by decide+kernel
 have zo:(["_law_q","_law_order"]:List eg).Nodup:=by decide+kernel
 have gT:=vO (P:=P) (w:=w) (base:=base) B Tk
 refine#[_,aG (nz (i:=3) (NC:= ["_law_turn"]) (src:= [none]) rfl nd rfl (Or.inl rfl) (bD.of (aq IB) rfl rfl (by decide+kernel) (by decide+kernel)^by decide+kernel) trivial (lG^pv 0)
    (λ_ _ _=>cH (i:=0) CK rfl^Or.inl rfl) (λ_ _ _=>vU) (λ_ _ _=>gn aB) rfl)
  (aG (kO FS rfl (A4 rfl B.enumerate^ah (pv 0) aB) (rN rfl^f9 (cH (i:=4) nd rfl^Or.inl rfl)^f9 (cH (i:=5) nd rfl^Or.inl rfl) nv)
   (aG (ck (i:=6) nd rfl (Or.inl rfl)^bM gT hr rfl Tk.m Tk.F.kp Tk.b .nil cT^ah (pv 2)^ah (di i7 (eS c5 rfl B.len adE^ah (pv 5) aB) aX) aB)
   (aG (nz (i:=7) (NC:= ["_law_q","_law_order"]) (src:= [none,some 1]) rfl nd rfl (Or.inl rfl) (bD.of (aq IB) rfl rfl (by decide+kernel) (by decide+kernel)^by decide+kernel) #[rfl,rfl,trivial] (lG^pv 5)
    (λ_ _ _=>cH (i:=0) zo rfl^Or.inl rfl) (λ_ _ _=>vU) (λ_ _ _=>dh (DV (K:=K)) (pv 1) (pv 0)^λ_ _=>rfl) rfl)
   (bo^rP (di FK (rL wg (pv 7) (qi^pv 6) A6)^rL wg (pv 7) A6^qi^pv 6)^FP (pv 3) (dh bU (pv 1) (pv 4)^λ_ _=>rfl) set_list))))
  (bo^iB^pv 3)),?_]
 refine#[_,rfl,T,rfl,#[_,aK.of R.top],λF hF=>?_];refine Fu (as.map V.ref).length (λi G C=>∃(o:Option V)(fs:List Addr),G= [o]/\aC H C/\C F\(.lst^fs.map V.ref)/\fs.Nodup/\F∉fs/\(∀a∈fs,H a=none/\C a\(.lst []))/\fs.length=i) ?_ ?_ ?_ ?_ ?_
 .exact#[none,[],rfl,aA hF _,af,iV,(by simp),(λa ha=>by cases ha),rfl]
 .rintro i G C N ⟨o,fs,rfl,d,_⟩
  exact#[_,_,aK.of^d _ _ R.top,bA N]
 .rintro i G C N ⟨o,fs,rfl,d,_⟩
  exact#[_,aK.of^d _ _ R.top,N]
 .rintro i x G C H3 N ⟨o,fs,rfl,d,hf,nf,nF,fr,hl⟩ ⟨rfl,Z⟩
  rw[aI,R.len] at N;refine Qk ?_;refine#[by show 0<=sizeLine;decide,λr fk=>?_]
  have Z3:r≠F:=λz=>by rw[z,hf] at fk;cases fk
  have Xq:r∉fs:=λz=>by rw[(fr r z).2] at fk;cases fk
  refine#[_,by rw[ag^Ne.symm Z3];exact hf,bL^by simp;lia,_,fs++ [r],rfl,λb u X=>?_,?_,?_,?_,λa ha=>?_,by simp[hl]]
  .rw[ag^ao X hF,ag^ao (d _ _ X) fk];exact d _ _ X
  .rw[af,dk];rfl
  .rw[cQ]
   exact#[nf,by simp,λx Z y hy z=>by
    have:y=r:=by simpa using hy
    rw[this] at z;rw[z] at Z;exact Xq Z]
  .intro z
   rcases bF.mp z with z|z
   .exact nF z
   .have:F=r:=by simpa using z
    exact Z3 this.symm
  .rcases bF.mp ha with z|z
   .refine#[(fr a z).1,?_]
    rw[ag^λy=>nF^by rw[<-y];exact z,ag^λy=>Xq^by rw[<-y];exact z]
    exact(fr a z).2
   .have:a=r:=by simpa using z
    rw[this];exact#[d.free fk,by rw[ag Z3,af]]
 rintro G H1 ⟨o,fs0,rfl,La,hF1,nf0,nF0,Qf,ND⟩;rw[aI,R.len] at ND;have xg:=La _ _ hl;have Z1:l≠F:=λz=>by rw[z,hF] at hl;cases hl
 have R1:aM H1 F fs0^b5 c.length []:=by
  refine#[hF1,nf0,nF0,by rw[ND,yW],λi a e=>?_]
  have hz:row (b5 c.length []) i= []:=by
   unfold row;rw[bO,yU]
   split<;>rfl
  rw[hz];exact(Qf a^cU e).2
 refine#[_,rfl,T,rfl,#[_,La _ _ R.top],DH (xs:=as.map V.ref) (λi σ H'=>∃(o4 o5 o6 o7:Option V)(fs:List Addr)(I:W)(ds:List Int),σ= [some^.ref T,some^.ref O,some^.ref l,some^.ref F,o4,o5,o6,o7]/\Off [l] H H'/\aM H' F fs I/\(∀a∈fs,H a=none)/\I.length=c.length/\
   (∀p,p<i->∃b,row I^ord.getD p 0=((row c p).map λx=>ord.getD x 0).drop b++((row c p).map λx=>ord.getD x 0).take b)/\H' l\(.lst^ds.map V.int)/\ds≠ []/\ds.length<=2) ?_ ?_ ?_ ?_]
 .exact#[_,_,_,_,fs0,_,ns,rfl,Off.of_same La,R1,λa ha=>(Qf a ha).1,yW,(λp J=>by lia),xg,jO,hz]
 .rintro i σ H' _ ⟨o4,o5,o6,o7,fs,I,ds,rfl,off,_⟩
  exact aK.of^off _ _ (~~~Ne.symm zp) R.top
 .rintro i x t σ H5 Z ht ⟨o4,o5,o6,o7,fs,I,ds,rfl,off,R5,tH,ko,Bd,QO,W4,hz5⟩
  rw[cL] at Z;let⟨ai,Ny,rfl⟩:=aei.mp Z;have N:i<c.length:=by rw[<-R.len];exact(cD.mp Ny).1
  have Xo:l≠ai:=λz=>ng^by rw[z];exact cU Ny
  have qb:H5 ai=_:=off _ _ (~~~Ne.symm Xo)^R.row i ai Ny
  have JJ:H5 O=_:=off _ _ (~~~Ne.symm nlO) hO
  exists t,_,rfl,fW.of af,rfl,_,_,rfl,_,_,rfl,rfl;have s6:=aA ht^.tup [V.int (i:Int),V.ref ai];generalize upd H5 t^.tup [V.int (i:Int),V.ref ai]=H6 at s6;have rli:=fH g i;have rvl:=cx^row c i;refine#[_,rfl,_,rfl,ai,_,rfl, .inl^aK.of^s6 _ _ qb,_,_,rfl,rfl,l,ds,_,rfl,s6 _ _ QO,W4,(),(),(),λdI pR d0 d1 sH NJ=>?_]
  let⟨b,rfl⟩:=wG d0;have RO:Off [l] H^upd H6 l^.lst^pR.map V.int:=(off.trans^Off.of_same s6).trans^Off.put^.inl cF;have su:upd H6 l (.lst^pR.map V.int) l\(.lst^pR.map V.int):=af;have ab5:l∉fs:=λz=>by rw[tH l z] at hl;cases hl
  have R7:aM (upd H6 l^.lst^pR.map V.int) F fs I:=(R5.off (S:= []) (Off.of_same s6) (by simp)^by simp).keep λb M=>by
   refine ag λz=>?_
   rcases M with M|M
   .exact Z1^z.symm.trans M
   .rw[z] at M;exact ab5 M
  have Au:upd H6 l (.lst^pR.map V.int) ai\(.lst^bg^row c i):=by rw[ag^Ne.symm Xo];exact s6 _ _ qb
  have Nv:upd H6 l (.lst^pR.map V.int) O\(.lst^bg ord):=by rw[ag^Ne.symm nlO];exact s6 _ _ JJ
  generalize upd H6 l^.lst^pR.map V.int=H7 at RO su R7 Au Nv;refine#[_,rfl,ai,rfl,#[_,aK.of Au],λNm hNm=>?_];refine Fu (bg^row c i).length (λj G C=>∃(o:Option V),G= [o,some^.ref O]/\aC H7 C/\C Nm\(.lst^bg (((row c i).take j).map λx=>ord.getD x 0))) ?_ ?_ ?_ ?_ ?_
  .exact#[none,rfl,aA hNm _,af]
  .rintro j G C hj ⟨o,rfl,d,_⟩
   exact#[_,_,aK.of^d _ _ Au,bA hj]
  .rintro j G C hj ⟨o,rfl,d,_⟩
   exact#[_,aK.of^d _ _ Au,hj]
  .rintro j x G C H8 hj ⟨o,rfl,d,hN⟩ ⟨rfl,Z⟩
   let⟨n,hn,rfl⟩:=xV^Z _^aK.of^d _ _ Au;have Zr:n<c.length:=g.rng _ _^cU hn;refine Qk ?_;exists _,rfl,_,rfl,O,_,_,_,rfl,rfl,aK.of^d _ _ Nv,c8^jI^Y.get Zr;refine#[_,hN,nI (by rw[cx,aI,hV];exact afn _ _)^bL (),_,rfl,λb u X=>?_,?_]
   .rw[ag^ao X hNm];exact d _ _ X
   .obtain⟨cg,hg⟩:=cD.mp hn
    rw[af,aeq cg,hg,dk];unfold bg;rw[dk];rfl
  rintro G H8 ⟨o,rfl,sm8,UC⟩;rw[rvl,y3] at UC;generalize hnm:((row c i).map λx=>ord.getD x 0)=v at UC;have nml:v.length<=14:=by rw[<-hnm,aI];lia
  refine#[_,rfl,_,rfl,_,rfl,Nm,_,rfl,aK.of UC,λc1 hc1=>?_];rw[Ua,K3];have s9:=aA hc1^.lst^bg^v.drop b;have e9:upd H8 c1 (.lst^bg^v.drop b) c1=_:=af;generalize upd H8 c1^.lst^bg^v.drop b=H9 at s9 e9;refine#[_,rfl,_,rfl,_,rfl,Nm,_,rfl,aK.of^s9 _ _ UC,λc2 Cq=>?_];rw[T9,K4];have Be:=aA Cq^.lst^bg^v.take b;have e10:upd H9 c2 (.lst^bg^v.take b) c2=_:=af;generalize upd H9 c2^.lst^bg^v.take b=y8 at Be e10;refine#[c1,c2,_,_,rfl,rfl,Be _ _ e9,e10,small^by rw[cx,cx,ji,hV];lia,λL hc3=>?_]
  rw[Om];have FW:=aA hc3^.lst^bg (v.drop b++v.take b);have e11:upd y8 L (.lst^bg (v.drop b++v.take b)) L=_:=af;have yu:y8 L=none:=hc3;generalize upd y8 L^.lst^bg (v.drop b++v.take b)=B9 at FW e11;have Mw:aC H7 B9:=sm8.trans^s9.trans^Be.trans FW;have Mv:aC H7 y8:=sm8.trans^s9.trans Be;have X1:aM B9 F fs I:=R7.off (S:= []) (Off.of_same Mw) (by simp)^by simp
  have Zs:=Y.into N;have lfs:(fs.map V.ref).length=c.length:=by rw[aI,R7.len,ko]
  refine#[_,rfl,_,rfl,_,rfl,O,_,_,_,rfl,rfl,aK.of^Mw _ _ Nv,c8^jI^Y.get N,F,_,_,ord.getD i 0,rfl,rfl,X1.top,by rw[lfs];exact Rj Zs,?_]
  have Xl:L≠F:=λz=>by rw[z,Mv _ _ R7.top] at yu;cases yu
  have ZZ:L∉fs:=λz=>by
   let⟨k,hk⟩:=jw z;rw[Mv _ _^R7.row k L hk] at yu;cases yu
  have abo:H L=none:=by
   cases e:H L with
   |none=>rfl
   |some u=>
    by_cases z:L=l
    .rw[z,Mv _ _ su] at yu;cases yu
    .rw[Mv _ _^RO _ _ (~~~z) e] at yu;cases yu
  have adi:l≠F:=Z1;refine#[_,_,_,_,fs.set (ord.getD i 0) L,I.set (ord.getD i 0) (v.drop b++v.take b),pR,rfl,?_,?_,λa ha=>?_,by rw[iU];exact ko,λp J=>?_,?_,sH,()]
  .exact λb u M X=>by rw[ag^ao X hF];exact Mw _ _^RO b u M X
  .refine X1.acn (by rw[ko];exact Zs) ZZ Xl (λb M=>ag λz=>X1.nT^by rw[<-z];exact M) ?_ ?_
   .rw[af,List.map_set]
   .rw[ag Xl];exact e11
  .rcases afi ha with z|z
   .exact tH a z
   .rw[z];exact abo
  .rw[iw^by rw[ko];exact Zs]
   by_cases e:p=i
   .subst e
    rw[ir rfl,hnm];exact#[b,rfl]
   .rw[mo^λz=>e^Y.inj () N z.symm]
    exact Bd p ()
  .rw[ag Z1];exact Mw _ _ su
 .rintro σ H5 ⟨o4,o5,o6,o7,fs,I,ds,rfl,off,R5,tH,ko,Bd,QO,W4,hz5⟩
  rw[aI,R.len] at Bd
  have pm5:∀p,p<c.length->(row I^ord.getD p 0).Perm ((row c p).map λx=>ord.getD x 0):=λp J=>by
   let⟨b,e⟩:=Bd p J;rw[e];exact Ol _ b
  exact#[_,rfl,q F fs I H5 off hF tH R5 (Nq g ko (λp J=>Y.into J) (λp q J hq e=>Y.inj J hq e) (λy hy=>Y.sur hy) λp J=>pm5 p J) ko (PJ ko Y.pm λp J=>pm5 p J) Bd]
end
abbrev SS:Stmt:=top 44
def boot_int:bootBuiltins "int"\(.type "int"):=by decide+kernel
def Wd(K:ad):Sp:=λf H Q _=>∃(a:Addr)(e:List Int)(m:Int)(b:Bool),f= [.ref a, .int m, .bl b]/\aK K H a^e.map V.int/\e.length<=63/\1<=m/\m<=14/\
 ∀(F:Addr)(fs:List Addr)(c:W)(d:Hp),aC H d->H F=none->(∀a∈fs,H a=none)->aM d F fs c->Good c->1<=c.length->(c.length:Int)<=m->fR c<=102->Eu b c->Q (.ref F) d
section
variable {P:Program} {w:World} {K:ad} {mg:Str->Option Value} {base:Heap}
def MA:aH ["_law_script","_law_most","_law_plane_here","_law_left","_law_many","_law_turns","_law_order","_law_k","_law_at"] ["_law_script","_law_most","_law_plane_here"]^aq SS:=by bv_omega
theorem RV(B:B7 mg)(Ce:bP K mg "_law_cell" Bf ["_law_script","_law_k"])(Mi:bP K mg "_law_mixed" zN ["_law_script","_law_turn"])(R:bP K mg "_law_digits" Bg ["_law_script","_law_at"])(Tk:bP K mg "_law_take" xY ["_law_left","_law_many"])
  (Tr:bP K mg "_law_tree" K7 ["_law_many","_law_left"]) (Nx:bP K mg "_law_next" Bh ["_law_turns","_law_side"]) (Rd:bP K mg "_law_round" zO ["_law_turns","_law_side"]) (Ti:bP K mg "_law_tie" Bi ["_law_turns","_law_left","_law_plane_here"]) (Re:bP K mg "_law_renamed" IB ["_law_turns","_law_order","_law_left"])
  (D:bP K mg "_law_web" SS ["_law_script","_law_most","_law_plane_here"]):FnOk P w K mg base fM 4 D.f D.fd ["_law_script","_law_most","_law_plane_here"]^Wd K:=by
 refine D.F.ok MA (λvs H Q E h=>?_)^λaV A outer s H vs Q E X h=>?_
 .obtain⟨a,ns,m,b,rfl,_⟩:=h
  rfl
 obtain⟨a,ns,m,b,rfl,hS,tK,m1,ZQ,q⟩:=h;have nd:=MA.nd;have gD:=Kw (P:=P) (w:=w) (base:=base) B Ce Mi R;have gT:=(vO (P:=P) (w:=w) (base:=base) B Tk).mono (show 1<=3 by decide)
 have gTr:=(RU (P:=P) (w:=w) (base:=base) B Tk Tr).mono (show 2<=3 by decide)
 have gTi:=Vq (P:=P) (w:=w) (base:=base) B Tk Nx Rd Ti;have gRe:=(Vp (P:=P) (w:=w) (base:=base) B Tk Re).mono (show 2<=3 by decide)
 refine#[_,aG (ck (i:=3) nd rfl (Or.inl rfl)^bM gD X rfl R.m R.F.kp R.b .nil cT^ah (pv 0)^ah aX aB)
  (aG (ck (i:=4) nd rfl (Or.inl rfl)^di i7 aX^bM gT X rfl Tk.m Tk.F.kp Tk.b .nil cT^ah (pv 3)^ah (pv 1) aB)
  (aG (ck (i:=5) nd rfl (Or.inl rfl)^bM gTr X rfl Tr.m Tr.F.kp Tr.b .nil cT^ah (pv 4)^ah (pv 3) aB)
  (aG (ck (i:=6) nd rfl (Or.inl rfl)^gn aB)
  (aG (kO FS rfl (om rfl B.range^ah (pv 4) aB) (cH (i:=7) nd rfl^Or.inl rfl)
   (bo^dY^i9 KB adO adP oh (pv 6)^ah (bM gT X rfl Tk.m Tk.F.kp Tk.b .nil cT^ah (pv 3)^ah (di i7 (pv 7) aX) aB)^ah (pv 7) aB))
  (aG (kO FS rfl (lG^gn^ah aX^ah aX aB) (cH (i:=8) nd rfl^Or.inl rfl)
   (aG (ck (i:=3) nd rfl (Or.inl rfl)^bM gD X rfl R.m R.F.kp R.b .nil cT^ah (pv 0)^ah (pv 8) aB)
   (bo^kO FS rfl (om rfl B.range^ah (di rH (bM gT X rfl Tk.m Tk.F.kp Tk.b .nil cT^ah (pv 3)^ah aX aB)^A2 Jm rfl B.int boot_int^ah (Ih Kx (pv 4) aX^bJ _) aB) aB) (cH (i:=7) nd rfl^Or.inl rfl)
    (bo^dY^bM gTi X rfl Ti.m Ti.F.kp Ti.b .nil cT^ah (pv 5)^ah (pv 3)^ah (pv 2) aB))))
  (bo^iB^bM gRe X rfl Re.m Re.F.kp Re.b .nil cT^ah (pv 5)^ah (pv 6)^ah (bM gD X rfl R.m R.F.kp R.b .nil cT^ah (pv 0)^ah aX aB) aB)))))),?_]
 refine#[_,rfl,a,ns,1,rfl,hS,tK,∅,∅,λl Y H1 s1 ND xg jO hz=>?_]
 refine#[_,rfl,_,rfl,l,Y,m,rfl,xg,jO,(),(),(),λdI pR d0 d1 sH NJ=>?_]
 exists _,_,rfl,rfl;obtain⟨d,rfl⟩:=wG d0;have em:(1:Int)+(d:Int)=((d+1:Nat):Int):=()
 show Am 4 (V.int (1+(d:Int))) _ _ _;rw[em];have hm:((d+1:Nat):Int)<=m:=()
 generalize d+1=n at hm em;have UM:1<=n:=()
 refine#[_,rfl,_,rfl,l,pR,n,rfl,af,sH,(),UM,(),λT I w0 nO H2 off Qu Qf R2 g0 len0 uU yw Q7 dg0 fc0=>?_]
 have zp:l≠T:=λz=>by rw[<-z,af] at Qu;cases Qu
 have ng:l∉I:=λz=>by have:=Qf l z;rw[af] at this;cases this
 have s2:aC H H2:=λb u g=>off b u (~~~ao g ND)^by rw[ag^ao g ND];exact s1 b u g
 have hTH:H T=none:=by
  cases e:H T with
  |none=>rfl
  |some u=>rw[ag^Ne.symm zp,s1 _ _ e] at Qu;cases Qu
 have frH:∀x∈I,H x=none:=λx J=>by
  cases e:H x with
  |none=>rfl
  |some u=>
   have:=Qf x J
   rw[ag^λz=>ng^by rw[<-z];exact J,s1 _ _ e] at this;cases this
 refine#[by show 0<=sizeLine;decide,λO hO=>?_]
 have ZU:l≠O:=ao uU hO;have nOT:T≠O:=ao R2.top hO
 have Xj:O∉I:=λz=>by
  obtain⟨k,hk⟩:=jw z;rw[R2.row k O hk] at hO;cases hO
 have hOH:H O=none:=s2.free hO;refine#[_,rfl,(n:Int),rfl,(by lia),(by lia),nU (n:=((n:Int)).toNat) (λi L r=>∃(ord:List Nat)(Y:List Int)(C:Option V),L= [some^.ref a,some^.int m,some^.bl b,some^.ref l,some^.int (n:Int),some^.ref T,some^.ref O,C,none]/\aC H r/\aM r T I w0/\r O\(.lst^bg ord)/\ord.Perm^aj i/\r l\(.lst^Y.map V.int)/\Y≠ []/\Y.length<=2) ?_ ?_ ?_]
 .refine#[[],nO,none,rfl,s2.trans^aA hO _,R2.off (S:= []) (Off.of_same^aA hO _) (by simp)^by simp,af,List.Perm.refl _,?_,yw,Q7]
  rw[ag ZU];exact uU
 .rintro i L H3 hi ⟨ord,ds3,C,rfl,s3,R3,Qs,Sr,NF,W3,hz3⟩
  rw[lP] at hi;have lo:ord.length=i:=by rw[Sr.length_eq,jx]
  have J8:(0:Int)+(i:Int)=(i:Int):=()
  refine#[_,rfl, .inl #[rfl,_,aK.of Qs],_,rfl,_,rfl,_,_,rfl,rfl,l,ds3,_,rfl,NF,W3,(by lia),(by lia),(by lia),λeI ds4 e0 e1 abD hz4=>?_]
  obtain⟨e,rfl⟩:=wG e0;have hO4:upd H3 l (.lst^ds4.map V.int) O\(.lst^bg ord):=by rw[ag^Ne.symm ZU];exact Qs
  refine#[_,rfl,O,_,_,_,rfl,rfl,hO4,(),by rw[cx];lia,nI (by rw[cx];exact afT lo)^bL (),?_]
  rw[J8,lP,<-rT];refine#[ins ord e i,ds4,_,rfl,λb u g=>?_,?_,af,?_,?_,abD,()]
  .rw[ag^ao g hOH,ag^ao g ND];exact s3 b u g
  .refine R3.keep λb o=>?_
   rw[ag^λz=>?_,ag^λz=>?_]
   .rcases o with o|o
    .exact zp^z.symm.trans o
    .rw[z] at o;exact ng o
   .rcases o with o|o
    .exact nOT^o.symm.trans z
    .rw[z] at o;exact Xj o
  .refine(rh ord e i).trans ?_
   rw[afB];refine(List.Perm.cons i Sr).trans ?_;exact(List.perm_append_singleton i^aj i).symm
  .rw[ag ZU,af]
 rintro L H3 ⟨ord,ds3,C,rfl,s3,R3,Qs,Sr,NF,W3,hz3⟩;rw[lP] at Sr;have od:Ord ord n:=#[Sr];refine#[by show 2<=sizeLine;decide,λG Nu=>?_]
 have s4:=aA Nu^.lst [V.int 2,V.int 3];have e4:upd H3 G (.lst [V.int 2,V.int 3]) G\(.lst [V.int 2,V.int 3]):=af;have nLT:G≠T:=Ne.symm^ao R3.top Nu;have nLO:G≠O:=Ne.symm^ao Qs Nu
 have abZ:G∉I:=λz=>by
  obtain⟨k,hk⟩:=jw z;rw[R3.row k G hk] at Nu;cases Nu
 have hLH:H G=none:=s3.free Nu;generalize upd H3 G^.lst [V.int 2,V.int 3]=H4 at s4 e4;have R4:aM H4 T I w0:=R3.off (S:= []) (Off.of_same s4) (by simp)^by simp
 refine#[G,rfl,#[_,aK.of e4],Nk (K:=K) (a:=G) (xs:= [V.int 2,V.int 3]) (λi L r=>∃(l':Addr)(M:W)(C Z:Option V),L= [some^.ref a,some^.int m,some^.bl b,some^.ref l',some^.int (n:Int),some^.ref T,some^.ref O,C,Z]/\aC H r/\aM r T I M/\Good M/\M.length=n/\r O\(.lst^bg ord)/\r G\(.lst [V.int 2,V.int 3])/\fR M<=26+38*i/\Eu b M) ?_ ?_ ?_ ?_]
 .exact#[l,w0,C,none,rfl,s3.trans s4,R4,g0,len0,s4 _ _ Qs,e4,(),PY fc0 ()]
 .rintro i L r _ ⟨l',M,C,Z,rfl,_,_,_,_,_,hL,_⟩
  exact aK.of hL
 .rintro i x L H5 J ⟨l',M,C,Z,rfl,s5,R5,g5,ko,JJ,YN,dg5,YA⟩
  obtain⟨k,zd,ze,rfl⟩:∃k:Int,0<=k/\k<=100/\x= .int k:=by
   match i,J with
   |0,J=>cases J;exact#[2,∅,∅,rfl]
   |1,J=>cases J;exact#[3,∅,∅,rfl]
   |n+2,J=>simp at J
  refine#[_,rfl,_,rfl,a,ns,k,rfl,s5.seq hS,tK,zd,ze,λt Yq H6 s6 v Zm QS hz6=>?_];have n2T:t≠T:=λz=>by rw[z,R5.top] at v;cases v
  have Xi:t∉I:=λz=>by
   obtain⟨k,hk⟩:=jw z;rw[R5.row k t hk] at v;cases v
  have n2O:t≠O:=λz=>by rw[z,JJ] at v;cases v
  have n2L:t≠G:=λz=>by rw[z,YN] at v;cases v
  have h2H:H t=none:=s5.free v;refine#[_,rfl,t,Yq,20,rfl,Zm,QS,(),∅,∅,λcI Hj c0 c1 abE hz7=>?_]
  refine#[_,rfl,_,_,rfl,rfl, .inr #[_,rfl,?_]];obtain⟨c,rfl⟩:=wG c0
  have R7:aM (upd H6 t^.lst^Hj.map V.int) T I M:=(R5.off (S:= []) (Off.of_same s6) (by simp)^by simp).keep λb o=>by
   refine ag λz=>?_
   rcases o with o|o
   .exact n2T^z.symm.trans o
   .rw[z] at o;exact Xi o
  have s7:aC H^upd H6 t^.lst^Hj.map V.int:=λb u g=>by rw[ag^ao g h2H];exact s6 _ _^s5 b u g
  have Nv:upd H6 t (.lst^Hj.map V.int) O\(.lst^bg ord):=by rw[ag^Ne.symm n2O];exact s6 _ _ JJ
  have hL7:upd H6 t (.lst^Hj.map V.int) G\(.lst [V.int 2,V.int 3]):=by rw[ag^Ne.symm n2L];exact s6 _ _ YN
  have su:upd H6 t (.lst^Hj.map V.int) t\(.lst^Hj.map V.int):=af;generalize upd H6 t^.lst^Hj.map V.int=H7 at R7 s7 Nv hL7 su;refine#[_,_,rfl,rfl, .inl #[(by lia),(by lia)],?_]
  have abp:∃N:Nat,(c:Int)*(if decide ((1:Int)<(n:Int))=true then 1 else 0)=(N:Int)/\N<20/\(0<N->2<=n):=by
   by_cases hn:(1:Int)<(n:Int)
   .rw[Gc hn,ir rfl]
    exact#[c,(),(),λ_=>by lia]
   .rw[GE hn,mo ∅]
    exact#[0,(),(),λh=>by lia]
  obtain⟨N,eN,N20,N2⟩:=abp;refine#[(N:Int),IR (λz=> [V.int z]) eN,(by lia),(by lia),nU (n:=((N:Int)).toNat) (λj L r=>∃(w2:W)(Y:List Int)(C Z:Option V),L= [some^.ref a,some^.int m,some^.bl b,some^.ref t,some^.int (n:Int),some^.ref T,some^.ref O,C,Z]/\aC H r/\aM r T I w2/\Good w2/\w2.length=n/\r O\(.lst^bg ord)/\r G\(.lst [V.int 2,V.int 3])/\r t\(.lst^Y.map V.int)/\Y≠ []/\Y.length<=2/\fR w2<=fR M+2*j/\Eu b w2) ?_ ?_ ?_]
  .exact#[M,Hj,_,_,rfl,s7,R7,g5,ko,Nv,hL7,su,abE,(),(),YA]
  .rintro j L H8 hj ⟨w2,ds8,C,Z,rfl,s8,R8,g8,Xc,YR,YO,hl8,W5,hz8,dg8,YB⟩
   rw[lP] at hj;have n2:=N2 ()
   refine#[_,rfl,_,rfl,_,rfl,T,t,b,I,w2,ds8,rfl,R8,g8,(),(),hl8,W5,hz8,n2T,Xi,λw3 ds9 H9 RP R9 g9 adh hl9 abF hz9 dg9 ti9=>?_]
   refine#[w3,ds9,_,_,rfl,λb u g=>RP b u (λz=>?_)^s8 b u g,R9,g9,(),RP _ _ (λz=>?_) YR,RP _ _ (λz=>?_) YO,hl9,abF,hz9,(),YB.mS g8 ti9]
   .rcases b7.mp z with z|z
    .rw[z,h2H] at g;cases g
    .rw[frH b z] at g;cases g
   .rcases b7.mp z with z|z
    .exact n2O z.symm
    .exact Xj z
   .rcases b7.mp z with z|z
    .exact n2L z.symm
    .exact abZ z
  .rintro L H8 ⟨w2,ds8,C,Z,rfl,s8,R8,g8,Xc,YR,YO,hl8,W5,hz8,dg8,YB⟩
   rw[lP] at dg8;exact#[t,w2,C,Z,rfl,s8,R8,g8,Xc,YR,YO,(),YB]
 .rintro L H5 ⟨l',M,C,Z,rfl,s5,R5,g5,ko,JJ,YN,dg5,YA⟩
  refine#[_,rfl,_,rfl,_,rfl,a,ns,4,rfl,s5.seq hS,tK,∅,∅,λl4 Yq H6 s6 v Zm QS hz6=>?_]
  have n4T:l4≠T:=λz=>by rw[z,R5.top] at v;cases v
  have abX:l4∉I:=λz=>by
   obtain⟨k,hk⟩:=jw z;rw[R5.row k l4 hk] at v;cases v
  have n4O:l4≠O:=λz=>by rw[z,JJ] at v;cases v
  have h4H:H l4=none:=s5.free v;have s56:=s5.trans s6;refine#[T,O,l4,I,M,ord,Yq,rfl,(let Q5:=R5.off (S:= []) (Off.of_same s6) (by simp) (by simp);#[Q5.top,Q5.len,Q5.row]),g5,(),s6 _ _ JJ,by rw[ko];exact od,Zm,QS,hz6,n4T,abX,n4O,λF fs w' r off hF fr R' g' abU dg' xX=>?_]
  refine q F fs w' r (λb u g=>off b u (~~~ao g h4H)^s56 b u g) (s56.free hF) (λx J=>s56.free^fr x J) R' g' () () (by rw[dg'];simp at dg5;lia)^YA.nam g5 g' (φ:=λx=>ord.getD x 0) #[abU,λp hp=>by rw[ko] at hp ⊢;exact od.into hp,λp q hp hq e=>by rw[ko] at hp hq;exact od.inj hp hq e,λy hy=>by rw[ko] at hy ⊢;exact od.sur hy,xX] dg'
end
end ED
namespace wK
open PySem L2 Wb
variable {P:Program} {w:World} {mg:Str->Option Value} {base:Heap} {Z:DC} (T:Txt Z mg)
theorem Ms{Z:DC}:∀(fs:List Addr)(w:W),fs.length=w.length->(∀(i:Nat) a,fs[i]?\a->G a\(.lst^ED.bg^row w i))->DvAll Z G (fs.map V.ref)^w.map aE
 | [],[],_,_=> .nil
 | [],_::_,h,_=>by cases h
 |_::_,[],h,_=>by cases h
 |a::fs,r::w,h,k=>by
  refine .cons ?_ (Ms fs w (~~~h) λi b d=>k (i+1) b^~~~d)
  have c:G a\(.lst^ED.bg r):=k 0 a rfl;refine Dv.lst c ?_;unfold ED.bg;clear c k h
  induction r with
  |nil=>exact .nil
  |cons x r e=>exact .cons (.int _) e
def Wc:fh:=λa P=>∃(c:List Int)(m:Nat)(b:Bool),a= [.qC c,az m, .bl b]/\1<=m/\m<=14/\∀w,Good w->1<=w.length->w.length<=m->Eu b w->P^bz w
def aaQ{Z:DC}(T:Txt Z a):ED.B7 a:=#[T.B.len,T.B.range,T.B.max,T.B.min,T.B.enumerate,T.B.zip,T.B.sorted,T.B.all,T.B.isinstance,T.B.int,T.B.bool,T.B.list,T.B.tuple]
def FI:Dk P w base 4 T.ut^aU Z Wc:=by
 refine(ED.RV (aaQ T) T.uk T.ul T.um T.un T.uo T.up T.uq T.ur T.us T.ut).imp ?_;rintro L H Q E ⟨G,M,P,s,dv,⟨n,m,b,rfl,m1,N,p⟩,q⟩;obtain⟨O,S,rfl,r,dv⟩:=dv.FG;obtain⟨X,Y,rfl,t,u⟩:=dv.xK;obtain⟨a,rfl,v,x⟩:=r.FH;obtain rfl:=t.ofInt;obtain rfl:=u.vH;refine#[a,n,m,b,rfl,v.mono s,x,(),(),λF fs f h j y d R g A lm _ B=>?_]
 let Fc:Addr->Prop:=λb=>b=F\/b∈fs
 have k:∀b,Fc b->H b=none:=λb c=>by
  rcases c with rfl|c
  .exact y
  .exact d b c
 have C:∀b o,H b\o->¬Fc b:=λb o e z=>by rw[k b z] at e;cases e
 have I:Ext G H (plus G h Fc) h:=#[λb o e=>by rw[gX^C b o^s _ _ e];exact e,λb o e=>by
  by_cases z:Fc b
  .rw[jQ z] at e;exact e
  .rw[gX z] at e;exact j _ _^s _ _ e,j,λb c J=>by
  rw[gX^λz=>c^k b z];exact J]
 refine q _ (p f g A () B) _ _ _ I^Dv.lst (xs:=fs.map V.ref) (by rw[jQ^.inl rfl];exact R.top) (Ms fs f R.len λi a l=>?_)
 rw[jQ^.inr^cU l];exact R.row i a l
def Td:fh:=λa P=>∃(b:List Int)(k:Nat),a= [.qC b,az k]/\k<=100/\∀v:Int,P^.int v
def CN:Dk P w base 1 T.uk^aU Z Td:=by
 refine(ED.AY T.uk).imp ?_;rintro j H Q E ⟨G,l,P,s,dv,⟨c,k,rfl,m,d⟩,q⟩;let⟨n,o,rfl,e,f⟩:=dv.xK;let⟨a,rfl,g,h⟩:=e.FH;obtain rfl:=f.ofInt;refine#[a,c,k,rfl,g.mono s,h,(),(),λv i b=>?_]
 exact q _ (d v) _ G i #[.refl _,s.trans b,b,λ_ _ z=>z]^.int v
variable {P:Program} {w:World} {mg:Str->Option Value} {base:Heap} {Z:DC} (T:Txt Z mg)
section
variable {X:Cx} {md:List Nat}
def Py(i:Nat)(t:eG):eG:=λE a=>(∃d,a[i]?\(some d))/\t {nx:=λ_=>False,rt:=E.rt} a
def pS(i:Nat)(h:pj Z X (md.set i 0) 0 f t):pj Z X md 0 f^Py i t:=by
 refine kF.imp h ?_;rintro p q H ⟨B,k,E,⟨G,r,S⟩,⟨⟨d,g⟩,l⟩,M⟩;let⟨v,m,dv,a⟩:=S.VT g;refine#[B,k,_,#[_,_,#[a.ex,a.fl,S.len,λj c b=>?_,a.nd,a.ap,a.nw]],l,#[λ_ z=>z.elim,M.rt,λ_ z=>z.elim,λ_ z=>z.elim,λ_ _ z=>z.elim]]
 by_cases e:j=i
 .subst e
  rw[g] at b;cases b;exists v,m
  have:(md.set j 0).getD j 0=0:=by
   rw[bO,pb]
   split<;>first| (split<;>rfl) |exact absurd rfl ‹_›
  rw[this,ir rfl];exact#[dv,rfl]
 .obtain⟨u,n,o⟩:=a.at_ j c^by rw[qO^Ne.symm e];exact b
  exists u,n
  have:(md.set i 0).getD j 0=md.getD j 0:=by rw[bO,bO,qO^Ne.symm e]
  rw[this];exact o
end
variable {P:Program} {w:World} {mg:Str->Option Value} {base:Heap} {Z:DC} (T:Txt Z mg)
def F2:fh:=λa P=>∃(w:W)(d:Nat×Nat),a= [bz w,pairD d]/\Good w/\ax w d/\P^pairD^bq w d
def sM:Dk P w base 1 T.up^aU Z F2:=by
 have e:=sR.nd;refine bx T.up.F sR [0,0,0,0] ∅ (λk R h=>by let⟨r,t,rfl,u⟩:=h;rfl)^λo A outer s H E k R l h=>?_
 have p:=l.units
 refine#[_,(aw (EY (U 1)^fS 2 rfl^aR (aN 2 e)^aR (aN 3 e) cW)
   (av^aW^dN^aa (U 3)^aa (gE (gE (U 0)^U 3)^jZ FF (jZ mq (Df (gE (U 0)^U 3)^U 2) bH)^bC fw rfl T.B.len fu^aa (gE (U 0)^U 3) ar) ar)),?_]
 let⟨a,d,rfl,g,f,q⟩:=h;have b:=g.rng _ _ f;have i:d.1∈row a d.2:=g.sym _ _ f;have j:((row a d.2).map az).length=(row a d.2).length:=aI _;have pos:0<(row a d.2).length:=jh i;have m:(0:Int)<(((row a d.2).map az).length:Int):=by rw[j];lia
 have c:=kJ i;exists _,rfl,rfl,rfl;have em:(((row a d.2).idxOf d.1:Nat):Int)+1=(((row a d.2).idxOf d.1+1:Nat):Int):=()
 have n:((((row a d.2).idxOf d.1:Nat):Int)+1)%(((row a d.2).map az).length:Int)=((((row a d.2).idxOf d.1+1)%(row a d.2).length:Nat):Int):=by rw[j,em,afv]
 have at_:h8 ((row a d.2).map az) (((((row a d.2).idxOf d.1:Nat):Int)+1)%(((row a d.2).map az).length:Int))\(az^aO (row a d.2) d.1):=by
  rw[n];exact vG^kE _ pos
 exists _,rfl,_,rfl,_,rfl,_,vV b,_,rfl,_,rfl,_,vV b;exact#[_,rfl,_,rfl,rfl,kR _,_,_,c.1,c.2.1,c.2.2,_,rfl,_,rfl,_,vV b,m,_,at_,by show 2<=sizeLine;decide,q]
def OB:fh:=λa P=>∃(w:W)(d:Nat×Nat),a= [bz w,pairD d]/\Good w/\w.length<=14/\ax w d/\∀r,dm w d r->P^.lst^r.map pairD
def AX:Dk P w base 2 T.uq^aU Z OB:=by
 have f:=qw.nd;refine bx T.uq.F qw [0,0,1,0] ∅ (λp R h=>by let⟨C,D,rfl,G⟩:=h;rfl)^λx A outer s H E p R i h=>?_
 have r:=i.units
 refine#[_,(aw (qX 2 f^qU^aa (U 1) ar)
   (aw (cz false 3 f^aL T.up (sM T) i^aa (U 0)^aa (U 1) ar)
   (aw (wY FS (cf (xI r) (U 3) (U 1)^bJ _)^aw (qW false 2^U 3)
   (av^cz false 3 f^aL T.up (sM T) i^aa (U 0)^aa (U 3) ar))
   (av^aW^U 2)))),?_]
 let⟨a,d,rfl,g,h14,l,q⟩:=h;have y:=gB g;have z:a.length*a.length<=14*14:=qK h14 h14;refine#[_,rfl,by show 1<=sizeLine;decide,?_]
 exists _,rfl,_,rfl,a,d,rfl,g,l,trivial;refine uA (λm t=>∃k,0<k/\m+k=(aQ a).length+1/\(∀j,0<j->j<k->br a j d≠d)/\t= [some^bz a,some^pairD d,some^.lst^(walk a d k).map pairD,some^pairD^br a k d]) (aQ a).length #[1,(),rfl,λj b o=>by lia,rfl] ?_
 rintro m _ ⟨k,u,B,n,rfl⟩;have v:=fE g l k;exists _,rfl,_,rfl;refine De #[_,rfl,fT (λe=>?_)^λe=>?_]
 .have ne:br a k d≠d:=by simpa using e
  have lt:k<(aQ a).length:=by
   have:=qG g l (k:=k+1) λj b o=>by
    by_cases c:j=k
    .subst c;exact ne
    .exact n j b ()
   lia
  refine#[_,rfl,_,rfl,trivial,bL^by rw[aI,eV];lia,?_]
  exists _,rfl,_,rfl,a,br a k d,rfl,g,v,trivial;refine#[m-1,(),k+1,(),(),λj b o=>?_,?_]
  .by_cases c:j=k
   .subst c;exact ne
   .exact n j b ()
  .rw[t9,dk];rfl
 .have e:br a k d=d:=by simpa using e
  exact#[_,rfl,q _ #[k,u,e,n,rfl]]
def iZ.off{w:W}{a:List^List (Nat×Nat)}(h:iZ w a)(R:dm w d r)(f:d∉a.flatten):∀x∈r,x∉a.flatten:=λx g z=>by
 let⟨b,c,i⟩:=jX.mp z;let⟨e,j,l⟩:=h b c;let⟨n,k⟩:=R.back g;exact f^jX.mpr #[b,c,k▸j.iter i n]
def Eh{w:W}(h:dm w d r)(c:dm w e r):d=e:=by
 obtain⟨k,g,_,_,rfl⟩:=h;obtain⟨m,m0,_,_,f⟩:=c
 have:=IR List.head? f
 obtain⟨a,rfl⟩:∃a,k=a+1:=#[k-1,()]
 obtain⟨b,rfl⟩:∃b,m=b+1:=#[m-1,()]
 unfold walk at this;rw[Gz,Gz] at this;exact Fk this
def Iu{w:W}(g:Good w)(h:dm w d r)(b:ax w d):∃t,r.map (·.1)=d.1::d.2::t:=by
 obtain⟨k,c,a,_,rfl⟩:=h
 obtain⟨m,rfl⟩:∃m,k=m+2:=by
  exists k-2;apply FM;intro z;obtain rfl:k=1:=()
  have a:bq w d=d:=a;exact jL g b (IR Prod.fst a).symm
 unfold walk;rw[Gz,cY,cY,Gz,cY,cY,cY];exact#[_,rfl]
theorem wN{w:W}:∀{rss:List^List (Nat×Nat)},iZ w rss->rss.length<=rss.flatten.length
 | [],_=>aZ _
 |r::rss,h=>by
  let⟨d,R,b⟩:=h r (cF ..)
  have:=jh R.first
  have:=wN (rss:=rss) λr a=>h r^dS _ a
  rw[iS,dJ,cJ];lia
structure RL (w:W) (rss:List^List (Nat×Nat)) (c:Nat×Nat->Prop):Prop where
 rnd:∀r∈rss,∃d,dm w d r/\ax w d/\(∀e∈r,lexLe d e)/\c d
 ord:rss.Pairwise λr r'=>∀d e,dm w d r->dm w e r'->lexLe d e
 nd:rss.flatten.Nodup
 all:∀d,ax w d->c d->d∈rss.flatten
theorem RL.imp{w:W}{c i:Nat×Nat->Prop}(h:RL w g c)(k:∀d,ax w d->i d->c d\/d∈g.flatten)(l:∀d,c d->i d):RL w g i:=
 #[λr m=>let #[d,a,b,e,f]:=h.rnd r m;#[d,a,b,e,l d f],h.ord,h.nd,λd j n=>(k d j n).elim (h.all d j) id]
def RL.allR{w:W}(h:RL w e c):iZ w e:=λr f=>let #[d,a,b,_]:=h.rnd r f;#[d,a,b]
def RL.add{w:W}(g:Good w)(h:RL w f c)(m:ax w d)(R:dm w d r)(A:d∉f.flatten)(lo:∀e,ax w e->¬c e->lexLe d e)(B:∀e,c e->lexLe e d)
  (C:∀e,c e->l e) (E:l d) (F:∀e,ax w e->l e->c e\/e=d):RL w (f++ [r]) l:=by
 have off:=iZ.off h.allR R A
 have p:∀e∈r,ax w e:=λe i=>by
  let⟨k,D,K,M,rfl⟩:=R;exact oI g m e i
 have q:(f++ [r]).flatten=f.flatten++r:=by rw[qP];simp
 refine#[λs j=>?_,?_,?_,λe i G=>?_]
 .rcases bF.mp j with j|j
  .obtain⟨e,n,t,u,o⟩:=h.rnd s j
   exact#[e,n,t,u,C e o]
  .rw[bW] at j
   subst j;exact#[d,R,m,λe i=>lo e (p e i) λz=>off e i^h.all e (p e i) z,E]
 .refine wH.mpr #[h.ord,Gy _ _,λs j L v x y X Y=>?_]
  rw[bW] at v;subst v;obtain rfl:=Eh Y R;let⟨e,n,t,u,o⟩:=h.rnd s j;obtain rfl:=Eh X n;exact B _ o
 .rw[q,cQ]
  refine#[h.nd,?_,λa H b I z=>off b I (z▸H)];let⟨k,D,K,J,rfl⟩:=R;exact qH g m J
 .rw[q]
  rcases F e i G with z|z
  .exact fK _^h.all e i z
  .rw[z];exact fb _ R.first
def RL.lands{w:W}(g:Good w)(h:RL w f c)(all:∀d,ax w d->c d):bG w f/\xB w=fO f:=by
 have p:f.flatten.Perm^aQ w:=(qM h.nd^bh g).mpr λd=>#[λi=>aD.mpr^iZ.dart g h.allR d i,λi=>h.all d (aD.mp i)^all d^aD.mp i];have R:bG w f:=#[λr j=>let #[d,a,b,e,_]:=h.rnd r j;#[d,a,b,e],p];have o:=h.rnd;have q:=h.ord;refine#[R,rj g R ?_];unfold fO;rw[iA];refine q.imp_of_mem λ {r k} j s l=>?_;obtain⟨d,a,b,_,_⟩:=o r j;obtain⟨e,m,v,_,_⟩:=o k s;have le:=l d e a m;obtain⟨t,x⟩:=Iu g a b;obtain⟨B,n⟩:=Iu g m v
 by_cases z:d=e
 .subst z
  rw[a.uniq m];unfold hU;cases y:HT.lexLt (iy^k.map (·.1))^iy^k.map (·.1) with
  |false=>rfl
  |true=>exact absurd y^by rw[vB];simp
 .have A:d.1<e.1\/(d.1=e.1/\d.2<e.2):=by
   unfold lexLe at le
   by_cases y:d.1=e.1
   .have:d.2≠e.2:=λu=>z^UV y u
    lia
   .lia
  rw[x,n];unfold hU iy;rw[cY,cY,cY,cY,HT.iO]
  split
  .rw[HT.iO]
   split
   .lia
   .exact GE ()
  .exact GE ()
noncomputable def yK(r:List (Nat×Nat)):D:= .lst^r.map pairD
def IL:fh:=λb P=>∃(w:W),b= [bz w]/\Good w/\1<=w.length/\w.length<=14/\∀a,RS w a->P^.lst^a.map yK
theorem AW:Dk P w base 3 T.uu^aU Z IL:=by
 have G:=qv.nd;refine bx T.uu.F qv [0,1,98,0,0,0,0] ∅ (λds R h=>by let⟨K,rfl,V⟩:=h;rfl)^λaV A outer s H E ds R hr h=>?_
 have Q:=hr.units
 refine#[_,(aw (dA (cf (xG Q) (bC fw rfl T.B.len fu^aa (U 0) ar) bH^bJ _) (av^aW^l9^aa (l9 ar) ar) bw)
   (aw (qX 1 G^qU ar)
   (aw (Hk 2 G)
   (aw (dO rfl FS (eY rfl T.B.enumerate^aa (U 0) ar) (fS 2 rfl^aR (aN 3 G)^aR (aN 4 G) cW)^av^dO rfl FS (b9^bC C7 rfl T.B.sorted k9^aa (U 4) ar) (aN 5 G)^av^dA (cf (Kt Q) (dN^aa (U 3)^aa (U 5) ar) (U 2)^by with_unfolding_all rfl) (aw (qW false 1^aL T.uq (AX T) hr^aa (U 0)^aa (dN^aa (U 3)^aa (U 5) ar) ar)
   (av^PM 1 rfl FS (Uj bH) (aN 6 G)^av^Hl 2 Q (U 6) mE)) bw)
   (pS 1
   (av^aW^U 1)))))),?_]
 let⟨b,rfl,g,h1,h14,q⟩:=h;have lw:(b.map aE).length=b.length:=aI _;have c1:=gB g;have c2:b.length*b.length<=14*14:=qK h14 h14;exists _,rfl;dsimp only[l8,GR,bz];refine eqC #[_,rfl,fT (λe=>?_)^λe=>?_]
 .have n1:b.length=1:=by
   have:((b.map aE).length:Int)=1:=KF e
   lia
  exact#[by show 0<=sizeLine;decide,by show 1<=sizeLine;decide,q [[]]^.inl #[n1,rfl]]
 have L:2<=b.length:=by
  have:¬((b.map aE).length:Int)=1:=UF e
  lia
 refine#[by show 0<=sizeLine;decide,?_]
 exists _,rfl;refine(?_:kj _ _ _ (c9^b.map aE) _)
 refine cw (λj M=>∃(a:List^List (Nat×Nat))(i:List FV)(S X v n:Option D),M= [some^bz b,some^.lst^a.map yK,some^.x^.eL (a.flatten.map zz) i,S,X,v,n]/\RL b a λd=>d.1<j)
  #[[],[],_,_,_,_,rfl,(λr h=>nomatch h), .nil,iV,λd _ h=>absurd h ()] ?_ ?_
 .rintro p _ _ l ⟨a,i,S,X,v,n,rfl,ok⟩ A N
  let⟨hp,rfl⟩:=wz l;exists rfl,rfl;have rl0:=fH g p;exists _,rfl;dsimp only[l8];refine Ep () λo C srt=>?_
  refine cw (λm M=>∃(a:List^List (Nat×Nat))(i:List FV)(v n:Option D),M= [some^bz b,some^.lst^a.map yK,some^.x^.eL (a.flatten.map zz) i,some^az p,some^aE^row b p,v,n]/\RL b a λd=>d.1<p\/(d.1=p/\d.2∈o.take m))
   #[a,i,_,_,rfl,ok.imp (λd _ h=> .inl (h.elim id λz=>by simp at z)) λd h=> .inl h] ?_ ?_
  .clear ok
   rintro m0 _ _ l ⟨a,i,v,n,rfl,ok⟩ A N;let⟨k,Y,rfl⟩:=dF l;have de:ax b (p,k):=C.mem_iff.mp^cU Y;have I:o.take (m0+1)=o.take m0++ [k]:=by rw[qL,Y];rfl
   refine#[_,rfl,_,rfl,by show 2<=sizeLine;decide,_,rfl,zz (p,k),_,i,rfl,rfl,_,rfl,?_]
   refine(?_:if (if true=true then !decide (zz (p,k)∈a.flatten.map zz) else _)=true then _ else _);rw[ir rfl,show decide (zz (p,k)∈a.flatten.map zz)=decide ((p,k)∈a.flatten) from adX.mpr r6];refine fT (λc=>?_)^λc=>?_
   .have c:(p,k)∉a.flatten:=by simpa using c
    have fl:=ba ok.nd λe t=>aD.mpr^iZ.dart g ok.allR e t;have rl:=wN ok.allR;refine#[_,rfl,_,rfl,_,rfl,_,rfl,by show 2<=sizeLine;decide,b,(p,k),rfl,g,h14,de,λr R=>?_]
    refine#[trivial,bL^by rw[aI];lia,?_]
    have leq:∀y∈o.take m0,y<=k:=λy u=>by
     rw[<-gL (m0+1) o,I] at srt
     have:=(wH.mp (wH.mp srt).1).2.2
     exact this y u k^by simp
    have geq:∀y∈o,y∉o.take m0->k<=y:=λy u hn=>by
     have ed:o.drop m0=k::o.drop (m0+1):=by
      let⟨hl,e⟩:=cD.mp Y;rw[<-e];exact qN hl
     rw[<-gL m0 o,bF] at u;have u:=u.resolve_left hn;have s2:=(wH.mp^by rw[<-gL m0 o] at srt;exact srt).2.1
     rw[ed] at u s2
     rcases b7.mp u with rfl|u
     .exact aZ _
     .exact(List.pairwise_cons.mp s2).1 y u
    have O:RL b (a++ [r]) λd=>d.1<p\/(d.1=p/\d.2∈o.take (m0+1)):=by
     refine RL.add g ok de R c (λe t nc=>?_) (λe J=>?_) (λe J=>J.imp id λz=>#[z.1,by rw[I];exact fK _ z.2]) (.inr #[rfl,by rw[I];simp]) λe t J=>?_
     .unfold lexLe
      by_cases z:e.1=p
      .right
       refine#[z.symm,geq _ (C.mem_iff.mpr ?_) λy=>nc^.inr #[z,y]];have t:e.2∈row b e.1:=t;rw[z] at t;exact t
      .left
       show p<e.1
       have:¬e.1<p:=λy=>nc^.inl y
       lia
     .unfold lexLe
      exact J.imp id λz=>#[z.1,leq _ z.2]
     .rw[I] at J
      by_cases z:e=(p,k)
      .exact .inr z
      .exact .inl (J.imp id λh=>#[h.1,(bF.mp h.2).elim id λh2=>absurd (UV h.1^bW.mp h2) z])
    have ef:(a++ [r]).flatten=a.flatten++r:=by rw[qP];simp
    have L:=O.nd;have UB:=ba O.nd λe t=>aD.mpr^iZ.dart g O.allR e t;rw[ef] at L UB;rw[dJ] at UB;have QC:h8 (a.map yK++ [.lst^r.map pairD]) (-1)\(.lst^r.map pairD):=MZ _ _;exists _,rfl,-1,r.map pairD,rfl,QC;refine cw (λj M=>∃(i:List FV)(n:Option D),M= [some^bz b,some^.lst (a.map yK++ [.lst^r.map pairD]),some^.x^.eL ((a.flatten++r.take j).map zz) i,some^az p,some^aE^row b p,some^az k,n]) #[i,n,by rw[y4,fe];rfl] ?_ ?_
    .rintro j _ _ Y4 ⟨i,n,rfl⟩ A3 YI
     let⟨f,hf,rfl⟩:=dF Y4;have tk2:r.take (j+1)=r.take j++ [f]:=by rw[qL,hf];rfl
     have Z0:f∉a.flatten++r.take j:=λz=>by
      have sp:a.flatten++r=(a.flatten++r.take j)++(f::r.drop (j+1)):=by
       rw[kB,<-cD.mp hf|>.2,aek,gL]
      rw[sp] at L;exact(cQ.mp L).2.2 f z f (cF ..) rfl
     refine#[.bl true,_,i,rfl,rfl,_,rfl,zz f,rfl,λz=>Z0^r6.mp z,by rw[aI,dJ,hV];lia,YI _ #[i++ [.bl true],some^pairD f,?_]]
     rw[tk2,<-kB,dk (l₂:= [f])];rfl
    .rintro _ ⟨i,n,rfl⟩
     rw[aI,y3];exact N _ #[a++ [r],i,some^az k,n,by rw[ef,dk (f:=yK)];rfl,O]
   .have c:(p,k)∈a.flatten:=KF^by simpa only[Bool.not_eq_false'] using c
    refine N _ #[a,i,_,_,rfl,ok.imp (λd _ l=>?_) λd l=>l.imp id λz=>#[z.1,by rw[I];exact fK _ z.2]]
    rw[I] at l
    by_cases z:d=(p,k)
    .rw[z];exact .inr c
    .exact .inl (l.imp id λh=>#[h.1,(bF.mp h.2).elim id λh2=>absurd (UV h.1^bW.mp h2) z])
  .rintro _ ⟨a,i,v,n,rfl,ok⟩
   refine N _ #[a,i,_,_,_,_,rfl,ok.imp (λd JN l=> .inl ?_) λd l=>?_]
   .rw[aI,y3]
    by_cases z:d.1=p
    .exact .inr #[z,C.mem_iff.mpr (z▸JN)]
    .left;lia
   .rcases l with l|l<;>lia
 rintro _ ⟨a,i,S,X,v,n,rfl,ok⟩;rw[gF,lw] at ok;let⟨R1,R2⟩:=RL.lands g ok λd l=>bZ l;exact#[#[_,rfl],_,rfl,q a^.inr #[L,R1,R2]]
variable {P:Program} {w:World} {mg:Str->Option Value} {base:Heap} {Z:DC} (T:Txt Z mg)
theorem Ek(r:List (Nat×Nat)):∀(l:List^List (Nat×Nat))(n:Nat),jm n (l++ [r])=jm n l++r.map λ_=>FV.int ((n+l.length:Nat):Int)
 | [],n=>by simp[jm]
 |s::l,n=>by
  show _++jm (n+1) (l++ [r])=_++jm (n+1) l++_;rw[Ek r l (n+1),<-kB,cJ,show n+1+l.length=n+(l.length+1) by lia]
def RS.facts{w:W}(g:Good w)(h14:w.length<=14)(h:RS w c):c.flatten.Nodup/\c.flatten.length<=196:=by
 rcases h with ⟨_,rfl⟩ | ⟨_,R,_⟩
 .exact#[∅,∅]
 .obtain⟨a,b,_⟩:=rV g h14 R
  exact#[a,b]
def Ov:fh:=λb P=>∃(w:W),b= [bz w]/\Good w/\1<=w.length/\w.length<=14/\∀a,RS w a->P^.x^.eL (ql a)^jm 0 a
def xM:Dk P w base 4 T.uv^aU Z Ov:=by
 have c:=nA.nd;refine bx T.uv.F nA [0,98,0,0,0] ∅ (λC R h=>by let⟨K,rfl,V⟩:=h;rfl)^λaV A outer s H E C R d h=>?_
 have G:=d.units
 refine#[_,(aw (Hk 1 c)
   (aw (dO rfl FS (eY rfl T.B.enumerate^aa (aL T.uu (AW T) d^aa (U 0) ar) ar) (fS 2 rfl^aR (aN 2 c)^aR (aN 3 c) cW)^av^dO rfl FS (b9^U 3) (aN 4 c)^av^Hl 1 G (U 4)^U 2)
   (pS 1
   (av^aW^U 1)))),?_]
 let⟨k,rfl,g,I,h14,q⟩:=h;refine#[_,rfl,k,rfl,g,I,h14,λa t=>?_];let⟨c,J⟩:=t.facts g h14;refine(?_:kj _ _ _ (c9^a.map yK) _);refine cw (λj l=>∃(m n b:Option D),l= [some^bz k,some^.x^.eL ((a.take j).flatten.map zz)^jm 0^a.take j,m,n,b]) #[_,_,_,rfl] ?_ ?_
 .rintro j _ _ L ⟨m,n,b,rfl⟩ A M
  let⟨x,N,rfl⟩:=lq L;let⟨r,d,rfl⟩:=dF N;have u:a.take (j+1)=a.take j++ [r]:=by rw[qL,d];rfl
  have O:=(cD.mp d).1;have o:(a.take (j+1)).flatten=(a.take j).flatten++r:=by rw[u,qP];simp
  have sub:=ae1^cU d
  have v:((a.take j).flatten++r).Nodup:=by
   rw[<-o];have e:a.flatten=(a.take (j+1)).flatten++(a.drop (j+1)).flatten:=by rw[<-qP,gL]
   rw[e] at c;exact(cQ.mp c).1
  have Q:((a.take j).flatten++r).length<=196:=by
   rw[<-o];have e:a.flatten=(a.take (j+1)).flatten++(a.drop (j+1)).flatten:=by rw[<-qP,gL]
   rw[e,dJ] at J;lia
  exists rfl,rfl;exists _,rfl;refine(?_:kj _ _ _ (r.map pairD) _);refine cw (λi l=>∃(b:Option D),l= [some^bz k,some^.x^.eL (((a.take j).flatten++r.take i).map zz) (jm 0^a.take j++(r.take i).map λ_=>FV.int (j:Int)),some^.int (j:Int),some^yK r,b]) #[b,by rw[y4,fe,yh,fe];rfl] ?_ ?_
  .rintro i _ _ S ⟨b,rfl⟩ A3 X
   let⟨f,y,rfl⟩:=dF S;have p:r.take (i+1)=r.take i++ [f]:=by rw[qL,y];rfl
   have Y:f∉(a.take j).flatten++r.take i:=λz=>by
    have sp:(a.take j).flatten++r=((a.take j).flatten++r.take i)++(f::r.drop (i+1)):=by
     rw[kB,<-cD.mp y|>.2,aek,gL]
    rw[sp] at v;exact(cQ.mp v).2.2 f z f (cF ..) rfl
   rw[dJ] at Q;refine#[_,rfl, .int (j:Int),_,_,rfl,rfl,_,rfl,zz f,rfl,λz=>Y^r6.mp z,by rw[aI,dJ,hV];lia,X _ #[some^pairD f,?_]]
   rw[p,<-kB,dk (l₂:= [f]) (f:=zz),dk (l₂:= [f]),<-kB];rfl
  .rintro _ ⟨b,rfl⟩
   rw[aI,y3];refine M _ #[_,_,_,by rw[o,u,Ek,hV,afE^lR O,mD]]
 .rintro _ ⟨m,n,b,rfl⟩
  rw[gF,aI,y3];exact#[#[_,rfl],_,rfl,q a t]
end wK
set_option autoImplicit true
namespace Wb
noncomputable def bS(a:List^List (Nat×Nat))(d:Nat×Nat):Nat:=a.findIdx λr=>decide (d∈r)
def Mj(h:d∈a.flatten):bS a d<a.length:=by
 obtain⟨r,b,c⟩:=jX.mp h;exact List.findIdx_lt_length_of_exists #[r,b,Gc c]
def Vi{a:List^List (Nat×Nat)}{d:Nat×Nat}(h:d∈a.flatten):d∈a.getD (bS a d) []:=by
 have l:=Mj h;rw[bO,bA l]
 have:=List.findIdx_getElem (w:=l)
 exact KF this
theorem Mh:∀{a:List^List (Nat×Nat)}{d:Nat×Nat}{k:Nat},a.flatten.Nodup->d∈a.getD k []->bS a d=k
 | [],d,k,_,h=>by simp at h
 |r::a,d,0,b,h=>by
  have h:d∈r:=h;unfold bS;rw[aef,Gc h];rfl
 |r::a,d,k+1,b,h=>by
  have h:d∈a.getD k []:=h;rw[iS] at b;let⟨l,f,g⟩:=cQ.mp b;have c:=Mh f h
  have i:d∈a.flatten:=by
   rw[bO] at h;cases e:a[k]? with
   |none=>rw[e] at h;cases h
   |some x=>rw[e] at h;exact jX.mpr #[x,cU e,h]
  have j:d∉r:=λz=>g d z d i rfl;unfold bS at c ⊢;rw[aef,GE j];show a.findIdx _+1=k+1;rw[c]
noncomputable def bE(a:List^List (Nat×Nat)):W:=a.map λr=>r.map λd=>bS a (d.2,d.1)
def mv:row (bE a) k=(a.getD k []).map λd=>bS a (d.2,d.1):=by
 unfold row bE;rw[bO,bO,cL];cases a[k]? <;>rfl
structure kg (w:W) (rss:List^List (Nat×Nat)):Prop where
 nd:rss.flatten.Nodup
 dart:∀d,d∈rss.flatten↔ax w d
 go:∀k d,d∈rss.getD k []->bq w d∈rss.getD k []
def kg.of{w:W}(g:Good w){a:List^List (Nat×Nat)}(R:bG w a):kg w a:=by
 refine#[R.perm.nodup_iff.mpr^bh g,λd=>R.perm.mem_iff.trans aD,λk d h=>?_];rw[bO] at h ⊢;cases e:a[k]? with
 |none=>rw[e] at h;cases h
 |some r=>
  rw[e] at h;let⟨c,b,f⟩:=R.rnd r^cU e;exact b.next h
def kg.one(g:Good w)(h:w.length=1):kg w [[]]:=by
 refine#[∅,λd=>#[λz=>by simp at z,λz=>?_],λk d z=>?_]
 .have a:=bZ z
  have b:=g.rng _ _ z;exact absurd (show d.1=d.2 by lia)^jL g z
 .match k with
  |0=>cases z
  |k+1=>simp at z
def kg.num(L:kg w a){d:Nat×Nat}(h:ax w d):bS a d<a.length/\d∈a.getD (bS a d) []:=#[Mj^(L.dart d).mpr h,Vi^(L.dart d).mpr h]
def kg.at_(L:kg w a){d:Nat×Nat}(h:d∈a.getD k []):ax w d/\bS a d=k:=by
 refine#[(L.dart d).mp ?_,Mh L.nd h];rw[bO] at h;cases e:a[k]? with
 |none=>rw[e] at h;cases h
 |some x=>rw[e] at h;exact jX.mpr #[x,cU e,h]
def kg.next(L:kg w a){d:Nat×Nat}(h:ax w d):bS a^bq w d=bS a d:=(L.at_^L.go _ _ (L.num h).2).2
def Jj(g:Good w){A:Nat×Nat->Prop}(k:∀d,ax w d->A d->A (d.2,d.1))(s:∀d,ax w d->A d->A^bq w d)(l:ax w f)(t:A f):∀d,ax w d->A d:=by
 have m:∀p q,q∈row w p->A (p,q)->∀x∈row w p,A (p,x):=λp q e u=>by
  have pos:=jh e
  have v:∀n,A (p,(row w p).getD (((row w p).idxOf q+n)%(row w p).length) 0):=λn=>by
   induction n with
   |zero=>
    have c:=Jd e;rw[Nat.add_zero,kC c,bO,bA c,uE,qQ];exact u
   |succ n j=>
    have c:=kE ((row w p).idxOf q+n) pos
    have o:(row w p).getD (((row w p).idxOf q+n)%(row w p).length) 0∈row w p:=by
     rw[bO,bA c];exact iT c
    have i:ax w ((row w p).getD (((row w p).idxOf q+n)%(row w p).length) 0,p):=g.sym _ _ o
    have:=s _ i^k (p,(row w p).getD (((row w p).idxOf q+n)%(row w p).length) 0) o j
    unfold bq aO at this
    have y:(row w p).idxOf^(row w p).getD (((row w p).idxOf q+n)%(row w p).length) 0=((row w p).idxOf q+n)%(row w p).length:=by
     rw[bO,bA c,uE];exact ad8 (g.nod p) _ c
    simp only[y] at this;rw[Nat.mod_add_mod] at this;exact this
  intro x z;have c:=Jd z;have C:=Jd e
  have:=v ((row w p).idxOf x+(row w p).length-(row w p).idxOf q)
  rw[show(row w p).idxOf q+((row w p).idxOf x+(row w p).length-(row w p).idxOf q)=(row w p).idxOf x+(row w p).length by lia,Nat.add_mod_right,kC c,bO,bA c,uE,qQ] at this
  exact this
 have mS:∀p q,q∈row w p->(∀x∈row w p,A (p,x))->∀x∈row w q,A (q,x):=λp q e h=>m q p (g.sym _ _ e)^k (p,q) e^h q e
 have reach:∀a b,Reach w a b->((∀x∈row w a,A (a,x))↔∀x∈row w b,A (b,x)):=λa b h=>by
  induction h with
  |refl=>exact Iff.rfl
  |step _ r j=>exact j.trans #[mS _ _ r,mS _ _^g.sym _ _ r]
 have B:=m f.1 f.2 l t;intro d i;exact(reach 0 d.1^g.con _^bZ i).mp ((reach 0 f.1^g.con _^bZ l).mpr B) d.2 i
def Pm(g:Good w)(L:kg w b)(ne:∀r∈b,r= []->b.length=1)(u:∀d,ax w d->bS b d≠bS b (d.2,d.1))(v:∀r∈bE b,r.Nodup):Good^bE b:=by
 have mem:∀{p q},q∈row (bE b) p↔∃d,d∈b.getD p []/\bS b (d.2,d.1)=q:=λ {p q}=>by rw[mv,bR]
 have i:(bE b).length=b.length:=aI _;refine#[λp q h=>?_,λp h=>?_,λp=>?_,λp q h=>?_,λp n=>?_]
 .obtain⟨d,f,rfl⟩:=mem.mp h
  rw[i];exact(L.num (d:=(d.2,d.1))^g.sym d.1 d.2 (L.at_ f).1).1
 .obtain⟨d,f,e⟩:=mem.mp h
  let⟨c,j⟩:=L.at_ f;exact u d c^j.trans e.symm
 .by_cases h:p<b.length
  .refine v _ ?_
   have:(bE b)[p]?\(row (bE b) p):=qk^by rw[i];exact h
   exact cU this
  .rw[mv,bO,fJ ()];exact iV
 .obtain⟨d,f,rfl⟩:=mem.mp h
  let⟨c,j⟩:=L.at_ f;exact mem.mpr #[(d.2,d.1),(L.num (d:=(d.2,d.1))^g.sym d.1 d.2 c).2,j]
 .rw[i] at n
  have side:∀k,k<b.length->k=0\/∃d,d∈b.getD k []:=λk o=>by
   cases e:b.getD k [] with
   |nil=>
    left
    have:b[k]= []:=by rw[bO,bA o] at e;exact e
    have:=ne _ (iT o) this
    lia
   |cons d _=>exact .inr #[d,cF ..]
  by_cases s:p=0
  .subst s;exact .refl _
  let⟨dp,l⟩:=(side p n).resolve_left s;have t:0<b.length:=()
  obtain⟨B,m⟩:∃d,d∈b.getD 0 []:=by
   cases e:b.getD 0 [] with
   |nil=>
    have:b[0]= []:=by rw[bO,bA t] at e;exact e
    have:=ne _ (iT t) this
    lia
   |cons d _=>exact#[d,cF ..]
  let⟨x,y⟩:=L.at_ m;let⟨Dp,z⟩:=L.at_ l
  have:=Jj g (A:=λd=>Reach (bE b) 0^bS b d) (λd c a=> .step a^mem.mpr #[d,(L.num c).2,rfl]) (λd c a=>by rw[L.next c];exact a) x (by rw[y];exact .refl _) dp Dp
  rw[z] at this;exact this
end Wb
namespace wK
open PySem L2 Wb
variable {P:Program} {w:World} {mg:Str->Option Value} {base:Heap} {Z:DC} (T:Txt Z mg)
theorem qm:∀(a:List^List (Nat×Nat))(n:Nat),d∈a.flatten->∃j:Nat,(ql a)[j]?\(zz d)/\(jm n a)[j]?\(FV.int ((n+bS a d:Nat):Int))
 | [],n,h=>nomatch h
 |r::a,n,h=>by
  unfold ql bS;rw[iS,dk];unfold jm
  by_cases c:d∈r
  .obtain⟨j,b⟩:=B0.mp c
   have e:=(cD.mp b).1;refine#[j,?_,?_]
   .rw[iR^by rw[aI];exact e,cL,b];rfl
   .rw[iR^by rw[aI];exact e,cL,b,aef,Gc c];rfl
  .rw[iS,bF] at h
   let⟨j,g,f⟩:=qm a (n+1)^h.resolve_left c;unfold bS at f;refine#[r.length+j,?_,?_]
   .rw[jg^by rw[aI];lia,aI,afy];exact g
   .rw[jg^by rw[aI];lia,aI,afy,f,aef,GE c]
    show some^FV.int _\(FV.int _);rw[show n+1+a.findIdx (λr=>decide (d∈r))=n+(a.findIdx (λr=>decide (d∈r))+1) by lia];rfl
def RS.uniq{w:W}(g:Good w)(h:RS w a)(k:RS w b):a=b:=by
 rcases h with ⟨c,rfl⟩ | ⟨c,R,e⟩<;>rcases k with ⟨d,rfl⟩ | ⟨d,S,f⟩
 .rfl
 .lia
 .lia
 .rw[<-rW g R,<-rW g S,<-e,f]
def RS.Ru{w:W}(g:Good w)(h:RS w a):kg w a:=by
 rcases h with ⟨b,rfl⟩ | ⟨_,R,_⟩
 .exact .one g b
 .exact .of g R
def BB{w:W}(h:t∈fV (row w) w.length):ax w t:=by
 rw[gK] at h;exact aD.mp (qR.mp h).1
structure Tk (w:W) (rss:List^List (Nat×Nat)) (ts:List (Nat×Nat)):Prop where
 g:Good w
 h1:1<=w.length
 h14:w.length<=14
 rs:RS w rss
 pm:ts.Perm (fV (row w) w.length)
 srt:ts.Pairwise lexLe
def Tk.uniq{w:W}(h:Tk w a c)(d:b.Perm^fV (row w) w.length)(srt:b.Pairwise lexLe):b=c:=adN (λ_ _ _ _=>rq) srt h.srt^d.trans h.pm.symm
def Tk.few{w:W}(h:Tk w a b):b.length<=196:=by
 have c:=gB h.g;have e:w.length*w.length<=14*14:=qK h.h14 h.h14
 have:=h.pm.length_eq
 rw[gK] at this
 have:=aew (λd:Nat×Nat=>decide (d.1<d.2))^aQ w
 lia
def Tk.rounds{w:W}(h:Tk w rss f):rss.flatten.length<=196/\(∀r∈rss,r.length<=196)/\rss.length<=197:=by
 rcases h.rs with ⟨_,rfl⟩ | ⟨_,R,_⟩
 .exact#[∅,λr e=>by rw[bW] at e;subst e;decide,∅]
 .obtain⟨a,b,c⟩:=rV h.g h.h14 R
  exists b,c
  have:=wN (w:=w) (rss:=rss) λr e=>let #[d,a,b,_]:=R.rnd r e;#[d,a,b]
  lia
noncomputable def tc(w:W):Nat:=(fV (row w) w.length).length
noncomputable def ym(w:W)(a:List^List (Nat×Nat)):D:= .tup [.int (w.length:Int), .int (tc w:Int), .int (a.length:Int)]
def k7(w:W)(a:List^List (Nat×Nat)):Prop:=(w.length:Int)+(a.length:Int)=(tc w:Int)+2
def AD{w:W}{P:D->Prop}(g:Good w)(i:1<=w.length)(l14:w.length<=14)(R:RS w a)(h:∀b:List^List Nat,b.map kQ=a->b.length=a.length->(∀r∈b,r.length<=300)->P^.lst^b.map aE):IK [.gw w] P:=by
 refine#[w,rfl,g,i,l14,λe=>?_,λj l R2 e=>?_]
 .obtain rfl:=R.uniq g^.inl #[e,rfl]
  exact h [[0]] rfl rfl λr d=>by rw[bW] at d;subst d;decide
 .obtain rfl:=R.uniq g^.inr #[j,R2,e]
  rw[e];let⟨m,n,c⟩:=rV g l14 R2;refine h (fO a) (rW g R2) (by unfold fO;rw[aI]) λr d=>?_
  let⟨f,k,rfl⟩:=bR.mp d
  have:=c f k
  show(f.map (·.1)).length<=300;rw[aI];lia
def Ow:fh:=λb P=>∃(w:W)(a:List^List (Nat×Nat)),b= [.gw w]/\Good w/\1<=w.length/\w.length<=14/\RS w a/\P^ym w a
def rD:Dk P w base 4 T.u4^aU Z Ow:=by
 have p:=Em.nd;refine bx T.u4.F Em [0] ∅ (λe R h=>by let⟨u,v,rfl,x⟩:=h;rfl)^λr A outer s H E e R c h=>?_
 have t:=c.units;refine#[_,(av^aW^dN^aa (jC T.W (U 0) T.v5.m (vL T) (c.mono ∅) T.v5.b)^aa (bC fw rfl T.B.len fu^aa (jC T.W (U 0) T.v7.m (kM T) (c.mono ∅) T.v7.b) ar)^aa (bC fw rfl T.B.len fu^aa (aL T.u3 (rF T) c^aa (U 0) ar) ar) ar),?_]
 let⟨a,d,rfl,g,f,l14,R,q⟩:=h;refine#[_,rfl,a,rfl,a,rfl,_,rfl,a,rfl,a,rfl,g,l14,λi j srt=>?_];have k:(i.map pairD).length=tc a:=by rw[aI,j.length_eq];rfl
 exists _,rfl;dsimp only[l8];refine AD g f l14 R λl _ n _=>?_;have o:(l.map aE).length=d.length:=by rw[aI,n]
 unfold ym at q;rw[<-k,<-o] at q;exact#[by show 3<=sizeLine;decide,q]
def OA:fh:=λb P=>∃(w:W)(a:List^List (Nat×Nat)),b= [.gw w]/\Good w/\1<=w.length/\w.length<=14/\RS w a/\(k7 w a->P^.bl true)/\(¬k7 w a->P^.bl false)
def vM:Dk P w base 5 T.u5^aU Z OA:=by
 have b:=wc.nd;refine bx T.u5.F wc [0,0,0,0] ∅ (λf R h=>by let⟨n,o,rfl,p⟩:=h;rfl)^λm A outer s H E f R d h=>?_
 have i:=d.units
 refine#[_,(aw (EY (aL T.u4 (rD T) d^aa (U 0) ar)^fS 3 rfl^aR (aN 1 b)^aR (aN 2 b)^aR (aN 3 b) cW)
   (av^aW^zC (xG i) (jZ mq (U 1)^U 3) (jZ mq (U 2) bH)^bJ _)),?_]
 let⟨e,a,rfl,g,j,l14,R,k,l⟩:=h;exists _,rfl,e,a,rfl,g,j,l14,R;unfold ym;exists rfl,rfl;exists _,rfl,_,rfl,_,rfl;refine uJ ?_
 by_cases c:k7 e a
 .have:=k c
  unfold k7 at c;rw[Gc c];exact this
 .have:=l c
  unfold k7 at c;rw[GE c];exact this
variable {P:Program} {w:World} {mg:Str->Option Value} {base:Heap} {Z:DC} (T:Txt Z mg)
def RQ(a:List D):Prop:=∃d,a= [d]
def CL:FnOk P w Z.K mg base fM 2 T.vo.f T.vo.fd ["self","counted"]^FZ Z T.ve ["counted"] RQ:=by
 have B:=jv.nd;refine T.vo.F.ok jv (λl H Q E h=>?_)^λC A outer s H l Q E I h=>?_
 .obtain⟨a,n,G,p,rfl,_,_,_,dv,_,r,_⟩:=h
  have:=dv.length
  simp at r ⊢;lia
 obtain⟨a,n,G,p,rfl,g,t,j,dv,⟨d,rfl⟩,_,q⟩:=h;let⟨y,rfl,u⟩:=dv.ofOne;exists _,aG (dY^xP rfl T.xb.m T.xb.sg T.xb.rd T.xb.fc^ah (pv 0)^ah rM aB)^bo^vS (pv 0) (pv 1) rfl;exists _,rfl,a,T.ve,none,_,rfl,g,T.vl.obj;refine#[_,rfl,_,rfl,a,T.ve,[],rfl,T.vl.cls,T.vp, .inl #[rfl,g,λi b=>?_]];have v:a≠i:=ao g b;have k:G i=none:=j.free b;refine q i [y] G _ (.refl _) (λc o e=>?_) (λc o x e=>?_) (λc _ z=>z) ?_ b af k^.cons u .nil
 .rw[ag^ao e k,ag^ao e t];exact j _ _ e
 .rw[ag^ao e b,ag x];exact e
 .rw[ag v,af]
def HZ:FnOk P w Z.K mg base fM 2 T.vr.f T.vr.fd ["self","tie"]^FZ Z T.vg ["tie"] RQ:=by
 have B:=kr.nd;refine T.vr.F.ok kr (λl H Q E h=>?_)^λC A outer s H l Q E I h=>?_
 .obtain⟨a,n,G,p,rfl,_,_,_,dv,_,r,_⟩:=h
  have:=dv.length
  simp at r ⊢;lia
 obtain⟨a,n,G,p,rfl,g,t,j,dv,⟨d,rfl⟩,_,q⟩:=h;let⟨y,rfl,u⟩:=dv.ofOne;exists _,aG (dY^xP rfl T.xb.m T.xb.sg T.xb.rd T.xb.fc^ah (pv 0)^ah rM aB)^bo^vS (pv 0) (pv 1) rfl;exists _,rfl,a,T.vg,none,_,rfl,g,T.vm.obj;refine#[_,rfl,_,rfl,a,T.vg,[],rfl,T.vm.cls,T.vs, .inl #[rfl,g,λi b=>?_]];have v:a≠i:=ao g b;have k:G i=none:=j.free b;refine q i [y] G _ (.refl _) (λc o e=>?_) (λc o x e=>?_) (λc _ z=>z) ?_ b af k^.cons u .nil
 .rw[ag^ao e k,ag^ao e t];exact j _ _ e
 .rw[ag^ao e b,ag x];exact e
 .rw[ag v,af]
def Z9(a:List D):Prop:=∃d e,a= [d,e]
def H0:FnOk P w Z.K mg base fM 2 T.vu.f T.vu.fd ["self","one","other"]^FZ Z T.vi ["one","other"] Z9:=by
 have I:=ku.nd;refine T.vu.F.ok ku (λn H Q E h=>?_)^λJ A outer s H n Q E L h=>?_
 .obtain⟨a,p,G,r,rfl,_,_,_,dv,_,t,_⟩:=h
  have:=dv.length
  simp at t ⊢;lia
 obtain⟨a,p,G,r,rfl,i,u,l,dv,⟨d,e,rfl⟩,_,q⟩:=h;let⟨y,z,rfl,v,x⟩:=dv.xK;exists _,aG (dY^xP rfl T.xb.m T.xb.sg T.xb.rd T.xb.fc^ah (pv 0)^ah rM aB)^aG (vS (pv 0) (pv 1) rfl)^bo^vS (pv 0) (pv 2) rfl;exists _,rfl,a,T.vi,none,_,rfl,i,T.vn.obj;refine#[_,rfl,_,rfl,a,T.vi,[],rfl,T.vn.cls,T.vv, .inl #[rfl,i,λg b=>?_]];have j:a≠g:=ao i b;have k:G g=none:=l.free b;refine#[_,rfl,_,rfl,a,T.vi,[("one",y)],rfl,T.vn.cls,T.vw, .inr #[g,by rw[ag j,af],af,?_]]
 refine#[by show 1<1000;decide,?_]
 refine q g [y,z] G _ (.refl _) (λc o e=>?_) (λc o B e=>?_) (λc _ C=>C) ?_ b ?_ k^.cons v^.cons x .nil
 .rw[ag^ao e k,ag^ao e k,ag^ao e u];exact l _ _ e
 .rw[ag^ao e b,ag^ao e b,ag B];exact e
 .rw[ag j,ag j,af]
 .rw[af];rfl
def Oy(c:Addr):B8:=λb P R=>∃(w:W)(a:List^List (Nat×Nat)),b= [.gw w]/\Good w/\1<=w.length/\w.length<=14/\RS w a/\(k7 w a->P .aS)/\(¬k7 w a->R^.err c ["counted"] [ym w a])
def zq:Dx P w base 6 T.u6^gH Z^Oy T.ve:=by
 have m:=qz.nd;refine m8 T.u6.F qz [0] ∅ (λi R j h=>by let⟨p,q,rfl,r⟩:=h;rfl)^λn A outer s H E i R j b h=>?_
 have o:=b.units;exists _,(av^dA (nP^mh^aL T.u5 (vM T) b^aa (U 0) ar) (av^tu rfl T.vo (CL T) b T.vl T.vf^aa (aL T.u4 (rD T) b^aa (U 0) ar) ar) bw);let⟨d,a,rfl,g,e,l14,f,k,l⟩:=h;refine#[_,rfl,d,a,rfl,g,e,l14,f,λc=>#[rfl,cO^k c],λc=>#[rfl,dD ?_]];exact#[_,rfl,d,a,rfl,g,e,l14,f,#[_,rfl],rfl,l c]
noncomputable def si(a:List^List (Nat×Nat))(t:Nat×Nat):Bool:=decide (bS a t=bS a (t.2,t.1))
def V6(c:Addr):B8:=λd P R=>∃(w:W)(a:List^List (Nat×Nat))(b:List (Nat×Nat)),d= [.gw w, .x^.eL (ql a)^jm 0 a]/\Tk w a b/\(∀t,b.find?^si a\t->R^.err c ["tie"] [pairD t])/\(b.find?^si a=none->P .aS)
def sA:Dx P w base 4 T.uh^gH Z^V6 T.vg:=by
 have q:=lM.nd;refine m8 T.uh.F lM [0,0,0,0] ∅ (λz R B h=>by obtain⟨_,_,_,rfl,_⟩:=h;rfl)^λaV A outer s H E z R B k h=>?_
 have d:=k.units;refine#[_,(av^dO rfl PassesOwn.leaving (b9^jC T.W (U 0) T.v7.m (kM T) (k.mono ∅) T.v7.b) (fS 2 rfl^aR (aN 2 q)^aR (aN 3 q) cW)^av^dA (cf (xG d) (zD d (U 1)^dN^aa (U 2)^aa (U 3) ar) (zD d (U 1)^dN^aa (U 3)^aa (U 2) ar)^bJ _) (av^tu rfl T.vr (HZ T) k T.vm T.vh^aa (dN^aa (U 2)^aa (U 3) ar) ar) bw),?_]
 let⟨f,a,ts,rfl,ok,C,G⟩:=h;have g:=ok.g;have L:=ok.rs.Ru g;have I:=ok.few;refine#[_,rfl,f,rfl,f,rfl,g,ok.h14,λc J M=>?_];obtain rfl:=ok.uniq J M;refine(?_:kj _ _ _ (c.map pairD) _);refine cw (λj N=>∃(l n:Option D),N= [some^.gw f,some^.x^.eL (ql a)^jm 0 a,l,n]/\(c.take j).find?^si a=none) #[_,_,rfl,rfl] ?_ ?_
 .rintro j _ _ O ⟨l,n,rfl,i⟩ A Q
  let⟨u,d,rfl⟩:=dF O;have r:ax f u:=BB^ok.pm.mem_iff.mp^cU d;have o:ax f (u.2,u.1):=g.sym _ _ r;let⟨S,X,t⟩:=qm a 0^(L.dart _).mpr r;let⟨Y,a2,v⟩:=qm a 0^(L.dart _).mpr o;have ya:c.take (j+1)=c.take j++ [u]:=by rw[qL,d];rfl
  have y:(c.take (j+1)).find?^si a= [u].find?^si a:=by rw[ya,List.find?_append,i];rfl
  exists rfl,rfl;refine#[_,rfl,_,rfl,_,rfl,by show 2<=sizeLine;decide,?_]
  rw[mD] at t v;exists zz u,ql a,jm 0 a,S,_,rfl,rfl,X,t;refine#[_,rfl,_,rfl,_,rfl,by show 2<=sizeLine;decide,?_]
  exists zz (u.2,u.1),ql a,jm 0 a,Y,_,rfl,rfl,a2,v;refine(?_:Po (.int (bS a u:Int)) (.int (bS a (u.2,u.1):Int)) _);refine uJ #[_,rfl,fT (λe=>?_)^λe=>?_]
  .have e:(bS a u:Int)=(bS a (u.2,u.1):Int):=KF e
   have p:si a u=true:=Gc ()
   refine#[_,rfl,_,rfl,by show 2<=sizeLine;decide,#[_,rfl],rfl,C u ?_]
   have:c.find?^si a=(c.take (j+1)++c.drop (j+1)).find?^si a:=by rw[gL]
   rw[this,List.find?_append,y,List.find?_cons,p];rfl
  .have e:¬(bS a u:Int)=(bS a (u.2,u.1):Int):=UF e
   have p:si a u=false:=GE ()
   exact Q _ #[_,_,rfl,by rw[y,List.find?_cons,p];rfl]
 .rintro _ ⟨l,n,rfl,i⟩
  rw[aI,y3] at i;exact G i
noncomputable def rp(l:List Nat):Nat:=l.foldl min^l.headD 0
theorem fold_min:∀(l:List Nat)(a:Nat),(l.foldl min a<=a/\∀x∈l,l.foldl min a<=x)/\(l.foldl min a=a\/l.foldl min a∈l)
 | [],a=>#[#[aZ _,λx h=>nomatch h], .inl rfl]
 |b::l,a=>by
  obtain⟨⟨i,f⟩,g⟩:=fold_min l^min a b;rw[afC];refine#[#[(),λx d=>?_],?_]
  .rcases b7.mp d with rfl|d
   .lia
   .exact f x d
  .rcases g with e|e
   .rw[e]
    by_cases c:a<=b
    .left;lia
    .right;rw[show min a b=b by lia];exact cF ..
   .exact .inr^dS _ e
theorem Ki(b:m∈l)(c:∀x∈l,m<=x):rp l=m:=by
 cases l with
 |nil=>cases b
 |cons a l=>
  obtain⟨⟨h,d⟩,f⟩:=fold_min (a::l) a
  have:rp (a::l)<=m:=d m b
  have g:rp (a::l)∈a::l:=f.elim (λe=>by(show(a::l).foldl min a∈_;rw[e];exact cF ..)) id
  have:=c _ g
  lia
theorem count_cast(y:Nat):∀l:List Nat,(l.map λ(n:Nat)=>(n:Int)).count (y:Int)=l.count y
 | []=>rfl
 |a::l=>by
  rw[cY,List.count_cons,List.count_cons,count_cast y l]
  congr 1
  by_cases c:a=y
  .subst c;simp
  .have:(a:Int)≠(y:Int):=()
   simp[c,this]
def gtC{P:D->Prop}(h:P^.bl (decide (j<i))):dC (.int j) a (λb=>dGt (.int i) b P):=h
noncomputable def jM(r:List Nat):List Nat:=r.filter λo=>decide (1<r.count o)
noncomputable def sC:List^List Nat->Nat->Option (Nat×Nat)
 | [],_=>none
 |r::a,n=>if jM r= [] then sC a (n+1) else some (n,rp^jM r)
def Eo{rows:List^List Nat}:∀(j n:Nat),j<=rows.length->(∀r∈rows.take j,jM r= [])->sC rows n=sC (rows.drop j) (n+j):=by
 induction rows with
 |nil=>intro j n h _;rw[show j=0 by simpa using h];rfl
 |cons r rows a=>
  intro j n h k;cases j with
  |zero=>rfl
  |succ j=>
   have e:jM r= []:=k r^by simp
   show(if jM r= [] then sC rows (n+1) else _)=_;rw[ir e,a j (n+1) (~~~h) λr b=>k r^by simp[b],List.drop_succ_cons,show n+1+j=n+(j+1) by lia]
def Ut(h:jM r= []):r.Nodup:=by
 rw[List.nodup_iff_count];intro a;apply FM;intro z;have b:a∈r:=aeZ.mp ()
 have:a∈jM r:=qR.mpr #[b,Gc ()]
 rw[h] at this;cases this
theorem x9:∀{a:List^List Nat}{n:Nat},sC a n=none->∀r∈a,r.Nodup
 | [],n,_,r,b=>nomatch b
 |s::a,n,h,r,b=>by
  unfold sC at h
  split at h
  .next e=>
   rcases b7.mp b with rfl|b
   .exact Ut e
   .exact x9 h r b
  .cases h
def V7(c:Addr):B8:=λb P R=>∃(a:List^List Nat),b= [bz a]/\a.length<=300/\(∀r∈a,r.length<=300)/\(∀n m,sC a 0\(n,m)->R^.err c ["one","other"] [az n,az m])/\(sC a 0=none->P .aS)
def pC:Dx P w base 4 T.ui^gH Z^V7 T.vi:=by
 have g:=jT.nd;refine m8 T.ui.F jT [0,0,0,0] ∅ (λI R J h=>by let⟨K,rfl,V⟩:=h;rfl)^λaV A outer s H E I R J b h=>?_
 have hu:=b.units
 refine#[_,(av^dO rfl PassesOwn.leaving (eY rfl T.B.enumerate^aa (U 0) ar) (fS 2 rfl^aR (aN 1 g)^aR (aN 2 g) cW)^aw (qY 3 (NC:= ["other","row"]) (src:= [none,some 2]) rfl g (uI^aq fA) #[rfl,rfl,trivial] (b9^U 2) (λ_ _ _=>(bQ 0 (show(["other","row"]:List eg).Nodup from by decide+kernel))) (λ_ _ _=>(Ah^cf RG (M8 (U 1)^U 0) bH^bJ _))^λ_ _ _=>(U 0))
   (av^dA (mh^U 3) (av^tu rfl T.vu (H0 T) b T.vn T.vj^aa (U 1)^aa (bC ((Pj rfl)) rfl T.B.min T7^aa (U 3) ar) ar) bw)),?_]
 let⟨rows,rfl,l3,L,M,N⟩:=h;exists _,rfl;refine(?_:kj _ _ _ (c9^rows.map aE) _);refine cw (λj ρ=>∃(i k p:Option D),ρ= [some^bz rows,i,k,p]/\∀r∈rows.take j,jM r= []) #[_,_,_,rfl,λr b=>by simp at b] ?_ ?_
 .rintro j d _ O ⟨i,k,p,rfl,c⟩ A Q
  let⟨x,q,rfl⟩:=lq O;let⟨r,b,rfl⟩:=dF q;have S:=cU b;have rl:=L r S;have X:rows.take (j+1)=rows.take j++ [r]:=by rw[qL,b];rfl
  exists rfl,rfl;exists _,rfl;refine vA (ρ:= [none,some^aE r]) az (λo=>decide (1<r.count o)) az r _ [] _ (λy hy Y Nn t1 t2=>?_) #[none,rfl] (small^by rw[sX];lia) λaJ=>#[trivial,?_]
  .refine#[_,rfl,r.map λ(n:Nat)=>(n:Int),by rw[cZ];rfl,_,rfl,y,rfl,?_]
   rw[count_cast];exact gtC #[_,rfl,fT (λe=>#[_,rfl,t1^Gc^by have:(1:Int)<((r.count y:Nat):Int):=KF e;lia])^λe=>t2^GE^by have:¬(1:Int)<((r.count y:Nat):Int):=UF e;lia]
  rw[sY];have t:(r.filter λo=>decide (1<r.count o))=jM r:=rfl;rw[t];refine#[_,rfl,rfl,fT (λe=>?_)^λe=>Q _ #[_,_,_,rfl,λu C=>?_]]
  .have e:Ex^aE^jM r=true:=e
   have ne:jM r≠ []:=λz=>by rw[z] at e;cases e
   have G:sC rows 0\(j,rp^jM r):=by
    have jl:=(cD.mp b).1;rw[Eo j 0 () c,mD,qN jl,(cD.mp b).2]
    unfold sC;rw[mo ne]
   refine#[_,rfl,_,rfl,(jM r).map λ(n:Nat)=>(n:Int),by rw[cZ];rfl,λz=>ne^List.map_eq_nil_iff.mp z,λn hn hm=>?_]
   let⟨m,v,rfl⟩:=bR.mp hn;have em:rp^jM r=m:=Ki v λx q=>by have:=hm _^aeP (f:=λ(n:Nat)=>(n:Int)) q;lia
   rw[em] at G;exact#[#[_,_,rfl],rfl,M j m G]
  .rw[X] at C
   rcases bF.mp C with z|z
   .exact c u z
   .rw[bW] at z
    subst z;have e:Ex^aE^jM u=false:=e;cases t:jM u with
    |nil=>rfl
    |cons a l=>rw[t] at e;cases e
 .rintro _ ⟨i,k,p,rfl,c⟩
  rw[gF,aI] at c
  have:=Eo (rows:=rows) rows.length 0 (aZ _) c
  rw[yV^aZ _] at this;exact N this
end wK
namespace L2
open PySem PySem.Spec PyProof.Rows
section
variable {Z:DC} {X:Cx} {md:List Nat} {rn k j:Nat} {f:Addr} {fd:FuncData} {ps:List Str} {t:iE} {e:Expr} {es:List Expr} {x:Str} {p pos aY:Pos}
def Er(c:Addr):B8:=λa P R=>∃(p:Addr)(w:List^List Nat),a= [.obj p,bz w]/\14<w.length/\w.length<100/\R^.err c [] []
def Ju(b:List Nat)(c:Addr)(t:iE):eG:=λE a=>t (cX b a) λd=>∃w,d= [bz w]/\((Wb.Good w/\1<=w.length/\w.length<=14/\E.rt^.gw w)\/(14<w.length/\w.length<100/\E.xc a^.err c [] []))
theorem EZ(M:Mk Z.K Z.C f)(F:FnOk X.prog X.w X.K X.mg X.base fM k f fd ps^Bo Z)(F':FnOk X.prog X.w X.K X.mg X.base (r8 X.prog X.w) k f fd ps^gH Z^Er c)(hr:b8 j X.A)(hm:X.mg x\(.ref Z.C))(i:Binds X.K fd ps [])
  (ha:DA Z X (e::s) t) (eK:X.K=Z.K<|>zn) (n:Gl X x<|>zn) (hk:k+1<=j<|>xx) (fC:(x==("__debug__":eg))=false<|>zm) (he:d4 (e::s) X.env=(false,f7 e X.env)::d4 s X.env<|>zn) (cR:(gd aY^d4 s X.env).any (·.1)=false<|>zn):
  DSt Z X md 0 (.Return (some^.Call (.Name x p) (e::s) [] aY) pos)^Ju md c t:=by
 refine(iB^N8 (by rw[eK];exact M) ((FnOk.up F).or F') (hr.mono hk) n hm i ha fC he cR).imp ?_
 intro D σ H aP;rfl';obtain⟨B,ρ,E,⟨G,fp,S⟩,h,M⟩:=aP;ac_rfl;exists G,_,_,S.ex.sub,S.uO,h;rintro _ ⟨w,rfl,hw⟩ vs u I q J p y r lV ne;cases J with
 | @cons v _ _ _ dv J=>
  cases J;have O:=S.grow q;have uV:upd I y (.own p) p=none:=by rw[ag^Ne.symm ne];exact r
  have l:=(aA lV^.own p).trans^aA uV^.ins Z.C y []
  rcases hw with ⟨g,P,h14,q1⟩ | ⟨h14,L,q2⟩
  .refine .inl #[p,y,v,u,w,rfl,af,q.sub.trans l,q.sub.free r,dv,g,P,h14,λR Q H2 g1 g2 kp off NH N=>#[rfl,?_]]
   have T:Q p=none:=off p (by rw[af];exact λz=>nomatch z)^q.sub.free r
   have m:Ext u I (upd Q p^.ins Z.C y [("rows", .ref R)]) H2:=by
    refine#[g1.trans^aA T _,λb o e=>?_,λb o e=>?_,λb i n=>?_]
    .by_cases z:b=p
     .subst z;rw[af] at e;cases e;exact NH
     .rw[ag z] at e;exact g2 _ _ e
    .exact kp b o (l _ _ e)^ao e r
    .have nb:b≠p:=λz=>i^by rw[z];exact r
     rw[ag nb];exact off b (fI l i) n
   exact M.rt _ q1 _ [] _ _ ((O.grow m).ex) #[.gw af (N.mono^aA T _) g P h14,rfl] iV^λb i=>by cases i
  .refine .inr #[u,[.obj p,bz w],λ_=>False,λd=>d= .err c [] [],q.sub.trans l, .cons (.obj p)^.cons dv .nil,#[p,w,rfl,h14,L,rfl],λd z=>z.elim,?_]
   rintro _ rfl a Y H' m N;have x3:Ext u I Y H':=#[m.gg,m.sub,l.trans m.hh,λb i n=>m.off b (fI l i) n];exact#[a,rfl,M.xc ρ _ q2 σ H' Y fp a (O.grow x3) N]
end
end L2
namespace wK
open PySem L2 Wb
variable {P:Program} {w:World} {mg:Str->Option Value} {base:Heap} {Z:DC} (T:Txt Z mg)
def vJ:FnOk P w Z.K mg base (r8 P w) 5 T.v0 T.v1 ["self","turns"]^gH Z^Er T.vc:=by
 have j:=hJ.nd;refine m8 T.v2 hJ [0,0,0,0] ∅ (λc R d h=>by let⟨m,n,rfl,o⟩:=h;rfl)^λk A outer s H E c R d e h=>?_
 have l:=e.units
 refine#[_,aw
   (dA (nP^Dj AU AU bH (bC fw rfl T.B.len fu^aa (U 1) ar)^wR rfl T.y1) (av^JA rfl T.vy T.vk T.vd (wR rfl T.y1)^bC fw rfl T.B.len fu^aa (U 1) ar) bw)
  dss_never,?_]
 let⟨p,a,rfl,h14,f,q⟩:=h;have b:(a.map aE).length=a.length:=aI _;have g:D.bl (decide ((1:Int)<=((a.map aE).length:Int)))= .bl true:=IR D.bl^Gc^by rw[b];lia
 have i:D.bl (decide (((a.map aE).length:Int)<=14))= .bl false:=IR D.bl^GE^by rw[b];lia
 refine#[_,rfl,true,g,dD #[false,i,dD ?_]];exact#[14,rfl,∅,∅,_,rfl,((a.map aE).length:Int),rfl,(),by rw[b];lia,q]
def Crs(w:W)(a:List^List (Nat×Nat))(b:List (Nat×Nat))(A:Prop)(B:Nat×Nat->Prop)(C:Nat->Nat->Prop)(D E:Prop):Prop:=
 (¬k7 w a->A)/\(k7 w a->(∀t,b.find?^si a\t->B t)/\(b.find?^si a=none->(∀n m,sC (bE a) 0\(n,m)->C n m)/\(sC (bE a) 0=none->(14<a.length->D)/\(a.length<=14->E))))
def Te(c d e f:Addr):B8:=λg P R=>∃(w:W)(a:List^List (Nat×Nat))(b:List (Nat×Nat)),g= [.gw w]/\Tk w a b/\Crs w a b (R^.err c ["counted"] [ym w a]) (λt=>R^.err d ["tie"] [pairD t]) (λn m=>R^.err e ["one","other"] [az n,az m]) (R^.err f [] []) (Good^bE a->P^.gw^bE a)
theorem DB:∀l:List^List (Nat×Nat),(∀r∈l,2<=r.length)->2*l.length<=l.flatten.length
 | [],_=>aZ _
 |r::l,h=>by
  have:=DB l λr a=>h r^dS _ a
  have:=h r (cF ..)
  rw[cJ,iS,dJ];lia
def Tk.lands{w:W}(h:Tk w a b):a.length<100:=by
 have:=h.rounds.1
 rcases h.rs with ⟨_,rfl⟩ | ⟨_,R,_⟩
 .decide
 .have:=DB a λr c=>by
   obtain⟨d,e,f,_⟩:=R.rnd r c;exact Ir h.g e f
  lia
def w6{w:W}(g:Good w)(h:2<=w.length):∃d,ax w d:=by
 cases g.con 1 () with
 |step _ a=>exact#[(_,1),a]
def AQ{w:W}(ok:Tk w a f)(h:f.find?^si a=none):∀d,ax w d->bS a d≠bS a (d.2,d.1):=λd i e=>by
 have g:=ok.g;have irr:=jL g i
 have all:∀t∈f,¬bS a t=bS a (t.2,t.1):=λt j=>by
  have:=BR.mp h t j
  unfold si at this;simpa using this
 have b:∀t:Nat×Nat,ax w t->t.1<t.2->t∈f:=λt dt lt=>ok.pm.mem_iff.mpr^by rw[gK];exact qR.mpr #[aD.mpr dt,Gc lt]
 by_cases c:d.1<d.2
 .exact all d (b d i c) e
 .exact all (d.2,d.1) (b _ (g.sym d.1 d.2 i)^by show d.2<d.1;lia) e.symm
def RS.ne{w:W}{a:List^List (Nat×Nat)}(h:RS w a):∀r∈a,r= []->a.length=1:=λr b e=>by
 rcases h with ⟨_,rfl⟩ | ⟨_,R,_⟩
 .rfl
 .obtain⟨d,c,_⟩:=R.rnd r b
  have:=c.first
  rw[e] at this;cases this
def vK:Dx P w base 7 T.uj^gH Z^Te T.ve T.vg T.vi T.vc:=by
 have q:=yJ.nd;refine m8 T.uj.F yJ [0,0,0] ∅ (λN R O h=>by let⟨D,K,V,rfl,W⟩:=h;rfl)^λaV A outer s H E N R O b h=>?_
 have Q:=b.units
 refine#[_,(aw (wX T.u6 (zq T) b^aa (U 0) ar)
   (aw (cz false 1 q^aL T.ug (xO T) b^aa (U 0) ar)
   (aw (wX T.uh (sA T) b^aa (U 0)^aa (U 1) ar)
   (aw (qY 2 (NC:= ["land","number_of"]) (src:= [none,some 1]) rfl q (uI^aq oE) #[rfl,rfl,trivial] (b9^aL T.u3 (rF T) b^aa (U 0) ar) (λ_ _ _=>(bQ 0 (show(["land","number_of"]:List eg).Nodup from by decide+kernel))) (λ_ _ _=>eZ)^λ_ _ _=>(pM (NC:= ["p","q","number_of"]) (src:= [none,none,some 1]) rfl aaS #[rfl,rfl,trivial] (b9^aL T.uf (vN T) b^aa (U 0) ar) (λ_ _ _=>(qV 2 rfl^eQ (bQ 0 (show(["p","q","number_of"]:List eg).Nodup from by decide+kernel))^eQ (bQ 1 (show(["p","q","number_of"]:List eg).Nodup from by decide+kernel)) mZ)) (λ_ _ _=>eZ)^λ_ _ _=>(zD Q (U 2)^dN^aa (U 1)^aa (U 0) ar)))
   (aw (wX T.ui (pC T) b^aa (U 2) ar)
   (av^EZ T.v3 ((nq T).mono ∅) (vJ T) b T.mC T.v4^aa (U 2) ar)))))),?_]
 let⟨e,f,S,rfl,ok,X,i⟩:=h;have g:=ok.g;have L:=ok.rs.Ru g;let⟨f1,t,f3⟩:=ok.rounds;have f4:=ok.lands;refine#[_,rfl,e,f,rfl,g,ok.h1,ok.h14,ok.rs,λpl=>?_,X];let⟨i,j⟩:=i pl;refine#[_,rfl,e,rfl,g,ok.h1,ok.h14,λa aF=>#[trivial,?_]];obtain rfl:=aF.uniq g ok.rs;refine#[_,rfl,_,rfl,e,a,S,rfl,ok,i,λu=>?_];let⟨j,k⟩:=j u;exists _,rfl;dsimp only[l8];refine AD g ok.h1 ok.h14 ok.rs λv m ll l3=>?_;refine nZ (ρ:= [none,some^.x^.eL (ql a)^jm 0 a]) aE (λl=>aE ((kQ l).map λd=>bS a (d.2,d.1))) v _ (λl n Y o=>?_) rfl (small ()) λy=>#[trivial,?_]
 .refine#[_,rfl,l,rfl,l3 l n,?_]
  have sub:∀d∈kQ l,ax e d:=λd p=>(L.dart d).mp^jX.mpr #[kQ l,by rw[<-m];exact aeP n,p]
  have sl:(kQ l).length<=196:=t _^by rw[<-m];exact aeP n
  refine mm (λρ=>∃z B,ρ= [z,B,some^.x^.eL (ql a)^jm 0 a]) pairD (λ_=>true) (λd=>az^bS a (d.2,d.1)) (kQ l) _ [] _ (λd p y C Y2 Nn h1 h2=>?_) #[none,none,rfl] (small^by rw[sX];lia) λy C=>?_
  .obtain⟨z,B,rfl⟩:=C
   let⟨j1,a1,G⟩:=qm a 0^(L.dart (d.2,d.1)).mpr^g.sym d.1 d.2^sub d p;rw[mD] at G;exists rfl,rfl;unfold mX;dsimp only;rw[ir rfl];exact#[_,rfl,_,rfl,_,rfl,by show 2<=sizeLine;decide,zz (d.2,d.1),ql a,jm 0 a,j1,_,rfl,rfl,a1,G,h1 _ #[_,_,rfl] rfl]
  .rw[sY,List.filter_eq_self.mpr λ_ _=>rfl]
   unfold aE at o;rw[cZ] at o;exact o
 have er:v.map (λl=>aE ((kQ l).map λd=>bS a (d.2,d.1)))=(bE a).map aE:=by
  have I:=IR (List.map λr=>aE (r.map λd=>bS a (d.2,d.1))) m;rw[cZ] at I;unfold bE;rw[cZ];exact I
 rw[er];have cl:(bE a).length=a.length:=aI _;refine#[_,rfl,bE a,rfl,(),λr b=>?_,j,λJ=>?_]
 .obtain⟨r',fk,rfl⟩:=bR.mp b
  rw[aI]
  have:=t r' fk;lia
 let⟨k,q5⟩:=k J;have M:=Pm g L ok.rs.ne (AQ ok u)^x9 J;exists _,rfl,bE a,rfl
 by_cases c:14<a.length
 .exact .inr #[(),(),k c]
 .refine .inl #[M,?_,(),q5 () M]
  rcases ok.rs with ⟨_,rfl⟩ | ⟨n2,R,_⟩
  .decide
  .obtain⟨d,dd⟩:=w6 g n2
   let⟨r,b,D⟩:=jX.mp^(L.dart d).mpr dd
   have:=jh b
   lia
end wK
namespace L2
open PySem PySem.Spec PyProof.Rows
section
variable {P:Program} {w:World} {K:ad} {mg:Str->Option Value} {base:Heap} {Z:DC} {k:Nat} {f:Addr} {fd:FuncData} {ps:List Str}
def Qc(F:FnOk P w K mg base (r8 P w) k f fd ps^gH Z d):FnOk P w K mg base fM k f fd ps (aU Z λa P=>d a P λ_=>False):=
 #[λc H Q E #[G,a,P,s,dv,h,q]=>F.len c H Q (λ_ _ _=>False) #[G,a,P,λ_=>False,s,dv,h,q,λ_ z=>z.elim],
  λA outer s H b i c Q E j l m n #[G,a,P,g,dv,h,q]=>adq (F.run A outer s H b i c Q (λ_ _ _=>False) j l m n #[G,a,P,λ_=>False,g,dv,h,q,λ_ z=>z.elim]) λr g q=>by
  cases r with
  |error e=>let⟨p,t,u,v,z⟩:=q;exact z
  |ok o=>cases o<;>exact q]
end
end L2
namespace Wb
noncomputable def nN(a:List^List (Nat×Nat))(d:Nat×Nat):Nat×Nat:=(bS a d,bS a (d.2,d.1))
noncomputable def h7(w:W)(p i:Nat):Nat×Nat:=(p,(row w p).getD (i%(row w p).length) 0)
def eU{p i:Nat}(h:0<(row w p).length):ax w^h7 w p i:=by
 show(row w p).getD (i%(row w p).length) 0∈row w p;rw[bO,bA^kE _ h];exact iT _
def MC(h:q∈row w p):h7 w p^(row w p).idxOf q=(p,q):=by
 have l:=Jd h;unfold h7;rw[kC l,bO,bA l,uE,qQ]
def AS(g:Good w){p i:Nat}(h:0<(row w p).length):bq w ((h7 w p i).2,(h7 w p i).1)=h7 w p (i+1):=by
 have a:=kE i h;unfold bq aO h7;dsimp only
 rw[show(row w p).idxOf^(row w p).getD (i%(row w p).length) 0=i%(row w p).length by
  rw[bO,bA a,uE];exact ad8 (g.nod p) _ a,Nat.mod_add_mod]
def SX(g:Good w)(h:0<(row w p).length)(e:h7 w p i=h7 w p j):i%(row w p).length=j%(row w p).length:=by
 have e:(row w p).getD (i%(row w p).length) 0=(row w p).getD (j%(row w p).length) 0:=(GT e).2;have a:=kE i h;have b:=kE j h;rw[bO,bO,bA a,bA b] at e;exact(aee a^g.nod p).mp^by rw[bA a,bA b];exact IR some e
def OD{e d:Nat×Nat}{f:Nat×Nat->Nat}(h:dm w e r)(g:(r.map f).Nodup)(j:d∈r):aO (r.map f)^f d=f^bq w d:=by
 let⟨i,b⟩:=B0.mp j;let⟨a,k⟩:=cD.mp b;have l:i<(r.map f).length:=by rw[aI];exact a
 have n:(r.map f).idxOf^f d=i:=by
  have:=ad8 g i l
  rw[BV,k] at this;exact this
 have m:=kE (i+1)^nI (eB _) a;have c:=Bc h a;rw[bO,bO,b,bA m] at c;unfold aO;rw[n,aI,bO,cL,bA m];exact IR f c
structure Du (w:W) (rss aF:List^List (Nat×Nat)):Prop where
 g:Good w
 L:kg w rss
 R:∀k d,d∈rss.getD k []->∃d0,dm w d0 (rss.getD k [])
 nd:∀k,(row (bE rss) k).Nodup
 gc:Good (bE rss)
 L':kg (bE rss) aF
 R':∀r∈aF,∃d,dm (bE rss) d r/\ax (bE rss) d
 nb:∀d,ax w d->bS rss d≠bS rss (d.2,d.1)
def He(D:Du w a b)(h:ax w d):ax (bE a)^nN a d:=by
 show bS a (d.2,d.1)∈row (bE a)^bS a d;rw[mv];exact bR.mpr #[d,(D.L.num h).2,rfl]
def Mn(D:Du w a e)(h:ax w d):bq (bE a)^nN a d=nN a^bq w (d.2,d.1):=by
 have b:ax w (d.2,d.1):=D.g.sym _ _ h;have c:=(D.L.num b).2;let⟨j,i⟩:=D.R _ _ c;have n:=D.nd^bS a (d.2,d.1)
 have:=OD (d:=(d.2,d.1)) (f:=λd=>bS a (d.2,d.1)) i (by rw[<-mv];exact n) c
 rw[<-mv] at this;show(bS a (d.2,d.1),aO (row (bE a)^bS a (d.2,d.1))^bS a d)=_;rw[show aO (row (bE a)^bS a (d.2,d.1))^bS a d=_ from this];exact UV (D.L.next b).symm rfl
def EW(D:Du w a g)(h:ax w d)(k:ax w e)(q:nN a d=nN a e):d=e:=by
 let⟨l,m⟩:=GT q;have n:=D.nd^bS a d;rw[mv] at n;have o:=(D.L.num h).2;have b:=(D.L.num k).2;rw[<-l] at b;let⟨i,c⟩:=B0.mp o;let⟨j,f⟩:=B0.mp b;let⟨p,r⟩:=cD.mp c;let⟨u,s⟩:=cD.mp f;have t:i<((a.getD (bS a d) []).map λd=>bS a (d.2,d.1)).length:=by rw[aI];exact p
 have:i=j:=(aee t n).mp^by rw[cL,cL,c,f];exact IR some m
 subst this;rw[<-r,<-s]
def LS(D:Du w a b)(h:ax (bE a) e):∃d,ax w d/\nN a d=e:=by
 have h:e.2∈row (bE a) e.1:=h;rw[mv] at h;obtain⟨d,c,f⟩:=bR.mp h;obtain⟨g,i⟩:=D.L.at_ c;exact#[d,g,UV i f]
theorem zJ(D:Du w a b)(h:0<(row w p).length):∀j,br (bE a) j^nN a^h7 w p i=nN a^h7 w p (i+j)
 |0=>rfl
 |j+1=>by
  show bq (bE a)^br (bE a) j _=_;rw[zJ D h j,Mn D^eU h,AS D.g h];rfl
def Du.round(D:Du w a l)(o:r∈l):∃p i,0<(row w p).length/\i<(row w p).length/\r=(aj (row w p).length).map λj=>nN a^h7 w p (i+j):=by
 obtain⟨u,⟨k,v,b,m,rfl⟩,d⟩:=D.R' r o;obtain⟨⟨p,q⟩,s,rfl⟩:=LS D d;have f:q∈row w p:=s;have h:=jh f;have n:=Jd f;exists p,(row w p).idxOf q,h,n;rw[<-MC f] at b m ⊢;rw[zJ D h] at b;have e:=SX D.g h^EW D (eU h) (eU h) b
 have x:¬(row w p).length<k:=λc=>m _ h c (by
  rw[zJ D h];unfold h7;rw[Nat.add_mod_right])
 have t:k=(row w p).length:=by
  apply FM;intro c;have c:k<(row w p).length:=()
  rw[kC n] at e
  by_cases z:(row w p).idxOf q+k<(row w p).length
  .rw[kC z] at e;lia
  .rw[Nat.mod_eq_sub_mod (),kC ()] at e;lia
 subst t;unfold walk;exact yX λj _=>zJ D h j
noncomputable def j7(w:W)(a b:List^List (Nat×Nat))(p:Nat):Nat:=bS b^nN a^h7 w p 0
theorem vR(D:Du w a b)(h:0<(row w p).length):∀i,bS b^nN a^h7 w p i=j7 w a b p
 |0=>rfl
 |i+1=>by
  rw[<-vR D h i,<-D.L'.next^He D^eU (i:=i) h,Mn D^eU h,AS D.g h]
def A5(D:Du w a b){p q:Nat}(h:q∈row w p):bS b^nN a (p,q)=j7 w a b p:=by
 rw[<-MC h];exact vR D (jh h) _
def kU(D:Du w a b)(h:0<(row w p).length):j7 w a b p<b.length/\∃i,i<(row w p).length/\b.getD (j7 w a b p) []=(aj (row w p).length).map λj=>nN a^h7 w p (i+j):=by
 have f:=He D^eU (i:=0) h;let⟨d,c⟩:=D.L'.num f;exists d
 have g:b.getD (j7 w a b p) []∈b:=by
  rw[bO,bA (show j7 w a b p<_ from d)];exact iT _
 let⟨k,i,l,m,e⟩:=D.round g;have c:nN a^h7 w p 0∈b.getD (j7 w a b p) []:=c;rw[e] at c;let⟨j,o,n⟩:=bR.mp c
 have:k=p:=(GT^EW D (eU l) (eU h) n).1
 subst this;exact#[i,m,e]
def FR(D:Du w a b){p q:Nat}(d:0<(row w p).length)(c:0<(row w q).length)(e:j7 w a b p=j7 w a b q):p=q:=by
 let⟨l,i,n,f⟩:=kU D d;let⟨l,j,n,g⟩:=kU D c;rw[e,g] at f;have m:nN a^h7 w q (j+0)∈(aj (row w q).length).map λk=>nN a^h7 w q (j+k):=bR.mpr #[0,d9.mpr c,rfl];rw[f] at m;let⟨k,l,h⟩:=bR.mp m;exact(GT^EW D (eU d) (eU c) h).1
def Ij(D:Du w a b)(c:k<b.length):∃p,p<w.length/\0<(row w p).length/\j7 w a b p=k:=by
 have d:b[k]∈b:=iT _;obtain⟨p,i,h,g,e⟩:=D.round d;obtain⟨x,f⟩:=List.exists_mem_of_length_pos h;exists p,bZ f,h;rw[<-vR D h (i+0)];refine(D.L'.at_ ?_).2;rw[bO,bA c,uE,e];exact bR.mpr #[0,d9.mpr h,rfl]
def jV{l:List a}{d:a}(h:i<=l.length)(f:a->b):((aj l.length).map λj=>f^l.getD ((i+j)%l.length) d)=(l.map f).drop i++(l.map f).take i:=by
 refine ph λj=>?_;rw[cL]
 by_cases c:j<l.length
 .have pos:0<l.length:=()
  rw[nH c,uF,bO,bA^kE _ pos,uE]
  by_cases z:i+j<l.length
  .rw[iR^by rw[ji,aI];lia,yY,cL,bA z]
   simp only[kC z];rfl
  .rw[jg^by rw[ji,aI];lia,ji,aI,BQ,ir (),cL]
   have e:(i+j)%l.length=j-(l.length-i):=by rw[Nat.mod_eq_sub_mod (),kC ()];lia
   simp only[e];rw[bA ()];rfl
 .rw[fJ^by rw[jx];lia,fJ^by rw[dJ,ji,hV,aI];lia];rfl
noncomputable def mW(w:W)(a:List^List (Nat×Nat))(p:Nat):List Nat:=(row w p).map λq=>bS a (p,q)
def KI(D:Du w a b)(h:0<(row w p).length):∃i,i<(row w p).length/\(b.getD (j7 w a b p) []).map (·.1)=(mW w a p).drop i++(mW w a p).take i:=by
 obtain⟨_,i,c,e⟩:=kU D h;exists i,c;rw[e,cZ];exact jV (lR c) λq=>bS a (p,q)
def SN(h:dm w a r)(b:0<r.length):r.getD 0 (0,0)=((r.map (·.1)).getD 0 0,(r.map (·.1)).getD (1%r.length) 0):=by
 have e:=Bc h b;rw[rf,rf,show 1%r.length=(0+1)%r.length from rfl,e];rfl
theorem yQ{l:List Nat}(a:i<l.length)(b:j<l.length):(l.drop i++l.take i).getD j 0=l.getD ((i+j)%l.length) 0:=by
 have:=jV (l:=l) (d:=0) (lR a) id
 rw[List.map_id] at this;rw[<-this,bO,cL,nH b];rfl
def SK(D:Du w a b)(h:0<(row w p).length)(i:Nat):bS a ((h7 w p i).2,(h7 w p i).1)=bS a^h7 w p (i+1):=by
 have:=D.L.next (d:=((h7 w p i).2,(h7 w p i).1))^D.g.sym _ _^eU h
 rw[AS D.g h] at this;exact this.symm
def Sn(D:Du w a b)(h:0<(row w p).length)(d:k<b.length)(n:i<(row w p).length)(e:(b.getD k []).map (·.1)=(mW w a p).drop i++(mW w a p).take i):k=j7 w a b p:=by
 have c:(mW w a p).length=(row w p).length:=aI _
 have g:b.getD k []∈b:=by
  rw[bO,bA d];exact iT _
 let⟨o,j,q⟩:=D.R' _ g
 have len:(b.getD k []).length=(row w p).length:=by
  have:=IR cI e
  rw[aI,dJ,ji,hV,c] at this;lia
 have f:=SN j ()
 have at_:∀x,(mW w a p).getD (x%(mW w a p).length) 0=bS a^h7 w p x:=λx=>by
  have l:=kE x h;unfold mW h7;rw[aI,bO,cL,bO,bA l];rfl
 rw[e,len,yQ () (),yQ ()^by rw[c];exact kE _ h,at_,at_] at f
 have m:(b.getD k []).getD 0 (0,0)=nN a^h7 w p i:=by
  rw[f];refine UV rfl ?_;show bS a^h7 w p (i+1%(row w p).length)=bS a ((h7 w p i).2,(h7 w p i).1);rw[SK D h];unfold h7;rw[Nat.add_mod_mod]
 rw[<-vR D h i,<-m];refine((D.L'.at_ ?_).2).symm;rw[bO (i:=0),bA ()];exact iT _
def C5(D:Du w a b)(h:0<(row w p).length):∃i,i<(row w p).length/\row (bE b)^j7 w a b p=((row w p).map^j7 w a b).drop i++((row w p).map^j7 w a b).take i:=by
 let⟨f,i,c,e⟩:=kU D h;exists i,c;rw[mv,e,cZ,<-jV (lR c) (j7 w a b) (d:=0)];refine yX λj _=>?_;show bS b^nN a ((h7 w p (i+j)).2,(h7 w p (i+j)).1)=_;rw[A5 D^D.g.sym _ _^eU h];rfl
def aai(D:Du w a b)(h:ax (bE a) e):bS b e≠bS b (e.2,e.1):=by
 let⟨d,c,rfl⟩:=LS D h;have f:ax w (d.2,d.1):=D.g.sym _ _ c;have i:=A5 D (p:=d.1) (q:=d.2) c;have j:=A5 D (p:=d.2) (q:=d.1) f;rw[i];show _≠bS b^nN a (d.2,d.1);rw[j];exact λz=>jL D.g c^FR D (jh c) (jh f) z
def aaj(D:Du w c d):∀r∈bE d,r.Nodup:=λr j=>by
 let⟨k,f,e⟩:=List.getElem_of_mem j;have l:k<d.length:=by unfold bE at f;rw[aI] at f;exact f
 let⟨p,t,h,rfl⟩:=Ij D l;let⟨i,s,m⟩:=C5 D h
 have:r=row (bE d)^j7 w c d p:=by
  unfold row;rw[bO,bA f];exact e.symm
 rw[this,m]
 have n:((row w p).map^j7 w c d).Nodup:=by
  rw[oY,iA]
  have:=D.g.nod p
  rw[oY] at this;exact this.imp_of_mem λ {a b} o q ne z=>ne^FR D (jh^D.g.sym _ _ o) (jh^D.g.sym _ _ q) z
 exact(wI.trans^by rw[gL]).nodup_iff.mpr n
def So(D:Du w c d)(f:∀p,p<w.length->0<(row w p).length):((aj w.length).map^j7 w c d).Perm^aj d.length:=by
 refine(qM ?_ uD).mpr λk=>?_
 .rw[oY,iA]
  have:=uD (n:=w.length)
  rw[oY] at this;exact this.imp_of_mem λ {a b} h i ne z=>ne^FR D (f a^d9.mp h) (f b^d9.mp i) z
 .rw[bR,d9]
  constructor
  .rintro⟨p,g,rfl⟩
   exact(kU D^f p^d9.mp g).1
  .intro j
   let⟨p,g,l,e⟩:=Ij D j;exact#[p,d9.mpr g,e]
open PySem PySem.Spec PyProof.Rows
def qD{le:d->d->Prop}(tr:∀a b c,le a b->le b c->le a c)(e:∀a b,le a b\/le b a)(l:List d):∃f:List d,f.Perm l/\f.Pairwise le:=by
 classical
 refine#[l.mergeSort λa b=>decide (le a b),List.mergeSort_perm _ _,?_]
 have:=List.pairwise_mergeSort (le:=λa b=>decide (le a b)) (λa b c h k=>Gc^tr a b c (KF h)^KF k) (λa b=>by simpa using e a b) l
 exact this.imp λh=>KF h
def yB(a b:List Nat):L2.hU a b\/L2.hU b a:=by
 unfold L2.hU;cases h:HT.lexLt (L2.iy b)^L2.iy a with
 |false=>exact .inl rfl
 |true=>
  right
  cases k:HT.lexLt (L2.iy a)^L2.iy b with
  |false=>rfl
  |true=>have:=L2.zL _ _ _ h k;rw[L2.vB] at this;cases this
def yC(a b c:List Nat)(h:L2.hU a b)(k:L2.hU b c):L2.hU a c:=by
 unfold L2.hU at*;cases e:HT.lexLt (L2.iy c)^L2.iy a with
 |false=>rfl
 |true=>
  rcases L2.HN _ (L2.iy b) _ e with z|z
  .rw[k] at z;cases z
  .rw[h] at z;cases z
def K2(g:Good w):∃d,bG w d/\(fO d).Pairwise L2.hU:=by
 let⟨f,l,srt⟩:=qD (le:=lexLe) (λ_ _ _=>kL) gW^aQ w;have all:∀e,ax w e->e∈f:=λe h=>l.mem_iff.mpr^aD.mpr h;have j:∀e∈f,ax w e:=λe h=>aD.mp^l.mem_iff.mp h
 have m:∀i,i<=f.length->∃d,Wk w f i d:=λi=>by
  induction i with
  |zero=>exact λ_=>#[[], .zero w f]
  |succ i n=>
   intro h;let⟨d,k⟩:=n ()
   have e:=bA (show i<f.length by lia)
   by_cases c:f[i]∈d.flatten
   .exact#[d,k.skip e c]
   .obtain⟨r,o⟩:=VV g^j _^iT (show i<f.length by lia)
    exact#[_,k.take g all j srt e c o]
 let⟨d,h⟩:=m f.length^aZ _;let⟨p,q,s⟩:=qD (le:=λa b:List (Nat×Nat)=>L2.hU (a.map (·.1))^b.map (·.1)) (λ_ _ _=>yC _ _ _) (λ_ _=>yB _ _) d;exists p,bG.AV #[h.rnd,h.fin g all] q;unfold fO;rw[iA];exact s
theorem Du.of{w:W}(g:Good w){a f:List^List (Nat×Nat)}(R:bG w a)(l:∀d,ax w d->bS a d≠bS a (d.2,d.1))(m:∀r∈bE a,r.Nodup)(i:Good^bE a)(j:bG (bE a) f):Du w a f:=by
 refine#[g, .of g R,λk d b=>?_,λk=>?_,i, .of i j,λr n=>?_,l]
 .rw[bO] at b ⊢
  cases e:a[k]? with
  |none=>rw[e] at b;cases b
  |some r=>
   let⟨o,c,q⟩:=R.rnd r^cU e;exact#[o,c]
 .by_cases h:k<(bE a).length
  .exact m _^cU^qk h
  .rw[Iw ()];exact iV
 .obtain⟨d,c,p,_⟩:=j.rnd r n
  exact#[d,c,p]
def Um(a:List^List (Nat×Nat)):fR^bE a=a.flatten.length:=by
 unfold bE
 induction a with
 |nil=>rfl
 |cons r a b=>
  have:∀l:W,fR (r.map (λd=>bS (r::a) (d.2,d.1))::l)=r.length+fR l:=λl=>by simp[fR]
  rw[cY,this,iS,dJ]
  congr 1
  have:=b
  unfold fR at this ⊢;rw[cZ] at this ⊢;rw[<-this]
  congr 1
  exact yX λc _=>by simp
def IQ(g:Good w):2*(fV (row w) w.length).length=fR w:=by
 have:=(z8 g^.refl _).length_eq
 rw[dJ,aI,jB] at this;lia
def SO(g:Good w)(h:2<=w.length)(b:p<w.length):0<(row w p).length:=by
 by_cases c:p=0
 .subst c
  cases(Reach.symm g.sym^g.con 1 ()) with
  |step _ a=>exact jh^g.sym _ _ a
 .cases g.con p b with
  |refl=>exact absurd rfl c
  |step _ a=>exact jh^g.sym _ _ a
end Wb
namespace wK
open PySem L2 Wb
variable {P:Program} {w:World} {mg:Str->Option Value} {base:Heap} {Z:DC} (T:Txt Z mg)
def Ia:Dk P w base 7 T.uj (aU Z λa P=>Te T.ve T.vg T.vi T.vc a P λ_=>False):=Qc^vK T
def O1{w:W}(g:Good w)(c:1<=w.length):∃a,RS w a:=by
 by_cases h:w.length=1
 .exact#[_, .inl #[h,rfl]]
 .obtain⟨b,R,s⟩:=K2 g
  exact#[b, .inr #[(),R,rj g R s]]
structure Made (w:W) (rss:List^List (Nat×Nat)) (ts:List (Nat×Nat)):Prop where
 nb:ts.find?^si rss=none
 ns:sC (bE rss) 0=none
 l14:rss.length<=14
 gc:Good^bE rss
def Tf:fh:=λc P=>∃(w:W)(a:List^List (Nat×Nat))(b:List (Nat×Nat)),c= [.gw w]/\Tk w a b/\k7 w a/\P .aS/\(Made w a b->P^.gw^bE a)
def xN:Dk P w base 8 T.uw^aU Z Tf:=by
 have a:=nB.nd;refine bx T.uw.F nB [0,0] ∅ (λg R h=>by let⟨u,v,x,rfl,y⟩:=h;rfl)^λq A outer s H E g R f h=>?_
 have r:=f.units
 refine#[_,(aw (cz false 1 a eX)
   (aw (Us (λ_ _=>by exact(av^PN 1 a T.uj (vK T) f^aa (U 0) ar)) bw^Ag T.vh T.vm (λ_=>by exact(av^cz false 1 a eX))^Ag T.vj T.vn (λ_=>by exact(av^cz false 1 a eX))^Ag T.vd T.vk (λ_=>by exact(av^cz false 1 a eX)) Uo)
   (av^aW^U 1))),?_]
 let⟨i,b,j,rfl,ok,pl,d,k⟩:=h;exists trivial;refine#[_,rfl,i,b,j,rfl,ok,λn=>absurd pl n,λ_=>#[λt e=>?_,λl=>#[λn m e=>?_,λo=>#[λc=>?_,λc p=>?_]]]]
 .exact#[T.vm.obj,true,(T.vt.m1 0 rfl),dD #[trivial,_,rfl,d]]
 .exact#[T.vn.obj,false,(T.vx.m0 1 rfl),cO #[true,(T.vx.m1 0 rfl),dD #[trivial,_,rfl,d]]]
 .exact#[T.vk.obj,false,(T.vz.m0 0 rfl),cO #[false,(T.vz.m0 1 rfl),cO #[true,(T.vz.m1 0 rfl),dD #[trivial,_,rfl,d]]]]
 .exact#[_,rfl,k #[l,o,c,p]]
noncomputable def jE(a b:List Nat):Bool:=decide (a=b) || (aj b.length).any λk=>decide (a=b.drop k++b.take k)
def Ao(h:i<b.length)(e:a=b.drop i++b.take i):jE a b=true:=by
 unfold jE;rw[BW,BU];exact .inr #[i,d9.mpr h,Gc e]
def Qp(h:jE a b=true)(c:0<b.length):∃i,i<b.length/\a=b.drop i++b.take i:=by
 unfold jE at h;rw[BW,BU] at h
 rcases h with h| ⟨i,d,e⟩
 .exact#[0,c,by have:=KF h;rw[List.drop_zero,y4,fe];exact this]
 .exact#[i,d9.mp d,KF e]
def V4:fh:=λc P=>∃(a b:List Nat),c= [aE a,aE b]/\b.length<=300/\P^.bl^jE a b
def kq:Dk P w base 1 T.ux^aU Z V4:=by
 have r:=kz.nd;refine bx T.ux.F kz [0,0] ∅ (λm R h=>by let⟨x,y,rfl,z⟩:=h;rfl)^λt A outer s H E m R n h=>?_
 have d:=n.units;refine#[_,(av^aW^Yp (zC (xG d) (U 0) (U 1)^bJ _)^LW^zC (Vn d) (U 0) (pM (NC:= ["_law_k","_law_other"]) (src:= [none,some 1]) rfl (uI^aq fU) #[rfl,rfl,trivial] (Jy rfl T.B.range^aa (bC fw rfl T.B.len fu^aa (U 1) ar) ar) (λ_ _ _=>(bQ 0 (show(["_law_k","_law_other"]:List eg).Nodup from by decide+kernel))) (λ_ _ _=>eZ)^λ_ _ _=>(jZ mq (mY (U 1) (pP^U 0) pO)^mY (U 1) pO^pP^U 0))^by with_unfolding_all rfl),?_]
 let⟨a,b,rfl,u,q⟩:=h;refine#[_,rfl,_,rfl,Pp #[_,rfl,?_]]
 by_cases c:a=b
 .have e:jE a b=true:=by unfold jE;rw[Gc c];rfl
  rw[e] at q;rw[Gc c];exact dD q
 .rw[GE c]
  refine cO ?_;have o:(b.map az).length=b.length:=aI _;exists _,rfl,_,rfl;refine#[#[by show(-2<<<62:Int)<=((b.map az).length:Int);lia,by show((b.map az).length:Int)<2<<<62;lia],?_]
  refine(?_:lcW _ _ _ (gZ 0 ((b.map az).length:Int).toNat) _ _ _);rw[lP,o,Bb];refine nZ (ρ:= [none,some^aE b]) az (λk=>aE (b.drop k++b.take k)) (aj b.length) _ (λk f Y i=>?_) rfl (small^by rw[jx];lia) λv=>?_
  .have f:=d9.mp f
   have j:cutD (b.map az) (some (k:Int)) none=(b.drop k).map az:=by rw[Ae _ _ (),ael]
   have l:cutD (b.map az) none^some (k:Int)=(b.take k).map az:=by rw[tq _ _ (),yg]
   have p:(.lst (cutD (b.map az) (some (k:Int)) none++cutD (b.map az) none^some (k:Int)):D)=aE (b.drop k++b.take k):=by rw[j,l];unfold aE;rw[dk]
   rw[<-p] at i;exists _,rfl,_,rfl,_,rfl,_,rfl;exact#[small^by rw[show cutD (b.map az) (some (k:Int)) none=_ from j,show cutD (b.map az) none^some (k:Int)=_ from l,aI,aI,ji,hV];lia,i]
  refine#[_,_,rR a,tV (g:=λk=>mr (b.drop k++b.take k)) (λk=>rR _) _,by have:=pN a;lia,?_]
  have e:((aj b.length).map λk=>mr (b.drop k++b.take k)).any (λe=>PyData.eqv e^mr a)=jE a b:=by
   unfold jE;rw[GE c,Bool.false_or,List.any_map];refine IR _ (funext λk=>?_);show PyData.eqv (mr (b.drop k++b.take k))^mr a=_;rw[Ak];exact adX.mpr eq_comm
  rw[mo dZ,e];exact q
def Nd(w:W):c9^w.map aE=(aj w.length).map λ(j:Nat)=>D.tup [.int (j:Int),aE^row w j]:=by
 refine ph λj=>?_;rw[cL]
 by_cases lt:j<w.length
 .rw[nH lt]
  cases e:(c9^w.map aE)[j]? with
  |none=>
   have:=afh.mp e
   rw[gF,aI] at this;lia
  |some d=>rw[(wz e).2];rfl
 .rw[fJ^by rw[gF,aI];lia,fJ^by rw[jx];lia];rfl
def OZ(w:W)(a:List^List (Nat×Nat))(b:List^List Nat)(p n:Nat):Prop:=∃s:List Nat,((aj b.length).filter λk=>jE (row b k)^mW w a p)=s/\(s.length=1\/row w p= [])/\(s++ [0])[0]?\n
def Hr{b:Type}{l:List b}{p:b->Bool}{x:b}(e:l.Nodup)(g:x∈l)(i:p x=true)(h:∀y∈l,p y=true->y=x):l.filter p= [x]:=by
 have c:=e.filter p;have m:x∈l.filter p:=qR.mpr #[g,i];have a:∀y∈l.filter p,y=x:=λy d=>h y (qR.mp d).1 (qR.mp d).2;generalize l.filter p=f at*
 match f,c,m,a with
 | [y],_,_,a=>rw[a y (cF ..)]
 |y::z::f,c,_,a=>
  have:=(kD.mp c).1
  rw[a y (cF ..),<-a z^by simp] at this
  exact absurd (cF ..) this
theorem MD:∀{a:List^List Nat}(n:Nat),(∀r∈a,r.Nodup)->sC a n=none
 | [],_,_=>rfl
 |r::a,n,h=>by
  have e:jM r= []:=List.filter_eq_nil_iff.mpr λo _=>by
   have:=List.nodup_iff_count.mp (h r (cF ..)) o
   simp;lia
  unfold sC;rw[ir e];exact MD (n+1) λr b=>h r^dS _ b
def SW(h:0<(kQ l).length):(kQ l).map (·.1)=l:=by
 unfold kQ at h ⊢
 split at h
 .next c=>
  rw[ir c];unfold rY;rw[cZ];refine ph λi=>?_;rw[cL]
  by_cases z:i<l.length
  .rw[nH z,bA z,uF]
   show some^l.getD i 0=_;rw[bO,bA z];rfl
  .rw[fJ^by rw[jx];lia,fJ ()];rfl
 .simp at h
structure aaI (w:W) (rss aF:List^List (Nat×Nat)) (pD:List Nat):Prop where
 len:aF.length=w.length
 ties:tc^bE rss=tc w
 h1:1<=rss.length
 pm:pD.Perm (aj w.length)
 at_:∀ls:List^List Nat,ls.map kQ=aF->ls.length=aF.length->∀p,p<w.length->OZ w rss ls p (pD.getD p 0)
 go:∀p,p<w.length->jE (row (bE aF)^pD.getD p 0) ((row w p).map λq=>pD.getD q 0)=true
 nb:∀lY:List (Nat×Nat),(∀t∈lY,ax (bE rss) t)->lY.find?^si aF=none
 ns:sC (bE aF) 0=none
def wu{w:W}(g:Good w):2*tc w=fR w:=IQ g
def PQ{w:W}(ok:Tk w f H)(M:Made w f H)(r:RS (bE f) j):∃Y,aaI w f j Y:=by
 have g:=ok.g
 rcases ok.rs with ⟨I,rfl⟩ | ⟨J,R,_⟩
 .have N:∀d,¬ax w d:=λd A=>by
   have a1:=bZ A;have a2:=g.rng _ _ A;exact jL g A ()
  have B:row w 0= []:=LI.mpr λq C=>N (0,q) C;have s:aQ w= []:=LI.mpr λd P=>N d^aD.mp P
  have T:tc w=0:=by
   have:=wu g
   rw[<-jB,s] at this
   have:2*tc w=0:=this
   lia
  rcases r with ⟨_,rfl⟩ | ⟨h,_⟩
  .refine#[[0],I.symm,T.symm▸rfl,aZ _,by rw[I];exact .refl _,λn _ y p m=>?_,λp m=>?_,λO h=>?_,rfl]
   .obtain rfl:p=0:=()
    have y:n.length=1:=y;have e:mW w [[]] 0= []:=by unfold mW;rw[B];rfl
    exists _,rfl, .inr B;rw[y];show(([0]:List Nat).filter _++ [0])[0]?\0;rw[BS]
    split<;>rfl
   .obtain rfl:p=0:=()
    rw[B];rfl
   .cases O with
    |nil=>rfl
    |cons t l=>
     have:t.2∈row (bE [[]]) t.1:=h t (cF ..)
     have lt:=bZ this
     have:t.1=0:=by have:(bE [[]]).length=1:=rfl;lia
     rename_i k
     rw[this] at k;cases k
  .exact absurd h ∅
 .have u:=AQ ok M.nb
  have cl:(bE f).length=f.length:=aI _;let⟨s,E⟩:=w6 g J;have L:=kg.of g R
  have two:2<=f.length:=by
   have a:=(L.num E).1;have b:=(L.num (d:=(s.2,s.1))^g.sym _ _ E).1
   have:=u s E
   lia
  rcases r with ⟨h,_⟩ | ⟨_,r,_⟩
  .lia
  have D:Du w f j:= .of g R u (x9 M.ns) M.gc r;have pos:∀p,p<w.length->0<(row w p).length:=λp m=>SO g J m;have Q:=So D pos
  have len:j.length=w.length:=by
   have:=Q.length_eq
   rw[aI,jx,jx] at this;exact this.symm
  have F:∀p,p<w.length->((aj w.length).map^j7 w f j).getD p 0=j7 w f j p:=λp m=>by
   rw[bO,cL,nH m];rfl
  have G:∀p,(mW w f p).length=(row w p).length:=λp=>aI _;refine#[(aj w.length).map^j7 w f j,len,?_,(),by rw[<-len];rw[len];exact len▸Q,λn Z y p m=>?_,λp m=>?_,λO h=>?_,MD 0^aaj D]
  .have a:=wu M.gc
   have b:=wu g;have c:=R.perm.length_eq;rw[Um,c,jB] at a;lia
  .have S:∀k,k<n.length->row n k=(j.getD k []).map (·.1):=λk v=>by
    have X:j[k]?\(kQ^row n k):=by rw[<-Z,cL,qk v];rfl
    have e2:j.getD k []=kQ^row n k:=by rw[bO,X];rfl
    rw[e2];let⟨d,h1,K⟩:=r.rnd _^cU X;exact(SW^jh h1.first).symm
   have z:=pos p m;let⟨kl,K⟩:=kU D z;refine#[_,Hr (x:=j7 w f j p) uD (d9.mpr ()) ?_^λk v e=>?_, .inl rfl,?_]
   .rw[S _ ()]
    let⟨i,o,e⟩:=KI D z;exact Ao (by rw[G];exact o) e
   .have v:=d9.mp v
    rw[S k v] at e;let⟨i,o,e⟩:=Qp e^by rw[G];exact z
    exact Sn D z () (by rw[G] at o;exact o) e
   .rw[F p m];rfl
  .rw[F p m]
   let⟨i,o,e⟩:=C5 D^pos p m;have er:(row w p).map (λq=>((aj w.length).map^j7 w f j).getD q 0)=(row w p).map^j7 w f j:=yX λq C=>F q^g.rng _ _ C;rw[er];exact Ao (by rw[aI];exact o) e
  .refine BR.mpr λt ht=>?_
   unfold si
   have:=aai D^h t ht
   simpa using this
variable {P:Program} {w:World} {mg:Str->Option Value} {base:Heap} {Z:DC} (T:Txt Z mg)
def Oz:fh:=λc P=>∃(w:W)(a:List^List (Nat×Nat))(b:List^List Nat)(pl:List Nat),c= [bz w,bz b]/\Good w/\1<=w.length/\w.length<=14/\RS w a/\b.length<=300/\pl.length=w.length/\(∀p,p<w.length->OZ w a b p^pl.getD p 0)/\P^aE pl
def zr:Dk P w base 5 T.uy^aU Z Oz:=by
 have d:=oQ.nd;refine bx T.uy.F oQ [0,0,0,1,0,0,0,0] ∅ (λQ R h=>by obtain⟨_,_,_,_,rfl,_⟩:=h;rfl)^λaV A outer s H E Q R n h=>?_
 have o:=n.units
 refine#[_,(aw (cz false 2 d^aL T.uv (xM T) n^aa (U 0) ar)
   (aw (qX 3 d^qU ar)
   (aw (dO rfl FS (eY rfl T.B.enumerate^aa (U 0) ar) (fS 2 rfl^aR (aN 4 d)^aR (aN 5 d) cW)^aw (cz false 6 d^pM (NC:= ["_law_q","_law_by_side_here","_law_p"]) (src:= [none,some 2,some 4]) rfl (uI^aq gJ) #[rfl,rfl,rfl,rfl,trivial] (b9^U 5) (λ_ _ _=>(bQ 0 (show(["_law_q","_law_by_side_here","_law_p"]:List eg).Nodup from by decide+kernel))) (λ_ _ _=>eZ)^λ_ _ _=>(zD o (U 1)^dN^aa (U 2)^aa (U 0) ar))
   (aw (qY 7 (NC:= ["_law_at","_law_row","_law_around"]) (src:= [none,none,some 6]) rfl d (uI^aq gJ) #[rfl,rfl,trivial] (eY rfl T.B.enumerate^aa (U 1) ar) (λ_ _ _=>(qV 2 rfl^eQ (bQ 0 (show(["_law_at","_law_row","_law_around"]:List eg).Nodup from by decide+kernel))^eQ (bQ 1 (show(["_law_at","_law_row","_law_around"]:List eg).Nodup from by decide+kernel)) mZ)) (λ_ _ _=>(Ah^mh^aL T.ux (kq T) n^aa (U 1)^aa (U 2) ar))^λ_ _ _=>(U 0))
   (aw (dA (DW.dt^Uv (cf (xI o) (bC fw rfl T.B.len fu^aa (U 7) ar) bH^bJ _)^PU^cf (xI o) (U 5) (l9 ar)^bJ _) (av^aW eX) bw)
   (av^qW false 3^gE (jZ mq (U 7)^l9^aa bH ar) bH))))
   (pS 3
   (av^aW^U 3))))),?_]
 let⟨a,S,c,pl,rfl,g,r,h14,I,l3,t,at_,q⟩:=h;have L:=I.Ru g;refine#[_,rfl,a,rfl,g,r,h14,λb X=>#[trivial,?_]];obtain rfl:=X.uniq g I;refine#[by show 0<=sizeLine;decide,?_]
 exists _,rfl;refine(?_:kj _ _ _ (c9^a.map aE) _);refine cw (λj f=>∃(u v y C:Option D),f= [some^bz a,some^bz c,some^.x^.eL (ql b)^jm 0 b,some^aE^pl.take j,u,v,y,C]) #[_,_,_,_,rfl] ?_ ?_
 .rintro p _ _ hd ⟨u,v,y,C,rfl⟩ A hA
  let⟨hp,rfl⟩:=wz hd;exists rfl,rfl;have rl0:=fH g p;have rm:((row a p).map az).length=(row a p).length:=aI _;exists _,rfl;refine(?_:lcW _ _ _ ((row a p).map az) _ _ _);refine mm (λf=>∃i,f= [i,some^.x^.eL (ql b)^jm 0 b,some^az p]) az (λ_=>true) (λq=>az^bS b (p,q)) (row a p) _ [] _ (λm hq G l Y Nn hY hN=>?_) #[_,rfl] (by rw[sX,mD];exact small ()) λG l=>?_
  .obtain⟨i,rfl⟩:=l
   let⟨j2,a2,J⟩:=qm b 0^(L.dart (p,m)).mpr hq;rw[mD] at J;refine(?_:EU LQ (sE 1) (WS^Af (sE 2)^Af (sE 0) l8) [some^az m,some^.x^.eL (ql b)^jm 0 b,some^az p]^Y [some^az m,some^.x^.eL (ql b)^jm 0 b,some^az p]);exact#[_,rfl,_,rfl,_,rfl,by show 2<=sizeLine;decide,zz (p,m),ql b,jm 0 b,j2,_,rfl,rfl,a2,J,hY _ #[_,rfl] rfl]
  have ef:(row a p).filter (λ_=>true)=row a p:=by simp
  have er:((row a p).map λq=>az^bS b (p,q))=(mW a b p).map az:=by unfold mW;rw[cZ];rfl
  rw[sY,ef,er];have al:(mW a b p).length=(row a p).length:=aI _;exists trivial;exists _,rfl;refine(?_:lcW _ _ _ (c9^c.map aE) _ _ _);rw[Nd];refine mm (λf=>∃i M,f= [i,M,some^aE^mW a b p]) _ (λk=>jE (row c k)^mW a b p) az (aj c.length) _ [] _ (λk hk G l Y Nn r h2=>?_) #[none,none,rfl] (small^by rw[sX,jx];lia) λG l=>?_
  .obtain⟨i,M,rfl⟩:=l
   exists rfl,rfl;exact#[_,rfl,_,rfl,row c k,mW a b p,rfl,(),rfl,fT (λe=>#[_,rfl,r _ #[_,_,rfl] e])^λe=>h2 _ #[_,_,rfl] e]
  rw[sY];let⟨s,N,pA,mH⟩:=at_ p hp;rw[N];have sm:(s.map az).length=s.length:=aI _
  have sl:s.length<=c.length:=by
   rw[<-N]
   have:=aew (λk=>jE (row c k)^mW a b p)^aj c.length
   rw[jx] at this;exact this
  have fin:∀E:gf,E.nx=A->WJ [0,0,0,1,0,0,0,0] false 3 (EU Yf (EU Pn (sE 7)^WO^Af (dC^D.int 0) l8)^dC^D.int 0) E [some^bz a,some^bz c,some^.x^.eL (ql b)^jm 0 b,some^aE^pl.take p,some^az p,some^aE^row a p,some^aE^mW a b p,some^aE s]:=by
   intro E hE;refine#[_,rfl,_,rfl,by show 1<=sizeLine;decide,small (show(s.map az).length+1<=1000 by lia),?_]
   have e0:(s.map az++ [D.int 0])[0]?\(az^pl.getD p 0):=by
    have:s.map az++ [D.int 0]=(s++ [0]).map az:=by rw[dk];rfl
    rw[this,cL,mH];rfl
   have tk:pl.take (p+1)=pl.take p++ [pl.getD p 0]:=by
    have O:p<pl.length:=()
    rw[qL,bA O,bO,bA O];rfl
   refine#[az^pl.getD p 0,jA (p:=0) e0,trivial,bL^by rw[aI,hV];lia,?_]
   rw[hE];exact hA _ #[_,_,_,_,by rw[tk];unfold aE;rw[dk];rfl]
  exists trivial;exists _,rfl;dsimp only[l8,GR];refine NT #[_,rfl,fT (λe=>?_)^λ_=>cO^fin _ rfl]
  have Q0:row a p= []:=pA.resolve_left λz=>by
   rw[sm,z] at e;simp at e
  refine#[_,rfl,by show 0<=sizeLine;decide,?_]
  refine(?_:ET (aE^row a p) (aE []) _);refine Hb #[_,rfl,fT (λe=>?_)^λ_=>fin _ rfl];rw[Q0] at e;simp at e
 .rintro _ ⟨u,v,y,C,rfl⟩
  have e:pl.take (c9^a.map aE).length=pl:=by rw[gF,aI,<-t,y3]
  rw[e];exact#[#[_,rfl],_,rfl,q]
def iZ.rounds{w:W}(g:Good w)(h:iZ w a)(b:a.flatten.Perm^aQ w):bG w^a.map C6:=by
 refine#[λm c=>?_,(sF zY a).trans b];let⟨r,f,rfl⟩:=bR.mp c;let⟨d,R,i⟩:=h r f;let⟨e,j,k,l⟩:=M1 g R i;exact#[e,j,k,l]
def RS.pos{w:W}(g:Good w){a:List^List (Nat×Nat)}(h:RS w a):1<=a.length:=by
 rcases h with ⟨_,rfl⟩ | ⟨b,R,_⟩
 .decide
 .obtain⟨d,c⟩:=w6 g b
  let⟨r,e,f⟩:=jX.mp^((kg.of g R).dart d).mpr c;exact jh e
def VH{w:W}(g:Good w)(o:Eu true w)(h:RS w f):k7 w f:=by
 have k:=wu g;unfold k7
 rcases h with ⟨x,rfl⟩ | ⟨p,R,e⟩
 .have q:aQ w= []:=LI.mpr λd i=>by
   have i:=aD.mp i;have y:=bZ i;have z:=g.rng _ _ i;exact jL g i ()
  rw[<-jB,q] at k;have k:2*tc w=0:=k;show(w.length:Int)+1=_;lia
 .obtain⟨c,⟨a,r,s,A⟩,B,l⟩:=o p
  have l:=l rfl;let⟨j,m,t⟩:=qD (le:=λa b:List (Nat×Nat)=>L2.hU (a.map (·.1))^b.map (·.1)) (λ_ _ _=>yC _ _ _) (λ_ _=>yB _ _)^a.map C6;have R2:=bG.AV (iZ.rounds g r s) m;have u:(fO j).Pairwise L2.hU:=by unfold fO;rw[iA];exact t
  have v:fO f=fO j:=by rw[<-e,rj g R2 u]
  have n:=IR cI v;unfold fO at n;rw[aI,aI,m.length_eq,aI] at n;lia
def F0:fh:=λb P=>∃(a:List Int),b= [.qC a]/\a.length<=63/\P^.bl true
def Vo:Dk P w base 9 T.uz^aU Z F0:=by
 have r:=MB.nd;refine bx T.uz.F MB [0,0,0,0,0,0,0,0,0,0] ∅ (λds R h=>by let⟨K,rfl,V⟩:=h;rfl)^λaV A outer s H E ds R k h=>?_
 have N:=k.units
 refine#[_,(aw (cz false 1 r^gE (l9^aa bH^aa bH^aa bH^aa bH ar)^jZ FF (jZ Vm (aL T.uk (CN T) k^aa (U 0)^aa bH ar) bH) bH)
   (aw (cz false 2 r^aL T.ut (FI T) k^aa (U 0)^aa (U 1)^aa mE ar)
   (aw (cz false 3 r^PB T.v3 (nq T) (k.mono ∅) rfl T.mC T.v4^aa (pM (NC:= ["_law_turn"]) (src:= [none]) rfl (uI^aq Bk) trivial (b9^U 2) (λ_ _ _=>(bQ 0 (show(["_law_turn"]:List eg).Nodup from by decide+kernel))) (λ_ _ _=>eZ)^λ_ _ _=>(lj Ab rfl T.B.list pL^aa (U 0) ar)) ar)
   (aw (cz false 4 r^aL T.uw (xN T) k^aa (U 3) ar)
   (aw (dA (cf xH (U 4) eX^bJ _) (av^aW mE) bw)
   (aw (cz false 5 r^aL T.u4 (rD T) k^aa (U 3) ar)
   (aw (dA (DW.dt^PV (cf RJ (aL T.u5 (vM T) k^aa (U 4) ar) mE^bJ _)^L0^cf (xI N) (aL T.u4 (rD T) k^aa (U 4) ar) (dN^aa (gE (U 5) bH)^aa (gE (U 5) bH)^aa (gE (U 5) bH) ar)^bJ _) (av^aW mE) bw)
   (aw (cz false 6 r^aL T.uy (zr T) k^aa (U 2)^aa (aL T.u3 (rF T) k^aa (U 4) ar) ar)
   (aw (dA (DW.dt^PV (cf xH (U 6) eX^bJ _)^L0^cf (xI N) (bC C7 rfl T.B.sorted k9^aa (U 6) ar) (lj (M4 rfl) rfl T.B.list pL^aa (lj Pk rfl T.B.range M0^aa (bC fw rfl T.B.len fu^aa (U 2) ar) ar) ar)^bJ _) (av^aW mE) bw)
   (aw (cz false 7 r^jC T.W (aL T.uj (Ia T) k^aa (U 4) ar) T.v6.m (CM T) (k.mono ∅) T.v6.b)
   (aw (dO rfl FS (eY rfl T.B.enumerate^aa (U 2) ar) (fS 2 rfl^aR (aN 8 r)^aR (aN 9 r) cW)^av^dA (nP^mh^aL T.ux (kq T) k^aa (gE (U 7)^gE (U 6)^U 8)^aa (pM (NC:= ["_law_q","_law_places_here"]) (src:= [none,some 6]) rfl (uI^aq Bk) #[rfl,rfl,trivial] (b9^U 9) (λ_ _ _=>(bQ 0 (show(["_law_q","_law_places_here"]:List eg).Nodup from by decide+kernel))) (λ_ _ _=>eZ)^λ_ _ _=>(gE (U 1)^U 0)) ar) (av^aW mE) bw)
   (av^aW^zC (xG N) (bC fw rfl T.B.len fu^aa (U 7) ar) (bC fw rfl T.B.len fu^aa (U 2) ar)^bJ _)))))))))))),?_]
 let⟨O,rfl,Fl,q⟩:=h;refine#[by show 4<=sizeLine;decide,_,rfl,O,5,rfl,∅,λQ=>#[#[∅,∅],(by show(0:Int)<4;decide),?_]]
 obtain⟨m,S,m1,ZQ⟩:∃m:Nat,h8 [D.int 14, .int 6, .int 7, .int 8] (Q / 4%4)\(az m)/\1<=m/\m<=14:=by
  have:=ZR (Q / 4) 4 ∅
  generalize Q / 4%4=x at this;obtain⟨n,rfl⟩:∃n:Nat,x=(n:Int):=#[x.toNat,()]
  have:n<4:=()
  match n,this with
  |0,_=>exact#[14,rfl,∅,∅]
  |1,_=>exact#[6,rfl,∅,∅]
  |2,_=>exact#[7,rfl,∅,∅]
  |3,_=>exact#[8,rfl,∅,∅]
 exists _,S,trivial;refine#[_,rfl,_,rfl,O,m,true,rfl,m1,ZQ,λt g u lm eu=>#[trivial,?_]];have l14:t.length<=14:=()
 refine#[_,rfl,nZ (ρ:= [none]) aE aE t _ (λy hy Y h=>#[_,rfl,h]) rfl (small ()) λaJ=>#[t,rfl,g,u,l14,trivial,?_]]
 let⟨f,v⟩:=O1 g u;let⟨ts,X,srt⟩:=qD (le:=lexLe) (λ_ _ _=>kL) gW^fV (row t) t.length;have ok:Tk t f ts:=#[g,u,l14,v,X,srt];have pl:k7 t f:=VH g eu v;refine#[_,rfl,t,f,ts,rfl,ok,pl,#[trivial,_,rfl,_,rfl,dD q],λM=>#[trivial,_,rfl,_,rfl,cO ?_]];have lt:(f.length:Int)=((bE f).length:Int):=by unfold bE;rw[aI]
 exists _,rfl,t,f,rfl,g,u,l14,v,trivial;have z:=M.gc;have cl:(bE f).length=f.length:=aI _;have L:(bE f).length<=14:=by have:=M.l14;lia
 have C:1<=(bE f).length:=by rw[cl];exact v.pos g
 let⟨i,G⟩:=O1 z C;let⟨o,l⟩:=PQ ok M G
 have I:k7 (bE f) i:=by
  have e1:=l.len;have e2:=l.ties;unfold k7 at pl ⊢;rw[e1,e2,cl];lia
 refine#[_,rfl,bE f,i,rfl,z,C,L,G,λ_=>#[_,rfl,cO ?_],λn=>absurd I n];have same:∀(a b c:Int){P:D->Prop},P^.bl false->ET (.tup [.int a, .int b, .int c]) (.tup [.int a, .int b, .int c]) P:=λa b c P h=>#[_,_,rfl,rfl,by simp[PyData.depth,PyData.depthAll],by rw[ir rfl,show PyData.eqv (.tuple [.int a, .int b, .int c])^.tuple [.int a, .int b, .int c]=true by simp[PyData.eqv,PyData.eqvAll]];exact h]
 have ec:ym (bE f) i= .tup [.int (f.length:Int), .int (tc t:Int), .int (t.length:Int)]:=by unfold ym;rw[cl,l.len,l.ties]
 refine#[_,rfl,bE f,i,rfl,z,C,L,G,_,rfl,_,rfl,_,rfl,_,rfl,_,rfl,_,rfl,by show 3<=sizeLine;decide,?_]
 rw[ec];refine same _ _ _ #[_,rfl,cO ?_];exists _,rfl,_,rfl;dsimp only[l8];refine AD z C L G λls lm ll l3=>?_;have J:=l.pm.length_eq;rw[jx] at J;have adj:=l.len;refine#[t,f,ls,o,rfl,g,u,l14,v,(),J,l.at_ ls lm ll,trivial,?_]
 refine#[_,rfl,_,rfl,cO ?_];exists _,rfl;dsimp only[l8];refine Ep () λM X srt=>?_
 have eM:M=aj t.length:=adN (λ_ _ _ _=>Nat.le_antisymm) srt (GA.imp lR)^X.trans l.pm;subst eM;have lw:(t.map aE).length=t.length:=aI _;refine#[_,rfl,((t.map aE).length:Int),rfl,0,((t.map aE).length:Int),rfl,#[(),(),(),(),()],?_]
 have er:gZ 0 (((t.map aE).length:Int)-0).toNat=(aj t.length).map az:=by
  rw[Int.sub_zero,lP,lw,Bb]
 rw[er];refine(?_:ET (aE^aj t.length) (aE^aj t.length) _);refine Hb #[_,rfl,?_];rw[Gc rfl];refine cO ?_;let⟨lY,Oe,Tj⟩:=qD (le:=lexLe) (λ_ _ _=>kL) gW^fV (row^bE f) (bE f).length;have ok':Tk (bE f) i lY:=#[z,C,L,G,Oe,Tj];have nb':=l.nb lY λd hd=>BB^Oe.mem_iff.mp hd;have cl':(bE i).length=i.length:=aI _;refine#[_,rfl,bE f,i,lY,rfl,ok',λn=>absurd I n,λ_=>#[λd e=>?_,λ_=>#[λn m e=>?_,λ_=>#[λc=>?_,λ_ gc'=>?_]]]]
 .rw[nb'] at e;cases e
 .rw[l.ns] at e;cases e
 .lia
 refine#[bE i,rfl,bE i,rfl,(),trivial,?_]
 exists _,rfl;refine(?_:kj _ _ _ (c9^t.map aE) _);refine cw (λj ρ=>∃o8 o9,ρ= [some^.qC O,some^az m,some^bz t,some^.gw t,some^.gw^bE f,some^ym t f,some^aE o,some^bz^bE i,o8,o9]) #[_,_,rfl] ?_ ?_
 .rintro p _ _ hd ⟨o8,o9,rfl⟩ A hA
  let⟨hp,rfl⟩:=wz hd;exists rfl,rfl;have rl0:=fH g p
  have kl:o.getD p 0<(bE i).length:=by
   have S:o.getD p 0∈o:=by
    rw[bO,bA ()];exact iT _
   have:=d9.mp^l.pm.mem_iff.mp S
   lia
  refine#[_,rfl,_,rfl,_,rfl,az^o.getD p 0,vG (),aE^row (bE i)^o.getD p 0,jA^wA kl,?_]
  exists _,rfl;refine(?_:lcW _ _ _ ((row t p).map az) _ _ _);refine nZ (ρ:= [none,some^aE o]) az (λq=>az^o.getD q 0) (row t p) _ (λq hq Y hY=>#[_,rfl,_,rfl,_,vG^by have:=g.rng _ _ hq;lia,hY]) rfl (small ()) λaJ=>?_
  refine#[row (bE i)^o.getD p 0,(row t p).map λq=>o.getD q 0,by unfold aE;rw[cZ];rfl,by rw[aI];lia,?_]
  rw[l.go p hp];exact#[rfl,cO^hA _ #[_,_,rfl]]
 .rintro _ ⟨o8,o9,rfl⟩
  have lc:((bE i).map aE).length=t.length:=by rw[aI];lia
  exists _,rfl,_,rfl;dsimp only[l8,GR,bz];rw[lc,lw];refine uJ ?_;rw[Gc rfl];exact q
set_option hygiene false in
local macro_rules| `(tactic|and_intros)=> `(tactic| (intro _ _ _ _ _ _ _ hl;first| (obtain⟨_,rfl⟩:=L2.Xa hl;rfl) | (obtain⟨_,_,rfl⟩:=L2.Xb hl;rfl) | (obtain⟨_,_,_,rfl⟩:=L2.abV hl;rfl) | (obtain⟨_,_,_,_,rfl⟩:=L2.adg hl;rfl) | (obtain⟨_,_,_,_,_,rfl⟩:=L2.ko hl;rfl)))
def all_mk{l:cM}{w:ei}(X:K.In h)(G:h.Ns fD g)(n:g "law"\(.ref fa)) 
  
  
  
  
  
  
  
  (gC:ce K fD "Web"\(some^.ref C))
  (a0:gy K "round_from" mQ)
  (a1:gy K "lands" qs)
  (a2:gy K "count" Bj)
  (a3:gy K "is_plane" qr)
  (a4:gy K "need_plane" mP)
  (a5:gy K "is_among" qq)
  (a6:gy K "alien_fault" lH)
  (a7:gy K "self_fault" mR)
  (a8:gy K "twice_fault" lK)
  (a9:gy K "lone_fault" mO)
  (M:gy K "reached_from_first" eF)
  (N:gy K "apart_fault" lI)
  (O:gy K "first_fault" lJ)
  (Q:gy K "sides_of" qt)
  (R:gy K "land_numbers" iD)
  (S:gy K "need_no_bridge" ja)
  (Y:gy K "need_none_shared" fA)
  (a17:gy K "crossed" oE)
  (a18:gy K "_law_cell" vW)
  (a19:gy K "_law_mixed" sP)
  (a20:gy K "_law_digits" qp)
  (a21:gy K "_law_take" vX)
  (a22:gy K "_law_tree" vY)
  (a23:gy K "_law_next" oz)
  (a24:gy K "_law_round" mN)
  (a25:gy K "_law_tie" yH)
  (a26:gy K "_law_renamed" oP)
  (a27:gy K "_law_web" yI)
  (a28:gy K "_law_lands" mM)
  (a29:gy K "_law_by_side" j8)
  (a30:gy K "_law_crossed" j9)
  (a31:gy K "_law_goes_round" fU)
  (a32:gy K "_law_places" gJ)
  (m:TZ K "law" o)
  (l33:Ca K "law" "law" Bk o p q r t u x y WI z)
  (c33:bf K WI "law"=true)
  (k33:am K^.ref o=true)
  (m0:ak K (.ref C) "__init__"\(some^.ref j))
  (f0:bu K^.ref j=true)
  (ml0:Ca K "__init__" "Web.__init__" f6 j A B E F H I J k L)
  (mc0:bf K k "Web.__init__"=true)
  (mk0:am K^.ref j=true)
  (m1:Jf K C "many" "Web.many" qo)
  (m2:Jf K C "turns" "Web.turns" kP)
  (m3:Jf K C "ties" "Web.ties" mw)
  (m4:Jf K C "tied" "Web.tied" yG)
  (m5:Jf K C "behind" "Web.behind" mL)
  (pgC:cv K C Str.empty=true)
  (UG:cq K C=true)
  (poC:c4 K C=true)
  (saC:ak K (.ref C) "__setattr__"\(some^.builtin "object.__setattr__"))
  (mkC:dn K C=true)
  (kpC:am K^.ref C=true)
  (nR:ak K (.ref C) "rows"\none)
  (xn:bi K (.builtin "object.__class__") "__get__"\(some^.builtin "getset_descriptor.__get__"))
  (xt:db K^.builtin "object.__class__"\true)
  (uR:ce K fD "MapError"\(some^.ref c))
  (Ht:ce K fD "TooMany"\(some^.ref d))
  (E5:ce K fD "NotPlane"\(some^.ref f))
  (JF:ce K fD "Bridge"\(some^.ref b))
  (JG:ce K fD "Shared"\(some^.ref a))
  (yS:O4 K c d)
  (wD:O4 K c f)
  (BM:O4 K c b)
  (BN:O4 K c a)
  (sgM:bi K (.ref c) "__getattribute__"\(some^.builtin "type.__getattribute__"))
  (rdM:dg K c^.type "type"=true)
  (fcM:dq K (.ref c) (.type "type") "__init__"\(.val^.builtin "ValueError.__init__"))
  (Gn:OS K f "NotPlane.__init__" gI)
  (sv:ak K (.ref f) "counted"\none)
  (Gp:KitX K f [] [d,b,a] [])
  (Lz:OS K b "Bridge.__init__" iK)
  (CI:ak K (.ref b) "tie"\none)
  (LB:KitX K b [] [d,a] [b])
  (LA:OS K a "Shared.__init__" iL)
  (CJ:ak K (.ref a) "one"\none)
  (zl:ak K (.ref a) "other"\none)
  (LC:KitX K a [] [d,b] [a])
  (I0:MW K d^.builtin "ValueError.__init__")
  (Ja:KitX K d [] [b,a] [d])
  (aaT:ce K fD "__name__"\(some^.str "law_mapdye_k75_whole_crossed_back" i))
  (cc1:ce K fD "MOST_POINTS"\(some^.int 14 Tx))
  (acQ:pH K "len")
  (Wz:pH K "range")
  (acR:pH K "max")
  (acS:pH K "min")
  (Jb:pH K "enumerate")
  (acV:pH K "zip")
  (TV:pH K "sorted")
  (acO:pH K "all")
  (Gv:pH K "isinstance")
  (acP:pH K "int")
  (aaD:pH K "bool")
  (aaF:pH K "list")
  (WA:pH K "tuple")
  (acU:pH K "sum")
  (LJ:pH K "reversed")
  (acT:pH K "set")
  (aaE:pH K "dict")
  :∃fd:ge,(∀(s:c_)(v:b_),BindsTo s fd #[[v],[]] [("_law_script",v)])/\∀base:Heap,K.In base->base.Ns fD g->FnOk l.prog w K g base fM 40 fa fd ["_law_script"]^L2.wk K:=by
 have e:=n.symm.trans^adv X G m;cases e;have E0:=nV (st:=f6) ml0 mc0 mk0;have e0:=E0.binds (ps:= ["self","turns"])^by and_intros
 let Z:DC:=#[K,C]
 let T:Txt Z g:=#[#[KM X G acQ,KM X G Wz,KM X G acR,KM X G acS,KM X G Jb,KM X G acV,KM X G TV,KM X G acO,KM X G Gv,KM X G acP,KM X G aaD,KM X G aaF,KM X G WA,KM X G acU,KM X G LJ],KM X G acT,KM X G aaE, .ch X G a0^by and_intros, .ch X G a1^by and_intros, .ch X G a2^by and_intros, .ch X G a3^by and_intros, .ch X G a4^by and_intros, .ch X G a5^by and_intros, .ch X G a6^by and_intros, .ch X G a7^by and_intros, .ch X G a8^by and_intros, .ch X G a9^by and_intros, .ch X G M^by and_intros, .ch X G N^by and_intros, .ch X G O^by and_intros, .ch X G Q^by and_intros, .ch X G R^by and_intros, .ch X G S^by and_intros, .ch X G Y^by and_intros, .ch X G a17^by and_intros, .ch X G a18^by and_intros, .ch X G a19^by and_intros, .ch X G a20^by and_intros, .ch X G a21^by and_intros, .ch X G a22^by and_intros, .ch X G a23^by and_intros, .ch X G a24^by and_intros, .ch X G a25^by and_intros, .ch X G a26^by and_intros, .ch X G a27^by and_intros, .ch X G a28^by and_intros, .ch X G a29^by and_intros, .ch X G a30^by and_intros, .ch X G a31^by and_intros, .ch X G a32^by and_intros, .of X G m l33 c33 k33^by and_intros,#[#[pgC,UG,poC,saC],nR],adv X G gC,j,_,E0,#[mkC,m0,f0,kpC],e0, .ch m1^by and_intros, .ch m2^by and_intros, .ch m3^by and_intros, .ch m4^by and_intros, .ch m5^by and_intros,#[xn,xt],c,adv X G uR,d,adv X G Ht,f,adv X G E5,b,adv X G JF,a,adv X G JG,yS.xe,wD.xe,BM.xe,BN.xe,#[adv X G uR,sgM,rdM,fcM],EI.ch Gn (XE.obj wD.xe)^by and_intros,sv,Gp,EI.ch Lz (XE.obj BM.xe)^by and_intros,CI,LB,EI.ch LA (XE.obj BN.xe)^by and_intros,CJ,zl,LC,MW.mk' I0^XE.obj yS.xe,Ja,#[i,adv X G aaT],#[Tx,adv X G cc1]]
 exact#[_,λs v=> .of_eq rfl,λbase _ _=>(((Vo (P:=l.prog) (w:=w) (base:=base) T).mono ∅).imp^L2.U7 (Z:=Z))]
def walk{l:cM}{q:ee}{a:List eg}{i:(eg->Option b_)->Heap->Prop}{c:ei->Heap->Prop}{d:DefRec}{K:Params->ad}(j:l.most\63)(k:d.params.defaults= [])
  (m:∀(w:ei)(h:Heap),c w h->(K w.params).In h)
  (F:∀(w:ei)(b:eg->Option b_)(e:Addr)(h:Heap),(K w.params).In h->h.Ns fD b->b d.name\(.ref e)->
   ∃g:ge,(∀(s:c_)(u:b_),BindsTo s g #[[u],[]] [("_law_script",u)])/\∀base:Heap,(K w.params).In base->base.Ns fD b->FnOk l.prog w (K w.params) b base fM 40 e g ["_law_script"]^wk^K w.params):
  d3 q a i c l.row.toRowW d [] (λf n=>dV f n):=L2.aay 40 ∅ j k m F
end wK
structure PySem.W.Fast:Prop where(tw14962765961580486216 tw3865464385781824952 tw7215516348330082388 tw17478461387305826210 tw17609039776337232194 tw14018881747647141193 tw9761035076669335975 tw9939913761438729206 tw2485415560310366184 tw15762941167045617408 tw11540291895777623061 tw4536866777186285836 tw14696980056159465329 tw8233280352473381096 tw16531346706408495421 tw14369653150454677085 tw2621938056636528105 tw14590237485525896770 tw18375977362983303630 tw12436267837932620365 tw15920768619744745101 tw16829446255319929897 tw9503627445503290706 tw8253075873931136725 tw12085770063020707674 tw2216460453868997980 tw9931220710206533415 tw14421574432837397256 tw12076556841533916310 tw17988389471537886586 tw1231262210213669772 tw18106578728471911595 tw9387309918893706044 tw9457248316152096688 tw6995262007442871896 tw16553287926389834365 tw6654375011228731425 tw9610628791479140184 tw4620601085169417574 tw16884173944968029721 tw8338071842642572717 tw12527727028284939259 tw6549739535573405888 tw17590527974265661316 tw18161621066723485792 tw9490048744992788176 tw65317752438946082 tw15349044823522682336 tw11327716460172012925 tw11557445445543203327 tw15214698268785154774 tw2730806501859582473 tw10160392466178706839 tw10956874414891149332 tw12167364721288179972 tw11294083446219834010 tw16526781667307636912 tw11862800186992038135 tw5908476699181543134 tw2368346968339868318 tw14790662843158712198 tw10283508720207244773 tw2385308001471690403 tw13845937787548094928 tw15419959606712611182 tw10172367857363793767 tw13679365954876579501 tw1290936134014294260 tw4301696339761912962 tw7358511109877993147 tw260913899975983540 tw17758258002590121089 tw13074607514615907154 tw7444035008840203469 tw10967528943601681677 tw6296908018354424077 tw16513748408348790975 tw4476410304777075263 tw8319304493368919909 tw990632588495047555 tw18325667513020954087 tw15667039042698203960 tw773718925607268523 tw9312792402441183982 tw17091957797307151779 tw11869888523572095533 tw18087816178825751303 tw3294139482300702420 tw8435075380783515677 tw9321010070390142327 tw17486907963393574759 tw7464176959951695675 tw8395938561240067160 tw13391821927534254977 tw13445914953409978216 tw14627384179246685352 tw5310666664468349631 tw5264241545031507340 tw8989244122484670622 tw12946315403218247493 tw6307932553022716130 tw5825841079285574665 tw13408406471681365796 tw2230667486195995652 tw11826887047643811872 tw17263761621180713959 tw12077088992282671998 tw10767414584790896612 tw13102332136904037645 tw12306002508953216266 tw16467583035767873242 tw8941129802100755174 tw14835060822312909067 tw15378027493546881057 tw9134433245022537327 tw3009281053247069136 tw11219709874989053727 tw10924966352496249511 tw13307229055308811579 tw11552377495154164673 tw14066967570614707464 tw2656094656017158539 tw3086216211010130542 tw12610836854406321069 tw6195772420148293702 tw6286311821979853139 tw9117830942632694695 tw8645985868311973102 tw8417562851901313066 tw13866553583772119244 tw11270131055746234312 tw18192831261005319586 tw6631575898882632049 tw4592236230311175192 tw2694170789169694304 tw7245322449401654160 tw2748781925359539221 tw12739418401028094889 tw4930873055212579697 tw1928979881684143106 tw5534087834301334689 tw6486194309442011962 tw16836889202492339411 tw8905828331838616081 tw18317176820200795825 tw3531266979710793858 tw3238788313638982945 tw7624974291331542289 tw4351994606238201203 tw13673814712895901736 tw6324040915895562710 tw6472950024956916659 tw3070570413070156687 tw16961529367744117377 tw12613902926430810111 tw1982913474918010948 tw9205089080230469113 tw10283395335067084208 tw7269767316043806706 tw6308555517460322910 tw17388208522757428762 tw5249752684969269608 tw15858282435198634384 tw9096479135673490317 tw4380877973657651541 tw3436448731293873932 tw976157193331376366 tw4072856694229252513 tw17512019514895370105 tw2833118302871659218 tw8348186400481359741 tw16657257245627015449 tw99356845277974753 tw5157868806639151411 tw7288782381050499091 tw5788516340152988620 tw12373195896471915744 tw13341181079063962059 tw7647793854243681635 tw1964929407769298541 tw3366285558139193633 tw16648930773701477787 tw15166700947425092974 tw10162818596189623748 tw13203918303683843490 tw3695295047181774324 tw17540309940580474581 tw5142992582325576115 tw5701902545522977753 tw7524466246009358772 tw9323497164279685342 tw8363404875731820440 tw9936730118856395126 tw2573538901308294958 tw17999960039551384929 tw11115253108222011391 tw13718762771762468663 tw2793070529606021801 tw6806808229053008841 tw8477191124271381016 tw17641910180163613371 tw17902541955447631440 tw8294276717285108528 tw16293945718349215101 tw10523964984406183458 tw18287111801335090780 tw16255883994279560570 tw1723172864896857518 tw3394071881020076398 tw842038672583017377 tw897911903302024977 tw6205829355250583760 tw15473310409379210919 tw7558439706213039213 tw17232979731935098807 tw5468052748678837272 tw3787010920556158754 tw10643657516534728913 tw8023019971924783660 tw3236364832362678484 tw14985457186923727288 tw1197121854668558097 tw18086764314496413628 tw8242526073088436572 tw2859449809343607137 tw18198985207671186744 tw11805218493625397043 tw2098018373743568670 tw6785857085566730956 tw2896812153979816441 tw14436157667031082772 tw11839016433872679205 tw17033983485778159931 tw7141383418952975084 tw9519464523496424542 tw14536098383186275372 tw11391060201997020593 tw1850722195775712948 tw6057734285191418892 tw14720597712723083851 tw7449533897384362508 tw2874887174001712781 tw11131047823456076417 tw10226977332456338058 tw15664324035041520346 tw7935852922334562422 tw8395354242121745 tw6706674834433000040 tw9937681777450194104 tw1279047026717180387 tw4395252145014830690 tw4027323381805806363 tw4360389301289657495 tw10960346499374154336 tw6853992716187586380 tw7459555518510408538 tw5457115590488026760 tw13087109615148064504 tw2360792257143830672 tw5292806711208356583 tw13322477478341786682 tw5646713171290628237 tw7665591975588216196 tw2602333309307894177 tw1845843993204685261 tw17788430081260746426 tw3185227539966272112 tw1582162235884993593 tw312752122605034081 tw11598365728420219760 tw16973440451847120487 tw1501804538395000940 tw14239879828515528305 tw16124200779690036840 tw12417449029878029276 tw15120388524047940242 tw6248857391623863077 tw4528806338334906655 tw6306682578356856187 tw2583261281935371411 tw11101091432039186893 tw3811107275023481271 tw10904551028411824292 tw9305029885988545033:0=0)
open PySem PySem.W PyProof.Rows
set_option maxRecDepth 100000 in
set_option maxHeartbeats 0 in
theorem PySem.Challenge.cw_mapdye_k75_whole_crossed_back_holds : PySem.Challenge.rw_mapdye_k75_whole_crossed_back.Holds := by
 w_on;o_law;k_head;(case hw=>w_witness2)
 k_fill
 refine wK.walk (l:=PySem.Challenge.rw_mapdye_k75_whole_crossed_back) rfl rfl (λw h Y=>PySem.W.kIn_of Y) ?F
 case F=>
  intro w mg fa h KX G JU
  refine' wK.all_mk KX G JU ?_ ?_ ?_ ?_ ?_ ?_ ?_ ?_ ?_ ?_ ?_ ?_ ?_ ?_ ?_ ?_ ?_ ?_ ?_ ?_ ?_ ?_ ?_ ?_ ?_ ?_ ?_ ?_ ?_ ?_ ?_ ?_ ?_ ?_ ?_ ?_ ?_ ?_ ?_ ?_ ?_ ?_ ?_ ?_ ?_ ?_ ?_ ?_ ?_ ?_ ?_ ?_ ?_ ?_ ?_ ?_ ?_ ?_ ?_ ?_ ?_ ?_ ?_ ?_ ?_ ?_ ?_ ?_ ?_ ?_ ?_ ?_ ?_ ?_ ?_ ?_ ?_ ?_ ?_ ?_ ?_ ?_ ?_ ?_ ?_ ?_ ?_ ?_ ?_ ?_ ?_ ?_ ?_ ?_ ?_ ?_ ?_ ?_ ?_ ?_
  all_goals (try (first| (show _=_;k_is) | (refine' L2.dfH ?_ ?_ ?_ ?_<;>(try (show _=_;k_is))) | (refine' L2.mfH ?_ ?_ ?_ ?_ ?_<;>(try (show _=_;k_is))) | (refine' L2.KitX.mk ?_ ?_ ?_ ?_<;>repeat' (first|exact L2.T3| (refine' L2.O5 ?_ ?_) | (show _=_;k_is) |rfl)) | (refine' L2.Ww ?_ ?_ ?_ ?_ ?_ ?_ ?_ ?_<;>(try (first| (show _=_;k_is) |rfl))) | (refine' L2.acX ?_ ?_ ?_ ?_ ?_ ?_ ?_ ?_<;>(try (first| (show _=_;k_is) |rfl))) | (refine' L2.jnH ?_ ?_ ?_ ?_ ?_ ?_ ?_ ?_<;>(try (show _=_;k_is))) | (refine' L2.MW.mk ?_ ?_ ?_ ?_<;>(try (show _=_;k_is)))))



