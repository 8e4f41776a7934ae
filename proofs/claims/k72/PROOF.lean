import PyProof.Rows.All
import Wide.All
import OpenK.AllK
import Wide.FinOn
import Lean
import PyProof.EqAt
import PyProof.EqKinds
import PyProof.TupleCall
import PyProof.RaisesMany
import KE.KSortTup
import PyProof.NeKinds
import PyProof.SetKind
import PyProof.SetRoads
import PyProof.SetNew
import PyProof.WalksS
import PyProof.CollectWalk
import PyProof.TupleKey
import PyProof.IsRules
import PyProof.InstEq
import KE.KRevIter
import PyProof.FitsBits
import PyProof.P3Eq
import PyProof.ListRange
import PyProof.RulesAs
import PyProof.NsDelKeeps
import PyProof.PassesOwn
import PyProof.FString
import PyProof.MeetsSeq
import PyProof.DictRoadsH
import PyProof.DictTruth
import PyProof.MinMaxWalk
import KE.KItemsList
import PyProof.DictCompW
import PyProof.AttrMissHeap
import KE.KDictOf
import PySem.Challenge.RW_mapdye_k72_whole_there_and_back
set_option compiler.extract_closed false
local macro_rules|`(tactic|subst_eqs)=>`(tactic|first|exact Or.inl rfl|exact Or.inr rfl|exact Or.inr (Or.inl rfl)|exact Or.inr (Or.inr rfl)|assumption)
local macro_rules|`(tactic|bv_omega)=>`(tactic|exact ⟨rfl,rfl,rfl,by decide+kernel,rfl,by decide+kernel,by decide+kernel⟩)
local macro_rules|`(#[$x,$y,*])=>`(⟨$x,$y,*⟩)
local macro_rules|`(#[$x])=>`(⟨$x⟩)
local macro_rules|`(tactic|exists $x,*)=>`(tactic|refine⟨$x,* ,?_⟩)
local macro_rules|`(())=>`((by first|assumption|exact Nat.le_of_not_lt ‹_›|exact Nat.le_of_lt ‹_›|exact Nat.le_refl _|exact Nat.le_of_lt_succ ‹_›|lia))
local macro_rules|`(∅)=>`((by decide))
local macro_rules|`(~~~$x)=>`((by simpa using $x))
local macro_rules|`($a\$b)=>`($a=some $b)
local macro_rules|`($a<<<$b)=>`(rightact% HPow.hPow $a $b)
local macro_rules|`($f $x* ^$a)=>`($f $x* $a)|`($f^$a)=>`($f $a)
local macro_rules|`(tactic|let⟨$[$x:ident],*⟩:=$e)=>`(tactic|obtain⟨$[$x:ident],*⟩:=$e)
set_option genInjectivity false
set_option genSizeOf false
section
open PySem
abbrev eT(x:Str):Prop:=(x==("__debug__":Str))=false
abbrev eR(x:Str):Prop:=(x==("__classdict__":Str))=false
abbrev eI(e:Expr)(s:List Expr)(v:Env):Prop:=starEach (e::s) v=(false,eval e v)::starEach s v
abbrev eF(o:Expr)(n:Str)(v:Env):Prop:=attributeBase o n v (eval o v)=eval o v
abbrev fX(p:Pos)(s:List Expr)(v:Env):Prop:=(backTo p (starEach s v)).any (·.1)=false
abbrev fQ(p:Pos)(s:List Expr)(v:Env):Prop:=((backTo p (starEach s v)).all (λx=>!x.1)&&(backToKw p (keywordEach [] v)).all (λx=>x.1.isSome)&&decide (s.length+([]:List Keyword).length+(if ([]:List Keyword).isEmpty then 0 else 1)<30))=true
end
open PySem renaming wpAny_bind->a_,Value->b_,Shared->c_,starEach->d_,model->ei,wpAny->e_,Program->fw,Str->fA,intKind->fD,World->f5,foldedSetIterable->f8,tupleKeyHash->f_,Expr->gc,eval->gi,compareOp->gj,wpAny_pure->gl,bootBuiltins->gq,Around->gs,mainGlobals->gt,backTo->gM,IsTupleKey->g6,swapsWith->g_,codeAny->hB,FuncData->hH,wpAny_loadPart'->hQ,attributeBase->hT,assignEach->h_,wpAny_loadPart_at->ii,wpAny_isSubtype_exc->im,holding->io,wpAny_mono->ip,keywordEach->iq,setSearchFrom->ix,tupleKind->iB,binaryOp->i_,excClassObj->jd,sysModules->jk,behindInMarks->jn,standAt->jo,Keyword->jp,backToKw->js,ZipApart->jt,NameKind->jI,ExceptHandler->jM,Pos->jP,letOwnedTupleGo->j6,sliceBounds->j_,unsupported->ka,wpAny_newObj_type->kv,newFunctionEnv->kO,ofAClassStatement->k6,assign->k_,wpAny_call->la,typeLookup->lf,checkBuiltinCall->lh,swapsWithSole->li,swappedStores->ln,rawInt->lr,Sem->l_,codeAny_mono->mv,relabel->m8,ExcBaseFacts->m_,getMethod->ni,noteFrame->nn,setFlight->no,pyNext->nr,Result->ny,wpAny_standAt->nA,bindArgs->nC,SetTable->nL,entryOfKey->n7,IsPair->n_,atKey->ow,Env->oy
open PyProof.Rows renaming arrOf->ey,pendingOf->ff,SortSt->ge,seqObj->hX,elem'->il,failedOf->iZ,SortKind->jc,setPending->jm,IntsAre->jq,envOfC->lc,reverseSlice'->lp,entry_list_sort->ls,AllBare->lv,slot_list_sort->nt,wpS->on,setArr->oo
open PySem.W renaming Frag->ad,findIn->aj,keepIn->am,codeIn->bd,specialIn->bj,emptyDict->br,isFn->bu,fnOf->bv,instObj->ca,hasDictIn->cb,nsIn->ce,mroIn->cm,plainGet->cr,kitOne->c4,OpenLaw->db,lookIn->dc,plainOver->df,methodObj->dz,takesIn->dG,takerIn->dL,readsIn->dV,makesIn->d3,findCls->d5,instIn->d7,WalkO->eh
open List renaming range->ak,lookup->bi,replicate->b5,Nodup->cI,length->da
open PySem renaming Spec->aD,Within->cq,SetTable->ee,call->eg
open Array renaming replicate->d6
abbrev ir:=@if_pos
abbrev tz:=@if_neg
abbrev FM:=@decide_eq_true
abbrev GE:=@decide_eq_false
abbrev IR:=@of_decide_eq_true
abbrev KM:=@congrArg
abbrev Pi:=@if_false
abbrev SB:=@of_decide_eq_false
abbrev UV:=@beq_eq_false_iff_ne
abbrev ac0:=@beq_iff_eq
abbrev ac4:=@if_true
abbrev ado:=@getElem?_pos
abbrev ad0:=@decide_eq_decide
abbrev aer:=@or_false
abbrev aeK:=@bne_self_eq_false
open PySem renaming wpAny_pure->mo,wpAny_holding->KF,wpAny_truthy_bool->UF,wpAny_Call_Name_kw->W1,wpAny_standAt->acP,wpAny_call_entry->acR,wpAny_field->acT,wpAny_newObj_type->acV,wpAny_loadPart_at->acW,wpAny_isSubtype_exc->acX,codeAny_mono->ac1,codeAny_builtin->ac2,mem_of_lookup->ac6,boot_len->ac7,wpAny_rule->ac8,wpAny_passesOwn->ac9,plainId_quiet->ada,wpAny_setState_of->adb,wpAny_comprehension_free->ade,wpAny_call->adm,wpAny_seqItems->adp,call_meets->adq,codeAny_call_builtin->adt,sizeLine_eq->adu,codeAny_of_tree->adx,wpAny_callSpecial?_slot->adF,wpAny_nextOf_list_item->adN,wpAny_newList->adR,wpAny_attempt->adS,wpAny_pyIter_zip->adT,builtinLookup_eq_fast->ad6,plainObj_wpAny_Assign_Attribute->ad7,wpAny_execs_nil->aea,wpAny_typeOf->aed,wpAny_specialOf->aej,wpAny_updateSeq->aem,wpAny_of_eq->aew,wpAny_lookBehind->aeT,pastItsLine_dict->aeU,wpAny_askSetting->aeY,wpAny_forIn_list->ae0,typeLookup_type->afe,seqIndex_of->afh,wpAny_getItem_list_neg->afi,wpAny_Call_method_late->afj,codeAny_compStart_list->afk,wpAny_loadPart->afq,wpAny_newTuple->afr,wpAny_setField->afs,wpAny_nsSet1->afv,codeAny_loop->afx
open PySem.Heap renaming get?_push_of_some->AC,lt_size->Da,get?_push_size->GT,get?_update_other->Os,get?_update_self->P3,get?_update_ne->adj,size_update->ads,size_push->adD,get?_push_ne->adG
open Option.some renaming inj->Do
open PyProof.Rows renaming wpS_bind->Fk,wpS_pure->FB,callWith_type1->PP,wpS_mono->SL,wpS_forRange->SZ,wpS_get->adv,wpS_modify->adE,subscriptTail_builtinR->adJ,wpS_lift->adV,slot_tuple_getitem->ad8,callWith_builtin1->aec,args_list_sort->aes,assignInOrder_cons->aex,listUpdate_at->aeF,size_push'->aeN,seqEpoch_at->afl,sortedAll_old->aft,sortedAll_at->afy,plain_sorted->afz,entry_sorted->afA,args_sorted1->afB,collect_list->afC
open PySem.PassesOwn renaming never->FS,leaving->aeM
open Classical renaming byContradiction->GM
open PySem.F renaming plainAttrs_list->KB,plain_extend_loop->acZ,slot_list_append->adf,type_list_append->adg,slot_list_insert->adh,type_list_insert->adi,slot_list_index->adk,type_list_index->adl,slot_zip_next->ael,excBase_ValueError->aeG,entry_extend_loop->aeP,args_tuple_add_2->aeW,slot_list_extend->ae2,type_list_extend->ae3,entry_tuple_add->ae9,slot_tuple_add->afg
open PySem.W renaming mg_none_of->M2,kia_one->Wp,mg_of->ac5,callWith_K->adn,methodCall_KW->ad2,plainGet_of->aep,cellsFrom_some->aff
open PyProof.Rows.KeyOrd renaming kle_trans->On,kle_of_klt->SC,kle_refl->acQ,klt_of_kle_of_klt->adB
open List.Pairwise renaming imp_of_mem->acS
open PySem.Around renaming under_plainId->acU
open Prod renaming ext->acY
open List.Perm renaming eq_of_pairwise->ac3
open Prod.mk renaming inj->adw
open PySem.Calls renaming call_function_entry->ady,callWith_builtin->adK,spliced_cons->aez,Name_function_global->aeC,spliced_nil->aeJ
open PySem.SeqAt.EqAt renaming int_int->adz
open PySem.Obj renaming data_mapFields->adA,isFreed_of_fields->ad3
open Array renaming size_setIfInBounds->adC,getElem?_setIfInBounds->aet,toList_inj->aeX,toList_filterMap->afn
open Nat renaming lt_succ_of_lt->adH,max_eq_right->ad1,mod_self->aef,max_eq_left->aen,lt_succ_self->aeV,xor_comm->ae6,zero_xor->ae7,xor_self->ae8,add_sub_cancel_left->afa,le_of_eq->afw,lt_trans->afD,le_total->afE,xor_zero->afF
open List renaming findIdx_cons->adI,pairwise_lt_range->adL,getElem_cons_drop->adO,all_cons->adP,map_take->adQ,all_eq_true->adU,take_succ_eq_append_getElem->adW,nodup_range->adX,any_eq_true->adY,getElem_map->adZ,pairwise_reverse->ad4,getElem?_toArray->ad5,eraseIdxIfInBounds_toArray->ad9,getElem?_append->aee,range_succ->aeg,reverse_reverse->aeh,find?_some->aei,filterMap_cons->aeo,countP_eq_length_filter->aeu,count_set->aev,mem_filterMap->aey,any_cons->aeD,map_drop->aeE,reverse_perm->aeL,count_replicate_self->aeO,getElem?_zip_eq_some->aeQ,mem_or_eq_of_mem_set->aeR,getElem_inj->aeS,map_set->ae1,of_mem_zip->afb,forIn_cons->afc,getElem_replicate->afo
open Option renaming map_eq_some_iff->adM,getD_some->ae5
open Bool renaming eq_iff_iff->aeb,or_eq_true->aek,and_false->aeq,not_true->aeI,false_and->afp,or_false->afu,or_true->afG
open PySem.Code renaming quiet_builtin->aeA
open Int renaming emod_lt_of_pos->aeB,natCast_emod->ae4,emod_nonneg->afd
open PySem.MeetsSeq3 renaming plain_eq_loop->aeH
open PySem.SetTable renaming toList_insertAt->aeZ,insertAt_perm->afm
local macro_rules|`($x<|>$y)=>`(autoParam $x $y)
theorem wm0(h:True:=by rfl):True:=h
def zn:Lean.Syntax:=wm0._auto_1
theorem wm1(h:True:=by decide):True:=h
def zm:Lean.Syntax:=wm1._auto_1
theorem wm2(h:True:=by subst_eqs):True:=h
def xz:Lean.Syntax:=wm2._auto_1
theorem wm3(h:True:=by intro _;rfl):True:=h
def xx:Lean.Syntax:=wm3._auto_1
theorem wm4(h:True:=by decide+kernel):True:=h
def xa:Lean.Syntax:=wm4._auto_1
theorem wm5(h:True:=by first|decide|lia):True:=h
def ww:Lean.Syntax:=wm5._auto_1
theorem wm6(h:True:=by intro _ _;rfl):True:=h
def wv:Lean.Syntax:=wm6._auto_1
theorem wm7(h:True:=by with_unfolding_all rfl):True:=h
def wr:Lean.Syntax:=wm7._auto_1
theorem wm8(h:True:=by exact λ_ _=>rfl):True:=h
def wp:Lean.Syntax:=wm8._auto_1
theorem wm9(h:True:=by intros;rfl):True:=h
def wn:Lean.Syntax:=wm9._auto_1
theorem ae{g:Prop}(h:∀G:Prop,(g->G)->G):g:=h g id
set_option hygiene false in
local macro_rules|`(tactic|rfl')=>`(tactic|refine ae fun G0 k0=>?_)
set_option hygiene false in
local macro_rules|`(tactic|ac_rfl)=>`(tactic|refine k0 ?_)
local macro_rules(kind:=Lean.Parser.Command.declaration)|s=>match s.getPos? with|none=>Lean.Macro.throwUnsupported|_=>do
 let m<-`(command|noncomputable def x:=0)
 pure ((if s[1].isOfKind ``Lean.Parser.Command.definition&&s[0].getArgs.all (·.isNone) then s.setArg 0 m.raw[0] else s).rewriteBottomUp (·.setInfo .none))
noncomputable section
set_option bootstrap.genMatcherCode false
set_option Elab.async false
set_option linter.all false
set_option maxRecDepth 100000
abbrev aG:= @List.length_map
abbrev cz:= @List.getElem?_eq_getElem
abbrev cV:= @List.getD_eq_getElem?_getD
abbrev cR:= @List.getElem?_eq_some_iff
abbrev cL:= @List.mem_of_getElem?
abbrev bg:= @Nat.le_refl
abbrev dg:= @List.length_append
abbrev dh:= @List.getElem?_map
abbrev dH:= @List.mem_cons_self
abbrev fq:= @List.mem_cons_of_mem
abbrev cn:= @List.size_toArray
abbrev cO:= @Nat.lt_of_lt_of_le
abbrev c9:= @Array.length_toList
abbrev b9:= @List.map_append
abbrev fm:= @List.getElem?_eq_none
abbrev bS:= @Nat.ne_of_lt
abbrev eD:= @Bool.false_ne_true
abbrev cP:= @List.mem_append
abbrev gJ:= @List.getElem?_append_left
abbrev eZ:= @List.mem_singleton
abbrev dU:= @List.length_cons
abbrev fo:= @Bool.false_eq_true
abbrev fW:= @List.mem_append_right
abbrev cH:= @List.map_cons
abbrev iQ:= @List.getElem?_append_right
abbrev gm:= @Array.getElem?_toList
abbrev cQ:= @List.mem_cons
abbrev cC:= @List.map_map
abbrev cE:= @List.mem_map
abbrev e8:= @List.append_nil
abbrev fF:= @List.length_set
abbrev i5:= @List.getElem?_set_ne
abbrev i6:= @List.getElem?_of_mem
abbrev eE:= @Nat.zero_le
abbrev iR:= @List.pairwise_map
abbrev j8:= @List.mem_append_left
abbrev k7:= @List.take_append_drop
abbrev lV:= @List.getElem?_set_self
abbrev i7:= @List.nodup_append
abbrev iS:= @List.length_take
abbrev j9:= @Array.toList_append
abbrev jQ:= @List.length_range
abbrev kc:= @List.getElem?_set
abbrev ke:= @Nat.le_of_not_lt
abbrev k8:= @List.append_assoc
abbrev i8:= @List.nodup_nil
abbrev i9:= @List.mem_range
abbrev sF:= @Array.getElem?_eq_getElem
abbrev k9:= @List.mem_flatten
abbrev lW:= @Int.toNat_natCast
abbrev iT:= @Nat.le_trans
abbrev wa:= @List.drop_eq_getElem_cons
abbrev lX:= @List.getElem_mem
abbrev sH:= @List.length_pos_of_mem
abbrev sI:= @List.take_of_length_le
abbrev ja:= @Nat.zero_add
abbrev kg:= @Nat.lt_irrefl
abbrev yB:= @List.perm_ext_iff_of_nodup
abbrev wb:= @List.getElem?_replicate
abbrev wc:= @Int.eq_ofNat_of_zero_le
abbrev jR:= @Nat.ne_of_gt
abbrev sL:= @List.pairwise_append
abbrev qH:= @Nat.lt_of_le_of_lt
abbrev m7:= @List.mem_filter
abbrev oS:= @List.length_drop
abbrev qI:= @List.ext_getElem?
abbrev yC:= @List.getElem?_cons_succ
abbrev BI:= @Array.getElem?_eq_some_iff
abbrev qJ:= @List.take_length
abbrev BJ:= @List.pairwise_iff_getElem
abbrev wd:= @List.getElem?_range
abbrev we:= @List.flatten_append
abbrev yD:= @List.length_replicate
abbrev BK:= @List.idxOf_lt_length_iff
abbrev qK:= @List.length_nil
abbrev oU:= @Nat.xor_assoc
abbrev BL:= @List.drop_of_length_le
abbrev BM:= @List.drop_eq_nil_of_le
abbrev sM:= @List.nil_append
abbrev oV:= @Nat.sub_self
abbrev wg:= @List.lookup_cons
abbrev wj:= @Nat.mod_eq_of_lt
abbrev D1:= @List.set_eq_of_length_le
abbrev yE:= @List.flatten_cons
abbrev wk:= @List.nodup_cons
abbrev Iw:= @Array.getD_eq_getD_getElem?
abbrev BN:= @List.reverse_append
abbrev oW:= @Nat.le_succ
abbrev qL:= @Nat.le_of_lt
abbrev Iy:= @List.nodup_iff_pairwise_ne
abbrev yF:= @Bool.and_eq_true
abbrev yG:= @List.mem_reverse
abbrev wo:= @Nat.mul_le_mul
abbrev wq:= @List.take_succ
abbrev BO:= @List.getElem_idxOf
abbrev BP:= @Array.toList_push
abbrev BQ:= @Bool.eq_false_iff
abbrev D2:= @List.map_congr_left
abbrev BR:= @List.not_mem_nil
abbrev D3:= @List.getElem?_drop
abbrev xS:= @Array.size_extract
abbrev t5:= @Nat.min_eq_left
abbrev BF:= @List.mem_iff_getElem?
abbrev FU:= @Array.perm_iff_toList_perm
abbrev xT:= @List.flatMap_cons
abbrev BG:= @Array.toList_reverse
abbrev FW:= @List.mem_of_find?_eq_some
abbrev t6:= @List.take_zero
abbrev xU:= @List.filter_cons
abbrev xV:= @Nat.min_eq_right
abbrev FX:= @List.getElem?_take_of_lt
abbrev FY:= @List.pairwise_singleton
abbrev FZ:= @List.range_succ_eq_map
abbrev F0:= @List.length_singleton
abbrev F2:= @List.length_filter_le
abbrev K8:= @List.sublist_flatten_of_mem
abbrev K9:= @List.idxOf_lt_length_of_mem
abbrev qG:= @Nat.mod_lt
abbrev F3:= @List.mem_of_mem_take
abbrev F4:= @List.length_pos_iff
abbrev BH:= @Option.map_some
abbrev xW:= @List.map_nil
abbrev F5:= @List.find?_eq_none
abbrev F6:= @Array.forIn_toList
namespace L2
open PySem PySem.Spec PyProof.Rows
abbrev Key:=Sum Int Str
def QM:Key->Value->Bool
 | .inl k,v=>Value.isInt k v
 | .inr x,v=>Value.isStrOf x v
def abr(w:World):Key->Int
 | .inl k=>hashInt k
 | .inr x=>hashStr w x
theorem dR:∀{k:Key}{v:Value},QM k v=true->(∃i t,k=Sum.inl i/\v=Value.int i t)\/(∃x t,k=Sum.inr x/\v=Value.str x t)
 | .inl i,v,h=>by
  obtain⟨t,e⟩:=Value.isInt_shape (k:=i) (v:=v) h;exact .inl #[i,t,rfl,e]
 | .inr x,v,h=>by
  obtain⟨t,e⟩:=Value.isStrOf_shape (x:=x) (v:=v) h;exact .inr #[x,t,rfl,e]
def Uu(a b:Int):decide ((Sum.inl a:Key)=Sum.inl b)=(a==b):=by
 by_cases e:a=b
 .subst e;simp
 .have h:¬(Sum.inl a:Key)=Sum.inl b:=λq=>e^Sum.inl.inj q
  rw[GE h];exact(UV.mpr e).symm
def Uy(a b:fA):decide ((Sum.inr a:Key)=Sum.inr b)=decide (a=b):=by
 by_cases e:a=b
 .subst e;simp
 .have h:¬(Sum.inr a:Key)=Sum.inr b:=λq=>e^Sum.inr.inj q
  rw[GE h,GE e]
def Uv(a:Int)(b:fA):decide ((Sum.inl a:Key)=Sum.inr b)=false:=GE^λq=>nomatch q
def Ux(a:fA)(b:Int):decide ((Sum.inr a:Key)=Sum.inl b)=false:=GE^λq=>nomatch q
def Aw(prog:Program)(w:World):PySem.KeyKind prog w Key where
 is:=QM
 hash:=abr w
 inj:=λv a b g f=>by
  rcases dR g with ⟨i,t,rfl,rfl⟩ | ⟨x,t,rfl,rfl⟩
  .rcases dR f with ⟨j,u,rfl,e⟩ | ⟨y,u,rfl,e⟩
   .injection e with c _;rw[c]
   .exact nomatch e
  .rcases dR f with ⟨j,u,rfl,e⟩ | ⟨y,u,rfl,e⟩
   .exact nomatch e
   .injection e with c _;rw[c]
 byValue:=λk v h=>by
  rcases dR h with ⟨i,t,rfl,rfl⟩ | ⟨x,t,rfl,rfl⟩<;>rfl
 pyHash:=λd h=>by
  rcases dR d with ⟨i,t,rfl,rfl⟩ | ⟨x,t,rfl,rfl⟩
  .exact wpAny_pyHash_int h
  .exact wpAny_pyHash_str h
 eqBool:=λl d h=>by
  rcases dR l with ⟨i,t,rfl,rfl⟩ | ⟨x,t,rfl,rfl⟩
  .rcases dR d with ⟨j,u,rfl,rfl⟩ | ⟨y,u,rfl,rfl⟩
   .rw[Uu] at h;exact wpAny_eqBool_int h
   .rw[Uv] at h;exact SeqAt.EqAt.int_str i t y u _ _ _ _ h
  .rcases dR d with ⟨j,u,rfl,rfl⟩ | ⟨y,u,rfl,rfl⟩
   .rw[Ux] at h;exact SeqAt.EqAt.str_int x t j u _ _ _ _ h
   .rw[Uy] at h;exact wpAny_eqBool_str h
 «strs»:=λk x t v h=>by
  rcases dR h with ⟨i,u,rfl,e⟩ | ⟨y,u,rfl,e⟩
  .exact nomatch e
  .injection e with c _
   subst c;cases v<;>rfl
set_option genInjectivity true in
inductive V where
 |aQ|bl (b:Bool) |int (i:Int) |str (x:Str) |yK (b:Array UInt8) |Jc (b:UInt64) |ref (a:Addr) |ty (n:String)
 deriving DecidableEq
def RelV:V->Value->Prop
 | .aQ,u=>u=Value.none
 | .bl b,u=>u=Value.bool b
 | .int i,u=>∃t,u=Value.int i t
 | .str x,u=>∃t,u=Value.str x t
 | .yK b,u=>∃t,u=Value.bytes b t
 | .Jc b,u=>∃t,u=Value.float b t
 | .ref a,u=>u=Value.ref a
 | .ty n,u=>u=Value.type n
abbrev Vals:List V->List Value->Prop:=Paired RelV
theorem Vals.length{xs:List V}{a:List Value}(r:Vals xs a):xs.length=a.length:=Paired.length r
theorem Vals.get:∀{a:List V}{b:List b_}{i:Nat}{x:V},Vals a b->a[i]?\x->∃u,b[i]?\u/\RelV x u
 |_,_,_,_, .nil,e=>by simp at e
 |_,_,0,_, .cons r _,e=>by simp at e;subst e;exact#[_,rfl,r]
 |_,_,i+1,x, .cons _ t,e=>by
  let⟨u,c,d⟩:=Vals.get (i:=i) (x:=x) t^~~~e
  exact#[u,by simpa using c,d]
theorem Vals.set{x:V}(r:RelV x u):∀{a:List V}{b:List b_}(i:Nat),Vals a b->Vals (a.set i x)^b.set i u
 |_,_,_, .nil=> .nil
 |_,_,0, .cons _ t=> .cons r t
 |_,_,i+1, .cons q t=> .cons q^Vals.set r i t
theorem Vals.append:∀{a b:List V}{c d:List b_},Vals a c->Vals b d->Vals (a++b) (c++d)
 |_,_,_,_, .nil,s=>s
 |_,_,_,_, .cons r t,s=> .cons r^Vals.append t s
theorem Vals.take:∀{xs:List V}{a:List b_}(n:Nat),Vals xs a->Vals (xs.take n)^a.take n
 |_,_,0,_=> .nil
 |_,_,_+1, .nil=> .nil
 |_,_,n+1, .cons r t=> .cons r^Vals.take n t
theorem Vals.drop:∀{xs:List V}{a:List b_}(n:Nat),Vals xs a->Vals (xs.drop n)^a.drop n
 |_,_,0,r=>r
 |_,_,_+1, .nil=> .nil
 |_,_,n+1, .cons _ t=>Vals.drop n t
def lC:Option V->Option Value->Prop
 |some v,some u=>RelV v u
 |none,none=>True
 |_,_=>False
def KV{a:Type}:List (a×V)->List (a×Value)->Prop:=Paired λ(p:a×V)(q:a×Value)=>p.1=q.1/\RelV p.2 q.2
def kV:Key->V
 | .inl i=> .int i
 | .inr x=> .str x
inductive HO where
  |lst (xs:List V)
  |tup (xs:List V)
  |dK (fK:List (Key×V)) |dT (fK:List (List Key×V))
  |set (S:Int->Bool) (n:Nat)
  |ins (C dx:Addr) (fs:List (Str×V))
  |own (x:Addr)
  |xd (fs:List (Str×V))
  |met (f x:Addr)
  |rng (lo hi:Int)
  |sY (o:Obj) (u:HO)
  |Ib (ps:Array Value)
  |ext (φ:Heap->Prop)
abbrev Hp:=Addr->Option HO
def upd(H:Hp)(a:Addr)(o:HO):Hp:=λb=>if b=a then some o else H b
def af{H:Hp}{a:Addr}{o:HO}:upd H a o a\o:=by unfold upd;rw[ir rfl]
def ag{H:Hp}{a b:Addr}{o:HO}(h:b≠a):upd H a o b=H b:=by unfold upd;rw[tz h]
def qC:upd (upd H a o) a u=upd H a u:=by
 funext b;unfold upd;split<;>rfl
def au{H:Hp}{a b:Addr}(h:H a\o)(h':H b=none):a≠b:=by
 intro e;subst e;rw[h] at h';cases h'
section
variable (P:Program) (w:World)
def cK(H:Hp)(h:Heap)(a:Addr):HO->Prop
 | .lst c=>c.length<=sizeLine/\∃(b:List b_)(n:Nat),Vals c b/\h.get? a\{cls:= .type "list",data:= .seq b.toArray n}
 | .tup c=>c.length<=sizeLine/\∃b:List b_,Vals c b/\IsTup h a b.toArray
 | .dK e=>e.length<=sizeLine/\(a==jk)=false/\∃j,KV e j/\h.DictOf (Aw P w) a j
 | .dT e=>e.length<=sizeLine/\(a==jk)=false/\∃c:List (List Key×Addr×b_),
   Paired (λ(p:List Key×V)(q:List Key×Addr×b_)=>p.1=q.1/\H q.2.1\(.tup^p.1.map kV)/\RelV p.2 q.2.2) e c/\
   ∃o k r,h.get? a\o/\o.ExactDict/\o.data= .dict k r/\k.toList=c.map^n7^iB^Aw P w/\(c.map (·.1)).Nodup
 | .set S n=>h.SetOf (fD P w) a S n
 | .ins C g fs=>H g\(.own a)/\fs.length<=1000/\g≠a/\h.get? a\(ca C g)/\
   ∃d,h.Ns1 g d/\(∀f,lC (fs.lookup f)^d f)/\cq d^fs.map (·.1)
 | .own _=>∃o,h.get? a\o
 | .xd fs=>∃d,h.Ns1 a d/\∀f,lC (fs.lookup f)^d f
 | .rng lo s=>∃t u v,h.get? a\{cls:= .type "range",data:= .fields [.int lo t, .int s u, .int 1 v].toArray}
 | .sY o u=>h.get? a\o/\cK H h a u
 | .Ib y=>h.get? a\{cls:= .none,data:= .fields y}
 | .met f x=>h.get? a\(dz (.ref f)^.ref x)
 | .ext i=>i h/\(∃o,h.get? a\o)/\∀l m:Heap,i l->(∀o,l.get? a\o->m.get? a\o)->i m
def iz(H:Hp)(h:Heap):Prop:=∀a o,H a\o->cK P w H h a o
end
section
variable {P:Program} {w:World} {H H':Hp} {h h':Heap} {a:Addr} {o:HO}
theorem cK.lt(x:cK P w H h a o):a<h.objs.size:=by
 cases o with
 |lst b=>obtain⟨_,_,_,_,e⟩:=x;exact Da e
 |tup b=>obtain⟨_,_,_,p⟩:=x;exact p.lt
 |dK c=>obtain⟨_,_,_,_,o,_,_,e,_⟩:=x;exact Da e
 |dT c=>obtain⟨_,_,_,_,o,_,_,e,_⟩:=x;exact Da e
 |set S n=>obtain⟨o,_,_,_,e,_⟩:=x;exact Da e
 |ins C d fs=>obtain⟨_,_,_,e,_⟩:=x;exact Da e
 |own y=>obtain⟨_,e⟩:=x;exact Da e
 |xd fs=>obtain⟨_,⟨_,_,_,e,_⟩,_⟩:=x;exact Da e
 |rng lo g=>obtain⟨_,_,_,e⟩:=x;exact Da e
 |sY i u=>obtain⟨e,_⟩:=x;exact Da e
 |Ib j=>exact Da (show h.get? a\_ from x)
 |met f y=>exact Da (show h.get? a\_ from x)
 |ext k=>obtain⟨_,⟨_,e⟩,_⟩:=x;exact Da e
theorem Paired.Wy:∀{c:List e}{d:List g},Paired F c d->(∀a b,F a b->G a b)->Paired G c d
 |_,_, .nil,_=> .nil
 |_,_, .cons r t,f=> .cons (f _ _ r)^Paired.Wy t f
theorem cK.oQ(x:cK P w H h a o)(k:∀b u,(b=a\/H b\(.own a))->h.get? b\u->h'.get? b\u)
  (E:∀b,H b\(.own a)->H' b\(.own a)) (F:∀b m,H b\(.tup m)->H' b\(.tup m)):cK P w H' h' a o:=by
 induction o with
 |lst m=>let⟨z,l,n,r,e⟩:=x;exact#[z,l,n,r,k _ _ (.inl rfl) e]
 |tup m=>let⟨z,l,r,g,e,c⟩:=x;exact#[z,l,r,g,k _ _ (.inl rfl) e,c]
 |dK G=>let⟨z,y,I,r,g,i,j,e,c⟩:=x;exact#[z,y,I,r,g,i,j,k _ _ (.inl rfl) e,c]
 |dT G=>
  let⟨z,y,m,r,g,i,j,e,c⟩:=x;exact#[z,y,m,Paired.Wy r λp q z=>#[z.1,F _ _ z.2.1,z.2.2],g,i,j,k _ _ (.inl rfl) e,c]
 |set S n=>let⟨g,i,j,t,e,c⟩:=x;exact#[g,i,j,t,k _ _ (.inl rfl) e,c]
 |ins C N fs=>
  rfl';obtain⟨d,z,ne,e,s,⟨A,i,j,L,c⟩,r⟩:=x;ac_rfl;exact#[E _ d,z,ne,k _ _ (.inl rfl) e,s,#[A,i,j,k _ _ (.inr d) L,c],r]
 |own y=>let⟨g,e⟩:=x;exact#[g,k _ _ (.inl rfl) e]
 |xd fs=>obtain⟨s,⟨A,i,j,e,c⟩,r⟩:=x;exact#[s,#[A,i,j,k _ _ (.inl rfl) e,c],r]
 |rng lo Q=>let⟨t,u,v,e⟩:=x;exact#[t,u,v,k _ _ (.inl rfl) e]
 |sY g u M=>let⟨e,q⟩:=x;exact#[k _ _ (.inl rfl) e,M q]
 |Ib B=>
  have e:h.get? a\{cls:= .none,data:= .fields B}:=x;show h'.get? a\{cls:= .none,data:= .fields B};exact k a _ (.inl rfl) e
 |met f y=>
  have e:h.get? a\(dz (.ref f)^.ref y):=x;show h'.get? a\(dz (.ref f)^.ref y);exact k a _ (.inl rfl) e
 |ext R=>obtain⟨p,⟨o,e⟩,st⟩:=x;exact#[st _ _ p λo q=>k _ _ (.inl rfl) q,#[o,k _ _ (.inl rfl) e],st]
theorem iz.lt(x:iz P w H h)(e:H a\o):a<h.objs.size:=(x a o e).lt
def iz.fresh(x:iz P w H h)(e:h.objs.size<=a):H a=none:=by
 cases q:H a with
 |none=>rfl
 |some u=>exact absurd (cO (x.lt q) e)^kg _
def iz.kept(x:iz P w H h)(k:∀b u,h.get? b\u->h'.get? b\u):iz P w H h':=λa o e=>
 (x a o e).oQ (λb u _ q=>k b u q) (λ_ q=>q) λ_ _ q=>q
def iz.laid(x:iz P w H h)(k:∀b u,h.get? b\u->h'.get? b\u)(g:h.objs.size<=a)(new:cK P w (upd H a o) h' a o):iz P w (upd H a o) h':=λb u e=>by
 have d:=x.fresh g
 by_cases f:b=a
 .subst f;rw[af] at e;cases e;exact new
 .rw[ag f] at e
  exact(x b u e).oQ (λc v _ q=>k c v q) (λc q=>by rw[ag^au q d];exact q) λc i q=>by rw[ag^au q d];exact q
end
def Rd(H:Hp)(a:Addr)(u:HO):Prop:=H a\u\/∃o,H a\(.sY o u)
def Rd.ok{P:Program}{w:World}{H:Hp}{a:Addr}(r:Rd H a u)(x:iz P w H h):cK P w H h a u:=by
 rcases r with r| ⟨o,r⟩
 .exact x a u r
 .obtain⟨_,q⟩:=x a _ r
  exact q
def OO:Option HO->Prop
 |some^.lst _=>True
 |some^.dK _=>True
 |some^.dT _=>True
 |some^.set _ _=>True
 |some^.ins _ _ _=>True
 |some^.ext _=>True
 |_=>False
section
variable {P:Program} {w:World} {H:Hp} {h h':Heap} {x e:Addr} {o':HO}
def iz.write(ok:iz P w H h)(a:OO^H x)(j:e=x\/H e\(.own x))(k:∀b u,b≠e->h.get? b\u->h'.get? b\u)(n:∃u,h'.get? e\u)
  (new:cK P w (upd H x o') h' x o'):iz P w (upd H x o') h':=λb u q=>by
 have l:∀c y,H c\(.own y)->c≠x:=λc y r z=>by subst z;rw[r] at a;exact a
 have o:∀c d,H c\(.tup d)->c≠x:=λc d r z=>by subst z;rw[r] at a;exact a
 by_cases f:b=x
 .subst f;rw[af] at q;cases q;exact new
 .rw[ag f] at q
  by_cases g:b=e
  .have m:H b\(.own x):=by
    rcases j with z|z
    .exact absurd (g.trans z) f
    .rw[g];exact z
   let⟨v,p⟩:=n;rw[q] at m;cases m;exact#[v,by rw[g];exact p]
  .refine(ok b u q).oQ (λc v i r=>k c v ?_ r) (λc r=>by rw[ag^l c b r];exact r) λc d r=>by rw[ag^o c d r];exact r
   rcases i with rfl|i
   .exact g
   .rintro rfl
    rcases j with z|z
    .exact l c b i z
    .rw[i] at z;cases z;exact f rfl
end
structure Un (fs ex:List Addr) (H H':Hp) (h h':Heap):Prop where
 keep:∀b o,h.get? b\o->H b=none->b∉fs->b∉ex->h'.get? b\o
 slot:∀b o,h.get? b\o->H b=none->b∈fs->b∉ex->∃sl,h'.get? b\{o with slots:=sl}
 free:∀b o,h.get? b\o->H b=none->b∉ex->H' b=none
 there:∀b o,h.get? b\o->b∉ex->∃o',h'.get? b\o'
 tups:∀b xs,H b\(.tup xs)->H' b\(.tup xs)
 frzs:∀b o u,H b\(.sY o u)->H' b\(.sY o u)
 tbls:∀b ps,H b\(.Ib ps)->∃more,H' b\(.Ib (ps++more))
section
variable {fs fs' ex rM:List Addr} {H H1 H2:Hp} {h h1 h2 h':Heap} {a x e:Addr} {o:HO}
def Un.any(u:Un fs ex H H1 h h1)(q:h.get? b\c)(n:H b=none)(d:b∉ex):∃g,h1.get? b\{c with slots:=g}:=by
 by_cases f:b∈fs
 .exact u.slot b c q n f d
 .exact#[c.slots,u.keep b c q n f d]
def Un.kept(k:∀b u,h.get? b\u->h'.get? b\u):Un fs ex H H h h':=
 #[λb c q _ _ _=>k b c q,λb c q _ _ _=>#[c.slots,k b c q],λ_ _ _ n _=>n,λb c q _=>#[c,k b c q],λ_ _ q=>q,λ_ _ _ q=>q,λ_ d q=>#[#[],by rw[q];simp]]
def Un.refl:Un fs ex H H h h:=Un.kept λ_ _ q=>q
def Un.laid(k:∀b u,h.get? b\u->h'.get? b\u)(d:h.objs.size<=a)(c:H a=none):Un fs ex H (upd H a o) h h' where
 keep:=λb u q _ _ _=>k b u q
 slot:=λb u q _ _ _=>#[u.slots,k b u q]
 free:=λb u q n _=>by rw[ag^bS^cO (Da q) d];exact n
 there:=λb u q _=>#[u,k b u q]
 tups:=λb f q=>by rw[ag^au q c];exact q
 frzs:=λb u f q=>by rw[ag^au q c];exact q
 tbls:=λb g q=>#[#[],by rw[ag^au q c,q];simp]
def Un.write(c:OO^H x)(j:e=x\/H e\(.own x))(k:∀b u,b≠e->h.get? b\u->h'.get? b\u)(l:∃u,h'.get? e\u):Un fs ex H (upd H x o) h h':=by
 have f:∀b,H b=none->b≠x:=λb n z=>by subst z;rw[n] at c;exact c
 have g:∀b,H b=none->b≠e:=λb n z=>by
  subst z
  rcases j with r|r
  .exact f b n r
  .rw[n] at r;cases r
 have d:∀b u,H b\u->¬OO^some u->b≠x:=λb u q m z=>by subst z;rw[q] at c;exact m c
 refine#[λb u q n _ _=>k b u (g b n) q,λb u q n _ _=>#[u.slots,k b u (g b n) q],λb u q n _=>by rw[ag^f b n];exact n,λb u q _=>?_,
  λb p q=>by rw[ag (d b _ q λz=>z)];exact q,λb u p q=>by rw[ag (d b _ q λz=>z)];exact q,λb s q=>#[#[],by rw[ag (d b _ q λz=>z),q];simp]]
 by_cases i:b=e
 .subst i;exact l
 .exact#[u,k b u i q]
end
def VO(h:Heap)(H:Hp):List Addr:=(ak h.objs.size).filter λa=>(H a).isSome
def uN(h:Heap)(H:Hp):Heap:=PySem.W.hideAll h^VO h H
def Js(h:Heap)(H:Hp):(uN h H).objs.size=h.objs.size:=PySem.W.hideAll_size _ _
def Nk(e:h.get? b\o)(n:H b=none):(uN h H).get? b\o:=
 PySem.W.hideAll_get _ e λa=>by
  have q:(H b).isSome=true:=(m7.mp a).2;rw[n] at q;simp at q
def Rb(e:(uN h H).get? b\o):h.get? b\o/\H b=none:=by
 have a:h.get? b\o:=PySem.W.of_hideAll (VO h H) e;exists a;cases q:H b with
 |none=>rfl
 |some x=>
  have c:b∈VO h H:=m7.mpr #[i9.mpr^Da a,by simp[q]]
  have z:(uN h H).get? b=none:=PySem.W.hideAll_none (VO h H) c;rw[z] at e;cases e
structure Mod (K:ad) (mg:Str->Option Value) (base:Heap):Prop where
 kin:K.In base
 glob:base.Ns mainGlobals mg
 blt:∃mb,base.Ns builtinsNs mb/\∀x:Str,x≠"__name__"->mb x=bootBuiltins x
 nolimit:base.NoLimit
structure Cx where
 prog:Program
 w:World
 K:ad
 mg:Str->Option Value
 base:Heap
 A:Around
 N:List Str
 s₀:Shared
 H₀:Hp
 env:Env
 outer:List Env
 stack:List Env
 ex:List Addr
 fn:Str->Bool
 calm:Bool
 pn:List (Addr×Obj)
 xe:Value->Shared->Prop
def uI(l:List Env):List Addr:=l.filterMap (·.frame)
abbrev Cx.fs(X:Cx):List Addr:=uI X.outer
def rK(a:Scope)(x:Str):Prop:=a.names.lookup x\.local\/a.names.lookup x\.cell\/a.names.lookup x\.free
def Loc(a:Scope)(x:Str):Prop:=a.names.lookup x\.local\/a.names.lookup x\.cell
def Look(env:oy)(h:Heap)(m:fA->Option b_)(x:fA)(u:b_):Prop:=
 (env.kindOf x\.local/\m x\u)\/((env.kindOf x\.cell\/env.kindOf x\.free)/\∃c,env.cells.lookup x\c/\h.IsCell c^some u)
structure Cx.Ok (X:Cx):Prop where
 mod:Mod X.K X.mg X.base
 kind:X.env.scope.kind= .function
 glob:X.env.globals=mainGlobals
 blt:X.env.builtins=builtinsNs
 above:X.s₀.heap.objs.size<=X.env.locals
 inj:∀x y c,X.env.cells.lookup x\c->X.env.cells.lookup y\c->x=y
 has:∀x,(X.env.kindOf x\.cell\/X.env.kindOf x\.free)->∃c,X.env.cells.lookup x\c
 cab:∀x c,X.fn x=true->X.env.cells.lookup x\c->X.s₀.heap.objs.size<=c
 hd:X.calm=true->X.A.handled=none
 frames:X.A.frames\X.stack
 stk:X.stack=X.outer\/(X.stack=X.env::X.outer/\X.env.frame\X.env.locals)
 exf:∀b∈X.ex,b≠X.env.locals/\∀x c,X.env.cells.lookup x\c->c≠b
 bs:∀b o,X.base.get? b\o->X.s₀.heap.get? b\o/\X.H₀ b=none
 bsz:X.base.objs.size<=X.s₀.heap.objs.size
 noex:∀b o,X.base.get? b\o->b∉X.ex
 exfs:∀b∈X.ex,b∉X.fs
 funs:X.s₀.heap.FunFrames X.base X.outer
 frf:∀b∈X.fs,X.H₀ b=none
structure Inv (X:Cx) (pins:List (Addr×Obj)) (σ:List^Option V) (H:Hp) (s:c_):Prop where
 ok:X.Ok
 os:s.os=X.s₀.os
 bare:lv s.gens
 base:Un X.fs X.ex X.H₀ H X.s₀.heap s.heap
 loc:∃m,s.heap.Ns X.env.locals m/\∀(i:Nat)(x:fA)(v:V),X.N[i]?\x->σ[i]?\(some v)->rK X.env.scope x->∃u,RelV v u/\Look X.env s.heap m x u
 cell:∀x c,X.env.cells.lookup x\c->∃v,s.heap.IsCell c v
 free:H X.env.locals=none
 freeC:∀x c,X.env.cells.lookup x\c->H c=none
 pin:∀p∈X.pn++pins,s.heap.get? p.1\p.2/\H p.1=none/\p.1≠X.env.locals/\p.1∉X.fs/\∀v,p.2.data≠ .cell v
 hok:iz X.prog X.w H s.heap
 len:σ.length=X.N.length
section
variable {X:Cx} {pins:List (Addr×Obj)} {σ:List^Option V} {H H':Hp} {s:c_} {h':Heap}
def Cx.Ok.abE(ok:X.Ok)(e:X.base.get? b\o):b∉X.fs:=λa=>by
 have:=(ok.funs.mem a).1
 rw[e] at this;cases this
theorem Inv.bs(I:Inv X pins σ H s):∀b o,X.base.get? b\o->s.heap.get? b\o/\H b=none:=λb o e=>
 #[I.base.keep b o (I.ok.bs b o e).1 (I.ok.bs b o e).2 (I.ok.abE e)^I.ok.noex b o e,I.base.free b o (I.ok.bs b o e).1 (I.ok.bs b o e).2^I.ok.noex b o e]
def Inv.bk(I:Inv X pins σ H s):∀b o,X.base.get? b\o->s.heap.get? b\o:=λb o e=>(I.bs b o e).1
theorem Inv.mod(I:Inv X pins σ H s):Mod X.K X.mg X.base:=I.ok.mod
def Inv.fi(I:Inv X pins σ H s):X.K.In s.heap:=I.ok.mod.kin.keeps I.bk
theorem Inv.lt(I:Inv X pins σ H s):X.env.locals<s.heap.objs.size:=let #[_,a,_]:=I.loc;a.lt
def Inv.sz(I:Inv X pins σ H s):X.s₀.heap.objs.size<=s.heap.objs.size:=iT I.ok.above^qL I.lt
def Inv.WH(I:Inv X pins σ H s)(h:s.heap.objs.size<=a):a∉X.fs:=λb=>by
 let⟨d,o,c,e⟩:=I.ok.funs.mem b;exact absurd (cO (Da c)^iT I.sz h)^kg _
def Inv.zM(I:Inv X pins σ H s):∀x c,X.env.cells.lookup x\c->c≠X.env.locals:=λx c e z=>by
 obtain⟨v,o,a,b⟩:=I.cell x c e;obtain⟨m,⟨g,h,i,d,f,_⟩,_⟩:=I.loc;rw[z,d] at a;cases a;rw[f] at b;cases b
theorem Inv.funs(I:Inv X pins σ H s):s.heap.FunFrames X.base X.outer:=by
 have all:∀(l:List oy),(∀b∈uI l,b∈X.fs)->X.s₀.heap.FunFrames X.base l->s.heap.FunFrames X.base l:=by
  intro l
  induction l with
  |nil=>intro _ _;trivial
  |cons env r g=>
   intro f h;rfl';obtain⟨j,⟨L,o,a,k,m,n⟩,p⟩:=h;have c:L∈X.fs:=f L^by unfold uI;rw[aeo,a];exact dH
   let⟨t,e⟩:=I.base.slot L o m (I.ok.frf L c) c λz=>I.ok.exfs L z c;ac_rfl;exact#[j,#[L,_,a,k,e,n],g (λb d=>f b^by unfold uI;rw[aeo,a];exact fq _ d) p]
 exact all X.outer (λ_ d=>d) I.ok.funs
theorem Inv.stack(I:Inv X pins σ H s):s.heap.FunFrames X.base X.stack:=by
 rcases I.ok.stk with e| ⟨e,a⟩
 .rw[e];exact I.funs
 .rw[e]
  let⟨m,b,c⟩:=I.loc;refine .cons (by rw[I.ok.kind];decide) a b ?_ I.funs
  exact Heap.get?_none_of_le^iT I.ok.bsz I.ok.above
def Inv.Fz(I:Inv X pins σ H s):∀b∈uI X.stack,b∈X.env.locals::X.fs:=λb a=>by
 rcases I.ok.stk with e| ⟨e,c⟩
 .rw[e] at a;exact fq _ a
 .rw[e] at a
  unfold uI at a;rw[aeo,c] at a;exact a
def Inv.Bl(I:Inv X pins σ H s):∀b∈uI X.stack,H b=none:=λb a=>by
 rcases cQ.mp^I.Fz b a with e|a
 .rw[e];exact I.free
 .obtain⟨_,o,c,_⟩:=I.ok.funs.mem a
  exact I.base.free b o c (I.ok.frf b a) λz=>I.ok.exfs b z a
def Inv.step{g':Array GenState}{d':Drawn}{ch:List Addr}(I:Inv X pins σ H s)
  (t:∀b∈ch,(b∈X.ex\/X.s₀.heap.objs.size<=b)/\b≠X.env.locals/\(∀x c,X.env.cells.lookup x\c->c≠b)/\∀p∈X.pn++pins,p.1≠b)
  (keep:∀b o,b≠X.env.locals->b∉X.fs->b∉ch->s.heap.get? b\o->H b=none->h'.get? b\o)
  (slot:∀b o,b≠X.env.locals->b∈X.fs->b∉ch->s.heap.get? b\o->H b=none->∃F,h'.get? b\{o with slots:=F}) (free:∀b o,b∉ch->s.heap.get? b\o->H b=none->H' b=none)
  (there:∀b o,b∉ch->s.heap.get? b\o->∃y,h'.get? b\y)
  (tups:∀b xs,H b\(.tup xs)->H' b\(.tup xs)) (frzs:∀b o u,H b\(.sY o u)->H' b\(.sY o u)) (tbls:∀b E,H b\(.Ib E)->∃more,H' b\(.Ib (E++more)))
  (O:∀m,s.heap.Ns X.env.locals m->h'.Ns X.env.locals m) (hok:iz X.prog X.w H' h') (P:lv g'):
  Inv X pins σ H' {s with heap:=h',gens:=g',drawn:=d',toks:=t'}:=by
 have A:∀b o,X.s₀.heap.get? b\o->b≠X.env.locals:=λb o e=>bS^cO (Da e) I.ok.above
 have JU:∀b o,X.s₀.heap.get? b\o->b∉X.ex->b∉ch:=λb o e a h=>by
  rcases(t b h).1 with z|z
  .exact a z
  .exact absurd (cO (Da e) z)^kg _
 have f:∀x c,X.env.cells.lookup x\c->∀v,s.heap.IsCell c v->h'.IsCell c v:=λx c e v #[o,j,G]=>by
  have B:c∉ch:=λz=>(t c z).2.2.1 x c e rfl
  by_cases L:c∈X.fs
  .obtain⟨F,q⟩:=slot c o (I.zM x c e) L B j^I.freeC x c e
   exact#[_,q,G]
  .exact#[o,keep c o (I.zM x c e) L B j^I.freeC x c e,G]
 refine#[I.ok,I.os,P,#[λb o e n h a=>?_,λb o e n h a=>?_,λb o e n a=>?_,λb o e a=>?_,λb xs e=>tups b xs^I.base.tups b xs e,λb o xs e=>frzs b o xs^I.base.frzs b o xs e,λb E e=>?_],?_,λx c e=>?_,?_,λx c e=>?_,λp M=>?_,hok,I.len]
 .exact keep b o (A b o e) h (JU b o e a) (I.base.keep b o e n h a)^I.base.free b o e n a
 .obtain⟨F,g⟩:=I.base.slot b o e n h a
  let⟨J,C⟩:=slot b _ (A b o e) h (JU b o e a) g^I.base.free b o e n a;exact#[J,C]
 .obtain⟨y,g⟩:=I.base.there b o e a
  exact free b y (JU b o e a) g^I.base.free b o e n a
 .obtain⟨y,g⟩:=I.base.there b o e a
  exact there b y (JU b o e a) g
 .obtain⟨m1,g⟩:=I.base.tbls b E e
  let⟨Q,C⟩:=tbls b _ g;exact#[m1++Q,by rw[C,Array.append_assoc]]
 .obtain⟨m,R,S⟩:=I.loc
  refine#[m,O m R,λi x v g C T=>?_];let⟨u,r,l⟩:=S i x v g C T;exists u,r
  rcases l with l| ⟨k,c,e,z⟩
  .exact .inl l
  .exact .inr #[k,c,e,f x c e _ z]
 .obtain⟨v,z⟩:=I.cell x c e
  exact#[v,f x c e v z]
 .obtain⟨m,⟨o,_,_,j,_⟩,_⟩:=I.loc
  exact free _ o (λz=>(t _ z).2.1 rfl) j I.free
 .obtain⟨v,o,j,G⟩:=I.cell x c e
  exact free c o (λz=>(t c z).2.2.1 x c e rfl) j^I.freeC x c e
 .obtain⟨e,n,ne,N,d⟩:=I.pin p M
  have B:p.1∉ch:=λz=>(t p.1 z).2.2.2 p M rfl;exact#[keep p.1 p.2 ne N B e n,free p.1 p.2 B e n,ne,N,d]
theorem Inv.un{t':Nat}(I:Inv X pins σ H s)(u:Un X.fs [] H H' s.heap h')(hok:iz X.prog X.w H' h'):Inv X pins σ H' {s with heap:=h',toks:=t'}:=by
 rfl';obtain⟨m,⟨o,p,q,d,r⟩,_⟩:=id I.loc;let⟨t,h⟩:=u.any d I.free^by simp
 ac_rfl
 exact I.step (g':=s.gens) (d':=s.drawn) (ch:= []) (λ_ z=>nomatch z) (λb o _ c _ e n=>u.keep b o e n c^by simp) (λb o _ c _ e n=>u.slot b o e n c^by simp) (λb o _ e n=>u.free b o e n^by simp) (λb o _ e=>u.there b o e^by simp) u.tups u.frzs u.tbls (λv i=>by
  rfl';let⟨x,j,k,f,l⟩:=i;ac_rfl;rw[d] at f;cases f;exact#[_,j,k,h,l]) hok I.bare
theorem Inv.call{g':Array GenState}{t':Nat}{d':Drawn}{ch:List Addr}(I:Inv X pins σ H s)(u:Un (uI X.stack) ch H H' s.heap h')(hok:iz X.prog X.w H' h')(j:lv g')
  (g:∀b∈ch,(b∈X.ex\/X.s₀.heap.objs.size<=b)/\b≠X.env.locals/\(∀x c,X.env.cells.lookup x\c->c≠b)/\∀p∈X.pn++pins,p.1≠b):
  Inv X pins σ H' {s with heap:=h',gens:=g',drawn:=d',toks:=t'}:=by
 rfl';obtain⟨m,⟨o,A,B,h,r⟩,_⟩:=id I.loc;let⟨C,f⟩:=u.any h I.free λz=>(g _ z).2.1 rfl;ac_rfl
 exact I.step (ch:=ch) g (λb o f l a e n=>u.keep b o e n (λz=>(cQ.mp^I.Fz b z).elim f l) a) (λb o _ _ a e n=>u.any e n a) (λb o a e n=>u.free b o e n a) (λb o a e=>u.there b o e a) u.tups u.frzs u.tbls (λE q=>by
  rfl';let⟨F,t,v,i,y⟩:=q;ac_rfl;rw[h] at i;cases i;exact#[_,t,v,f,y]) hok j
def Inv.turned{t':Nat}{it:Addr}(I:Inv X pins σ H s)(k:∀b o,b≠it->s.heap.get? b\o->h'.get? b\o)(g:H it=none)(f:it≠X.env.locals)
  (h:it∈X.ex\/X.s₀.heap.objs.size<=it) (i:∀x c,X.env.cells.lookup x\c->c≠it) (j:∀p∈X.pn++pins,p.1≠it):Inv X pins σ H {s with heap:=h',toks:=t'}:=by
 have d:∀b u,H b\u->b≠it:=λb u e z=>by rw[z,g] at e;cases e
 refine I.step (g':=s.gens) (d':=s.drawn) (ch:= [it]) (λb l=>?_) (λb o _ _ a e _=>k b o (λz=>a^by simp[z]) e) (λb o _ _ a e _=>#[o.slots,k b o (λz=>a^by simp[z]) e]) (λ_ _ _ _ n=>n)
  (λb o a e=>#[o,k b o (λz=>a^by simp[z]) e]) (λ_ _ e=>e) (λ_ _ _ e=>e) (λb B e=>#[#[],by rw[e];simp]) (λm t=>?_) (λb u e=>?_) I.bare
 .have e:b=it:=by simpa using l
  subst e;exact#[h,f,i,j]
 .obtain⟨o,w,y,A,r⟩:=t
  exact#[o,w,y,k _ o (Ne.symm f) A,r]
 .refine(I.hok b u e).oQ (λc v a q=>k c v ?_ q) (λ_ q=>q) λ_ _ q=>q
  rcases a with z|z
  .rw[z];exact d b u e
  .exact d c _ z
def Inv.tok(I:Inv X pins σ H s)(t:Nat):Inv X pins σ H {s with toks:=t}:=I.un (h':=s.heap) (t':=t) Un.refl I.hok
theorem Inv.kept{t':Nat}(I:Inv X pins σ H s)(k:∀b u,s.heap.get? b\u->h'.get? b\u):Inv X pins σ H {s with heap:=h',toks:=t'}:=I.un (Un.kept k)^I.hok.kept k
theorem Inv.laid{a:Addr}{o:HO}{t':Nat}(I:Inv X pins σ H s)(k:∀b u,s.heap.get? b\u->h'.get? b\u)(c:s.heap.objs.size<=a)(new:cK X.prog X.w (upd H a o) h' a o):
  Inv X pins σ (upd H a o) {s with heap:=h',toks:=t'}:=I.un (Un.laid k c^I.hok.fresh c)^I.hok.laid k c new
theorem Inv.write{x e:Addr}{o:HO}{t':Nat}(I:Inv X pins σ H s)(a:OO^H x)(c:e=x\/H e\(.own x))(k:∀b u,b≠e->s.heap.get? b\u->h'.get? b\u)(d:∃u,h'.get? e\u)
  (new:cK X.prog X.w (upd H x o) h' x o):Inv X pins σ (upd H x o) {s with heap:=h',toks:=t'}:=I.un (Un.write a c k d)^I.hok.write a c k d new
def Inv.vt(I:Inv X pins σ H s)(h:∀p∈a,s.heap.get? p.1\p.2/\H p.1=none/\p.1≠X.env.locals/\p.1∉X.fs/\∀v,p.2.data≠ .cell v):Inv X a σ H s:=
 #[I.ok,I.os,I.bare,I.base,I.loc,I.cell,I.free,I.freeC,λp b=>(cP.mp b).elim (λz=>I.pin p^j8 _ z)^h p,I.hok,I.len]
def xr{N:List fA}(c:N.Nodup){i j:Nat}{x:fA}(a:N[i]?\x)(b:N[j]?\x):i=j:=by
 let⟨f,d⟩:=cR.mp a;let⟨g,e⟩:=cR.mp b;exact(aeS c).mp^d.trans e.symm
theorem store_ok2(I:Inv X pins σ H s)(hN:X.N.Nodup)(O:X.N[i]?\x)(B:Loc X.env.scope x)(r:RelV v u)
  (h:∀Y,Inv X pins (σ.set i^some v) H Y->(∃a,Heap.SameBut a s.heap Y.heap/\(a=X.env.locals\/X.env.cells.lookup x\a))->Q ⟨⟩ Y) (hf:X.fn x=true\/X.env.scope.names.lookup x\.local<|>xz):e_ M A (storeName X.env x u) Q E s:=by
 let⟨m,Z,hl⟩:=id I.loc;have GR:(X.env.scope.kind== .class|| (X.env.scope.kind== .module&&X.env.locals !=X.env.globals))=false:=by rw[I.ok.kind];rfl
 have LB:i<σ.length:=by rw[I.len];exact(cR.mp O).1
 have zM:=I.zM
 have g:∀{a:Addr}{L:Heap},(∃o,s.heap.get? a\o/\H a=none)->Heap.SameBut a s.heap L->iz X.prog X.w H L:=λ {a L} ha f b ob e=>by
  let⟨D,K,Ey⟩:=ha;refine(I.hok b ob e).oQ (λc S t q=>(f.2 c ?_).trans q) (λ_ q=>q) λ_ _ q=>q;rintro rfl
  rcases t with rfl|t
  .rw[Ey] at e;cases e
  .rw[Ey] at t;cases t
 rcases B with F|F
 .refine wpAny_storeName_local F Z (λL ED f=>?_) GR
  let⟨oL,D,K,Ab,U⟩:=id Z;refine h _ #[I.ok,I.os,I.bare,#[λb o e n G B=>?_,λb o e n G B=>?_,I.base.free,λb o e B=>?_,I.base.tups,I.base.frzs,I.base.tbls],#[_,ED,λj y v' l C e3=>?_],λy c e=>?_,I.free,I.freeC,λp hp=>?_,g #[oL,Ab,I.free] f,by simpa using I.len] #[_,f, .inl rfl]
  .exact(f.2 b^bS^cO (Da e) I.ok.above).trans^I.base.keep b o e n G B
  .obtain⟨sl,l⟩:=I.base.slot b o e n G B
   exact#[sl,(f.2 b^bS^cO (Da e) I.ok.above).trans l]
  .obtain⟨o',l⟩:=I.base.there b o e B
   exact#[o',(f.2 b^bS^cO (Da e) I.ok.above).trans l]
  .by_cases J:j=i
   .subst J
    rw[O] at l;cases l;rw[lV LB] at C;cases C;exact#[u,r, .inl #[F,by simp]]
   .rw[i5^Ne.symm J] at C
    let⟨u',r',q⟩:=hl j y v' l C e3;exists u',r'
    rcases q with ⟨k,e⟩ | ⟨k,c,e,z⟩
    .refine .inl #[k,?_]
     have:y≠x:=λe=>J^xr hN l (e▸O)
     simp[this,e]
    .exact .inr #[k,c,e,z.sameBut f^zM y c e]
  .obtain⟨S,z⟩:=I.cell y c e
   exact#[S,z.sameBut f^zM y c e]
  .obtain⟨e,n,ne,nf,d⟩:=I.pin p hp
   exact#[(f.2 p.1 ne).trans e,n,ne,nf,d]
 .have YC:X.fn x=true:=by
   rcases hf with z|z
   .exact z
   .rw[z] at F;cases F
  let⟨c,t⟩:=I.ok.has x^.inl F;let⟨S,z⟩:=I.cell x c t;refine wpAny_storeName_cell I.ok.kind F t z^λL ph f=>?_;let⟨oc,P,abe⟩:=id z;refine h {s with heap:=L} #[I.ok,I.os,I.bare,#[λb o e n G B=>?_,λb o e n G B=>?_,I.base.free,λb o e B=>?_,I.base.tups,I.base.frzs,I.base.tbls],#[m,Z.sameBut f^Ne.symm^zM x c t,λj y v' l C e3=>?_],λy T e=>?_,I.free,I.freeC,λp hp=>?_,g #[oc,P,I.freeC x c t] f,by simpa using I.len] #[c,f, .inr t]
  .exact(f.2 b^bS^cO (Da e)^I.ok.cab x c YC t).trans^I.base.keep b o e n G B
  .obtain⟨sl,l⟩:=I.base.slot b o e n G B
   exact#[sl,(f.2 b^bS^cO (Da e)^I.ok.cab x c YC t).trans l]
  .obtain⟨o',l⟩:=I.base.there b o e B
   exact#[o',(f.2 b^bS^cO (Da e)^I.ok.cab x c YC t).trans l]
  .by_cases J:j=i
   .subst J
    rw[O] at l;cases l;rw[lV LB] at C;cases C;exact#[u,r, .inr #[.inl F,c,t,ph]]
   .rw[i5^Ne.symm J] at C
    let⟨u',r',q⟩:=hl j y v' l C e3;exists u',r'
    rcases q with q| ⟨k,T,e,z'⟩
    .exact .inl q
    .refine .inr #[k,T,e,z'.sameBut f ?_]
     rintro rfl;exact J^xr hN l (I.ok.inj _ _ _ e t▸O)
  .by_cases R:T=c
   .subst R;exact#[_,ph]
   .obtain⟨w2,z2⟩:=I.cell y T e
    exact#[w2,z2.sameBut f R]
  .obtain⟨e,n,ne,nf,d⟩:=I.pin p hp
   refine#[(f.2 p.1 ?_).trans e,n,ne,nf,d];intro q;rw[q,P] at e;have q':oc=p.2:=Do e;exact d S^by rw[<-q'];exact abe
def kF{x:fA}{v:V}(I:Inv X pins σ H s)(b:X.N.Nodup)(c:X.N[i]?\x)(d:Loc X.env.scope x)(r:RelV v u)
  (h:∀a,Inv X pins (σ.set i^some v) H a->Q ⟨⟩ a) (e:X.fn x=true\/X.env.scope.names.lookup x\.local<|>xz):e_ M A (storeName X.env x u) Q E s:=
 store_ok2 I b c d r (λa f _=>h a f) e
def Inv.IH{s':Shared}{ch:List Addr}(I:Inv X pins σ H s)(a:s'.os=s.os)(u:Un (uI X.stack) ch H H' s.heap s'.heap)(hok:iz X.prog X.w H' s'.heap)(d:AllBare s'.gens)
  (f:∀b∈ch,(b∈X.ex\/X.s₀.heap.objs.size<=b)/\b≠X.env.locals/\(∀x c,X.env.cells.lookup x\c->c≠b)/\∀p∈X.pn++pins,p.1≠b):Inv X pins σ H' s':=by
 obtain⟨h,g',d',t',g⟩:=s';have e:g=s.os:=a;subst e;exact I.call (g':=g') (t':=t') (d':=d') u hok d f
end
abbrev XK:=Value->Option Addr->Hp->Prop
abbrev St:=List^Option V
abbrev VK:=V->Hp->Prop
abbrev TE:=St->Hp->VK->Prop
abbrev TT:=St->Hp->(Bool->Hp->Prop)->Prop
abbrev TA:=St->Hp->(List V->Hp->Prop)->Prop
structure Ends where
 nx:St->Hp->Prop
 rt:VK
 bk:St->Hp->Prop:=λ_ _=>False
 ct:St->Hp->Prop:=λ_ _=>False
abbrev TS:=Ends->St->Hp->Prop
def EP(X:Cx)(a:List (Addr×Obj))(c:St)(Q:VK)(u:Value)(d:Shared):Prop:=∃v b,Inv X a c b d/\RelV v u/\Q v b
def TP(X:Cx)(a:List (Addr×Obj))(d:St)(Q:Bool->Hp->Prop)(b:Bool)(e:Shared):Prop:=∃c,Inv X a d c e/\Q b c
def AP(X:Cx)(a:List (Addr×Obj))(d:St)(Q:List V->Hp->Prop)(e:List Value)(f:Shared):Prop:=∃b c,Inv X a d c f/\Vals b e/\Q b c
def SP(X:Cx)(a:List (Addr×Obj))(D:Ends)(f:Flow)(d:Shared):Prop:=
 match f with
 | .next=>∃c b,Inv X a c b d/\D.nx c b
 | .brk=>∃c b,Inv X a c b d/\D.bk c b
 | .cont=>∃c b,Inv X a c b d/\D.ct c b
 | .ret u=>∃v c b,Inv X a c b d/\RelV v u/\D.rt v b
def PE(X:Cx)(e:Expr)(t:TE):Prop:=
 ∀(a:List (Addr×Obj))(s:Shared)(b:St)(H:Hp)(Q:VK),Inv X a b H s->t b H Q->wpAny (model X.prog X.w) X.A (eval e X.env) (EP X a b Q) X.xe s
def PT(X:Cx)(e:gc)(t:TT):Prop:=
 ∀(a:List (Addr×Obj))(s:c_)(b:St)(H:Hp)(Q:Bool->Hp->Prop),Inv X a b H s->t b H Q->e_ (ei X.prog X.w) X.A (isTrue e X.env^gi e X.env) (TP X a b Q) X.xe s
def PW(X:Cx)(e:Expr)(t:TT):Prop:=
 ∀(b:Sem Value)(a:List (Addr×Obj))(s:Shared)(c:St)(H:Hp)(Q:Bool->Hp->Prop),Inv X a c H s->t c H Q->wpAny (model X.prog X.w) X.A (isTrue e X.env b) (TP X a c Q) X.xe s
def PW.pt(h:PW X e t):PT X e t:=h _
def PA(X:Cx)(c:List gc)(t:TA):Prop:=
 ∀(pos:jP)(a:List (Addr×Obj))(s:c_)(b:St)(H:Hp)(Q:List V->Hp->Prop),Inv X a b H s->t b H Q->e_ (ei X.prog X.w) X.A (spliced^gM pos^d_ c X.env) (AP X a b Q) X.xe s
def PS(X:Cx)(st:Stmt)(t:TS):Prop:=
 ∀(a:List (Addr×Obj))(s:Shared)(b:St)(H:Hp)(D:Ends),Inv X a b H s->t D b H->wpAny (model X.prog X.w) X.A (exec st X.env) (SP X a D) X.xe s
def jT(X:Cx)(st:List Stmt)(t:TS):Prop:=
 ∀(a:List (Addr×Obj))(s:Shared)(b:St)(H:Hp)(D:Ends),Inv X a b H s->t D b H->wpAny (model X.prog X.w) X.A (execs st X.env) (SP X a D) X.xe s
def thn{Q c:b->Shared->Prop}(h:wpAny M A t Q E s)(d:∀a s,Q a s->c a s):wpAny M A t c E s:=wpAny_mono h d λ_ _ x=>x
section
variable {X:Cx}
def yx(i:Nat):TE:=λa H Q=>∃v,a[i]?\(some v)/\Q v H
def tC(v:V):TE:=λ_ H Q=>Q v H
def LP(j:X.N[i]?\x)(k:rK X.env.scope x)(d:(x==("__debug__":fA))=false<|>zm)(n:(x==("__classdict__":fA))=false<|>zm):PE X (.Name x pos)^yx i:=by
 intro b s o H Q I h;rfl';let⟨v,e,h⟩:=h;let⟨m,q,t⟩:=I.loc;let⟨u,r,l⟩:=t i x v j e k;have fin:EP X b o Q u s:=#[v,H,I,r,h];ac_rfl
 rcases l with ⟨a,w⟩ | ⟨a,c,f,g⟩
 .exact wpAny_Name (wpAny_loadName_local I.ok.kind a q w fin) d
 .rcases a with a|a
  .exact wpAny_Name (wpAny_loadName_cell I.ok.kind a f g fin) d
  .exact wpAny_Name (wpAny_loadName_free I.ok.kind a f g fin n) d
def aZ{i j pos}:PE X (.Constant (.int i) j pos)^tC^.int i:=λ_ _ _ H _ I h=>wpAny_Constant_int #[.int i,H,I.tok _,#[_,rfl],h]
def Zx{b j pos}:PE X (.Constant (.bool b) j pos)^tC^.bl b:=λ_ _ _ H _ I h=>Constant_bool #[.bl b,H,I,rfl,h]
def U7{j pos}:PE X (.Constant .none j pos)^tC .aQ:=λ_ _ _ H _ I h=>Constant_none #[.aQ,H,I,rfl,h]
def zj{x j pos}:PE X (.Constant (.str x) j pos)^tC^.str x:=λ_ _ _ H _ I h=>Calls.Constant_str #[.str x,H,I.tok _,#[_,rfl],h]
def Gl(X:Cx)(x:Str):Prop:=X.env.kindOf x\.globalImplicit
def jK(I:Inv X a b H s)(c:Gl X x)(d:X.mg x\u)(h:Q u s)
  (e:(x==("__debug__":Str))=false<|>zm):wpAny (model X.prog X.w) X.A (eval (.Name x pos) X.env) Q E s:=
 aeC I.ok.kind c (Calls.loadGlobal_global (by rw[I.ok.glob];exact I.mod.glob.keeps I.bk) d h) e
def gS{u:Value}(I:Inv X a b H s)(c:Gl X x)(d:X.mg x=none)(e:bootBuiltins x\u)(h:Q u s)
  (f:x≠"__name__"<|>zm) (g:(x==("__debug__":Str))=false<|>zm):wpAny (model X.prog X.w) X.A (eval (.Name x pos) X.env) Q E s:=by
 obtain⟨k,i,j⟩:=I.mod.blt;exact aeC I.ok.kind c (Calls.loadGlobal_builtin (by rw[I.ok.glob];exact I.mod.glob.keeps I.bk) d (by rw[I.ok.blt];exact i.keeps I.bk) ((j x f).trans e) h) g
def Rw{v:V}(a:Gl X x)(b:X.mg x\u)(r:RelV v u)(c:(x==("__debug__":fA))=false<|>zm):PE X (.Name x pos)^tC v:=
 λ_ _ _ H _ I h=>jK I a b #[v,H,I,r,h] c
def Rt(a:Gl X x)(b:X.mg x=none)(c:gq x\u)(r:RelV v u)(d:x≠"__name__"<|>zm)(e:(x==("__debug__":fA))=false<|>zm):PE X (.Name x pos)^tC v:=
 λ_ _ _ H _ I h=>gS I a b c #[v,H,I,r,h] d e
variable {a b:Expr} {ta tb:TE} {pos:Pos}
def tB(t:TE):TT:=λd H Q=>t d H λx e=>∃c,x= .bl c/\Q c e
def Vi(h:PE X e t)(g:(∀c,isTrue e X.env c=(do let v <-c;jo e.pos;io [v]^truthy v))<|>xx):PT X e^tB t:=by
 intro f s i H Q I hw;refine isTrue_plain (thn (h f s i H _ I hw) λv n hH=>?_)^g _;obtain⟨x,j,k,l,m⟩:=hH;obtain⟨d,rfl,q⟩:=m;cases l;exact UF #[j,k,q]
variable {tA FA:TT} {rest:List Expr}
def ab1(t u:TT):TT:=λd H Q=>t d H λc e=>if c=true then u d e Q else Q false e
def tOr(t u:TT):TT:=λd H Q=>t d H λc e=>if c=true then Q true e else u d e Q
def ab8(t:TT):TT:=λd H Q=>t d H λc e=>Q (!c) e
def A0(f:PT X a tA):PW X (.BoolOp .And [a] pos) tA:=by
 intro i d s g H Q I h;refine isTrue_and (thn (f d s g H Q I h) λc j e=>?_);cases c with
 |true=>exact isTrue_and_nil e
 |false=>exact e
def LU(f:PT X a tA):PW X (.BoolOp .Or [a] pos) tA:=by
 intro i d s g H Q I h;refine isTrue_or (thn (f d s g H Q I h) λc j e=>?_);cases c with
 |false=>exact isTrue_or_nil e
 |true=>exact e
def Fj(j:PT X a tA)(k:PW X (.BoolOp .And (b::rest) pos) FA):PW X (.BoolOp .And (a::b::rest) pos)^ab1 tA FA:=by
 intro l d s e H Q I h;refine isTrue_and (thn (j d s e H _ I h) λc m #[f,g,i]=>?_);cases c with
 |true=>exact k l d m e f Q g i
 |false=>exact#[f,g,i]
def RO(j:PT X a tA)(k:PW X (.BoolOp .Or (b::rest) pos) FA):PW X (.BoolOp .Or (a::b::rest) pos)^tOr tA FA:=by
 intro l d s e H Q I h;refine isTrue_or (thn (j d s e H _ I h) λc m #[f,g,i]=>?_);cases c with
 |true=>exact#[f,g,i]
 |false=>exact k l d m e f Q g i
def LR(e:PT X a tA):PT X (.UnaryOp .Not a pos)^ab8 tA:=by
 intro d s f H Q I h;exact isTrue_not^e d s f H (λc g=>Q (!c) g) I h
def ZM(f g:TE):TE:=λd H Q=>f d H λx e=>∃c,x= .bl c/\if c=true then g d e Q else Q (.bl false) e
def ZX(d:TE):TE:=λe H Q=>d e H λx f=>∃c,x= .bl c/\Q (.bl (!c)) f
def U9{op}(h:PE X a t):PE X (.BoolOp op [a] pos) t:=λc s d H Q I hw=>BoolOp_one^h c s d H Q I hw
def U0(j:PE X a ta)(k:PE X (.BoolOp .And (b::rest) pos) tb):PE X (.BoolOp .And (a::b::rest) pos)^ZM ta tb:=by
 intro d s f H Q I h;refine BoolOp_and (thn (j d s f H _ I h) λv l m=>?_);rfl';let⟨x,g,i,o,e⟩:=m;let⟨c,rfl,e⟩:=e;ac_rfl;subst o;refine UF ?_;cases c with
 |true=>exact k d l f g Q i e
 |false=>exact#[.bl false,g,i,rfl,e]
def U8(f:PE X a ta):PE X (.UnaryOp .Not a pos)^ZX ta:=by
 intro d s g H Q I h;refine UnaryOp_ (thn (f d s g H _ I h) λv n i=>?_);rfl';let⟨x,k,l,m,e⟩:=i;let⟨c,rfl,e⟩:=e;ac_rfl;subst m;exact not_of^UF #[.bl (!c),k,l,rfl,e]
def tIf(t:TT)(f g:TE):TE:=λd H Q=>t d H λc e=>if c=true then f d e Q else g d e Q
def NP(l:PT X c tA)(m:PE X a ta)(n:PE X b tb):PE X (.IfExp c a b pos)^tIf tA ta tb:=by
 intro e s f H Q I h;refine wpAny_IfExp (thn (l e s f H _ I h) λd g #[i,j,k]=>?_);cases d with
 |true=>exact m e g f i Q j k
 |false=>exact n e g f i Q j k
end
def aL(K:ad)(H:Hp)(a:Addr)(xs:List V):Prop:=
 Rd H a^.lst xs\/
  ∃(o:Obj)(b:Array b_)(n:Nat),K.lookup a\o/\o.cls= .type "list"/\o.dict=none/\o.data= .seq b n/\b.size<=sizeLine/\Vals xs b.toList
def fI(K:ad)(H:Hp)(a:Addr)(c:List V):Prop:=
 Rd H a^.tup c\/
  ∃(o:Obj)(b:Array b_)(n:Nat),K.lookup a\o/\o.cls= .type "tuple"/\o.data= .seq b n/\b.size<=sizeLine/\Vals c b.toList
def aal:b_->Option V
 | .none=>some .aQ
 | .bool b=>some^.bl b
 | .int i _=>some^.int i
 | .str x _=>some^.str x
 | .bytes b _=>some^.yK b
 | .float b _=>some^.Jc b
 | .ref a=>some^.ref a
 | .type n=>some^.ty n
 |_=>none
def RelV.abs{x:V}{u:Value}(r:RelV x u):aal u\x:=by
 cases x with
 |aQ=>cases r;rfl
 |bl _=>cases r;rfl
 |int _=>obtain⟨t,rfl⟩:=r;rfl
 |str _=>obtain⟨t,rfl⟩:=r;rfl
 |yK _=>obtain⟨t,rfl⟩:=r;rfl
 |Jc _=>obtain⟨t,rfl⟩:=r;rfl
 |ref _=>cases r;rfl
 |ty _=>cases r;rfl
def RelV.inj{x y:V}(r:RelV x u)(q:RelV y u):x=y:=Do^r.abs.symm.trans q.abs
theorem Vals.inj:∀{a b:List V}{c:List Value},Vals a c->Vals b c->a=b
 |_,_,_, .nil, .nil=>rfl
 |_,_,_, .cons r t, .cons d e=>by rw[r.inj d,Vals.inj t e]
section
variable {X:Cx} {pins:List (Addr×Obj)} {σ:St} {H:Hp} {s:Shared} {a:Addr} {xs ys:List V}
def aL.of{K:ad}(h:H a\(.lst xs)):aL K H a xs:= .inl^.inl h
def fI.of{K:ad}(h:H a\(.tup xs)):fI K H a xs:= .inl^.inl h
def Inv.list(I:Inv X pins σ H s)(h:aL X.K H a xs):∃its:List Value,Vals xs its/\PlainL s.heap a its.toArray/\xs.length<=sizeLine:=by
 rcases h with h| ⟨o,its,n,b,c,d,f,g,r⟩
 .obtain⟨z,its,n,r,e⟩:=h.ok I.hok
  exact#[its,r,#[_,n,e,rfl,rfl,rfl],z]
 .refine#[its.toList,r,#[o,n,I.fi a o b,c,d,by simpa using f],?_]
  have e:=r.length;simp only[c9] at e;lia
def Inv.tuple(I:Inv X pins σ H s)(h:fI X.K H a xs):∃its:List Value,Vals xs its/\IsTup s.heap a its.toArray/\xs.length<=sizeLine:=by
 rcases h with h| ⟨o,its,n,b,c,d,f,r⟩
 .obtain⟨z,its,r,p⟩:=h.ok I.hok
  exact#[its,r,p,z]
 .refine#[its.toList,r,#[o,I.fi a o b,c,n,by simpa using d],?_]
  have e:=r.length;simp only[c9] at e;lia
def Inv.Dl(I:Inv X pins σ H s)(h:aL X.K H a xs)(h':aL X.K H a ys):xs=ys:=by
 rfl';obtain⟨c,r,⟨o,n,e,_,_,d⟩,_⟩:=I.list h;obtain⟨b,j,⟨m,p,f,_,_,g⟩,_⟩:=I.list h';ac_rfl;rw[e] at f;cases f;rw[d] at g
 injection g with k _
 have:c=b:=by simpa using KM Array.toList k
 subst this;exact r.inj j
end
abbrev Cx.sD(X:Cx)(E:Value->Shared->Prop):Cx:={X with xe:=E}
abbrev Cx.lB(X:Cx):Cx:=X.sD λ_ _=>False
theorem Cx.Ok.sD{X:Cx}(ok:X.Ok)(E:Value->Shared->Prop):(X.sD E).Ok:=
 #[ok.mod,ok.kind,ok.glob,ok.blt,ok.above,ok.inj,ok.has,ok.cab,ok.hd,ok.frames,ok.stk,ok.exf,ok.bs,ok.bsz,ok.noex,ok.exfs,ok.funs,ok.frf]
def Cx.Ok.lT{X:Cx}(ok:(X.sD E).Ok):X.Ok:=
 #[ok.mod,ok.kind,ok.glob,ok.blt,ok.above,ok.inj,ok.has,ok.cab,ok.hd,ok.frames,ok.stk,ok.exf,ok.bs,ok.bsz,ok.noex,ok.exfs,ok.funs,ok.frf]
section
variable {X:Cx} {pins:List (Addr×Obj)} {σ:St} {H:Hp} {s:Shared} {E:Value->Shared->Prop}
theorem Inv.sD(I:Inv X pins σ H s)(E:Value->Shared->Prop):Inv (X.sD E) pins σ H s:=#[I.ok.sD E,I.os,I.bare,I.base,I.loc,I.cell,I.free,I.freeC,I.pin,I.hok,I.len]
theorem Inv.lT(I:Inv (X.sD E) pins σ H s):Inv X pins σ H s:=#[I.ok.lT,I.os,I.bare,I.base,I.loc,I.cell,I.free,I.freeC,I.pin,I.hok,I.len]
theorem SP.lT{D:Ends}{f:Flow}{s':Shared}(h:SP (X.sD E) pins D f s'):SP X pins D f s':=by
 cases f with
 |next=>obtain⟨ay,H',I,q⟩:=h;exact#[ay,H',I.lT,q]
 |brk=>obtain⟨ay,H',I,q⟩:=h;exact#[ay,H',I.lT,q]
 |cont=>obtain⟨ay,H',I,q⟩:=h;exact#[ay,H',I.lT,q]
 |ret u=>obtain⟨v,ay,H',I,r,q⟩:=h;exact#[v,ay,H',I.lT,r,q]
theorem jT.lB{st:List Stmt}{t:TS}(h:jT X.lB st t):jT X st t:=λa s b H D I hw=>
 wpAny_mono (h a s b H D (I.sD _) hw) (λ_ _ q=>q.lT) λ_ _ z=>False.elim z
end
section
variable {X:Cx} {st:Stmt} {rest:List Stmt} {t u:TS} {e:Expr} {te:TE} {pos:Pos}
def ZW:TS:=λD a H=>D.nx a H
def SG(t u:TS):TS:=λD a H=>t {D with nx:=u D} a H
def mU:jT X [] ZW:=λ_ _ a H _ I h=>aea #[a,H,I,h]
def aF(h1:PS X st t)(h2:jT X rest u):jT X (st::rest)^SG t u:=by
 intro pins s σ H D I h;refine wpAny_execs_cons (thn (h1 pins s σ H {D with nx:=u D} I h) λf s1 q=>?_)
 cases f with
 |next=>
  let⟨ay,H',I',q⟩:=q;exact h2 pins s1 ay H' D I' q
 |ret v=>exact q
 |brk=>exact q
 |cont=>exact q
def bE(h1:PS X st t):jT X [st] t:=by
 intro pins s σ H D I h;refine wpAny_execs_cons (thn (h1 pins s σ H D I h) λf s1 q=>?_);cases f with
 |next=>exact wpAny_execs_nil q
 |ret v=>exact q
 |brk=>exact q
 |cont=>exact q
def Inv.quiet(I:Inv X a b H s):interactive X.env=false:=by simp[interactive,I.ok.kind]
def ZT(b:TE):TS:=λD a H=>b a H λ_ c=>D.nx a c
def c7(c:PE X e te)(d:g_ e none pos.line X.env=pure false<|>zn):PS X (.Expr e pos)^ZT te:=by
 intro a s b H D I h;refine wpAny_Expr_any (thn (c a s b H _ I h) λv j hH=>?_) I.quiet d;obtain⟨x,f,g,k,i⟩:=hH;exact #[b,f,g,i]
def WY(a:TE):TS:=λD b H=>a b H D.rt
def iK(c:PE X e te):PS X (.Return (some e) pos)^WY te:=by
 intro a s b H D I h;refine wpAny_Return_some (thn (c a s b H _ I h) λv j hH=>?_);obtain⟨x,d,f,g,i⟩:=hH;exact #[x,b,d,f,g,i]
def ab6(c:TT)(t u:TS):TS:=λD a H=>c a H λb d=>if b=true then t D a d else u D a d
def xE(m:PT X c tc)(n:jT X a t)(o:jT X b u):PS X (.If c a b pos)^ab6 tc t u:=by
 intro f s g H D I h;refine wpAny_If (thn (m f s g H _ I h) λd i #[j,k,l]=>?_);cases d with
 |true=>exact n f i g j D k l
 |false=>exact o f i g j D k l
def VH:TS:=λ_ _ _=>False
def NX:PS X st VH:=λ_ _ _ _ _ _ h=>h.elim
end
abbrev TG:=V->St->Hp->(St->Hp->Prop)->Prop
abbrev BY:=List V->St->Hp->(St->Hp->Prop)->Prop
def PG(X:Cx)(a:Expr)(t:TG):Prop:=
 ∀(b:List (Addr×Obj))(s:Shared)(c:St)(H:Hp)(v:V)(u:Value)(Q:St->Hp->Prop),Inv X b c H s->RelV v u->t v c H Q->
  wpAny (model X.prog X.w) X.A (assign a X.env u) (λ_ f=>∃d e,Inv X b d e f/\Q d e) X.xe s
def D9(X:Cx)(g:List Expr)(t:BY):Prop:=
 ∀(a:List (Addr×Obj))(s:Shared)(b:St)(H:Hp)(c:List V)(d:List Value)(Q:St->Hp->Prop),Inv X a b H s->Vals c d->t c b H Q->
  wpAny (model X.prog X.w) X.A (assignInOrder ((assignEach g X.env).map (·.2)) d) (λ_ h=>∃e f,Inv X a e f h/\Q e f) X.xe s
abbrev F8:=V->V->V->Hp->(Hp->Prop)->Prop
def OS(X:Cx)(t:F8):Prop:=
 ∀(a:List (Addr×Obj))(s:Shared)(b:St)(H:Hp)(o i v:V)(c d u:Value)(Q:Hp->Prop),Inv X a b H s->RelV o c->RelV i d->RelV v u->t o i v H Q->
  wpAny (model X.prog X.w) X.A (setItem c d u) (λ_ f=>∃e,Inv X a b e f/\Q e) X.xe s
abbrev Tf:=V->V->Hp->VK->Prop
def W7(X:Cx)(c:Operator)(t:Tf):Prop:=
 ∀(a:List (Addr×Obj))(s:Shared)(b:St)(H:Hp)(x y:V)(v u:Value)(Q:VK),Inv X a b H s->RelV x v->RelV y u->t x y H Q->
  wpAny (model X.prog X.w) X.A (inplaceOp c v u) (EP X a b Q) X.xe s
section
variable {X:Cx} {pos:Pos}
def zZ(i:Nat):TG:=λv a H Q=>Q (a.set i^some v) H
def cx{i:Nat}(b:X.N.Nodup)(c:X.N[i]?\x)(d:Loc X.env.scope x)(e:X.fn x=true\/X.env.scope.names.lookup x\.local<|>xz):PG X (.Name x pos)^zZ i:=by
 intro a s g H v u Q I r h;exact wpAny_assign_Name^kF I b c d r (λj f=>#[_,H,f,h]) e
def aaT:BY:=λa b H Q=>a= []/\Q b H
def X3(t:TG)(u:BY):BY:=λa b H Q=>∃v r,a=v::r/\t v b H λc d=>u r c d Q
def mT:D9 X [] aaT:=by
 intro a s b H c d Q I r h;obtain⟨e,h⟩:=h;subst e;cases r;exact assignInOrder_nil #[b,H,I,h]
theorem fM(c:PG X e t)(d:D9 X b u)
  (f:(h_ (e::b) X.env).map (·.2)=k_ e X.env::(h_ b X.env).map (·.2)<|>zn):D9 X (e::b)^X3 t u:=by
 intro a s g H w x Q I r h;let⟨v,y,i,h⟩:=h;subst i;cases r with
 |cons r j=>
  rw[f];refine aex (thn (c a s g H _ _ _ I r h) λ_ k l=>?_);rfl';let⟨n,o,p,q⟩:=l;ac_rfl;exact d a k n o _ _ Q p j q
def aaU(K:ad)(n:Nat)(t:BY):TG:=λv c H Q=>∃a b,v= .ref a/\fI K H a b/\b.length=n/\t b c H Q
def rj(i:X.calm=true)(h:D9 X d t)
  (j:(h_ d X.env).length=n<|>zn) (l:(h_ d X.env).findIdx? (·.1)=none<|>zn):PG X (.Tuple d k pos)^aaU X.K n t:=by
 intro c s f H v u Q I r hw;rfl';let⟨a,p,q,w,x,hw⟩:=hw;subst q;subst r;let⟨y,g,z,F⟩:=I.tuple w;ac_rfl;refine assign_Tuple_tuple (I.ok.hd i) z (by simp[j,<-x,g.length]) l λA B=>?_
 have C:Inv X c f H {s with heap:=A}:=I.kept (t':=s.toks) λb o e=>B b o (bS^Da e) e
 exact h c _ f H p _ Q C (g) hw
def Wj(b c:TE)(t:F8):TG:=λv a H Q=>b a H λo d=>c a d λi e=>t o i v e λf=>Q a f
def Fh(l:PE X o g)(m:PE X i j)(n:OS X t)
  (p:(∀v,k_ (.Subscript o i pos) X.env v=(do
   let b <-io [v]^gi o X.env
   let c <-io [v,b] (gi i X.env)
   jo pos
   io [v,b,c] (setItem b c v)
   release [v,b,c] []))<|>xx):PG X (.Subscript o i pos)^Wj g j t:=by
 intro a s f H v u Q I r h;rw[p];refine a_^KF (thn (l a s f H _ I h) λb q d=>?_);rfl';obtain⟨x,w,z,A,B⟩:=d;ac_rfl;refine a_^KF (thn (m a q f w _ z B) λc C d=>?_);rfl';obtain⟨y,E,F,G,J⟩:=d;ac_rfl;refine a_^acP^a_^KF (thn (n a C f E x y v b c u _ F A G r J) λ_ O d=>?_);rfl';obtain⟨L,M,N⟩:=d;ac_rfl;exact wpAny_release #[f,L,M,N]
def Md(b:TE)(g:TG):TS:=λD a H=>b a H λx c=>g x a c D.nx
def rm(f:PE X e c)(i:PG X b g)(j:li [b] e pos.line X.env=pure false<|>zn)(hw:ln [b] e X.env=pure none<|>zn)
  (k:(h_ [b] X.env).map (·.2)= [k_ b X.env]<|>zn):PS X (.Assign [b] e pos)^Md c g:=by
 intro a s d H D I h;refine wpAny_Assign_stores (thn (f a s d H _ I h) λv l hH=>?_) j hw;obtain⟨x,m,n,o,p⟩:=hH;rw[k];exact thn (i a l d m x v _ n o p) λ_ r q=>q
def bU{i:Nat}(d:X.N.Nodup)(f:X.N[i]?\x)(g:Loc X.env.scope x)(j:PE X e c)(k:g_ e (some^.Name x a) pos.line X.env=pure false<|>zn)(l:X.fn x=true\/X.env.scope.names.lookup x\.local<|>xz):
  PS X (.Assign [.Name x a] e pos)^Md c^zZ i:=by
 intro b s m H D I h;refine wpAny_Assign_Name (thn (j b s m H _ I h) λv t hH=>?_) k;obtain⟨y,n,o,p,q⟩:=hH;exact kF o d f g p (λu r=>#[_,n,r,q]) l
def ab9(i j:Nat)(b:TA):TS:=λD a H=>b a H λc d=>∃v w,c= [v,w]/\D.nx ((a.set i^some v).set j^some w) d
theorem Vg{kt k2 Kg}(C:X.calm=true)(n:X.N.Nodup)(E:X.N[i]?\x)(F:X.N[j]?\y)(G:i≠j)
  (r:X.env.scope.names.lookup x\.local) (t:X.env.scope.names.lookup y\.local) (J:PA X [a,b] m)
  (hw:ln [.Tuple [.Name x k, .Name y py] kt pt] (.Tuple [a,b] k2 Kg) X.env=pure^some [x,y])
  (L:li [.Tuple [.Name x k, .Name y py] kt pt] (.Tuple [a,b] k2 Kg) pos.line X.env=pure false<|>zn):
  PS X (.Assign [.Tuple [.Name x k, .Name y py] kt pt] (.Tuple [a,b] k2 Kg) pos)^ab9 i j m:=by
 intro c s u H D I h;rw[exec_Assign_arm];refine a_^acP ?_;rw[L];refine a_^mo ?_;rw[tz ∅]
 refine a_^Tuple_ (thn (J _ c s u H _ I h) λM d O=>?_);obtain⟨vs,z,P,Q,l⟩:=O;obtain⟨v,w,R,l⟩:=l;subst R
 obtain⟨f,g,rfl,S,T⟩:∃f g,M= [f,g]/\RelV v f/\RelV w g:=by
  cases Q with
  |cons p q=>
   cases q with
   |cons Y Z=>
    cases Z;exact#[_,_,rfl,p,Y]
 refine acV ?_^by show 2<=sizeLine;decide
 have I2:Inv X c u z {d with heap:=d.heap.push {cls:= .type "tuple",data:= .seq [f,g].toArray}}:=P.kept (t':=d.toks) λb o e=>AC _ e
 rw[hw];refine a_^mo ?_;show e_ (ei X.prog X.w) X.A (do rule "assign.swapped-stores";let items <-unpackItems (.ref d.heap.objs.size) 2 none;assignInOrder [λv=>bindName X.env y v,λv=>bindName X.env x v] items.reverse;pure Flow.next) _ _ _
 refine a_^ac8^a_ (unpackItems_tuple (items:= [f,g].toArray) (I.ok.hd C) (IsTup.new d.heap _) λh' pZ=>?_);have I3:=I2.kept (h':=h') (t':=d.toks) λb o e=>pZ b o (bS^Da e) e;show e_ _ _ (assignInOrder [λv=>bindName X.env y v,λv=>bindName X.env x v] [g,f]>>=λ_=>pure Flow.next) _ _ _;refine a_^aex^wpAny_bindName^kF I3 n F (.inl t) T (λs2 I4=>?_)^.inr t;refine aex^wpAny_bindName^kF I4 n E (.inl r) S (λs3 B=>assignInOrder_nil^mo ?_)^.inr r;rw[List.set_comm _ _^Ne.symm G] at B;exact#[_,z,B,l]
def ZO(b c d:TE)(e:V->V->Hp->VK->Prop)(f:Tf)(g:F8):TS:=λD a H=>b a H λo h=>c a h λi j=>e o i j λx k=>d a k λy l=>f x y l λz m=>g o i z m λn=>D.nx a n
def V0(X:Cx)(t:V->V->Hp->VK->Prop):Prop:=
 ∀(a:List (Addr×Obj))(s:Shared)(b:St)(H:Hp)(o i:V)(c d:Value)(Q:VK),Inv X a b H s->RelV o c->RelV i d->t o i H Q->
  wpAny (model X.prog X.w) X.A (getItem c d) (EP X a b Q) X.xe s
def RG(A:PE X o l)(B:PE X i m)(C:V0 X p)(E:PE X e n)(F:W7 X t q)(G:OS X r)
  (J:(∀b c new,augStore i b c new=(do io [new,b,c]^setItem b c new;release [new,b,c] [];pure .next))<|>wn):PS X (.AugAssign (.Subscript o i z) t e pos)^ZO l m n p q r:=by
 intro a s d H D I h;refine wpAny_AugAssign_SubscriptAny (thn (A a s d H _ I h) λb L hH=>?_) J;obtain⟨u,M,N,w,O⟩:=hH;refine thn (B a L d M _ N O) λc P f=>?_;rfl';let⟨x,Q,R,y,S⟩:=f;ac_rfl;refine thn (C a P d Q u x b c _ R w y S) λk T f=>?_;rfl';let⟨Y,Z,I3,r3,q3⟩:=f;ac_rfl;refine thn (E a T d Z _ I3 q3) λv s4 f=>?_;rfl';let⟨x4,H4,I4,r4,q4⟩:=f;ac_rfl;refine thn (F a s4 d H4 Y x4 k v _ I4 r3 r4 q4) λnew s5 f=>?_;rfl';let⟨x5,H5,I5,r5,q5⟩:=f;ac_rfl;exact thn (G a s5 d H5 u x x5 b c new _ I5 w y r5 q5) λ_ s6 #[H6,I6,q6]=>#[d,H6,I6,q6]
def ipI(f:Int->Int->Int):Tf:=λx y H Q=>∃i j,x= .int i/\y= .int j/\Q (.int^f i j) H
end
section
variable {X:Cx} {pos:Pos}
def Mg(c:TT)(h:TS):TS:=λD a H=>∃W:Nat->St->Hp->Prop,(∃m,W m a H)/\∀m a H,W m a H->
 c a H λb d=>if b=true then ∃N:St->Hp->Prop,(∀e f,N e f->∃g,g<m/\W g e f)/\h {D with nx:=N,ct:=N,bk:=D.nx} a d else D.nx a d
def Dz{c:gc}{body:List Stmt}{tc:TT}{tb:TS}(hp:PassesOwn (ei X.prog X.w) X.A X.env X.xe)(hc:PT X c tc)(hb:jT X body tb):PS X (.While c body [] pos)^Mg tc tb:=by
 intro pins s σ H D I h;obtain⟨W,⟨m0,w0⟩,turn⟩:=h;refine wpAny_While^codeAny_whileLoop (λn s'=>∃ay H',Inv X pins ay H' s'/\W n ay H') ?_ m0 #[σ,H,I,w0];intro n s1 Z9;rfl';let⟨Lb,H1,I1,w1⟩:=Z9;ac_rfl;refine wpAny_passesOwn hp (thn (hc pins s1 Lb H1 _ I1^turn n Lb H1 w1) λb s2 aS=>?_);rfl';let⟨H2,I2,q2⟩:=aS;ac_rfl;cases b with
 |true=>
  rfl';let⟨N,hN,q2⟩:=q2;ac_rfl;rw[if_pos rfl];refine wpAny_passesOwn hp (thn (hb pins s2 Lb H2 _ I2 q2) λf s3 q3=>?_);cases f with
  |next=>
   let⟨y8,H3,I3,n3⟩:=q3;let⟨m',hm,w3⟩:=hN y8 H3 n3;exact#[m',hm,y8,H3,I3,w3]
  |cont=>
   let⟨y8,H3,I3,n3⟩:=q3;let⟨m',hm,w3⟩:=hN y8 H3 n3;exact#[m',hm,y8,H3,I3,w3]
  |brk=>exact q3
  |ret v=>exact q3
 |false=>
  rw[if_neg eD];exact wpAny_execs_nil #[Lb,H2,I2,q2]
end
structure It where
 go:Nat->Hp->Prop
 yld:Nat->Hp->V->Hp->Prop
 stop:Nat->Hp->Prop
def eJ(X:Cx)(a:List (Addr×Obj))(H:Hp)(b:Addr):Prop:=
 H b=none/\b≠X.env.locals/\b∉X.fs/\(b∈X.ex\/X.s₀.heap.objs.size<=b)/\(∀x c,X.env.cells.lookup x\c->c≠b)/\∀p∈X.pn++a,p.1≠b
def Inv.GL(I:Inv X a g H s)(d:s.heap.objs.size<=b)(h:f b=none):eJ X a f b:=by
 refine#[h,jR^cO I.lt d,I.WH d, .inr^iT I.sz d,λx c e z=>?_,λp i z=>?_]
 .obtain⟨v,q⟩:=I.cell x c e
  exact absurd (cO q.lt^by rw[z];exact d)^kg _
 .exact absurd (cO (Da (I.pin p i).1)^by rw[z];exact d)^kg _
structure Turn (P:fw) (w:f5) (K:ad) (tg:gc) (J:It) (fp:List Addr) (it:Addr) (tn:Nat->Heap->Prop):Prop where
 mem:it∈fp
 obj:∀i h,tn i h->∀b∈fp,∃o,h.get? b\o/\∀v,o.data≠ .cell v
 keep:∀i h h',tn i h->(∀b∈fp,∀o,h.get? b\o->h'.get? b\o)->tn i h'
 item:∀(X:Cx),X.prog=P->X.w=w->X.K=K->X.calm=true->∀(i:Nat)(pins:List (Addr×Obj))(s:c_)(σ:St)(H:Hp)(E:b_->c_->Prop),Inv X pins σ H s->(∀b∈fp,eJ X pins H b)->tn i s.heap->J.go i H->
  e_ (ei P w) X.A (nr^.ref it) (λr s1=>∃u,r\u/\
   e_ (ei P w) X.A (j6 tg (.ref it) u) (λ_ s2=>∃x H',Inv X pins σ H' s2/\RelV x u/\J.yld i H x H'/\tn (i+1) s2.heap/\∀b∈fp,H' b=none) E s1) E s
 done:∀(X:Cx),X.prog=P->X.w=w->X.K=K->X.calm=true->∀(i:Nat)(pins:List (Addr×Obj))(s:c_)(σ:St)(H:Hp)(E:b_->c_->Prop),Inv X pins σ H s->(∀b∈fp,eJ X pins H b)->tn i s.heap->J.stop i H->
  e_ (ei P w) X.A (nr^.ref it) (λr s1=>r=none/\Inv X pins σ H s1) E s
 self:∀(A:gs)(i:Nat)(s:c_)(Q:b_->c_->Prop)(E:b_->c_->Prop),tn i s.heap->Q (.ref it) s->e_ (ei P w) A (pyIter^.ref it) Q E s
abbrev TI:=St->Hp->(It->Hp->Prop)->Prop
def PIE(X:Cx)(a:List (Addr×Obj))(h:St)(i:Expr)(R:It->Hp->Prop)(j:Value)(d:Shared):Prop:=
 ∃(e:Addr)(f:List Addr)(g:Nat->Heap->Prop)(J:It)(c:Hp),j= .ref e/\Inv X a h c d/\Turn X.prog X.w X.K i J f e g/\g 0 d.heap/\(∀b∈f,eJ X a c b)/\R J c
def PI(X:Cx)(c iter:Expr)(d:TI):Prop:=
 ∀(a:List (Addr×Obj))(s:Shared)(b:St)(H:Hp)(R:It->Hp->Prop),Inv X a b H s->d b H R->
  wpAny (model X.prog X.w) X.A (eval iter X.env) (λv e=>wpAny (model X.prog X.w) X.A (pyIter v) (PIE X a b c R) X.xe e) X.xe s
theorem P1{M:Model}{A:gs}{E:b_->c_->Prop}{s:c_}{b:gc}{c:Addr}{u:b_}{o:Obj}{n:String}{d:Array b_}{Q:Unit->c_->Prop}(e:s.heap.get? c\o)(f:o.cls= .type n)(g:o.data= .fields d)
  (i: ["enumerate","zip","dict_itemiterator","dict_reverseitemiterator","odict_iterator","itertools.zip_longest","itertools.pairwise"].contains n=false) (a:Q ⟨⟩ s):e_ M A (j6 b (.ref c) u) Q E s:=by
 unfold j6
 cases b<;>first
  |exact gl a
  | (cases u<;>first
    |exact gl a
    | (refine a_^wpAny_load e ?_
       rw[f,g];show e_ M A (if (["enumerate","zip","dict_itemiterator","dict_reverseitemiterator","odict_iterator","itertools.zip_longest","itertools.pairwise"].contains n&&d[0]? ==some^lr _)=true then _ else _) Q E s;rw[if_neg^by intro h;rw[i,Bool.false_and] at h;cases h]
       exact gl a))
def Mz(K:ad)(a:Addr):It:=
 #[λi H=>∃b x,aL K H a b/\b[i]?\x,λi H x c=>c=H/\∀b,aL K H a b->b[i]?\x,λi H=>∃b,aL K H a b/\b.length<=i]
def F7(lo:Int)(n:Nat):It:=#[λi _=>i<n,λi H x a=>a=H/\x= .int (lo+i),λi _=>n<=i]
theorem KP{P:fw}{w:f5}{K:ad}{R:gc}(a g:Addr):Turn P w K R (Mz K a) [g] g (λi h=>h.IsListIter g a i) where
 mem:=by simp
 obj:=λi h st b j=>by
  have e:b=g:=by simpa using j
  subst e;let⟨o,e,c,d⟩:=st;exact#[o,e,λv z=>by rw[d] at z;cases z]
 keep:=λi h l st k=>st.at λo e=>k g (by simp) o e
 item:=by
  intro X q hw r N i f s O H E I m st t;rfl';subst q hw r;let⟨T,x,n,A⟩:=t;let⟨B,C,p,Y⟩:=I.list n;let⟨u,Z,ru⟩:=C.get A;let⟨F,G,f2,J,L,M⟩:=m g^by simp
  ac_rfl;refine wpAny_pyNext_list_item st p.isList (x:=u) (~~~Z) λl Q sb=>?_
  have I1:Inv X f O H {s with heap:=l}:=I.turned (t':=s.toks) (λb o j e=>(sb.2 b j).trans e) F G J L M
  let⟨o,e,c,d⟩:=id Q;exact#[u,rfl,P1 (s:={s with heap:=l}) e c d ∅ #[x,H,I1,ru,#[rfl,λys hy=>by rw[I.Dl hy n];exact A],Q,λb j=>(m b j).1]]
 done:=by
  intro X q hw r N i f s O H E I m st t;rfl';subst q hw r;let⟨T,n,A⟩:=t;let⟨B,C,p,Y⟩:=I.list n;let⟨F,G,f2,J,L,M⟩:=m g^by simp
  have hl:=C.length;ac_rfl;exact wpAny_pyNext_list_end (I.ok.hd N) st p.isList (by simp;lia) λl eb=>#[rfl,I.turned (t':=s.toks) (λb o j e=>eb b o j e) F G J L M]
 self:=λ_ _ _ _ _ st h=>wpAny_pyIter_listiter st h
def Ih{P:fw}{w:f5}{K:ad}{G:gc}(a:Addr)(lo:Int)(n:Nat):Turn P w K G (F7 lo n) [a] a (λi h=>IsRangeIter h a (lo+(i:Nat)*1) ((n:Int)-(i:Nat)) 1) where
 mem:=by simp
 obj:=λi h st b d=>by
  have e:b=a:=by simpa using d
  subst e
  exact#[_,st,λv z=>by
   have J:Data.fields _=Data.cell v:=z;cases J]
 keep:=λi h f st k=>k a (by simp) _ st
 item:=by
  intro X j hw l m i c s B H E I g st p;subst j hw l;rfl';let⟨r,u,M,x,y,A⟩:=g a^by simp
  ac_rfl;have W:=Walks.range (prog:=X.prog) (w:=X.w) (I.ok.hd m) a lo 1 n;refine W.item i s _ _ p st λv f C N F O=>?_;let⟨t,rfl⟩:=N;have Q:Inv X c B H {s with heap:=f,toks:=C}:=I.turned (λb o d e=>O b o (~~~d) e) r u x y A
  refine#[_,rfl,P1 (s:={s with heap:=f,toks:=C}) (n:="range_iterator") F rfl rfl ∅ #[.int (lo+i),H,Q,#[t,?_],#[rfl,rfl],F,λb d=>(g b d).1]]
  rw[Int.mul_one]
 done:=by
  intro X j hw l m i c s B H E I g st p;subst j hw l;rfl';let⟨r,u,M,x,y,A⟩:=g a^by simp
  ac_rfl;exact wpAny_pyNext_range_end (I.ok.hd m) st (by have:n<=i:=p;lia) λf R=>#[rfl,I.turned (t':=s.toks) (λb o d e=>R b o d e) r u x y A]
 self:=λ_ _ _ _ _ st h=>wpAny_pyIter_rangeiter st h
section
variable {X:Cx} {tg:Expr}
def Y4(K:ad)(c:TE):TI:=λd H R=>c d H λx b=>∃a,x= .ref a/\(∃e,aL K b a e)/\R (Mz K a) b
def kS{i:TE}(j:PE X l i):PI X tg l^Y4 X.K i:=by
 intro c s k H R I h;refine thn (j c s k H _ I h) λv d m=>?_;rfl';let⟨x,r,f,t,u⟩:=m;ac_rfl;rfl';obtain⟨a,e,⟨A,w⟩,q⟩:=u;subst e;subst t;let⟨y,B,p,C⟩:=f.list w;ac_rfl;refine wpAny_pyIter_list p.isList ?_;refine#[d.heap.objs.size,[d.heap.objs.size],_,_,r,rfl,f.kept (t':=d.toks) λb o e=>AC _ e,KP a _,#[_,GT _ rfl,rfl,rfl],λb z=>?_,q];have e:b=d.heap.objs.size:=by simpa using z
 subst e;exact f.GL (bg _)^f.hok.fresh^bg _
def DB{c:List (Addr×Obj)}{d:St}{H:Hp}{s:c_}{R:It->Hp->Prop}{E:b_->c_->Prop}{lo a:Int}{t u v:Tok}{f:Nat}(I:Inv X c d H s)(h: -(2<<<62)<=lo)(i:lo<2<<<62)(j: -(2<<<62)<=a)(k:a<2<<<62)
  (q:R (F7 lo (a-lo).toNat) H):e_ (ei X.prog X.w) X.A (pyIter^.ref s.heap.objs.size) (PIE X c d tg R) E {s with heap:=s.heap.push {cls:= .type "range",data:= .fields [.int lo t, .int a u, .int 1 v].toArray},toks:=f}:=by
 refine wpAny_pyIter_range (IsRange.new ..) (small_one h i j k) ?_;have g:Inv X c d H {s with heap:=s.heap.push {cls:= .type "range",data:= .fields [.int lo t, .int a u, .int 1 v].toArray},toks:=f}:=I.kept λb o e=>AC _ e
 refine#[(s.heap.push {cls:= .type "range",data:= .fields [.int lo t, .int a u, .int 1 v].toArray}).objs.size,[(s.heap.push {cls:= .type "range",data:= .fields [.int lo t, .int a u, .int 1 v].toArray}).objs.size],_,_,H,rfl,
  g.kept (t':=f) λb o e=>AC _ e,Ih _ lo (a-lo).toNat,?_,λb l=>?_,q]
 .have m:lo+((0:Nat):Int)*1=lo:=by simp
  have n:(((a-lo).toNat:Nat):Int)-((0:Nat):Int)=Builtin.Range.rangeSize lo a 1:=by rw[rangeSize_one];split<;>lia
  show IsRangeIter _ _ (lo+((0:Nat):Int)*1) ((((a-lo).toNat:Nat):Int)-((0:Nat):Int)) 1;rw[m,n];exact GT _ rfl
 .have e:b=(s.heap.push {cls:= .type "range",data:= .fields [.int lo t, .int a u, .int 1 v].toArray}).objs.size:=by simpa using l
  subst e;exact g.GL (bg _)^g.hok.fresh^bg _
def Y5(a:TA):TI:=λb H R=>a b H λc d=>∃j:Int,c= [.int j]/\-(2<<<62)<=j/\j<2<<<62/\R (F7 0 j.toNat) d
def Y6(a:TA):TI:=λb H R=>a b H λc d=>∃i j:Int,c= [.int i, .int j]/\(-(2<<<62)<=i/\i<2<<<62/\-(2<<<62)<=j/\j<2<<<62)/\R (F7 i (j-i).toNat) d
def n5(f:Gl X "range")(g:X.mg "range"=none)(i:PA X [a] d)(k:d_ [a] X.env= [(false,gi a X.env)]<|>zn):PI X tg (.Call (.Name "range" p) [a] [] pos)^Y5 d:=by
 intro b s l H R I h;refine Call_^gS I f g boot_range^PP (thn (i pos b s l H _ I h) λv w hH=>?_) k rfl;obtain⟨x,y,m,n,c⟩:=hH;let⟨j,e,c,o,q⟩:=c;subst e;cases n with
 |cons r u=>
  cases u;let⟨t,rfl⟩:=r;exact call_range_1^DB m () () c o^~~~q
def Kd(l:Gl X "range")(m:X.mg "range"=none)(n:PA X [a,b] g)(o:d_ [a,b] X.env= [(false,gi a X.env),(false,gi b X.env)]<|>zn)(k:d_ [b] X.env= [(false,gi b X.env)]<|>zn):
  PI X tg (.Call (.Name "range" p) [a,b] [] pos)^Y6 g:=by
 intro c s u H R I h;refine Call_^gS I l m boot_range^PP (thn (n pos c s u H _ I h) λB C #[E,F,v,w,d]=>?_) (by rw[o,k])^by rw[k];rfl
 obtain⟨i,j,e,⟨d,x,y,z⟩,q⟩:=d;subst e;cases w with
 |cons r f=>
  cases f with
  |cons A f=>
   cases f;let⟨t,rfl⟩:=r;let⟨G,rfl⟩:=A;exact call_range_2^DB v d x y z q
def ab5(e:TI)(g:TG)(f:TS):TS:=λD a H=>e a H λJ h=>∃W:Nat->Nat->St->Hp->Prop,(∃m,W 0 m a h)/\∀i m a H,W i m a H->
 (J.stop i H/\D.nx a H)\/(J.go i H/\∃N:St->Hp->Prop,(∀c b,N c b->∃d,d<m/\W (i+1) d c b)/\∀x b,J.yld i H x b->g x a b λj k=>f {D with nx:=N,ct:=N,bk:=D.nx} j k)
def n6(a:List Addr)(h:Heap):List (Addr×Obj):=a.filterMap λb=>(h.get? b).map λo=>(b,o)
def fE(c:b∈a)(e:h.get? b\o):(b,o)∈n6 a h:=aey.mpr #[b,c,by rw[e];rfl]
def J5(c:p∈n6 a h):p.1∈a/\h.get? p.1\p.2:=by
 obtain⟨b,d,e⟩:=aey.mp c;cases q:h.get? b with
 |none=>rw[q] at e;cases e
 |some o=>
  rw[q] at e;have f:(b,o)=p:=Do e;subst f;exact#[d,q]
def Inv.pinned(I:Inv X a f H s)(i:∀b∈c,eJ X a H b)(j:∀b∈c,∃o,s.heap.get? b\o/\∀v,o.data≠ .cell v):Inv X (a++n6 c s.heap) f H s:=
 I.vt λp k=>(cP.mp k).elim (λz=>I.pin p^fW _ z) λz=>by
  rfl';let⟨g,e⟩:=J5 z;let⟨m,n,q,l⟩:=i p.1 g;let⟨o,h,d⟩:=j p.1 g;ac_rfl;rw[e] at h;cases h;exact#[e,m,n,q,d]
def Inv.kG(I:Inv X (a++pl) b H s):Inv X a b H s:=I.vt λp c=>I.pin p^fW _^j8 _ c
theorem kq(C:PassesOwn (ei X.prog X.w) X.A X.env X.xe)(hc:X.calm=true)(hi:PI X tg iter wi)(hg:PG X tg g)(c:jT X t tb)
  (hs:(∀x,f8 iter X.env x=pure x)<|>xx):PS X (.For tg iter t [] pos)^ab5 wi g tb:=by
 intro a s σ H D I h;refine wpAny_For (thn (hi a s σ H _ I h) λv s1 h1=>thn h1 λJL s2 h2=>?_) hs;rfl';obtain⟨it,E,tn,J,H2,e,I2,T,iP,f2,W,⟨m0,w0⟩,F⟩:=h2;subst e;ac_rfl;have j:∀{q:Hp},(∀b∈E,q b=none)->∀b∈E,eJ X a q b:=λhn b c=>#[hn b c,(f2 b c).2];refine codeAny_forLoop_any (λn s'=>∃i G q,Inv X a G q s'/\tn i s'.heap/\(∀b∈E,q b=none)/\W i n G q) ?_ m0 #[0,σ,H2,I2,iP,λb c=>(f2 b c).1,w0];intro n s3 Z9;rfl';let⟨i,L,P,I3,yZ,M,w3⟩:=Z9;ac_rfl
 rcases F i n L P w3 with ⟨stop,qn⟩ | ⟨go,N,hN,step⟩
 .refine ac9 C (thn (T.done X rfl rfl rfl hc i a s3 L P X.xe I3 (j M) yZ stop) λr s4 B=>?_)
  let⟨R,I4⟩:=B;subst R;exact aea #[L,P,I4,qn]
 .refine ac9 C (thn (T.item X rfl rfl rfl hc i a s3 L P X.xe I3 (j M) yZ go) λr s4 B=>?_)
  let⟨u,R,h4⟩:=B;subst R;refine ac9 C (thn h4 λ_ s5 B=>?_);rfl';let⟨x,H5,I5,r5,y5,S,sX⟩:=B;ac_rfl;have W3:=I5.pinned (j sX)^T.obj _ _ S;refine ac9 C (thn (hg _ s5 L H5 x u _ W3 r5^step x H5 y5) λ_ s6 B=>?_);rfl';let⟨Y,H6,I6,q6⟩:=B;ac_rfl;refine ac9 C (thn (c _ s6 Y H6 _ I6 q6) λf Z y=>?_)
  have again:∀{k:St}{l:Hp},Inv X (a++n6 E s5.heap) k l Z->N k l->∃m,m<n/\∃i G q,Inv X a G q Z/\tn i Z.heap/\(∀b∈E,q b=none)/\W i m G q:=λ {k l} p O=>by
   let⟨m',hm,w7⟩:=hN k l O;refine#[m',hm,i+1,k,l,p.kG,T.keep _ _ _ S λb c o e=>(p.pin (b,o)^fW _^fW _^fE c e).1,λb c=>?_,w7];let⟨o,e,d⟩:=T.obj _ _ S b c;exact(p.pin (b,o)^fW _^fW _^fE c e).2.1
  cases f with
  |next=>let⟨k,l,p,O⟩:=y;exact again p O
  |cont=>let⟨k,l,p,O⟩:=y;exact again p O
  |brk=>let⟨k,l,p,y⟩:=y;exact#[k,l,p.kG,y]
  |ret v=>let⟨x7,k,l,p,r7,y⟩:=y;exact#[x7,k,l,p.kG,r7,y]
end
def M1{K:ad}{a:Addr}{xs:List V}{g:TG}{k:TS}{D:Ends}{b:St}{H:Hp}(c:Nat->St->Hp->Prop)(o:c 0 b H)(r:∀i b H,i<=xs.length->c i b H->aL K H a xs)
  (s:∀i x b H,xs[i]?\x->c i b H->g x b H λf h=>k {D with nx:=c (i+1),ct:=c (i+1),bk:=D.nx} f h) (t:∀b H,c xs.length b H->D.nx b H):
  ∃W:Nat->Nat->St->Hp->Prop,(∃m,W 0 m b H)/\∀i m b H,W i m b H->
   ((Mz K a).stop i H/\D.nx b H)\/((Mz K a).go i H/\∃N:St->Hp->Prop,(∀j d,N j d->∃l,l<m/\W (i+1) l j d)/\∀x d,(Mz K a).yld i H x d->g x b d λf h=>k {D with nx:=N,ct:=N,bk:=D.nx} f h):=by
 refine#[λi m b H=>m=xs.length-i/\i<=xs.length/\c i b H,#[xs.length,by simp,eE _,o],?_]
 rintro i m b H ⟨rfl,u,p⟩;have q:=r i b H u p
 by_cases n:i<xs.length
 .refine .inr #[#[xs,xs[i],q,by simp[n]],c (i+1),λj d v=>#[xs.length-(i+1),(by omega),rfl,n,v],λx d y=>?_]
  obtain⟨e,y⟩:=y;subst e;exact s i x b _ (y xs q) p
 .have e:i=xs.length:=()
  subst e;exact .inl #[#[xs,q,bg _],t b H p]
def nE{lo:Int}{n:Nat}{g:TG}{k:TS}{D:Ends}{a:St}{H:Hp}(b:Nat->St->Hp->Prop)(o:b 0 a H)
  (q:∀i a H,i<n->b i a H->g (.int (lo+i)) a H λd f=>k {D with nx:=b (i+1),ct:=b (i+1),bk:=D.nx} d f) (r:∀a H,b n a H->D.nx a H):
  ∃W:Nat->Nat->St->Hp->Prop,(∃m,W 0 m a H)/\∀i m a H,W i m a H->
   ((F7 lo n).stop i H/\D.nx a H)\/((F7 lo n).go i H/\∃N:St->Hp->Prop,(∀h c,N h c->∃l,l<m/\W (i+1) l h c)/\∀x c,(F7 lo n).yld i H x c->g x a c λd f=>k {D with nx:=N,ct:=N,bk:=D.nx} d f):=by
 refine#[λi m a H=>m=n-i/\i<=n/\b i a H,#[n,by simp,eE _,o],?_]
 rintro i m a H ⟨rfl,t,p⟩
 by_cases j:i<n
 .refine .inr #[j,b (i+1),λh c s=>#[n-(i+1),(),rfl,j,s],λx c y=>?_]
  obtain⟨e,y⟩:=y;subst e y;exact q i a _ j p
 .have e:i=n:=()
  subst e;exact .inl #[bg _,r a H p]
theorem OA(g:St->Hp->Prop)(h:St->Hp->Nat)(k:g a H)
  (n:∀a H,g a H->c a H λb d=>if b=true then i {D with nx:=λe f=>g e f/\h e f<h a H,ct:=λe f=>g e f/\h e f<h a H,bk:=D.nx} a d else D.nx a d)
  (mono:∀a H Q j,(∀b d,Q b d->j b d)->c a H Q->c a H j):Mg c i D a H:=by
 refine#[λm a H=>m=h a H/\g a H,#[_,rfl,k],?_];rintro m a H ⟨rfl,p⟩;refine mono a H _ _ (λb d q=>?_)^n a H p;cases b with
 |true=>exact#[_,λe f #[o,l]=>#[_,l,rfl,o],q]
 |false=>exact q
abbrev R2:=V->V->Hp->VK->Prop
def OpR(X:Cx)(f:Value->Value->Sem Value)(r:R2):Prop:=
 ∀(a:List (Addr×Obj))(s:Shared)(b:St)(H:Hp)(x y:V)(v u:Value)(Q:VK),Inv X a b H s->RelV x v->RelV y u->r x y H Q->
  wpAny (model X.prog X.w) X.A (f v u) (EP X a b Q) X.xe s
def UnR(X:Cx)(f:Value->Sem Value)(r:V->Hp->VK->Prop):Prop:=
 ∀(a:List (Addr×Obj))(s:Shared)(b:St)(H:Hp)(x:V)(v:Value)(Q:VK),Inv X a b H s->RelV x v->r x H Q->
  wpAny (model X.prog X.w) X.A (f v) (EP X a b Q) X.xe s
def dX(X:Cx)(f:Value)(r:List V->Hp->VK->Prop):Prop:=
 ∀(a:List (Addr×Obj))(s:Shared)(b:St)(H:Hp)(c:List V)(d:List Value)(Q:VK),Inv X a b H s->Vals c d->r c H Q->
  wpAny (model X.prog X.w) X.A (call f d) (EP X a b Q) X.xe s
def aak(X:Cx)(r:V->Hp->(Bool->Hp->Prop)->Prop):Prop:=
 ∀(a:List (Addr×Obj))(s:Shared)(b:St)(H:Hp)(x:V)(v:Value)(Q:Bool->Hp->Prop),Inv X a b H s->RelV x v->r x H Q->
  wpAny (model X.prog X.w) X.A (truthy v) (TP X a b Q) X.xe s
def FE(r:R2)(b c:TE):TE:=λa H Q=>b a H λx d=>c a d λy e=>r x y e Q
def tUn(r:V->Hp->VK->Prop)(a:TE):TE:=λb H Q=>a b H λx c=>r x c Q
def rI(C:Int->Int->Prop)(g:Int->Int->V):R2:=λx y H Q=>∃i j,x= .int i/\y= .int j/\C i j/\Q (g i j) H
def Fl(g:Int->Int->V):R2:=λx y H Q=>∃i j,x= .int i/\y= .int j/\Q (g i j) H
def rU(g:Int->V):V->Hp->VK->Prop:=λx H Q=>∃i,x= .int i/\Q (g i) H
section
variable {X:Cx} {a b c:Expr} {ta tb tc:TE} {pos:Pos}
def OZ(l:PE X a ta)(m:PE X b tb){d:List (Addr×Obj)}{s:Shared}{e:St}{H:Hp}{R:V->V->Hp->Prop}(I:Inv X d e H s)
  (h:ta e H λx k=>tb e k λy g=>R x y g) {Q:Value->Shared->Prop} {f:Value->Value->Sem Value}
  (n:∀v u j x y g,Inv X d e g j->RelV x v->RelV y u->R x y g->wpAny (model X.prog X.w) X.A (f v u) Q X.xe j):
  wpAny (model X.prog X.w) X.A (eval a X.env) (λv i=>wpAny (model X.prog X.w) X.A (eval b X.env) (λu o=>wpAny (model X.prog X.w) X.A (f v u) Q X.xe o) X.xe i) X.xe s:=by
 refine thn (l d s e H _ I h) λv p hH=>?_;obtain⟨x,k,q,r,t⟩:=hH;refine thn (m d p e k _ q t) λu j hH=>?_;obtain⟨y,g,z,B,C⟩:=hH;exact n v u j x y g z r B C
def c5(f:OpR X (i_ e) r)(g:PE X a ta)(i:PE X b tb):PE X (.BinOp a e b pos)^FE r ta tb:=by
 intro d s j H Q I h;exact wpAny_BinOp (OZ g i I h λv u k x y l m n o q=>f d k j l x y v u Q m n o q)
def Zy(g:UnR X (unaryOp e) r)(i:PE X a ta):PE X (.UnaryOp e a pos)^tUn r ta:=by
 intro d s f H Q I h;refine UnaryOp_ (thn (i d s f H _ I h) λv j hH=>?_);obtain⟨x,k,l,m,n⟩:=hH;exact g d j f k x v Q l m n
def UU{f:b_->b_->l_ b_}{C:Int->Int->Prop}{g:Int->Int->Int}
  (rule:∀(i j:Int)(t u:Tok)(s:c_)(Q:b_->c_->Prop)(E:b_->c_->Prop),C i j->Q (.int (g i j) s.toks) {s with toks:=s.toks+1}->e_ (ei X.prog X.w) X.A (f (.int i t)^.int j u) Q E s):
  OpR X f (rI C λi j=> .int^g i j):=by
 intro d s n H x y v u Q I e k h;let⟨i,j,rfl,rfl,l,q⟩:=h;let⟨t,rfl⟩:=e;let⟨m,rfl⟩:=k;exact rule i j t m s _ _ l #[.int^g i j,H,I.tok _,#[_,rfl],q]
def WN{f:b_->b_->l_ b_}{g:Int->Int->Int}
  (rule:∀(i j:Int)(t u:Tok)(s:c_)(Q:b_->c_->Prop)(E:b_->c_->Prop),Q (.int (g i j) s.toks) {s with toks:=s.toks+1}->e_ (ei X.prog X.w) X.A (f (.int i t)^.int j u) Q E s):
  OpR X f (Fl λi j=> .int^g i j):=by
 intro d s m H x y v u Q I e k h;let⟨i,j,rfl,rfl,q⟩:=h;let⟨t,rfl⟩:=e;let⟨l,rfl⟩:=k;exact rule i j t l s _ _ #[.int^g i j,H,I.tok _,#[_,rfl],q]
def Rl{f:b_->b_->l_ b_}{g:Int->Int->Bool}
  (rule:∀(i j:Int)(t u:Tok)(s:c_)(Q:b_->c_->Prop)(E:b_->c_->Prop),Q (.bool^g i j) s->e_ (ei X.prog X.w) X.A (f (.int i t)^.int j u) Q E s):
  OpR X f (Fl λi j=> .bl^g i j):=by
 intro d s m H x y v u Q I e k h;let⟨i,j,rfl,rfl,q⟩:=h;let⟨t,rfl⟩:=e;let⟨l,rfl⟩:=k;exact rule i j t l s _ _ #[.bl^g i j,H,I,rfl,q]
def VZ(i j:Int):Prop:=0<j/\j<1073741824
def aaf(i j:Int):Prop:=0<=j/\j<=1000000/\i.natAbs<2<<<64
def OH(i j:Int):Prop:=(-(2<<<64)<i/\i<2<<<64)\/(-(2<<<64)<j/\j<2<<<64)
def OH.ok(h:OH i j):IntMulOk i j:=by
 rcases h with ⟨d,e⟩ | ⟨d,e⟩
 .exact .of_left^intBits_le_64 d e
 .exact .of_right^intBits_le_64 d e
def iI:OpR X (binaryOp .Add) (Fl λi j=> .int (i+j)):=WN λ_ _ _ _ _ _ _ q=>add_int q
def rf:OpR X (binaryOp .Mult) (rI OH λi j=> .int (i*j)):=UU λ_ _ _ _ _ _ _ d q=>mul_int q d.ok
def Rn:OpR X (i_ .FloorDiv) (rI VZ λi j=> .int (i / j)):=UU λi j _ _ _ _ _ d q=>by
 have e:(0:Int)<j:=d.1;have f:j<1073741824:=d.2;exact floordiv_int () (by rw[Int.fdiv_eq_ediv_of_nonneg i ()];exact q)^.inl^PyProof.noPylong_small (by omega)
def q0:OpR X (i_ .Mod) (rI (λ_ j=>0<j) λi j=> .int (i%j)):=UU λi j _ _ _ _ _ d q=>by
 have e:(0:Int)<j:=d;exact mod_int' ()^by rw[Int.fmod_eq_emod_of_nonneg i ()];exact q
def UY:OpR X (binaryOp .Pow) (rI aaf λi j=> .int (i<<<j.toNat)):=UU λ_ _ _ _ _ _ _ d q=>pow_int_small d.1 d.2.1 d.2.2 q
def UZ:OpR X (i_ .BitXor) (Fl λi j=> .int^Builtin.bitXor i j):=WN λ_ _ _ _ _ _ _ q=>xor_int q
def unI{f:b_->l_ b_}{g:Int->Int}
  (rule:∀(i:Int)(t:Tok)(s:c_)(Q:b_->c_->Prop)(E:b_->c_->Prop),Q (.int (g i) s.toks) {s with toks:=s.toks+1}->e_ (ei X.prog X.w) X.A (f^.int i t) Q E s):
  UnR X f (rU λi=> .int^g i):=by
 intro d s j H x v Q I e h;let⟨i,rfl,q⟩:=h;let⟨t,rfl⟩:=e;exact rule i t s _ _ #[.int^g i,H,I.tok _,#[_,rfl],q]
def VR:UnR X (unaryOp .USub) (rU λi=> .int (-i)):=unI λ_ _ _ _ _ q=>neg_int q
end
def abW:V->V->Bool
 | .aQ, .aQ=>true| .aQ, .int _=>true| .int _, .aQ=>true| .aQ, .bl _=>true| .bl _, .aQ=>true| .aQ, .str _=>true| .str _, .aQ=>true
 | .int _, .int _=>true| .bl _, .bl _=>true| .str _, .str _=>true| .yK _, .yK _=>true
 | .int _, .str _=>true| .str _, .int _=>true| .bl _, .str _=>true| .str _, .bl _=>true
 |_,_=>false
def rNe:R2:=λx y H Q=>abW x y=true/\Q (.bl (!decide (x=y))) H
def Pe:decide (V.int i=V.int j)=(i==j):=by
 rw[aeb];simp
def TJ:decide (V.bl i=V.bl j)=(i==j):=by
 rw[aeb];simp
def Pf:decide (V.str i=V.str j)=(i==j):=by
 rw[aeb];simp
def Pd:decide (V.yK i=V.yK j)=(i.toList==j.toList):=by
 rw[aeb];cases i;cases j;simp
section
variable {X:Cx} {a b c:Expr} {ta tb tc:TE} {pos:Pos}
def eY(I:Inv X d f H s)(q:Q (.bl k) H)(e:k=g):EP X d f Q (.bool g) s:=by
 subst e;exact#[.bl k,H,I,rfl,q]
def Zt:OpR X (gj .NotEq) rNe:=by
 intro pins s σ H x y v u Q I rx ry h;let⟨hs,q⟩:=h;cases x with
 |aQ=>
  cases rx;cases y with
  |aQ=>cases ry;exact PySem.EqNone.ne_none_none^eY I q^by simp
  |bl j=>cases ry;exact PySem.EqNone.ne_none_bool^eY I q^by simp
  |int j=>let⟨t',rfl⟩:=ry;exact PySem.EqNone.ne_none_int^eY I q^by simp
  |str j=>let⟨t',rfl⟩:=ry;exact PySem.EqNone.ne_none_str^eY I q^by simp
  |_=>exact absurd (show false=true from hs) eD
 |bl i=>
  cases rx;cases y with
  |aQ=>cases ry;exact PySem.EqNone.ne_bool_none^eY I q^by simp
  |bl j=>cases ry;exact ne_bool^eY I q^congrArg not TJ
  |str j=>let⟨t',rfl⟩:=ry;exact PySem.EqMixed.ne_bool_str^eY I q^by simp
  |_=>exact absurd (show false=true from hs) eD
 |int i=>
  let⟨t,rfl⟩:=rx;cases y with
  |aQ=>cases ry;exact PySem.EqNone.ne_int_none^eY I q^by simp
  |int j=>let⟨t',rfl⟩:=ry;exact ne_int^eY I q^congrArg not Pe
  |str j=>let⟨t',rfl⟩:=ry;exact PySem.EqMixed.ne_int_str^eY I q^by simp
  |_=>exact absurd (show false=true from hs) eD
 |str i=>
  let⟨t,rfl⟩:=rx;cases y with
  |aQ=>cases ry;exact PySem.EqNone.ne_str_none^eY I q^by simp
  |bl j=>cases ry;exact PySem.EqMixed.ne_str_bool^eY I q^by simp
  |int j=>let⟨t',rfl⟩:=ry;exact PySem.EqMixed.ne_str_int^eY I q^by simp
  |str j=>let⟨t',rfl⟩:=ry;exact ne_str^eY I q^congrArg not Pf
  |_=>exact absurd (show false=true from hs) eD
 |yK i=>
  let⟨t,rfl⟩:=rx;cases y with
  |yK j=>let⟨t',rfl⟩:=ry;exact PySem.W.ne_bytes^eY I q^congrArg not Pd
  |_=>exact absurd (show false=true from hs) eD
 |_=>cases y<;>exact absurd (show false=true from hs) eD
def J9:OpR X (compareOp .Lt) (Fl λi j=> .bl (decide (i<j))):=Rl λ_ _ _ _ _ _ _ q=>lt_int q
def Zs:OpR X (compareOp .LtE) (Fl λi j=> .bl (decide (i<=j))):=Rl λ_ _ _ _ _ _ _ q=>le_int q
def J7:OpR X (compareOp .Gt) (Fl λi j=> .bl (decide (j<i))):=Rl λ_ _ _ _ _ _ _ q=>gt_int q
def UX:OpR X (gj .Is) (λx y H Q=>y= .aQ/\Q (.bl (decide (x= .aQ))) H):=by
 intro d s g H x y v u Q I e f h;let⟨rfl,q⟩:=h;subst f;refine is_none_gen^eY I q ?_
 cases x<;>first
  | (cases e;rfl)
  | (let⟨t,rfl⟩:=e;rfl)
def Ro:OpR X (gj .IsNot) (λx y H Q=>y= .aQ/\Q (.bl (!decide (x= .aQ))) H):=by
 intro d s g H x y v u Q I e f h;let⟨rfl,q⟩:=h;subst f;refine isnot_none_gen^eY I q ?_
 cases x<;>first
  | (cases e;rfl)
  | (let⟨t,rfl⟩:=e;rfl)
def OpR.or(h:OpR X f r)(k:OpR X f e):OpR X f (λx y H Q=>r x y H Q\/e x y H Q):=by
 intro d s g H x y v u Q I i j q
 rcases q with q|q
 .exact h d s g H x y v u Q I i j q
 .exact k d s g H x y v u Q I i j q
def aY(b:Expr)(h:d≠ .In<|>zm)(e:d≠ .NotIn<|>zm):behindInMarks d b=false:=by
 have f:(d==CmpOp.In)=false:=by cases d<;>first|rfl|exact absurd rfl h
 have g:(d==CmpOp.NotIn)=false:=by cases d<;>first|rfl|exact absurd rfl e
 cases b<;>simp[behindInMarks,f,g]
def HA(f:OpR X (gj e) r)(g:PE X a ta)(i:PE X b tb)(j:jn e b=false):PE X (.Compare a [e] [b] pos)^FE r ta tb:=by
 intro d s k H Q I h;exact wpAny_Compare1 (OZ g i I h λv u l x y m n o p q=>f d l k m x y v u Q n o p q) j
def KH(t:TE):TT:=λd H Q=>t d H λx e=>∃k,x= .bl k/\Q k e
def iL(i:OpR X (gj f) r)(j:PE X a ta)(l:PE X b tb)(m:jn f b=false):PT X (.Compare a [f] [b] pos)^KH^FE r ta tb:=by
 intro d s g H Q I h
 refine wpAny_isTrue_Compare1 (thn (j d s g H _ I h) λv n #[x,o,p,q,t]=>thn (l d n g o _ p t) λu w #[y,A,B,C,E]=>
  thn (i d w g A x y v u _ B q C E) λc M #[z,F,G,J,k,e,L]=>?_) m
 subst e;subst J;exact UF #[F,G,L]
def FC(r f:R2)(g h tc:TE):TE:=λd H Q=>g d H λx i=>h d i λy j=>r x y j λz e=>∃k,z= .bl k/\
 (if k=true then tc d e λl m=>f y l m Q else Q (.bl false) e)
theorem NO(q:OpR X (gj i) r)(t:OpR X (gj j) l)(w:PE X a ta)(A:PE X b tb)(B:PE X c tc)
  (C:lastMarks [i,j] [b,c]=false<|>wr):PE X (.Compare a [i,j] [b,c] pos)^FC r l ta tb tc:=by
 intro f s g H Q I h
 refine Compare_chain (thn (w f s g H _ I h) λv E #[x,F,G,J,L]=>chain_link (thn (A f E g F _ G L) λu M #[y,N,O,m,P]=>
  thn (q f M g N x y v u _ O J m P) λd R #[z,n,o,S,k,e,p]=>?_)) C
 subst e;subst S;refine UF ?_;cases k with
 |false=>exact ite_ff #[.bl false,n,o,rfl,p]
 |true=>exact ite_tt^chain_last (thn (B f R g n _ o p) λT Y #[Z,H4,I4,r4,q4]=>t f Y g H4 y Z u T Q I4 m r4 q4)
theorem NZ(q:OpR X (gj i) r)(t:OpR X (gj j) l)(w:PE X a ta)(A:PE X b tb)(B:PE X c tc)
  (C:lastMarks [i,j] [b,c]=false<|>wr):PT X (.Compare a [i,j] [b,c] pos)^KH^FC r l ta tb tc:=by
 intro f s g H Q I h
 refine isTrue_chain (thn (w f s g H _ I h) λv E #[x,F,G,J,L]=>test_link (thn (A f E g F _ G L) λu M #[y,N,O,m,P]=>
  thn (q f M g N x y v u _ O J m P) λd R #[z,n,o,S,k,e,p]=>?_)) C
 subst e;subst S;refine UF ?_;cases k with
 |false=>
  rfl';let⟨k',Y,Z⟩:=p;cases Y;ac_rfl;exact ite_ff #[n,o,Z]
 |true=>
  refine ite_tt^test_last (thn (B f R g n _ o p) λw' s4 hH=>?_);obtain⟨z',H4,I4,r4,q4⟩:=hH;refine thn (t f s4 g H4 y z' u w' _ I4 m r4 q4) λd' s5 hH=>?_;obtain⟨z2,H5,I5,r5,k2,e2,q5⟩:=hH;subst e2;subst r5;exact UF #[H5,I5,q5]
def V2(K:ad)(x:V)(H:Hp)(k:Bool):Prop:=
 match x with
 | .aQ=>k=false
 | .bl b=>k=b
 | .int i=>k=(i !=0)
 | .str y=>y.length<=sizeLine/\k=((y.length:Int) !=0)
 | .yK y=>y.size<=sizeLine/\k=((y.size:Int) !=0)
 | .ref p=>(∃d,aL K H p d/\k= !d.isEmpty)\/(∃d,fI K H p d/\k= !d.isEmpty)\/∃e,H p\(.dK e)/\k= !e.isEmpty
 |_=>False
def Hg(r:KV e f):(!f.isEmpty)= !e.isEmpty:=by
 cases r<;>rfl
def ym(r:Vals e d):(!d.toArray.isEmpty)= !e.isEmpty:=by
 cases r<;>simp
def lO:(sizeLine:Nat)<2<<<63:=by rw[adu];decide
def VP:aak X (λx H Q=>∃k,V2 X.K x H k/\Q k H):=by
 intro pins s σ H x v Q I rx h;obtain⟨k,e,q⟩:=h;have hl:=lO;have hs:sizeLine=16777216:=sizeLine_eq;cases x with
 |aQ=>
  cases rx;have e':k=false:=e;subst e';exact truthy_none #[H,I,q]
 |bl b=>
  cases rx;have e':k=b:=e;subst e';exact wpAny_truthy_bool #[H,I,q]
 |int i=>
  obtain⟨t,rfl⟩:=rx;have e':k=(i !=0):=e;subst e';exact PySem.P.truthy_int #[H,I,q]
 |str y=>
  obtain⟨t,rfl⟩:=rx;obtain⟨hy,e'⟩:y.length<=sizeLine/\k=((y.length:Int) !=0):=e;subst e';exact PySem.P.truthy_str () #[H,I.tok _,q]
 |yK y=>
  obtain⟨t,rfl⟩:=rx;obtain⟨hy,e'⟩:y.size<=sizeLine/\k=((y.size:Int) !=0):=e;subst e';exact PySem.W.truthy_bytes () #[H,I.tok _,q]
 |ref p=>
  subst rx;have e':(∃xs,aL X.K H p xs/\k= !xs.isEmpty)\/(∃xs,fI X.K H p xs/\k= !xs.isEmpty)\/∃fK,H p\(.dK fK)/\k= !fK.isEmpty:=e
  rcases e' with ⟨xs,hx,e'⟩ | ⟨xs,hx,e'⟩ | ⟨fK,hx,e'⟩
  .subst e'
   obtain⟨its,r,pl,hz⟩:=I.list hx;have hlen:=r.length;exact wpAny_truthy_list pl.isList (by simp only[cn];lia) #[H,I.tok _,by rw[ym r];exact q]
  .subst e'
   obtain⟨its,r,pl,hz⟩:=I.tuple hx;have hlen:=r.length;exact truthy_tuple pl (by simp only[cn];lia) #[H,I.tok _,by rw[ym r];exact q]
  .subst e'
   obtain⟨hz,hS,vs,r,m⟩:fK.length<=sizeLine/\(p==sysModules)=false/\∃vs,KV fK vs/\s.heap.DictOf (Aw X.prog X.w) p vs:=I.hok p _ hx;have hlen:fK.length=vs.length:=Paired.length r;exact wpAny_truthy_dict hS m () #[H,I.tok _,by rw[Hg r];exact q]
 |_=>exact(show False from e).elim
def N0(i:PE X a ta)(j:∀d,isTrue a X.env d=(do let v <-d;jo a.pos;io [v]^truthy v)):
  PT X a (λf H Q=>ta f H λx g=>∃k,V2 X.K x g k/\Q k g):=by
 intro e s f H Q I h;refine isTrue_plain (thn (i e s f H _ I h) λv l hH=>?_)^j _;obtain⟨x,m,n,o,p⟩:=hH;exact VP e l f m x v Q n o p
def vals1(r:Vals [x] d):∃u,d= [u]/\RelV x u:=by
 cases r with
 |cons e f=>cases f;exact#[_,rfl,e]
def vals2(r:Vals [x,y] d):∃u e,d= [u,e]/\RelV x u/\RelV y e:=by
 cases r with
 |cons f g=>
  cases g with
  |cons h i=>cases i;exact#[_,_,rfl,f,h]
def zJ(g:X.calm=true):dX X (.builtin "max") (λe H Q=>∃i j,e= [.int i, .int j]/\Q (.int^if j>i then j else i) H):=by
 intro f s m H e n Q I r h;rfl';let⟨i,j,rfl,q⟩:=h;obtain⟨u,p,rfl,⟨t,rfl⟩,⟨v,rfl⟩⟩:=vals2 r;ac_rfl;refine max_two_ints (I.ok.hd g) λw x k=>#[_,H,I.kept k,?_,q]
 by_cases d:j>i
 .rw[ir d,ir d];exact#[_,rfl]
 .rw[tz d,tz d];exact#[_,rfl]
def zK(g:X.calm=true):dX X (.builtin "min") (λe H Q=>∃i j,e= [.int i, .int j]/\Q (.int^if j<i then j else i) H):=by
 intro f s m H e n Q I r h;rfl';let⟨i,j,rfl,q⟩:=h;obtain⟨u,p,rfl,⟨t,rfl⟩,⟨v,rfl⟩⟩:=vals2 r;ac_rfl;refine min_two_ints (I.ok.hd g) λw x k=>#[_,H,I.kept k,?_,q]
 by_cases d:j<i
 .rw[ir d,ir d];exact#[_,rfl]
 .rw[tz d,tz d];exact#[_,rfl]
def II:dX X (.type "int") (λd H Q=>(∃i,d= [.int i]/\Q (.int i) H)\/∃k,d= [.bl k]/\Q (.int^if k then 1 else 0) H):=by
 intro e s g H d j Q I r h
 rcases h with ⟨i,rfl,q⟩ | ⟨k,rfl,q⟩
 .obtain⟨u,rfl,t,rfl⟩:=vals1 r
  exact call_int_int #[.int i,H,I,#[_,rfl],q]
 .obtain⟨u,rfl,f⟩:=vals1 r
  cases f;exact call_int_bool #[.int^if k then 1 else 0,H,I.tok _,#[_,rfl],q]
end
structure zw (h:Heap) (x dx C:Addr) (mA:Str->Option Value):Prop where
 obj:h.get? x\(ca C dx)
 ns:h.Ns1 dx mA
 ne:dx≠x
def tK{h:Heap}(n:h.Ns1 d f):∃od,h.get? d\od/\∀b,dc b od\(f b):=by
 rfl';let⟨o,g,u,j,k,l,i,m⟩:=n;ac_rfl;refine#[o,j,λb=>?_];have e:=m b;unfold nsFind findBy at e;rw[<-Array.find?_toList] at e;unfold dc;rw[k];dsimp only
 split
 .rename_i y q
  rw[q] at e;exact KM some e
 .rename_i q
  rw[q] at e
  have a:g.toList.any (·.refKey)=false:=by
   rw[List.any_eq_false];intro y p;let⟨z,t,c⟩:=l y^Array.mem_toList_iff.mp p;simp[DictEntry.refKey,c]
  have r:¬g.toList.any (·.refKey)=true:=by rw[a];exact eD
  rw[tz r];exact KM some e
def zw.look(I:zw h x c C d):∃b,PySem.W.InstAt h x (ca C c) C^some b/\∀a,dc a b\(d a):=
 let #[b,e,f]:=tK I.ns
 #[b,#[I.obj,rfl,rfl,e],f]
section
variable {prog:Program} {w:World} {A:Around} {E:Value->Shared->Prop} {s:Shared} {K:ad} {x dx C f:Addr} {mA:Str->Option Value} {name:Str} {v:Value}
def get_map(X:K.In s.heap)(I:zw s.heap x dx C mA)(b:cr K C name=true)(c:cb K C=true)
  (d:aj K (.ref C) name\none) (e:mA name\v) (g:PySem.W.handedIn v=true) (h:Q v {s with toks:=s.toks+1}):
  e_ (ei prog w) A (getAttr (.ref x) name a) Q E s:=by
 let⟨j,J,i⟩:=I.look;exact PySem.W.get_value X J (aep b).1 (PySem.W.findObj_own c d rfl^by rw[i,e]) g h
def M6(X:K.In s.heap)(I:zw s.heap x dx C mA)(a:cr K C name=true)
  (b:aj K (.ref C) name\(some^.ref f)) (c:bu K^.ref f=true) (d:mA name=none) (h:Q (.ref f,[.ref x]) s):
  e_ (ei prog w) A (ni (.ref x) name pl) Q E s:=by
 let⟨e,J,g⟩:=I.look;exact PySem.W.method_fn X J (aep a).1 (aep a).2 b (ac0.mp c) (by show(dc name e).map (·.isSome)\false;rw[g,d];rfl) h
def Sk{e:List fA}(X:K.In s.heap)(I:zw s.heap x dx C mA)
  (j:aj K (.ref C) "__setattr__"\(some^.builtin "object.__setattr__")) (k:df K C=true) (l:dL K C name\none) (m:cb K C=true)
  (hw:cq mA e) (G:e.length<=sizeLine)
  (h:∀c,zw c x dx C (λy=>if y=name then some v else mA y)->Heap.SameBut dx s.heap c->Q ⟨⟩ {s with heap:=c,toks:=s.toks+2}):
  e_ (ei prog w) A (setAttr (.ref x) name v) Q E s:=by
 rfl';let⟨H,J,L⟩:=I.look;let⟨M,o,p⟩:=PySem.W.any_some m;ac_rfl;refine PySem.W.set_plain X J j (PySem.W.osa_open (s:={s with toks:=s.toks+1}) (r:=none) X J k l λb=>?_)
 have q:s.heap.get? x\#[.ref C,some dx, .plain, #[]]:=I.obj;refine a_^mo^a_^a_^afq q^a_^PySem.W.Looks.here (s:={s with toks:=s.toks+1}) (PySem.W.looks_clsIn X o) ?_
 rw[p];refine mo (a:=some dx)^a_^mo^a_ ?_;refine afv (s:={s with toks:=s.toks+1}) I.ns λc g i=>?_
 rfl';let⟨N,t,u,z,B,F⟩:=g.count^PySem.Within.cons name v hw;ac_rfl;refine a_^aeT z (by rw[B];exact aeU^iT F^by rw[dU];lia) ?_
 exact mo^h _ #[(i.2 _^Ne.symm I.ne).trans I.obj,g,I.ne] i
def NA(X:K.In s.heap)(c:d3 K C=true)
  (e:aj K (.ref C) "__init__"\(some^.ref f)) (i:PySem.W.typeIn K^.ref f\(.type "function"))
  (h:hB (ei prog w) (A.under^.builtin "type.__call__" #[.ref C::a,b]) (.call (.ref f) #[.ref (s.heap.objs.size+1)::a,b]) (PySem.W.InitBack (s.heap.objs.size+1) R)
   {s with heap:=(s.heap.push br).push^ca C s.heap.objs.size}):
  hB (ei prog w) A (.call (.ref C) #[a,b]) R s:=by
 let⟨j,g,d,t,os⟩:=s;exact PySem.W.make_core (PySem.W.makes_of X c) (PySem.W.looks_findIn X e) (λself=>PySem.W.bind_fn X self i) (.inl rfl) h
end
def jN(f:Str)(v:V):List (Str×V)->List (Str×V)
 | []=> [(f,v)]
 | (g,x)::r=>if g=f then(g,v)::r else(g,x)::jN f v r
theorem nQ(f g:fA)(v:V):∀fs:List (fA×V),(jN f v fs).lookup g=if g=f then some v else fs.lookup g
 | []=>by
  show bi g [(f,v)]=_
  by_cases h:g=f
  .have a:(g==f)=true:=ac0.mpr h
   simp only[bi,a,ir h]
  .have a:(g==f)=false:=UV.mpr h
   simp only[bi,a,tz h]
 | (k,x)::r=>by
  have c:=nQ f g v r;rw[show jN f v ((k,x)::r)=(if k=f then(k,v)::r else(k,x)::jN f v r) from rfl]
  by_cases b:k=f
  .rw[ir b]
   by_cases h:g=k
   .have a:(g==k)=true:=ac0.mpr h
    simp only[bi,a,ir^h.trans b]
   .have a:(g==k)=false:=UV.mpr h
    simp only[bi,a,tz^λe:g=f=>h^e.trans b.symm]
  .rw[tz b]
   by_cases h:g=k
   .have a:(g==k)=true:=ac0.mpr h
    simp only[bi,a,tz^λe:g=f=>b^h.symm.trans e]
   .have a:(g==k)=false:=UV.mpr h
    simp only[bi,a];exact c
theorem kP(f:fA)(v:V):∀fs:List (fA×V),f∈(jN f v fs).map (·.1)/\∀g,g∈fs.map (·.1)->g∈(jN f v fs).map (·.1)
 | []=>#[by simp[jN],λg h=>by simp at h]
 | (k,x)::r=>by
  let⟨b,c⟩:=kP f v r;rw[show jN f v ((k,x)::r)=(if k=f then(k,v)::r else(k,x)::jN f v r) from rfl]
  by_cases a:k=f
  .rw[ir a]
   subst a;exact#[by simp,λg h=>h]
  .rw[tz a]
   refine#[?_,λg h=>?_]
   .rw[cH]
    exact fq _ b
   .rw[cH] at h ⊢
    rcases cQ.mp h with e|e
    .exact cQ.mpr^.inl e
    .exact fq _^c g e
theorem nO(f:Str)(v:V):∀fs:List (Str×V),(jN f v fs).length<=fs.length+1
 | []=>by simp[jN]
 | (k,x)::r=>by
  have b:=nO f v r;rw[show jN f v ((k,x)::r)=(if k=f then(k,v)::r else(k,x)::jN f v r) from rfl]
  by_cases a:k=f
  .rw[ir a,dU,dU];lia
  .rw[tz a,dU,dU];lia
def lC.some_of{v:V}{o:Option Value}(r:lC (some v) o):∃u,o\u/\RelV v u:=by
 cases o with
 |none=>exact(show False from r).elim
 |some u=>exact#[u,rfl,r]
def lC.none_of(r:lC none o):o=none:=by
 cases o with
 |none=>rfl
 |some u=>exact(show False from r).elim
def z5{v:V}{u:Value}(r:RelV v u):PySem.W.handedIn u=true:=by
 cases v with
 |aQ=>cases(show u=Value.none from r);rfl
 |bl b=>cases(show u=Value.bool b from r);rfl
 |int i=>obtain⟨t,e⟩:=(show ∃t,u=Value.int i t from r);cases e;rfl
 |str x=>obtain⟨t,e⟩:=(show ∃t,u=Value.str x t from r);cases e;rfl
 |yK b=>obtain⟨t,e⟩:=(show ∃t,u=Value.bytes b t from r);cases e;rfl
 |Jc b=>obtain⟨t,e⟩:=(show ∃t,u=Value.float b t from r);cases e;rfl
 |ref a=>cases(show u=Value.ref a from r);rfl
 |ty n=>cases(show u=Value.type n from r);rfl
section
variable {P:Program} {w:World} {H H':Hp} {h h':Heap} {a C dx:Addr} {fs fs':List (Str×V)}
def uQ(hok:iz P w H h)(e:H a\(.ins C dx fs)):∃b,zw h a dx C b/\(∀f,lC (fs.lookup f)^b f)/\cq b^fs.map (·.1)/\fs.length<=1000/\H dx\(.own a):=by
 let⟨d,z,ne,c,b,n,r,q⟩:=(show cK P w H h a^.ins C dx fs from hok a _ e);exact#[b,#[c,n,ne],r,q,z,d]
end
structure zr (K:ad) (C:Addr):Prop where
 pg:cr K C Str.empty=true
 hd:cb K C=true
 po:df K C=true
 sa:aj K (.ref C) "__setattr__"\(some^.builtin "object.__setattr__")
def zr.get{K:ad}{C:Addr}(c:zr K C)(f:Str):cr K C f=true:=c.pg
def fS(K:ad)(C:Addr)(f:Str):Prop:=aj K (.ref C) f\none
def fS.KI{K:ad}{C:Addr}{f:Str}(n:fS K C f):dL K C f\none:=by
 unfold dL;rw[show aj K (.ref C) f\none from n];rfl
structure Meth (K:ad) (C:Addr) (m:fA) (f:Addr):Prop where
 at_:aj K (.ref C) m\(some^.ref f)
 fn:bu K^.ref f=true
 kp:am K^.ref f=true
section
variable {X:Cx} {pins:List (Addr×Obj)} {σ:St} {H:Hp} {s:Shared} {a C dx:Addr} {fs:List (Str×V)} {f:Str} {v:V} {A:Around} {E:Value->Shared->Prop}
def GP(I:Inv X pins σ H s)(e:H a\(.ins C dx fs))(c:zr X.K C)(n:fS X.K C f)(l:fs.lookup f\v)
  (h:∀u d,Inv X pins σ H d->RelV v u->Q u d):e_ (ei X.prog X.w) A (getAttr (.ref a) f b) Q E s:=by
 let⟨i,O,r,k,m,p⟩:=uQ I.hok e;let⟨u,j,g⟩:=lC.some_of (v:=v) (o:=i f)^by rw[<-l];exact r f
 exact get_map I.fi O (c.get f) c.hd n j (z5 g)^h u _ (I.tok _) g
def yg{pl:l_ Bool}(I:Inv X pins σ H s)(e:H a\(.ins C dx fs))(c:zr X.K C)(k:Meth X.K C m g)(l:fs.lookup m=none)
  (h:Q (.ref g,[.ref a]) s):e_ (ei X.prog X.w) A (ni (.ref a) m pl) Q E s:=by
 let⟨b,O,r,f,i,j⟩:=uQ I.hok e;have d:b m=none:=lC.none_of^by rw[<-l];exact r m
 exact M6 I.fi O (c.get m) k.at_ k.fn d h
def HR(I:Inv X pins σ H s)(e:H a\(.ins C dx fs))(c:zr X.K C)(n:fS X.K C f)(N:fs.length<1000)(m:RelV y u)
  (h:∀i,Inv X pins σ (upd H a^.ins C dx^jN f y fs) i->Q ⟨⟩ i):e_ (ei X.prog X.w) A (setAttr (.ref a) f u) Q E s:=by
 rfl';obtain⟨j,O,r,k,_,l⟩:=uQ I.hok e;have t:(fs.map (·.1)).length<=sizeLine:=by rw[aG,adu];lia
 ac_rfl;refine Sk I.fi O c.sa c.po n.KI c.hd k t λB d F=>h _ ?_;have G:∃o,B.get? dx\o:=let #[o,_,_,J,_]:=d.ns;#[o,J];refine I.write (x:=a) (e:=dx) (by rw[e];exact True.intro) (.inr l) (λb q L z=>(F.2 b L).trans z) G ?_
 refine#[by rw[ag O.ne];exact l,?_,O.ne,d.obj,_,d.ns,λg=>?_,λg M=>?_]
 .have:=nO f y fs;lia
 .show lC ((jN f y fs).lookup g)^if g=f then some u else j g
  rw[nQ]
  by_cases q:g=f
  .rw[ir q,ir q];exact m
  .rw[tz q,tz q];exact r g
 .by_cases q:g=f
  .rw[q];exact(kP f y fs).1
  .refine(kP f y fs).2 g (k g λz=>M ?_)
   show(if g=f then some u else j g)=none;rw[tz q];exact z
def Inv.made(I:Inv X pins σ H s):Inv X pins σ (upd (upd H s.heap.objs.size^.own (s.heap.objs.size+1)) (s.heap.objs.size+1)^.ins C s.heap.objs.size [])
  {s with heap:=(s.heap.push br).push^ca C s.heap.objs.size}:=by
 have c:(s.heap.push br).get? s.heap.objs.size\br:=GT s.heap rfl
 have d:((s.heap.push br).push^ca C s.heap.objs.size).get? (s.heap.objs.size+1)\(ca C s.heap.objs.size):=by
  have:=GT (s.heap.push br) (o:=ca C s.heap.objs.size) rfl
  rwa [adD] at this
 have g:(s.heap.push br).Ns s.heap.objs.size (λ_=>none):=#[br, #[],_,c,rfl,(λe h=>absurd h^by simp),λ_=>rfl]
 have i:=I.laid (a:=s.heap.objs.size) (o:= .own (s.heap.objs.size+1)) (h':=s.heap.push br) (t':=s.toks) (λb u q=>AC _ q) (bg _) #[_,c];refine i.laid (a:=s.heap.objs.size+1) (o:= .ins C s.heap.objs.size []) (t':=s.toks) (λb u q=>AC _ q) (afw^adD _ _) ?_;have ne:s.heap.objs.size≠s.heap.objs.size+1:=bS^aeV _;refine#[by rw[ag ne,af],eE _,ne,d,λ_=>none,(Heap.Ns1.of_empty g).at λo q=>AC _ q,λ_=>True.intro,λy j=>absurd rfl j]
def Gg{f:fA}{s:c_}(c:hT e f env^gi e env=gi e env)
  (h:e_ (ei prog w) A (gi e env) (λo b=>e_ (ei prog w) A (getAttr o f true) Q E b) E s):e_ (ei prog w) A (gi (.Attribute e f pos) env) Q E s:=
 Attribute_any_ h^by rw[arm_eval_Attribute,c]
end
def ab4(K:ad)(c:TE)(f:Str):TE:=λd H Q=>c d H λx b=>∃a C e fs v,x= .ref a/\b a\(.ins C e fs)/\zr K C/\fS K C f/\fs.lookup f\v/\Q v b
def abV(K:ad)(e g:TE)(f:fA):TS:=λD b H=>g b H λy h=>e b h λx c=>∃a C d fs,x= .ref a/\c a\(.ins C d fs)/\zr K C/\fS K C f/\fs.length<1000/\
 D.nx b^upd c a^.ins C d^jN f y fs
section
variable {X:Cx} {o e value:Expr} {f:Str} {pos pos' DU:Pos} {ta tv:TE}
def U5(d:PE X e ta)(g:hT e f X.env^gi e X.env=gi e X.env):PE X (.Attribute e f pos)^ab4 X.K ta f:=by
 intro b s i H Q I h;refine Gg g (thn (d b s i H _ I h) λu A j=>?_);rfl';let⟨x,m,p,r,a,C,E,fs,v,t,w,c,n,l,q⟩:=j;ac_rfl;subst t;obtain rfl:u=Value.ref a:=r;exact GP p w c n l λF G y z=>#[v,m,y,z,q]
def Vf(g:PE X o ta)(i:PE X value tv)(j:g_ value (some^.Attribute o f pos') pos.line X.env=pure false):PS X (.Assign [.Attribute o f pos'] value pos)^abV X.K ta tv f:=by
 intro b s d H D I h;refine ad7 (thn (i b s d H _ I h) λu k hH=>?_) j;obtain⟨y,m,p,r,q⟩:=hH;refine thn (g b k d m _ p q) λt F hH=>?_;obtain⟨x,G,v,w,a,C,J,fs,z,A,c,n,l,B⟩:=hH;subst z;obtain rfl:t=Value.ref a:=w;exact HR v A c n l r λL E=>#[d,_,E,B]
end
section
variable {X:Cx} {pins:List (Addr×Obj)} {σ:St} {H:Hp} {s:Shared} {A:Around} {E:Value->Shared->Prop} {Q:Value->Shared->Prop} {c:Value} {b:Bool}
inductive lD (K:ad) (H:Hp):V->b_->Prop where
 |aQ:lD K H .aQ^.type "NoneType"
 |bl (x:Bool):lD K H (.bl x)^.type "bool"
 |int (i:Int):lD K H (.int i)^.type "int"
 |str (x:fA):lD K H (.str x)^.type "str"
 |Jc (x:UInt64):lD K H (.Jc x)^.type "float"
 |lst {a:Addr} {xs:List V} (e:H a\(.lst xs)):lD K H (.ref a)^.type "list"
 |sY {a:Addr} {o:Obj} {xs:List V} (e:H a\(.sY o^.lst xs)):lD K H (.ref a)^.type "list"
 |tup {a:Addr} {xs:List V} (e:H a\(.tup xs)):lD K H (.ref a)^.type "tuple"
 |dK {a:Addr} {fK:List (Key×V)} (e:H a\(.dK fK)):lD K H (.ref a)^.type "dict"
 |dT {a:Addr} {fK:List (List Key×V)} (e:H a\(.dT fK)):lD K H (.ref a)^.type "dict"
 |ins {a C dx:Addr} {fs:List (fA×V)} (e:H a\(.ins C dx fs)) (cl:zr K C) (ha:aj K (.ref C) "__class__"\(some^.builtin "object.__class__"))
   (hn:bj K (.builtin "object.__class__") "__get__"\(some^.builtin "getset_descriptor.__get__")) (htk:dG K^.builtin "object.__class__"\true)
   (hm:cm K C^.type "object"\true):lD K H (.ref a)^.ref C
def JK{x:V}{u t:b_}(I:Inv X pins σ H s)(rx:RelV x u)(ty:lD X.K H x t)(e:c4 X.K t c\b)(h:∀tk,Q (.bool b) {s with toks:=tk}):
  e_ (ei X.prog X.w) A (call (.builtin "isinstance") [u,c]) Q E s:=by
 cases ty with
 |aQ=>cases(show u=Value.none from rx);exact PySem.W.kia_one PySem.W.kitx_none I.fi True.intro e (λz=>nomatch z) h
 |bl y=>cases(show u=Value.bool y from rx);exact PySem.W.kia_one PySem.W.kitx_bool I.fi True.intro e (λz=>nomatch z) h
 |int i=>let⟨t,q⟩:=(show ∃t,u=Value.int i t from rx);cases q;exact PySem.W.kia_one PySem.W.kitx_int I.fi True.intro e (λz=>nomatch z) h
 |str y=>let⟨t,q⟩:=(show ∃t,u=Value.str y t from rx);cases q;exact PySem.W.kia_one PySem.W.kitx_str I.fi True.intro e (λz=>nomatch z) h
 |Jc y=>let⟨t,q⟩:=(show ∃t,u=Value.float y t from rx);cases q;exact PySem.W.kia_one PySem.W.kitx_float I.fi True.intro e (λz=>nomatch z) h
 | @lst a xs ea=>
  cases(show u=Value.ref a from rx);let⟨d,f,n,g,h1⟩:=(show cK X.prog X.w H s.heap a^.lst xs from I.hok a _ ea);exact PySem.W.kia_one PySem.W.kitx_list I.fi #[_,h1,rfl] e (λz=>nomatch z) h
 | @sY a ob xs ea=>
  cases(show u=Value.ref a from rx);let⟨d,f,g,n,j,h1⟩:=(show cK X.prog X.w H s.heap a^.sY ob^.lst xs from I.hok a _ ea);exact PySem.W.kia_one PySem.W.kitx_list I.fi #[_,h1,rfl] e (λz=>nomatch z) h
 | @tup a xs ea=>
  cases(show u=Value.ref a from rx);let⟨d,f,g,p⟩:=(show cK X.prog X.w H s.heap a^.tup xs from I.hok a _ ea);let⟨o,h1,h2,d⟩:=p;exact PySem.W.kia_one PySem.W.kitx_tuple I.fi #[o,h1,h2] e (λz=>nomatch z) h
 | @dK a fK ea=>
  cases(show u=Value.ref a from rx);let⟨d,f,vs,g,p⟩:=(show cK X.prog X.w H s.heap a^.dK fK from I.hok a _ ea);let⟨o,es,ep,h1,h2,d⟩:=p;exact PySem.W.kia_one PySem.W.kitx_dict I.fi #[o,h1,h2.1] e (λz=>nomatch z) h
 | @dT a fK ea=>
  cases(show u=Value.ref a from rx);let⟨d,f,xs,g,o,es,ep,h1,h2,j⟩:=(show cK X.prog X.w H s.heap a^.dT fK from I.hok a _ ea);exact PySem.W.kia_one PySem.W.kitx_dict I.fi #[o,h1,h2.1] e (λz=>nomatch z) h
 | @ins a C dx fs ea cl ha hn htk hm=>
  rfl';cases(show u=Value.ref a from rx);let⟨mA,O,d⟩:=uQ I.hok ea;let⟨od,J,d⟩:=O.look;ac_rfl;exact PySem.W.kia_one (PySem.W.kitx_own (cl.get _) cl.hd ha hn htk hm) I.fi J e (λz=>nomatch z) h
end
structure bP (k:Nat) (A:Around):Prop where
 hd:A.handled=none
 dp:A.depth+3*k+5<recursionLimit
 un:A.units+16*k+200<cLine
def bP.mono(r:bP k A)(h:j<=k):bP j A:=#[r.hd,by have:=r.dp;lia,by have:=r.un;lia]
theorem bP.deeper(r:bP (k+1) A)(env:oy):bP k^A.deeper env:=
 #[r.hd,by have:=r.dp;show A.depth+1+3*k+5<_;lia,by have:=r.un;show A.units+3+16*k+200<_;lia]
def Hr{A:gs}:(A.under^.builtin "type.__call__" #[.ref C::a,b]).depth=A.depth+1:=by
 first|rfl|simp[Around.under,Code.weight,Code.isCreation,Code.isGuard,Code.isCaller,Code.frames,Code.isFrame,guardIds]
def Hs{A:gs}:(A.under^.builtin "type.__call__" #[.ref C::a,b]).units=A.units+1:=by
 first|rfl|simp[Around.under,Code.cUnits,Code.frames,Code.isFrame]
def bP.make(r:bP (k+1) A)(C:Addr)(a:List b_)(b:List (fA×b_)):bP k^A.under^.builtin "type.__call__" #[.ref C::a,b]:=
 #[r.hd,by have:=r.dp;rw[Hr];lia,by have:=r.un;rw[Hs];lia]
theorem bP.depth{k:Nat}(r:bP k A):A.depth<recursionLimit:=by have:=r.dp;lia
theorem bP.units{k:Nat}(r:bP k A):A.units+64<cLine:=by have:=r.un;lia
def WW:TA:=λ_ H Q=>Q [] H
def ZR(b:TE)(tr:TA):TA:=λa H Q=>b a H λx c=>tr a c λd e=>Q (x::d) e
section
variable {X:Cx} {e:Expr} {es:List Expr} {te:TE} {t:TA} {pos:Pos}
def aA:PA X [] WW:=λ_ _ _ _ H Q I h=>aeJ #[[],H,I, .nil,h]
def ao(c:PE X e te)(d:PA X es t)(f:d_ (e::es) X.env=(false,gi e X.env)::d_ es X.env<|>zn):PA X (e::es)^ZR te t:=by
 intro pos a s b H Q I h;rw[f];show e_ _ _ (spliced ((false,gi e X.env)::gM pos^d_ es X.env)) _ _ s;refine aez (thn (c a s b H _ I h) λu g i=>?_);rfl';let⟨x,k,l,m,n⟩:=i;ac_rfl;refine thn (d pos a g b k _ l n) λy z hH=>?_;obtain⟨o,p,q,r,v⟩:=hH;exact #[x::o,p,q, .cons m r,v]
def acb(t:TA):TE:=λc H Q=>t c H λa b=>a.length<=sizeLine/\∀p,b p=none->Q (.ref p)^upd b p^.tup a
def ab7(t:TA):TE:=λc H Q=>t c H λa b=>a.length<=sizeLine/\∀p,b p=none->Q (.ref p)^upd b p^.lst a
def uZ{x1}(h:PA X es t):PE X (.Tuple es x1 pos)^acb t:=by
 intro a s g H Q I i;refine wpAny_Tuple_spliced (thn (h pos a s g H _ I i) λj c hH=>?_);obtain⟨k,d,f,r,z,q⟩:=hH;refine #[r.length▸z,?_];have l:d c.heap.objs.size=none:=f.hok.fresh^bg _;refine#[.ref c.heap.objs.size,upd d c.heap.objs.size^.tup k,f.laid (t':=c.toks) (λb u e=>AC _ e) (bg _) ?_,rfl,q _ l];exact#[z,j,r,#[_,GT _ rfl,rfl,_,rfl]]
def fU(h:PA X es t):PE X (.List es pos)^ab7 t:=by
 intro a s g H Q I i;refine wpAny_List_spliced (thn (h pos a s g H _ I i) λj c hH=>?_);obtain⟨k,d,f,r,z,q⟩:=hH;refine #[r.length▸z,?_];have l:d c.heap.objs.size=none:=f.hok.fresh^bg _;refine#[.ref c.heap.objs.size,upd d c.heap.objs.size^.lst k,f.laid (t':=c.toks) (λb u e=>AC _ e) (bg _) ?_,rfl,q _ l];exact#[z,j,0,r,GT _ rfl]
end
abbrev Sp:=List V->Hp->VK->XK->Prop
abbrev rF:=List Env->Hp->Shared->XK->Value->Shared->Prop
structure Env0 (P:Program) (w:World) (K:ad) (mg:Str->Option Value) (base:Heap) (A:Around) (outer:List Env) (s:Shared) (H:Hp):Prop where
 frames:A.frames\outer
 mod:Mod K mg base
 bs:∀b o,base.get? b\o->s.heap.get? b\o/\H b=none
 bsz:base.objs.size<=s.heap.objs.size
 funs:s.heap.FunFrames base outer
 frf:∀b∈uI outer,H b=none
 hok:iz P w H s.heap
 bare:AllBare s.gens
def CE(outer:List Env)(P:Program)(w:World)(H:Hp)(s:Shared)(Q:VK)(u:Value)(a:Shared):Prop:=
 ∃v b,a.os=s.os/\AllBare a.gens/\Un (uI outer) [] H b s.heap a.heap/\iz P w b a.heap/\RelV v u/\Q v b
def CR(b:rF)(outer:List oy)(P:fw)(w:f5)(H:Hp)(s:c_)(Q:VK)(E:XK)(r:ny)(a:c_):Prop:=
 match r with
 | .ok^.ret u=>CE outer P w H s Q u a
 | .ok _=>False
 | .error e=>b outer H s E e a
structure FnOk (P:fw) (w:f5) (K:ad) (mg:fA->Option b_) (base:Heap) (CX:rF) (k:Nat) (f:Addr) (fd:hH) (ps:List fA) (sp:Sp):Prop where
 len:∀vs H Q E,sp vs H Q E->vs.length=ps.length
 run:∀(A:gs)(outer:List oy)(s:c_)(H:Hp)(args:Args)(us:List b_)(vs:List V)(Q:VK)(E:XK),bP k A->Env0 P w K mg base A outer s H->BindsTo s fd args^ps.zip us->Vals vs us->sp vs H Q E->
  hB (ei P w) A (.call (.ref f) args) (CR CX outer P w H s Q E) s
theorem FnOk.mono{P:fw}{w:f5}{K:ad}{b:fA->Option b_}{base:Heap}(F:FnOk P w K b base c j f d ps e)(h:j<=k):
  FnOk P w K b base c k f d ps e:=#[F.len,λA outer s H a g i Q E l=>F.run A outer s H a g i Q E^l.mono h]
def FnOk.imp{P:fw}{w:f5}{K:ad}{d:fA->Option b_}{base:Heap}{f:Addr}{i b:Sp}(F:FnOk P w K d base e k f g ps i)
  (h:∀a H Q E,b a H Q E->i a H Q E):FnOk P w K d base e k f g ps b:=
 #[λa H Q E q=>F.len a H Q E^h _ _ _ _ q,λA outer s H c j a Q E l m n o p=>F.run A outer s H c j a Q E l m n o^h _ _ _ _ p]
def Env0.make{P:fw}{w:f5}{K:ad}{a:fA->Option b_}{base:Heap}{A:gs}{outer:List oy}{s:c_}{H:Hp}(e:Env0 P w K a base A outer s H)(C:Addr)(b:List b_)(c:List (fA×b_)):
  Env0 P w K a base (A.under^.builtin "type.__call__" #[.ref C::b,c]) outer s H:=#[by first|exact e.frames| (simpa [Around.under,Code.envs,Code.isFrame,pushEnvs] using e.frames),e.mod,e.bs,e.bsz,e.funs,e.frf,e.hok,e.bare]
section
variable {X:Cx} {pins:List (Addr×Obj)} {σ:St} {H:Hp} {s s':Shared}
def Inv.Lw(I:Inv X pins σ H s):Env0 X.prog X.w X.K X.mg X.base X.A X.stack s H:=
 #[I.ok.frames,I.ok.mod,I.bs,iT I.ok.bsz I.sz,I.stack,I.Bl,I.hok,I.bare]
def Inv.after(I:Inv X pins σ H s)(h:CE X.stack X.prog X.w H s Q u s'):EP X pins σ Q u s':=by
 let⟨v,c,os,bare,un,hok,r,q⟩:=h;let⟨e,g,d,t,a⟩:=s';obtain rfl:a=s.os:=os;exact#[v,c,I.call (h':=e) (g':=g) (d':=d) (t':=t) (ch:= []) un hok bare^λb z=>absurd z^by simp,r,q]
end
def ZP(a:Sp)(b:List V)(E:XK)(t:TA):TE:=λc H Q=>t c H λd e=>a (d++b) e Q E
def KG(C:Addr)(m:Str)(d:Sp)(e:List V)(E:XK)(f:TE)(t:TA):TE:=λb H Q=>f b H λx c=>∃a g fs,x= .ref a/\c a\(.ins C g fs)/\fs.lookup m=none/\
 t b c λh i=>d (x::(h++e)) i Q E
def ZV(C:Addr)(c:Sp)(d:List V)(E:XK)(t:TA):TE:=λe H Q=>t e H λf b=>∀x a,b x=none->b a=none->a≠x->
 c (.ref x::(f++d)) (upd (upd b a^.own x) x^.ins C a []) (λv g=>v= .aQ/\Q (.ref x) g) E
def Binds(K:ad)(d:hH)(b:List fA)(c:List b_):Prop:=
 ∀(s:c_)(a:List b_),K.In s.heap->(a++c).length=b.length->BindsTo s d #[a,[]]^b.zip (a++c)
def Binds.all{K:ad}{c:hH}{b:List fA}(h:∀a:List b_,a.length=b.length->nC c #[a,[]]=pure^b.zip a):Binds K c b []:=λs a _ d=>by
 rw[e8] at d ⊢;exact .of_eq^h a d
def Passes(c:rF)(X:Cx)(E:XK):Prop:=∀(a:List (Addr×Obj))(d:St)(H:Hp)(s:Shared)(e:Value)(b:Shared),Inv X a d H s->c X.stack H s E e b->X.xe e b
section
variable {X:Cx} {CX:rF} {k:Nat} {f C:Addr} {fd:FuncData} {ps:List Str} {sp:Sp} {bD:List V} {ds:List Value} {E:XK} {x m:Str} {p pos apos:Pos} {e o:Expr} {es:List Expr} {ta:TE} {t:TA}
theorem Fm{pins:List (Addr×Obj)}{σ:St}{H:Hp}{s:Shared}{Q:VK}{us:List Value}{vs:List V}(F:FnOk X.prog X.w X.K X.mg X.base CX k f fd ps sp)(hr:bP k X.A)(hb:Binds X.K fd ps ds)(hd:Vals bD ds)(hx:Passes CX X E)
  (I:Inv X pins σ H s) (r:Vals vs us) (h:sp (vs++bD) H Q E):wpAny (model X.prog X.w) X.A (call (.ref f) us) (EP X pins σ Q) X.xe s:=by
 have r2:Vals (vs++bD) (us++ds):=r.append hd;have hl:(us++ds).length=ps.length:=by rw[<-r2.length];exact F.len _ _ _ _ h
 refine wpAny_call (codeAny_mono (F.run X.A X.stack s H #[us,[]] (us++ds) (vs++bD) Q E hr I.Lw (hb s us I.fi hl) r2 h) λr s' hq=>?_);cases r with
 |error e=>exact hx pins σ H s e s' I hq
 |ok fl=>
  cases fl with
  |ret u=>exact I.after hq
  |next=>exact False.elim hq
  |brk=>exact False.elim hq
  |cont=>exact False.elim hq
def bq(F:FnOk X.prog X.w X.K X.mg X.base CX k f fd ps sp)(c:bP k X.A)(d:Gl X x)(g:X.mg x\(.ref f))(i:am X.K^.ref f=true)(j:Binds X.K fd ps ds)(l:Vals bD ds)(n:Passes CX X E)
  (u:PA X (e::es) t) (v:(x==("__debug__":fA))=false<|>zm) (y:d_ (e::es) X.env=(false,gi e X.env)::d_ es X.env<|>zn) (z:(gM pos^d_ es X.env).any (·.1)=false<|>zn):
  PE X (.Call (.Name x p) (e::es) [] pos)^ZP sp bD E t:=by
 intro a s B H Q I h;refine W1^jK I d g ?_ v;refine adn (h₀:=X.base) I.ok.mod.kin i (thn (u pos a s B H _ I h) λG J hH=>?_) y z;obtain⟨L,M,b,r,q⟩:=hH;refine #[b.fi,?_];exact Fm F c j l n b r q
def RA{pl:l_ Bool}(v:PE X o ta)(c:zr X.K C)(d:Meth X.K C m f)(F:FnOk X.prog X.w X.K X.mg X.base CX k f fd ps sp)(y:bP k X.A)(z:Binds X.K fd ps ds)(B:Vals bD ds)(G:Passes CX X E)(J:PA X (e::es) t)
  (L:d_ (e::es) X.env=(false,gi e X.env)::d_ es X.env<|>zn) (M:(gM pos^d_ es X.env).any (·.1)=false<|>zn)
  (N:gi (.Call (.Attribute o m apos) (e::es) [] pos) X.env=(do
   let g <-gi o X.env
   jo apos.atName
   let (f,first) <-io [g] (ni g m pl)
   callWith pos f first (gM pos^d_ (e::es) X.env)^js pos^iq [] X.env)<|>zn):
  PE X (.Call (.Attribute o m apos) (e::es) [] pos)^KG C m sp bD E ta t:=by
 intro b s i H Q I h;refine ad2 (pl:=pl) (thn (v b s i H _ I h) λu O hH=>?_) N;obtain⟨x,P,j,R,a,Z,fs,S,T,l,q⟩:=hH;subst S;obtain rfl:u=Value.ref a:=R;refine yg j T c d l ?_;refine adn (first:= [.ref a]) (h₀:=X.base) I.ok.mod.kin d.kp (thn (J pos b O i P _ j q) λus p hH=>?_) L M;obtain⟨vs,H2,n,r,Y⟩:=hH;refine #[n.fi,?_];exact Fm (us:= .ref a::us) (vs:= .ref a::vs) F y z B G n (.cons rfl r) Y
def NQ{pl:l_ Bool}(j:PE X o ta)(c:zr X.K C)(g:Meth X.K C m f)(F:FnOk X.prog X.w X.K X.mg X.base CX k f fd ps sp)(n:bP k X.A)(r:Binds X.K fd ps ds)(v:Vals bD ds)(y:Passes CX X E)
  (z:gi (.Call (.Attribute o m apos) [] [] pos) X.env=(do
   let i <-gi o X.env
   jo apos.atName
   let (f,first) <-io [i] (ni i m pl)
   callWith pos f first (gM pos^d_ [] X.env)^js pos^iq [] X.env)<|>zn):
  PE X (.Call (.Attribute o m apos) [] [] pos)^KG C m sp bD E ta WW:=by
 intro b s B H Q I h;refine ad2 (pl:=pl) (thn (j b s B H _ I h) λu M hH=>?_) z;obtain⟨x,N,d,G,a,O,fs,J,L,l,q⟩:=hH;subst J;obtain rfl:u=Value.ref a:=G;refine yg d L c g l ?_;exact PySem.W.callWith_K0 (first:= [.ref a]) d.fi g.kp^Fm (us:= [.ref a]) (vs:= [.ref a]) F n r v y d (.cons rfl .nil) q
structure Mk (K:ad) (C f:Addr):Prop where
 makes:d3 K C=true
 init:aj K (.ref C) "__init__"\(some^.ref f)
 fn:bu K^.ref f=true
 kp:am K^.ref C=true
theorem N8{pins:List (Addr×Obj)}{σ:St}{H:Hp}{s:c_}{Q:VK}{us:List b_}{vs:List V}(M:Mk X.K C f)(F:FnOk X.prog X.w X.K X.mg X.base CX k f fd ps sp)(hr:bP (k+1) X.A)(hb:Binds X.K fd ps ds)(hd:Vals bD ds)
  (hx:Passes CX X E) (I:Inv X pins σ H s) (r:Vals vs us)
  (h:∀x dx,H x=none->H dx=none->dx≠x->sp (.ref x::(vs++bD)) (upd (upd H dx^.own x) x^.ins C dx []) (λv H2=>v= .aQ/\Q (.ref x) H2) E):
  e_ (ei X.prog X.w) X.A (call (.ref C) us) (EP X pins σ Q) X.xe s:=by
 have hq:=h (s.heap.objs.size+1) s.heap.objs.size (I.hok.fresh^oW _) (I.hok.fresh^bg _)^bS^Nat.lt_succ_self _;have I2:=Inv.made (C:=C) I;have r2:Vals (V.ref (s.heap.objs.size+1)::(vs++bD)) (Value.ref (s.heap.objs.size+1)::(us++ds)):= .cons rfl^r.append hd
 have hl:(Value.ref (s.heap.objs.size+1)::us++ds).length=ps.length:=by
  have e:=r2.length;rw[F.len _ _ _ _ hq] at e;exact e.symm
 refine la^NA (f:=f) I.fi M.makes M.init (beq_iff_eq.mp M.fn) (mv (F.run _ X.stack _ _ #[Value.ref (s.heap.objs.size+1)::us,[]] (Value.ref (s.heap.objs.size+1)::(us++ds)) _ _ E (hr.make C us [])
  (I2.Lw.make C us []) (hb _ (Value.ref (s.heap.objs.size+1)::us) I2.fi hl) r2 hq) λr s' Af=>?_)
 cases r with
 |error e=>exact hx pins σ _ _ e s' I2 Af
 |ok fl=>
  cases fl with
  |ret u=>
   rfl';let⟨v,H',I3,rv,ev,q3⟩:=I2.after Af;subst ev;ac_rfl;exact#[rv,#[V.ref (s.heap.objs.size+1),H',I3,rfl,q3]]
  |next=>exact False.elim Af
  |brk=>exact False.elim Af
  |cont=>exact False.elim Af
def Rz(M:Mk X.K C f)(F:FnOk X.prog X.w X.K X.mg X.base CX k f fd ps sp)(c:bP (k+1) X.A)(d:Gl X x)(g:X.mg x\(.ref C))(i:Binds X.K fd ps ds)(j:Vals bD ds)(l:Passes CX X E)
  (n:PA X (e::es) t) (u:(x==("__debug__":fA))=false<|>zm) (v:d_ (e::es) X.env=(false,gi e X.env)::d_ es X.env<|>zn) (y:(gM pos^d_ es X.env).any (·.1)=false<|>zn):
  PE X (.Call (.Name x p) (e::es) [] pos)^ZV C sp bD E t:=by
 intro a s z H Q I h;refine W1^jK I d g ?_ u;refine adn (h₀:=X.base) I.ok.mod.kin M.kp (thn (n pos a s z H _ I h) λB G hH=>?_) v y;obtain⟨J,L,b,r,q⟩:=hH;refine #[b.fi,?_];exact N8 M F c i j l b r q
end
section
variable {X:Cx} {CX:rF} {k:Nat} {f C:Addr} {fd:FuncData} {ps ks:List Str} {sp:Sp} {E:XK} {x m:Str} {p pos apos acE:Pos} {e o:Expr} {es:List Expr} {kws:List Keyword} {te ta:TE} {t tk:TA} {nm:Option Str}
variable {g:List Value->List Value->List Value} {gV:List V->List V->List V}
end
structure aE (N P:List Str) (sc:Scope):Prop where
 kind:sc.kind= .function
 co:sc.isCoroutine=false
 gen:sc.isGenerator=false
 nd:N.Nodup
 pre:N.take P.length=P
 par:∀x∈P,sc.names.lookup x\.local\/sc.names.lookup x\.cell
 nofree:∀y∈sc.names,y.2≠ .free
theorem zG{kindOf:fA->Option jI}{x:fA}:∀{binds:List (fA×b_)}{m:fA->Option b_},(∀v,(x,v)∉binds)->bindL kindOf binds m x=m x
 | [],_,_=>rfl
 | (n,v)::r,m,h=>by
  unfold bindL;rw[zG λw hw=>h w^fq _ hw]
  split
  .have:x≠n:=by rintro rfl;exact h v dH
   simp[this]
  .rfl
theorem zD{kindOf:fA->Option jI}{x:fA}:∀{binds:List (fA×b_)}{m:fA->Option b_},(∀v,(x,v)∉binds)->bindC kindOf binds m x=m x
 | [],_,_=>rfl
 | (n,v)::r,m,h=>by
  unfold bindC;rw[zD λw hw=>h w^fq _ hw]
  split
  .rfl
  .have:x≠n:=by rintro rfl;exact h v dH
   simp[this]
theorem zF{kindOf:Str->Option NameKind}{x:Str}{v:Value}:∀{P:List Str}{a:List Value}{i:Nat}{m:Str->Option Value},P.Nodup->P[i]?\x->a[i]?\v->kindOf x\.local->
  bindL kindOf (P.zip a) m x\v
 | [],_,_,_,_,h,_,_=>by simp at h
 |_::_,[],_,_,_,_,h,_=>by simp at h
 |p::P,w::a,0,m,d,b,c,e=>by
  simp at b c;subst b;subst c;show bindL kindOf ((p,w)::P.zip a) m p=_;unfold bindL;rw[zG λv f=>(wk.mp d).1 (afb f).1,ir e];simp
 |p::P,w::a,i+1,m,d,b,c,e=>by
  show bindL kindOf ((p,w)::P.zip a) m x=_;unfold bindL;exact zF (i:=i) (wk.mp d).2 (~~~b) (~~~c) e
theorem zC{kindOf:Str->Option NameKind}{x:Str}{v:Value}:∀{P:List Str}{a:List Value}{i:Nat}{m:Str->Option Value},P.Nodup->P[i]?\x->a[i]?\v->kindOf x≠some .local->
  bindC kindOf (P.zip a) m x\v
 | [],_,_,_,_,h,_,_=>by simp at h
 |_::_,[],_,_,_,_,h,_=>by simp at h
 |p::P,w::a,0,m,d,b,c,e=>by
  simp at b c;subst b;subst c;show bindC kindOf ((p,w)::P.zip a) m p=_;unfold bindC;rw[zD λv f=>(wk.mp d).1 (afb f).1,tz e];simp
 |p::P,w::a,i+1,m,d,b,c,e=>by
  show bindC kindOf ((p,w)::P.zip a) m x=_;unfold bindC;exact zC (i:=i) (wk.mp d).2 (~~~b) (~~~c) e
def start(N:List Str)(a:List V):St:=a.map some++b5 (N.length-a.length) none
def j5(g:rF)(P:fw)(w:f5)(K:ad)(mg:fA->Option b_)(base:Heap)(N:List fA)(b:fA)(a:Scope)(f:Addr)(c:b_)(A:gs)(outer:List oy)(s:c_)(H:Hp)(E:XK):Cx where
 prog:=P
 w:=w
 K:=K
 mg:=mg
 base:=base
 A:=A.deeper (lc b a s.heap.objs.size f c)
 N:=N
 s₀:=s
 H₀:=H
 env:=lc b a s.heap.objs.size f c
 outer:=outer
 stack:=lc b a s.heap.objs.size f c::outer
 ex:= []
 calm:=true
 fn:=λ_=>true
 pn:= []
 xe:=λe h=>e_ (ei P w) (A.deeper^lc b a s.heap.objs.size f c) (leaving (lc b a s.heap.objs.size f c) e) (λ_ d=>g outer H s E e d) (λi d=>g outer H s E i d) h
def CF{a:Scope}{n:Nat}(h:a.names.lookup x\.cell):∃c,(cellsFrom n a.names []).lookup x\c:=by
 have q:=aff a.names n []^.inl h;exact Option.isSome_iff_exists.mp q
theorem JH{O:rF}{P:fw}{w:f5}{K:ad}{J:fA->Option b_}{base:Heap}{N m:List fA}{g:fA}{d:Scope}{f:Addr}{F:b_}{A:gs}{outer:List oy}{s Q:c_}{H:Hp}{E:XK}{L:List b_}{o:List V}
  (S:aE N m d) (X:A.handled=none) (l:Env0 P w K J base A outer s H) (hl:o.length=m.length) (r:Vals o L)
  (x:InCallC s s.heap.objs.size (bindL (lc g d s.heap.objs.size f F).kindOf (m.zip L) λ_=>none) (cellsFrom (s.heap.objs.size+1) d.names []) (bindC (lc g d s.heap.objs.size f F).kindOf (m.zip L) λ_=>none) Q):
  Inv (j5 O P w K J base N g d f F A outer s H E) [] (start N o) H Q:=by
 have bX:m.length<=N.length:=by have:=KM da S.pre;rw[iS] at this;lia
 let⟨G,tk,rfl,R⟩:=x.done;have M:∀b:Addr,b∉(j5 O P w K J base N g d f F A outer s H E).ex:=λb z=>absurd (show b∈([]:List Addr) from z)^by simp
 refine#[#[l.mod,S.kind,rfl,rfl,bg _,λy z c G j=>?_,λy t=>?_,λy c _ h=>?_,λ_=>X,Around.frames_deeper l.frames, .inr #[rfl,rfl],λb z=>absurd z^M b,l.bs,l.bsz,λb _ _=>M b,λb z=>absurd z^M b,l.funs,l.frf],
  rfl,l.bare,Un.kept R,#[_,x.toInCall.ns,λi y v G j h3=>?_],λy c h=>#[_,x.cell y c h],l.hok.fresh^bg _,λy c h=>?_,λp B=>absurd (show p∈([]:List (Addr×Obj)) from B)^by simp,l.hok.kept R,?_]
 .exact name_of_addr x.apart (ac6 G)^ac6 j
 .have t:d.names.lookup y\.cell\/d.names.lookup y\.free:=t
  rcases t with t|t
  .exact CF t
  .exact absurd rfl^S.nofree _^ac6 t
 .exact qL^x.above y c^ac6 h
 .have I:i<o.length:=by
   unfold start at j
   by_cases I:i<o.length
   .exact I
   .rw[iQ^~~~I] at j
    rw[wb] at j
    split at j<;>cases j
  have Y:o[i]?\v:=by
   unfold start at j;rw[gJ^~~~I,dh] at j
   cases e:o[i]? with
   |none=>rw[e] at j;cases j
   |some a=>rw[e] at j;cases j;rfl
  let⟨u,T,Z⟩:=r.get Y
  have B:m[i]?\y:=by
   rw[<-S.pre,FX ()];exact G
  have C:m.Nodup:=by rw[<-S.pre];exact S.nd.sublist^List.take_sublist _ _
  exists u,Z
  rcases S.par y^cL B with k|k
  .exact .inl #[k,zF C B T k]
  .obtain⟨c,e⟩:=CF (n:=s.heap.objs.size+1) k
   refine .inr #[.inl k,c,e,?_];have q:=x.cell y c e;rw[zC C B T^by show d.names.lookup y≠_;rw[k];decide] at q
   exact q
 .exact l.hok.fresh^qL^x.above y c^ac6 h
 .unfold start
  show _=N.length;rw[dg,aG,yD];lia
theorem PQ{B:rF}{P:fw}{w:f5}{K:ad}{C:fA->Option b_}{base:Heap}{k:Nat}{f:Addr}{i c:fA}{d:Arguments}{g:List Stmt}{a:Scope}{X kV p Y l Z oc:b_}{an od:Option Addr}
  {Ff:Array^Option b_} {N F:List fA} {L:Sp} (lk:K.lookup f\#[oc,od, .func^bv i c d g a X kV p Y an l Z,Ff]) (gK:bd K l c=true) (S:aE N F a)
  (len:∀h H Q E,L h H Q E->h.length=F.length)
  (jj:∀(A:gs)(outer:List oy)(s:c_)(H:Hp)(h:List V)(Q:VK)(E:XK),bP k^A.deeper^lc c a s.heap.objs.size f l->L h H Q E->
   ∃t,jT (j5 B P w K C base N c a f l A outer s H E) g t/\t {nx:=λ_ j=>Q .aQ j,rt:=Q} (start N h) H):
  FnOk P w K C base B (k+1) f (bv i c d g a X kV p Y an l Z) F L:=by
 refine#[len,λA outer s H args us h Q E M z hb r Cg=>?_];have hl:=len _ _ _ _ Cg;have KX:K.In s.heap:=z.mod.kin.keeps λb o e=>(z.bs b o e).1;have O:s.heap.NoLimit:=z.mod.nolimit.keeps λb o e=>(z.bs b o e).1
 have YE:∀y∈F.zip us,a.names.lookup y.1\.local\/(a.names.lookup y.1\.cell/\((cellsFrom (s.heap.objs.size+1) a.names []).lookup y.1).isSome=true):=λ#[n,v] hy=>by
  rcases S.par n (afb hy).1 with q|q
  .exact .inl q
  .exact .inr #[q,aff _ _ _^.inl q]
 refine codeAny_call_function M.depth (KX _ _ lk) rfl S.co S.gen rfl (PySem.W.codeRec_of KX gK)^hb _ _ _ _ ?_;refine wpAny_newFunctionEnv_cells S.kind YE λenv he s1 x=>?_;subst he;let⟨t,ht,hq⟩:=jj A outer s H h Q E (M.deeper _) Cg;refine#[O.keeps x.toInCall.keep,codeAny_func ?_];have I:Inv (j5 B P w K C base N c a f l A outer s H E) [] (start N h) H s1:=JH S M.hd z hl r x;refine ip (ht [] s1 (start N h) H _ I hq) (λfl R m=>?_) λe R m=>m
 have fin:∀{G:St}{j:Hp}{v:V}{u:b_},Inv (j5 B P w K C base N c a f l A outer s H E) [] G j R->RelV v u->Q v j->CE outer P w H s Q u R:=
  λ {G j v u} J T q=>#[v,j,J.os,J.bare,J.base,J.hok,T,q]
 cases fl with
 |ret u=>
  let⟨v,G,j,J,T,q⟩:=m;exact fin J T q
 |next=>
  let⟨G,j,J,q⟩:=m;exact fin (v:=V.aQ) (u:=Value.none) J rfl q
 |brk=>
  obtain⟨_,_,_,q⟩:=m;exact False.elim q
 |cont=>
  obtain⟨_,_,_,q⟩:=m;exact False.elim q
section
variable {X:Cx} {x:Str} {p pos:Pos} {e:Expr} {es:List Expr} {t:TA} {id T:String} {r:List V->Hp->VK->Prop}
def tCB(r:List V->Hp->VK->Prop)(t:TA):TE:=λa H Q=>t a H λb c=>r b c Q
theorem eU(c:dX X (.builtin id) r)(d:Gl X x)(f:X.mg x=none)(g:gq x\(.builtin id))(i:PA X (e::es) t)(j:x≠"__name__"<|>zm)(k:(x==("__debug__":fA))=false<|>zm)
  (l:d_ (e::es) X.env=(false,gi e X.env)::d_ es X.env<|>zn) (m:(gM pos^d_ es X.env).any (·.1)=false<|>zn):PE X (.Call (.Name x p) (e::es) [] pos)^tCB r t:=by
 intro a s b H Q I h;refine W1^gS I d f g ?_ j k;refine aec (thn (i pos a s b H _ I h) λn o hH=>?_) l m;obtain⟨q,u,v,w,y⟩:=hH;exact c a o b u q n Q v w y
def AU(c:dX X (.type T) r)(d:Gl X x)(f:X.mg x=none)(g:gq x\(.type T))(i:PA X (e::es) t)(j:x≠"__name__"<|>zm)(k:(x==("__debug__":fA))=false<|>zm)
  (l:d_ (e::es) X.env=(false,gi e X.env)::d_ es X.env<|>zn) (m:(gM pos^d_ es X.env).any (·.1)=false<|>zn):PE X (.Call (.Name x p) (e::es) [] pos)^tCB r t:=by
 intro a s b H Q I h;refine W1^gS I d f g ?_ j k;refine PP (thn (i pos a s b H _ I h) λn o hH=>?_) l m;obtain⟨q,u,v,w,y⟩:=hH;exact c a o b u q n Q v w y
end
end L2
namespace HT
open PySem PyProof.Rows
def lexLt:List Int->List Int->Bool
 | [],[]=>false
 | [],_::_=>true
 |_::_,[]=>false
 |x::a,y::b=>if x=y then lexLt a b else decide (x<y)
def ik(x y:Int)(a b:List Int):lexLt (x::a) (y::b)=if x=y then lexLt a b else decide (x<y):=rfl
def Ap:lexLt [] []=false:=rfl
def yS(y:Int)(a:List Int):lexLt [] (y::a)=true:=rfl
def yR(x:Int)(a:List Int):lexLt (x::a) []=false:=rfl
def MX(A:Around)(s:Shared)(a:Int)(t:Tok)(c:Int)(u:Tok):∃e,SeqAt.EqAt A s (.int a t) (.int c u) e/\(e=true↔a=c):=
 #[(a==c),adz a t c u,by simp]
def N3(A:gs)(s:c_)(a:Int)(t:Tok)(c:Int)(u:Tok)(prog:fw)(w:f5)(E:b_->c_->Prop)(Q:b_->c_->Prop)(h:Q (.bool (decide (a<c))) s):
  e_ (ei prog w) A (richCompare .Lt (.int a t)^.int c u) Q E s:=
 (PyProof.Rows.lt_int h:e_ (ei prog w) A (gj .Lt (.int a t)^.int c u) Q E s)
section
open PySem.SeqAt
open PySem.AutoSeq1 (wpAny_loadPart')
open PySem.MeetsSeq PySem.MeetsSeq2 PySem.MeetsSeq3
end
section
variable {prog:Program} {w:World} {A:Around} {E:Value->Shared->Prop} {s:Shared}
theorem O2(r:IsTup s.heap t c.toArray)(u:IsTup s.heap b a.toArray)(h:c≠ [])
  (v:a= []->Q (.ref t) s) (x:a≠ []->Q (.ref s.heap.objs.size) {s with heap:=s.heap.push {cls:= .type "tuple",data:= .seq (c++a).toArray}})
  (y:c.length+a.length<=sizeLine):e_ (ei prog w) A (i_ .Add (.ref t)^.ref b) Q E s:=by
 rfl';obtain⟨⟨cls,i,data,j⟩,f,k,n,l⟩:=id r;obtain⟨⟨B,m,data2,o⟩,g,p,q,d⟩:=id u;ac_rfl;simp only at k l p d;subst k l p d;have e:c.toArray++a.toArray=(c++a).toArray:=by simp
 by_cases hw:a= []
 .exact concat_meets #[_,f,rfl] #[_,g,rfl] noFill_tuple_add seq_tuple_add afg ae9 (aeW _ _)
   (tuple_addW1 t b c.toArray a.toArray n q i m j o (~~~h)^by simp[hw]) #[f,g,v hw]
 .refine concat_meets #[_,f,rfl] #[_,g,rfl] noFill_tuple_add seq_tuple_add afg ae9 (aeW _ _)
   (tuple_addW2 t b c.toArray a.toArray n q i m j o (~~~h) (~~~hw)^by rw[cn,cn];exact y) #[f,g,?_]
  rw[e];exact x hw
def b7(n d:Nat):Option Int->Nat
 |none=>d
 |some v=>if v<0 then(v+(n:Int)).toNat else min v.toNat n
def DL(n d:Nat):b7 n d none=d:=rfl
def HM(n d k:Nat):b7 n d^some (k:Int)=min k n:=by
 show(if (k:Int)<0 then((k:Int)+(n:Int)).toNat else min (k:Int).toNat n)=min k n;rw[tz (),lW]
def Vq(n d:Nat)(b:d<=n)(o:Option Int):b7 n d o<=n:=by
 cases o with
 |none=>exact b
 |some v=>
  show(if v<0 then(v+(n:Int)).toNat else min v.toNat n)<=n
  by_cases a:v<0
  .rw[ir a];lia
  .rw[tz a];exact Nat.min_le_right _ _
def Gp(v:Int)(n d:Nat):(if v<0 then max (v+(n:Int)) 0 else min v (n:Int))=((b7 n d^some v:Nat):Int):=by
 show(if v<0 then max (v+(n:Int)) 0 else min v (n:Int))=(((if v<0 then(v+(n:Int)).toNat else min v.toNat n):Nat):Int)
 by_cases a:v<0
 .simp only[ir a];lia
 .simp only[tz a];lia
def Gd(lo a:Option Int)(n:Nat):Builtin.Slice.sliceAdjust lo a 1 (n:Int)=(((b7 n 0 lo:Nat):Int),((b7 n n a:Nat):Int)):=by
 have b:¬((1:Int)<0):=()
 unfold Builtin.Slice.sliceAdjust;simp only[b,Pi];refine acY ?_ ?_
 .cases lo with
  |none=>rfl
  |some v=>exact Gp v n 0
 .cases a with
  |none=>rfl
  |some v=>exact Gp v n n
def HD(i j:Nat):Builtin.Slice.slicePlaces (i:Int) (j:Int) 1=j-i:=by
 unfold Builtin.Slice.slicePlaces;have a:(1:Int)>0:=()
 simp only[a,ac4,Int.ediv_one]
 split<;>lia
def yv(p:IsPart v o)(h:Q o s):wpAny (model prog w) A (Builtin.Slice.slicePartIndex v) Q E s:=by
 cases p with
 |none=>exact slicePart_none h
 |int i t=>exact slicePart_int h
theorem vQ{f:Addr}{b c:b_}{lo a:Option Int}{n:Nat}{Q:Int×Int×Nat->c_->Prop}(g:s.heap.IsSliceOf f b c .none)(pl:IsPart b lo)(i:IsPart c a)
  (h:Q (((b7 n 0 lo:Nat):Int),1,b7 n n a-b7 n 0 lo) s):e_ (ei prog w) A (Builtin.Slice.sliceApplied (.ref f)^pure (n:Int)) Q E s:=by
 rfl';let⟨os,d,k,e⟩:=id g;ac_rfl;unfold Builtin.Slice.sliceApplied Builtin.Slice.sliceFields;refine a_^a_^acT d e (x:=b) rfl^a_^acT d e (x:=c) rfl^a_^acT d e (x:= .none) rfl^mo ?_;refine a_^slicePart_none ?_;rw[tz ∅]
 refine a_^yv pl^a_^yv i^a_^mo ?_;show e_ _ _ (match Builtin.Slice.sliceAdjust lo a 1 (n:Int) with| (lo,a)=>pure (lo,(1:Int),Builtin.Slice.slicePlaces lo a 1)) _ _ s
 rw[Gd lo a n];show e_ _ _ (pure (((b7 n 0 lo:Nat):Int),(1:Int),Builtin.Slice.slicePlaces ((b7 n 0 lo:Nat):Int) ((b7 n n a:Nat):Int) 1)) _ _ s;rw[HD];exact mo h
def NU(a:Array Value)(i k:Nat):((ak k).filterMap λ(m:Nat)=>a[((i:Int)+(m:Int)*1).toNat]?).toArray=((a.toList.drop i).take k).toArray:=by
 have e:(λ(m:Nat)=>a[((i:Int)+(m:Int)*1).toNat]?)=λm=>a[i+m]? :=by
  funext m
  have:((i:Int)+(m:Int)*1).toNat=i+m:=()
  rw[this]
 rw[e]
 have:=pick_run a i k
 rw[List.filterMap_map] at this;have b:((λx=>a[x]?)∘λx=>i+x)=λm=>a[i+m]? :=rfl;rw[b] at this;rw[this]
theorem sZ{t e:Addr}{a:Array b_}{i j:b_}{lo b:Option Int}{Q:b_->c_->Prop}(c:IsTup s.heap t a)(k:s.heap.IsSliceOf e i j .none)(pl:IsPart i lo)(l:IsPart j b)
  (hw:¬(b7 a.size 0 lo=0/\b7 a.size a.size b=a.size))
  (h:Q (.ref s.heap.objs.size) {s with heap:=s.heap.push {cls:= .type "tuple",data:= .seq ((a.toList.drop^b7 a.size 0 lo).take (b7 a.size a.size b-b7 a.size 0 lo)).toArray}})
  (p:a.size<=sizeLine):e_ (ei prog w) A (getItem (.ref t)^.ref e) Q E s:=by
 have d:sizeOk^.seq ((a.toList.drop^b7 a.size 0 lo).take (b7 a.size a.size b-b7 a.size 0 lo)).toArray:=by
  show((a.toList.drop^b7 a.size 0 lo).take (b7 a.size a.size b-b7 a.size 0 lo)).toArray.size<=sizeLine;rw[cn,iS,oS,c9];omega
 have r:b7 a.size a.size b<=a.size:=Vq _ _ (bg _) b;let⟨os,n,f,u⟩:=id k;have g:s.TypeIs (.ref e) "slice":=#[os,n,f];unfold getItem
 try with_reducible refine wpAny_holding ?_
 first|refine a_^gl ?_ |skip
 refine a_^wpAny_sequenceKey c.typeIs ∅ ?_
 refine a_^wpAny_callSpecial?_slot (name:=Str.ofString "__getitem__") c.typeIs PyProof.Rows.slot_tuple_getitem
  (wpAny_call_entry PyProof.Rows.slot_tuple_getitem c.typeIs entry_tuple_getitem ?_^args_tuple_getitem _ _)
 show e_ _ _ (Builtin.Tuple.tupleItemsOf^.ref t>>=_) _ _ s;refine a_^tupleItemsOf_ c ?_;refine a_^wpAny_typeOf g ?_;rw[if_pos ∅]
 refine a_^vQ k pl l ?_
 have o:¬((((b7 a.size 0 lo:Nat):Int)==0&&(1:Int)==1&&(b7 a.size a.size b-b7 a.size 0 lo)==a.size)=true):=by
  intro q;rw[yF,yF] at q;have v:((b7 a.size 0 lo:Nat):Int)=0:=eq_of_beq q.1.1;have x:b7 a.size a.size b-b7 a.size 0 lo=a.size:=eq_of_beq q.2;exact hw #[(),()]
 show e_ _ _ (if (((b7 a.size 0 lo:Nat):Int)==0&&(1:Int)==1&&(b7 a.size a.size b-b7 a.size 0 lo)==a.size)=true then _ else _) _ _ s;rw[if_neg o,NU]
 first
  |exact a_ (m:=Builtin.Tuple.tupleExact _)^kv (gl #[_,rfl,gl h]) d
  |exact a_ (m:=Builtin.Tuple.tupleExact _)^kv (a_^gl^gl #[_,rfl,gl h]) d
  |exact a_^a_ (m:=Builtin.Tuple.tupleExact _)^kv (gl^gl #[_,rfl,gl h]) d
  |exact a_^a_ (m:=Builtin.Tuple.tupleExact _)^kv (gl #[_,rfl,gl h]) d
end
end HT
namespace L2
open PySem PySem.Spec PyProof.Rows
abbrev TO:=St->Hp->(Option Int->Hp->Prop)->Prop
def PO(X:Cx)(e:Option Expr)(t:TO):Prop:=
 ∀(a:List (Addr×Obj))(s:Shared)(b:St)(H:Hp)(Q:Option Int->Hp->Prop),Inv X a b H s->t b H Q->
  wpAny (model X.prog X.w) X.A (evalPart e X.env) (λu d=>∃o c,Inv X a b c d/\IsPart u o/\Q o c) X.xe s
def SD:TO:=λ_ H Q=>Q none H
def ZY(t:TE):TO:=λa H Q=>t a H λx b=>∃i,x= .int i/\Q (some i) b
def intsAre_of:∀{b:List b_},Vals (a.map V.int) b->jq b a:=by
 induction a with
 |nil=>intro b r;rw[xW] at r;cases r;exact .nil
 |cons n a c=>
  intro b r;rw[cH] at r;cases r with
  |cons d f=>
   let⟨t,e⟩:=d;subst e;exact .cons n t^c f
section
variable {X:Cx} {e:Expr} {te:TE} {lo hi:Option Expr} {tl th:TO} {pos p2:Pos}
def AW:PO X none SD:=by
 intro a s b H Q I h;rw[evalPart_none];exact mo #[none,H,I, .none,h]
def qe(h:PE X e te):PO X (some e)^ZY te:=by
 intro a s b H Q I hw;rw[evalPart_some];refine thn (h a s b H _ I hw) λu l c=>?_;rfl';let⟨x,f,g,j,k⟩:=c;let⟨i,rfl,q⟩:=k;let⟨t,rfl⟩:=j;ac_rfl;exact#[some i,f,g, .int i t,q]
def IB(X:Cx)(r:V->Option Int->Option Int->Hp->VK->Prop):Prop:=
 ∀(a:List (Addr×Obj))(s:c_)(b:St)(H:Hp)(x:V)(v c d:b_)(lo f:Option Int)(g:Addr)(Q:VK),Inv X a b H s->RelV x v->s.heap.IsSliceOf g c d .none->IsPart c lo->IsPart d f->r x lo f H Q->
  ∃T id,lf (.type T) "__getitem__"=pure^some^.builtin id/\s.TypeIs v T/\e_ (ei X.prog X.w) X.A (getItem v^.ref g) (EP X a b Q) X.xe s
def IB.or(h:IB X r)(m:IB X c):IB X (λx lo b H Q=>r x lo b H Q\/c x lo b H Q):=by
 intro a s d H x v f g lo b i Q I j k pl l q
 rcases q with q|q
 .exact h a s d H x v f g lo b i Q I j k pl l q
 .exact m a s d H x v f g lo b i Q I j k pl l q
def tSl(r:V->Option Int->Option Int->Hp->VK->Prop)(b:TE)(c d:TO):TE:=λa H Q=>b a H λx f=>c a f λl g=>d a g λu h=>r x l u h Q
theorem rh(m:IB X r)(n:PE X e te)(o:PO X lo tl)(p:PO X hi th):PE X (.Subscript e (.Slice lo hi none p2) pos)^tSl r te tl th:=by
 intro a s d H Q I h;refine Subscript_ (thn (n a s d H _ I h) λv t f=>?_);rfl';let⟨x,y,z,A,B⟩:=f;ac_rfl;refine wpAny_Slice (thn (o a t d y _ z B) λi C hH=>?_);obtain⟨l,E,F,pl,G⟩:=hH;refine thn (p a C d E _ F G) λj c f=>?_;rfl';let⟨u,k,J,L,M⟩:=f;ac_rfl;rw[evalPart_none];refine mo ?_;have N:Inv X a d k {c with heap:=c.heap.push {cls:= .type "slice",data:= .fields [i,j, .none].toArray}}:=J.kept (t':=c.toks) λb S q=>AC _ q
 let⟨T,id,O,P,R⟩:=m a {c with heap:=c.heap.push {cls:= .type "slice",data:= .fields [i,j, .none].toArray}} d k x v i j l u c.heap.objs.size Q N A (Heap.IsSliceOf.new ..) pl L M
 exact tail_any (ops:= [.ref c.heap.objs.size,v]) P O R^by with_unfolding_all rfl
def i3(a:List V)(lo b:Option Int):List V:=(a.drop^HT.b7 a.length 0 lo).take (HT.b7 a.length a.length b-HT.b7 a.length 0 lo)
def ng(a:List V)(lo b:Option Int):(i3 a lo b).length<=a.length:=by
 unfold i3;rw[iS,oS];lia
def abR(K:ad):V->Option Int->Option Int->Hp->VK->Prop:=λx lo c H Q=>∃a b,x= .ref a/\fI K H a b/\
 ¬(HT.b7 b.length 0 lo=0/\HT.b7 b.length b.length c=b.length)/\∀p,H p=none->Q (.ref p)^upd H p^.tup^i3 b lo c
def Vs:IB X^abR X.K:=by
 intro i s u H x v w y lo f z Q I l m pl n h;rfl';let⟨a,d,rfl,t,hw,q⟩:=h;subst l;let⟨g,r,j,k⟩:=I.tuple t;have c:g.toArray.size=d.length:=by rw[cn];exact r.length.symm
 ac_rfl;exists "tuple",_,ad8.lookup,j.typeIs;refine HT.sZ j m pl n (by rw[c];exact hw) ?_^by rw[c];exact k
 rw[c];refine#[.ref s.heap.objs.size,_,I.laid (t':=s.toks) (o:= .tup^i3 d lo f) (λb B q=>AC _ q) (bg _) ?_,rfl,q _^I.hok.fresh^bg _];exact#[iT (ng d lo f) k,_,(r.drop^HT.b7 d.length 0 lo).take (HT.b7 d.length d.length f-HT.b7 d.length 0 lo),IsTup.new _ _]
def ZC(K:ad):R2:=λx y H Q=>∃a b d c,x= .ref a/\y= .ref b/\fI K H a d/\fI K H b c/\d≠ []/\d.length+c.length<=sizeLine/\
 (c= []->Q (.ref a) H)/\(c≠ []->∀p,H p=none->Q (.ref p)^upd H p^.tup (d++c))
def Vals.AB(r:Vals a b):b= []↔a= []:=by
 cases r with
 |nil=>simp
 |cons _ _=>simp
def Rm:OpR X (i_ .Add)^ZC X.K:=by
 intro f s F H x y v u Q I i j h;rfl';let⟨a,b,l,m,rfl,rfl,n,p,r,g,t,A⟩:=h;subst i;subst j;let⟨B,d,C,e⟩:=I.tuple n;let⟨J,c,E,e⟩:=I.tuple p;ac_rfl;refine HT.O2 C E (λz=>r^d.AB.mp z) (λz=>#[.ref a,H,I,rfl,t^c.AB.mp z]) (λz=>?_)^by rw[<-d.length,<-c.length];exact g
 refine#[.ref s.heap.objs.size,_,I.laid (t':=s.toks) (o:= .tup (l++m)) (λb L q=>AC _ q) (bg _) ?_,rfl,A (λw=>z^c.AB.mpr w) _^I.hok.fresh^bg _];exact#[by rw[dg];exact g,_,d.append c,IsTup.new _ _]
end
def lA(n:Nat)(i:Int):Option Nat:=if 0<=i then(if i<n then some i.toNat else none) else if-(n:Int)<=i then some (i+n).toNat else none
def gr{a:Type}(b:List a)(i:Int):Option a:=(lA b.length i).bind λj=>b[j]?
def Hk(h:lA n i\j):seqIndex? i n\j/\j<n/\-(n:Int)<=i/\i<n:=by
 unfold lA at h
 by_cases b:0<=i
 .rw[ir b] at h
  by_cases a:i<n
  .rw[ir a] at h
   have e:i.toNat=j:=Do h;exact#[by rw[afh b a,e],(),(),a]
  .rw[tz a] at h;cases h
 .rw[tz b] at h
  by_cases a: -(n:Int)<=i
  .rw[ir a] at h
   have e:(i+n).toNat=j:=Do h;exact#[by rw[seqIndex_neg () a,e],(),a,()]
  .rw[tz a] at h;cases h
def zA(h:gr a i\v):∃j,seqIndex? i a.length\j/\a[j]?\v/\j<a.length/\-(a.length:Int)<=i/\i<a.length:=by
 unfold gr at h;cases e:lA a.length i with
 |none=>rw[e] at h;cases h
 |some j=>
  rw[e] at h;obtain⟨c,d,f,g⟩:=Hk e;exact#[j,c,h,d,f,g]
def cX{j:Nat}(h:a[j]?\v):gr a (j:Int)\v:=by
 have c:j<a.length:=(cR.mp h).1
 have e:lA a.length (j:Int)\j:=by
  unfold lA;rw[ir (),ir ()];simp
 unfold gr;rw[e];exact h
def MD(a:List b)(v:b):gr (a++ [v]) (-1)\v:=by
 have c:(a++ [v]).length=a.length+1:=by simp
 have e:lA (a++ [v]).length (-1)\a.length:=by
  unfold lA;rw[c,tz ∅,ir ()]
  congr 1
  lia
 unfold gr;rw[e];show(a++ [v])[a.length]?\v;simp
def pD(b:gc):Prop:=∀o i,subscripted b false o i=operate [o,i]^getItem o i
def zv(X:Cx)(r:R2):Prop:=
 ∀(c a:gc)(b:List (Addr×Obj))(s:c_)(d:St)(H:Hp)(x y:V)(v u:b_)(Q:VK),Inv X b d H s->RelV x v->RelV y u->r x y H Q->
  subscripted a false v u=operate [v,u]^getItem v u->e_ (ei X.prog X.w) X.A (subscriptTail c a v u) (EP X b d Q) X.xe s
def Td(X:Cx)(id:String)(r:V->List V->Hp->VK->Prop):Prop:=
 ∀(a:List (Addr×Obj))(s:Shared)(b:St)(H:Hp)(x:V)(c:List V)(v:Value)(d:List Value)(Q:VK),Inv X a b H s->RelV x v->Vals c d->r x c H Q->
  wpAny (model X.prog X.w) X.A (call (.builtin id) (v::d)) (EP X a b Q) X.xe s
section
variable {X:Cx} {a b:Expr} {ta tb:TE} {pos:Pos}
def zv.or(h:zv X r)(l:zv X f):zv X (λx y H Q=>r x y H Q\/f x y H Q):=by
 intro c d e s g H x y v u Q I i j q k
 rcases q with q|q
 .exact h c d e s g H x y v u Q I i j q k
 .exact l c d e s g H x y v u Q I i j q k
def cS(d:zv X r)(e:PE X a ta)(f:PE X b tb)(g:pD b):PE X (.Subscript a b pos)^FE r ta tb:=by
 intro c s i H Q I h;exact Subscript_ (OZ e f I h λv u j x y k l m n q=>d a b c j i k x y v u Q l m n q^g _ _)
def HH(K:ad):R2:=λx y H Q=>∃p c i v,x= .ref p/\y= .int i/\aL K H p c/\gr c i\v/\Q v H
def WR(K:ad):R2:=λx y H Q=>∃p c i v,x= .ref p/\y= .int i/\fI K H p c/\gr c i\v/\Q v H
def bQ:zv X^HH X.K:=by
 intro e f c s l H x y v u Q I A B h m;rfl';let⟨p,R,i,z,rfl,rfl,E,F,q⟩:=h;subst A;let⟨t,rfl⟩:=B;let⟨g,r,pl,S⟩:=I.list E;let⟨j,d,G,T,J,L⟩:=zA F;let⟨w,n,M⟩:=r.get G;have N:=r.length;have Y:=lO;have fin:EP X c l Q w s:=#[z,H,I,M,q];ac_rfl
 by_cases o:0<=i
 .have k:i.toNat=j:=by
   rw[afh o L] at d;exact Do d
  exact item_listR pl.isList o () (by rw[k];simpa using n) fin m
 .have k:(i+(g.toArray.size:Int)).toNat=j:=by
   rw[seqIndex_neg () J] at d
   rw[cn,<-N];exact Do d
  exact adJ (x:=w) pl.isList.typeIs slot_list_getitem.lookup
   (afi (Q:=λr O=>r=w/\EP X c l Q r O) pl.isList () (by rw[cn]<;>lia) () (by rw[k];simpa using n) #[rfl,fin]) m
def LI:zv X^WR X.K:=by
 intro d e c s f H x y v u Q I g k h l;rfl';let⟨p,M,i,z,rfl,rfl,n,o,q⟩:=h;subst g;let⟨t,rfl⟩:=k;let⟨A,r,pl,N⟩:=I.tuple n;let⟨j,B,C,O,P,R⟩:=zA o;let⟨w,E,F⟩:=r.get C;have G:=r.length;have S:=lO;have fin:EP X c f Q w s:=#[z,H,I,F,q];ac_rfl
 exact adJ (x:=w) pl.typeIs slot_tuple_getitem.lookup
  (getItem_tuple (j:=j) (Q:=λr J=>r=w/\EP X c f Q r J) pl () () (by rw[cn,<-G];exact B) (~~~E) #[rfl,fin]) l
def Ht(c:List Value)(n j:Nat)(u:Value):Obj.mapSeq (·.setIfInBounds j u) {cls:= .type "list",data:= .seq c.toArray n}={cls:= .type "list",data:= .seq (c.set j u).toArray n}:=by
 simp[Obj.mapSeq]
theorem Inv.lst{c:List (Addr×Obj)}{d:St}{H:Hp}{s:Shared}{p:Addr}{xs:List V}(I:Inv X c d H s)(h:H p\(.lst xs)):
  ∃(its:List Value)(n:Nat),Vals xs its/\s.heap.get? p\{cls:= .type "list",data:= .seq its.toArray n}/\xs.length<=sizeLine:=by
 obtain⟨z,its,n,r,e⟩:=I.hok p _ h;exact#[its,n,r,e,z]
def Inv.UH{its c:List b_}(I:Inv X d j H s)(h:H p\(.lst xs))
  (l:s.heap.get? p\{cls:= .type "list",data:= .seq its.toArray n}) (k:f {cls:= .type "list",data:= .seq its.toArray n}={cls:= .type "list",data:= .seq c.toArray i}) (r:Vals g c) (m:g.length<=sizeLine) (t:Nat):
  Inv X d j (upd H p^.lst g) {s with heap:=s.heap.update p f,toks:=t}:=by
 have e:(s.heap.update p f).get? p\{cls:= .type "list",data:= .seq c.toArray i}:=by
  rw[P3 f l^by rw[k]<;>rfl,k]
 refine I.write (x:=p) (e:=p) (by rw[h];trivial) (.inl rfl) (λb u o q=>(Os _ _^Ne.symm o).trans q) #[_,e] ?_
 exact#[m,c,i,r,e]
def RX:V->V->V->Hp->(Hp->Prop)->Prop:=λo i v H Q=>∃p c k j,o= .ref p/\i= .int k/\H p\(.lst c)/\lA c.length k\j/\Q^upd H p^.lst^c.set j v
def set_list:OS X RX:=by
 intro c s A H o i v M N u Q I B C E h;rfl';let⟨p,G,k,j,rfl,rfl,m,J,q⟩:=h;subst B;let⟨t,rfl⟩:=C;let⟨d,n,r,f,L⟩:=I.lst m;let⟨e,P,w,x⟩:=Hk J;have g:=r.length;have R:=lO;ac_rfl
 have y:Inv X c A (upd H p^.lst^G.set j v) {s with heap:=s.heap.update p^Obj.mapSeq (·.setIfInBounds j u)}:=
  I.UH m f (Ht d n j u) (r.set E j) (by rw[fF];exact L) s.toks
 by_cases z:0<=k
 .have l:k.toNat=j:=by
   rw[afh z x] at e;exact Do e
  exact PySem.W.ki_setAt f z () (by rw[cn,<-g];exact x)^by rw[l];exact#[_,y,q]
 .have l:(k+(d.toArray.size:Int)).toNat=j:=by
   rw[seqIndex_neg () w] at e
   rw[cn,<-g];exact Do e
  exact PySem.W.ki_setBack f () (by rw[cn,<-g];exact w) ()^by rw[l];exact#[_,y,q]
def Ct(lo c:Option Int)(n:Nat):(sliceBounds lo c none n).1=((HT.b7 n 0 lo:Nat):Int)/\(sliceBounds lo c none n).2.1=((HT.b7 n n c:Nat):Int)/\(sliceBounds lo c none n).2.2=1:=by
 refine#[?_,?_,rfl]
 .cases lo with
  |none=>simp[sliceBounds,HT.b7]
  |some i=>
   simp only[sliceBounds,HT.b7,Option.getD_none,show(1:Int)>0 by decide,ac4]
   by_cases h:i<0
   .simp only[h,ac4]<;>lia
   .simp only[h,Pi]<;>lia
 .cases c with
  |none=>simp[sliceBounds,HT.b7]
  |some i=>
   simp only[sliceBounds,HT.b7,Option.getD_none,show(1:Int)>0 by decide,ac4]
   by_cases h:i<0
   .simp only[h,ac4]<;>lia
   .simp only[h,Pi]<;>lia
def Bb(c:List b_)(lo d:Option Int):slicePick c.toArray lo d none=((c.drop^HT.b7 c.length 0 lo).take (HT.b7 c.length c.length d-HT.b7 c.length 0 lo)).toArray:=by
 let⟨e,f,g⟩:=Ct lo d c.toArray.size;unfold slicePick;rw[e,f,g];simp only[sliceRange_one,pick_run,cn]<;>rfl
def abQ(K:ad):V->Option Int->Option Int->Hp->VK->Prop:=λx lo d H Q=>∃a c,x= .ref a/\aL K H a c/\∀p,H p=none->Q (.ref p)^upd H p^.lst^i3 c lo d
def vP:IB X^abQ X.K:=by
 intro f s t H x v u w lo e y Q I i j pl k h;rfl';let⟨a,c,rfl,m,q⟩:=h;subst i;let⟨n,r,g,p⟩:=I.list m;have d:=r.length;ac_rfl;exists "list",_,slot_list_getitem.lookup,g.isList.typeIs;refine wpAny_getItem_list_slice g.isList j pl k .none (by simp) ?_^by rw[cn]<;>lia
 rw[Bb,<-d];refine#[.ref s.heap.objs.size,_,I.laid (t':=s.toks) (o:= .lst^i3 c lo e) (λb A q=>AC _ q) (bg _) ?_,rfl,q _^I.hok.fresh^bg _];exact#[iT (ng c lo e) p,_,0,(r.drop^HT.b7 c.length 0 lo).take (HT.b7 c.length c.length e-HT.b7 c.length 0 lo),GT _ rfl]
def gZ:V->Bool
 | .aQ=>true
 | .bl _=>true
 | .int _=>true
 | .str _=>true
 |_=>false
def sT:V->V->Bool
 | .aQ, .aQ=>true
 | .bl a, .bl b=>a==b
 | .bl a, .int b=>(if a then 1 else 0)==b
 | .int a, .bl b=>a==(if b then 1 else 0)
 | .int a, .int b=>a==b
 | .str a, .str b=>a==b
 |_,_=>false
def sTi(a b:Int):sT (.int a) (.int b)=(a==b):=rfl
def TU{A:gs}{s:c_}{y x:V}{u v:b_}(ry:RelV y u)(rx:RelV x v)(fy:gZ y=true)(fx:gZ x=true):SeqAt.EqAt A s u v^sT y x:=by
 cases y with
 |aQ=>
  cases ry;cases x with
  |aQ=>cases rx;exact SeqAt.EqAt.same _
  |bl b=>cases rx;exact SeqAt.EqAt.none_bool b
  |int b=>let⟨t,rfl⟩:=rx;exact SeqAt.EqAt.none_int b t
  |str b=>let⟨t,rfl⟩:=rx;exact SeqAt.EqAt.none_str b t
  |_=>exact absurd (show false=true from fx) eD
 |bl a=>
  subst ry;cases x with
  |aQ=>cases rx;exact SeqAt.EqAt.bool_none a
  |bl b=>cases rx;exact SeqAt.EqAt.bool_bool a b
  |int b=>let⟨t,rfl⟩:=rx;exact SeqAt.EqAt.bool_int a b t
  |str b=>let⟨t,rfl⟩:=rx;exact SeqAt.EqAt.bool_str a b t
  |_=>exact absurd (show false=true from fx) eD
 |int a=>
  let⟨t',rfl⟩:=ry;cases x with
  |aQ=>cases rx;exact SeqAt.EqAt.int_none a t'
  |bl b=>cases rx;exact SeqAt.EqAt.int_bool a t' b
  |int b=>let⟨t,rfl⟩:=rx;exact SeqAt.EqAt.int_int a t' b t
  |str b=>let⟨t,rfl⟩:=rx;exact SeqAt.EqAt.int_str a t' b t
  |_=>exact absurd (show false=true from fx) eD
 |str a=>
  let⟨t',rfl⟩:=ry;cases x with
  |aQ=>cases rx;exact SeqAt.EqAt.str_none a t'
  |bl b=>cases rx;exact SeqAt.EqAt.str_bool a t' b
  |int b=>let⟨t,rfl⟩:=rx;exact SeqAt.EqAt.str_int a t' b t
  |str b=>let⟨t,rfl⟩:=rx;exact SeqAt.EqAt.str_str a t' b t
  |_=>exact absurd (show false=true from fx) eD
 |_=>exact absurd (show false=true from fy) eD
def rL(x:V)(u:Value):Bool:=match u with
 | .none=>sT .aQ x
 | .bool b=>sT (.bl b) x
 | .int i _=>sT (.int i) x
 | .str z _=>sT (.str z) x
 |_=>false
def zc{x y:V}{u:Value}(r:RelV y u)(f:gZ y=true):rL x u=sT y x:=by
 cases y with
 |aQ=>cases r;rfl
 |bl b=>cases r;rfl
 |int i=>obtain⟨t,rfl⟩:=r;rfl
 |str z=>obtain⟨t,rfl⟩:=r;rfl
 |_=>exact absurd (show false=true from f) eD
theorem pH:∀{c:List V}{d:List b_},Vals c d->c.all gZ=true->d.any^rL x=c.any λy=>sT y x
 |_,_, .nil,_=>rfl
 |y::c,u::d, .cons r t,f=>by
  rw[adP,yF] at f;rw[aeD,aeD,zc r f.1,pH t f.2]
theorem kD(g:RelV x v)(h:gZ x=true):∀{d:List V}{e:List b_},Vals d e->d.all gZ=true->∀u∈e,SeqAt.EqAt A s u v^rL x u
 |_,_, .nil,_=>λu c=>by cases c
 |y::d,u::e, .cons r t,f=>λi c=>by
  rw[adP,yF] at f
  rcases cQ.mp c with rfl|c
  .rw[zc r f.1];exact TU r g f.1 h
  .exact kD g h t f.2 i c
def JE(x:V)(c:List V):Bool:=c.any λy=>sT y x
def Vj(K:ad)(d:Bool):R2:=λx y H Q=>∃p c,y= .ref p/\(aL K H p c\/fI K H p c)/\gZ x=true/\c.all gZ=true/\Q (.bl^if d then !JE x c else JE x c) H
def J8:OpR X (gj .In)^Vj X.K false:=by
 intro e s l H x y v u Q I f i h;rfl';let⟨p,n,rfl,d,g,fs,q⟩:=h;subst i;ac_rfl
 rcases d with d|d
 .obtain⟨c,r,pl,k⟩:=I.list d
  refine SeqAt.in_listAt (rL x) pl.isList (λw hw=>kD f g r fs w^~~~hw) #[.bl _,H,I,rfl,?_]
  rw[show c.toArray.any^rL x=c.any (rL x) by simp,pH r fs]
  exact q
 .obtain⟨c,r,pl,k⟩:=I.tuple d
  refine SeqAt.in_tupleAt (rL x) pl (λw hw=>kD f g r fs w^~~~hw) #[.bl _,H,I,rfl,?_]
  rw[show c.toArray.any^rL x=c.any (rL x) by simp,pH r fs]
  exact q
def r9:OpR X (gj .NotIn)^Vj X.K true:=by
 intro e s l H x y v u Q I f i h;rfl';let⟨p,n,rfl,d,g,fs,q⟩:=h;subst i;ac_rfl
 rcases d with d|d
 .obtain⟨c,r,pl,k⟩:=I.list d
  refine SeqAt.notIn_listAt (rL x) pl.isList (λw hw=>kD f g r fs w^~~~hw) #[.bl _,H,I,rfl,?_]
  rw[show c.toArray.any^rL x=c.any (rL x) by simp,pH r fs]
  exact q
 .obtain⟨c,r,pl,k⟩:=I.tuple d
  refine SeqAt.notIn_tupleAt (rL x) pl (λw hw=>kD f g r fs w^~~~hw) #[.bl _,H,I,rfl,?_]
  rw[show c.toArray.any^rL x=c.any (rL x) by simp,pH r fs]
  exact q
def cT:dX X (.builtin "len") (λi H Q=>∃p d,i= [.ref p]/\(aL X.K H p d\/fI X.K H p d)/\Q (.int d.length) H):=by
 intro j s n H i o Q I r h;rfl';obtain⟨p,d,rfl,e,q⟩:=h;obtain⟨u,rfl,l⟩:=vals1 r;subst l;have v:=lO;ac_rfl
 rcases e with e|e
 .obtain⟨f,g,pl,m⟩:=I.list e
  have c:=g.length;exact Calls.call_len_list pl.isList (by simp only[cn]<;>lia) #[.int d.length,H,I.tok _,#[s.toks+1,by rw[cn,c]],q]
 .obtain⟨f,g,pl,m⟩:=I.tuple e
  have c:=g.length;exact len_tuple pl (by simp only[cn]<;>lia) #[.int d.length,H,I.tok _,#[s.toks+1,by rw[cn,c]],q]
def B0:dX X (.type "list") (λA H Q=>∃p f,A= [.ref p]/\(aL X.K H p f\/fI X.K H p f)/\∀l,H l=none->Q (.ref l)^upd H l^.lst f):=by
 intro j s C H A F Q I r h;let⟨p,f,rfl,k,q⟩:=h;let⟨u,rfl,E⟩:=vals1 r;subst E
 have fin:∀(c:List b_),Vals f c->f.length<=sizeLine->∀(d:Heap)(g:Nat),(∀b B,s.heap.get? b\B->d.get? b\B)->
   d.get? s.heap.objs.size\{cls:= .type "list",dict:=none,data:= .seq c.toArray g,slots:= #[]}->EP X j C Q (.ref s.heap.objs.size) {s with heap:=d}:=λc i m d g t e=>
  #[.ref s.heap.objs.size,_,I.laid (t':=s.toks) t (bg _) (show cK X.prog X.w _ d _^.lst f from#[m,c,g,i,e]),rfl,q _^I.hok.fresh^bg _]
 rcases k with k|k
 .obtain⟨c,i,pl,m⟩:=I.list k
  have v:=i.length;let⟨o,x,y,n,z⟩:=pl.isList;exact call_list_seq p (.inl rfl) x y z (λd g t e=>fin c i m d g t e)^by simp only[cn]<;>lia
 .obtain⟨c,i,pl,m⟩:=I.tuple k
  have v:=i.length;let⟨o,x,y,n,z⟩:=pl;exact call_list_seq p (.inr rfl) x y z (λd g t e=>fin c i m d g t e)^by simp only[cn]<;>lia
def VQ(K:ad)(T:String)(x:V)(H:Hp):Prop:=match x with
 | .str _=>T="str"
 | .int _=>T="int"
 | .ref p=>(T="list"/\∃d,aL K H p d)\/(T="tuple"/\∃o,K.lookup p\o/\o.cls= .type "tuple"/\o.dict=none)\/
   (T="dict"/\((∃c,H p\(.dK c))\/∃c,H p\(.dT c)))\/(T="set"/\∃S n,H p\(.set S n))
 |_=>False
theorem Mm(I:Inv X g m H s)(r:RelV x v)(h:VQ X.K T x H):
  s.TypeIs v T/\∀a,v= .ref a->∃l,s.heap.get? a\l/\l.dict=none:=by
 cases x with
 |str z=>
  obtain⟨t,rfl⟩:=r;cases(show T="str" from h);exact#[typeIs_str s z t,λ_ e=>nomatch e]
 |int i=>
  obtain⟨t,rfl⟩:=r;cases(show T="int" from h);exact#[typeIs_int s i t,λ_ e=>nomatch e]
 |ref p=>
  subst r
  rcases h with ⟨rfl,A,q⟩ | ⟨rfl,o,d,u,j⟩ | ⟨rfl,d⟩ | ⟨rfl,S,n,d⟩
  .obtain⟨w,_,pl,_⟩:=I.list q
   refine#[pl.isList.typeIs,λa e=>?_];cases e;obtain⟨o,n,e,c,j,_⟩:=pl;exact#[o,e,j]
  .refine#[#[o,I.fi p o d,u],λa e=>?_]
   cases e;exact#[o,I.fi _ o d,j]
  .have z:∃o,s.heap.get? p\o/\o.ExactDict:=by
    rcases d with ⟨y,d⟩ | ⟨y,d⟩
    .obtain⟨_,_,_,_,o,_,_,e,f,_⟩:=I.hok p _ d
     exact#[o,e,f]
    .obtain⟨_,_,_,_,o,_,_,e,f,_⟩:=I.hok p _ d
     exact#[o,e,f]
   obtain⟨o,e,f⟩:=z;refine#[#[o,e,f.1],λa k=>?_];cases k;exact#[o,e,f.2.1]
  .obtain⟨o,_,_,_,e,f,_⟩:=I.hok p _ d
   refine#[#[o,e,f.1],λa k=>?_];cases k;exact#[o,e,f.2.1]
 |_=>exact False.elim h
def ab2(K:ad)(T:String)(r:V->List V->Hp->VK->Prop)(d:TE):TE:=λe H Q=>d e H λx c=>VQ K T x c/\r x [] c Q
def tBM(K:ad)(T:String)(r:V->List V->Hp->VK->Prop)(e:TE)(t:TA):TE:=λc H Q=>e c H λx d=>VQ K T x d/\t c d λf g=>r x f g Q
variable {o e:Expr} {es:List Expr} {to:TE} {t:TA} {name:Str} {apos aO:Pos} {T id:String} {r:V->List V->Hp->VK->Prop}
theorem U2(i:PlainAttrs T)(slot:Slot T name id)(j:typeOf^.builtin id=pure^.type "method_descriptor")(k:Td X id r)(l:PE X o to)
  (m:hT o name X.env^gi o X.env=gi o X.env<|>zn) (n:(apos.endLine==aO.line)=true<|>zn):PE X (.Call (.Attribute o name apos) [] [] aO)^ab2 X.K T r to:=by
 intro c s d H Q I h;refine wpAny_Call_method0_late m n (thn (l c s d H _ I h) λv p q=>?_);rfl';let⟨x,w,f,g,y,z⟩:=q;let⟨A,B⟩:=Mm f g y;ac_rfl;exact#[T,id,i,slot,j,A,B,adK rfl^PySem.evalArgs_none^k c p d w x [] v [] Q f g .nil z]
theorem hV(l:PlainAttrs T)(slot:Slot T name id)(m:typeOf^.builtin id=pure^.type "method_descriptor")(n:Td X id r)(p:PE X o to)(q:PA X (e::d) t)
  (u:hT o name X.env^gi o X.env=gi o X.env<|>zn)
  (w:((gM f^d_ (e::d) X.env).all (λx=>!x.1)&&(js f^iq [] X.env).all (λx=>x.1.isSome)
   &&decide ((e::d).length+([]:List jp).length+(if ([]:List jp).isEmpty then 0 else 1)<30))=true<|>zn)
  (y:(apos.endLine==f.line)=true<|>zn) (z:d_ (e::d) X.env=(false,gi e X.env)::d_ d X.env<|>zn) (A:(gM f^d_ d X.env).any (·.1)=false<|>zn):
  PE X (.Call (.Attribute o name apos) (e::d) [] f)^tBM X.K T r to t:=by
 intro c s g H Q I h;refine afj u w y rfl (thn (p c s g H _ I h) λv B C=>?_);rfl';let⟨x,F,i,j,G,J⟩:=C;let⟨L,M⟩:=Mm i j G;ac_rfl;exists T,id,l,slot,m,L,M;have k:=q f c B g F _ i J;rw[z] at k ⊢;refine adK (by show(false|| (gM f^d_ d X.env).any (·.1))=false;rw[A]<;>rfl)^Calls.evalArgs_plain ?_
 refine thn k λN O hH=>?_;obtain⟨P,R,S,Y,Z⟩:=hH;exact n c O g R x P v N Q S j Y Z
end
def MA(X:Cx)(id:String)(r:V->List V->Hp->VK->Prop):Prop:=
 ∀(a:List (Addr×Obj))(s:Shared)(b:St)(H:Hp)(x:V)(c:List V)(v:Value)(d:List Value)(Q:VK),Inv X a b H s->RelV x v->Vals c d->r x c H Q->
  wpAny (model X.prog X.w) X.A (call (.builtin id) (v::d)) (EP X a b Q) X.xe s
def Vals.one(h:Vals [x] a):∃u,a= [u]/\RelV x u:=by
 cases h with|cons r t=>cases t;exact#[_,rfl,r]
def Vals.two{x y:V}(h:Vals [x,y] a):∃u v,a= [u,v]/\RelV x u/\RelV y v:=by
 cases h with
 |cons r t=>
  obtain⟨v,rfl,q⟩:=Vals.one t;exact#[_,v,rfl,r,q]
theorem Vals.zero:∀{a:List Value},Vals [] a->a= []
 |_, .nil=>rfl
theorem Vals.dropLast(h:Vals a b):Vals a.dropLast b.dropLast:=by
 induction h with
 |nil=>exact .nil
 |cons r t c=>
  cases t with
  |nil=>exact .nil
  |cons q d=>exact .cons r c
theorem Vals.eraseIdx:∀{a:List V}{b:List b_}(i:Nat),Vals a b->Vals (a.eraseIdx i)^b.eraseIdx i
 |_,_,_, .nil=> .nil
 |_,_,0, .cons _ t=>t
 |_,_,i+1, .cons r t=> .cons r^Vals.eraseIdx i t
def GH(l:List c):l.eraseIdx (l.length-1)=l.dropLast:=by
 induction l with
 |nil=>rfl
 |cons a r d=>
  cases r with
  |nil=>rfl
  |cons b r=>
   have e:(a::b::r).length-1=((b::r).length-1)+1:=by
    have f:(a::b::r).length=r.length+2:=rfl;have g:(b::r).length=r.length+1:=rfl;lia
   rw[e,List.eraseIdx_cons_succ,d]
   all_goals rfl
theorem An:∀(l:List a)(i:Nat),(l.eraseIdx i).length<=l.length
 | [],_=>bg _
 |_::_,0=>oW _
 |_::r,i+1=>Nat.succ_le_succ^An r i
section
variable {X:Cx} {pins:List (Addr×Obj)} {σ:St} {H:Hp} {s:Shared} {l b:Addr} {xs ys zs:List V}
def Inv.Hq{its its':List b_}(I:Inv X pins σ H s)(a:H l\(.lst xs))
  (e:s.heap.get? l\{cls:= .type "list",data:= .seq its.toArray n}) (c:f its.toArray=its'.toArray) (d:Vals ys its') (g:ys.length<=sizeLine):
  Inv X pins σ (upd H l^.lst ys) {s with heap:=s.heap.update l^Obj.mapSeq f,toks:=t'}:=by
 have q:=PySem.IsL.update e f;rw[c] at q;refine I.write (x:=l) (e:=l) (by rw[a];exact trivial) (.inl rfl) (λj u h i=>(Os s.heap (Obj.mapSeq f)^Ne.symm h).trans i) #[_,q] ?_
 exact#[g,its',_,d,q]
def Inv.QV{its:List b_}{t':Nat}(I:Inv X pins σ H s)(a:Vals ys its)(c:ys.length<=sizeLine):
  Inv X pins σ (upd H s.heap.objs.size^.lst ys) {s with heap:=s.heap.push {cls:= .type "list",data:= .seq its.toArray},toks:=t'}:=
 I.laid (λ_ _ q=>AC _ q) (bg _) #[c,its,0,a,GT _ rfl]
theorem Inv.fresh(I:Inv X pins σ H s):H s.heap.objs.size=none:=I.hok.fresh^bg _
def Inv.rY(I:Inv X pins σ H s)(a:H l\(.lst xs)):xs.length<=sizeLine/\∃(its:List Value)(n:Nat),Vals xs its/\xs.length=its.length/\s.heap.get? l\{cls:= .type "list",data:= .seq its.toArray n}:=by
 obtain⟨z,its,n,r,e⟩:=I.hok l _ a;exact#[z,its,n,r,r.length,e]
def NG(h:n<=sizeLine):Builtin.List.listTooLong n=false:=by
 unfold Builtin.List.listTooLong;exact GE ()
end
section
variable {X:Cx}
def RU:V->List V->Hp->VK->Prop:=λx b H Q=>∃l a y,x= .ref l/\b= [y]/\H l\(.lst a)/\a.length<sizeLine/\Q .aQ^upd H l^.lst (a++ [y])
def ju:MA X "list.append" RU:=by
 intro b s j H x k v m Q I d f h;rfl';let⟨l,p,y,rfl,rfl,c,t,q⟩:=h;subst d;let⟨u,rfl,i⟩:=f.one;let⟨z,a,n,r,w,e⟩:=I.rY c;ac_rfl;refine adq F.slot_list_append #[_,e,rfl] F.entry_list_append (F.args_list_append_2 _ _) (PySem.list_append l a.toArray n u^by rw[cn];lia) #[e,?_]
 refine#[.aQ,_,I.Hq (its':=a++ [u]) c e (by simp) (r.append^.cons i .nil) ?_,rfl,q]
 rw[dg,F0];lia
def RV:V->List V->Hp->VK->Prop:=λx d H Q=>∃l b a c,x= .ref l/\d= [.ref b]/\H l\(.lst a)/\H b\(.lst c)/\a.length+c.length<=sizeLine/\Q .aQ^upd H l^.lst (a++c)
def Ay:MA X "list.extend" RV:=by
 intro d s y H x A v B Q I g i h;obtain⟨l,b,C,E,rfl,rfl,f,j,G,q⟩:=h;cases g;obtain⟨u,rfl,k⟩:=i.one;cases k;obtain⟨z,a,n,r,J,e⟩:=I.rY f;obtain⟨L,c,m,o,M,p⟩:=I.rY j;have t:a.toArray.size+c.toArray.size<=sizeLine:=by rw[cn,cn];lia
 have w:¬(!a.toArray.isEmpty&&Builtin.List.listTooLong (a.toArray.size+c.toArray.size))=true:=by
  rw[NG t,aeq];exact eD
 refine adq F.slot_list_extend #[_,e,rfl] F.entry_list_extend (F.args_list_extend_2 _ _)
  (AutoSeq1.list_extend_list_list_0 l a.toArray n b c.toArray m w (by rw[cn];lia) ()) #[e,p,?_]
 refine#[.aQ,_,I.Hq (its':=a++c) f e (by simp) (r.append o) ?_,rfl,q]
 rw[dg];omega
def abP:V->List V->Hp->VK->Prop:=λx b H Q=>∃l a y,x= .ref l/\b= []/\H l\(.lst a)/\a[a.length-1]?\y/\Q y^upd H l^.lst a.dropLast
def UK:MA X "list.pop" abP:=by
 intro c s t H x w v A Q I f g h;rfl';let⟨l,C,y,rfl,rfl,d,j,q⟩:=h;subst f;have b:=g.zero;subst b;let⟨z,a,n,r,k,e⟩:=I.rY d;let⟨u,m,o⟩:=r.get j;ac_rfl
 have p:a.toArray[a.toArray.size-1]?\u:=by
  show a.toArray[a.length-1]?\u;rw[<-gm,<-k];exact m
 refine adq F.slot_list_pop #[_,e,rfl] F.entry_list_pop (F.args_list_pop_1 _) (MeetsSeq.list_pop_last l a.toArray n u p^by rw[cn];lia) #[e,?_]
 refine#[y,_,I.Hq (its':=a.dropLast) d e ?_ r.dropLast ?_,o,q]
 .show a.toArray.eraseIdxIfInBounds (a.toArray.size-1)=a.dropLast.toArray
  rw[cn,ad9,GH]
 .rw[List.length_dropLast]
  lia
def Vl:V->List V->Hp->VK->Prop:=λx b H Q=>∃l a i k y,x= .ref l/\b= [.int i]/\H l\(.lst a)/\-(2<<<63)<=i/\i<2<<<63/\seqIndex? i a.length\k/\a[k]?\y/\Q y^upd H l^.lst^a.eraseIdx k
def NB:MA X "list.pop" Vl:=by
 intro b s E H x G v J Q I d f h;let⟨l,g,i,k,y,rfl,rfl,c,j,m,o,p,q⟩:=h;cases d;let⟨u,rfl,A⟩:=f.one;let⟨t,rfl⟩:=A;let⟨z,a,n,r,B,e⟩:=I.rY c;let⟨w,hw,C⟩:=r.get p
 refine adq F.slot_list_pop #[_,e,rfl] F.entry_list_pop (F.args_list_pop_2 _ _)
  (MeetsSeq.list_pop_at l a.toArray n i t k w (fitsIndex_both j m) (by rw[cn,<-B];exact o) (by rw[<-gm];exact hw)^by rw[cn];lia) #[e,?_]
 refine#[y,_,I.Hq (its':=a.eraseIdx k) c e ?_ (r.eraseIdx k) ?_,C,q]
 .show a.toArray.eraseIdxIfInBounds k=(a.eraseIdx k).toArray
  rw[ad9]
 .have:=An g k
  lia
def abM:R2:=λx y H Q=>∃l b a c,x= .ref l/\y= .ref b/\H l\(.lst a)/\H b\(.lst c)/\a.length+c.length<=sizeLine/\∀p,H p=none->Q (.ref p)^upd H p^.lst (a++c)
def Fd:OpR X (i_ .Add) abM:=by
 intro c s t H x y v u Q I f g h;rfl';let⟨l,b,A,B,rfl,rfl,j,k,C,q⟩:=h;subst f;subst g;let⟨z,a,n,r,E,e⟩:=I.rY j;let⟨F,d,G,m,J,o⟩:=I.rY k;ac_rfl;refine PySem.P.add_list e o ?_^by rw[cn,cn];lia
 have p:a.toArray++d.toArray=(a++d).toArray:=by simp
 rw[p];exact#[.ref _,_,I.QV (t':=s.toks) (r.append m)^by rw[dg];lia,rfl,q _ I.fresh]
end
section
variable {prog:Program} {w:World} {A:Around} {E:Value->Shared->Prop} {s:Shared}
end
section
variable {X:Cx}
end
end L2
namespace Att
open PySem PySem.W PySem.Calls PyProof.Rows
def w6:∀(c:List Int)(d:List b_),WellAll P h d^c.map WData.int->jq d c:=by
 intro c
 induction c with
 |nil=>
  intro d w;rw[xW] at w;cases w;exact .nil
 |cons n c e=>
  intro d w;rw[cH] at w;cases w with
  |cons a b=>
   cases a;exact .cons _ _^e _ b
theorem Kt{l:OpenLaw}(o:l.most\n) 
  (j:l.row.toRowW.claim.pre args=true) (p:WellAll P h c args):
  ∃a k b,c= [Value.ref a]/\args= [WData.list^b.map WData.int]/\h.get? a\{cls:= .type "list",data:= .seq k.toArray}/\jq k b/\b.length<=n:=by
 have i:WShape.hasAll [] args [.list .int]=true:=(pre_splitW j).1;have m:l.pre.holds [] {args:=args}=true:=(pre_splitW j).2;let⟨d,r,rfl,s,t⟩:=hasAllW_cons i;obtain rfl:=hasAllW_nil t;let⟨A,rfl,u⟩:=hasW_list s;let⟨b,rfl⟩:=items_int u
 have e:b.length<=n:=by
  unfold OpenLaw.pre at m
  have f:(WTm.not^.lt (.lit^.int (n:Int))^.len^.arg 0).holds [] {args:= [.list^b.map .int]}=true:=by
   have f:=(holds_andW m).1;rw[o] at f;exact f
  have g:=condW_of f^w_not^w_lt w_lit^w_len_list^w_arg rfl;rw[aG] at g;refine ke λq=>?_;have v:(n:Int)<((b.length:Nat):Int):=()
  first
   | (rw[B v] at g;exact absurd g ∅)
   | (simp at g;lia)
 cases p with
 |cons w x=>
  cases x;cases w with
  |list y z=>exact#[_,_,b,rfl,rfl,y,w6 b _ z,e]
def Kf(l:OpenLaw)(args:List WData):l.row.toRowW.claim.post args (.bool true) args=true:=
 postW_of (r:=l.row.toRowW) (X:=(true==true))
  (show WShape.has [] (.bool true) .bool=true by first|rfl|decide|simp[WShape.has,WShape.arms,WShape.armsAll])
  (show(WTm.eq .res^.lit^.bool true).value [] {args:=args,res:=some^.bool true,after:=args}\(.bool (true==true)) from w_eq_bool (w_res rfl) w_lit) rfl
def Ea{l:OpenLaw} 
  (C:l.most\n) (E:d.params.defaults= [])
  (call:∀(w:f5)(e b:c_)(m u:fA->Option b_)(j:Addr)(o:Obj)(v p g:b_)(a:Addr)(i:List b_)(s:List Int),
   Ground q c [] x w e m u b.heap->y w b.heap->
   b.heap.get? j\o->o.data= .func^docDef d.name d.params d.body d.scope v p g->b.heap.CodeRec p d.name->m d.name\(.ref j)->
   b.heap.get? a\{cls:= .type "list",data:= .seq i.toArray}->jq i s->s.length<=n->b.gens= #[]->
   hB (ei l.prog w) callerA (.call (.ref j) #[[.ref a],[]]) (λr t=>r= .ok^.ret^.bool true/\OldK b.heap t.heap/\t.os=b.os/\lv t.gens) b):
  WalkO q c x y l.row.toRowW d [] (λf i=>eg f i):=by
 intro w e b m u G Y j o v p g F kV H I J z L M A B as N O P Q wV;obtain rfl:F= .none:=Dflts.none z E;obtain rfl:kV= .none:=Dflts.noKw z;rfl';let⟨a,i,s,rfl,rfl,S,h,k⟩:=Kt C N Q;ac_rfl;refine enter_call (ac1 (call w e b m u j o v p g a i s G Y H (fd_plain I) J L S h k M) λr t T=>?_);let⟨rfl,X,Z,h4⟩:=T;exact#[.inl #[.bool true, .bool true,[],rfl,λ_=>rfl, .bool true,Kf l _,λ_=>#[List.Pairwise.nil,λ_ hm=>(nomatch hm)]],X,Z,h4]
section
variable {prog:Program} {w:World} {A:Around} {E:Value->Shared->Prop} {s:Shared} {K:Frag}
end
end Att
namespace L2
open PySem PySem.Spec PyProof.Rows
theorem tW:∀{a:List b_}{b:List Int},jq a b->Vals (b.map V.int) a
 |_,_, .nil=> .nil
 |_,_, .cons n t h=> .cons #[t,rfl]^tW h
def OP(H:Hp):Prop:=∀b,H b=none\/∃o a,H b\(.sY o^.lst a)
theorem Nw{P:fw}{w:f5}{K:ad}{l G:fA->Option b_}{Q:rF}{k:Nat}{I a:Addr}{R:hH}{x:fA}{S:Sp}{c:c_}{j:List b_}{p:List Int}
  (T:K.In c.heap) (X:c.heap.Ns gt l) (f:c.heap.Ns builtinsNs G) (Jk:∀x:fA,x≠"__name__"->G x=gq x) (J:c.heap.NoLimit) (hg:c.gens= #[])
  (C:c.heap.get? a\{cls:= .type "list",data:= .seq j.toArray}) (Y:jq j p) (Z:p.length<=sizeLine) (hr:bP k callerA)
  (F:∀base:Heap,K.In base->base.Ns gt l->FnOk P w K l base Q k I R [x] S) (Yo:∀(s:c_)(u:b_),BindsTo s R #[[u],[]] [(x,u)])
  (Cg:∀H:Hp,OP H->aL K H a^p.map V.int->S [.ref a] H (λv _=>v= .bl true) λ_ _ _=>False)
  (X9:∀H e g,Q [] H c (λ_ _ _=>False) e g->False):
  hB (ei P w) callerA (.call (.ref I) #[[.ref a],[]]) (λr g=>r= .ok^.ret^.bool true/\OldK c.heap g.heap/\g.os=c.os/\lv g.gens) c:=by
 have rv:=tW Y;have L:=Y.length
 have i:∀H:Hp,OP H->aL K H a^p.map V.int->iz P w H c.heap->(∀b,H b≠none->b=a)->(H a≠none->K.lookup a=none)->
   hB (ei P w) callerA (.call (.ref I) #[[.ref a],[]]) (λr g=>r= .ok^.ret^.bool true/\OldK c.heap g.heap/\g.os=c.os/\lv g.gens) c:=by
  intro H hO hS hok hA hK;have Gh:∀{b:Addr}{o:Obj},c.heap.get? b\o->H b=none->(uN c.heap H).get? b\o:=λe n=>Nk e n
  have Q4:∀{b:Addr}{o:Obj}{t:Array DictEntry}{y:Nat},c.heap.get? b\o->o.data= .dict t y->H b=none:=λ {b o t y} e d=>by
   cases q:H b with
   |none=>rfl
   |some u=>
    have M:b=a:=hA b^by rw[q];simp
    subst M;rw[C] at e;cases e;have d':Data.seq j.toArray _=Data.dict t y:=d;cases d'
  have E:∀{b:Addr}{m:fA->Option b_},c.heap.Ns b m->(uN c.heap H).Ns b m:=λ {b m} #[o,t,y,e,d,r]=>#[o,t,y,Gh e^Q4 e d,d,r]
  have A:K.In^uN c.heap H:=λb o e=>Gh (T b o e) (by
   cases q:H b with
   |none=>rfl
   |some u=>
    have M:b=a:=hA b^by rw[q];simp
    subst M;rw[hK^by rw[q];simp] at e;cases e)
  have hM:Mod K l^uN c.heap H:=#[A,E X,#[G,E f,Jk],let #[mc,h1,h2]:=J;#[mc,E h1,h2]];have e0:Env0 P w K l (uN c.heap H) callerA [] c H:=#[rfl,hM,λb o e=>Rb e,afw^Js _ _,trivial,λb f=>absurd (show b∈([]:List Addr) from f)^by simp,hok, .of_eq hg]
  refine ac1 ((F _ A^E X).run callerA [] c H #[[.ref a],[]] [.ref a] [.ref a] _ _ hr e0 (Yo c^.ref a) (.cons rfl .nil)^Cg H hO hS) λr g h=>?_;cases r with
  |error e=>exact(X9 H e g h).elim
  |ok fl=>
   cases fl with
   |next=>exact False.elim h
   |brk=>exact False.elim h
   |cont=>exact False.elim h
   |ret u=>
    rfl';obtain⟨v,H',os,bare,un,N,r',q⟩:=h;have q':v= .bl true:=q;subst q';ac_rfl;obtain rfl:u=Value.bool true:=r';refine#[rfl,OldK.of_keep λb o e=>?_,os,bare];cases q:H b with
    |none=>exact un.keep b o e q (by intro z;exact absurd (show b∈([]:List Addr) from z)^by simp) (by simp)
    |some u=>
     rcases hO b with z| ⟨ob,xs,z⟩
     .rw[q] at z;cases z
     .have z2:=un.frzs b ob _ z
      obtain⟨e1,_⟩:=hok b _ z;obtain⟨e2,_⟩:=N b _ z2;rw[e] at e1;cases e1;exact e2
 cases O:K.lookup a with
 |some o=>
  have e:=T a o O;rw[C] at e;cases Do e;refine i (λ_=>none) (λ_=> .inl rfl) (.inr #[_,j.toArray,_,O,rfl,rfl,rfl,by rw[cn,L];exact Z,by simpa using rv]) (λb u z=>by have B:(none:Option HO)\u:=z;cases B) (λb z=>absurd rfl z) λz=>absurd rfl z
 |none=>
  refine i (λb=>if b=a then some^.sY {cls:= .type "list",data:= .seq j.toArray}^.lst^p.map V.int else none) (λb=>?_) (.inl^.inr #[{cls:= .type "list",data:= .seq j.toArray},ir rfl]) (λb u z=>?_) (λb z=>?_) λ_=>O
  .by_cases f:b=a
   .exact .inr #[_,_,ir f]
   .exact .inl^tz f
  .by_cases f:b=a
   .have B:=(ir f).symm.trans z
    obtain rfl:=Do B;subst f;exact#[C,by rw[aG];exact Z,j,_,rv,C]
   .have B:=(tz f).symm.trans z
    cases B
  .by_cases f:b=a
   .exact f
   .exact absurd (tz f) z
def SO{l:db}{n k:Nat}{q:fw}{i:List fA}{I:(fA->Option b_)->Heap->Prop}{A:f5->Heap->Prop}{d:DefRec}{K:Params->ad}{CX:f5->rF}{sp:f5->Sp}{x:fA}
  (J:l.most\n) (L:n<=sizeLine) (M:d.params.defaults= []) (N:bP k callerA)
  (O:∀(w:f5)(h:Heap),A w h->(K w.params).In h)
  (F:∀(w:f5)(m:fA->Option b_)(r:Addr)(h:Heap),(K w.params).In h->h.Ns gt m->m d.name\(.ref r)->
   ∃y:hH,(∀(s:c_)(u:b_),BindsTo s y #[[u],[]] [(x,u)])/\
    ∀base:Heap,(K w.params).In base->base.Ns gt m->FnOk l.prog w (K w.params) m base (CX w) k r y [x]^sp w)
  (P:∀(w:f5)(H:Hp)(a:Addr)(t:List Int),t.length<=n->OP H->aL (K w.params) H a^t.map V.int->sp w [.ref a] H (λv _=>v= .bl true) λ_ _ _=>False)
  (Q:∀(w:f5)(H:Hp)(s:c_)(e:b_)(z:c_),CX w [] H s (λ_ _ _=>False) e z->False):
  eh q i I A l.row.toRowW d [] (λf B=>eg f B):=by
 refine Att.Ea J M λw C p m mb r o pm cd R a B t G Y ho hd gK S X j c Z=>?_;have E:=O w _ Y;let⟨y,hb,hF⟩:=F w m r _ E G.T.g S;exact Nw E G.T.g G.T.b G.T.builtins G.T.nolimit Z X j (iT c L) N hF hb (λH hO hS=>P w H a t c hO hS) λH e z=>Q w H p e z
def inClass(s:Stmt)(j:Nat):Stmt:=match s with
 | .ClassDef _ _ _ body _ _ _ _ _ _ _=>body.getD j^.Pass #[0,0,0,0]
 |_=> .Pass #[0,0,0,0]
def gP(s:Stmt):Arguments:=match s with
 | .FunctionDef _ a _ _ _ _ _ _ _ _=>a
 |_=>{posonlyargs:= [],args:= [],vararg:=none,kwonlyargs:= [],kw_defaults:= [],kwarg:=none,defaults:= []}
def cY(s:Stmt):List Stmt:=match s with
 | .FunctionDef _ _ b _ _ _ _ _ _ _=>b
 |_=> []
def aq(s:Stmt):Scope:=match s with
 | .FunctionDef _ _ _ _ _ _ sc _ _ _=>sc
 |_=>{kind:= .function,names:= [],isGenerator:=false,isCoroutine:=false}
abbrev fe:rF:=λ_ _ _ _ _ _=>False
abbrev E0:XK:=λ_ _ _=>False
def bY:Passes fe X E0:=λ_ _ _ _ _ _ _ h=>h.elim
structure sN (K:ad) (x qual:fA) (st:Stmt) (f:Addr) (fd:hH):Prop where
 ex:∃(oc:b_)(od:Option Addr)(kV doc pm:b_)(an:Option Addr)(aT ct:b_)(Ff:Array^Option b_),
  fd=bv x qual (gP st) (cY st) (aq st) .none kV doc pm an aT ct/\K.lookup f\#[oc,od, .func fd,Ff]/\bd K aT qual=true
 kp:am K^.ref f=true
section
variable {P:Program} {w:World} {K:ad} {mg:Str->Option Value} {base:Heap}
def sN.ok{x a:fA}{st:Stmt}{f:Addr}{e:hH}{N c:List fA}{k:Nat}{d:Sp}(F:sN K x a st f e)(S:aE N c^aq st)(len:∀vs H Q E,d vs H Q E->vs.length=c.length)
  (g:∀(b:b_)(A:gs)(outer:List oy)(s:c_)(H:Hp)(vs:List V)(Q:VK)(E:XK),bP k^A.deeper^lc a (aq st) s.heap.objs.size f b->d vs H Q E->
   ∃t,jT (j5 fe P w K mg base N a (aq st) f b A outer s H E).lB (cY st) t/\t {nx:=λ_ i=>Q .aQ i,rt:=Q} (start N vs) H):FnOk P w K mg base fe (k+1) f e c d:=by
 rfl';let⟨u,v,kV,l,y,z,b,B,C,rfl,m,n⟩:=F.ex;ac_rfl;refine PQ m n S len λA outer s H vs Q E o p=>?_;let⟨t,h,q⟩:=g b A outer s H vs Q E o p;exact#[t,h.lB,q]
def sN.binds{st:Stmt}{ps:List fA}(F:sN K x a st f j)
  (h:∀(kV b c:b_)(d:Option Addr)(e g:b_)(i:List b_),i.length=ps.length->nC (bv x a (gP st) (cY st) (aq st) .none kV b c d e g) #[i,[]]=pure^ps.zip i):Binds K j ps []:=by
 rfl';let⟨m,n,kV,b,c,d,e,g,o,rfl,p,q⟩:=F.ex;ac_rfl;exact .all^h kV b c d e g
def nG{x a:fA}{st:Stmt}{f:Addr}{i:b_}{j e:Option Addr}{m:Array^Option b_}{kV b g d h:b_}(l:K.lookup f\#[i,j, .func^bv x a (gP st) (cY st) (aq st) .none kV b g e d h,m])
  (c:bd K d a=true) (k:am K^.ref f=true):sN K x a st f^bv x a (gP st) (cY st) (aq st) .none kV b g e d h:=#[#[i,j,kV,b,g,e,d,h,m,rfl,l,c],k]
end
def bA(h:n<=1000):n<sizeLine:=qH h ∅
section
variable {X:Cx}
def pv(i:Nat)(a:X.N[i]?\x<|>zn)(b:rK X.env.scope x<|>xz)(c:(x==("__debug__":fA))=false<|>zm)
  (d:(x==("__classdict__":fA))=false<|>zm):PE X (.Name x pos)^yx i:=LP a b c d
end
def cv{A B:Prop}(h:B):if false=true then A else B:=by
 rw[tz eD];exact h
def cZ{A B:Prop}(h:A):if true=true then A else B:=by
 rw[ir rfl];exact h
def yn{c A B:Prop} [Decidable c] (a:c->A) (b:¬c->B):if c then A else B:=by
 by_cases h:c
 .rw[ir h]
  exact a h
 .rw[tz h]
  exact b h
def aC(H a:Hp):Prop:=∀b o,H b\o->a b\o
def aC.refl(H:Hp):aC H H:=λ_ _ h=>h
def aC.trans{H d e:Hp}(a:aC H d)(b:aC d e):aC H e:=λc o h=>b c o^a c o h
def aC.free{H a:Hp}(e:aC H a)(h:a l=Option.none):H l=Option.none:=by
 cases q:H l with
 |none=>rfl
 |some o=>
  rw[e l o q] at h;cases h
def aC.seq{K:ad}{H b:Hp}{a:Addr}{xs:List V}(e:aC H b)(h:aL K H a xs):aL K b a xs:=by
 rcases h with (h| ⟨o,h⟩) |h
 .exact .inl^.inl^e _ _ h
 .exact .inl^.inr #[o,e _ _ h]
 .exact .inr h
def jG(env:Env):List (Str×NameKind)->List (Str×Addr)->List (Str×Addr)
 | [],a=>a
 | (n,k)::r,a=>if k==NameKind.free then jG env r ((n,(env.cells.lookup n).getD 0)::a) else jG env r a
def gv(h:∀x∈b.names,x.2= .free->∃c,env.cells.lookup x.1\c):closureFor b env=pure^jG env b.names []:=by
 simp only[closureFor]
 have j:∀(names:List (fA×jI))(d:List (fA×Addr)),(∀x∈names,x.2= .free->∃c,env.cells.lookup x.1\c)->
   (forIn names d λx e=>if (x.snd==NameKind.free)=true then(do let a <-cellOf env x.fst;pure^ForInStep.yield ((x.fst,a)::e)) else pure^ForInStep.yield e)=(pure^jG env names d:l_ _):=by
  intro names
  induction names with
  |nil=>intro d _;rfl
  |cons x r l=>
   obtain⟨n,k⟩:=x;intro d h;rw[afc,jG];have f:=λd=>l d λy m=>h y^fq _ m;cases g:k==NameKind.free with
   |false=>
    simp only[g,fo,Pi];exact f d
   |true=>
    have o:k= .free:=by simpa using g
    obtain⟨c,i⟩:=h (n,k) dH o;simp only at i;simp only[ac4,cellOf,i];exact f _
 rw[j _ _ h];rfl
theorem gu:∀(names:List (fA×jI))(a:List (fA×Addr)),(∀x∈names,x.2= .free->∃c,env.cells.lookup x.1\c)->(∀x c,a.lookup x\c->env.cells.lookup x\c)->
  ∀x c,(jG env names a).lookup x\c->env.cells.lookup x\c
 | [],a,_,b=>b
 | (n,k)::r,a,h,b=>by
  rw[jG]
  split
  .rename_i g
   refine gu r _ (λy d=>h y^fq _ d) λx c e=>?_;let⟨l,f⟩:=h (n,k) dH^~~~g
   rw[wg] at e
   split at e
   .rename_i i
    have j:x=n:=by simpa using i
    subst j;simp only at f;rw[f] at e ⊢;exact e
   .exact b x c e
  .exact gu r a (λy d=>h y^fq _ d) b
theorem qO{env:Env}:∀(names:List (Str×NameKind))(a:List (Str×Addr))(x:Str),((x,NameKind.free)∈names\/∃c,a.lookup x\c)->∃c,(jG env names a).lookup x\c
 | [],a,x,h=>by
  rcases h with h|h
  .cases h
  .exact h
 | (n,k)::r,a,x,h=>by
  rw[jG]
  split
  .rename_i b
   refine qO r _ x ?_
   by_cases e:x=n
   .subst e;exact .inr #[(env.cells.lookup x).getD 0,by simp[wg]]
   .have ne:(x==n)=false:=by simpa using e
    rcases h with h| ⟨c,h⟩
    .rcases cQ.mp h with z|z
     .cases z;exact absurd rfl e
     .exact .inl z
    .exact .inr #[c,by rw[wg,ne];exact h]
  .rename_i b
   refine qO r a x ?_
   rcases h with h|h
   .rcases cQ.mp h with z|z
    .cases z;exact absurd rfl b
    .exact .inl z
   .exact .inr h
def k4(src:List^Option Nat)(a:St):St:=src.map λo=>o.bind λi=>(a[i]?).bind id
def dA(a:Scope)(b:List fA):List^Option Nat->List fA->Prop
 | [],[]=>True
 |none::r,_::n=>dA a b r n
 |some i::r,x::n=>b[i]?\x/\a.names.lookup x\.free/\dA a b r n
 |_,_=>False
theorem dA.len:∀{src:List^Option Nat}{NC:List fA},dA a b src NC->src.length=NC.length
 | [],[],_=>rfl
 |none::r,_::n,h=>by have:=dA.len (src:=r) (NC:=n) h;simp[this]
 |some i::r,_::n,h=>by have:=dA.len (src:=r) (NC:=n) h.2.2;simp[this]
 | [],_::_,h=>h.elim
 |none::_,[],h=>h.elim
 |some _::_,[],h=>h.elim
theorem dA.at{a:Scope}:∀{src:List^Option Nat}{NC:List fA}{j i:Nat}{x:fA},dA a d src NC->src[j]?\(some i)->NC[j]?\x->d[i]?\x/\a.names.lookup x\.free
 | [],[],_,_,_,_,h,_=>by simp at h
 |none::r,_::n,0,_,_,_,h,_=>by simp at h
 |none::r,_::n,j+1,i,x,h,b,c=>dA.at (src:=r) (NC:=n) (j:=j) h (~~~b)^~~~c
 |some k::r,y::n,0,i,x,h,b,c=>by
  have e:k=i:=by simpa using b
  have f:y=x:=by simpa using c
  subst e f;exact#[h.1,h.2.1]
 |some k::r,_::n,j+1,i,x,h,b,c=>dA.at (src:=r) (NC:=n) (j:=j) h.2.2 (~~~b)^~~~c
 | [],_::_,_,_,_,h,_,_=>h.elim
 |none::_,[],_,_,_,h,_,_=>h.elim
 |some _::_,[],_,_,_,h,_,_=>h.elim
structure bC (X:Cx) (scope:Scope):Prop where
 kind:scope.kind= .function
 names:∀x∈scope.names,x.2= .local->scope.names.lookup x.1\.local
 nocell:∀x∈scope.names,x.2≠ .cell
 free:∀x∈scope.names,x.2= .free->X.env.kindOf x.1\.cell\/X.env.kindOf x.1\.free
theorem gW{env:Env}:∀(names:List (Str×NameKind))(x:Str),
  (names.map λ(n,k)=>if (k==NameKind.free&&env.scope.kind== .function&&env.kindOf n==some .cell) then(n,NameKind.cell) else(n,k)).lookup x=
   (names.lookup x).map λk=>if (k==NameKind.free&&env.scope.kind== .function&&env.kindOf x==some .cell) then NameKind.cell else k
 | [],_=>rfl
 | (n,k)::r,x=>by
  have c:=gW (env:=env) r x;show bi x ((if (k==NameKind.free&&env.scope.kind== .function&&env.kindOf n==some .cell)=true then(n,NameKind.cell) else(n,k))::_)=_;cases b:x==n with
  |true=>
   have e:x=n:=by simpa using b
   subst e
   by_cases a:(k==NameKind.free&&env.scope.kind== .function&&env.kindOf x==some .cell)=true
   .rw[ir a,wg,wg]
    simp only[b];show some NameKind.cell\(if _ then _ else _);rw[ir a]
   .rw[tz a,wg,wg]
    simp only[b];show some k\(if _ then _ else _);rw[tz a]
  |false=>
   by_cases a:(k==NameKind.free&&env.scope.kind== .function&&env.kindOf n==some .cell)=true
   .rw[ir a];simp only[wg,b];exact c
   .rw[tz a];simp only[wg,b];exact c
def mem_lookup{names:List (Str×NameKind)}{x:Str}{k:NameKind}(h:names.lookup x\k):(x,k)∈names:=ac6 h
def bH(X:Cx)(a:Scope)(NC:List Str)(ex:List Addr)(s:Shared)(H:Hp):Cx:=
 {X with N:=NC,s₀:=s,H₀:=H,env:=compEnvC a (jG X.env a.names []) s.heap.objs.size X.env,outer:=X.stack,stack:=X.stack,ex:=ex,fn:=λ_=>false,pn:= [],xe:=λ_ _=>False}
section
variable {X:Cx} {pins:List (Addr×Obj)} {σ:St} {H:Hp} {s:c_} {scope:Scope} {NC:List fA} {ex:List Addr} {src:List^Option Nat}
theorem bC.cells(c:bC X scope)(ok:X.Ok):∀x∈scope.names,x.2= .free->∃c,X.env.cells.lookup x.1\c:=λx a e=>ok.has x.1^c.free x a e
def bC.Y9(c:bC X scope)(h:(compEnvC scope (jG X.env scope.names []) C X.env).kindOf x\k)(i:k= .cell\/k= .free):scope.names.lookup x\.free:=by
 have a:(m8 scope X.env).names.lookup x\k:=h;unfold m8 at a;rw[gW] at a;cases e:scope.names.lookup x with
 |none=>rw[e] at a;cases a
 |some b=>
  have g:=c.nocell _^mem_lookup e;rw[e] at a;have f:(if (b==NameKind.free&&X.env.scope.kind== .function&&X.env.kindOf x==some .cell) then NameKind.cell else b)=k:=Do a
  by_cases d:b= .free
  .rw[d]
  .have j:(b==NameKind.free)=false:=by simpa using d
   rw[j,afp,afp,tz eD] at f
   rcases i with z|z
   .rw[f] at g;exact absurd z g
   .rw[f] at d;exact absurd z d
def O3(I:Inv X pins σ H s)(c:bC X scope)(f:∀b∈ex,eJ X pins H b)(g:∀b∈ex,b<s.heap.objs.size):(bH X scope NC ex s H).Ok where
 mod:=I.ok.mod
 kind:=c.kind
 glob:=I.ok.glob
 blt:=I.ok.blt
 above:=bg _
 inj:=λx y d i j=>I.ok.inj x y d (gu _ _ (c.cells I.ok) (λ_ _ z=>by cases z) x d i) (gu _ _ (c.cells I.ok) (λ_ _ z=>by cases z) y d j)
 has:=λx k=>qO _ _ x (.inl^mem_lookup^by rcases k with h|h<;>exact c.Y9 h^by simp)
 cab:=λ_ _ z=>by cases z
 hd:=I.ok.hd
 frames:=I.ok.frames
 stk:= .inl rfl
 exf:=λb a=>#[bS^g b a,λx d e=>(f b a).2.2.2.2.1 x d^gu _ _ (c.cells I.ok) (λ_ _ z=>by cases z) x d e]
 bs:=I.bs
 bsz:=iT I.ok.bsz I.sz
 noex:=λb o e a=>by
  rcases(f b a).2.2.2.1 with z|z
  .exact I.ok.noex b o e z
  .exact absurd (cO (Da e)^iT I.ok.bsz z) (kg _)
 exfs:=λb a z=>(cQ.mp^I.Fz b z).elim (f b a).2.1 (f b a).2.2.1
 funs:=I.stack
 frf:=I.Bl
theorem CG{tk:Nat}(I:Inv X pins σ H s)(c:bC X scope)(A:dA scope X.N src NC)(E:∀b∈ex,eJ X pins H b)(F:∀b∈ex,b<s.heap.objs.size)
  (G:h.Ns s.heap.objs.size^λ_=>none) (J:Heap.SameBut s.heap.objs.size (s.heap.push C) h):
  Inv (bH X scope NC ex s H) [] (k4 src σ) H {s with heap:=h,toks:=tk}:=by
 have f:∀b o,s.heap.get? b\o->h.get? b\o:=λb o e=>J.extBut b o (bS^Da e)^AC _ e;have t:∀x d,(jG X.env scope.names []).lookup x\d->X.env.cells.lookup x\d:=λx d=>gu _ _ (c.cells I.ok) (λ_ _ z=>by cases z) x d
 have a:∀d v,s.heap.IsCell d v->h.IsCell d v:=λd v #[o,L,k]=>#[o,f d o L,k];refine#[O3 I c E F,rfl,I.bare,Un.kept f,#[_,G,λj x v M O Y=>?_],λx d e=>?_,I.hok.fresh^bg _,λx d e=>I.freeC x d^t x d e,λp P=>absurd (show p∈([]:List (Addr×Obj)) from P)^by simp,I.hok.kept f,?_]
 .have g:(k4 src σ)[j]?\(some v):=O
  unfold k4 at g;rw[dh] at g;cases w:src[j]? with
  |none=>rw[w] at g;cases g
  |some o=>
   rw[w] at g;cases o with
   |none=>cases g
   |some i=>
    have n:(σ[i]?).bind id\v:=Do g
    have Q:σ[i]?\(some v):=by
     cases q:σ[i]? with
     |none=>rw[q] at n;cases n
     |some z=>rw[q] at n;exact KM some n
    rfl';let⟨S,y⟩:=A.at w M;have B:=c.free _ (mem_lookup y) rfl;let⟨m,hn,T⟩:=I.loc;let⟨u,r,l⟩:=T i x v S Q^B.elim (λz=> .inr^.inl z)^λz=> .inr^.inr z;ac_rfl;refine#[u,r, .inr #[?_,?_]]
    .show(m8 scope X.env).names.lookup x=_\/(m8 scope X.env).names.lookup x=_
     unfold m8;rw[gW,y]
     by_cases z:(NameKind.free==NameKind.free&&X.env.scope.kind== .function&&X.env.kindOf x==some .cell)=true
     .left;simp only[BH,z,ac4]
     .right;simp only[BH,z];rfl
    .obtain⟨d,k⟩:=qO (env:=X.env) scope.names [] x^.inl^mem_lookup y
     exists d,k
     rcases l with ⟨l,_⟩ | ⟨_,d',e,z⟩
     .exfalso;rcases B with z|z<;>(rw[l] at z;cases z)
     .rw[t x d k] at e;cases e;exact a d _ z
 .obtain⟨v,z⟩:=I.cell x d^t x d e
  exact#[v,a d v z]
 .show(k4 src σ).length=NC.length
  unfold k4;rw[aG];exact A.len
def comp_back(I:Inv X pins σ H s)(p:∀b∈ex,eJ X pins H b)(J:Inv (bH X scope NC ex s H) m l g c)
  (r:Heap.SameBut s.heap.objs.size c.heap i):Inv X pins σ g {c with heap:=i}:=by
 have h:∀b o,b≠s.heap.objs.size->c.heap.get? b\o->i.get? b\o:=λb o a e=>r.extBut b o a e;have ne:∀b o,s.heap.get? b\o->b≠s.heap.objs.size:=λb o e=>bS^Da e;have u:=J.base;refine I.IH (ch:=ex) (show c.os=s.os from J.os) #[λb o e n a f=>h b o (ne b o e)^u.keep b o e n a f,λb o e n a f=>?_,u.free,λb o e f=>?_,u.tups,u.frzs,u.tbls] ?_ J.bare λb a=>?_
 .obtain⟨t,q⟩:=u.slot b o e n a f
  exact#[t,h b _ (ne b o e) q]
 .obtain⟨j,q⟩:=u.there b o e f
  exact#[j,h b j (ne b o e) q]
 .intro b o e
  have k:∀b o,g b\o->b≠s.heap.objs.size:=λb o e z=>by
   have:=J.free
   rw[z] at e;have w:g s.heap.objs.size=none:=this;rw[w] at e;cases e
  refine(J.hok b o e).oQ (λd v x q=>h d v ?_ q) (λ_ q=>q) λ_ _ q=>q
  rcases x with z|z
  .rw[z];exact k b o e
  .exact k d _ z
 .obtain⟨_,y,_,A,B,C⟩:=p b a
  exact#[A,y,B,C]
end
def kJ(X:Cx)(b:List gc)(t:TT):Prop:=
 ∀(a:List (Addr×Obj))(s:c_)(d:St)(H:Hp)(Q:Bool->Hp->Prop),Inv X a d H s->t d H Q->
  e_ (ei X.prog X.w) X.A (forIn b true λc r=>if r=true then do let ok <-isTrue c X.env^gi c X.env;pure^ForInStep.yield ok else pure^ForInStep.yield r) (TP X a d Q) X.xe s
def WZ:TT:=λ_ H Q=>Q true H
def vy:kJ X [] WZ:=λ_ _ _ H _ I h=>wpAny_tests_nil #[H,I,h]
def HE(h:PT X c t):kJ X [c] t:=λa s b H Q I q=>wpAny_tests_one^h a s b H Q I q
def LCW(J:It)(g:TG)(o:TT)(p:TE)(D:Addr)(Q:VK)(q:St)(H:Hp):Prop:=
 ∃W:Nat->Nat->St->Hp->Prop,(∃m,W 0 m q H)/\∀i m e a,W i m e a->
  (J.stop i a/\Q (.ref D) a)\/
  (J.go i a/\∃N:St->Hp->Prop,(∀f h,N f h->∃j,j<m/\W (i+1) j f h)/\∀x k,J.yld i a x k->g x e k λc r=>o c r λb l=>
   if b=true then p c l λv n=>∃d,n D\(.lst d)/\d.length<sizeLine/\N c^upd n D^.lst (d++ [v]) else N c l)
def VG(c:TI)(g:TG)(d:TT)(e:TE)(src:List^Option Nat):TE:=λa H Q=>c a H λJ b=>∀D,b D=none->LCW J g d e D Q (k4 src a)^upd b D^.lst []
section
variable {X:Cx} {elt iter tg:gc} {ifs:List gc} {scope:Scope} {pos:jP} {wi:TI} {g:TG} {tt:TT} {te:TE} {src:List^Option Nat} {NC:List fA}
theorem xZ{RR:b_->Addr->ny->c_->Prop}{Q:VK}
  (hc:X.calm=true) (c:bC X scope) (eL:dA scope X.N src NC) (I2:Inv X j σ I B) (T:Turn X.prog X.w X.K tg J F it tn) (iP:tn 0 B.heap) (f2:∀b∈F,eJ X j I b)
  (hg:∀s H,PG (bH X scope NC F s H) tg g) (ht:∀s H,kJ (bH X scope NC F s H) ifs tt) (he:∀s H,PE (bH X scope NC F s H) elt te)
  (hW:∀D,I D=none->∃W:Nat->Nat->St->Hp->Prop,(∃m,W 0 m (k4 src σ)^upd I D^.lst [])/\∀i m dS I,W i m dS I->
   (J.stop i I/\Q (.ref D) I)\/
   (J.go i I/\∃N:St->Hp->Prop,(∀G a,N G a->∃m',m'<m/\W (i+1) m' G a)/\∀x Y,J.yld i I x Y->g x dS Y λfb H4=>tt fb H4 λb H5=>
    if b=true then te fb H5 λv H6=>∃ys,H6 D\(.lst ys)/\ys.length<sizeLine/\N fb^upd H6 D^.lst (ys++ [v]) else N fb H5))
  (Ji:∀D C Y G a M,Inv X j σ Y C->(∀b∈F,eJ X j Y b)->Inv (bH X scope NC F C Y) [] G a M->Q (.ref D) a->RR (.ref D) C.heap.objs.size (.ok .next) M):
  e_ (ei X.prog X.w) X.A (newList []) (λacc vT=>e_ (ei X.prog X.w) X.A (kO scope X.env.globals (jG X.env scope.names []) [] X.env.qual none .none^some X.env) (λlG vU=>
   hB (ei X.prog X.w) X.A (.compStart (.ListComp elt [#[tg,iter,ifs,0]] scope pos) 0 (.ref it) acc {lG with scope:=m8 scope X.env}) (RR acc lG.locals) vU) E vT) E B:=by
 rfl';obtain⟨W,⟨m0,w0⟩,turn⟩:=hW B.heap.objs.size I2.fresh;have I3:Inv X j σ (upd I B.heap.objs.size^.lst []) {B with heap:=B.heap.push {cls:= .type "list",data:= .seq ([]:List b_).toArray}}:=I2.QV (its:= []) (t':=B.toks) .nil^eE _
 ac_rfl
 have Av:∀b∈F,b<B.heap.objs.size:=λb l=>by
  let⟨o,e,P⟩:=T.obj _ _ iP b l;exact Da e
 have f3:∀b∈F,eJ X j (upd I B.heap.objs.size^.lst []) b:=λb l=>#[by rw[ag^bS^Av b l];exact(f2 b l).1,(f2 b l).2]
 refine acV ?_
 suffices key:∀C:c_,Inv X j σ (upd I B.heap.objs.size^.lst []) C->(∀b o,B.heap.get? b\o->C.heap.get? b\o)->
   e_ (ei X.prog X.w) X.A (kO scope X.env.globals (jG X.env scope.names []) [] X.env.qual none .none^some X.env) (λlG vU=>
    hB (ei X.prog X.w) X.A (.compStart (.ListComp elt [#[tg,iter,ifs,0]] scope pos) 0 (.ref it) (.ref B.heap.objs.size) {lG with scope:=m8 scope X.env}) (RR (.ref B.heap.objs.size) lG.locals) vU) E C from
  key _ I3 λb o e=>AC _ e
 intro C I3 Z0;have yZ:tn 0 C.heap:=T.keep _ _ _ iP λb _ o e=>Z0 b o e
 have JT:∀b∈F,b<C.heap.objs.size:=λb l=>by
  let⟨o,e,P⟩:=T.obj _ _ yZ b l;exact Da e
 generalize hH3:upd I B.heap.objs.size^.lst []=Y at I3 f3 w0;refine wpAny_newFunctionEnv c.nocell (by intro y hy;simp at hy) (λh1 EF EK=>?_) c.kind
 have I4:=CG (src:=src) (NC:=NC) (ex:=F) (tk:=C.toks+([]:List (fA×b_)).length) I3 c eL f3 JT EF EK;have Sv:tn 0 h1:=T.keep _ _ _ yZ λb l o e=>EK.extBut b o (bS^JT b l)^AC _ e;generalize L:bH X scope NC F C Y=k at I4
 have R:∀{a:Hp},(∀b∈F,a b=none)->∀b∈F,eJ k [] a b:=λ {a} hn b l=>by
  subst L;refine#[hn b l,bS^JT b l,λz=>?_, .inl l,λx d e=>?_,λp hp=>absurd (show p∈([]:List (Addr×Obj)) from hp)^by simp]
  .exact(I4.ok.exfs b l) z
  .exact(I4.ok.exf b l).2 x d e
 have Z:hB (ei X.prog X.w) X.A (.compLoop (.ListComp elt [#[tg,iter,ifs,0]] scope pos) 0 (.ref it) (.ref B.heap.objs.size) k.env) (RR (.ref B.heap.objs.size) C.heap.objs.size)
   {C with heap:=h1,toks:=C.toks+([]:List (fA×b_)).length}:=by
  refine afx rfl (λn M=>∃i G a,Inv k [] G a M/\tn i M.heap/\(∀b∈F,a b=none)/\W i n G a) (λn M hI=>?_) m0 #[0,_,_,I4,Sv,λb l=>(f3 b l).1,w0];let⟨i,G,a,I5,y0,sX,w5⟩:=hI;show e_ _ X.A ((compTurn (.ListComp elt [#[tg,iter,ifs,0]] scope pos) 0 (.ref it) (.ref B.heap.objs.size) k.env).onRaise^λx=>do nn x k.env;theTreesLotGoes x) _ _ M
  refine wpAny_noted ?_;rw[compTurn_list]
  have lB:∀{α:Type}{t:l_ α}{Q:α->c_->Prop}{E:b_->c_->Prop}{s:c_},e_ (ei k.prog k.w) k.A t Q k.xe s->e_ (ei X.prog X.w) X.A t Q E s:=λ {α t Q E s} h=>by
   subst L;exact ip h (λ_ _ q=>q) λ_ _ f=>f.elim
  have Nj:k.calm=true:=by subst L;exact hc
  have eP:k.prog=X.prog:=by subst L;rfl
  have ew:k.w=X.w:=by subst L;rfl
  have eK:k.K=X.K:=by subst L;rfl
  have eA:k.A=X.A:=by subst L;rfl
  have YD:PG k tg g:=by subst L;exact hg _ _
  have YW:kJ k ifs tt:=L▸ht _ _;have Yz:PE k elt te:=L▸he _ _;refine a_^acP^a_ ?_
  rcases turn i n G a w5 with ⟨stop,qn⟩ | ⟨go,N,hN,step⟩
  .have hd:=T.done k eP ew eK Nj i [] M G a (notedBy (ei X.prog X.w) X.A k.env λe M=>RR (.ref B.heap.objs.size) C.heap.objs.size (.error e) M) I5 (R sX) y0 stop
   rw[eA] at hd;refine thn hd λr s6 O=>?_;let⟨hr,I6⟩:=O;subst hr;refine mo ?_;subst L;exact Ji _ C Y G a s6 I3 f3 I6 qn
  .have hd:=T.item k eP ew eK Nj i [] M G a (notedBy (ei X.prog X.w) X.A k.env λe M=>RR (.ref B.heap.objs.size) C.heap.objs.size (.error e) M) I5 (R sX) y0 go
   rw[eA] at hd;refine thn hd λr s6 O=>?_;rfl';let⟨u,hr,h6⟩:=O;ac_rfl;subst hr;refine a_ (thn h6 λ_ s7 O=>?_);rfl';let⟨x,H7,I7,r7,y7,Bi,PU⟩:=O;ac_rfl;have OM:=I7.pinned (R PU)^T.obj _ _ Bi
   have again:∀{S:St}{H8:Hp}{s8:c_},Inv k ([]++n6 F s7.heap) S H8 s8->N S H8->∃m,m<n/\∃i G a,Inv k [] G a s8/\tn i s8.heap/\(∀b∈F,a b=none)/\W i m G a:=λ {S H8 s8} I8 n8=>by
    let⟨m',hm,w8⟩:=hN S H8 n8;refine#[m',hm,i+1,S,H8,I8.kG,T.keep _ _ _ Bi λb l o e=>(I8.pin (b,o)^fW _^fW _^fE l e).1,λb l=>?_,w8];let⟨o,e,d⟩:=T.obj _ _ Bi b l;exact(I8.pin (b,o)^fW _^fW _^fE l e).2.1
   refine a_^lB (thn (YD _ s7 G H7 x u _ OM r7^step x H7 y7) λ_ s8 O=>?_);rfl';let⟨S,H8,I8,q8⟩:=O;ac_rfl;refine a_^lB (thn (YW _ s8 S H8 _ I8 q8) λb s9 O=>?_);let⟨H9,I9,q9⟩:=O;cases b with
   |false=>
    rw[tz eD] at q9;exact mo #[L▸rfl,again I9 q9]
   |true=>
    rw[ir rfl] at q9;refine a_^a_^lB (thn (Yz _ s9 S H9 _ I9 q9) λy A5 O=>?_);rfl';let⟨v,yI,OL,RT,ys,hD,hz,RQ⟩:=O;ac_rfl;refine a_^lB (thn (ju _ A5 S yI (.ref B.heap.objs.size) [v] _ [y] (λ_ a=>N S a) OL rfl (.cons RT .nil) #[_,ys,v,rfl,rfl,hD,hz,RQ]) λ_ Fp O=>?_);rfl';let⟨P,BW,D7,U,Ki⟩:=O;ac_rfl;exact mo^mo #[L▸rfl,again D7 Ki]
 subst L;exact afk Z^T.self _ 0 _ _ _ Sv Z
def Ry(i:X.calm=true)(c:bC X scope)(j:dA scope X.N src NC)(k:PI X tg iter wi)
  (l:∀b s H,PG (bH X scope NC b s H) tg g) (n:∀b s H,kJ (bH X scope NC b s H) ifs tt) (o:∀b s H,PE (bH X scope NC b s H) elt te)
  (p:(∀x,f8 iter X.env x=pure x)<|>xx):PE X (.ListComp elt [#[tg,iter,ifs,0]] scope pos)^VG wi g tt te src:=by
 intro a s e H Q I h;rw[eval_ListComp];refine ade (use:=none) rfl p (gv^c.cells I.ok) c.kind c.names (thn (k a s e H _ I h) λv P r=>thn r λR S t=>?_);rfl';let⟨Z,d,tn,J,H2,rfl,y,T,z,B,E⟩:=t;ac_rfl;refine xZ (RR:=λacc C=>compPost (ei X.prog X.w) X.A X.xe none (EP X a e Q) acc C) (Q:=Q) i c j y T z B (l d) (n d) (o d) E ?_;intro D s3 H3 ay F s' G L f q;let⟨m,M,u⟩:=f.loc;exact#[m,M,λh' O=>#[.ref D,F,comp_back G L f O,rfl,q]]
def VF(b:TI)(g:TG)(c:TT)(d:TE)(src:List^Option Nat)(i:Nat):TS:=λD a H=>VG b g c d src a H λv e=>D.nx (a.set i^some v) e
theorem kE{i:Nat}(hc:X.calm=true)(hN:X.N.Nodup)(gy:X.N[i]?\x)(hx:Loc X.env.scope x)(c:bC X scope)(eL:dA scope X.N src NC)(hi:PI X tg iter wi)
  (hg:∀t s H,PG (bH X scope NC t s H) tg g) (ht:∀t s H,kJ (bH X scope NC t s H) ifs tt) (he:∀t s H,PE (bH X scope NC t s H) elt te)
  (tD:g_ (.ListComp elt [#[tg,iter,ifs,0]] scope pos) (some^.Name x r) S.line X.env=pure true)
  (hf:X.fn x=true\/X.env.scope.names.lookup x\.local<|>xz)
  (hs:(∀x,f8 iter X.env x=pure x)<|>xx):PS X (.Assign [.Name x r] (.ListComp elt [#[tg,iter,ifs,0]] scope pos) S)^VF wi g tt te src i:=by
 intro f s u H D I h;rw[exec_Assign_Name_used _ _ _ _ tD];refine a_^acP^a_ ?_;show e_ _ X.A (do let _ <-comprehension (.ListComp elt [#[tg,iter,ifs,0]] scope pos) scope X.env _ (newList []) false (gi iter X.env)^some^k_ (.Name x r) X.env) _ _ s
 refine a_ (ip (ade (use:=some^k_ (.Name x r) X.env) (Q:=λ_ j=>SP X f D .next j) rfl hs (gv^c.cells I.ok) c.kind c.names
  (thn (hi f s u H _ I h) λv s1 h1=>thn h1 λJL s2 h2=>?_)) (λ_ j hq=>mo^mo hq) λ_ _ e=>e)
 rfl';obtain⟨it,G,tn,J,H2,rfl,I2,T,iP,f2,hW⟩:=h2;ac_rfl;refine xZ (RR:=λacc C=>compPost (ei X.prog X.w) X.A X.xe (some^k_ (.Name x r) X.env) (λ_ j=>SP X f D .next j) acc C) (Q:=λv k=>D.nx (u.set i^some v) k) hc c eL I2 T iP f2 (hg G) (ht G) (he G) hW ?_;intro a l H3 ay k j n f3 L q;obtain⟨m,hn,_⟩:=L.loc;have Y:Inv X f u k j:=comp_back n f3 L (.refl ..);have Z:l.heap.objs.size≠X.env.locals:=jR n.lt
 have nc:∀y d,X.env.cells.lookup y\d->d≠l.heap.objs.size:=λy d e z=>by
  obtain⟨v,hv⟩:=n.cell y d e
  have:=hv.lt
  rw[z] at this;exact absurd this^kg _
 have np:∀p∈X.pn++f,p.1≠l.heap.objs.size:=λp B z=>by
  have:=Da (n.pin p B).1
  rw[z] at this;exact absurd this^kg _
 rfl';obtain⟨M,es,ep,O,Ua,rC⟩:=id hn;have E:k l.heap.objs.size=none:=L.free;ac_rfl
 have IP:Inv X ((l.heap.objs.size,M)::f) u k j:=Y.vt λp B=>by
  rcases cQ.mp B with z|z
  .rw[z]
   exact#[O,E,Z,n.WH^bg _,λv w=>by rw[Ua] at w;cases w]
  .exact Y.pin p^fW _ z
 refine wpAny_assign_Name^kF (x:=x) IP hN gy hx (v:= .ref a) rfl (λs5 P=>?_) hf;have R:=(P.pin (l.heap.objs.size,M)^fW _ dH).1;refine#[m,#[M,es,ep,R,Ua,rC],λh6 sb=>?_];have W3:Inv X f (u.set i^some^.ref a) k s5:=P.vt λp B=>P.pin p^fW _^fq _ B;exact#[_,k,W3.turned (t':=s5.toks) (it:=l.heap.objs.size) (λb o hb e=>sb.extBut b o hb e) E Z (.inr n.sz) nc np,q]
end
def ER(n:Nat)(c:Nat->St->Hp->Prop)(s:c 0 a H)
  (h:∀i a H,i<n->c i a H->J.go i H) (t:∀i a H,n<=i->c i a H->J.stop i H)
  (u:∀i x a H d,i<n->c i a H->J.yld i H x d->g x a d λf w=>l f w λb q=>
   if b=true then o f q λv r=>∃j,r D\(.lst j)/\j.length<sizeLine/\c (i+1) f^upd r D^.lst (j++ [v]) else c (i+1) f q)
  (z:∀a H,c n a H->Q (.ref D) H):LCW J g l o D Q a H:=by
 refine#[λi m a H=>m=n-i/\i<=n/\c i a H,#[n,by simp,eE _,s],?_]
 rintro i m a H ⟨rfl,B,p⟩
 by_cases k:i<n
 .exact .inr #[h i a H k p,c (i+1),λC E A=>#[n-(i+1),(),rfl,k,A],λx d y=>u i x a H d k p y]
 .have e:i=n:=()
  subst e;exact .inl #[t _ a H (bg _) p,z a H p]
section
variable {X:Cx} {pins:List (Addr×Obj)} {σ:St} {H:Hp} {s:Shared} {h':Heap} {fp:List Addr}
def Inv.m6{t':Nat}(I:Inv X pins σ H s)(d:∀b∈fp,eJ X pins H b)(k:∀b o,b∉fp->s.heap.get? b\o->h'.get? b\o):Inv X pins σ H {s with heap:=h',toks:=t'}:=by
 refine I.step (g':=s.gens) (d':=s.drawn) (ch:=fp) (λb g=>?_) (λb o _ _ a e _=>k b o a e) (λb o _ _ a e _=>#[o.slots,k b o a e]) (λ_ _ _ _ n=>n)
  (λb o a e=>#[o,k b o a e]) (λ_ _ e=>e) (λ_ _ _ e=>e) (λb y e=>#[#[],by rw[e];simp]) (λm h=>?_) (λb u e=>?_) I.bare
 .obtain⟨_,i,_,j,l,p⟩:=d b g
  exact#[j,i,l,p]
 .obtain⟨o,t,w,x,r⟩:=h
  exact#[o,t,w,k _ o (λz=>(d _ z).2.1 rfl) x,r]
 .have f:∀b u,H b\u->b∉fp:=λb u e z=>by rw[(d b z).1] at e;cases e
  refine(I.hok b u e).oQ (λc v a q=>k c v ?_ q) (λ_ q=>q) λ_ _ q=>q
  rcases a with z|z
  .rw[z];exact f b u e
  .exact f c _ z
def Inv.Ig(I:Inv X pins σ H s)(g:∀b∈fp,eJ X pins H b)(k:∀b o,b∉fp->s.heap.get? b\o->h'.get? b\o)(i:s.heap.objs.size<=t)
  (new:cK X.prog X.w (upd H t o) h' t o):Inv X pins σ (upd H t o) {s with heap:=h',toks:=t'}:=by
 have l:H t=none:=I.hok.fresh i;have d:∀b u,H b\u->upd H t o b\u:=λb u e=>by rw[ag^au e l];exact e
 refine I.step (g':=s.gens) (d':=s.drawn) (ch:=fp) (λb f=>?_) (λb o _ _ a e _=>k b o a e) (λb o _ _ a e _=>#[o.slots,k b o a e]) (λb o _ e n=>?_)
  (λb o a e=>#[o,k b o a e]) (λb G e=>d b _ e) (λb _ _ e=>d b _ e) (λb J e=>#[#[],by rw[d b _ e];simp]) (λm p=>?_) (λb u e=>?_) I.bare
 .obtain⟨_,x,_,y,A,B⟩:=g b f
  exact#[y,x,A,B]
 .rw[ag^bS^cO (Da e) i];exact n
 .obtain⟨o,C,E,F,r⟩:=p
  exact#[o,C,E,k _ o (λz=>(g _ z).2.1 rfl) F,r]
 .by_cases f:b=t
  .subst f
   rw[af] at e;cases Do e;exact new
  .rw[ag f] at e
   have j:∀b u,H b\u->b∉fp:=λb u e z=>by rw[(g b z).1] at e;cases e
   refine(I.hok b u e).oQ (λc v a q=>k c v ?_ q) (λh q=>d h _ q) λh _ q=>d h _ q
   rcases a with z|z
   .rw[z];exact j b u e
   .exact j c _ z
end
def My(K:ad)(a:Addr):It:=
 #[λi H=>∃b x,aL K H a b/\b[i]?\x,λi H y c=>∃t x,y= .ref t/\H t=none/\c=upd H t^.tup [.int i,x]/\∀b,aL K H a b->b[i]?\x,λi H=>∃b,aL K H a b/\b.length<=i]
def p5(e:h.get? t\{cls:= .type "tuple",data:= .seq [u,v].toArray}):IsTup h t [u,v].toArray:=#[_,e,rfl,_,rfl]
def KO{P:fw}{w:f5}{K:ad}{Z:List gc}{k1}{tp:jP}(a e l:Addr)(ne:e≠l):
  Turn P w K (.Tuple Z k1 tp) (My K a) [e,l] e (λi h=>(∃g,IsEnum h e l i g)/\h.IsListIter l a i) where
 mem:=by simp
 obj:=λi h st b f=>by
  obtain⟨⟨g,m⟩,o,A,c,d⟩:=st
  rcases cQ.mp f with z|z
  .subst z
   exact#[_,m,λv w=>by cases w]
  .have B:b=l:=by simpa using z
   subst B;exact#[o,A,λv z=>by rw[d] at z;cases z]
 keep:=λi h t st k=>by
  obtain⟨⟨g,m⟩,iP⟩:=st;exact#[#[g,k e (by simp) _ m],iP.at λo q=>k l (by simp) o q]
 item:=by
  intro X C hw F R i j s S H E I r st G;rfl';subst C hw F;let⟨xs,x,y,L⟩:=G;let⟨M,N,p,hz⟩:=I.list y;let⟨u,hu,ru⟩:=N.get L;obtain⟨⟨g,m⟩,n⟩:=st;ac_rfl;refine wpAny_pyNext_enum_item m n p.isList (x:=u) (~~~hu) ne λt tu O YV abl kk=>?_
  have k2:∀b o,b∉ [e,l]->s.heap.get? b\o->t.get? b\o:=λb o f q=>kk b o (λz=>f^by simp[z]) (λz=>f^by simp[z]) q
  have I1:Inv X j S (upd H s.heap.objs.size^.tup [.int i,x]) {s with heap:=t,toks:=s.toks+1}:=
   I.Ig r k2 (bg _) #[by show 2<=sizeLine;decide,[.int i s.toks,u], .cons #[_,rfl]^.cons ru .nil,p5 YV]
  refine#[_,rfl,wpAny_letOwnedTupleGo_enum tu λh2 Q T=>?_]
  have lt:∀b∈ [e,l],b<s.heap.objs.size:=λb f=>by
   rcases cQ.mp f with z|z
   .rw[z];exact Da m
   .obtain⟨o,A,_⟩:=n
    have B:b=l:=by simpa using z
    rw[B];exact Da A
  have Y:∀b∈ [e,l],eJ X j (upd H s.heap.objs.size^.tup [.int i,x]) b:=λb f=>#[by rw[ag^bS^lt b f];exact(r b f).1,(r b f).2]
  refine#[.ref s.heap.objs.size,_,I1.m6 (t':=s.toks+1) Y^λb o f q=>T.extBut b o (λz=>f^by simp[z]) q,rfl,#[_,x,rfl,I.hok.fresh^bg _,rfl,λys hy=>by rw[I.Dl hy y];exact L],#[#[u,?_],O.extBut T.extBut^Ne.symm ne],λb f=>(Y b f).1]
  have z:((i+1:Nat):Int)=(i:Int)+1:=()
  rw[z];exact Q
 done:=by
  intro X C hw F R i j s S H E I r st G;rfl';subst C hw F;let⟨xs,y,L⟩:=G;let⟨M,N,p,hz⟩:=I.list y;have hl:=N.length;obtain⟨⟨g,m⟩,n⟩:=st;ac_rfl;exact wpAny_pyNext_enum_end (I.ok.hd R) m n p.isList (by simp;lia) λt eb=>#[rfl,I.m6 (t':=s.toks) r λb o f q=>eb b o (λz=>f^by simp[z]) q]
 self:=λ_ _ _ _ _ st h=>by
  obtain⟨⟨g,m⟩,_⟩:=st;exact wpAny_pyIter_enum m h
section
variable {X:Cx}
def Y3(K:ad)(c:TA):TI:=λd H R=>c d H λe b=>∃a,e= [.ref a]/\(∃f,b a\(.lst f))/\R (My K a) b
def AV{i:TA}{k1}(t:Gl X "enumerate")(v:X.mg "enumerate"=none)(w:PA X [a] i)(x:d_ [a] X.env= [(false,gi a X.env)]<|>zn):
  PI X (.Tuple o k1 r) (.Call (.Name "enumerate" p) [a] [] pos)^Y3 X.K i:=by
 intro d s y H R I h;refine Call_^gS I t v boot_enumerate^PP (thn (w pos d s y H _ I h) λP c hH=>?_) x rfl;obtain⟨Q,A,f,B,C⟩:=hH;rfl';obtain⟨l,e,⟨T,F⟩,q⟩:=C;subst e;let⟨u,rfl,G⟩:=B.one;subst G;let⟨z,J,n,Y,j,e⟩:=f.rY F;ac_rfl;refine call_enumerate_1 e λZ k g dQ L=>?_;refine wpAny_pyIter_enum k ?_;have M:c.heap.objs.size+1≠c.heap.objs.size:=Nat.succ_ne_self _;refine#[c.heap.objs.size+1,[c.heap.objs.size+1,c.heap.objs.size],_,_,A,rfl,f.kept (t':=c.toks) L,KO l _ _ M,#[#[_,k],g],λb N=>?_,q]
 have m:c.heap.objs.size<=b:=by
  rcases cQ.mp N with z|z
  .rw[z];exact oW _
  .have O:b=c.heap.objs.size:=by simpa using z
   rw[O];exact bg _
 exact f.GL m^f.hok.fresh m
end
def W4(a b:Addr):It:=
 #[λi H=>∃c d x y,H a\(.lst c)/\H b\(.lst d)/\c[i]?\x/\d[i]?\y,
  λi H v e=>∃t x y,v= .ref t/\H t=none/\e=upd H t^.tup [x,y]/\(∀c,H a\(.lst c)->c[i]?\x)/\∀d,H b\(.lst d)->d[i]?\y,
  λi H=>∃c d,H a\(.lst c)/\H b\(.lst d)/\(c.length<=i\/d.length<=i)]
structure ZN (z TI TO i1 i2:Addr):Prop where
 TIz:TI≠z
 TOz:TO≠z
 i1z:i1≠z
 i2z:i2≠z
 TITO:TI≠TO
 TIi1:TI≠i1
 TIi2:TI≠i2
 TOi1:TO≠i1
 TOi2:TO≠i2
 i12:i1≠i2
def Ow{P:fw}{w:f5}{K:ad}{es:List gc}{k1}{tp:jP}(O Q z TI TO f g:Addr)(N:ZN z TI TO f g):
  Turn P w K (.Tuple es k1 tp) (W4 O Q) [z,TO,f,g,TI] z (λi h=>IsZip h z TI TO .none/\n_ h TI (.ref f)^.ref g/\(∃a b,n_ h TO a b)/\h.IsListIter f O i/\h.IsListIter g Q i) where
 mem:=by simp
 obj:=λi h st b d=>by
  obtain⟨t,r,⟨a,c,A⟩,⟨o1,e1,_,d1⟩,⟨o2,e2,_,d2⟩⟩:=st;simp only[cQ,BR,aer] at d
  rcases d with rfl|rfl|rfl|rfl|rfl
  .exact#[_,t,λv w=>by cases w]
  .exact#[_,A,λv w=>by cases w]
  .exact#[o1,e1,λv z=>by rw[d1] at z;cases z]
  .exact#[o2,e2,λv z=>by rw[d2] at z;cases z]
  .exact#[_,r,λv w=>by cases w]
 keep:=λi h L st k=>by
  obtain⟨t,r,⟨a,c,A⟩,G,C⟩:=st;exact#[k z (by simp) _ t,k TI (by simp) _ r,#[a,c,k TO (by simp) _ A],G.at λo q=>k f (by simp) o q,C.at λo q=>k g (by simp) o q]
 item:=by
  intro X S hw T hc i p s σ H E I F st Y;rfl';subst S hw T;let⟨xs,ys,x,y,m,n,J,B⟩:=Y;let⟨LH,Fn,p1,uO⟩:=I.list^aL.of m;let⟨mI,Fo,p2,w4⟩:=I.list^aL.of n;let⟨u1,hu1,Ko⟩:=Fn.get J;let⟨u2,hu2,Kq⟩:=Fo.get B;obtain⟨t,r,⟨a,c,A⟩,G,C⟩:=st;have rN:=C;have hyy:=B;have j:∀l u,H l\u->∀b∈ [z,TO,f,g,TI],l≠b:=λl u e b d q=>by rw[q,(F b d).1] at e;cases e
  ac_rfl
  have D:jt z TI TO f g O Q:=#[N.TIz,N.TOz,N.i1z,N.i2z,N.TITO,N.TIi1,N.TIi2,N.TOi1,N.TOi2,N.i12,j _ _ m z^by simp,j _ _ m TO^by simp,j _ _ m f^by simp,j _ _ m g^by simp,
   j _ _ n z^by simp,j _ _ n TO^by simp,j _ _ n f^by simp,j _ _ n g^by simp]
  refine wpAny_pyNext_zip_item D t r A G C p1.isList p2.isList (x:=u1) (y:=u2) (~~~hu1) (~~~hu2) λL EM aaX Na h2' YV abl R=>?_
  have k2:∀b o,b∉ [z,TO,f,g,TI]->s.heap.get? b\o->L.get? b\o:=λb o d q=>R b o (λz=>d^by simp[z]) (λz=>d^by simp[z]) (λz=>d^by simp[z]) (λz=>d^by simp[z]) q
  have I1:Inv X p σ (upd H s.heap.objs.size^.tup [x,y]) {s with heap:=L,toks:=s.toks}:=
   I.Ig F k2 (bg _) #[by show 2<=sizeLine;decide,[u1,u2], .cons Ko^.cons Kq .nil,p5 YV]
  refine#[_,rfl,wpAny_letOwnedTupleGo_zip EM λC w4 M=>?_]
  have lt:∀b∈ [z,TO,f,g,TI],b<s.heap.objs.size:=λb d=>by
   simp only[cQ,BR,aer] at d
   rcases d with rfl|rfl|rfl|rfl|rfl
   .exact Da t
   .exact Da A
   .obtain⟨o,e,_⟩:=G;exact Da e
   .obtain⟨o,e,_⟩:=rN;exact Da e
   .exact Da r
  have Qm:∀b∈ [z,TO,f,g,TI],eJ X p (upd H s.heap.objs.size^.tup [x,y]) b:=λb d=>#[by rw[ag^bS^lt b d];exact(F b d).1,(F b d).2]
  have aaW:n_ L TI (.ref f)^.ref g:=R TI _ N.TIz N.TITO N.TIi1 N.TIi2 r
  refine#[.ref s.heap.objs.size,_,I1.m6 (t':=s.toks) Qm^λb o d q=>M.extBut b o (λz=>d^by simp[z]) q,rfl,#[_,x,y,rfl,I.hok.fresh^bg _,rfl,λys B=>?_,λys B=>?_],
   #[w4,M.extBut _ _ N.TIz aaW,#[_,_,M.extBut _ _ N.TOz aaX],Na.extBut M.extBut N.i1z,h2'.extBut M.extBut N.i2z],λb d=>(Qm b d).1]
  .rw[m] at B;cases B;exact J
  .rw[n] at B;cases B;exact hyy
 done:=by
  intro X S hw T hc i p s σ H E I F st Y;rfl';subst S hw T;let⟨xs,ys,m,n,J⟩:=Y;let⟨LH,Fn,p1,uO⟩:=I.list^aL.of m;let⟨mI,Fo,p2,w4⟩:=I.list^aL.of n;have pk:=Fn.length;have nI:=Fo.length;obtain⟨t,r,⟨a,c,A⟩,G,C⟩:=st;have j:∀l u,H l\u->∀b∈ [z,TO,f,g,TI],l≠b:=λl u e b d q=>by rw[q,(F b d).1] at e;cases e
  ac_rfl
  have D:jt z TI TO f g O Q:=#[N.TIz,N.TOz,N.i1z,N.i2z,N.TITO,N.TIi1,N.TIi2,N.TOi1,N.TOi2,N.i12,j _ _ m z^by simp,j _ _ m TO^by simp,j _ _ m f^by simp,j _ _ m g^by simp,
   j _ _ n z^by simp,j _ _ n TO^by simp,j _ _ n f^by simp,j _ _ n g^by simp]
  refine wpAny_pyNext_zip_end (I.ok.hd hc) D t r A G C p1.isList p2.isList ?_ λL R=>#[rfl,I.m6 (t':=s.toks) F λb o d q=>R b o (λz=>d^by simp[z]) (λz=>d^by simp[z]) (λz=>d^by simp[z]) (λz=>d^by simp[z]) q]
  rcases J with J|J
  .left;simp;lia
  .right;simp;lia
 self:=λ_ _ _ _ _ st h=>adT st.1 h
section
variable {X:Cx}
def abn(d:TA):TI:=λe H R=>d e H λf c=>∃a b g h,f= [.ref a, .ref b]/\c a\(.lst g)/\c b\(.lst h)/\R (W4 a b) c
def Vc{k1}(r:Gl X "zip")(t:X.mg "zip"=none)(u:PA X [a,b] i)(v:d_ [a,b] X.env= [(false,gi a X.env),(false,gi b X.env)]<|>zn)(j:d_ [b] X.env= [(false,gi b X.env)]<|>zn):
  PI X (.Tuple m k1 o) (.Call (.Name "zip" p) [a,b] [] pos)^abn i:=by
 intro d s w H R I h;refine Call_^gS I r t (show gq "zip"\(.type "zip") by decide+kernel)^PP (thn (u pos d s w H _ I h) λY c #[Z,x,f,y,A]=>?_) (by rw[v,j])^by rw[j];rfl
 rfl';let⟨C,E,xs,ys,e,F,G,q⟩:=A;subst e;let⟨u1,u2,rfl,J,L⟩:=y.two;subst J;subst L;let⟨LH,Fn,M,uO⟩:=f.list^aL.of F;let⟨mI,Fo,N,w4⟩:=f.list^aL.of G;ac_rfl;refine call_zip_2 M.isList N.isList λh' k O P Q S dQ T=>?_;refine adT k ?_;refine#[_,_,_,_,x,rfl,f.kept (t':=c.toks) T,Ow C E (c.heap.objs.size+4) (c.heap.objs.size+2) (c.heap.objs.size+3) c.heap.objs.size (c.heap.objs.size+1) ?_,#[k,O,#[_,_,P],Q,S],λb g=>?_,q]
 .generalize c.heap.objs.size=n
  exact#[show n+2≠n+4 by lia,show n+3≠n+4 by lia,show n≠n+4 by lia,show n+1≠n+4 by lia,show n+2≠n+3 by lia,show n+2≠n by lia,show n+2≠n+1 by lia,show n+3≠n by lia,show n+3≠n+1 by lia,show n≠n+1 by lia]
 .have l:c.heap.objs.size<=b:=by
   generalize c.heap.objs.size=n at g;simp only[cQ,BR,aer] at g
   rcases g with z|z|z|z|z<;>(rw[z];show n<=_;lia)
  exact f.GL l^f.hok.fresh l
end
end L2
namespace Wb
abbrev W:=List^List Nat
def row(w:W)(p:Nat):List Nat:=w.getD p []
inductive Reach (w:W):Nat->Nat->Prop
 |refl (p):Reach w p p
 |step {p q r}:Reach w p q->r∈row w q->Reach w p r
structure Good (w:W):Prop where
 rng:∀p q,q∈row w p->q<w.length
 irr:∀p,p∉row w p
 nod:∀p,(row w p).Nodup
 sym:∀p q,q∈row w p->p∈row w q
 con:∀p,p<w.length->Reach w 0 p
def gH(h:q∈row w p):p<w.length:=by
 apply GM;intro a;unfold row at h;rw[cV,fm ()] at h
 simp at h
def HK(h:p<w.length):w[p]?\(row w p):=by
 unfold row;rw[cV,cz h];rfl
def Vp(h:w[p]?\r):row w p=r:=by
 unfold row;rw[cV,h];rfl
def Sb(h:w.length<=p):row w p= []:=by
 unfold row;rw[cV,fm h];rfl
def Reach.trans(h:Reach w p q)(a:Reach w q r):Reach w p r:=by
 induction a with
 |refl=>exact h
 |step _ b c=>exact .step c b
def Reach.symm(a:∀p q,q∈row w p->p∈row w q)(h:Reach w p q):Reach w q p:=by
 induction h with
 |refl=>exact .refl _
 |step _ b c=>exact(Reach.step (.refl _)^a _ _ b).trans c
def Reach.mono{w a:W}(b:∀p q,q∈row w p->q∈row a p){p q:Nat}(h:Reach w p q):Reach a p q:=by
 induction h with
 |refl=>exact .refl _
 |step _ c d=>exact .step d^b _ _ c
def ins{a:Type}(b:List a)(i:Nat)(x:a):List a:=b.take i++x::b.drop i
def qV(a:List b)(i:Nat)(x:b):(ins a i x).Perm (x::a):=by
 unfold ins;have h:= @List.perm_middle _ x (a.take i)^a.drop i;rw[k7] at h;exact h
def dF:a∈ins b i x↔a=x\/a∈b:=by
 rw[(qV b i x).mem_iff,cQ]
def tN(h:a.Nodup)(c:x∉a):(ins a i x).Nodup:=by
 rw[(qV a i x).nodup_iff,wk];exact#[c,h]
def Ai(a:List b)(i:Nat)(x:b):(ins a i x).length=a.length+1:=by
 rw[(qV a i x).length_eq];rfl
def ins_map(f:a->c)(b:List a)(i:Nat)(x:a):(ins b i x).map f=ins (b.map f) i^f x:=by
 unfold ins;simp[adQ,aeE]
def jO(h:p<w.length):row (w.set p r) x=if p=x then r else row w x:=by
 unfold row;rw[cV,kc]
 by_cases e:p=x
 .rw[ir e,ir e,ir h];rfl
 .rw[tz e,tz e,cV]
def DJ:row (w++ [r]) x=if x=w.length then r else row w x:=by
 unfold row;rw[cV,aee]
 split
 .rw[tz (),cV]
 .split
  .rename_i h e;subst e;simp
  .rename_i h e
   rw[cV,fm^by simp;lia,fm ()]
def M7:Good [[]]:=by
 have a:∀p,row [[]] p= []:=λp=>by
  unfold row;cases p with
  |zero=>rfl
  |succ n=>simp
 refine#[λp q h=>?_,λp h=>?_,λp=>?_,λp q h=>?_,λp h=>?_]
 .rw[a] at h;cases h
 .rw[a] at h;cases h
 .rw[a];exact i8
 .rw[a] at h;cases h
 .have:p=0:=by simp at h;exact h
  subst this;exact .refl _
def leaf(w:W)(p i:Nat):W:=(w.set p^ins (row w p) i w.length)++ [[p]]
def xf(w:W)(p i:Nat):(leaf w p i).length=w.length+1:=by unfold leaf;simp
def N7{p i x:Nat}(h:p<w.length):row (leaf w p i) x=if x=w.length then[p] else if p=x then ins (row w p) i w.length else row w x:=by
 unfold leaf;rw[DJ,fF,jO h]
def Jf{p i:Nat}(g:Good w)(h:p<w.length):Good^leaf w p i:=by
 have b:=λx=>N7 (i:=i) (x:=x) h;have d:∀x,w.length∉row w x:=λx a=>kg _^g.rng _ _ a
 have mono:∀x q,q∈row w x->q∈row (leaf w p i) x:=λx q c=>by
  have:=gH c
  rw[b,tz ()]
  split
  .rename_i e;subst e;exact dF.mpr^.inr c
  .exact c
 refine#[λx q a=>?_,λx a=>?_,λx=>?_,λx q a=>?_,λx a=>?_]
 .rw[b] at a;rw[xf]
  split at a
  .simp at a;lia
  .split at a
   .rcases dF.mp a with e|e
    .lia
    .have:=g.rng _ _ e;lia
   .have:=g.rng _ _ a;lia
 .rw[b] at a
  split at a
  .simp at a;lia
  .split at a
   .rcases dF.mp a with e|e
    .lia
    .rename_i f;subst f;exact g.irr _ e
   .exact g.irr _ a
 .rw[b];split
  .simp
  .split
   .exact tN (g.nod _)^d _
   .exact g.nod _
 .rw[b] at a
  split at a
  .have e:q=p:=by simpa using a
   subst e
   rename_i e
   rw[b,tz (),ir rfl,e]
   exact dF.mpr^.inl rfl
  .split at a
   .rename_i e;subst e
    rcases dF.mp a with e|e
    .rw[b,ir e];simp
    .exact mono _ _^g.sym _ _ e
   .exact mono _ _^g.sym _ _ a
 .rw[xf] at a
  by_cases e:x=w.length
  .refine Reach.step ((g.con p h).mono mono) ?_
   rw[b,tz (),ir rfl,e]
   exact dF.mpr^.inl rfl
  .exact(g.con x ()).mono mono
def y3(w:W)(p i u j:Nat):W:=(w.set p^ins (row w p) i u).set u^ins (row w u) j p
def Bq(w:W)(p i u j:Nat):(y3 w p i u j).length=w.length:=by unfold y3;simp
def Sd{p i u j x:Nat}(a:p<w.length)(b:u<w.length):row (y3 w p i u j) x=if u=x then ins (row w u) j p else if p=x then ins (row w p) i u else row w x:=by
 unfold y3;rw[jO^~~~b,jO a]
def M9{p i u j:Nat}(g:Good w)(l:p<w.length)(m:u<w.length)(ne:u≠p)(k:u∉row w p):Good^y3 w p i u j:=by
 have b:=λx=>Sd (i:=i) (j:=j) (x:=x) l m;have d:p∉row w u:=λh=>k^g.sym _ _ h
 have mono:∀x q,q∈row w x->q∈row (y3 w p i u j) x:=λx q f=>by
  rw[b]
  split
  .rename_i e;subst e;exact dF.mpr^.inr f
  .split
   .rename_i e;subst e;exact dF.mpr^.inr f
   .exact f
 refine#[λx q a=>?_,λx a=>?_,λx=>?_,λx q a=>?_,λx a=>?_]
 .rw[b] at a;rw[Bq]
  split at a
  .rcases dF.mp a with e|e
   .lia
   .exact g.rng _ _ e
  .split at a
   .rcases dF.mp a with e|e
    .lia
    .exact g.rng _ _ e
   .exact g.rng _ _ a
 .rw[b] at a
  split at a
  .rename_i c;subst c
   rcases dF.mp a with e|e
   .exact ne e
   .exact g.irr _ e
  .split at a
   .rename_i c;subst c
    rcases dF.mp a with e|e
    .exact ne e.symm
    .exact g.irr _ e
   .exact g.irr _ a
 .rw[b];split
  .exact tN (g.nod _) d
  .split
   .exact tN (g.nod _) k
   .exact g.nod _
 .rw[b] at a
  split at a
  .rename_i c;subst c
   rcases dF.mp a with e|e
   .subst e;rw[b,tz ne,ir rfl];exact dF.mpr^.inl rfl
   .exact mono _ _^g.sym _ _ e
  .split at a
   .rename_i c;subst c
    rcases dF.mp a with e|e
    .subst e;rw[b,ir rfl];exact dF.mpr^.inl rfl
    .exact mono _ _^g.sym _ _ e
   .exact mono _ _^g.sym _ _ a
 .rw[Bq] at a;exact(g.con x a).mono mono
theorem M8(g:Good w)(j:i.length=w.length)(into:∀p,p<w.length->ord p<w.length)
  (inj:∀p q,p<w.length->q<w.length->ord p=ord q->p=q) (Ia:∀y,y<w.length->∃p,p<w.length/\ord p=y)
  (k:∀p,p<w.length->(row i^ord p).Perm^(row w p).map ord):Good i:=by
 have mem:∀p q,p<w.length->(q∈row i^ord p↔∃a,a∈row w p/\ord a=q):=λp q d=>by
  rw[(k p d).mem_iff,cE]
 have reach:∀{p q},Reach w p q->Reach i (ord p)^ord q:=λ {p q} h=>by
  induction h with
  |refl=>exact .refl _
  |step _ l n=>exact .step n^(mem _ _^gH l).mpr #[_,l,rfl]
 refine#[λy q c=>?_,λy c=>?_,λy=>?_,λy q c=>?_,λy c=>?_]
 .obtain⟨p,d,rfl⟩:=Ia y^by have:=gH c;lia
  let⟨a,f,rfl⟩:=(mem p q d).mp c;rw[j];exact into a^g.rng _ _ f
 .obtain⟨p,d,rfl⟩:=Ia y^by have:=gH c;lia
  let⟨a,f,e⟩:=(mem p _ d).mp c
  have:=inj a p (g.rng _ _ f) d e
  subst this;exact g.irr _ f
 .by_cases c:y<w.length
  .obtain⟨p,d,rfl⟩:=Ia y c
   rw[(k p d).nodup_iff];unfold cI;rw[iR];refine acS ?_^g.nod p;intro a b f o ne e;exact ne^inj a b (g.rng _ _ f) (g.rng _ _ o) e
  .rw[Sb ()];exact i8
 .obtain⟨p,d,rfl⟩:=Ia y^by have:=gH c;lia
  let⟨a,f,rfl⟩:=(mem p q d).mp c;exact(mem a _^g.rng _ _ f).mpr #[p,g.sym _ _ f,rfl]
 .rw[j] at c
  let⟨p,d,rfl⟩:=Ia y c;let⟨z,r,s⟩:=Ia 0 ()
  have m:=reach^((g.con z r).symm g.sym).trans^g.con p d;rw[s] at m;exact m
def eQ(l:List Nat)(x:Nat):Nat:=l.getD ((l.idxOf x+1)%l.length) 0
def qa(w:W)(d:Nat×Nat):Nat×Nat:=(d.2,eQ (row w d.2) d.1)
def aR(w:W)(d:Nat×Nat):Prop:=d.2∈row w d.1
def om(h:x∈l):l[(l.idxOf x+1)%l.length]?\(eQ l x):=by
 have a:0<l.length:=sH h;unfold eQ;rw[cV,cz^qG _ a];rfl
def Bo(h:x∈l):eQ l x∈l:=cL^om h
def Q0(f:a<n)(g:b<n)(e:(a+1)%n=(b+1)%n):a=b:=by
 by_cases d:a+1=n
 .by_cases c:b+1=n
  .lia
  .rw[d,aef,wj ()] at e;lia
 .by_cases c:b+1=n
  .rw[c,aef,wj ()] at e;lia
  .rw[wj (),wj ()] at e;lia
def Bn(g:l.Nodup)(a:x∈l)(b:y∈l)(e:eQ l x=eQ l y):x=y:=by
 have o:0<l.length:=sH a;have c:=om a;have h:=om b;rw[e] at c;have d:=BK.mpr a;have f:=BK.mpr b;let⟨p,i⟩:=cR.mp c;let⟨r,j⟩:=cR.mp h;have q:=(aeS g).mp^i.trans j.symm;have k:=Q0 d f q;have m:=BO d;have n:=BO f;rw[<-m,<-n];simp only[k]
def NH(g:Good w)(h:aR w d):aR w^qa w d:=Bo^g.sym _ _ h
def Q9(g:Good w)(h:aR w d)(c:aR w e)(q:qa w d=qa w e):d=e:=by
 have a:d.2=e.2:=KM Prod.fst q;have b:eQ (row w d.2) d.1=eQ (row w e.2) e.1:=KM Prod.snd q;rw[<-a] at b;have f:d.1∈row w d.2:=g.sym _ _ h;have i:e.1∈row w d.2:=by rw[a];exact g.sym _ _ c
 exact acY (Bn (g.nod _) f i b) a
def ba(w:W):List (Nat×Nat):=(ak w.length).flatMap λp=>(row w p).map λq=>(p,q)
def bh:d∈ba w↔aR w d:=by
 unfold ba aR;rw[List.mem_flatMap]
 constructor
 .rintro⟨p,_,h⟩
  let⟨q,a,rfl⟩:=cE.mp h;exact a
 .intro h
  exact#[d.1,i9.mpr^gH h,cE.mpr #[d.2,h,rfl]]
theorem bf [DecidableEq b]:∀{l m:List b},l.Nodup->(∀x∈l,x∈m)->l.length<=m.length
 | [],_,_,_=>eE _
 |a::r,m,g,h=>by
  have c:=wk.mp g;have d:=h a dH;have i:=bf (l:=r) (m:=m.erase a) c.2 λx f=>(List.mem_erase_of_ne^λ(e:x=a)=>c.1^by rw[<-e];exact f).mpr^h x^fq _ f
  rw[List.length_erase_of_mem d] at i
  have:=sH d
  simp only[dU];lia
def fC(g:Good w)(p:Nat):(row w p).length<=w.length:=by
 have:=bf (m:=ak w.length) (g.nod p) λx a=>i9.mpr^g.rng _ _ a
 simpa using this
theorem CU{f:b->List c}{k:Nat}:∀{l:List b},(∀x∈l,(f x).length<=k)->(l.flatMap f).length<=l.length*k
 | [],_=>by simp
 |a::r,h=>by
  have e:=CU (f:=f) (k:=k) (l:=r) λx d=>h x^fq _ d
  have:=h a dH
  rw[xT,dg,dU,Nat.succ_mul];lia
def fZ(g:Good w):(ba w).length<=w.length*w.length:=by
 have:=CU (f:=λp=>(row w p).map λq=>(p,q)) (k:=w.length) (l:=ak w.length) λx _=>by rw[aG];exact fC g x
 rw[jQ] at this;exact this
def dD(w:W):Nat->Nat×Nat->Nat×Nat
 |0,d=>d
 |n+1,d=>qa w^dD w n d
theorem ig(g:Good w)(h:aR w d):∀n,aR w^dD w n d
 |0=>h
 |n+1=>NH g^ig g h n
theorem Ak(m:Nat):∀n,dD w (n+m) d=dD w n^dD w m d
 |0=>by rw[ja];rfl
 |n+1=>by rw[Nat.succ_add];show qa w^dD w (n+m) d=qa w^dD w n^dD w m d;rw[Ak m n]
theorem Hj(g:Good w)(h:aR w d)(a:aR w e):∀n,dD w n d=dD w n e->d=e
 |0,q=>q
 |n+1,q=>Hj g h a n^Q9 g (ig g h n) (ig g a n) q
def walk(w:W)(d:Nat×Nat)(k:Nat):List (Nat×Nat):=(ak k).map λi=>dD w i d
def tY(w:W)(d:Nat×Nat)(k:Nat):walk w d (k+1)=walk w d k++ [dD w k d]:=by
 unfold walk;rw[aeg,b9];rfl
def jw(w:W)(d:Nat×Nat)(k:Nat):(walk w d k).length=k:=by unfold walk;simp
def oz(g:Good w)(h:aR w d){k:Nat}:∀e∈walk w d k,aR w e:=λe a=>by
 obtain⟨i,_,rfl⟩:=cE.mp a;exact ig g h i
def qD(g:Good w)(h:aR w d)(a:∀j,0<j->j<k->dD w j d≠d):(walk w d k).Nodup:=by
 unfold walk cI;rw[iR];refine acS ?_ adL;intro i j f b lt e;have l:=i9.mp b;have c:dD w i d=dD w i^dD w (j-i) d:=by rw[<-Ak (j-i) i,show i+(j-i)=j by lia];exact e
 exact a (j-i) () () (Hj g h (ig g h _) i c).symm
def vV(g:Good w)(h:aR w d){k:Nat}(a:∀j,0<j->j<k->dD w j d≠d):k<=(ba w).length:=by
 have:=bf (m:=ba w) (qD g h a) λe b=>bh.mpr^oz g h e b
 rwa [jw] at this
def Gq(g:Good w){S:Nat->Prop}(c:S 0)(d:∀p q,S p->q∈row w p->S q):∀p,p<w.length->S p:=λp e=>by
 have:∀{a b},Reach w a b->S a->S b:=λ {a b} h f=>by
  induction h with
  |refl=>exact f
  |step _ i j=>exact d _ _ j i
 exact this (g.con p e) c
def lexLe(a b:Nat×Nat):Prop:=a.1<b.1\/(a.1=b.1/\a.2<=b.2)
def mL(h:lexLe a b)(c:lexLe b a):a=b:=by
 unfold lexLe at h c;exact acY () ()
def cM(a:Nat->List Nat)(n:Nat):List (Nat×Nat):=(ak n).flatMap λp=>((a p).filter λq=>decide (p<q)).map λq=>(p,q)
theorem qd{e c:Type}{R:c->c->Prop}{f:e->List c}:∀{l:List e},(∀x∈l,(f x).Pairwise R)->l.Pairwise (λa b=>∀x∈f a,∀y∈f b,R x y)->(l.flatMap f).Pairwise R
 | [],_,_=>List.Pairwise.nil
 |a::r,h,p=>by
  have g:=List.pairwise_cons.mp p;rw[xT,sL];refine#[h a dH,qd (λx d=>h x^fq _ d) g.2,λx d y i=>?_];let⟨b,j,k⟩:=List.mem_flatMap.mp i;exact g.1 b j x d y k
end Wb
namespace L2
open PySem PySem.Spec PyProof.Rows
section
variable {X:Cx}
theorem Vals.ins{x:V}{u:b_}(r:RelV x u){a:List V}{b:List b_}(i:Nat)(h:Vals a b):Vals (Wb.ins a i x)^Wb.ins b i u:=(h.take i).append^.cons r^h.drop i
def RW:V->List V->Hp->VK->Prop:=λx b H Q=>∃l a i y,x= .ref l/\b= [.int i,y]/\H l\(.lst a)/\0<=i/\i<=a.length/\a.length<sizeLine/\Q .aQ^upd H l^.lst^Wb.ins a i.toNat y
def nX:MA X "list.insert" RW:=by
 intro c s u H x w v A Q I g j h;rfl';let⟨l,C,i,y,rfl,rfl,d,E,G,J,q⟩:=h;subst g;obtain⟨L,f,rfl,⟨t,rfl⟩,m⟩:=j.two;let⟨z,a,n,r,M,e⟩:=I.rY d;have N:=lO;ac_rfl
 have b:¬(!Builtin.List.listFitsIndex i)=true:=by
  rw[fitsIndex_both () ()]
  exact eD
 refine adq F.slot_list_insert #[_,e,rfl] F.entry_list_insert (F.args_list_insert_3 _ _ _) (AutoSeq1.list_insert_list_int_val_1 l a.toArray n i t f b^by rw[cn];lia) #[e,?_]
 refine#[.aQ,_,I.Hq (its':=Wb.ins a i.toNat f) d e ?_ (r.ins m i.toNat) ?_,rfl,q]
 .have o:¬i<0:=()
  have p:min i.toNat a.length=i.toNat:=()
  simp only[o,Pi,cn,p];apply aeX.mp;unfold Wb.ins;simp;exact sI^by rw[oS];lia
 .rw[Wb.Ai];lia
def Vk(K:ad):V->List V->Hp->VK->Prop:=λx b H Q=>∃(l:Addr)(a:List V)(y:V)(j:Nat)(z:V),x= .ref l/\b= [y]/\H l\(.lst a)/\gZ y=true/\a.all gZ=true/\a[j]?\z/\sT z y=true/\
 (∀(m:Nat) z,m<j->a[m]?\z->sT z y=false)/\Q (.int j) H
def qY:MA X "list.index"^Vk X.K:=by
 intro A s Y H x Z v us Q I B C h;rfl';let⟨l,d,y,j,z,rfl,rfl,G,J,fs,f,L,M,q⟩:=h;subst B;let⟨u,rfl,N⟩:=C.one;let⟨dQ,a,n,r,hl,e⟩:=I.rY G;let⟨w,hw,O⟩:=r.get f;ac_rfl
 have P:j<a.toArray.size:=by
  let⟨b,D⟩:=cR.mp hw;simpa using b
 have flat:∀(m:Nat) z,d[m]?\z->gZ z=true:=λm z h=>(adU.mp fs) z^cL h
 have g:a.toArray[j]=w:=by
  let⟨b,i⟩:=cR.mp hw;simpa using i
 have bZ:=lO
 have EC:j<d.length:=by
  let⟨b,D⟩:=cR.mp f;exact b
 refine adq F.slot_list_index #[_,e,rfl] F.entry_list_index (F.args_list_index_2 _ _) (SeqAt.list_indexAt l a.toArray n none #[] u (rL y) j P () ?_ ?_) #[e,λw hw=>kD N J r fs w^~~~hw,?_]
 .rw[g,zc O^flat j z f];exact L
 .intro m R S
  have pq:m<a.length:=by simpa using R
  obtain⟨c,k⟩:∃c,d[m]?\c:=#[_,cz ()]
  let⟨T,o,p⟩:=r.get k
  have t:a.toArray[m]=T:=by
   let⟨b,i⟩:=cR.mp o;simpa using i
  rw[t,zc p^flat m c k];exact M m c S k
 .exact#[.int j,H,I.tok _,#[_,rfl],q]
end
mutual
inductive Dp (K:ad) (H:Hp):V->PyData->Prop
 |aQ:Dp K H .aQ .none
 |bl (b:Bool):Dp K H (.bl b)^.bool b
 |int (i:Int):Dp K H (.int i)^.int i
 |str (x:fA) (h:PyData.strOk x=true):Dp K H (.str x)^.str x
 |lst {a:Addr} {xs:List V} {ds:List PyData}:aL K H a xs->jb K H xs ds->Dp K H (.ref a)^.list ds
 |tup {a:Addr} {xs:List V} {ds:List PyData}:fI K H a xs->jb K H xs ds->Dp K H (.ref a)^.tuple ds
inductive jb (K:ad) (H:Hp):List V->List PyData->Prop
 |nil:jb K H [] []
 |cons {v:V} {vs:List V} {d:PyData} {ds:List PyData}:Dp K H v d->jb K H vs ds->jb K H (v::vs) (d::ds)
end
section
variable {X:Cx} {pins:List (Addr×Obj)} {σ:St} {H:Hp} {s:Shared}
theorem Dp.reads(I:Inv X pins σ H s){v:V}{d:PyData}{u:b_}(h:Dp X.K H v d):RelV v u->(∃as,Reads s.heap u d as)/\d.canLay0=true:=by
 revert u;refine Dp.rec (motive_1:=λv d _=>∀{u:b_},RelV v u->(∃as,Reads s.heap u d as)/\d.canLay0=true) (motive_2:=λn d _=>∀{u:List b_},Vals n u->(∃as,ReadsAll s.heap u d as)/\PyData.canLayAll0 d=true) ?_ ?_ ?_ ?_ (λh _ j u r=>?_) (λh _ j u r=>?_) ?_ (λ_ _ j k u r=>?_) h
 .rintro _ rfl;exact#[#[_, .none],rfl]
 .rintro b _ rfl;exact#[#[_, .bool b],rfl]
 .rintro i _ ⟨t,rfl⟩;exact#[#[_, .int i t],rfl]
 .rintro x h _ ⟨t,rfl⟩;exact#[#[_, .str x t],h]
 .cases r;obtain⟨its,rv,pl,hz⟩:=I.list h;obtain⟨⟨as,ra⟩,c⟩:=j rv;obtain⟨o,ho,hc,n,hd⟩:=pl.isList;exact#[#[_, .list ho hc hd^~~~ra],c]
 .cases r;obtain⟨its,rv,pl,hz⟩:=I.tuple h;obtain⟨⟨as,ra⟩,c⟩:=j rv;obtain⟨o,ho,hc,n,hd⟩:=pl;exact#[#[_, .tuple ho hc hd^~~~ra],c]
 .intro u r;cases r;exact#[#[_, .nil],rfl]
 .cases r with
  |cons r q=>
   obtain⟨⟨x,h1⟩,c1⟩:=j r;obtain⟨⟨y,h2⟩,c2⟩:=k q;exact#[#[_, .cons h1 h2],Bool.and_eq_true_iff.mpr #[c1,c2]]
end
section
variable {X:Cx}
def abN(K:ad):R2:=λx y H Q=>∃d e,Dp K H x d/\Dp K H y e/\d.depth<=64/\Q (.bl^PyData.eqv d e) H
def abO(K:ad):R2:=λx y H Q=>∃d e,Dp K H x d/\Dp K H y e/\d.depth<=64/\Q (.bl (!PyData.eqv d e)) H
def UW(n:X.A.units+64<cLine):OpR X (gj .Eq)^abN X.K:=by
 intro a s o H x y v u Q I b c h;rfl';let⟨d,e,g,i,r,q⟩:=h;obtain⟨⟨t,j⟩,k⟩:=g.reads I b;obtain⟨⟨bs,l⟩,m⟩:=i.reads I c;ac_rfl;exact SeqAt.compareEq_reads j l k m (by have:=Nat.min_le_left d.depth e.depth;lia) #[.bl _,H,I,rfl,q]
def Fe(n:X.A.units+64<cLine):OpR X (gj .NotEq)^abO X.K:=by
 intro a s o H x y v u Q I b c h;rfl';let⟨d,e,g,i,r,q⟩:=h;obtain⟨⟨t,j⟩,k⟩:=g.reads I b;obtain⟨⟨bs,l⟩,m⟩:=i.reads I c;ac_rfl;exact SeqAt.compareNe_reads j l k m (by have:=Nat.min_le_left d.depth e.depth;lia) #[.bl _,H,I,rfl,q]
end
def nD(n:Nat):PyData:= .int n
def vA(r:List Nat):PyData:= .list^r.map nD
def oR(d:Nat×Nat):PyData:= .tuple [.int d.1, .int d.2]
theorem yd{e:Type}{f:e->PyData}(g:∀a b,PyData.eqv (f a)^f b=true↔a=b):∀c d:List e,PyData.eqvAll (c.map f)^d.map f=true↔c=d
 | [],[]=>by simp[PyData.eqvAll]
 | [],_::_=>by simp[PyData.eqvAll]
 |_::_,[]=>by simp[PyData.eqvAll]
 |a::c,b::d=>by
  have h:=yd g c d;simp[PyData.eqvAll,g,h]
def TX(a b:Nat):PyData.eqv (nD a)^nD b=true↔a=b:=by
 simp[nD,PyData.eqv];lia
def CP(a b:List Nat):PyData.eqv (vA a)^vA b=true↔a=b:=by
 unfold vA;rw[PyData.eqv];exact yd TX a b
def CQ(a b:Nat×Nat):PyData.eqv (oR a)^oR b=true↔a=b:=by
 unfold oR;let⟨c,d⟩:=a;let⟨e,f⟩:=b;simp[PyData.eqv,PyData.eqvAll];lia
theorem lZ{f:c->PyData}{k:Nat}(d:∀a,(f a).depth<=k):∀b:List c,PyData.depthAll^b.map f<=k
 | []=>by simp[PyData.depthAll]
 |a::b=>by
  have:=d a
  have e:=lZ d b;simp[PyData.depthAll];lia
def pL(a:List Nat):(vA a).depth<=2:=by
 unfold vA;rw[PyData.depth]
 have:=lZ (f:=nD) (k:=1) (λn=>by simp[nD,PyData.depth]) a
 lia
def ya(a:Nat×Nat):(oR a).depth<=2:=by simp[oR,PyData.depth,PyData.depthAll]
end L2
namespace L2
open PySem PySem.Spec PyProof.Rows
theorem Vals.of_get:∀{a:List V}{b:List b_},a.length=b.length->(∀(k:Nat) x u,a[k]?\x->b[k]?\u->RelV x u)->Vals a b
 | [],[],_,_=> .nil
 | [],_::_,h,_=>by simp at h
 |_::_,[],h,_=>by simp at h
 |x::a,u::b,h,r=> .cons (r 0 x u rfl rfl) (Vals.of_get (~~~h) λk y w c d=>r (k+1) y w (~~~c)^~~~d)
section
variable {X:Cx}
def Eb:dX X (.builtin "isinstance") (λa H Q=>∃(x:V)(n:String)(t:b_)(b:Bool),a= [x, .ty n]/\lD X.K H x t/\c4 X.K t^.type n\b/\Q (.bl b) H):=by
 intro c s k H a l Q I d h;rfl';let⟨x,n,t,b,rfl,g,e,q⟩:=h;let⟨o,p,rfl,i,j⟩:=d.two;subst j;ac_rfl;exact JK I i g e λr=>#[.bl b,H,I.tok _,rfl,q]
def B2:dX X (.builtin "sorted") (λf H Q=>∃(p:Addr)(c:List Int),f= [.ref p]/\aL X.K H p^c.map V.int/\c.length<64/\∀(q:Addr)(a:List Int),H q=none->a.Perm c->a.Pairwise (·<=·)->Q (.ref q)^upd H q^.lst^a.map V.int):=by
 intro g s z H f A Q I j h;rfl';let⟨p,c,rfl,l,C,q⟩:=h;let⟨u,rfl,m⟩:=j.one;subst m;let⟨d,r,pl,k⟩:=I.list l;have n:=r.length;rw[aG] at n;ac_rfl;refine sorted_ints pl.isList (intsAre_of r) () λout a t i v=>?_
 let⟨e,w⟩:=afy s.heap d out;have x:H (s.heap.objs.size+1)=none:=I.hok.fresh^oW _;have E:=i.length_eq;have F:64<=sizeLine:=∅
 refine#[.ref (s.heap.objs.size+1),_,I.laid (t':=s.toks) (λb o y=>aft y) (oW _) (o:= .lst^a.map V.int) #[by rw[aG];lia,out.toList,e,tW t,by simpa using w],rfl,q _ a x i v]
end
structure kK (C:gc) (t0 i0 t1 i1:gc) (f0 f1:List gc) (el:Addr->oy->l_ Unit):Prop where
 u:∀(A:gs)(k:Nat)(it:b_)(D:Addr)(env:oy),A.under^.compLoop C k it (.ref D) env=A
 z0:∀(P:fw)(w:f5)(it:b_)(D:Addr)(env:oy),(ei P w).den^.compLoop C 0 it (.ref D) env=Sem.onRaise (do
   jo i0.pos
   match <-nr it with
   |none=>pure^.done .next
   |some v=>
    j6 t0 it v
    k_ t0 env v
    let ok <-forIn f0 true λc r=>if r=true then do let ok <-isTrue c env^gi c env;pure^ForInStep.yield ok else pure (ForInStep.yield r)
    if ok=true then
     let x <-gi i1 env
     jo i1.pos
     let x <-f8 i1 env x
     let Hh <-io [x]^pyIter x
     let _ <-runOwn (.compStart C 1 Hh (.ref D) env) env
     again (.compLoop C 0 it (.ref D) env)
    else again^.compLoop C 0 it (.ref D) env) (λx=>do nn x env;theTreesLotGoes x)
 z1:∀(P:fw)(w:f5)(it:b_)(D:Addr)(env:oy),(ei P w).den^.compLoop C 1 it (.ref D) env=Sem.onRaise (do
   jo i1.pos
   match <-nr it with
   |none=>pure^.done .next
   |some v=>
    j6 t1 it v
    k_ t1 env v
    let ok <-forIn f1 true λc r=>if r=true then do let ok <-isTrue c env^gi c env;pure^ForInStep.yield ok else pure (ForInStep.yield r)
    if ok=true then
     el D env
     again (.compLoop C 1 it (.ref D) env)
    else again^.compLoop C 1 it (.ref D) env) (λx=>do nn x env;theTreesLotGoes x)
 b0:∀{P:fw}{w:f5}{A:gs}{R:ny->c_->Prop}{s:c_}{it:b_}{D:Addr}{env:oy},hB (ei P w) A (.compLoop C 0 it (.ref D) env) R s->
  (∀(Q:b_->c_->Prop)(E:b_->c_->Prop),Q it s->e_ (ei P w) A (pyIter it) Q E s)->hB (ei P w) A (.compStart C 0 it (.ref D) env) R s
 b1:∀{P:fw}{w:f5}{A:gs}{R:ny->c_->Prop}{s:c_}{it:b_}{D:Addr}{env:oy},hB (ei P w) A (.compLoop C 1 it (.ref D) env) R s->
  (∀(Q:b_->c_->Prop)(E:b_->c_->Prop),Q it s->e_ (ei P w) A (pyIter it) Q E s)->hB (ei P w) A (.compStart C 1 it (.ref D) env) R s
abbrev MB:=Addr->St->Hp->(Hp->Prop)->Prop
def OQ(X:Cx)(d:Addr->Env->Sem Unit)(e:MB):Prop:=∀(D:Addr)(a:List (Addr×Obj))(s:Shared)(b:St)(H:Hp)(N:Hp->Prop),Inv X a b H s->e D b H N->wpAny (model X.prog X.w) X.A (d D X.env) (λ_ f=>∃c,Inv X a b c f/\N c) X.xe s
section
variable {X XC:Cx} {C elt i0 t0 i1 t1:gc} {f0 f1:List gc} {scope:Scope} {pos:jP} {wi cG:TI} {g g1:TG} {tt bW:TT} {te:TE} {ta:MB} {el:Addr->oy->l_ Unit} {src:List^Option Nat} {NC:List fA}
theorem KQ{a:List (Addr×Obj)}{s:c_}{σ:St}{H:Hp}{it D:Addr}{z:List Addr}{Y:Nat->Heap->Prop}{J:It}{R:ny->c_->Prop}{N:St->Hp->Prop}
  (Uo:XC.xe=λ_ _=>False) (hc:XC.calm=true) (I:Inv XC a σ H s) (T:Turn XC.prog XC.w XC.K t1 J z it Y) (st:Y 0 s.heap) (f2:∀b∈z,eJ XC a H b)
  (Tw:kK C t0 i0 t1 i1 f0 f1 el) (hg:PG XC t1 g1) (ht:kJ XC f1 bW) (he:OQ XC el ta)
  (hW:∃W:Nat->Nat->St->Hp->Prop,(∃m,W 0 m σ H)/\∀i m dS L,W i m dS L->(J.stop i L/\N dS L)\/
   (J.go i L/\∃M:St->Hp->Prop,(∀j c,M j c->∃Z,Z<m/\W (i+1) Z j c)/\∀x H3,J.yld i L x H3->g1 x dS H3 λg H4=>bW g H4 λb H5=>
    if b=true then ta D g H5^M g else M g H5))
  (hR:∀j c v,Inv XC a j c v->N j c->R (.ok .next) v):
  hB (ei XC.prog XC.w) XC.A (.compStart C 1 (.ref it) (.ref D) XC.env) R s:=by
 obtain⟨W,⟨m0,w0⟩,O⟩:=hW
 have lB:∀{α:Type}{t:l_ α}{Q:α->c_->Prop}{E:b_->c_->Prop}{s:c_},e_ (ei XC.prog XC.w) XC.A t Q XC.xe s->e_ (ei XC.prog XC.w) XC.A t Q E s:=λ {α t Q E s} h=>
  ip h (λ_ _ q=>q) λ_ _ f=>by rw[Uo] at f;exact f.elim
 have k:∀{c:Hp},(∀b∈z,c b=none)->∀b∈z,eJ XC a c b:=λhn b p=>#[hn b p,(f2 b p).2]
 have P:hB (ei XC.prog XC.w) XC.A (.compLoop C 1 (.ref it) (.ref D) XC.env) R s:=by
  refine afx rfl (λn v=>∃i j c,Inv XC a j c v/\Y i v.heap/\(∀b∈z,c b=none)/\W i n j c) (λn v hI=>?_) m0 #[0,σ,H,I,st,λb p=>(f2 b p).1,w0];rfl';let⟨i,j,c,I5,y0,sX,w5⟩:=hI;ac_rfl;rw[Tw.u,Tw.z1];refine wpAny_noted ?_;refine a_^acP^a_ ?_
  rcases O i n j c w5 with ⟨stop,qn⟩ | ⟨go,M,hN,step⟩
  .refine thn (T.done XC rfl rfl rfl hc i a v j c _ I5 (k sX) y0 stop) λr s6 l=>?_
   let⟨hr,I6⟩:=l;subst hr;exact mo^hR j c s6 I6 qn
  .refine thn (T.item XC rfl rfl rfl hc i a v j c _ I5 (k sX) y0 go) λr s6 l=>?_
   rfl';let⟨u,hr,h6⟩:=l;ac_rfl;subst hr;refine a_ (thn h6 λ_ s7 l=>?_);rfl';let⟨x,H7,I7,r7,y7,Bi,PU⟩:=l;ac_rfl;have OM:=I7.pinned (k PU)^T.obj _ _ Bi
   have nextT:∀{y:St}{F:Hp}{G:c_},Inv XC (a++n6 z s7.heap) y F G->M y F->∃m,m<n/\∃i j c,Inv XC a j c G/\Y i G.heap/\(∀b∈z,c b=none)/\W i m j c:=λ {y F G} S n8=>by
    let⟨Z,hm,w8⟩:=hN y F n8;refine#[Z,hm,i+1,y,F,S.kG,T.keep _ _ _ Bi λb p o e=>(S.pin (b,o)^fW _^fW _^fE p e).1,λb p=>?_,w8];let⟨o,e,d⟩:=T.obj _ _ Bi b p;exact(S.pin (b,o)^fW _^fW _^fE p e).2.1
   refine a_^lB (thn (hg _ s7 j H7 x u _ OM r7^step x H7 y7) λ_ G l=>?_);rfl';let⟨y,F,S,q8⟩:=l;ac_rfl;refine a_^lB (thn (ht _ G y F _ S q8) λb s9 l=>?_);let⟨H9,I9,X⟩:=l;cases b with
   |false=>
    rw[tz eD] at X;exact mo #[rfl,nextT I9 X]
   |true=>
    rw[ir rfl] at X;refine a_^lB (thn (he D _ s9 y H9 _ I9 X) λ_ Fp l=>?_);let⟨BW,D7,Ki⟩:=l;exact mo #[rfl,nextT D7 Ki]
 exact Tw.b1 P λQ E q=>T.self _ 0 _ _ _ st q
def gIn(n:TG)(o:TT)(p:MB)(D:Addr)(J:It)(N:St->Hp->Prop):St->Hp->Prop:=λq H=>
 ∃W:Nat->Nat->St->Hp->Prop,(∃m,W 0 m q H)/\∀i m d a,W i m d a->(J.stop i a/\N d a)\/
  (J.go i a/\∃e:St->Hp->Prop,(∀f h,e f h->∃j,j<m/\W (i+1) j f h)/\∀x k,J.yld i a x k->n x d k λc r=>o c r λb l=>
   if b=true then p D c l^e c else e c l)
def PX(g:TG)(l:TT)(n:TI)(o:TG)(p:TT)(q:MB)(D:Addr)(J:It)(Q:VK)(r:St)(H:Hp):Prop:=
 ∃W:Nat->Nat->St->Hp->Prop,(∃m,W 0 m r H)/\∀i m d a,W i m d a->
  (J.stop i a/\Q (.ref D) a)\/
  (J.go i a/\∃N:St->Hp->Prop,(∀e f,N e f->∃h,h<m/\W (i+1) h e f)/\∀x j,J.yld i a x j->g x d j λc s=>l c s λb k=>
   if b=true then n c k λt u=>gIn o p q D t N c u else N c k)
theorem Bt{k:List (Addr×Obj)}{σ:St}{v:c_}{Y:Hp}{it:Addr}{G:List Addr}{tn:Nat->Heap->Prop}{J:It}{RR:b_->Addr->ny->c_->Prop}{E:b_->c_->Prop}{Q:VK}{o0:Addr->HO}{new:l_ b_}
  (Tw:kK C t0 i0 t1 i1 f0 f1 el)
  (hc:X.calm=true) (c:bC X scope) (eL:dA scope X.N src NC) (I2:Inv X k σ Y v) (T:Turn X.prog X.w X.K t0 J G it tn) (iP:tn 0 v.heap) (f2:∀b∈G,eJ X k Y b)
  (hg:∀ex s H,PG (bH X scope NC ex s H) t0 g) (ht:∀ex s H,kJ (bH X scope NC ex s H) f0 tt) (pj:∀ex s H,PI (bH X scope NC ex s H) t1 i1 cG) (wR:∀ex s H,PG (bH X scope NC ex s H) t1 g1)
  (wZ:∀ex s H,kJ (bH X scope NC ex s H) f1 bW) (he:∀ex s H,OQ (bH X scope NC ex s H) el ta) (rP:∀env x,f8 i1 env x=pure x)
  (hn:∀(Q':b_->c_->Prop)(E':b_->c_->Prop),(∀B:c_,Inv X k σ (upd Y v.heap.objs.size^o0 v.heap.objs.size) B->(∀b o,v.heap.get? b\o->B.heap.get? b\o)->Q' (.ref v.heap.objs.size) B)->e_ (ei X.prog X.w) X.A new Q' E' v)
  (hW:∀D,Y D=none->PX g tt cG g1 bW ta D J Q (k4 src σ)^upd Y D^o0 D)
  (Ji:∀D B H3 I l L,Inv X k σ H3 B->(∀b∈G,eJ X k H3 b)->Inv (bH X scope NC G B H3) [] I l L->Q (.ref D) l->RR (.ref D) B.heap.objs.size (.ok .next) L):
  e_ (ei X.prog X.w) X.A new (λacc vT=>e_ (ei X.prog X.w) X.A (kO scope X.env.globals (jG X.env scope.names []) [] X.env.qual none .none^some X.env) (λlG vU=>
   hB (ei X.prog X.w) X.A (.compStart C 0 (.ref it) acc {lG with scope:=m8 scope X.env}) (RR acc lG.locals) vU) E vT) E v:=by
 rfl';obtain⟨W,⟨m0,w0⟩,turn⟩:=hW v.heap.objs.size I2.fresh;ac_rfl
 have Av:∀b∈G,b<v.heap.objs.size:=λb j=>by
  let⟨o,e,O⟩:=T.obj _ _ iP b j;exact Da e
 have f3:∀b∈G,eJ X k (upd Y v.heap.objs.size^o0 v.heap.objs.size) b:=λb j=>#[by rw[ag^bS^Av b j];exact(f2 b j).1,(f2 b j).2]
 refine hn _ _ λB I3 Z0=>?_;have yZ:tn 0 B.heap:=T.keep _ _ _ iP λb _ o e=>Z0 b o e
 have JT:∀b∈G,b<B.heap.objs.size:=λb j=>by
  let⟨o,e,O⟩:=T.obj _ _ yZ b j;exact Da e
 generalize hH3:upd Y v.heap.objs.size^o0 v.heap.objs.size=H3 at I3 f3 w0;refine wpAny_newFunctionEnv c.nocell (by intro y hy;simp at hy) (λh1 EF EK=>?_) c.kind
 have I4:=CG (src:=src) (NC:=NC) (ex:=G) (tk:=B.toks+([]:List (fA×b_)).length) I3 c eL f3 JT EF EK;have Sv:tn 0 h1:=T.keep _ _ _ yZ λb j o e=>EK.extBut b o (bS^JT b j)^AC _ e;generalize F:bH X scope NC G B H3=a at I4
 have M:∀{l:Hp},(∀b∈G,l b=none)->∀b∈G,eJ a [] l b:=λ {l} hn b j=>by
  subst F;refine#[hn b j,bS^JT b j,λz=>?_, .inl j,λx d e=>?_,λp hp=>absurd (show p∈([]:List (Addr×Obj)) from hp)^by simp]
  .exact(I4.ok.exfs b j) z
  .exact(I4.ok.exf b j).2 x d e
 have Nj:a.calm=true:=by subst F;exact hc
 have eP:a.prog=X.prog:=by subst F;rfl
 have ew:a.w=X.w:=by subst F;rfl
 have eK:a.K=X.K:=by subst F;rfl
 have eA:a.A=X.A:=by subst F;rfl
 have Uo:a.xe=λ_ _=>False:=by subst F;rfl
 have YD:PG a t0 g:=by subst F;exact hg _ _ _
 have YW:kJ a f0 tt:=F▸ht _ _ _;have hiC:PI a t1 i1 cG:=F▸pj _ _ _;have aa2:PG a t1 g1:=F▸wR _ _ _;have abm:kJ a f1 bW:=F▸wZ _ _ _;have Yz:OQ a el ta:=F▸he _ _ _
 have lB:∀{α:Type}{t:l_ α}{Q:α->c_->Prop}{E:b_->c_->Prop}{s:c_},e_ (ei a.prog a.w) a.A t Q a.xe s->e_ (ei X.prog X.w) X.A t Q E s:=λ {α t Q E s} h=>by
  rw[<-eP,<-ew,<-eA];exact ip h (λ_ _ q=>q) λ_ _ f=>by rw[Uo] at f;exact f.elim
 have loop:hB (ei X.prog X.w) X.A (.compLoop C 0 (.ref it) (.ref v.heap.objs.size) a.env) (RR (.ref v.heap.objs.size) B.heap.objs.size)
   {B with heap:=h1,toks:=B.toks+([]:List (fA×b_)).length}:=by
  refine afx rfl (λn L=>∃i I l,Inv a [] I l L/\tn i L.heap/\(∀b∈G,l b=none)/\W i n I l) (λn L hI=>?_) m0 #[0,_,_,I4,Sv,λb j=>(f3 b j).1,w0];rfl';let⟨i,I,l,I5,y0,sX,w5⟩:=hI;ac_rfl;rw[Tw.u,Tw.z0];refine wpAny_noted ?_;refine a_^acP^a_ ?_
  rcases turn i n I l w5 with ⟨stop,qn⟩ | ⟨go,N,hN,step⟩
  .have hd:=T.done a eP ew eK Nj i [] L I l (notedBy (ei X.prog X.w) X.A a.env λe L=>RR (.ref v.heap.objs.size) B.heap.objs.size (.error e) L) I5 (M sX) y0 stop
   rw[eA] at hd;refine thn hd λr s6 P=>?_;let⟨hr,I6⟩:=P;subst hr;refine mo ?_;subst F;exact Ji _ B _ I l s6 I3 f3 I6 qn
  .have hd:=T.item a eP ew eK Nj i [] L I l (notedBy (ei X.prog X.w) X.A a.env λe L=>RR (.ref v.heap.objs.size) B.heap.objs.size (.error e) L) I5 (M sX) y0 go
   rw[eA] at hd;refine thn hd λr s6 P=>?_;let⟨u,hr,h6⟩:=P;subst hr;refine a_ (thn h6 λ_ s7 P=>?_);rfl';let⟨x,H7,I7,r7,y7,Bi,PU⟩:=P;ac_rfl;have OM:=I7.pinned (M PU)^T.obj _ _ Bi
   have nextT:∀{S:St}{Z:Hp}{s8:c_},Inv a ([]++n6 G s7.heap) S Z s8->N S Z->∃m,m<n/\∃i I l,Inv a [] I l s8/\tn i s8.heap/\(∀b∈G,l b=none)/\W i m I l:=λ {S Z s8} I8 n8=>by
    let⟨m',hm,w8⟩:=hN S Z n8;refine#[m',hm,i+1,S,Z,I8.kG,T.keep _ _ _ Bi λb j o e=>(I8.pin (b,o)^fW _^fW _^fE j e).1,λb j=>?_,w8];let⟨o,e,d⟩:=T.obj _ _ Bi b j;exact(I8.pin (b,o)^fW _^fW _^fE j e).2.1
   refine a_^lB (thn (YD _ s7 I H7 x u _ OM r7^step x H7 y7) λ_ s8 P=>?_);rfl';let⟨S,Z,I8,q8⟩:=P;ac_rfl;refine a_^lB (thn (YW _ s8 S Z _ I8 q8) λb s9 P=>?_);let⟨H9,I9,q9⟩:=P;cases b with
   |false=>
    rw[tz eD] at q9;exact mo #[F▸rfl,nextT I9 q9]
   |true=>
    rw[ir rfl] at q9;refine a_^lB (thn (hiC _ s9 S H9 _ I9 q9) λv1 A5 h10=>?_);refine a_^acP^a_^aew (rP _ v1)^a_^KF^lB (thn h10 λJL Fp h11=>?_);rfl';let⟨Hh,fp1,tn1,J1,BW,rfl,D7,T1,ab0,f11,hin⟩:=h11;ac_rfl;refine a_^wpAny_runOwn ?_;have tr:∀(cd:Code)(R:ny->c_->Prop),hB (ei a.prog a.w) a.A cd R Fp->hB (ei X.prog X.w) X.A cd R Fp:=λcd R h=>by rw[eP,ew,eA] at h;exact h
    exact tr _ _ (KQ Uo Nj D7 T1 ab0 f11 Tw aa2 abm Yz hin λI l L W2 n12=>mo #[F▸rfl,nextT W2 n12])
 subst F;exact Tw.b0 loop λQ E q=>T.self _ 0 _ _ _ Sv q
def acL(c:TE):MB:=λD d H N=>c d H λv b=>∃a,b D\(.lst a)/\a.length<sizeLine/\N^upd b D^.lst (a++ [v])
theorem Oy:kK (.ListComp elt [#[t0,i0,f0,0],#[t1,i1,f1,0]] scope pos) t0 i0 t1 i1 f0 f1 (λD env=>do let _ <-call (.builtin "list.append") [.ref D,<-gi elt env]) where
 u:=λ_ _ _ _ _=>rfl
 z0:=λ_ _ _ _ _=>rfl
 z1:=λ_ _ _ _ _=>rfl
 b0:=λa b=>codeAny_compStart_list a (b _ _ a)
 b1:=λa b=>by
  refine codeAny_of_tree ?_;refine wpAny_notedAt ?_;unfold compStart;refine a_^wpAny_askSetting^wpAny_ite ?_
  split
  .first
    |exact a_^gl^gl #[rfl,a]
    |exact gl #[rfl,a]
  .refine a_^wpAny_rule ?_
   exact a_^nA^a_^b _ _^gl #[rfl,a]
def NM(e:PE X elt te):OQ X (λD env=>do let _ <-call (.builtin "list.append") [.ref D,<-gi elt env])^acL te:=λD a s d H N I h=>
 a_ (thn (e a s d H _ I h) λy f b=>by
  rfl';obtain⟨v,j,k,l,m,n,o,p⟩:=b;ac_rfl;refine a_ (thn (ju _ f d j (.ref D) [v] _ [y] (λ_ q=>N q) k rfl (.cons l .nil) #[_,m,v,rfl,rfl,n,o,p]) λ_ w b=>?_);rfl';obtain⟨_,r,t,_,u⟩:=b;ac_rfl;exact mo #[r,t,u])
def WX(g:TG)(a:TT)(b:TI)(c:TG)(d:TT)(e:TE)(D:Addr)(J:It)(Q:VK)(f:St)(H:Hp):Prop:=PX g a b c d (acL e) D J Q f H
def WV(c:TI)(g:TG)(d:TT)(e:TI)(f:TG)(h:TT)(i:TE)(src:List^Option Nat):TE:=λa H Q=>c a H λJ b=>∀D,b D=none->WX g d e f h i D J Q (k4 src a)^upd b D^.lst []
def Ee{a:List (Addr×Obj)}{j:St}{f:c_}{h:Hp}{m:Addr}{i:List Addr}{n:Nat->Heap->Prop}{J:It}{p:b_->Addr->ny->c_->Prop}{E:b_->c_->Prop}{Q:VK}
  (y:X.calm=true) (c:bC X scope) (z:dA scope X.N src NC) (r:Inv X a j h f) (T:Turn X.prog X.w X.K t0 J i m n) (B:n 0 f.heap) (F:∀b∈i,eJ X a h b)
  (G:∀d s H,PG (bH X scope NC d s H) t0 g) (I:∀d s H,kJ (bH X scope NC d s H) f0 tt) (L:∀d s H,PI (bH X scope NC d s H) t1 i1 cG) (M:∀d s H,PG (bH X scope NC d s H) t1 g1)
  (O:∀d s H,kJ (bH X scope NC d s H) f1 bW) (P:∀d s H,PE (bH X scope NC d s H) elt te) (R:∀env x,f8 i1 env x=pure x)
  (S:∀D,h D=none->WX g tt cG g1 bW te D J Q (k4 src j)^upd h D^.lst [])
  (Y:∀D k l Z t u,Inv X a j l k->(∀b∈i,eJ X a l b)->Inv (bH X scope NC i k l) [] Z t u->Q (.ref D) t->p (.ref D) k.heap.objs.size (.ok .next) u):
  e_ (ei X.prog X.w) X.A (newList []) (λacc C=>e_ (ei X.prog X.w) X.A (kO scope X.env.globals (jG X.env scope.names []) [] X.env.qual none .none^some X.env) (λv vU=>
   hB (ei X.prog X.w) X.A (.compStart (.ListComp elt [#[t0,i0,f0,0],#[t1,i1,f1,0]] scope pos) 0 (.ref m) acc {v with scope:=m8 scope X.env}) (p acc v.locals) vU) E C) E f:=by
 refine Bt (o0:=λ_=> .lst []) Oy y c z r T B F G I L M O (λd s H=>NM^P d s H) R (λQ' E' q=>?_) S Y;exact acV (q _ (r.QV (its:= []) (t':=f.toks) .nil^eE _) λb o e=>AC _ e)
def U6(e:X.calm=true)(c:bC X scope)(f:dA scope X.N src NC)(i:PI X t0 i0 wi)
  (j:∀a s H,PG (bH X scope NC a s H) t0 g) (k:∀a s H,kJ (bH X scope NC a s H) f0 tt) (l:∀a s H,PI (bH X scope NC a s H) t1 i1 cG) (n:∀a s H,PG (bH X scope NC a s H) t1 g1)
  (o:∀a s H,kJ (bH X scope NC a s H) f1 bW) (p:∀a s H,PE (bH X scope NC a s H) elt te)
  (q:(∀x,f8 i0 X.env x=pure x)<|>xx) (r:(∀env x,f8 i1 env x=pure x)<|>wv):
  PE X (.ListComp elt [#[t0,i0,f0,0],#[t1,i1,f1,0]] scope pos)^WV wi g tt cG g1 bW te src:=by
 intro b s t H Q I h;rw[eval_ListComp];refine ade (use:=none) rfl q (gv^c.cells I.ok) c.kind c.names (thn (i b s t H _ I h) λv R u=>thn u λS Y w=>?_);rfl';let⟨C,fp,tn,J,H2,rfl,z,T,A,B,E⟩:=w;ac_rfl
 exact Ee e c f z T A B j k l n o p r E λD s3 H3 ay F s' G L d M=>by
  let⟨m,O,y⟩:=d.loc;exact#[m,O,λh' P=>#[.ref D,F,comp_back G L d P,rfl,M]]
end
end L2
namespace KS
open PySem PySem.W PyProof.Rows
section
variable {prog:Program} {w:World} {A:Around} {E:Value->Shared->Prop} {s:Shared}
def yw(c:s.heap.get? a\(hX "list" b.toArray n))(j:b.length<2)
  (h:G (.done^.ret .none) {s with heap:=sortedHeap s.heap a b b.toArray}):e_ (ei prog w) A (Builtin.«list.sort» #[[.ref a],[]]) G E s:=by
 rw[list_sort_plain];have m:a<s.heap.objs.size:=Da c;refine a_^listItems_at c rfl^a_^aeF c rfl ?_;obtain⟨l,d⟩:∃k,(s.heap.update a (Obj.mapSeq λ_=> #[])).get? a\(hX "list" #[] k):=#[_,get?_update_seq c^λ_=> #[]];refine a_^afl d rfl^a_^afr^a_^adR^KF ?_;have e:(((s.heap.update a (Obj.mapSeq λ_=> #[])).push^hX "tuple" b.toArray 0).push^hX "list" #[] 0).get? a\(hX "list" #[] l):=AC _^AC _ d;show e_ (ei prog w) A _ G E {s with heap:=((s.heap.update a (Obj.mapSeq λ_=> #[])).push^hX "tuple" b.toArray 0).push^hX "list" #[] 0}
 dsimp only;have f:b.toArray.size<2:=j;rw[ir f,ir f];refine a_^mo ?_;rw[StateT.run_pure];refine a_^mo ?_;dsimp only
 have g:(ey^SortSt.mk' general' (b.toArray.zip b.toArray) #[] 7 none).map (·.2)=b.toArray:=by
  show(b.toArray.zip b.toArray).map (·.2)=b.toArray;apply aeX.mp;simp[List.map_snd_zip]
 refine a_^afl e rfl^a_^aeF e rfl ?_ (hsz2:=by rw[g];rw[adu];lia)
 simp only[aeK,fo,Pi];have i:=h;unfold sortedHeap at i;rw[g];exact mo i
def Cv(e:s.heap.IsList l a.toArray)(f:a.length<2)(h:G (.ref (s.heap.objs.size+1)) {s with heap:=sortedAll s.heap a a.toArray}):
  e_ (ei prog w) A (call (.builtin "sorted") [.ref l]) G E s:=by
 refine ady kind_sorted afz afA (afB^.ref l) ?_;unfold Builtin.«sorted»;have b:a.length<=sizeLine:=by rw[adu];lia
 refine a_ (m:=checkCount "sorted" 1 1 _)^mo^a_^afC e (a_^adR ?_ b) b;have c:((s.heap.push^hX "list" #[] 0).update s.heap.objs.size^Obj.mapSeq (·++a.toArray)).objs.size=s.heap.objs.size+1:=by rw[ads,aeN]
 have d:(((s.heap.push^hX "list" #[] 0).update s.heap.objs.size^Obj.mapSeq (·++a.toArray)).push^hX "list" a.toArray 0).get? (s.heap.objs.size+1)\(hX "list" a.toArray 0):=by
  rw[<-c];exact GT _ rfl
 show e_ (ei prog w) _ _ _ E {s with heap:=((s.heap.push^hX "list" #[] 0).update s.heap.objs.size^Obj.mapSeq (·++a.toArray)).push^hX "list" a.toArray 0}
 rw[c];exact a_^KF^acR nt #[_,d,rfl] ls (yw d f #[_,rfl,mo #[_,rfl,h]])^aes _
end
end KS
namespace L2
open PySem PySem.Spec PyProof.Rows
section
variable {X:Cx} {pins:List (Addr×Obj)} {σ:St} {H:Hp} {s:Shared} {h':Heap}
end
def iJ(k:Nat×Nat):List V:= [.int (k.1:Nat), .int (k.2:Nat)]
def rJ(H:Hp)(L:List (Addr×(Nat×Nat))):Prop:=∀p∈L,H p.1\(.tup^iJ p.2)
def kQ(a b:Nat×Nat):Bool:=if a.1=b.1 then decide (a.2<b.2) else decide (a.1<b.1)
def xl(x y:Nat×Nat):kQ x y=true↔x.1<y.1\/(x.1=y.1/\x.2<y.2):=by
 unfold kQ
 by_cases e:x.1=y.1
 .rw[ir e,decide_eq_true_iff]
  lia
 .rw[tz e,decide_eq_true_iff]
  lia
def Ny(x y z:Nat×Nat)(h:kQ x z=true):kQ x y=true\/kQ y z=true:=by
 rw[xl] at*;rw[xl];lia
def QP(x y z:Nat×Nat)(h:kQ x y=true)(a:kQ y z=true):kQ x z=true:=by
 rw[xl] at*;lia
def Ao(h:kQ b a=false):Wb.lexLe a b:=by
 unfold kQ at h;unfold Wb.lexLe
 by_cases e:b.1=a.1
 .rw[ir e] at h
  have:=SB h
  right;lia
 .rw[tz e] at h
  have:=SB h
  left;lia
def Uw 
  (n:IsTup s.heap x [.int a i, .int b j].toArray) (o:IsTup s.heap y [.int c k, .int d l].toArray)
  (h:C (if a=c then decide (b<d) else decide (a<c)) s):e_ (ei prog w) A (keyLt' (tuples' true) (.ref x)^.ref y) C E s:=by
 rfl';let⟨u,f,p,v,q⟩:=n;let⟨z,g,p,B,r⟩:=o;ac_rfl;refine PySem.W.kat_lt f q g r ?_;refine PySem.W.kat_cons^adz a i c k prog w _ _ ?_
 by_cases e:a=c
 .rw[ir e] at h
  rw[show(a==c)=true by simpa using e]
  refine PySem.W.kat_yes^PySem.W.kat_cons^adz b j d l prog w _ _ ?_
  by_cases m:b=d
  .rw[show(b==d)=true by simpa using m]
   refine PySem.W.kat_yes^PySem.W.kat_nil ?_;rw[show decide (b<d)=false by simp;lia] at h
   simpa using h
  .rw[show(b==d)=false by simpa using m]
   refine PySem.W.kat_no^PySem.W.kat_one _ _ ?_;exact lt_int h
 .rw[tz e] at h
  rw[show(a==c)=false by simpa using e]
  exact PySem.W.kat_no^oneLt_int h
section
variable {X:Cx}
theorem tX:∀{as:List Addr}{us:List Value},Vals (as.map V.ref) us->us=as.map Value.ref
 | [],_, .nil=>rfl
 |a::as,_, .cons r t=>by cases r;rw[tX t];rfl
theorem tR:∀b:List Addr,Vals (b.map V.ref)^b.map Value.ref
 | []=> .nil
 |a::b=> .cons rfl^tR b
def NN(I:Inv X b c H s)(h:H a\(.tup^iJ k)):
  ∃t u,IsTup s.heap a [.int (k.1:Nat) t, .int (k.2:Nat) u].toArray:=by
 rfl';let⟨e,r,p,d⟩:=I.tuple^fI.of h;obtain⟨g,i,rfl,⟨t,rfl⟩,⟨u,rfl⟩⟩:=Vals.two r;ac_rfl;exact#[t,u,p]
end
end L2
set_option maxHeartbeats 4000000
namespace L2
open PySem PySem.Spec PySem.Calls PyProof.Rows PySem.W Builtin Builtin.ObjectAttr
def Cj(s:String):Value->Bool
 | .type a=>a==s
 |_=>false
def LG(l:List Value):Bool:=match l with
 |a::b::c::d::r=>Cj "ValueError" a&&Cj "Exception" b&&Cj "BaseException" c&&Cj "object" d&&r.isEmpty
 |_=>false
def isRef:Value->Bool
 | .ref _=>true
 |_=>false
def rg:List Value->Bool
 | []=>false
 |v::r=>if isRef v then rg r else LG (v::r)
def ze(h:Cj s v=true):v= .type s:=by
 unfold Cj at h
 split at h
 .rw[ac0.mp h]
 .cases h
def Aj(h:LG l=true):l= [.type "ValueError", .type "Exception", .type "BaseException", .type "object"]:=by
 cases l with
 |nil=>cases h
 |cons a l=>cases l with
  |nil=>cases h
  |cons b l=>cases l with
   |nil=>cases h
   |cons c l=>cases l with
    |nil=>cases h
    |cons d r=>
     have h:(Cj "ValueError" a&&Cj "Exception" b&&Cj "BaseException" c&&Cj "object" d&&r.isEmpty)=true:=h;simp only[yF] at h;rw[ze h.1.1.1.1,ze h.1.1.1.2,ze h.1.1.2,ze h.1.2,List.isEmpty_iff.mp h.2]
def Fg(K:Frag)(C:Addr):Bool:=(clsIn K C).any λa=>rg a.mro
structure rT (K:Frag) (C:Addr):Prop where
 hd:hasDictIn K C=true
 ga:findIn K (.ref C) "__getattribute__"\(some^.builtin "BaseException.__getattribute__")
 gh:findIn K (.ref C) "__getattr__"\none
 sa:findIn K (.ref C) "__setattr__"\(some^.builtin "object.__setattr__")
 ov:Fg K C=true
 cl:findIn K (.ref C) "__class__"\(some^.builtin "object.__class__")
 be:mroIn K C^.type "BaseException"\true
 ob:mroIn K C^.type "object"\true
section
variable {prog:Program} {w:World} {A:Around} {E:Value->Shared->Prop} {s:Shared} {K:Frag} {x C:Addr} {ox:Obj} {od:Option Obj} {name:Str}
def OD{fill a:Bool}{b:Tok}{Q:b_->c_->Prop}(X:K.In s.heap)(I:InstAt s.heap x ox C od)(c:rT K C)
  (h:e_ (ei prog w) A.in1 (Builtin.«object.__getattribute__» #[[.ref x, .str name b],[]]) (λfin d=>match fin with| .done^.ret v=>e_ (ei prog w) A (handedOut v) Q E d|_=>False) (λ_ _=>False) s):
  e_ (ei prog w) A (getAttrBy (.ref x) (.str name b) fill a) Q E s:=by
 unfold getAttrBy;refine KF^a_^I.type _ _ _ _ (λ_ _ e=>e)^a_^looks_findIn X c.ga _ _ _ _ (λ_ _ e=>e) ?_;dsimp only;rw[show(onTheHeap^.ref C&&Value.builtin "BaseException.__getattribute__"==Value.builtin "object.__getattribute__")=false from by rw[show(Value.builtin "BaseException.__getattribute__"==Value.builtin "object.__getattribute__")=false from by decide+kernel,aeq],tz ∅]
 unfold getAttrByItsOwn;refine a_^looks_hook (mc:= .ref C) (r:=none) X c.gh _ _ _ _ (λ_ _ e=>e)^a_^adS^KF ?_;unfold callGetattribute;rw[show(a&&onTheHeap^Value.builtin "BaseException.__getattribute__")=false from aeq _,tz ∅]
 unfold boundAndCalled;rw[F.excAttr_ValueError.ga.bind];refine a_^mo ?_;show e_ _ _ (call (.builtin "BaseException.__getattribute__") [.ref x, .str name b]) _ _ _;refine adm ?_;refine adt F.excAttr_ValueError.ga.plain F.entry_bexc_ga ?_;refine @check_slot (ei prog w) _ _ s "BaseException.__getattribute__" "BaseException" "__getattribute__" (.ref x) [.str name b] [] _ (by decide+kernel) (by decide+kernel) (I.type.andThen^looks_mroIn X c.be) (F.args_bexc_ga (.ref x)^.str name b) ?_
 refine ip h (λfin d z=>?_) λ_ _ z=>z.elim
 rcases fin with (_|_|_|_) |_<;>first|exact z|exact z.elim
def K4(X:K.In s.heap)(I:InstAt s.heap x ox C od)(b:findObj K C od name\(.value v))(h:Q (.done^.ret v) s):
  e_ (ei prog w) A (Builtin.«object.__getattribute__» #[[.ref x, .str name a],[]]) Q E s:=by
 let⟨c,g,d,t,os⟩:=s;have e:=I.type (M:=ei prog w);have f:=looks_find (M:=ei prog w) X I b;delta Builtin.«object.__getattribute__»;refine a_^mo^a_^mo^a_^e.at^a_^f.at ?_;exact mo h
def Io(X:K.In s.heap)(I:InstAt s.heap x ox C od)(c:rT K C)(b:findObj K C od name\(.value v))(d:handedIn v=true)(h:Q v {s with toks:=s.toks+1}):
  e_ (ei prog w) A (getAttr (.ref x) name a) Q E s:=by
 unfold getAttr;refine a_^wpAny_mkText ?_;refine OD (s:={s with toks:=s.toks+1}) X I c^K4 (s:={s with toks:=s.toks+1}) X I b ?_
 show e_ _ _ (handedOut v) _ _ _;rw[handedOut_of d];exact mo h
end
def Kk(self:b_)(e:rg l=true):refuseLoop self "__setattr__" l=pure ⟨⟩:=by
 induction l with
 |nil=>cases e
 |cons v r b=>
  rw[rg] at e;cases a:isRef v with
  |true=>
   rw[ir a] at e;cases v with
   |ref c=>rw[refuseLoop_ref];exact b e
   |_=>cases a
  |false=>
   rw[tz^by rw[a];exact eD] at e
   rw[Aj e];exact F.store_ValueError.passes self
abbrev cU(C t:Addr)(d:Option Addr):Obj:={cls:= .ref C,dict:=d,data:= .fields [.ref t, .none, .none, .none, .bool false, .none].toArray}
section
variable {prog:Program} {w:World} {A:Around} {E:Value->Shared->Prop} {s:Shared} {K:Frag} {x C:Addr} {ox:Obj} {od:Option Obj} {name:Str} {R:Result->Shared->Prop}
theorem BD(X:K.In s.heap)(I:InstAt s.heap x ox C od)(c:rT K C)(l:takerIn K C name\none)
  (h:∀b,e_ (ei prog w) A.in1 (storeInOwnDict (.ref x) (.ref C) (.str name i) name v b)
   (λfin j=>match fin with| .done f=>R (.ok f) j| .again k=>k.quiet=true/\hB (ei prog w) A k R j) (λe j=>R (.error e) j) s):
  hB (ei prog w) A (.call (.builtin "object.__setattr__") #[[.ref x, .str name i,v],[]]) R s:=by
 rfl';have g:=PySem.F.store_object;let⟨n,o,p⟩:=any_some c.ov;have sub:Looks (ei prog w) s.heap (isInstance (.ref x)^.type "object") true:=I.type.andThen^looks_mroIn X c.ob;let⟨d,r,t⟩:=Option.bind_eq_some_iff.mp l;ac_rfl;refine adt g.slot.plain g.entry^@check_slot (ei prog w) _ _ s "object.__setattr__" "object" "__setattr__" (.ref x) [.str name i,v] [] _ g.kind g.split sub (g.args (.ref x) (.str name i) v) ?_;have u:Looks (ei prog w) s.heap (mroOf^.ref C) n.mro:=(looks_clsIn X o).andThen .now
 have y:Looks (ei prog w) s.heap (storeTaker? d) none:=by
  cases d with
  |none=>exact .now
  |some a=>
   let⟨b,z,q⟩:=adM.mp t;refine(looks_takesIn X z).andThen ?_;cases b with
   |true=>cases q
   |false=>exact .now
 rw[osa_eq,refuse_eq];refine a_^a_^I.type.here^a_^u.here ?_;rw[Kk _ p];refine mo^a_^I.type.here^a_^(looks_findIn X r).here^a_^y.here ?_;exact h _
def Z7(X:K.In s.heap)(c:rT K C)(j:s.heap.get? x\(cU C t^some d))(k:s.heap.Ns1 d f)(ne:d≠x)(m:takerIn K C name\none)
  (hw:cq f i) (I:i.length<=sizeLine)
  (h:∀e,e.Ns1 d (λy=>if y=name then some v else f y)->Heap.SameBut d s.heap e->Q ⟨⟩ {s with heap:=e,toks:=s.toks+2}):
  e_ (ei prog w) A (setAttr (.ref x) name v) Q E s:=by
 rfl';let⟨o,p,g⟩:=tK k;have J:InstAt s.heap x (cU C t^some d) C^some o:=#[j,rfl,rfl,p];let⟨L,q,r⟩:=any_some c.hd;ac_rfl;refine set_plain X J c.sa (BD (s:={s with toks:=s.toks+1}) X J c m λb=>?_)
 refine a_^mo^a_^a_^afq j^a_^Looks.here (s:={s with toks:=s.toks+1}) (looks_clsIn X q) ?_
 rw[r];refine mo (a:=some d)^a_^mo^a_ ?_;refine afv (s:={s with toks:=s.toks+1}) k λe l u=>?_
 rfl';let⟨M,z,B,F,G,H⟩:=l.count^PySem.Within.cons name v hw;ac_rfl;refine a_^aeT F (by rw[G];exact aeU^iT H^by rw[dU];lia) ?_
 exact mo^h _ l u
def Z6(X:K.In s.heap)(c:rT K C)(i:s.heap.get? x\(cU C t none))(u:takerIn K C name\none)
  (h:∀f,f.Ns1 s.heap.objs.size (λy=>if y=name then some v else none)->f.get? x\(cU C t^some s.heap.objs.size)->(∀b o,b≠x->s.heap.get? b\o->f.get? b\o)->Q ⟨⟩ {s with heap:=f,toks:=s.toks+2}):
  e_ (ei prog w) A (setAttr (.ref x) name v) Q E s:=by
 have J:InstAt s.heap x (cU C t none) C none:=#[i,rfl,rfl,trivial];let⟨O,z,B⟩:=any_some c.hd;refine set_plain X J c.sa (BD (s:={s with toks:=s.toks+1}) X J c u λb=>?_)
 let⟨a,g,d,l,os⟩:=s;dsimp only at*;have m:(a.push {cls:= .type "dict",data:= .dict #[]}).get? x\(cU C t none):=AC _ i;have n:x≠a.objs.size:=bS^Da i;refine a_^mo^a_^a_^afq i^a_^Looks.here (s:=#[a,g,d,l+1,os]) (looks_clsIn X z) ?_;rw[B];refine a_^wpAny_alloc' ?_;refine a_^wpAny_update' m ?_;refine mo ?_
 have j:((a.push {cls:= .type "dict",data:= .dict #[]}).update x λo=>{cls:=o.cls,dict:=some a.objs.size,data:=o.data,slots:=o.slots}).get? a.objs.size\{cls:= .type "dict",data:= .dict #[]}:=
  (adj _ _ _ _ n.symm).trans^Heap.get?_push_at rfl rfl
 have pA:((a.push {cls:= .type "dict",data:= .dict #[]}).update x λo=>{cls:=o.cls,dict:=some a.objs.size,data:=o.data,slots:=o.slots}).Ns a.objs.size (λ_=>none):=
  #[_, #[],_,j,rfl,λe F=>absurd F^by simp,λ_=>rfl]
 show e_ _ _ (storeInDict a.objs.size (.str name l) name v) _ _ _;unfold storeInDict newKeyGuard;refine a_^mo^a_ (afv (Heap.Ns1.of_empty pA) λf p q=>?_);rfl';let⟨S,H,I,L,M,N⟩:=p.count^Within.cons name v Within.nil;ac_rfl;refine a_^aeT L (by rw[M];exact aeU^iT N^by rw[dU,qK,adu];lia) ?_
 refine mo (h f p ?_ λb T k r=>?_)
 .exact(q.2 x n).trans^P3 _ m rfl
 .exact(q.2 b^bS^Da r).trans^(adj _ _ _ _ k).trans^AC _ r
end
section
variable {M:Model} {A:Around} {E:Value->Shared->Prop} {h:Heap} {g:Array GenState} {d:Drawn} {t:Nat} {os:OsState}
variable {nm q:Str} {C N:Addr} {bs bm ME:List Value} {ic:Bool} {sn:List Str} {sub:List Value} {ab:Bool} {col:Option Bool} {dd:Option Addr} {k0 k1 k2 k3 k5:Option Value} {B newId lM:String}
def Ed(F:m_ B newId lM ME)(Ys:(Value.ref C::bm).contains^.type B=true){rest:List b_}{Q:Unit->c_->Prop}(hC:h.get? C\(jd nm q C N bs bm ic sn sub ab col dd k0 k1 k2 k3 k5 newId))
  (hq:Q ⟨⟩ #[h,g,d,t,os]):e_ M A (lh newId #[.ref C::rest,[]]) Q E #[h,g,d,t,os]:=by
 have acs:=F.noStar;simp only[lh,F.newKind,F.newSplit,F.newRow]
 repeat (first|refine ii hC ?_| (refine im hC ?_;rw[Ys]) |refine wpAny_staticBase_exc hC ?_|refine wpAny_madeBy_exc hC ?_|simp only[bne_self_eq_false,fo,if_false]|wp_step)
 exact hq
def B4(F:m_ B newId lM ME)(Ca:(Value.ref C::bm).contains^.type B=true){e:Addr}{oe:Obj}{rest:List b_}{Q:Unit->c_->Prop}
  (hC:h.get? C\(jd nm q C N bs bm ic sn sub ab col dd k0 k1 k2 k3 k5 newId)) (he:h.get? e\oe) (GR:oe.cls= .ref C) (hq:Q ⟨⟩ #[h,g,d,t,os]):
  e_ M A (lh lM #[.ref e::rest,[]]) Q E #[h,g,d,t,os]:=by
 have acm:=F.noStar;simp only[lh,F.initKind,F.initSplit,F.initRow]
 repeat (first| (with_reducible refine ii he ?_;rw[GR]) |with_reducible refine ii hC ?_| (with_reducible refine im hC ?_;rw[Ca]) |wp_step)
 refine wpAny_onRaise ?_
 rw[show ∀(a b:String)(n:Nat),Bind.check #[.positional,"*",B, .self,[#["args", .varPos,false]]] a b n^List.map (λx=>x.fst) ({pos:=Value.ref e::rest}:Args).kw=pure ⟨⟩ from
  λa b n=>check_star_args _ _ _ _ _ _]
 exact gl hq
end
section
variable {prog:Program} {w:World} {A:Around} {R:Result->Shared->Prop} {h:Heap} {g:Array GenState} {d:Drawn} {t:Nat} {os:OsState}
variable {nm q:Str} {C N:Addr} {bs bm ME:List Value} {ic:Bool} {sn:List Str} {sub:List Value} {ab:Bool} {col:Option Bool} {dd:Option Addr} {k0 k1 k2 k3 k5:Option Value} {B newId lM:String}
def Jb(F:m_ B newId lM ME)(Ca:(Value.ref C::bm).contains^.type B=true)(Yp:(Value.ref C::bm).contains^.type "AttributeError"=false)(Yq:(Value.ref C::bm).contains^.type "NameError"=false)
  {rest:List b_} (hC:h.get? C\(jd nm q C N bs bm ic sn sub ab col dd k0 k1 k2 k3 k5 newId))
  (hq:R (.ok^.ret^.ref (h.objs.size+1)) #[(h.push {cls:= .type "tuple",data:= .seq rest.toArray}).push^cU C h.objs.size none,g,d,t,os]) (Jy:rest.length<=sizeLine):
  hB (ei prog w) A (.builtin newId #[.ref C::rest,[]]) R #[h,g,d,t,os]:=by
 have acp:=F.ends;refine codeAny_builtinAt F.entry ?_;unfold Builtin.«BaseException.__new__»;refine PySem.wpAt_bind ?_;show PySem.wpAt _ _ _ (stack>>=_) _ _ _;refine PySem.wpAt_bind (PySem.wpAt_stack λp below=>PySem.wpAt_of_wpAny ?_)
 wp_walk
 refine PySem.wpAt_of_wpAny ?_;rw[F.owner]
 repeat (first|with_reducible refine wpAny_madeHere_exc F.canon hC ?_|with_reducible refine ii hC ?_| (with_reducible refine im hC ?_;first|rw[Ca]|rw[Yp]|rw[Yq]) |wp_step)
 show R _ _;rw[Heap.size_push];exact hq
def GJ(F:m_ B newId lM ME)(Ca:(Value.ref C::bm).contains^.type B=true){e t0:Addr}{od:Option Addr}{rest:List b_}(hC:h.get? C\(jd nm q C N bs bm ic sn sub ab col dd k0 k1 k2 k3 k5 newId))(he:h.get? e\(cU C t0 od))
  (hq:∀h' t',h'.get? e\(cU C t' od)->(∀b o,b≠e->h.get? b\o->h'.get? b\o)->R (.ok^.ret .none) #[h',g,d,t,os]) (Jy:rest.length<=sizeLine):
  hB (ei prog w) A (.call (.builtin lM) #[.ref e::rest,[]]) R #[h,g,d,t,os]:=by
 refine codeAny_call_builtin F.init.plain F.initEntry^B4 F Ca hC he rfl ?_
 wp_walk
 have f9:e≠h.objs.size:=bS^Heap.lt_size he;refine hq _ h.objs.size ?_ λb o hb ho=>?_
 .rw[Heap.get?_update_self _ (Heap.get?_push_of_some _ he) rfl]
  rfl
 .rw[Heap.get?_update_other _ _^Ne.symm hb]
  exact Heap.get?_push_of_some _ ho
def Ip(F:m_ B newId lM ME)(Ca:(Value.ref C::bm).contains^.type B=true)(Yp:(Value.ref C::bm).contains^.type "AttributeError"=false)(Yq:(Value.ref C::bm).contains^.type "NameError"=false)
  {rest:List b_} {init:b_} (hC:h.get? C\(jd nm q C N bs bm ic sn sub ab col dd k0 k1 k2 k3 k5 newId)) (call:Looks (ei prog w) h (specialOf (.ref C) "__call__")^some^.builtin "type.__call__") (typ:Looks (ei prog w) h (isInstance (.ref C)^.type "type") true)
  (hi:Looks (ei prog w) h (lf (.ref C) "__init__")^some init) (hb:∀self,Looks (ei prog w) h (bindSpecial init self) (init,[self])) (Jy:rest.length<=sizeLine)
  (hq:hB (ei prog w) (A.under^.builtin "type.__call__" #[.ref C::rest,[]]) (.call init #[.ref (h.objs.size+1)::rest,[]]) (InitBack (h.objs.size+1) R) #[(h.push {cls:= .type "tuple",data:= .seq rest.toArray}).push^cU C h.objs.size none,g,d,t,os]):
  hB (ei prog w) A (.call (.ref C) #[rest,[]]) R #[h,g,d,t,os]:=by
 refine codeAny_of_tree ?_;show e_ _ _ (callAny (.ref C) _) _ _ _;refine nd_load hC ?_;show e_ _ _ (callAny.viaDunder (.ref C) _) _ _ _;unfold callAny.viaDunder;refine a_^call.at ?_;dsimp only;rw[tc_bind];refine a_^gl^a_^gl ?_;refine gl (a:=Fin.again^.call (.builtin "type.__call__") #[.ref C::rest,[]])^And.intro rfl ?_;refine codeAny_call_builtin_at (Code.quiet_builtin _^by decide+kernel) entry_typeCall^check_slot tc_kind tc_split typ (tc_args _ _ _) ?_
 have hm:Looks (ei prog w) h (mroOf^.ref C) (.ref C::bm):=((Looks.ld (part:=none) hC).andThen .now).andThen .now
 have made:Looks (ei prog w) h (Bind.madeBy^.ref C)^some newId:=by
  intro A Q E s k q;let⟨h2,g2,d2,t2,os2⟩:=s;exact wpAny_madeBy_exc (k _ _ hC) q
 unfold Builtin.«type.__call__»
 repeat (first|simp only[List.isEmpty_cons,fo,if_false]|with_reducible refine la ?_|lk)
 refine codeAny_call_builtin_code (Code.quiet_builtin _ F.quiet)^Ed F Ca hC ?_;refine Jb F Ca Yp Yq hC ?_ Jy;have k:∀b o,h.get? b\o->((h.push {cls:= .type "tuple",data:= .seq rest.toArray}).push^cU C h.objs.size none).get? b\o:=λb o e=>Heap.get?_push_of_some _^Heap.get?_push_of_some _ e;have hx:((h.push {cls:= .type "tuple",data:= .seq rest.toArray}).push^cU C h.objs.size none).get? (h.objs.size+1)\(cU C h.objs.size none):=by heap_get
 have t1:Looks (ei prog w) ((h.push {cls:= .type "tuple",data:= .seq rest.toArray}).push^cU C h.objs.size none) (typeOf^.ref (h.objs.size+1))^.ref C:=(Looks.ld hx).andThen .now
 have s0:Looks (ei prog w) h (isSubtype (.ref C)^.ref C) true:=by
  intro A Q E s k q;let⟨h2,g2,d2,t2,os2⟩:=s;refine im (k _ _ hC) ?_;rw[show(Value.ref C::bm).contains^.ref C=true by simp]
  exact q
 have s1:=s0.keeps k;have i1:=hi.keeps k;have b1:=(hb^.ref (h.objs.size+1)).keeps k;unfold isInstance callSpecial? specialOf
 repeat (first|with_reducible refine la ?_|lk)
 refine mv hq λr s' z=>?_
 rcases r with e| (v|_|_|_)<;>first|exact z|exact z.elim|skip
 let⟨rfl,z⟩:=z;exact gl^gl z
end
def wA(C a:Addr)(d:Option Addr):HO:= .ext λh=>∃t,h.get? a\(cU C t d)
def BZ(a:Addr)(fs:List (fA×V)):HO:= .ext λh=>fs.length<=1000/\∃mA,h.Ns1 a mA/\(∀f,lC (fs.lookup f)^mA f)/\cq mA^fs.map (·.1)
section
variable {P:Program} {w:World} {H:Hp} {h:Heap} {a C:Addr} {d:Option Addr} {fs:List (Str×V)}
def K3{t:Addr}(e:h.get? a\(cU C t d)):cK P w H h a^wA C a d:=#[#[t,e],#[_,e],λh1 h2 #[t,p] k=>#[t,k _ p]]
def SS{mA:fA->Option b_}(hl:fs.length<=1000)(n:h.Ns1 a mA)(r:∀f,lC (fs.lookup f)^mA f)(q:cq mA^fs.map (·.1)):cK P w H h a^BZ a fs:=
 #[#[hl,mA,n,r,q],let #[o,_,_,e,_]:=n;#[o,e],λh1 h2 #[hl,mA,#[o,es,ep,e,c],r,q] k=>#[hl,mA,#[o,es,ep,k _ e,c],r,q]]
def zp(hok:iz P w H h)(e:H a\(wA C a d)):∃t,h.get? a\(cU C t d):=(hok a _ e).1
def Mn(hok:iz P w H h)(e:H a\(BZ a fs)):fs.length<=1000/\∃mA,h.Ns1 a mA/\(∀f,lC (fs.lookup f)^mA f)/\cq mA^fs.map (·.1):=(hok a _ e).1
end
section
variable {X:Cx} {pins:List (Addr×Obj)} {σ:St} {H:Hp} {s:Shared}
theorem Inv.VT{a dx:Addr}{o1 o2:HO}{h':Heap}{t':Nat}(I:Inv X pins σ H s)(mu:OO^H a)(tq:s.heap.objs.size<=dx)(k:∀b u,b≠a->s.heap.get? b\u->h'.get? b\u)(GV:∃u,h'.get? a\u)
  (abz:cK X.prog X.w (upd (upd H a o1) dx o2) h' a o1) (abA:cK X.prog X.w (upd (upd H a o1) dx o2) h' dx o2):Inv X pins σ (upd (upd H a o1) dx o2) {s with heap:=h',toks:=t'}:=by
 have nd:H dx=none:=I.hok.fresh tq
 obtain⟨oa,ha⟩:∃o,H a\o:=by
  cases q:H a with
  |none=>rw[q] at mu;exact mu.elim
  |some o=>exact#[o,rfl]
 have ND:a≠dx:=au ha nd;have Hw:∀c y,H c\(.own y)->c≠a:=λc y r z=>by subst z;rw[r] at mu;exact mu
 have LO:∀c xs,H c\(.tup xs)->c≠a:=λc xs r z=>by subst z;rw[r] at mu;exact mu
 have abB:∀c o u,H c\(.sY o u)->c≠a:=λc o u r z=>by subst z;rw[r] at mu;exact mu
 have abF:∀c ps,H c\(.Ib ps)->c≠a:=λc ps r z=>by subst z;rw[r] at mu;exact mu
 have up:∀b u,b≠a->H b\u->upd (upd H a o1) dx o2 b\u:=λb u hb e=>by rw[ag^au e nd,ag hb];exact e
 refine I.un (h':=h') (t':=t') #[λb o e n _ _=>?_,λb o e n _ _=>#[o.slots,?_],λb o e n _=>?_,λb o e _=>?_,λb xs e=>up b _ (LO b xs e) e,λb o u e=>up b _ (abB b o u e) e,λb ps e=>#[#[],by rw[up b _ (abF b ps e) e];simp]] λb u e=>?_
 .exact k b o (λz=>by rw[z,ha] at n;cases n) e
 .exact k b o (λz=>by rw[z,ha] at n;cases n) e
 .rw[ag^λz=>by rw[z] at e;exact absurd (Heap.lt_size e)^Nat.not_lt.mpr tq,ag^λz=>by rw[z,ha] at n;cases n];exact n
 .by_cases z:b=a
  .rw[z];exact GV
  .exact#[o,k b o z e]
 .by_cases z:b=dx
  .subst z;rw[af] at e;cases e;exact abA
  .rw[ag z] at e
   by_cases z2:b=a
   .subst z2;rw[af] at e;cases e;exact abz
   .rw[ag z2] at e
    refine(I.hok b u e).oQ (λc v hc q=>k c v ?_ q) (λc q=>up c _ (Hw c b q) q) λc xs q=>up c _ (LO c xs q) q
    rcases hc with y|y
    .rw[y];exact z2
    .exact Hw c b y
variable {a C:Addr} {fs:List (Str×V)} {f:Str} {v:V} {A:Around} {E:Value->Shared->Prop}
def V3(H:Hp)(C a:Addr)(f:fA)(y:V)(fs:List (fA×V))(Q:Hp->Prop):Prop:=
 (fs= []/\H a\(wA C a none)/\∀dx,H dx=none->Q^upd (upd H a^wA C a^some dx) dx^BZ dx [(f,y)])\/
 (∃dx,H a\(wA C a^some dx)/\H dx\(BZ dx fs)/\fs.length<1000/\Q^upd H dx^BZ dx^jN f y fs)
def FP{y:V}{u:b_}{Q:Unit->c_->Prop}{R:Hp->Prop}(I:Inv X pins σ H s)(c:rT X.K C)(n:fS X.K C f)(ry:RelV y u)(p:V3 H C a f y fs R)
  (h:∀H' s',Inv X pins σ H' s'->R H'->Q ⟨⟩ s'):e_ (ei X.prog X.w) A (setAttr (.ref a) f u) Q E s:=by
 rcases p with ⟨rfl,e,q⟩ | ⟨dx,e,ed,hl,q⟩
 .obtain⟨t,et⟩:=zp I.hok e
  refine Z6 I.fi c et n.KI λh' hn hx k=>?_;refine h _ _ (I.VT (by rw[e];exact True.intro) (bg _) k #[_,hx] (K3 hx) ?_)^q s.heap.objs.size I.fresh
  refine SS (by simp) hn (λg=>?_)^λg hg=>?_
  .by_cases z:g=f
   .rw[if_pos z,z];simp only[bi,beq_self_eq_true];exact ry
   .rw[if_neg z]
    have hb:(g==f)=false:=beq_eq_false_iff_ne.mpr z;simp only[bi,hb];exact True.intro
  .by_cases z:g=f
   .rw[z];simp
   .rw[if_neg z] at hg;exact absurd rfl hg
 .obtain⟨t,et⟩:=zp I.hok e
  obtain⟨_,mA,hn,r,wi⟩:=Mn I.hok ed
  have ne:dx≠a:=by
   rintro rfl;obtain⟨o,es,ep,eo,hd,_⟩:=hn;rw[et] at eo;cases eo;cases hd
  have hz:(fs.map (·.1)).length<=sizeLine:=by rw[aG,sizeLine_eq];lia
  refine Z7 I.fi c et hn ne n.KI wi hz λh' ED sb=>h _ _ (I.write (x:=dx) (e:=dx) (by rw[ed];exact True.intro) (.inl rfl) (λb q hb z=>(sb.2 b hb).trans z) (let #[o,_,_,e',_]:=ED;#[o,e']) ?_) q
  refine SS (by have:=nO f y fs;lia) ED (λg=>?_)^λg hg=>?_
  .rw[nQ]
   by_cases q:g=f
   .rw[if_pos q,if_pos q];exact ry
   .rw[if_neg q,if_neg q];exact r g
  .by_cases q:g=f
   .rw[q];exact(kP f y fs).1
   .refine(kP f y fs).2 g (wi g λz=>hg ?_)
    show(if g=f then some u else mA g)=none;rw[if_neg q];exact z
end
def ZF(K:ad)(ta tv:TE)(f:Str):TS:=λD σ H=>tv σ H λy H1=>ta σ H1 λx H2=>∃a C fs,x= .ref a/\rT K C/\fS K C f/\V3 H2 C a f y fs λH3=>D.nx σ H3
section
variable {X:Cx} {o e value:Expr} {f:Str} {pos pos' DU:Pos} {ta tv:TE}
def AY(ha:PE X o ta)(hv:PE X value tv)(hs:g_ value (some^.Attribute o f pos') pos.line X.env=pure false):PS X (.Assign [.Attribute o f pos'] value pos)^ZF X.K ta tv f:=by
 intro pins s σ H D I h;refine plainObj_wpAny_Assign_Attribute (thn (hv pins s σ H _ I h) λu s1 hH=>?_) hs;obtain⟨y,H1,I1,ry,q⟩:=hH;refine thn (ha pins s1 σ H1 _ I1 q) λov s2 hH=>?_;obtain⟨x,H2,I2,rx,a,C,fs,ex,c,n,p⟩:=hH;subst ex;obtain rfl:ov=Value.ref a:=rx;exact FP I2 c n ry p λH3 s3 I3 q=>#[σ,_,I3,q]
end
structure mw (K:ad) (C:Addr):Prop where
 obj:∃nm q N bs bm ic sn sub ab col dd k0 k1 k2 k3 k5,K.lookup C\(jd nm q C N bs bm ic sn sub ab col dd k0 k1 k2 k3 k5 "ValueError.__new__")/\(Value.ref C::bm).contains^.type "ValueError"=true/\
  (Value.ref C::bm).contains^.type "AttributeError"=false/\(Value.ref C::bm).contains^.type "NameError"=false
structure Th (K:ad) (C:Addr) (init:b_):Prop extends mw K C where
 call:bj K (.ref C) "__call__"\(some^.builtin "type.__call__")
 typ:d7 K (.ref C)^.type "type"\true
 ini:aj K (.ref C) "__init__"\(some init)
 kp:am K^.ref C=true
def VS{H:Hp}{a:Addr}{o:HO}(e:H a\o):upd H a o=H:=by
 funext b
 by_cases h:b=a
 .rw[h,af,e]
 .rw[ag h]
def VL(C:Addr)(sp:Sp)(E:XK)(t:TA):TE:=λσ H Q=>t σ H λvs H1=>∀e,H1 e=none->sp (.ref e::vs) (upd H1 e^wA C e none) (λv H2=>v= .aQ/\Q (.ref e) H2) E
def VJ(K:ad)(t:TA):TE:=λσ H Q=>t σ H λvs H1=>∃a C d y,vs= [.ref a,y]/\H1 a\(wA C a d)/\mw K C/\Q .aQ H1
section
variable {X:Cx} {CX:rF} {k:Nat} {f C:Addr} {fd:FuncData} {ps:List Str} {sp:Sp} {E:XK} {x m:Str} {p pos apos:Pos} {e o:Expr} {es:List Expr} {ta:TE} {t:TA}
theorem Kr{pins:List (Addr×Obj)}{σ:St}{H:Hp}{s:c_}{Q:VK}{us:List b_}{vs:List V}(M:Th X.K C^.ref f)(hf:bu X.K^.ref f=true)(F:FnOk X.prog X.w X.K X.mg X.base CX k f fd ps sp)(hr:bP (k+1) X.A)(hb:Binds X.K fd ps [])
  (Qz:ps.length<=1000) (hx:Passes CX X E) (I:Inv X pins σ H s) (r:Vals vs us)
  (h:∀e,H e=none->sp (.ref e::vs) (upd H e^wA C e none) (λv H2=>v= .aQ/\Q (.ref e) H2) E):
  e_ (ei X.prog X.w) X.A (call (.ref C) us) (EP X pins σ Q) X.xe s:=by
 let⟨nm,q,N,bs,bm,ic,sn,sub,ab,col,dd,k0,k1,k2,k3,k5,hC,cB,cA,cN⟩:=M.obj;have hq:=h (s.heap.objs.size+1)^I.hok.fresh^oW _
 have hx1:((s.heap.push {cls:= .type "tuple",data:= .seq us.toArray}).push^cU C s.heap.objs.size none).get? (s.heap.objs.size+1)\(cU C s.heap.objs.size none):=by
  have:=Heap.get?_push_size (s.heap.push {cls:= .type "tuple",data:= .seq us.toArray}) (o:=cU C s.heap.objs.size none) rfl
  rwa [Heap.size_push] at this
 have I2:Inv X pins σ (upd H (s.heap.objs.size+1)^wA C (s.heap.objs.size+1) none) {s with heap:=(s.heap.push {cls:= .type "tuple",data:= .seq us.toArray}).push^cU C s.heap.objs.size none}:=
  I.laid (t':=s.toks) (λb u q=>Heap.get?_push_of_some _^Heap.get?_push_of_some _ q) (oW _)^K3 hx1
 have r2:Vals (V.ref (s.heap.objs.size+1)::vs) (Value.ref (s.heap.objs.size+1)::us):= .cons rfl r
 have hl:((Value.ref (s.heap.objs.size+1)::us)++ []).length=ps.length:=by
  have e:=r2.length;rw[F.len _ _ _ _ hq] at e;rw[e8];exact e.symm
 have hlen:us.length<=sizeLine:=by
  rw[e8,dU] at hl;exact qL^bA ()
 have Jk:=hb _ (Value.ref (s.heap.objs.size+1)::us) I2.fi hl;rw[e8] at Jk;let⟨hh,g,d,tk,os⟩:=s
 refine la^Ip (init:= .ref f) PySem.F.excBase_ValueError cB cA cN (I.fi _ _ hC) (PySem.W.looks_specialIn I.fi M.call) (PySem.W.looks_instIn I.fi M.typ) (PySem.W.looks_findIn I.fi M.ini) (λself=>PySem.W.bind_fn I.fi self^beq_iff_eq.mp hf) hlen
  (mv (F.run _ X.stack _ _ #[Value.ref (hh.objs.size+1)::us,[]] (Value.ref (hh.objs.size+1)::us) _ _ E (hr.make C us []) (I2.Lw.make C us []) Jk r2 hq) λr s' Af=>?_)
 cases r with
 |error e=>exact hx pins σ _ _ e s' I2 Af
 |ok fl=>
  cases fl with
  |ret u=>
   refine ae λG0 k0=>?_;let⟨v,H',I3,rv,ev,q3⟩:=I2.after Af;subst ev;refine k0 ?_;exact#[rv,#[V.ref (hh.objs.size+1),H',I3,rfl,q3]]
  |next=>exact False.elim Af
  |brk=>exact False.elim Af
  |cont=>exact False.elim Af
def NS(M:Th X.K C^.ref f)(hf:bu X.K^.ref f=true)(F:FnOk X.prog X.w X.K X.mg X.base CX k f fd ps sp)(hr:bP (k+1) X.A)(hg:Gl X x)(hm:X.mg x\(.ref C))(hb:Binds X.K fd ps [])(Qz:ps.length<=1000)(hx:Passes CX X E)
  (ha:PA X (e::es) t) (dP:(x==("__debug__":fA))=false<|>zm) (he:d_ (e::es) X.env=(false,gi e X.env)::d_ es X.env<|>zn) (bX:(gM pos^d_ es X.env).any (·.1)=false<|>zn):
  PE X (.Call (.Name x p) (e::es) [] pos)^VL C sp E t:=by
 intro pins s σ H Q I h;refine wpAny_Call_Name_kw^jK I hg hm ?_ dP;refine PySem.W.callWith_K (h₀:=X.base) I.ok.mod.kin M.kp (thn (ha pos pins s σ H _ I h) λus s1 hH=>?_) he bX;obtain⟨vs,H1,I1,r,q⟩:=hH;refine #[I1.fi,?_];exact Kr M hf F hr hb Qz hx I1 r q
def Dw{C0:Addr}{pl:l_ Bool}(hg:Gl X x)(hm:X.mg x\(.ref C0))(sg:bj X.K (.ref C0) "__getattribute__"\(some^.builtin "type.__getattribute__"))(rd:dV X.K C0^.type "type"=true)
  (fc:d5 X.K (.ref C0) (.type "type") "__init__"\(.val^.builtin "ValueError.__init__")) (ha:PA X (e::es) t) (dP:(x==("__debug__":fA))=false<|>zm)
  (he:d_ (e::es) X.env=(false,gi e X.env)::d_ es X.env<|>zn) (bX:(gM pos^d_ es X.env).any (·.1)=false<|>zn)
  (ht:gi (.Call (.Attribute (.Name x p) "__init__" apos) (e::es) [] pos) X.env=(do
   let ov <-gi (.Name x p) X.env
   jo apos.atName
   let (f,first) <-io [ov] (ni ov "__init__" pl)
   callWith pos f first (gM pos^d_ (e::es) X.env)^js pos^iq [] X.env)<|>zn):
  PE X (.Call (.Attribute (.Name x p) "__init__" apos) (e::es) [] pos)^VJ X.K t:=by
 intro pins s σ H Q I h;refine PySem.W.methodCall_KW (pl:=pl) (jK I hg hm ?_ dP) ht;refine PySem.W.method_cls I.fi sg^PySem.W.cls_value I.fi rd fc (by decide+kernel) ?_
 refine PyProof.Rows.callWith_builtin1 (thn (ha pos pins _ σ H _ (I.tok _) h) λus s1 hH=>?_) he bX;obtain⟨vs,H1,I1,r1,a,C,d,y,ev,ea,xo,q1⟩:=hH;refine ae λG0 k0=>?_;subst ev;obtain⟨u1,u2,rfl,ra,ry⟩:=r1.two;subst ra;obtain⟨nm,q,N,bs,bm,ic,sn,sub,ab,col,dd,k0,k1,k2,k3,k5,hC,cB,cA,cN⟩:=xo.obj;obtain⟨t0,et⟩:=zp I1.hok ea;obtain⟨hh,g,dr,tk,os⟩:=s1;refine k0 ?_;refine la^GJ PySem.F.excBase_ValueError cB (I1.fi _ _ hC) et (λh' t' hx2 kk=>?_)^by show 1<=sizeLine;decide
 have I2:=I1.write (x:=a) (e:=a) (o:=wA C a d) (t':=tk) (by rw[ea];exact True.intro) (.inl rfl) (λb u hb q=>kk b u hb q) #[_,hx2]^K3 hx2
 rw[VS ea] at I2;exact#[.aQ,H1,I2,rfl,q1]
end
section
variable {X:Cx} {pins:List (Addr×Obj)} {σ:St} {H:Hp} {s:Shared} {A:Around} {E:Value->Shared->Prop} {Q:Value->Shared->Prop} {b:Bool}
end
def bC.of(f:Scope)(e:X.env.scope=f)(k:d.kind= .function)(a:∀x∈d.names,x.2= .local->d.names.lookup x.1\.local)(b:∀x∈d.names,x.2≠ .cell)
  (c:∀x∈d.names,x.2= .free->f.names.lookup x.1\.cell\/f.names.lookup x.1\.free):bC X d:=#[k,a,b,λx g h=>by rw[<-e] at c;exact c x g h]
def CW{K:ad}{a:Addr}{xs:List V}{g:TG}{k:TS}{D:Ends}{b:St}{H:Hp}(c:Nat->St->Hp->Prop)(o:c 0 b H)(r:∀i b H,i<=xs.length->c i b H->aL K H a xs)
  (s:∀(i:Nat) x t b H,xs[i]?\x->H t=none->c i b H->g (.ref t) b (upd H t^.tup [.int (i:Int),x]) λf h=>k {D with nx:=c (i+1),ct:=c (i+1),bk:=D.nx} f h) (u:∀b H,c xs.length b H->D.nx b H):
  ∃W:Nat->Nat->St->Hp->Prop,(∃m,W 0 m b H)/\∀i m b H,W i m b H->
   ((My K a).stop i H/\D.nx b H)\/((My K a).go i H/\∃N:St->Hp->Prop,(∀j d,N j d->∃l,l<m/\W (i+1) l j d)/\∀x d,(My K a).yld i H x d->g x b d λf h=>k {D with nx:=N,ct:=N,bk:=D.nx} f h):=by
 refine#[λi m b H=>m=xs.length-i/\i<=xs.length/\c i b H,#[xs.length,by simp,eE _,o],?_]
 rintro i m b H ⟨rfl,w,p⟩;have q:=r i b H w p
 by_cases n:i<xs.length
 .refine .inr #[#[xs,xs[i],q,by simp[n]],c (i+1),λj d z=>#[xs.length-(i+1),(),rfl,n,z],λx d y=>?_]
  let⟨t,v,rfl,A,rfl,B⟩:=y;exact s i v t b H (B xs q) A p
 .have e:i=xs.length:=()
  subst e;exact .inl #[#[xs,q,bg _],u b H p]
def C7{K:ad}(e:X.K=K<|>zn):zv X^HH K:=by rw[<-e];exact bQ
def Hl{K:ad}(e:X.K=K<|>zn):zv X^WR K:=by rw[<-e];exact LI
def Ka{K:ad}(e:X.K=K<|>zn):OpR X (gj .NotIn)^Vj K true:=by rw[<-e];exact r9
structure bK (K:ad) (mg:Str->Option Value) (x:Str) (st:Stmt) (ps:List Str) where
 f:Addr
 fd:FuncData
 F:sN K x x st f fd
 b:Binds K fd ps []
 m:mg x\(.ref f)
def az(h:H p=none)(o:HO):aC H^upd H p o:=λb u q=>by rw[ag^au q h];exact q
def small(h:n<=1000):n<=sizeLine:=qL^bA h
abbrev jH(C t:Addr)(a:Value)(d:Option Addr):Obj:={cls:= .ref C,dict:=d,data:= .fields [.ref t,a, .none, .none, .bool false, .none].toArray}
def rG(C a:Addr)(d:Option Addr):HO:= .ext λh=>∃t b,h.get? a\(jH C t b d)
section
variable {P:Program} {w:World} {H:Hp} {h:Heap} {a C:Addr} {d:Option Addr}
def PL{tb:b_}(e:h.get? a\(jH C t tb d)):cK P w H h a^rG C a d:=#[#[t,tb,e],#[_,e],λb c #[t,tb,p] k=>#[t,tb,k _ p]]
def T3(hok:iz P w H h)(e:H a\(rG C a d)):∃t b,h.get? a\(jH C t b d):=(hok a _ e).1
end
def F9(h:Heap)(T:Addr):Prop:=∃o a,h.get? T\o/\o.data= .fields a/\a[3]?\.none
section
variable {M:Model} {A:Around} {E:Value->Shared->Prop} {s:Shared}
def AA 
  (O:A.frames\(env::outer)) (w:s.heap.FunFrames base (env::outer)) (P:env.frame\L)
  (y:s.heap.get? e\(jH C t j d))
  (h:∀k T,s.heap.objs.size<=T->k.get? e\(jH C t (.ref T) d)->F9 k T->(∀b o,s.heap.get? b\o->b≠e->∃p,k.get? b\{o with slots:=p})->
   (∀b o,s.heap.get? b\o->b≠e->b∉uI (env::outer)->k.get? b\o)->Q ⟨⟩ {s with heap:=k}):
  e_ M A (do let a <-frameOf env;let pl <-entryPlaceOf L N;let b <-EntryCells.newEntry g a .none (lr L) .none pl;setField (.ref e) 1 b) (λ_ R=>e_ M A (no (.ref e) none) Q E R) E s:=by
 have q:(jH C t j d).data= .fields [.ref t,j, .none, .none, .bool false, .none].toArray:=rfl;have S:1<([.ref t,j, .none, .none, .bool false, .none].toArray:Array b_).size:=by simp
 have r:e∉(env::outer).filterMap (·.frame):=λX=>by
  obtain⟨_,o,m,Y⟩:=w.mem X;rw[y] at m;injection m with m;subst m;exact Y _ q
 refine a_ (wpAny_frameOf_fun O w P λc n=>?_);refine a_ (wpAny_entryPlaceOf λpl z=>?_);unfold EntryCells.newEntry newFields;refine a_^acV ?_^z.sizeOk5 _ _ _ _ _;have B:c.get? e\(jH C t j d):=(n.2.1 e r).trans y;have F:=AC (h:=c) {cls:= .type "traceback",dict:=none,data:= .fields ([g, .ref L, .none,lr L, .none]++(if pl.isEmpty then b5 6 Value.none else pl)).toArray} B;refine afs F q S ?_;have G:c.objs.size≠e:=jR^Da B;have H:=adA q (·.setIfInBounds 1^Value.ref c.objs.size);have I:=P3 (Obj.mapFields (·.setIfInBounds 1^Value.ref c.objs.size)) F^ad3 H
 have J:=(Os (c.push {cls:= .type "traceback",dict:=none,data:= .fields ([g, .ref L, .none,lr L, .none]++(if pl.isEmpty then b5 6 Value.none else pl)).toArray})
  (Obj.mapFields (·.setIfInBounds 1^Value.ref c.objs.size))^Ne.symm G).trans^GT c rfl
 unfold no;refine a_^acT I H (x:= .ref c.objs.size) (by simp) ?_
 rw[ir (show(Value.ref c.objs.size !=Value.none)=true from by simp)]
 refine afs J rfl (by simp only[cn,dg,dU,qK]<;>lia) ?_
 have keep:∀b o,b≠e->c.get? b\o->
   (((c.push {cls:= .type "traceback",dict:=none,data:= .fields ([g, .ref L, .none,lr L, .none]++(if pl.isEmpty then b5 6 Value.none else pl)).toArray}).update e^Obj.mapFields (·.setIfInBounds 1^Value.ref c.objs.size)).update c.objs.size
     (Obj.mapFields (·.setIfInBounds 3 ((none:Option Addr).elim Value.none λf=>lr f)))).get? b\o:=λb o l i=>by
  have u:c.objs.size≠b:=jR^Da i;rw[Os _ _ u,Os _ _^Ne.symm l];exact AC _ i
 refine h _ c.objs.size (by rw[n.1];exact bg _) ?_ #[_,_,P3 _ J^ad3^adA rfl _,adA rfl _,by first| (simp;done) | (rcases z with rfl| ⟨_,_,_,_,_,_,_,rfl⟩<;>simp)] (λb o i l=>?_)^λb o i l v=>?_
 .rw[Os _ _ G];exact I
 .obtain⟨p,Z⟩:=n.2.2 b o i
  exact#[p,keep b _ l Z]
 .exact keep b o l^(n.2.1 b v).trans i
def JP{base:Heap} 
  (G:A.frames\(env::outer)) (H:s.heap.FunFrames base (env::outer)) (r:env.frame\L)
  (u:s.heap.get? e\(jH C t g d)) (I:g= .none\/∃T,g= .ref T/\T≠e/\F9 s.heap T)
  (h:∀c T,s.heap.objs.size<=T->c.get? e\(jH C t (.ref T) d)->F9 c T->(∀b o,s.heap.get? b\o->b≠e->∃J,c.get? b\J)->(∀b o,s.heap.get? b\o->b≠e->g≠ .ref b->∃k,c.get? b\{o with slots:=k})->
   (∀b o,s.heap.get? b\o->b≠e->g≠ .ref b->b∉uI (env::outer)->c.get? b\o)->Q ⟨⟩ {s with heap:=c}):
  e_ M A (nn (.ref e) env) (λ_ N=>e_ M A (no (.ref e) none) Q E N) E s:=by
 have O:(jH C t g d).data= .fields [.ref t,g, .none, .none, .bool false, .none].toArray:=rfl;unfold nn;simp only[r];refine a_^acT (x:=g) u O rfl ?_
 rcases I with rfl| ⟨T,rfl,P,Z,R,l,m,i⟩
 .rw[tz ∅]
  exact AA G H r u λc T p v i j y=>h c T p v i (λb o q n=>let #[k,z]:=j b o q n;#[_,z]) (λb o q n _=>j b o q n) λb o q n _=>y b o q n
 .rw[ir (show(Value.ref T !=Value.none)=true from by simp)]
  refine a_^acT l m i ?_;rw[tz (show ¬((Value.none==lr L)=true) from by simp[lr])]
  refine a_^afs l m (BI.mp i).1 ?_;have a:∀b,b≠T->(s.heap.update T^Obj.mapFields (·.setIfInBounds 3 Value.none)).get? b=s.heap.get? b:=λb f=>Os _ _^Ne.symm f
  have S:∀b o,s.heap.get? b\o->(∀X,o.data≠ .fields X)->b≠T:=λb o f B q=>by
   rw[q,l] at f;injection f with f;subst f;exact B R m
  have F:=P3 (Obj.mapFields (·.setIfInBounds 3 Value.none)) l^ad3^adA m _;refine AA (s:={s with heap:=s.heap.update T^Obj.mapFields (·.setIfInBounds 3 Value.none)}) G (H.of_keeps λb o f B=>#[o,(a b^S b o f B).trans f,rfl]) r ((a e^Ne.symm P).trans u) λc Y p v i j y=>?_
  refine h c Y (by rw[Heap.size_after_update] at p;exact p) v i (λb o q n=>?_) (λb o q n z=>j b o ((a b λw=>z^by rw[w]).trans q) n) λb o q n z=>y b o ((a b λw=>z^by rw[w]).trans q) n
  by_cases z:b=T
  .subst z
   obtain⟨k,z⟩:=j b _ F n;exact#[_,z]
  .obtain⟨k,z⟩:=j b o ((a b z).trans q) n
   exact#[_,z]
end
def aaj(X:Cx)(H:Hp)(h:Heap)(a:Value):Prop:=a= .none\/∃T,a= .ref T/\X.s₀.heap.objs.size<=T/\T≠X.env.locals/\(∀x c,X.env.cells.lookup x\c->c≠T)/\(∀p∈X.pn,p.1≠T)/\H T=none/\F9 h T
def zt(X:Cx)(H:Hp)(s:Shared)(a:Addr):Prop:=∃C t b d,H a\(rG C a d)/\s.heap.get? a\(jH C t b d)/\aaj X H s.heap b
structure Fly (P:Program) (w:World) (outer:List Env) (H:Hp) (s:Shared) (a:Addr) (H':Hp) (s':Shared):Prop where
 os:s'.os=s.os
 bare:AllBare s'.gens
 un:Un (uI outer) [] H H' s.heap s'.heap
 hok:iz P w H' s'.heap
 obj:∃C t tb d,H' a\(rG C a d)/\s'.heap.get? a\(jH C t tb d)/\(tb= .none\/∃T,tb= .ref T/\s.heap.objs.size<=T/\H' T=none/\F9 s'.heap T)
def wx(P:Program)(w:World):rF:=λouter H s E e c=>∃a b,e= .ref a/\Fly P w outer H s a b c/\E e none b
section
variable {X:Cx} {pins:List (Addr×Obj)} {σ:St} {H H':Hp} {s s':Shared} {a:Addr}
def Inv.OX(I:Inv X pins σ H s):Inv X [] σ H s:=#[I.ok,I.os,I.bare,I.base,I.loc,I.cell,I.free,I.freeC,λp b=>I.pin p^by rw[e8] at b;exact j8 _ b,I.hok,I.len]
theorem T4(I:Inv X pins σ H s)(f:Fly X.prog X.w X.stack H s a H' s'):Inv X [] σ H' s'/\zt X H' s' a:=by
 rfl';let⟨os,bare,un,hok,C,t,h,d,i,j,k⟩:=f;have l:Inv X pins σ H' s':=I.IH (ch:= []) os un hok bare^λb z=>absurd z^by simp
 ac_rfl;refine #[l.OX,C,t,h,d,i,j,k.imp id λhH=>?_];obtain⟨T,m,e,n,q⟩:=hH;refine #[T,m,iT I.sz e,?_,λx c r z=>?_,λp u z=>?_,n,q]
 .exact λz=>absurd (cO I.lt e)^by rw[z];exact kg _
 .obtain⟨v,o,y,_⟩:=I.cell x c r
  exact absurd (cO (Da y) e)^by rw[z];exact kg _
 .have:=(I.pin p^j8 _ u).1
  exact absurd (cO (Da this) e)^by rw[z];exact kg _
theorem Df(r:X.stack=X.env::X.outer)(Z:X.env.frame\X.env.locals)(I:Inv X [] σ H s)(f:zt X H s a)
  (h:∀s',Inv X [] σ H s'->zt X H s' a->Q ⟨⟩ s'):
  e_ M X.A (nn (.ref a) X.env) (λ_ s'=>e_ M X.A (no (.ref a) none) Q E s') E s:=by
 let⟨C,t,tb,d,j,h2,B⟩:=f;have fr:s.heap.FunFrames X.base (X.env::X.outer):=by rw[<-r];exact I.stack
 refine JP (base:=X.base) (by rw[I.ok.frames,r]) fr Z h2 (B.imp id λ#[T,e1,_,_,_,_,P,e7]=>#[T,e1,(λz=>by rw[z,j] at P;cases P),e7]) λk T F G J k0 k1 R=>?_
 have tr:∀b u,H b\u->b≠a->∀o,s.heap.get? b\o->k.get? b\o:=λb u i f9 o l=>by
  refine R b o l f9 (λz=>?_) λz=>?_
  .rcases B with q| ⟨T,q,_,_,_,_,L,_⟩
   .rw[q] at z;cases z
   .rw[q] at z;cases z;rw[i] at L;cases L
  .have:=I.Bl b^by rw[r];exact z
   rw[i] at this;cases this
 have hok:iz X.prog X.w H k:=λb u i=>by
  by_cases z:b=a
  .subst z;rw[j] at i;cases i;exact PL G
  .refine(I.hok b u i).oQ (λc v g q=>?_) (λ_ q=>q) λ_ _ q=>q
   rcases g with rfl|g
   .exact tr c u i z v q
   .exact tr c _ g (λw=>by rw[w,j] at g;cases g) v q
 have N:H T=none:=I.hok.fresh F;have O:∀c o,s.heap.get? c\o->c≠T:=λc o g z=>absurd (cO (Da g) F)^by rw[z];exact kg _
 have fin:∀ch:List Addr,(∀b,tb= .ref b->b∈ch)->(∀b∈ch,(b∈X.ex\/X.s₀.heap.objs.size<=b)/\b≠X.env.locals/\(∀x c,X.env.cells.lookup x\c->c≠b)/\∀p∈X.pn++ [],p.1≠b)->Inv X [] σ H {s with heap:=k}:=λch S h6=>by
  refine I.IH (s':={s with heap:=k}) (ch:=ch) rfl #[λb o e n i g=>?_,λb o e n _ g=>?_,λb o _ n _=>n,λb o e _=>?_,λ_ _ q=>q,λ_ _ _ q=>q,λ_ ps q=>#[#[],by rw[q];simp]] hok I.bare h6
  .exact R b o e (λz=>by rw[z,j] at n;cases n) (λz=>g^S b z)^by rw[<-r];exact i
  .exact k1 b o e (λz=>by rw[z,j] at n;cases n)^λz=>g^S b z
  .by_cases z:b=a
   .exact#[_,by rw[z];exact G]
   .exact k0 b o e z
 have I':Inv X [] σ H {s with heap:=k}:=by
  rcases B with q| ⟨Y,q,q2,q3,q4,q5,L,q7⟩
  .exact fin [] (λb z=>by rw[q] at z;cases z) λb z=>absurd z^by simp
  .refine fin [Y] (λb z=>by rw[q] at z;cases z;exact dH ..) λb z=>?_
   have:b=Y:=by simpa using z
   subst this;exact#[.inr q2,q3,q4,λp y=>q5 p^by rw[e8] at y;exact y]
 refine h _ I' #[C,t, .ref T,d,j,G, .inr #[T,rfl,iT I.sz F,?_,λx c g=>?_,λp y=>?_,N,J]]
 .obtain⟨m,⟨o,_,_,l,_⟩,_⟩:=I.loc
  exact(O _ _ l).symm
 .obtain⟨v,o,l,_⟩:=I.cell x c g
  exact O _ _ l
 .exact O _ _ (I.pin p^j8 _ y).1
end
def Le(X:Cx)(b:St)(H:Hp)(a:Addr):Prop:=∀s,Inv X [] b H s->zt X H s a->X.xe (.ref a) s
theorem PM{P:Program}{w:World}{K:ad}{e:Str->Option Value}{base:Heap}{N:List Str}{c:Str}{b:Scope}{f:Addr}{g:Value}{A:Around}{outer:List Env}{s k:Shared}{H i:Hp}{E:XK}{l:St}{a:Addr}
  (I:Inv (j5 (wx P w) P w K e base N c b f g A outer s H E) [] l i k) (m:zt (j5 (wx P w) P w K e base N c b f g A outer s H E) i k a) (h:E (.ref a) none i):(j5 (wx P w) P w K e base N c b f g A outer s H E).xe (.ref a) k:=by
 show wpAny _ _ (leaving _ _) _ _ _;unfold leaving;refine wpAny_bind (Df (X:=j5 (wx P w) P w K e base N c b f g A outer s H E) rfl rfl I m λB j n=>?_);rfl';obtain⟨C,t,p,d,q,r,u⟩:=n;ac_rfl;refine #[a,i,rfl,#[j.os,j.bare,j.base,j.hok,C,t,p,d,q,r,u.imp id λhH=>?_],h];obtain⟨T,v,x,_,_,_,y,z⟩:=hH;exact #[T,v,x,y,z]
end L2
namespace TS
open PySem PyProof.Rows
def fJ:Bool->Keyed->Array Keyed->Nat->Nat->Nat->StateT ge l_^Option Nat:=sortPriv%PySem.Builtin.gallop
def qX:Array Keyed->Array Keyed->StateT ge l_^Array Keyed:=sortPriv%PySem.Builtin.mergeLo
def qW:Array Keyed->Array Keyed->StateT ge l_^Array Keyed:=sortPriv%PySem.Builtin.mergeHi
def setMinGallop':Nat->StateT SortSt Sem Unit:=sortPriv%PySem.Builtin.setMinGallop
def kL(left:Bool)(key:Keyed)(arr:Array Keyed)(base i:Nat):StateT ge l_^Option Bool:=do
 let x <-il arr (base+i)
 if left then lt' x key else return (<-lt' key x).map (!·)
def GN(left:Bool)(key:Keyed)(arr:Array Keyed)(base n a:Nat):fJ left key arr base n a=(do
 let mut lastofs:=0
 let mut ofs:=1
 let mut lo:=0
 let mut hi:=0
 let some right <-kL left key arr base a|return none
 if right then
  let b:=n-a
  for _ in [0:n] do
   if ofs>=b then break
   let some more <-kL left key arr base (a+ofs) |return none
   if !more then break
   lastofs:=ofs
   ofs:=2*ofs+1
  lo:=a+lastofs+1
  hi:=a+min ofs b
 else
  let b:=a+1
  for _ in [0:n] do
   if ofs>=b then break
   let some found <-kL left key arr base (a-ofs) |return none
   if found then break
   lastofs:=ofs
   ofs:=2*ofs+1
  lo:=a+1-min ofs b
  hi:=a-lastofs
 for _ in [0:n] do
  if lo>=hi then break
  let m:=lo+(hi-lo) / 2
  let some more <-kL left key arr base m|return none
  if more then lo:=m+1 else hi:=m
 return some hi):=rfl
def iy(O:KeyOrd)(key:Keyed->O.α)(S:Keyed->Prop)(a:jc)(M:Model)(A:gs)(E:b_->c_->Prop)(s:c_):Prop:=
 ∀(x y:Keyed)(st:ge)(Q:Option Bool->ge->Prop),S x->S y->kindOf st=a->Q (some^O.blt (key x)^key y) st->on M A E s (lt' x y) Q st
section
variable {O:KeyOrd} {key:Keyed->O.α} {S:Keyed->Prop} {k0:SortKind} {M:Model} {A:Around} {E:Value->Shared->Prop} {s:Shared} {st:SortSt}
def fg(O:KeyOrd)(key:Keyed->O.α)(left:Bool)(k x:Keyed):Bool:=if left then O.blt (key x)^key k else !O.blt (key k)^key x
def bB{i:Nat}(h:arr[i]?\x)(q:Q x st):wpS M A E s (elem' arr i) Q st:=by
 rw[elem'_eq,h];exact FB q
theorem lU(C:iy O key S k0 M A E s)(d:arr[base+i]?\x)(a:S k)(b:S x)(c:kindOf st=k0)
  (q:Q (some (fg O key left k x)) st):on M A E s (kL left k arr base i) Q st:=by
 unfold kL;refine Fk^bB d ?_;unfold fg at q;cases left with
 |true=>exact C _ _ _ _ b a c q
 |false=>exact Fk^C _ _ _ _ a b c^FB q
structure Seg (S:Keyed->Prop) (arr:Array Keyed) (base n:Nat) (g:Nat->Keyed):Prop where
 at_:∀i,i<n->arr[base+i]?\(g i)
 mem:∀i,i<n->S^g i
theorem iw(C:iy O key S k0 M A E s){base n a:Nat}(G:Seg S arr base n g)(H:S k)(J:kindOf st=k0)(Y:a<n)
  (mono:∀i j,i<=j->j<n->fg O key left k^g j=true->fg O key left k^g i=true)
  (q:∀p,p<=n->(∀i,i<p->fg O key left k^g i=true)->(∀i,p<=i->i<n->fg O key left k^g i=false)->Q (some p) st):on M A E s (fJ left k arr base n a) Q st:=by
 rw[GN];refine Fk^lU C (G.at_ _ Y) H (G.mem _ Y) J ?_
 have P:∀i j,i<=j->j<n->fg O key left k^g i=false->fg O key left k^g j=false:=λi j fh hj h=>by
  cases e:fg O key left k^g j with
  |false=>rfl
  |true=>rw[mono i j fh hj e] at h;cases h
 have fin:∀lo b,lo<=b->b<=n->(∀i,i<lo->fg O key left k^g i=true)->(∀i,b<=i->i<n->fg O key left k^g i=false)->
   on M A E s (do
    let mut lo:=lo
    let mut b:=b
    for _ in [0:n] do
     if lo>=b then break
     let m:=lo+(b-lo) / 2
     let some more <-kL left k arr base m|return none
     if more then lo:=m+1 else b:=m
    return some b) Q st:=by
  intro lo b R hn B y;dsimp only
  refine Fk (SL (SZ (I:=λx c f=>f=st/\∃lo b,c=(none,lo,b)/\lo<=b/\b<=n/\b-lo<=n-x/\(∀i,i<lo->fg O key left k^g i=true)/\(∀i,b<=i->i<n->fg O key left k^g i=false))
   (Q:=λc f=>f=st/\∃b,c=(none,b,b)/\b<=n/\(∀i,i<b->fg O key left k^g i=true)/\(∀i,b<=i->i<n->fg O key left k^g i=false)) ?step ?fin #[rfl,lo,b,rfl,R,hn,(),B,y]) ?post)
  case fin=>
   rintro c f ⟨rfl,lo,b,rfl,r,w,t,l,L⟩
   have:lo=b:=()
   subst this;exact#[rfl,lo,rfl,w,l,L]
  case step=>
   rintro x c f _ Z ⟨rfl,lo,b,rfl,r,w,t,l,L⟩;dsimp only
   by_cases v:lo>=b
   .rw[ir v]
    have:lo=b:=()
    subst this;exact FB #[rfl,lo,rfl,w,l,L]
   .rw[tz v]
    have u:lo+(b-lo) / 2<n:=()
    refine Fk^lU C (G.at_ _ u) H (G.mem _ u) J ?_;cases e:fg O key left k^g (lo+(b-lo) / 2) with
    |true=>
     dsimp only;rw[ir rfl];exact FB #[rfl,_,_,rfl,(),w,(),λi b=>mono _ _ () u e,L]
    |false=>
     dsimp only;rw[tz ∅]
     exact FB #[rfl,_,_,rfl,(),(),(),l,λi B y=>P _ _ B y e]
  case post=>
   rintro c f ⟨rfl,b,rfl,T,N,F⟩;exact FB^q _ T N F
 dsimp only;cases e0:fg O key left k^g a with
 |true=>
  rw[ir rfl]
  refine Fk (SL (SZ (I:=λx c f=>f=st/\∃d o,c=(none,d,o)/\d<o/\x<o/\a+d<n/\fg O key left k^g (a+d)=true)
   (Q:=λc f=>f=st/\∃d o,c=(none,d,o)/\d<o/\a+d<n/\fg O key left k^g (a+d)=true/\(n-a<=o\/(a+o<n/\fg O key left k^g (a+o)=false))) ?step ?fin2 #[rfl,0,1,rfl,(),(),(),e0]) ?post)
  case fin2=>
   rintro c f ⟨rfl,d,o,rfl,r,w,t,l⟩;exact#[rfl,d,o,rfl,r,t,l, .inl ()]
  case step=>
   rintro x c f _ Z ⟨rfl,d,o,rfl,r,w,t,l⟩;dsimp only
   by_cases v:o>=n-a
   .rw[ir v]
    exact FB #[rfl,d,o,rfl,r,t,l, .inl v]
   .rw[tz v]
    have u:a+o<n:=()
    refine Fk^lU C (G.at_ _ u) H (G.mem _ u) J ?_;cases e:fg O key left k^g (a+o) with
    |true=>
     dsimp only;rw[tz ∅]
     exact FB #[rfl,_,_,rfl,(),(),u,e]
    |false=>
     dsimp only;rw[ir ∅]
     exact FB #[rfl,d,o,rfl,r,t,l, .inr #[u,e]]
  case post=>
   rintro c f ⟨rfl,d,o,rfl,T,N,F,z⟩;refine fin (a+d+1) (a+min o (n-a)) () () (λi b=>mono _ _ () N F)^λi B y=>?_
   rcases z with z| ⟨z,X⟩
   .lia
   .exact P _ _ () y X
 |false=>
  rw[tz ∅]
  refine Fk (SL (SZ (I:=λx c f=>f=st/\∃d o,c=(none,d,o)/\d<o/\x<o/\d<=a/\fg O key left k^g (a-d)=false)
   (Q:=λc f=>f=st/\∃d o,c=(none,d,o)/\d<o/\d<=a/\fg O key left k^g (a-d)=false/\(a+1<=o\/(o<=a/\fg O key left k^g (a-o)=true))) ?step ?fin2 #[rfl,0,1,rfl,(),(),(),e0]) ?post)
  case fin2=>
   rintro c f ⟨rfl,d,o,rfl,r,w,t,l⟩;exact#[rfl,d,o,rfl,r,t,l, .inl ()]
  case step=>
   rintro x c f _ Z ⟨rfl,d,o,rfl,r,w,t,l⟩;dsimp only
   by_cases v:o>=a+1
   .rw[ir v]
    exact FB #[rfl,d,o,rfl,r,t,l, .inl v]
   .rw[tz v]
    have u:a-o<n:=()
    refine Fk^lU C (G.at_ _ u) H (G.mem _ u) J ?_;cases e:fg O key left k^g (a-o) with
    |true=>
     dsimp only;rw[ir rfl];exact FB #[rfl,d,o,rfl,r,t,l, .inr #[(),e]]
    |false=>
     dsimp only;rw[tz ∅]
     exact FB #[rfl,_,_,rfl,(),(),(),e]
  case post=>
   rintro c f ⟨rfl,d,o,rfl,T,N,F,z⟩;refine fin (a+1-min o (a+1)) (a-d) (by omega) () (λi b=>?_)^λi B y=>P _ _ B y F
   rcases z with z| ⟨z,X⟩
   .lia
   .exact mono _ _ () () X
end
section
variable {O:KeyOrd} {key:Keyed->O.α} {S:Keyed->Prop} {k0:SortKind} {M:Model} {A:Around} {E:Value->Shared->Prop} {s:Shared} {st bV:SortSt}
def ky(O:KeyOrd)(key:Keyed->O.α)(a:Array Keyed)(i:Nat):O.α:=key (a[i]?.getD (.none, .none))
def jr(h:a[i]? =b[j]?):ky O key a i=ky O key b j:=by unfold ky;rw[h]
def kh(O:KeyOrd)(key:Keyed->O.α)(xs:Array Keyed)(a b:Nat):Prop:=∀i j,a<=i->i<=j->j<b->O.kle (ky O key xs i)^ky O key xs j
def Mw(O:KeyOrd)(key:Keyed->O.α)(c:Array Keyed)(a b:Nat):Prop:=∀i j,a<=i->i<=j->j<b->O.kle (ky O key c j)^ky O key c i
structure iA (bV st:SortSt) (lo hi:Nat):Prop where
 perm:(arrOf st).Perm (arrOf bV)
 kind:kindOf st=kindOf bV
 failed:failedOf st=failedOf bV
 pend:pendingOf st=pendingOf bV
 out:∀i,i<lo\/hi<=i->(arrOf st)[i]? =(arrOf bV)[i]?
theorem iA.refl(st:SortSt)(lo a:Nat):iA st st lo a:=#[.refl _,rfl,rfl,rfl,λ_ _=>rfl]
theorem iA.trans{d e:ge}{lo c:Nat}(a:iA bV d lo c)(b:iA d e lo c):iA bV e lo c:=
 #[b.perm.trans a.perm,b.kind.trans a.kind,b.failed.trans a.failed,b.pend.trans a.pend,λi h=>(b.out i h).trans^a.out i h]
theorem iA.size{lo b:Nat}(a:iA bV st lo b):(arrOf st).size=(arrOf bV).size:=a.perm.size_eq
theorem iA.mirror{lo a i j:Nat}(c:lo<=i)(d:j<=a)(b:j<=(ey st).size):iA st (oo st^mirror (ey st) i j ((j-i) / 2)) lo a:=
 #[mirror_perm _ _ _ _,rfl,rfl,rfl,λk h=>by
  show(PyProof.Rows.mirror (ey st) i j ((j-i) / 2))[k]? =_;rw[getElem?_mirror_all b,tz ()]]
theorem iA.bubble{lo a src d:Nat}(b:d<=src)(e:lo<=src-d)(f:src<a)(c:src<(ey st).size):iA st (oo st^bubble (ey st) src d) lo a:=
 #[bubble_perm _ _ _,rfl,rfl,rfl,λk h=>by
  show(PyProof.Rows.bubble (ey st) src d)[k]? =_;rw[getElem?_bubble c d b,tz (),tz ()]]
def tG{i j:Nat}(c:j<=a.size)(k:Nat):ky O key (mirror a i j ((j-i) / 2)) k=if i<=k/\k<j then ky O key a (i+j-1-k) else ky O key a k:=by
 have e:=getElem?_mirror_all (i:=i) c k
 by_cases b:i<=k/\k<j
 .rw[ir b] at e ⊢;exact jr e
 .rw[tz b] at e ⊢;exact jr e
def gQ(c:j<=a.size)(b:∀k,i<=k->k<j->ky O key a k=ky O key a (j-1))(k:Nat):ky O key (mirror a i j ((j-i) / 2)) k=ky O key a k:=by
 rw[tG c]
 split
 .rw[b _ () (),b k () ()]
 .rfl
def Al(f:src<a.size)(g:d<=src)(k:Nat):
  ky O key (bubble a src d) k=if k=src-d then ky O key a src else if src-d<k/\k<=src then ky O key a (k-1) else ky O key a k:=by
 have e:=getElem?_bubble f d g k
 by_cases b:k=src-d
 .rw[ir b] at e ⊢;exact jr e
 .rw[tz b] at e ⊢
  by_cases c:src-d<k/\k<=src
  .rw[ir c] at e ⊢;exact jr e
  .rw[tz c] at e ⊢;exact jr e
structure Ok (S:Keyed->Prop) (k0:SortKind) (st:SortSt):Prop where
 mem:∀p,p∈(arrOf st).toList->S p
 kind:kindOf st=k0
def Ok.step{lo b:Nat}(o:Ok S k0 bV)(a:iA bV st lo b):Ok S k0 st:=
 #[λp c=>o.mem p^(FU.mp a.perm).mem_iff.mp c,a.kind.trans o.kind]
def Ok.at{i:Nat}(o:Ok S k0 st)(a:i<(ey st).size):(ey st)[i]?\((ey st)[i]?.getD (.none, .none))/\S ((ey st)[i]?.getD (.none, .none)):=by
 have e:(ey st)[i]? =some (ey st)[i]:=ado _ i a;rw[e];exact#[rfl,o.mem _^by simp]
def qF(C:iy O key S k0 M A E s)(o:Ok S k0 st)(a:i<(ey st).size)(b:j<(ey st).size)
  (q:Q (some^O.blt (ky O key (ey st) i)^ky O key (ey st) j) st):on M A E s (ltAt' i j) Q st:=by
 rw[ltAt'_eq];let⟨c,d⟩:=o.at a;let⟨e,f⟩:=o.at b;refine Fk^adv^Fk^bB c^Fk^bB e^C _ _ _ _ d f o.kind q
theorem wpS_binarySort(C:iy O key S k0 M A E s){lo n ok:Nat}{Q:Bool->ge->Prop}(o:Ok S k0 st)(Z:lo+n<=(ey st).size)(hok:ok<=n)(H:kh O key (ey st) lo (lo+ok))
  (h:∀b,iA st b lo (lo+n)->kh O key (ey b) lo (lo+n)->Q true b):on M A E s (binarySort' lo n ok) Q st:=by
 rw[binarySort'_eq]
 refine wpS_bind (wpS_mono (wpS_forRange (I:=λk c b=>c=(none,⟨⟩)/\iA st b lo (lo+n)/\kh O key (ey b) lo (lo+min k n))
  (Q:=λc b=>c=(none,⟨⟩)/\iA st b lo (lo+n)/\kh O key (ey b) lo (lo+n)) ?step ?fin ?init) ?post)
 case post=>
  rintro c b ⟨rfl,f,e⟩;exact wpS_pure^h b f e
 case init=>
  refine#[rfl, .refl _ _ _,λi j t B J=>?_]
  by_cases p:ok=0
  .have:i=j:=()
   subst this;exact KeyOrd.kle_refl _
  .exact H i j t B ()
 case fin=>
  rintro c b ⟨L,f,e⟩;exists L,f
  rwa [show min (max (max ok 1) n) n=n by lia] at e
 case step=>
  rintro k c b N P ⟨rfl,f,e⟩;rw[show min k n=k by lia] at e
  have R:=o.step f;have dQ:=f.size;have q:lo+k<(ey b).size:=()
  refine wpS_bind (wpS_mono (wpS_forRange (I:=λx c d=>d=b/\∃l r,c=(none,l,r)/\l<=r/\r<=k/\r-l<=k-x/\
    (∀i,i<l->O.kle (ky O key (ey b) (lo+i))^ky O key (ey b) (lo+k))/\(∀i,r<=i->i<k->O.klt (ky O key (ey b) (lo+k))^ky O key (ey b) (lo+i)))
   (Q:=λc d=>d=b/\∃l r,c=(none,l,r)/\l<=k/\
    (∀i,i<l->O.kle (ky O key (ey b) (lo+i))^ky O key (ey b) (lo+k))/\(∀i,l<=i->i<k->O.klt (ky O key (ey b) (lo+k))^ky O key (ey b) (lo+i))) ?istep ?ifin ?iinit) ?ipost)
  case iinit=>exact#[rfl,0,k,rfl,(),(),(),λi t=>by lia,λi p u=>by lia]
  case ifin=>
   rintro c d ⟨rfl,l,r,rfl,v,w,T,g,m⟩
   have:l=r:=()
   subst this;exact#[rfl,l,l,rfl,w,g,m]
  case istep=>
   rintro x c d _ X ⟨rfl,l,r,rfl,v,w,T,g,m⟩;dsimp only
   by_cases F:l>=r
   .rw[if_pos F]
    have:l=r:=()
    subst this;exact wpS_pure #[rfl,l,l,rfl,w,g,m]
   .rw[if_neg F]
    refine wpS_bind^qF C R q () ?_
    cases G:O.blt (ky O key (ey d) (lo+k))^ky O key (ey d) (lo+(l+r) / 2)
    case true=>
     simp only[if_true];refine wpS_pure #[rfl,l,(l+r) / 2,rfl,(),(),(),g,λi p u=>?_]
     exact KeyOrd.klt_of_klt_of_kle G^e _ _ () () ()
    case false=>
     simp only[fo,if_false];refine wpS_pure #[rfl,(l+r) / 2+1,r,rfl,(),(),(),λi p=>?_,m]
     exact KeyOrd.kle_trans (e (lo+i) (lo+(l+r) / 2) () () ()) (show O.kle _ _ from G)
  case ipost=>
   rintro c d ⟨rfl,l,r,rfl,Y,g,m⟩;show on _ _ _ _ (do moveDown' (lo+k) (lo+l);pure^ForInStep.yield (none,Unit.unit)) _ _
   rw[moveDown'_eq];have ed:lo+k-(lo+l)=k-l:=()
   refine wpS_bind^wpS_modify^wpS_pure #[rfl,f.trans^iA.bubble () () () q,?_]
   rw[show min (k+1) n=k+1 by lia]
   intro i j t B J;show O.kle (ky O key (bubble (ey d) (lo+k) (lo+k-(lo+l))) i)^ky O key (bubble (ey d) (lo+k) (lo+k-(lo+l))) j;rw[Al q (),Al q (),show lo+k-(lo+k-(lo+l))=lo+l by lia]
   have y:∀a,lo<=a->a<lo+l->O.kle (ky O key (ey d) a)^ky O key (ey d) (lo+k):=λa p u=>by
    have:=g (a-lo) ();rwa [show lo+(a-lo)=a by lia] at this
   have z:∀a,lo+l<=a->a<lo+k->O.klt (ky O key (ey d) (lo+k))^ky O key (ey d) a:=λa p u=>by
    have:=m (a-lo) () ();rwa [show lo+(a-lo)=a by lia] at this
   repeat' split
   all_goals first
    | (exfalso;lia)
    |exact KeyOrd.kle_refl _
    |exact y _ () ()
    |exact KeyOrd.kle_of_klt^z _ () ()
    |exact e _ _ () () ()
end
def Ge(lo a d:Nat):StateT ge l_ AscSt:=
 forIn [a:d] ((none,a):AscSt) λ_ b=>do
  let c <-ltAt' (lo+b.snd) (lo+b.snd-1)
  match c with
  |some e=>if e=true then pure^ForInStep.done (none,b.snd) else pure^ForInStep.yield (none,b.snd+1)
  |_=>pure^ForInStep.done (some none,b.snd)
def tailL(lo n b:Nat):StateT ge l_^Option Nat:=do
 lp lo (lo+n)
 let a <-Ge lo n b
 match a.fst with
 |some r=>pure r
 |none=>pure^some a.snd
def Ej(lo n c:Nat):StateT ge l_ DescSt:=
 forIn [n:c] ((none,n,0):DescSt) λ_ a=>do
  let b <-ltAt' (lo+a.snd.fst) (lo+a.snd.fst-1)
  match b with
  |some d=>
   if d=true then
    if a.snd.snd>0 then do
     lp (lo+a.snd.fst-(a.snd.snd+1)) (lo+a.snd.fst)
     pure (ForInStep.yield (none,a.snd.fst+1,0))
    else pure (ForInStep.yield (none,a.snd.fst+1,0))
   else do
    let b <-ltAt' (lo+a.snd.fst-1) (lo+a.snd.fst)
    match b with
    |some e=>
     if e=true then pure (ForInStep.done (none,a.snd.fst,a.snd.snd))
     else pure^ForInStep.yield (none,a.snd.fst+1,a.snd.snd+1)
    |_=>pure^ForInStep.done (some none,a.snd.fst,a.snd.snd)
  |_=>pure^ForInStep.done (some none,a.snd.fst,a.snd.snd)
def descP(lo n b:Nat):StateT ge l_^Option Nat:=do
 liftM^rule "list.sort.descending-run"
 let a <-Ej lo (n+1) b
 match a.fst with
 |some r=>pure r
 |none=>
  if a.snd.snd>0 then do
   lp (lo+a.snd.fst-(a.snd.snd+1)) (lo+a.snd.fst)
   tailL lo a.snd.fst b
  else tailL lo a.snd.fst b
theorem B6(lo c:Nat):countRun' lo c=(do
  let a <-Ge lo 1 c
  match a.fst with
  |some r=>pure r
  |none=>
   if (a.snd==c)=true then pure (some a.snd)
   else if a.snd>1 then do
    let e <-ltAt' lo (lo+a.snd-1)
    match e with
    |some g=>if g=true then pure^some a.snd else do
      lp lo (lo+a.snd)
      descP lo a.snd c
    |_=>pure none
   else descP lo a.snd c):=by
 rw[countRun'_eq];dsimp only;unfold descP tailL Ej Ge
 congr 1
 funext a
 obtain⟨r,n⟩:=a;cases r with
 |some r=>rfl
 |none=>
  dsimp only
  split
  .rfl
  .split
   .congr 1
    funext x
    cases x with
    |none=>rfl
    |some g=>
     dsimp only
     split
     .rfl
     .congr 1
      funext _r
      (congr 1;funext _u;congr 1;congr 1;funext s2;obtain⟨d,h,i⟩:=s2;cases d with
 |some d=>rfl
 |none=>(dsimp only;split;(congr 1;funext _v;(congr 1;funext _w;congr 1;(funext s3;obtain⟨b,f⟩:=s3;cases b<;>rfl)));(congr 1;funext _w;congr 1;(funext s3;obtain⟨b,f⟩:=s3;cases b<;>rfl))))
   ·(congr 1;funext _u;congr 1;congr 1;funext s2;obtain⟨d,h,i⟩:=s2;cases d with
 |some d=>rfl
 |none=>(dsimp only;split;(congr 1;funext _v;(congr 1;funext _w;congr 1;(funext s3;obtain⟨b,f⟩:=s3;cases b<;>rfl)));(congr 1;funext _w;congr 1;(funext s3;obtain⟨b,f⟩:=s3;cases b<;>rfl))))
section
variable {O:KeyOrd} {key:Keyed->O.α} {S:Keyed->Prop} {k0:SortKind} {prog:Program} {w:World} {A:Around} {E:Value->Shared->Prop} {s:Shared} {st bV:SortSt}
def DV(C:iy O key S k0 (ei prog w) A E s){lo a b:Nat}{Q:AscSt->ge->Prop}(o:Ok S k0 st)(u:lo+b<=(ey st).size)(v:1<=a)(f:a<=b)(m:kh O key (ey st) lo (lo+a))
  (h:∀n,a<=n->n<=b->kh O key (ey st) lo (lo+n)->(n=b\/O.klt (ky O key (ey st) (lo+n))^ky O key (ey st) (lo+n-1))->Q (none,n) st):
  on (ei prog w) A E s (Ge lo a b) Q st:=by
 unfold Ge;refine SZ (I:=λx c e=>e=st/\c=(none,x)/\kh O key (ey st) lo (lo+x)) ?step ?fin #[rfl,rfl,m]
 case fin=>
  rintro c e ⟨rfl,rfl,d⟩;rw[show max a b=b by lia] at d ⊢
  exact h b f (bg _) d^.inl rfl
 case step=>
  rintro x c e g y ⟨rfl,rfl,d⟩;dsimp only;refine Fk^qF C o () () ?_
  cases k:O.blt (ky O key (ey e) (lo+x))^ky O key (ey e) (lo+x-1)
  case true=>
   simp only[ac4];exact FB^h x g () d^.inr k
  case false=>
   simp only[fo,Pi];refine FB #[rfl,rfl,λi j l p z=>?_]
   by_cases q:j<lo+x
   .exact d i j l p q
   .have r:j=lo+x:=()
    subst r
    by_cases t:i=lo+x
    .subst t;exact acQ _
    .exact On (d i (lo+x-1) l () ()) k
def vX(h:Q ⟨⟩^oo st^mirror (ey st) i j ((j-i) / 2)):on (ei prog w) A E s (lp i j) Q st:=by
 rw[reverseSlice'_eq];exact adE h
def BC(C:iy O key S k0 (ei prog w) A E s){lo n a:Nat}{Q:Option Nat->ge->Prop}(o:Ok S k0 st)(f:lo+a<=(ey st).size)(g:1<=n)(k:n<=a)(l:Mw O key (ey st) lo (lo+n))
  (h:∀m b,iA st b lo (lo+a)->1<=m->m<=a->kh O key (ey b) lo (lo+m)->Q (some m) b):on (ei prog w) A E s (tailL lo n a) Q st:=by
 unfold tailL;have c:lo+n<=(ey st).size:=()
 refine Fk^vX ?_;have d:iA st (oo st^mirror (ey st) lo (lo+n) ((lo+n-lo) / 2)) lo (lo+a):=iA.mirror (bg _) () c
 refine Fk (DV C (o.step d) (by rw[d.size];exact f) g k ?_ λm p q e _=>FB^h m _ d () q e)
 intro i j r t u;show O.kle (ky O key (mirror (ey st) lo (lo+n) ((lo+n-lo) / 2)) i)^ky O key (mirror (ey st) lo (lo+n) ((lo+n-lo) / 2)) j;rw[tG c,tG c,ir (),ir ()]
 exact l _ _ () (by omega) (by omega)
def KR(C:iy O key S r (ei prog w) A E s){lo n d:Nat}{Q:DescSt->ge->Prop}(o:Ok S r st)(hn:lo+d<=(ey st).size)(p:1<=n)(R:n<=d)(T:Mw O key (ey st) lo (lo+n))
  (h:∀m b a,iA st a lo (lo+d)->n<=m->m<=d->Mw O key (ey a) lo (lo+m)->b+1<=m->(∀i,lo+m-(b+1)<=i->i<lo+m->ky O key (ey a) i=ky O key (ey a) (lo+m-1))->Q (none,m,b) a):
  on (ei prog w) A E s (Ej lo n d) Q st:=by
 unfold Ej
 refine SZ (I:=λx c a=>∃b,c=(none,x,b)/\iA st a lo (lo+d)/\Mw O key (ey a) lo (lo+x)/\b+1<=x/\
   (∀i,lo+x-(b+1)<=i->i<lo+x->ky O key (ey a) i=ky O key (ey a) (lo+x-1))) ?step ?fin #[0,rfl, .refl _ _ _,T,(),λi p t=>by congr 1;lia]
 case fin=>
  rintro c a ⟨b,rfl,e,f,q,g⟩;rw[show max n d=d by lia] at f q g ⊢
  exact h d b a e R (bg _) f q g
 case step=>
  intro x c a X YZ u;refine ae λG0 r=>?_;let⟨b,rfl,e,f,q,g⟩:=u;refine r ?_;dsimp only;have G:=o.step e;have hz:=e.size;have H:lo+x<=(ey a).size:=()
  refine Fk^qF C G () () ?_
  cases J:O.blt (ky O key (ey a) (lo+x))^ky O key (ey a) (lo+x-1)
  case true=>
   simp only[ac4]
   have L:∀v:Array Keyed,(∀k,ky O key v k=ky O key (ey a) k)->Mw O key v lo (lo+(x+1)):=by
    intro v M i j l y Y;rw[M,M]
    by_cases z:j<lo+x
    .exact f i j l y z
    .have B:j=lo+x:=()
     subst B
     by_cases F:i=lo+x
     .subst F;exact acQ _
     .exact On (SC J)^f i (lo+x-1) l () ()
   by_cases N:b>0
   .rw[ir N]
    refine Fk^vX^FB #[0,rfl,e.trans^iA.mirror () () H,L _^gQ H g,(),λi p t=>by congr 1;lia]
   .rw[tz N]
    exact FB #[0,rfl,e,L _^λ_=>rfl,(),λi p t=>by congr 1;lia]
  case false=>
   simp only[fo,Pi];refine Fk^qF C G () () ?_
   cases Z:O.blt (ky O key (ey a) (lo+x-1))^ky O key (ey a) (lo+x)
   case true=>
    simp only[ac4];exact FB^h x b a e () () f q g
   case false=>
    simp only[fo,Pi];have P:ky O key (ey a) (lo+x)=ky O key (ey a) (lo+x-1):=O.total _ _ J Z;refine FB #[b+1,rfl,e,λi j l y Y=>?_,(),λi p t=>?_]
    .by_cases z:j<lo+x
     .exact f i j l y z
     .have B:j=lo+x:=()
      subst B
      by_cases F:i=lo+x
      .subst F;exact acQ _
      .rw[P];exact f i (lo+x-1) l () ()
    .rw[show lo+(x+1)-1=lo+x by lia]
     by_cases Ug:i=lo+x
     .subst Ug;rfl
     .rw[P];exact g i () ()
def Bv(C:iy O key S k0 (ei prog w) A E s){lo n b:Nat}{Q:Option Nat->ge->Prop}(o:Ok S k0 st)(u:lo+b<=(ey st).size)(v:n+1<=b)(x:Mw O key (ey st) lo (lo+(n+1)))
  (h:∀m a,iA st a lo (lo+b)->1<=m->m<=b->kh O key (ey a) lo (lo+m)->Q (some m) a):on (ei prog w) A E s (descP lo n b) Q st:=by
 unfold descP;refine Fk^adV^ac8 #[rfl,?_];refine Fk (KR C o u () v x λm d a c y p q G r=>?_)
 dsimp only;have H:=c.size;have e:lo+m<=(ey a).size:=()
 by_cases t:d>0
 .rw[ir t]
  have f:iA a (oo a^mirror (ey a) (lo+m-(d+1)) (lo+m) ((lo+m-(lo+m-(d+1))) / 2)) lo (lo+b):=iA.mirror () () e
  refine Fk^vX (BC C (o.step^c.trans f) (by rw[f.size];lia) () p ?_ λg k l=>h g k^(c.trans f).trans l)
  intro i j z B F;show O.kle (ky O key (mirror (ey a) _ _ _) j)^ky O key (mirror (ey a) _ _ _) i;rw[gQ e r,gQ e r];exact q i j z B F
 .rw[tz t]
  exact BC C (o.step c) () () p q λg k l=>h g k^c.trans l
def wpS_countRun(C:iy O key S k0 (ei prog w) A E s){lo a:Nat}{Q:Option Nat->ge->Prop}(o:Ok S k0 st)(y:lo+a<=(ey st).size)(J:1<=a)
  (h:∀m f,iA st f lo (lo+a)->1<=m->m<=a->kh O key (ey f) lo (lo+m)->Q (some m) f):on (ei prog w) A E s (countRun' lo a) Q st:=by
 rw[B6];refine Fk (DV C o y (bg 1) J (λi j d z B=>by have:i=j:=();subst this;exact acQ _) λn F G e g=>?_)
 dsimp only
 by_cases l:n=a
 .rw[ir^~~~l]
  exact FB^h n st (.refl _ _ _) F G e
 .rw[tz^~~~l]
  have H:O.klt (ky O key (ey st) (lo+n))^ky O key (ey st) (lo+n-1):=g.resolve_left l
  by_cases b:n>1
  .rw[ir b]
   refine Fk^qF C o () () ?_
   cases L:O.blt (ky O key (ey st) lo)^ky O key (ey st) (lo+n-1)
   case true=>
    simp only[ac4];exact FB^h n st (.refl _ _ _) F G e
   case false=>
    simp only[fo,Pi];have p:lo+n<=(ey st).size:=()
    have c:∀k,lo<=k->k<lo+n->ky O key (ey st) k=ky O key (ey st) (lo+n-1):=by
     intro k I M;have N:=e lo k () I M
     have P:=e k (lo+n-1) I () ()
     exact KeyOrd.kle_antisymm P^On L N
    have q:iA st (oo st^mirror (ey st) lo (lo+n) ((lo+n-lo) / 2)) lo (lo+a):=iA.mirror (bg _) () p
    refine Fk^vX (Bv C (o.step q) (by rw[q.size];omega) () ?_ λR T X=>h R T^q.trans X)
    intro i j d z B;show O.kle (ky O key (mirror (ey st) _ _ _) j)^ky O key (mirror (ey st) _ _ _) i;rw[gQ p c,gQ p c]
    by_cases r:j<lo+n
    .rw[c i d (),c j () r];exact acQ _
    .have Y:j=lo+n:=()
     subst Y
     by_cases t:i=lo+n
     .subst t;exact acQ _
     .rw[c i d ()];exact SC H
  .rw[tz b]
   have u:n=1:=()
   subst u;refine Bv C o y () ?_ h
   intro i j d z B
   by_cases t:i=j
   .subst t;exact acQ _
   .have v:i=lo:=()
    have x:j=lo+1:=()
    subst v;subst x;exact SC H
end
section lists
variable (O:KeyOrd) (key:Keyed->O.α)
def LE(x y:Keyed):Prop:=O.kle (key x)^key y
structure MI (l o ra rb:List Keyed):Prop where
 perm:(o++(ra++rb)).Perm l
 so:o.Pairwise (LE O key)
 sa:ra.Pairwise (LE O key)
 sb:rb.Pairwise (LE O key)
 le:∀x∈o,∀y∈ra++rb,LE O key x y
def Res(l r:List Keyed):Prop:=r.Perm l/\r.Pairwise^LE O key
variable {O key}
def MI.nU{l o xs e b:List Keyed}(m:MI O key l o (xs++e) b)(h:∀x∈xs,∀y∈b,LE O key x y):MI O key l (o++xs) e b:=by
 let⟨f,g,c⟩:=sL.mp m.sa;refine#[by simpa [k8] using m.perm,sL.mpr #[m.so,f,λx d y a=>m.le x d y^by simp[a]],g,m.sb,λx d y a=>?_]
 rcases cP.mp d with z|z
 .refine m.le x z y ?_
  rcases cP.mp a with u|u<;>simp[u]
 .rcases cP.mp a with u|u
  .exact c x z y u
  .exact h x z y u
def MI.swap(m:MI O key l o a b):MI O key l o b a:=
 #[(List.Perm.append_left o List.perm_append_comm).trans m.perm,m.so,m.sb,m.sa,λx c y d=>m.le x c y^by rcases cP.mp d with u|u<;>simp[u]]
def MI.nV{l o xs a b:List Keyed}(m:MI O key l o a (xs++b))(h:∀x∈xs,∀y∈a,LE O key x y):MI O key l (o++xs) a b:=(m.swap.nU h).swap
def MI.GF(m:MI O key l o a []):Res O key l (o++a):=
 #[by simpa using m.perm,sL.mpr #[m.so,m.sa,λx b y c=>m.le x b y^by simp[c]]]
def MI.EN(m:MI O key l o a b)(h:∀y∈b,∀x∈a,LE O key y x):Res O key l (o++b++a):=by
 have c:MI O key l o a (b++ []):=by rw[e8];exact m
 exact(c.nV h).GF
end lists
def EX(a b:Array Keyed)(h e f d:Nat)(out:Array Keyed)(g:Nat):StateT ge l_^ForInStep (Option^Array Keyed×Array Keyed×Nat×Nat×Nat×Nat×Nat):=do
 let c <-il a d
 let out:Array Keyed:=out.push c
 let d:Nat:=d+1
 if (d+1==a.size)=true then pure (ForInStep.done (some (out++b.extract g b.size++a.extract d a.size),out,d,g,h,e,f))
 else if (decide (e<7)&&decide (f<7))=true then pure (ForInStep.done (none,out,d,g,h,e,f))
 else pure^ForInStep.yield (none,out,d,g,h,e,f)
def xq(a b:Array Keyed)(f g i d:Nat)(out:Array Keyed)(e:Nat):StateT ge l_^ForInStep (Option^Array Keyed×Array Keyed×Nat×Nat×Nat×Nat×Nat):=do
 let c <-il b d
 let out:Array Keyed:=out.push c
 let d:Nat:=d+1
 if (d==b.size)=true then pure (ForInStep.done (some (out++a.extract e a.size++b.extract d b.size),out,e,d,f,g,i))
 else do
  let c <-il a e
  let h <-fJ true c b d (b.size-d) 0
  match h with
  |some k=>
   if k>0 then
    if (d+k==b.size)=true then pure (ForInStep.done (some (out++b.extract d (d+k)++a.extract e a.size++b.extract (d+k) b.size),out++b.extract d (d+k),e,d+k,f,g,k))
    else EX a b f g k e (out++b.extract d (d+k)) (d+k)
   else EX a b f g k e out d
  |_=>pure^ForInStep.done (some (out++a.extract e a.size++b.extract d b.size),out,e,d,f,g,i)
def tJ(a b:Array Keyed)(g i c e:Nat)(out:Array Keyed)(f:Nat):StateT ge l_^ForInStep (Option^Array Keyed×Array Keyed×Nat×Nat×Nat×Nat×Nat):=do
 setMinGallop' f
 let d <-il b e
 let h <-fJ false d a c (a.size-c) 0
 match h with
 |some k=>
  if k>0 then
   if (c+k+1==a.size)=true then pure (ForInStep.done (some (out++a.extract c (c+k)++b.extract e b.size++a.extract (c+k) a.size),out++a.extract c (c+k),c+k,e,f,k,g))
   else if (c+k==a.size)=true then pure (ForInStep.done (some (out++a.extract c (c+k)++a.extract (c+k) a.size++b.extract e b.size),out++a.extract c (c+k),c+k,e,f,k,g))
   else xq a b f k g e (out++a.extract c (c+k)) (c+k)
  else xq a b f k g e out c
 |_=>pure^ForInStep.done (some (out++a.extract c a.size++b.extract e b.size),out,c,e,f,i,g)
def EZ(a b:Array Keyed)(c:Option^Array Keyed×Array Keyed×Nat×Nat×Nat×Nat×Nat):StateT ge l_^ForInStep (Option^Array Keyed×Array Keyed×Nat×Nat×Nat×Nat×Nat):=
 if c.2.2.2.2.1>1 then tJ a b c.2.2.2.2.2.2 c.2.2.2.2.2.1 c.2.2.1 c.2.2.2.1 c.2.1 (c.2.2.2.2.1-1) else tJ a b c.2.2.2.2.2.2 c.2.2.2.2.2.1 c.2.2.1 c.2.2.2.1 c.2.1 c.2.2.2.2.1
def EY(a b:Array Keyed)(e:Nat)(c:Option^Array Keyed×Array Keyed×Nat×Nat×Nat×Nat):StateT ge l_^ForInStep (Option^Array Keyed×Array Keyed×Nat×Nat×Nat×Nat):=do
 let y <-il b c.2.2.2.1
 let x <-il a c.2.2.1
 let d <-lt' y x
 match d with
 |some f=>
  if f=true then do
   let y <-il b c.2.2.2.1
   if (c.2.2.2.1+1==b.size)=true then pure (ForInStep.done (some (c.2.1.push y++a.extract c.2.2.1 a.size++b.extract (c.2.2.2.1+1) b.size),c.2.1.push y,c.2.2.1,c.2.2.2.1+1,0,c.2.2.2.2.2+1))
   else if c.2.2.2.2.2+1>=e then pure (ForInStep.done (none,c.2.1.push y,c.2.2.1,c.2.2.2.1+1,0,c.2.2.2.2.2+1))
   else pure (ForInStep.yield (none,c.2.1.push y,c.2.2.1,c.2.2.2.1+1,0,c.2.2.2.2.2+1))
  else do
   let x <-il a c.2.2.1
   if (c.2.2.1+1+1==a.size)=true then pure (ForInStep.done (some (c.2.1.push x++b.extract c.2.2.2.1 b.size++a.extract (c.2.2.1+1) a.size),c.2.1.push x,c.2.2.1+1,c.2.2.2.1,c.2.2.2.2.1+1,0))
   else if c.2.2.2.2.1+1>=e then pure (ForInStep.done (none,c.2.1.push x,c.2.2.1+1,c.2.2.2.1,c.2.2.2.2.1+1,0))
   else pure^ForInStep.yield (none,c.2.1.push x,c.2.2.1+1,c.2.2.2.1,c.2.2.2.2.1+1,0)
 |_=>pure^ForInStep.done (some (c.2.1++a.extract c.2.2.1 a.size++b.extract c.2.2.2.1 b.size),c.2.1,c.2.2.1,c.2.2.2.1,c.2.2.2.2.1,c.2.2.2.2.2)
def uU(a b:Array Keyed)(f:Option^Array Keyed×Array Keyed×Nat×Nat×Nat):StateT ge l_^ForInStep (Option^Array Keyed×Array Keyed×Nat×Nat×Nat):=do
 let e <-forIn [0:a.size+b.size] (none,f.2.1,f.2.2.1,f.2.2.2.1,0,0) λ_ c=>EY a b f.2.2.2.2 c
 match e.1 with
 |some r=>pure^ForInStep.done (some r,e.2.1,e.2.2.1,e.2.2.2.1,f.2.2.2.2)
 |none=>do
  liftM^rule "list.sort.gallop"
  let d <-forIn [0:a.size+b.size] (none,e.2.1,e.2.2.1,e.2.2.2.1,f.2.2.2.2+1,e.2.2.2.2.1,e.2.2.2.2.2) λ_ c=>EZ a b c
  match d.1 with
  |some r=>pure^ForInStep.done (some r,d.2.1,d.2.2.1,d.2.2.2.1,d.2.2.2.2.1)
  |none=>do
   setMinGallop' (d.2.2.2.2.1+1)
   pure^ForInStep.yield (none,d.2.1,d.2.2.1,d.2.2.2.1,d.2.2.2.2.1+1)
def dY{b d:Type}{m c:StateT SortSt Sem b}{f a:b->StateT SortSt Sem d}(h:m=c)(g:∀x,f x=a x):m>>=f=c>>=a:=by rw[h,show f=a from funext g]
def Er{a:Type}{n:Nat}{d:a}{f b:Nat->a->StateT ge l_^ForInStep a}(h:∀i c,f i c=b i c):forIn [0:n] d f=forIn [0:n] d b:=by rw[show f=b from funext λi=>funext (h i)]
def fT [Decidable c] (h:c->x=a) (g:¬c->y=b):(if c then x else y)=if c then a else b:=by
 by_cases e:c
 .rw[ir e,ir e];exact h e
 .rw[tz e,tz e];exact g e
def Co(a b:Array Keyed):qX a b=(do
 rule "list.sort.merge-lo"
 let total:=a.size+b.size
 let done (out:Array Keyed) (c d:Nat):=out++a.extract c a.size++b.extract d b.size
 let e (out:Array Keyed) (c d:Nat):=out++b.extract d b.size++a.extract c a.size
 let mut out:Array Keyed:= [<-elem' b 0].toArray
 let mut c:=0
 let mut d:=1
 if d==b.size then return done out c d
 if c+1==a.size then return e out c d
 let mut minGallop:=gallopOf (<-get)
 for _ in [0:total] do
  let mut acount:=0
  let mut bcount:=0
  for _ in [0:total] do
   let some IF <-lt' (<-elem' b d) (<-elem' a c) |return done out c d
   if IF then
    out:=out.push (<-elem' b d);d:=d+1;bcount:=bcount+1;acount:=0
    if d==b.size then return done out c d
    if bcount>=minGallop then break
   else
    out:=out.push (<-elem' a c);c:=c+1;acount:=acount+1;bcount:=0
    if c+1==a.size then return e out c d
    if acount>=minGallop then break
  rule "list.sort.gallop"
  minGallop:=minGallop+1
  for _ in [0:total] do
   if minGallop>1 then minGallop:=minGallop-1
   setMinGallop' minGallop
   let some k <-fJ false (<-elem' b d) a c (a.size-c) 0|return done out c d
   acount:=k
   if k>0 then
    out:=out++a.extract c (c+k);c:=c+k
    if c+1==a.size then return e out c d
    if c==a.size then return done out c d
   out:=out.push (<-elem' b d);d:=d+1
   if d==b.size then return done out c d
   let some k <-fJ true (<-elem' a c) b d (b.size-d) 0|return done out c d
   bcount:=k
   if k>0 then
    out:=out++b.extract d (d+k);d:=d+k
    if d==b.size then return done out c d
   out:=out.push (<-elem' a c);c:=c+1
   if c+1==a.size then return e out c d
   if acount<7&&bcount<7 then break
  minGallop:=minGallop+1
  setMinGallop' minGallop
 unsupported "internal:list.sort.merge-bound"):=rfl
theorem E4(a b:Array Keyed):qX a b=(do
 liftM^rule "list.sort.merge-lo"
 let y <-il b 0
 if (1==b.size)=true then pure ([y].toArray++a.extract 0 a.size++b.extract 1 b.size)
 else if (0+1==a.size)=true then pure ([y].toArray++b.extract 1 b.size++a.extract 0 a.size)
 else do
  let d <-get
  let e <-forIn [0:a.size+b.size] (none, [y].toArray,0,1,gallopOf d) λ_ c=>uU a b c
  match e.1 with
  |some r=>pure r
  |none=>liftM^ka (α:=Array Keyed) "internal:list.sort.merge-bound"):=by
 rw[Co];dsimp only;refine dY rfl λ_=>dY rfl λy=>?_;refine KM (ite _ _)^KM (ite _ _) ?_;refine dY rfl λg=>dY (Er λ_ c=>?_) λu=>?_
 .unfold uU
  refine dY (Er λ_ t=>?_) λt=>?_
  .unfold EY
   refine dY rfl λ_=>dY rfl λ_=>dY rfl λz=>?_;cases z<;>rfl
  .obtain⟨i,l⟩:=t
   cases i with
   |some r=>rfl
   |none=>
    dsimp only;refine dY rfl λ_=>dY (Er λ_ u=>?_) λu=>?_
    .unfold EZ
     have m:∀h,tJ a b u.2.2.2.2.2.2 u.2.2.2.2.2.1 u.2.2.1 u.2.2.2.1 u.2.1 h=tJ a b u.2.2.2.2.2.2 u.2.2.2.2.2.1 u.2.2.1 u.2.2.2.1 u.2.1 h:=λ_=>rfl;refine fT (λ_=>?_)^λ_=>?_
     all_goals
      unfold tJ;refine dY rfl λ_=>dY rfl λ_=>dY rfl λz=>?_;cases z with
      |none=>rfl
      |some k=>
       dsimp only;refine fT (λ_=>?_)^λ_=>?_
       .refine fT (λ_=>rfl)^λ_=>fT (λ_=>rfl)^λ_=>?_
        unfold xq;refine dY rfl λ_=>fT (λ_=>rfl)^λ_=>dY rfl λ_=>dY rfl λz=>?_;cases z with
        |none=>rfl
        |some k=>rfl
       .unfold xq
        refine dY rfl λ_=>fT (λ_=>rfl)^λ_=>dY rfl λ_=>dY rfl λz=>?_;cases z with
        |none=>rfl
        |some k=>rfl
    .obtain⟨f,j⟩:=u
     cases f<;>rfl
 .obtain⟨f,j⟩:=u
  cases f<;>rfl
structure GS (st av:SortSt):Prop where
 arr:arrOf av=arrOf st
 kind:kindOf av=kindOf st
 failed:failedOf av=failedOf st
 pend:pendingOf av=pendingOf st
def GS.refl(st:SortSt):GS st st:=#[rfl,rfl,rfl,rfl]
theorem GS.trans(x:GS a b)(y:GS b c):GS a c:=#[y.arr.trans x.arr,y.kind.trans x.kind,y.failed.trans x.failed,y.pend.trans x.pend]
def vN(g:Nat):setMinGallop' g=modify λs=>SortSt.mk' (kindOf s) (ey s) (ff s) g^iZ s:=rfl
def ext_toList(a:Array Keyed)(i j:Nat):(a.extract i j).toList=(a.toList.drop i).take (j-i):=by
 rw[Array.toList_extract]
def mF(a:Array Keyed)(i:Nat):(a.extract i a.size).toList=a.toList.drop i:=by
 rw[ext_toList,sI^by simp]
def drop_cons{xs:Array Keyed}(h:xs[i]?\x):xs.toList.drop i=x::xs.toList.drop (i+1):=by
 have a:xs.toList[i]?\x:=by rw[<-h];simp
 obtain⟨b,e⟩:=cR.mp a;rw[wa b,e]
def pM(l:List Keyed)(i k:Nat):l.drop i=(l.drop i).take k++l.drop (i+k):=by
 rw[<-List.drop_drop,k7]
def fB{l:List Keyed}{i k:Nat}{x:Keyed}(h:x∈(l.drop i).take k):∃j,j<k/\i+j<l.length/\l[i+j]?\x:=by
 obtain⟨j,a⟩:=i6 h;rw[List.getElem?_take] at a
 split at a
 .rename_i c
  rw[D3] at a;exact#[j,c,(cR.mp a).1,a]
 .cases a
def hJ{l:List Keyed}{i:Nat}{x:Keyed}(h:x∈l.drop i):∃j,i+j<l.length/\l[i+j]?\x:=by
 obtain⟨j,a⟩:=i6 h;rw[D3] at a;exact#[j,(cR.mp a).1,a]
section
variable {O:KeyOrd} {key:Keyed->O.α} {S:Keyed->Prop} {k0:SortKind} {M:Model} {A:Around} {E:Value->Shared->Prop} {s:Shared} {st bV:SortSt}
def rB(h:∀a,GS st a->Q ⟨⟩ a):on M A E s (setMinGallop' g) Q st:=by
 rw[vN];exact adE^h _ #[rfl,rfl,rfl,rfl]
structure kK (O:KeyOrd) (key:Keyed->O.α) (S:Keyed->Prop) (a b:Array Keyed):Prop where
 ma:∀x∈a.toList,S x
 mb:∀x∈b.toList,S x
 sa:a.toList.Pairwise (LE O key)
 sb:b.toList.Pairwise (LE O key)
 na:1<=a.size
 nb:1<=b.size
 first:∀y,b[0]?\y->∀x∈a.toList,LE O key y x
 last:∀x,a[a.size-1]?\x->∀y∈b.toList,LE O key y x
def kK.EN(T:kK O key S a b)(h:c+1=a.size):∀y∈b.toList.drop d,∀x∈a.toList.drop c,LE O key y x:=λy f x g=>by
 let⟨j,i,e⟩:=hJ g;rw[c9] at i
 have:c+j=a.size-1:=()
 rw[this] at e;exact T.last x (by rw[<-e];simp) y^List.mem_of_mem_drop f
def gG{l:List Keyed}(h:l.Pairwise^LE O key){i j:Nat}{x y:Keyed}(k:i<=j)(b:l[i]?\x)(a:l[j]?\y):LE O key x y:=by
 by_cases e:i=j
 .subst e
  rw[b] at a;cases a;exact acQ _
 .obtain⟨c,d⟩:=cR.mp b
  let⟨f,g⟩:=cR.mp a;rw[<-d,<-g];exact BJ.mp h i j c f ()
def rA{xs:Array Keyed}(m:∀x∈xs.toList,S x){i n:Nat}(h:i+n<=xs.size):Seg S xs i n (λj=>xs[i+j]?.getD (.none, .none)):=
 #[λj a=>by
  have:i+j<xs.size:=()
  rw[ado xs (i+j) this];rfl,λj a=>by
  have:i+j<xs.size:=()
  rw[ado xs (i+j) this];exact m _^by simp]
def bJ{xs:Array Keyed}{i:Nat}(h:i<xs.size):∃x,xs[i]?\x/\x∈xs.toList/\xs.toList[i]?\x:=by
 refine#[xs[i],ado xs i h,by simp,?_]
 rw[gm];exact ado xs i h
def mN{a:Array Keyed}{i:Nat}{x:Keyed}(h:a[i]?\x):a.toList[i]?\x:=by rw[gm];exact h
def lE{a:Array Keyed}{i:Nat}{x:Keyed}(h:a.toList[i]?\x):a[i]?\x:=by rw[<-gm];exact h
structure IV (O:KeyOrd) (key:Keyed->O.α) (a b out:Array Keyed) (ia ib:Nat):Prop where
 mi:MI O key (a.toList++b.toList) out.toList (a.toList.drop ia) (b.toList.drop ib)
 ha:ia<a.size
 hb:ib<b.size
def IV.xH{a b out:Array Keyed}(v:MI O key (a.toList++b.toList) out.toList (a.toList.drop c)^b.toList.drop d)(e:b[d]?\y)(h:∀x∈a.toList.drop c,LE O key y x):
  MI O key (a.toList++b.toList) (out.push y).toList (a.toList.drop c)^b.toList.drop (d+1):=by
 rw[drop_cons e] at v;rw[BP];exact MI.nV (xs:= [y]) v λx f=>by rw[eZ.mp f];exact h
def IV.xG{a b out:Array Keyed}(v:MI O key (a.toList++b.toList) out.toList (a.toList.drop c)^b.toList.drop d)(e:a[c]?\x)(h:∀y∈b.toList.drop d,LE O key x y):
  MI O key (a.toList++b.toList) (out.push x).toList (a.toList.drop (c+1))^b.toList.drop d:=by
 rw[drop_cons e] at v;rw[BP];exact MI.nU (xs:= [x]) v λx e=>by rw[eZ.mp e];exact h
theorem IV.nV{a b out:Array Keyed}(v:MI O key (a.toList++b.toList) out.toList (a.toList.drop d)^b.toList.drop c)(h:∀y∈(b.toList.drop c).take k,∀x∈a.toList.drop d,LE O key y x):
  MI O key (a.toList++b.toList) (out++b.extract c (c+k)).toList (a.toList.drop d)^b.toList.drop (c+k):=by
 rw[pM b.toList c k] at v;rw[j9,ext_toList,show c+k-c=k by lia]
 exact MI.nV v h
theorem IV.nU{a b out:Array Keyed}(v:MI O key (a.toList++b.toList) out.toList (a.toList.drop c)^b.toList.drop d)(h:∀x∈(a.toList.drop c).take k,∀y∈b.toList.drop d,LE O key x y):
  MI O key (a.toList++b.toList) (out++a.extract c (c+k)).toList (a.toList.drop (c+k))^b.toList.drop d:=by
 rw[pM a.toList c k] at v;rw[j9,ext_toList,show c+k-c=k by lia]
 exact MI.nU v h
def IV.wI{a b out:Array Keyed}(v:MI O key (a.toList++b.toList) out.toList (a.toList.drop d)^b.toList.drop c)(h:c=b.size):Res O key (a.toList++b.toList) (out++a.extract d a.size++b.extract c b.size).toList:=by
 have e:b.toList.drop c= []:=BL^by rw[c9];lia
 rw[j9,j9,mF,mF,e,e8];rw[e] at v;exact v.GF
def IV.wH{a b out:Array Keyed}(v:MI O key (a.toList++b.toList) out.toList (a.toList.drop c)^b.toList.drop d)(h:c=a.size):Res O key (a.toList++b.toList) (out++a.extract c a.size++b.extract d b.size).toList:=by
 have e:a.toList.drop c= []:=BL^by rw[c9];lia
 rw[j9,j9,mF,mF,e,e8];rw[e] at v;exact v.swap.GF
def IV.last(T:kK O key S a b)(v:MI O key (a.toList++b.toList) out.toList (a.toList.drop c)^b.toList.drop d)(h:c+1=a.size):Res O key (a.toList++b.toList) (out++b.extract d b.size++a.extract c a.size).toList:=by
 rw[j9,j9,mF,mF];exact v.EN^T.EN h
end
section
variable {O:KeyOrd} {key:Keyed->O.α} {S:Keyed->Prop} {k0:SortKind} {M:Model} {A:Around} {E:Value->Shared->Prop} {s:Shared} {st bV:SortSt} {a b:Array Keyed}
def Inv(O:KeyOrd)(key:Keyed->O.α)(a b:Array Keyed)(n:Nat)(out:Array Keyed)(c d:Nat):Prop:=MI O key (a.toList++b.toList) out.toList (a.toList.drop c)^b.toList.drop d/\c+1<a.size/\d<b.size/\n<=c+d
def Fin{d:Type}(O:KeyOrd)(key:Keyed->O.α)(a b:Array Keyed)(n:Nat)(c:Option^Array Keyed×Array Keyed×Nat×Nat×d):Prop:=
 (∃r,c.1\r/\Res O key (a.toList++b.toList) r.toList)\/(c.1=none/\Inv O key a b n c.2.1 c.2.2.1 c.2.2.2.1)
def Out{d:Type}(O:KeyOrd)(key:Keyed->O.α)(a b:Array Keyed)(n:Nat)(r:ForInStep (Option^Array Keyed×Array Keyed×Nat×Nat×d)):Prop:=match r with
 | .done c=>Fin O key a b n c
 | .yield c=>c.1=none/\Inv O key a b n c.2.1 c.2.2.1 c.2.2.2.1
def aai{d:Type}(O:KeyOrd)(key:Keyed->O.α)(a b:Array Keyed)(n:Nat)(r:ForInStep (Option^Array Keyed×Array Keyed×Nat×Nat×d)):Prop:=match r with
 | .done c=>∃r,c.1\r/\Res O key (a.toList++b.toList) r.toList
 | .yield c=>c.1=none/\Inv O key a b n c.2.1 c.2.2.1 c.2.2.2.1
def BB(T:kK O key S a b)(g:GS bV st)(v:MI O key (a.toList++b.toList) out.toList (a.toList.drop c)^b.toList.drop d)(w:c+1<a.size)(p:d<b.size)(z:n<=c+d)
  (q:∀x,a[c]?\x->∀y∈b.toList.drop d,LE O key x y):on M A E s (EX a b o h j c out d) (λr t=>GS bV t/\Out O key a b n r) st:=by
 unfold EX;rfl';let⟨x,e,C,u⟩:=bJ (xs:=a) (i:=c) ()
 ac_rfl;refine Fk^bB e ?_;have k:=IV.xG v e^q x e;dsimp only
 by_cases f:c+1+1=a.size
 .rw[ir^~~~f]
  exact FB #[g, .inl #[_,rfl,IV.last T k f]]
 .rw[tz^~~~f]
  have l:Inv O key a b n (out.push x) (c+1) d:=#[k,(),p,()]
  by_cases m:(decide (h<7)&&decide (j<7))=true
  .rw[ir m]
   exact FB #[g, .inr #[rfl,l]]
  .rw[tz m]
   exact FB #[g,rfl,l]
def BA(C:iy O key S f M A E s)(R:kindOf st=f)(T:kK O key S a b)(g:GS bV st)(v:MI O key (a.toList++b.toList) out.toList (a.toList.drop d)^b.toList.drop c)(H:d+1<a.size)(hb:c<b.size)(hn:n<=d+c)
  (hy:∀y,b[c]?\y->∀x∈a.toList.drop d,LE O key y x):on M A E s (xq a b X Y Z c out d) (λr av=>GS bV av/\Out O key a b n r) st:=by
 unfold xq;refine ae λG0 f=>?_;let⟨y,o,my,D⟩:=bJ (xs:=b) (i:=c) hb;refine f ?_;refine Fk^bB o ?_;have q:=IV.xH v o^hy y o;dsimp only
 by_cases t:c+1=b.size
 .rw[ir^~~~t]
  exact FB #[g, .inl #[_,rfl,IV.wI q t]]
 .rw[tz^~~~t]
  refine ae λG0 f=>?_;let⟨x,I,mx,lx⟩:=bJ (xs:=a) (i:=d) ()
  refine f ?_;refine Fk^bB I ?_
  have w:∀z∈a.toList.drop d,LE O key x z:=λz k=>by
   let⟨j,D,l⟩:=hJ k;exact gG T.sa () lx l
  have J:∀j z,c+1+j<b.size->b.toList[c+1+j]?\z->b[c+1+j]?.getD (Value.none,Value.none)=z:=λj z B e=>by rw[lE e];rfl
  refine Fk (iw C (rA T.mb (i:=c+1) (n:=b.size-(c+1)) ()) (T.ma x mx) R () (λi j fh B h=>?_) λp hp pt pf=>?_)
  .obtain⟨yi,e1,_,l1⟩:=bJ (xs:=b) (i:=c+1+i) ()
   let⟨yj,e2,D,l2⟩:=bJ (xs:=b) (i:=c+1+j) ()
   unfold fg at h ⊢;rw[ir rfl] at h ⊢;rw[e2] at h;rw[e1];exact adB (gG T.sb () l1 l2) h
  .have lo:∀y∈(b.toList.drop (c+1)).take p,∀x∈a.toList.drop d,LE O key y x:=λz k u hu=>by
    let⟨j,B,m,l⟩:=fB k;rw[c9] at m
    have:=pt j B
    unfold fg at this;rw[ir rfl,J j z m l] at this;exact On (SC this)^w u hu
   have L:∀F,a[d]?\F->∀y∈b.toList.drop (c+1+p),LE O key F y:=λF N z k=>by
    rw[I] at N;cases N;let⟨j,m,l⟩:=hJ k;rw[c9] at m
    have:=pf (p+j) () ()
    unfold fg at this;rw[ir rfl,J (p+j) z ()^by rw[<-l];congr 1;lia] at this
    exact this
   dsimp only
   by_cases P:p>0
   .rw[ir P]
    have Q:=IV.nV q lo
    by_cases G:c+1+p=b.size
    .rw[ir^~~~G]
     exact FB #[g, .inl #[_,rfl,IV.wI Q G]]
    .rw[tz^~~~G]
     exact BB T g Q H () () L
   .rw[tz P]
    have:p=0:=()
    subst this;exact BB T g q H () () L
def Bz(C:iy O key S l M A E s)(Y:kindOf st=l)(T:kK O key S a b)(g:GS bV st)(iv:Inv O key a b n out c d):on M A E s (tJ a b bc ac c d out Z) (λr av=>GS bV av/\Out O key a b n r) st:=by
 let⟨v,ha,q,hn⟩:=iv;unfold tJ;refine Fk (rB λFy L=>?_);have t:kindOf Fy=l:=L.kind.trans Y;have m:=g.trans L;refine ae λG0 l=>?_;let⟨y,N,my,ly⟩:=bJ (xs:=b) (i:=d) q;refine l ?_;refine Fk^bB N ?_
 have w:∀z∈b.toList.drop d,LE O key y z:=λz f=>by
  let⟨j,D,k⟩:=hJ f;exact gG T.sb () ly k
 have P:∀j z,c+j<a.size->a.toList[c+j]?\z->a[c+j]?.getD (Value.none,Value.none)=z:=λj z B e=>by rw[lE e];rfl
 refine Fk (iw C (rA T.ma (i:=c) (n:=a.size-c) ()) (T.mb y my) t () (λi j fh B h=>?_) λp hp pt pf=>?_)
 .obtain⟨xi,e1,_,l1⟩:=bJ (xs:=a) (i:=c+i) ()
  let⟨xj,e2,D,l2⟩:=bJ (xs:=a) (i:=c+j) ()
  unfold fg at h ⊢;rw[tz ∅] at h ⊢
  rw[e2] at h;rw[e1];have F:O.kle (key xj)^key y:=by unfold KeyOrd.kle;simpa using h
  have:=On (gG T.sa () l1 l2) F
  unfold KeyOrd.kle at this;simpa using this
 .have lo:∀x∈(a.toList.drop c).take p,∀y∈b.toList.drop d,LE O key x y:=λz f u hu=>by
   let⟨j,B,o,k⟩:=fB f;rw[c9] at o
   have:=pt j B
   unfold fg at this;rw[tz ∅,P j z o k] at this
   have F:O.kle (key z)^key y:=by unfold KeyOrd.kle;simpa using this
   exact On F^w u hu
  have Q:∀G,b[d]?\G->∀x∈a.toList.drop (c+p),LE O key G x:=λG R z f=>by
   rw[N] at R;cases R;let⟨j,o,k⟩:=hJ f;rw[c9] at o
   have:=pf (p+j) () ()
   unfold fg at this;rw[tz ∅,P (p+j) z ()^by rw[<-k];congr 1;lia] at this
   exact SC (show O.blt _ _=true by simpa using this)
  dsimp only
  by_cases X:p>0
  .rw[ir X]
   have H:=IV.nU v lo
   by_cases I:c+p+1=a.size
   .rw[ir^~~~I]
    exact FB #[m, .inl #[_,rfl,IV.last T H I]]
   .rw[tz^~~~I]
    by_cases J:c+p=a.size
    .rw[ir^~~~J]
     exact FB #[m, .inl #[_,rfl,IV.wH H J]]
    .rw[tz^~~~J]
     exact BA C t T m H () q () Q
  .rw[tz X]
   have:p=0:=()
   subst this;exact BA C t T m v ha q hn Q
def KZ(C:iy O key S k0 M A E s)(d:kindOf st=k0)(T:kK O key S a b)(g:GS bV st)(c:Option^Array Keyed×Array Keyed×Nat×Nat×Nat×Nat×Nat)(e:Inv O key a b n c.2.1 c.2.2.1 c.2.2.2.1):
  on M A E s (EZ a b c) (λr f=>GS bV f/\Out O key a b n r) st:=by
 unfold EZ
 by_cases h:c.2.2.2.2.1>1
 .rw[ir h];exact Bz C d T g e
 .rw[tz h];exact Bz C d T g e
theorem KY(C:iy O key S o M A E s)(F:kindOf st=o)(T:kK O key S a b)(g:GS bV st)(c:Option^Array Keyed×Array Keyed×Nat×Nat×Nat×Nat)(d:Inv O key a b n c.2.1 c.2.2.1 c.2.2.2.1):
  on M A E s (EY a b p c) (λr G=>GS bV G/\Out O key a b (n+1) r) st:=by
 let⟨X,out,l,m,H,I⟩:=c;let⟨v,J,B,L⟩:=d;dsimp only at v J B L;unfold EY;dsimp only;refine ae λY o=>?_;let⟨y,q,N,P⟩:=bJ (xs:=b) (i:=m) B;let⟨x,t,Q,R⟩:=bJ (xs:=a) (i:=l) ()
 refine o ?_;refine Fk^bB q^Fk^bB t^Fk^C _ _ _ _ (T.mb y N) (T.ma x Q) F ?_;cases e:O.blt (key y)^key x with
 |true=>
  dsimp only;rw[ir rfl];refine Fk^bB q ?_
  have h:=IV.xH v q λz u=>by
   let⟨j,D,w⟩:=hJ u;exact On (SC e)^gG T.sa () R w
  by_cases f:m+1=b.size
  .rw[ir^~~~f]
   exact FB #[g, .inl #[_,rfl,IV.wI h f]]
  .rw[tz^~~~f]
   have d:Inv O key a b (n+1) (out.push y) l (m+1):=#[h,(),(),()]
   by_cases k:I+1>=p
   .rw[ir k];exact FB #[g, .inr #[rfl,d]]
   .rw[tz k];exact FB #[g,rfl,d]
 |false=>
  dsimp only;rw[tz ∅]
  refine Fk^bB t ?_
  have h:=IV.xG v t λz u=>by
   let⟨j,D,w⟩:=hJ u;exact On e^gG T.sb () P w
  by_cases f:l+1+1=a.size
  .rw[ir^~~~f]
   exact FB #[g, .inl #[_,rfl,IV.last T h f]]
  .rw[tz^~~~f]
   have d:Inv O key a b (n+1) (out.push x) (l+1) m:=#[h,(),(),()]
   by_cases k:H+1>=p
   .rw[ir k];exact FB #[g, .inr #[rfl,d]]
   .rw[tz k];exact FB #[g,rfl,d]
def Inv.le(h:Inv O key a b n out c d)(e:m<=n):Inv O key a b m out c d:=#[h.1,h.2.1,h.2.2.1,iT e h.2.2.2]
theorem FI(C:iy O key S l M A E s)(J:kindOf st=l)(T:kK O key S a b)(g:GS bV st)(t:kindOf bV=l)(c:Option^Array Keyed×Array Keyed×Nat×Nat×Nat)(u:Inv O key a b n c.2.1 c.2.2.1 c.2.2.2.1):
  on M A E s (uU a b c) (λr h=>GS bV h/\aai O key a b (n+1) r) st:=by
 have v:0<a.size+b.size:=by have:=T.na;lia
 unfold uU;refine Fk (SL (SZ (I:=λ(x:Nat)(f:Option^Array Keyed×Array Keyed×Nat×Nat×Nat×Nat)(h:ge)=>GS bV h/\f.1=none/\Inv O key a b (n+min x 1) f.2.1 f.2.2.1 f.2.2.2.1) (Q:=λf h=>GS bV h/\Fin O key a b (n+1) f) ?step ?fin #[g,rfl,u.le ()]) ?post)
 case fin=>
  rintro f h ⟨i,m,j⟩;exact#[i, .inr #[m,j.le ()]]
 case step=>
  rintro x f h _ _ ⟨i,m,j⟩;refine SL (KY C (i.kind.trans t) T i f j) λr w q=>?_;refine ae λy l=>?_;let⟨p,o⟩:=q;refine l ?_;cases r with
  |done d=>
   exists p
   rcases o with o| ⟨z,B⟩
   .exact .inl o
   .exact .inr #[z,B.le ()]
  |yield d=>exact#[p,o.1,o.2.le ()]
 case post=>
  rintro⟨L,N⟩ h ⟨i,o⟩
  rcases o with ⟨r,e,k⟩ | ⟨e,F⟩
  .dsimp only at e
   subst e;exact FB #[i,r,rfl,k]
  .dsimp only at e
   subst e;dsimp only;refine Fk^adV^ac8 #[rfl,?_];refine Fk (SL (SZ (I:=λ(x:Nat)(f:Option^Array Keyed×Array Keyed×Nat×Nat×Nat×Nat×Nat)(h:ge)=>GS bV h/\f.1=none/\Inv O key a b (n+1) f.2.1 f.2.2.1 f.2.2.2.1) (Q:=λf h=>GS bV h/\Fin O key a b (n+1) f) ?step2 ?fin2 #[i,rfl,F]) ?post2)
   case fin2=>
    rintro f h ⟨i,m,j⟩;exact#[i, .inr #[m,j]]
   case step2=>
    rintro x f h _ _ ⟨i,m,j⟩;refine SL (KZ C (i.kind.trans t) T i f j) λr w q=>?_;refine ae λy l=>?_;let⟨p,o⟩:=q;refine l ?_;cases r with
    |done d=>exact#[p,o]
    |yield d=>exact#[p,o]
   case post2=>
    rintro⟨P,R⟩ h ⟨i,o⟩
    rcases o with ⟨r,e,k⟩ | ⟨e,G⟩
    .dsimp only at e
     subst e;exact FB #[i,r,rfl,k]
    .dsimp only at e
     subst e;refine Fk (rB λX H=>FB #[i.trans H,rfl,G])
def FL(C:iy O key S h M A E s)(p:kindOf st=h)(T:kK O key S a b)(q:∀r c,GS st c->Res O key (a.toList++b.toList) r.toList->Q r c):on M A E s (qX a b) Q st:=by
 rw[E4];refine Fk^adV^ac8 #[rfl,?_];refine ae λu h=>?_;let⟨y,m,B,F⟩:=bJ (xs:=b) (i:=0) T.nb;refine h ?_;refine Fk^bB m ?_;have v:MI O key (a.toList++b.toList) (#[]:Array Keyed).toList (a.toList.drop 0)^b.toList.drop 0:=#[by simp,by simp,by simpa using T.sa,by simpa using T.sb,by simp]
 have l:=IV.xH v m^T.first y m;have w:(#[]:Array Keyed).push y= [y].toArray:=rfl;rw[w] at l
 by_cases j:1=b.size
 .rw[ir^~~~j]
  exact FB^q _ _ (GS.refl _)^IV.wI l j
 .rw[tz^~~~j]
  by_cases f:0+1=a.size
  .rw[ir^~~~f]
   exact FB^q _ _ (GS.refl _)^IV.last T l f
  .rw[tz^~~~f]
   refine Fk^adv ?_;have G:=T.na;have H:=T.nb;refine Fk (SL (SZ (I:=λ(x:Nat)(g:Option^Array Keyed×Array Keyed×Nat×Nat×Nat)(c:ge)=>GS st c/\g.1=none/\Inv O key a b (x+1) g.2.1 g.2.2.1 g.2.2.2.1) (Q:=λg c=>GS st c/\∃r,g.1\r/\Res O key (a.toList++b.toList) r.toList) ?step ?fin #[GS.refl _,rfl,l,by show 0+1<a.size;lia,by show 1<b.size;lia,by show 0+1<=0+1;lia]) ?post)
   case fin=>
    rintro g c ⟨k,j,f⟩
    have:=f.2.2.2
    have:=f.2.1
    have:=f.2.2.1
    lia
   case step=>
    rintro x g c _ _ ⟨k,j,f⟩;refine SL (FI C (k.kind.trans p) T k p g f) λr J z=>?_;refine ae λu h=>?_;let⟨t,o⟩:=z;refine h ?_;cases r with
    |done d=>exact#[t,o]
    |yield d=>exact#[t,o]
   case post=>
    rintro⟨L,N⟩ c ⟨k,r,e,n⟩;dsimp only at e;subst e;exact FB^q r c k n
end
def Cn(a b:Array Keyed):qW a b=(do
 rule "list.sort.merge-hi"
 let total:=a.size+b.size
 let done (out:Array Keyed) (na nb:Nat):=a.extract 0 na++b.extract 0 nb++out.reverse
 let c (out:Array Keyed) (na nb:Nat):=b.extract 0 nb++a.extract 0 na++out.reverse
 let mut na:=a.size-1
 let mut nb:=b.size
 let mut out:Array Keyed:= [<-elem' a na].toArray
 if na==0 then return done out na nb
 if nb==1 then return c out na nb
 let mut minGallop:=gallopOf (<-get)
 for _ in [0:total] do
  let mut acount:=0
  let mut bcount:=0
  for _ in [0:total] do
   let some ID <-lt' (<-elem' b (nb-1)) (<-elem' a (na-1)) |return done out na nb
   if ID then
    na:=na-1;out:=out.push (<-elem' a na);acount:=acount+1;bcount:=0
    if na==0 then return done out na nb
    if acount>=minGallop then break
   else
    nb:=nb-1;out:=out.push (<-elem' b nb);bcount:=bcount+1;acount:=0
    if nb==1 then return c out na nb
    if bcount>=minGallop then break
  rule "list.sort.gallop"
  minGallop:=minGallop+1
  for _ in [0:total] do
   if minGallop>1 then minGallop:=minGallop-1
   setMinGallop' minGallop
   let some at_ <-fJ false (<-elem' b (nb-1)) a 0 na (na-1) |return done out na nb
   let k:=na-at_
   acount:=k
   if k>0 then
    out:=out++(a.extract at_ na).reverse;na:=at_
    if na==0 then return done out na nb
   nb:=nb-1;out:=out.push (<-elem' b nb)
   if nb==1 then return c out na nb
   let some at_ <-fJ true (<-elem' a (na-1)) b 0 nb (nb-1) |return done out na nb
   let k:=nb-at_
   bcount:=k
   if k>0 then
    out:=out++(b.extract at_ nb).reverse;nb:=at_
    if nb==1 then return c out na nb
    if nb==0 then return done out na nb
   na:=na-1;out:=out.push (<-elem' a na)
   if na==0 then return done out na nb
   if acount<7&&bcount<7 then break
  minGallop:=minGallop+1
  setMinGallop' minGallop
 unsupported "internal:list.sort.merge-bound"):=rfl
abbrev S7:=Option^Array Keyed×Nat×Nat×Array Keyed×Nat×Nat×Nat
abbrev S6:=Option^Array Keyed×Nat×Nat×Array Keyed×Nat×Nat
abbrev S5:=Option^Array Keyed×Nat×Nat×Array Keyed×Nat
def jU(a b out:Array Keyed)(c d:Nat):Array Keyed:=a.extract 0 c++b.extract 0 d++out.reverse
def qU(a b out:Array Keyed)(c d:Nat):Array Keyed:=b.extract 0 d++a.extract 0 c++out.reverse
def Ez(a b:Array Keyed)(g d e c:Nat)(out:Array Keyed)(f:Nat):StateT ge l_^ForInStep S7:=do
 let x <-il a (c-1)
 if (c-1==0)=true then pure (ForInStep.done (some^jU a b (out.push x) (c-1) f,c-1,f,out.push x,g,d,e))
 else if (decide (d<7)&&decide (e<7))=true then pure (ForInStep.done (none,c-1,f,out.push x,g,d,e))
 else pure^ForInStep.yield (none,c-1,f,out.push x,g,d,e)
def wU(a b:Array Keyed)(e f h c:Nat)(out:Array Keyed)(d:Nat):StateT ge l_^ForInStep S7:=do
 let y <-il b (c-1)
 if (c-1==1)=true then pure (ForInStep.done (some^qU a b (out.push y) d (c-1),d,c-1,out.push y,e,f,h))
 else do
  let x <-il a (d-1)
  let g <-fJ true x b 0 (c-1) (c-1-1)
  match g with
  |some p=>
   if c-1-p>0 then
    if (p==1)=true then pure (ForInStep.done (some^qU a b (out.push y++(b.extract p (c-1)).reverse) d p,d,p,out.push y++(b.extract p (c-1)).reverse,e,f,c-1-p))
    else if (p==0)=true then pure (ForInStep.done (some^jU a b (out.push y++(b.extract p (c-1)).reverse) d p,d,p,out.push y++(b.extract p (c-1)).reverse,e,f,c-1-p))
    else Ez a b e f (c-1-p) d (out.push y++(b.extract p (c-1)).reverse) p
   else Ez a b e f (c-1-p) d (out.push y) (c-1)
  |_=>pure^ForInStep.done (some^jU a b (out.push y) d (c-1),d,c-1,out.push y,e,f,h)
def z6(a b:Array Keyed)(f h c d:Nat)(out:Array Keyed)(e:Nat):StateT ge l_^ForInStep S7:=do
 setMinGallop' e
 let y <-il b (d-1)
 let g <-fJ false y a 0 c (c-1)
 match g with
 |some p=>
  if c-p>0 then
   if (p==0)=true then pure (ForInStep.done (some^jU a b (out++(a.extract p c).reverse) p d,p,d,out++(a.extract p c).reverse,e,c-p,f))
   else wU a b e (c-p) f d (out++(a.extract p c).reverse) p
  else wU a b e (c-p) f d out c
 |_=>pure^ForInStep.done (some^jU a b out c d,c,d,out,e,h,f)
def EB(a b:Array Keyed)(c:S7):StateT ge l_^ForInStep S7:=
 if c.2.2.2.2.1>1 then z6 a b c.2.2.2.2.2.2 c.2.2.2.2.2.1 c.2.1 c.2.2.1 c.2.2.2.1 (c.2.2.2.2.1-1) else z6 a b c.2.2.2.2.2.2 c.2.2.2.2.2.1 c.2.1 c.2.2.1 c.2.2.2.1 c.2.2.2.2.1
def EA(a b:Array Keyed)(e:Nat)(c:S6):StateT ge l_^ForInStep S6:=do
 let y <-il b (c.2.2.1-1)
 let x <-il a (c.2.1-1)
 let d <-lt' y x
 match d with
 |some f=>
  if f=true then do
   let x <-il a (c.2.1-1)
   if (c.2.1-1==0)=true then pure (ForInStep.done (some^jU a b (c.2.2.2.1.push x) (c.2.1-1) c.2.2.1,c.2.1-1,c.2.2.1,c.2.2.2.1.push x,c.2.2.2.2.1+1,0))
   else if c.2.2.2.2.1+1>=e then pure (ForInStep.done (none,c.2.1-1,c.2.2.1,c.2.2.2.1.push x,c.2.2.2.2.1+1,0))
   else pure (ForInStep.yield (none,c.2.1-1,c.2.2.1,c.2.2.2.1.push x,c.2.2.2.2.1+1,0))
  else do
   let y <-il b (c.2.2.1-1)
   if (c.2.2.1-1==1)=true then pure (ForInStep.done (some^qU a b (c.2.2.2.1.push y) c.2.1 (c.2.2.1-1),c.2.1,c.2.2.1-1,c.2.2.2.1.push y,0,c.2.2.2.2.2+1))
   else if c.2.2.2.2.2+1>=e then pure (ForInStep.done (none,c.2.1,c.2.2.1-1,c.2.2.2.1.push y,0,c.2.2.2.2.2+1))
   else pure^ForInStep.yield (none,c.2.1,c.2.2.1-1,c.2.2.2.1.push y,0,c.2.2.2.2.2+1)
 |_=>pure^ForInStep.done (some^jU a b c.2.2.2.1 c.2.1 c.2.2.1,c.2.1,c.2.2.1,c.2.2.2.1,c.2.2.2.2.1,c.2.2.2.2.2)
def uM(a b:Array Keyed)(f:S5):StateT ge l_^ForInStep S5:=do
 let e <-forIn [0:a.size+b.size] ((none,f.2.1,f.2.2.1,f.2.2.2.1,0,0):S6) λ_ c=>EA a b f.2.2.2.2 c
 match e.1 with
 |some r=>pure^ForInStep.done (some r,e.2.1,e.2.2.1,e.2.2.2.1,f.2.2.2.2)
 |none=>do
  liftM^rule "list.sort.gallop"
  let d <-forIn [0:a.size+b.size] ((none,e.2.1,e.2.2.1,e.2.2.2.1,f.2.2.2.2+1,e.2.2.2.2.1,e.2.2.2.2.2):S7) λ_ c=>EB a b c
  match d.1 with
  |some r=>pure^ForInStep.done (some r,d.2.1,d.2.2.1,d.2.2.2.1,d.2.2.2.2.1)
  |none=>do
   setMinGallop' (d.2.2.2.2.1+1)
   pure^ForInStep.yield (none,d.2.1,d.2.2.1,d.2.2.2.1,d.2.2.2.2.1+1)
theorem E3(a b:Array Keyed):qW a b=(do
 liftM^rule "list.sort.merge-hi"
 let x <-il a (a.size-1)
 if (a.size-1==0)=true then pure (jU a b [x].toArray (a.size-1) b.size)
 else if (b.size==1)=true then pure (qU a b [x].toArray (a.size-1) b.size)
 else do
  let d <-get
  let e <-forIn [0:a.size+b.size] ((none,a.size-1,b.size, [x].toArray,gallopOf d):S5) λ_ c=>uM a b c
  match e.1 with
  |some r=>pure r
  |none=>liftM^ka (α:=Array Keyed) "internal:list.sort.merge-bound"):=by
 rw[Cn];dsimp only;refine dY rfl λ_=>dY rfl λy=>?_;refine KM (ite _ _)^KM (ite _ _) ?_;refine dY rfl λg=>dY (Er λ_ c=>?_) λu=>?_
 .unfold uM
  refine dY (Er λ_ t=>?_) λt=>?_
  .unfold EA
   refine dY rfl λ_=>dY rfl λ_=>dY rfl λz=>?_;cases z<;>rfl
  .obtain⟨h,j⟩:=t
   cases h with
   |some r=>rfl
   |none=>
    dsimp only;refine dY rfl λ_=>dY (Er λ_ u=>?_) λu=>?_
    .unfold EB
     refine fT (λ_=>?_)^λ_=>?_
     all_goals
      unfold z6;refine dY rfl λ_=>dY rfl λ_=>dY rfl λz=>?_;cases z with
      |none=>rfl
      |some k=>
       dsimp only;refine fT (λ_=>?_)^λ_=>?_
       .refine fT (λ_=>rfl)^λ_=>?_
        unfold wU;refine dY rfl λ_=>fT (λ_=>rfl)^λ_=>dY rfl λ_=>dY rfl λz=>?_;cases z with
        |none=>rfl
        |some k=>rfl
       .unfold wU
        refine dY rfl λ_=>fT (λ_=>rfl)^λ_=>dY rfl λ_=>dY rfl λz=>?_;cases z with
        |none=>rfl
        |some k=>rfl
    .obtain⟨f,i⟩:=u
     cases f<;>rfl
 .obtain⟨f,i⟩:=u
  cases f<;>rfl
def Wd(O:KeyOrd):KeyOrd:={α:=O.α,blt:=λa b=>O.blt b a,irrefl:=O.irrefl,trans:=λa b c d e=>O.trans _ _ _ e d,negTrans:=λa b c h=>(O.negTrans c b a h).symm,total:=λa b d e=>O.total a b e d}
section
variable {O:KeyOrd} {key:Keyed->O.α} {S:Keyed->Prop} {k0:SortKind} {M:Model} {A:Around} {E:Value->Shared->Prop} {s:Shared} {st bV:SortSt} {a b:Array Keyed}
abbrev MJ(O:KeyOrd)(key:Keyed->O.α)(a b out:Array Keyed)(c d:Nat):Prop:=MI (Wd O) key (a.toList++b.toList) out.toList (a.toList.take c).reverse (b.toList.take d).reverse
def xI(h:Res (Wd O) key l r.reverse):Res O key l r:=
 #[(aeL r).symm.trans h.1,by
   have:=ad4.mp h.2
   exact this.imp λh=>h]
def CT(c:Array Keyed)(n:Nat):(c.extract 0 n).toList=c.toList.take n:=by rw[ext_toList];simp
def DR{xs:Array Keyed}(f:1<=n)(h:xs[n-1]?\x):(xs.toList.take n).reverse=x::(xs.toList.take (n-1)).reverse:=by
 have c:=mN h;obtain⟨d,e⟩:=cR.mp c
 have:xs.toList.take n=xs.toList.take (n-1)++ [x]:=by
  have:=adW d
  rw[show n-1+1=n by lia,e] at this
  exact this
 rw[this,BN];rfl
def qA(l:List Keyed)(h:p<=n):l.take n=l.take p++(l.drop p).take (n-p):=by
 conv=>lhs;rw[<-k7 p^l.take n]
 rw[List.take_take,show min p n=p by lia,List.drop_take]
def hU{l:List Keyed}{x:Keyed}(h:x∈l.take n):∃j,j<n/\j<l.length/\l[j]?\x:=by
 have:=fB (l:=l) (i:=0) (k:=n) (x:=x)^~~~h
 let⟨j,c,d,e⟩:=this;exact#[j,c,by simpa using d,by simpa using e]
def MJ.xG(v:MJ O key a b out c d)(e:1<=c)(f:a[c-1]?\x)(h:∀y∈b.toList.take d,LE O key y x):MJ O key a b (out.push x) (c-1) d:=by
 unfold MJ at v ⊢;rw[DR e f] at v;rw[BP];exact MI.nU (xs:= [x]) v λz g y i=>by rw[eZ.mp g];exact h y^yG.mp i
def MJ.xH(v:MJ O key a b out d c)(e:1<=c)(f:b[c-1]?\y)(h:∀x∈a.toList.take d,LE O key x y):MJ O key a b (out.push y) d (c-1):=by
 unfold MJ at v ⊢;rw[DR e f] at v;rw[BP];exact MI.nV (xs:= [y]) v λz g x i=>by rw[eZ.mp g];exact h x^yG.mp i
theorem MJ.nU(v:MJ O key a b out c d)(e:p<=c)(h:∀x∈(a.toList.drop p).take (c-p),∀y∈b.toList.take d,LE O key y x):MJ O key a b (out++(a.extract p c).reverse) p d:=by
 unfold MJ at v ⊢;rw[qA a.toList e,BN] at v;rw[j9,BG,ext_toList];exact MI.nU v λx f y g=>h x (yG.mp f) y^yG.mp g
theorem MJ.nV(v:MJ O key a b out d c)(e:p<=c)(h:∀y∈(b.toList.drop p).take (c-p),∀x∈a.toList.take d,LE O key x y):MJ O key a b (out++(b.extract p c).reverse) d p:=by
 unfold MJ at v ⊢;rw[qA b.toList e,BN] at v;rw[j9,BG,ext_toList];exact MI.nV v λx f y g=>h x (yG.mp f) y^yG.mp g
def MJ.wH(v:MJ O key a b out 0 c):Res O key (a.toList++b.toList) (jU a b out 0 c).toList:=by
 refine xI ?_;unfold jU MJ at*;rw[j9,j9,CT,CT,BG,t6,sM,BN,aeh];rw[t6,List.reverse_nil] at v;exact v.swap.GF
def MJ.wI(v:MJ O key a b out c 0):Res O key (a.toList++b.toList) (jU a b out c 0).toList:=by
 refine xI ?_;unfold jU MJ at*;rw[j9,j9,CT,CT,BG,t6,e8,BN,aeh];rw[t6,List.reverse_nil] at v;exact v.GF
theorem MJ.first(T:kK O key S a b)(v:MJ O key a b out c 1):Res O key (a.toList++b.toList) (qU a b out c 1).toList:=by
 refine xI ?_;have h:=v.swap.EN λx d y f=>?_
 .unfold qU
  rw[j9,j9,CT,CT,BG,BN,aeh,BN,<-k8];exact h
 .obtain⟨j,g,_,e⟩:=hU^yG.mp f
  have:j=0:=()
  subst this;exact T.first y (lE e) x^F3^yG.mp d
def rH(O:KeyOrd)(key:Keyed->O.α)(a b:Array Keyed)(n:Nat)(c d:Nat)(out:Array Keyed):Prop:=MJ O key a b out c d/\1<=c/\c<=a.size/\2<=d/\d<=b.size/\n+c+d<=a.size+b.size
def W5{d:Type}(O:KeyOrd)(key:Keyed->O.α)(a b:Array Keyed)(n:Nat)(c:Option^Array Keyed×Nat×Nat×Array Keyed×d):Prop:=
 (∃r,c.1\r/\Res O key (a.toList++b.toList) r.toList)\/(c.1=none/\rH O key a b n c.2.1 c.2.2.1 c.2.2.2.1)
def ON{d:Type}(O:KeyOrd)(key:Keyed->O.α)(a b:Array Keyed)(n:Nat)(r:ForInStep (Option^Array Keyed×Nat×Nat×Array Keyed×d)):Prop:=match r with
 | .done c=>W5 O key a b n c
 | .yield c=>c.1=none/\rH O key a b n c.2.1 c.2.2.1 c.2.2.2.1
def aah{d:Type}(O:KeyOrd)(key:Keyed->O.α)(a b:Array Keyed)(n:Nat)(r:ForInStep (Option^Array Keyed×Nat×Nat×Array Keyed×d)):Prop:=match r with
 | .done c=>∃r,c.1\r/\Res O key (a.toList++b.toList) r.toList
 | .yield c=>c.1=none/\rH O key a b n c.2.1 c.2.2.1 c.2.2.2.1
def By(g:GS bV st)(v:MJ O key a b out c d)(p:1<=c)(f:c<=a.size)(q:2<=d)(t:d<=b.size)(B:n+c+d<=a.size+b.size)
  (u:∀x,a[c-1]?\x->∀y∈b.toList.take d,LE O key y x):on M A E s (Ez a b o k l c out d) (λr w=>GS bV w/\ON O key a b n r) st:=by
 unfold Ez;rfl';let⟨x,h,F,z⟩:=bJ (xs:=a) (i:=c-1) ()
 ac_rfl;refine Fk^bB h ?_;have j:=MJ.xG v p h^u x h
 by_cases e:c-1=0
 .rw[ir^~~~e]
  rw[e] at j ⊢;exact FB #[g, .inl #[_,rfl,j.wH]]
 .rw[tz^~~~e]
  have m:rH O key a b n (c-1) d^out.push x:=#[j,(),(),q,t,()]
  by_cases f:(decide (k<7)&&decide (l<7))=true
  .rw[ir f]
   exact FB #[g, .inr #[rfl,m]]
  .rw[tz f]
   exact FB #[g,rfl,m]
def Bx(C:iy O key S f M A E s)(Q:kindOf st=f)(T:kK O key S a b)(g:GS bV st)(v:MJ O key a b out d c)(H:1<=d)(I:d<=a.size)(h3:2<=c)(h4:c<=b.size)(hn:n+d+c<=a.size+b.size)
  (Z:∀y,b[c-1]?\y->∀x∈a.toList.take d,LE O key x y):on M A E s (wU a b R X Y c out d) (λr av=>GS bV av/\ON O key a b n r) st:=by
 unfold wU;refine ae λG0 f=>?_;let⟨y,w,my,D⟩:=bJ (xs:=b) (i:=c-1) ()
 refine f ?_;refine Fk^bB w ?_;have q:=MJ.xH v () w^Z y w
 by_cases e:c-1=1
 .rw[ir^~~~e]
  rw[e] at q ⊢;exact FB #[g, .inl #[_,rfl,MJ.first T q]]
 .rw[tz^~~~e]
  refine ae λG0 f=>?_;let⟨x,J,mx,lx⟩:=bJ (xs:=a) (i:=d-1) ()
  refine f ?_;refine Fk^bB J ?_
  have B:∀z∈a.toList.take d,LE O key z x:=λz k=>by
   let⟨j,t,D,l⟩:=hU k;exact gG T.sa () l lx
  have L:∀j z,b.toList[j]?\z->b[0+j]?.getD (Value.none,Value.none)=z:=λj z e=>by rw[ja,lE e];rfl
  refine Fk (iw C (rA T.mb (i:=0) (n:=c-1) ()) (T.ma x mx) Q () (λi j fh t h=>?_) λp hp pt pf=>?_)
  .obtain⟨yi,m,_,l1⟩:=bJ (xs:=b) (i:=0+i) ()
   let⟨yj,o,D,l2⟩:=bJ (xs:=b) (i:=0+j) ()
   unfold fg at h ⊢;rw[ir rfl] at h ⊢;rw[o] at h;rw[m];exact adB (gG T.sb () l1 l2) h
  .have hi:∀y∈(b.toList.drop p).take (c-1-p),∀x∈a.toList.take d,LE O key x y:=λz k u hu=>by
    let⟨j,t,hl,l⟩:=fB k
    have:=pf (p+j) () ()
    unfold fg at this;rw[ir rfl,L (p+j) z l] at this;exact On (B u hu) this
   have lo:∀F,a[d-1]?\F->∀y∈b.toList.take p,LE O key y F:=λF N z k=>by
    rw[J] at N;cases N;let⟨j,t,D,l⟩:=hU k
    have:=pt j t
    unfold fg at this;rw[ir rfl,L j z l] at this;exact SC this
   dsimp only
   by_cases P:c-1-p>0
   .rw[ir P]
    have G:=MJ.nV q hp hi
    by_cases m:p=1
    .rw[ir^~~~m]
     subst m;exact FB #[g, .inl #[_,rfl,MJ.first T G]]
    .rw[tz^~~~m]
     by_cases o:p=0
     .rw[ir^~~~o]
      subst o;exact FB #[g, .inl #[_,rfl,G.wI]]
     .rw[tz^~~~o]
      exact By g G H I () () () lo
   .rw[tz P]
    have:p=c-1:=()
    subst this;exact By g q H I () () () lo
def Bw(C:iy O key S k0 M A E s)(P:kindOf st=k0)(T:kK O key S a b)(g:GS bV st)(Y:rH O key a b n c d out):on M A E s (z6 a b X R c d out Q) (λr Z=>GS bV Z/\ON O key a b n r) st:=by
 let⟨v,h1,h2,B,F,hn⟩:=Y;unfold z6;refine Fk (rB λFy G=>?_);have o:kindOf Fy=k0:=G.kind.trans P;have q:=g.trans G;let⟨y,H,my,ly⟩:=bJ (xs:=b) (i:=d-1) ()
 refine Fk^bB H ?_
 have t:∀z∈b.toList.take d,LE O key z y:=λz f=>by
  let⟨j,m,D,k⟩:=hU f;exact gG T.sb () k ly
 have I:∀j z,a.toList[j]?\z->a[0+j]?.getD (Value.none,Value.none)=z:=λj z e=>by rw[ja,lE e];rfl
 refine Fk (iw C (rA T.ma (i:=0) (n:=c) ()) (T.mb y my) o () (λi j fh m h=>?_) λp hp pt pf=>?_)
 .obtain⟨xi,l,_,l1⟩:=bJ (xs:=a) (i:=0+i) ()
  let⟨xj,e2,D,l2⟩:=bJ (xs:=a) (i:=0+j) ()
  unfold fg at h ⊢;rw[tz ∅] at h ⊢
  rw[e2] at h;rw[l];have h':O.kle (key xj)^key y:=by unfold KeyOrd.kle;simpa using h
  have:=On (gG T.sa () l1 l2) h'
  unfold KeyOrd.kle at this;simpa using this
 .have hi:∀x∈(a.toList.drop p).take (c-p),∀y∈b.toList.take d,LE O key y x:=λz f u hu=>by
   let⟨j,m,hl,k⟩:=fB f
   have:=pf (p+j) () ()
   unfold fg at this;rw[tz ∅,I (p+j) z k] at this
   exact On (t u hu)^SC (show O.blt _ _=true by simpa using this)
  have lo:∀w,b[d-1]?\w->∀x∈a.toList.take p,LE O key x w:=λw J z f=>by
   rw[H] at J;cases J;let⟨j,m,D,k⟩:=hU f
   have:=pt j m
   unfold fg at this;rw[tz ∅,I j z k] at this
   show O.blt _ _=false;simpa using this
  dsimp only
  by_cases L:c-p>0
  .rw[ir L]
   have N:=MJ.nU v hp hi
   by_cases l:p=0
   .rw[ir^~~~l]
    subst l;exact FB #[q, .inl #[_,rfl,N.wH]]
   .rw[tz^~~~l]
    exact Bx C o T q N () () B F () lo
  .rw[tz L]
   have:p=c:=()
   subst this;exact Bx C o T q v h1 h2 B F hn lo
def KW(C:iy O key S k0 M A E s)(d:kindOf st=k0)(T:kK O key S a b)(g:GS bV st)(c:S7)(e:rH O key a b n c.2.1 c.2.2.1 c.2.2.2.1):
  wpS M A E s (EB a b c) (λr f=>GS bV f/\ON O key a b n r) st:=by
 unfold EB
 by_cases h:c.2.2.2.2.1>1
 .rw[ir h];exact Bw C d T g e
 .rw[tz h];exact Bw C d T g e
theorem KU(C:iy O key S o M A E s)(H:kindOf st=o)(T:kK O key S a b)(g:GS bV st)(c:S6)(d:rH O key a b n c.2.1 c.2.2.1 c.2.2.2.1):
  on M A E s (EA a b p c) (λr I=>GS bV I/\ON O key a b (n+1) r) st:=by
 let⟨Z,l,m,out,J,L⟩:=c;let⟨v,B,f,F,G,N⟩:=d;dsimp only at v B f F G N;unfold EA;dsimp only;refine ae λG0 o=>?_;let⟨y,q,P,Q⟩:=bJ (xs:=b) (i:=m-1) ()
 let⟨x,t,R,X⟩:=bJ (xs:=a) (i:=l-1) ()
 refine o ?_;refine Fk^bB q^Fk^bB t^Fk^C _ _ _ _ (T.mb y P) (T.ma x R) H ?_;cases e:O.blt (key y)^key x with
 |true=>
  dsimp only;rw[ir rfl];refine Fk^bB t ?_
  have h:=MJ.xG v B t λz u=>by
   let⟨j,Y,D,w⟩:=hU u;exact On (gG T.sb () w Q)^SC e
  by_cases k:l-1=0
  .rw[ir^~~~k]
   rw[k] at h ⊢;exact FB #[g, .inl #[_,rfl,h.wH]]
  .rw[tz^~~~k]
   have d:rH O key a b (n+1) (l-1) m^out.push x:=#[h,(),(),F,G,()]
   by_cases f:J+1>=p
   .rw[ir f];exact FB #[g, .inr #[rfl,d]]
   .rw[tz f];exact FB #[g,rfl,d]
 |false=>
  dsimp only;rw[tz ∅]
  refine Fk^bB q ?_
  have h:=MJ.xH v () q λz u=>by
   let⟨j,Y,D,w⟩:=hU u;exact On (gG T.sa () w X) e
  by_cases k:m-1=1
  .rw[ir^~~~k]
   rw[k] at h ⊢;exact FB #[g, .inl #[_,rfl,MJ.first T h]]
  .rw[tz^~~~k]
   have d:rH O key a b (n+1) l (m-1)^out.push y:=#[h,(),(),(),(),()]
   by_cases f:L+1>=p
   .rw[ir f];exact FB #[g, .inr #[rfl,d]]
   .rw[tz f];exact FB #[g,rfl,d]
def rH.le(h:rH O key a b n c d out)(e:m<=n):rH O key a b m c d out:=#[h.1,h.2.1,h.2.2.1,h.2.2.2.1,h.2.2.2.2.1,by have:=h.2.2.2.2.2;lia]
theorem FH(C:iy O key S l M A E s)(T:kK O key S a b)(g:GS bV st)(t:kindOf bV=l)(c:S5)(u:rH O key a b n c.2.1 c.2.2.1 c.2.2.2.1):
  on M A E s (uM a b c) (λr h=>GS bV h/\aah O key a b (n+1) r) st:=by
 have v:0<a.size+b.size:=by have:=T.na;lia
 unfold uM;refine Fk (SL (SZ (I:=λ(x:Nat)(f:S6)(h:ge)=>GS bV h/\f.1=none/\rH O key a b (n+min x 1) f.2.1 f.2.2.1 f.2.2.2.1) (Q:=λf h=>GS bV h/\W5 O key a b (n+1) f) ?step ?fin #[g,rfl,u.le ()]) ?post)
 case fin=>
  rintro f h ⟨i,m,j⟩;exact#[i, .inr #[m,j.le ()]]
 case step=>
  rintro x f h _ _ ⟨i,m,j⟩;refine SL (KU C (i.kind.trans t) T i f j) λr w q=>?_;refine ae λy l=>?_;let⟨p,o⟩:=q;refine l ?_;cases r with
  |done d=>
   exists p
   rcases o with o| ⟨z,B⟩
   .exact .inl o
   .exact .inr #[z,B.le ()]
  |yield d=>exact#[p,o.1,o.2.le ()]
 case post=>
  rintro⟨J,L⟩ h ⟨i,o⟩
  rcases o with ⟨r,e,k⟩ | ⟨e,F⟩
  .dsimp only at e
   subst e;exact FB #[i,r,rfl,k]
  .dsimp only at e
   subst e;dsimp only;refine Fk^adV^ac8 #[rfl,?_];refine Fk (SL (SZ (I:=λ(x:Nat)(f:S7)(h:ge)=>GS bV h/\f.1=none/\rH O key a b (n+1) f.2.1 f.2.2.1 f.2.2.2.1) (Q:=λf h=>GS bV h/\W5 O key a b (n+1) f) ?step2 ?fin2 #[i,rfl,F]) ?post2)
   case fin2=>
    rintro f h ⟨i,m,j⟩;exact#[i, .inr #[m,j]]
   case step2=>
    rintro x f h _ _ ⟨i,m,j⟩;refine SL (KW C (i.kind.trans t) T i f j) λr w q=>?_;refine ae λy l=>?_;let⟨p,o⟩:=q;refine l ?_;cases r with
    |done d=>exact#[p,o]
    |yield d=>exact#[p,o]
   case post2=>
    rintro⟨N,P⟩ h ⟨i,o⟩
    rcases o with ⟨r,e,k⟩ | ⟨e,G⟩
    .dsimp only at e
     subst e;exact FB #[i,r,rfl,k]
    .dsimp only at e
     subst e;refine Fk (rB λR H=>FB #[i.trans H,rfl,G])
def FK(C:iy O key S k M A E s)(u:kindOf st=k)(T:kK O key S a b)(q:∀r c,GS st c->Res O key (a.toList++b.toList) r.toList->Q r c):on M A E s (qW a b) Q st:=by
 rw[E3];refine Fk^adV^ac8 #[rfl,?_];refine ae λv k=>?_;have w:=T.na;have H:=T.nb;let⟨x,n,J,L⟩:=bJ (xs:=a) (i:=a.size-1) ()
 refine k ?_;refine Fk^bB n ?_
 have z:MJ O key a b #[] a.size b.size:=by
  refine#[?_,by simp,?_,?_,by simp]
  .rw[sI^by simp,sI^by simp]
   simpa using(aeL a.toList).append^aeL b.toList
  .rw[sI^by simp]
   exact ad4.mpr (T.sa.imp λh=>h)
  .rw[sI^by simp]
   exact ad4.mpr (T.sb.imp λh=>h)
 have j:=MJ.xG z w n λy B=>T.last x n y^F3 B;have F:(#[]:Array Keyed).push x= [x].toArray:=rfl;rw[F] at j
 by_cases l:a.size-1=0
 .rw[ir^~~~l]
  rw[l] at j ⊢;exact FB^q _ _ (GS.refl _) j.wH
 .rw[tz^~~~l]
  by_cases g:b.size=1
  .rw[ir^~~~g]
   rw[g] at j ⊢;exact FB^q _ _ (GS.refl _)^MJ.first T j
  .rw[tz^~~~g]
   refine Fk^adv ?_;refine Fk (SL (SZ (I:=λ(x:Nat)(f:S5)(c:ge)=>GS st c/\f.1=none/\rH O key a b (x+1) f.2.1 f.2.2.1 f.2.2.2.1) (Q:=λf c=>GS st c/\∃r,f.1\r/\Res O key (a.toList++b.toList) r.toList) ?step ?fin #[GS.refl _,rfl,j,by show 1<=a.size-1;lia,by show a.size-1<=a.size;lia,by show 2<=b.size;lia,bg _,by show 0+1+(a.size-1)+b.size<=a.size+b.size;lia]) ?post)
   case fin=>
    rintro f c ⟨m,l,g⟩
    have:=g.2.2.2.2.2
    have:=g.2.1
    lia
   case step=>
    rintro x f c _ _ ⟨m,l,g⟩;refine SL (FH C T m u f g) λr N G=>?_;refine ae λv k=>?_;let⟨t,o⟩:=G;refine k ?_;cases r with
    |done d=>exact#[t,o]
    |yield d=>exact#[t,o]
   case post=>
    rintro⟨P,R⟩ c ⟨m,r,e,p⟩;dsimp only at e;subst e;exact FB^q r c m p
end
def E2(i:Nat):mergeAt' i=(do
 let s <-get
 let (some (sa,na,power),some (sb,nb,_)):=((ff s)[i]?,(ff s)[i+1]?) |ka "internal:list.sort.pending"
 set^jm s^((ff s).setIfInBounds i (sa,na+nb,power)).eraseIdxIfInBounds (i+1)
 let some k <-fJ false (<-il (ey s) sb) (ey s) sa na 0|return false
 let (sa,na):=(sa+k,na-k)
 if na==0 then return true
 let some nb <-fJ true (<-il (ey s) (sa+na-1)) (ey s) sb nb (nb-1) |return false
 if nb==0 then return true
 let x:=(ey s).extract sa sb
 let y:=(ey s).extract sb (sb+nb)
 let merged <-if na<=nb then qX x y else qW x y
 modify λs=>oo s (merged.toList.zipIdx.foldl (λa (p,j)=>a.setIfInBounds (sa+j) p)^ey s)
 return (iZ (<-get)).isNone):=rfl
theorem sU:∀(m:List Keyed)(off b:Nat)(c:Array Keyed),b+off+m.length<=c.size->
  ((m.zipIdx off).foldl (λa (p:Keyed×Nat)=>a.setIfInBounds (b+p.2) p.1) c).size=c.size/\∀i,((m.zipIdx off).foldl (λa (p:Keyed×Nat)=>a.setIfInBounds (b+p.2) p.1) c)[i]? =if b+off<=i/\i<b+off+m.length then m[i-(b+off)]? else c[i]?
 | [],off,b,c,_=>#[rfl,λi=>by rw[tz^by simp];rfl]
 |x::m,off,b,c,h=>by
  rw[dU] at h;have e:=sU m (off+1) b (c.setIfInBounds (b+off) x)^by rw[adC];lia
  rw[List.zipIdx_cons,List.foldl_cons];refine#[by rw[e.1,adC],λi=>?_]
  rw[e.2 i]
  by_cases f:b+(off+1)<=i/\i<b+(off+1)+m.length
  .rw[ir f,ir^by rw[dU];lia,show i-(b+off)=(i-(b+(off+1)))+1 by lia,yC]
  .rw[tz f,aet]
   by_cases d:b+off=i
   .rw[ir d,ir (),ir^by rw[dU];lia,<-d,oV];rfl
   .rw[tz d,tz^by rw[dU];lia]
def putAt(c m:Array Keyed)(b:Nat):Array Keyed:=m.toList.zipIdx.foldl (λa (p:Keyed×Nat)=>a.setIfInBounds (b+p.2) p.1) c
def AZ(h:b+m.size<=a.size)(i:Nat):(putAt a m b)[i]? =if b<=i/\i<b+m.size then m[i-b]? else a[i]? :=by
 have:=(sU m.toList 0 b a^~~~h).2 i
 unfold putAt;rw[this];simp
def HG(h:b+m.size<=a.size):(putAt a m b).size=a.size:=(sU m.toList 0 b a^~~~h).1
def HF(h:b+m.size<=a.size)(p:m.toList.Perm^(a.toList.drop b).take m.size):(putAt a m b).Perm a:=by
 rw[FU]
 have e:(putAt a m b).toList=a.toList.take b++(m.toList++a.toList.drop (b+m.size)):=by
  apply qI;intro i;rw[gm,AZ h,aee,aee,iS,c9,c9,List.getElem?_take,D3,gm,gm,gm]
  repeat' split
  all_goals first|rfl| (exfalso;lia) | (congr 1;lia)
 have c:a.toList=a.toList.take b++((a.toList.drop b).take m.size++a.toList.drop (b+m.size)):=by
  conv=>lhs;rw[<-k7 b a.toList,pM a.toList b m.size]
 rw[e]
 conv=>rhs;rw[c]
 exact List.Perm.append_left _^p.append_right _
section
variable {O:KeyOrd} {key:Keyed->O.α} {S:Keyed->Prop} {k0:SortKind} {prog:Program} {w:World} {A:Around} {E:Value->Shared->Prop} {s:Shared} {st bV:SortSt}
def SQ(h:Q ⟨⟩ a):wpS M A E s (set a:StateT SortSt Sem PUnit) Q st:=by
 unfold wpS;rw[StateT.run_set];exact mo #[rfl,h]
def fV{xs:Array Keyed}{a b:Nat}(h:kh O key xs a b){i j:Nat}(c:a<=i)(d:i<=j)(e:j<b)(f:xs[i]?\x)(g:xs[j]?\y):LE O key x y:=by
 have:=h i j c d e
 unfold ky at this;rw[f,g] at this;exact this
def Fx{xs:Array Keyed}(k:b<=xs.size)(h:∀i j x y,a<=i->i<=j->j<b->xs[i]?\x->xs[j]?\y->LE O key x y):kh O key xs a b:=λi j e f g=>by
 obtain⟨x,c,_,_⟩:=bJ (xs:=xs) (i:=i) ()
 obtain⟨y,d,_,_⟩:=bJ (xs:=xs) (i:=j) ()
 unfold ky;rw[c,d];exact h i j x y e f g c d
def ext_get{xs:Array Keyed}{a b i:Nat}(c:b<=xs.size)(d:i<b-a):(xs.extract a b)[i]? =xs[a+i]? :=by
 rw[Array.getElem?_extract,ir ()]
def ext_mem{c:Array Keyed}{a b:Nat}{x:Keyed}(h:x∈(c.extract a b).toList):∃i,a<=i/\i<b/\i<c.size/\c[i]?\x:=by
 rw[ext_toList] at h;obtain⟨j,f,d,e⟩:=fB h;rw[c9] at d;exact#[a+j,(),(),d,lE e]
def Ly(h:kh O key xs a b)(c:b<=xs.size):(xs.extract a b).toList.Pairwise^LE O key:=by
 rw[BJ];intro i j d e l;have f:(xs.extract a b).toList.length=b-a:=by rw[c9,xS];lia
 rw[f] at d e;have g:=ext_get (xs:=xs) (a:=a) c d;have k:=ext_get (xs:=xs) (a:=a) c e;refine fV h (i:=a+i) (j:=a+j) () () (by omega) ?_ ?_
 .rw[<-g,<-gm];exact cz _
 .rw[<-k,<-gm];exact cz _
def FJ(C:iy O key S k0 (ei prog w) A E s)(o:Ok S k0 st)(hf:iZ st=none)(p1:(ff st)[i]?\(b,d,pw))(p2:(ff st)[i+1]?\(b+d,v,pw2))(hna:1<=d)(Uj:1<=v)(dQ:b+d+v<=(ey st).size)
  (N:kh O key (ey st) b (b+d)) (P:kh O key (ey st) (b+d) (b+d+v))
  (q:∀l,(ey l).Perm^ey st->kindOf l=kindOf st->iZ l=none->ff l=((ff st).setIfInBounds i (b,d+v,pw)).eraseIdxIfInBounds (i+1)->(∀j,j<b\/b+d+v<=j->(ey l)[j]? =(ey st)[j]?)->kh O key (ey l) b (b+(d+v))->Q true l):
  on (ei prog w) A E s (mergeAt' i) Q st:=by
 rw[E2];refine Fk^adv ?_;rw[p1,p2];dsimp only;refine Fk^SQ ?_;generalize ((ff st).setIfInBounds i (b,d+v,pw)).eraseIdxIfInBounds (i+1)=pn at q;have o':Ok S k0^jm st pn:=#[o.mem,o.kind];have mem:∀x∈(ey st).toList,S x:=o.mem;let⟨Y,XU,mb0,lb0⟩:=bJ (xs:=ey st) (i:=b+d) ()
 refine Fk^bB XU ?_;have rV:∀(j:Nat)(z:Keyed),(ey st)[j]?\z->(ey st)[j]?.getD (Value.none,Value.none)=z:=λj z e=>by rw[e];rfl
 refine Fk (iw C (rA mem (i:=b) (n:=d) ()) (mem Y mb0) o'.kind () (λi j G Z h=>?_) λk hk kt kf=>?_)
 .obtain⟨xi,M,_,_⟩:=bJ (xs:=ey st) (i:=b+i) ()
  let⟨xj,e2,D,K⟩:=bJ (xs:=ey st) (i:=b+j) ()
  unfold fg at h ⊢;rw[tz ∅] at h ⊢
  rw[e2] at h;rw[M];have h':O.kle (key xj)^key Y:=by unfold KeyOrd.kle;simpa using h
  have:=On (fV N () () () M e2) h'
  unfold KeyOrd.kle at this;simpa using this
 have klo:∀j x,b<=j->j<b+k->(ey st)[j]?\x->LE O key x Y:=λj x f B e=>by
  have:=kt (j-b) ()
  unfold fg at this;rw[tz ∅,show b+(j-b)=j by lia,rV j x e] at this
  show O.blt _ _=false;simpa using this
 have khi:∀j x,b+k<=j->j<b+d->(ey st)[j]?\x->LE O key Y x:=λj x f B e=>by
  have:=kf (j-b) () ()
  unfold fg at this;rw[tz ∅,show b+(j-b)=j by lia,rV j x e] at this
  exact SC (show O.blt _ _=true by simpa using this)
 dsimp only;have V4:∀j y,b+d<=j->j<b+d+v->(ey st)[j]?\y->LE O key Y y:=λj y f B e=>fV P () f B XU e
 by_cases e0:d-k=0
 .rw[ir^~~~e0]
  refine FB^q _ (.refl _) rfl hf rfl (λ_ _=>rfl) ?_;refine Fx (by show b+(d+v)<=(ey st).size;lia) λi j x y f G Z H I=>?_
  by_cases c1:j<b+d
  .exact fV N f G c1 H I
  .by_cases c2:i<b+d
   .exact On (klo i x f () H)^V4 j y () () I
   .exact fV P () G () H I
 rw[tz^~~~e0]
 have aaQ:b+k+(d-k)-1=b+d-1:=()
 let⟨al,TR,mal,lal⟩:=bJ (xs:=ey st) (i:=b+k+(d-k)-1) ()
 refine Fk^bB TR ?_;rw[aaQ] at TR;refine Fk (iw C (rA mem (i:=b+d) (n:=v) ()) (mem al mal) o'.kind () (λi j G Z h=>?_) λm hm mt mf=>?_)
 .obtain⟨yi,M,_,_⟩:=bJ (xs:=ey st) (i:=b+d+i) ()
  let⟨yj,e2,D,K⟩:=bJ (xs:=ey st) (i:=b+d+j) ()
  unfold fg at h ⊢;rw[ir rfl] at h ⊢;rw[e2] at h;rw[M];exact adB (fV P () () () M e2) h
 have mlo:∀j y,b+d<=j->j<b+d+m->(ey st)[j]?\y->LE O key y al:=λj y f B e=>by
  have:=mt (j-(b+d)) ()
  unfold fg at this;rw[ir rfl,show b+d+(j-(b+d))=j by lia,rV j y e] at this
  exact SC this
 have mhi:∀j y,b+d+m<=j->j<b+d+v->(ey st)[j]?\y->LE O key al y:=λj y f B e=>by
  have:=mf (j-(b+d)) () ()
  unfold fg at this;rw[ir rfl,show b+d+(j-(b+d))=j by lia,rV j y e] at this
  exact this
 have xal:∀j x,b<=j->j<b+d->(ey st)[j]?\x->LE O key x al:=λj x f B e=>fV N f () () e TR
 dsimp only
 by_cases M:m=0
 .rw[ir^~~~M]
  refine FB^q _ (.refl _) rfl hf rfl (λ_ _=>rfl) ?_;refine Fx (by show b+(d+v)<=(ey st).size;lia) λi j x y f G Z H I=>?_
  by_cases c1:j<b+d
  .exact fV N f G c1 H I
  .by_cases c2:i<b+d
   .exact On (xal i x f c2 H)^mhi j y () () I
   .exact fV P () G () H I
 rw[tz^~~~M]
 have T:kK O key S ((ey st).extract (b+k) (b+d))^(ey st).extract (b+d) (b+d+m):=by
  refine#[λx J=>?_,λx J=>?_,Ly (λi j f B h3=>N i j () B h3) (),Ly (λi j f B h3=>P i j f B ()) (),by rw[xS];lia,by rw[xS];lia,λy hy x J=>?_,λx J y hy=>?_]
  .obtain⟨i,_,_,_,e⟩:=ext_mem J
   exact mem x^cL^mN e
  .obtain⟨i,_,_,_,e⟩:=ext_mem J
   exact mem x^cL^mN e
  .rw[ext_get () ()] at hy
   have Nr:(ey st)[b+d]?\y:=hy;rw[XU] at Nr;cases Nr;let⟨i,f,B,D,e⟩:=ext_mem J;exact khi i x f B e
  .have hsz2:((ey st).extract (b+k) (b+d)).size=d-k:=by rw[xS];lia
   rw[hsz2,ext_get () ()] at J
   rw[show b+k+(d-k-1)=b+d-1 by lia,TR] at J;cases J
   let⟨i,f,B,D,e⟩:=ext_mem hy;exact mlo i y f B e
 have szx:((ey st).extract (b+k) (b+d)).size=d-k:=by rw[xS];lia
 have szy:((ey st).extract (b+d) (b+d+m)).size=m:=by rw[xS];lia
 have fin:∀(r:Array Keyed)(l:ge),GS (jm st pn) l->Res O key (((ey st).extract (b+k) (b+d)).toList++((ey st).extract (b+d) (b+d+m)).toList) r.toList->
   on (ei prog w) A E s (do
    modify λs=>oo s (r.toList.zipIdx.foldl (λa (p,j)=>a.setIfInBounds (b+k+j) p)^ey s)
    return (iZ (<-get)).isNone) Q l:=by
  intro r l g u;refine Fk^adE^Fk^adv ?_;have Uc:iZ l=none:=g.failed.trans hf
  have hr:r.size=d-k+m:=by
   have:=u.1.length_eq
   rw[dg,c9,c9,c9,szx,szy] at this;exact this
  have hb:b+k+r.size<=(ey l).size:=by rw[g.arr];show _<=(ey st).size;lia
  have acy:(r.toList.zipIdx.foldl (λa (x:Keyed×Nat)=>match x with| (p,j)=>a.setIfInBounds (b+k+j) p)^ey l)=putAt (ey l) r (b+k):=rfl
  show on _ _ _ _ (pure (iZ l).isNone) Q^oo l^putAt (ey l) r (b+k);rw[Uc];have ga:ey l=ey st:=g.arr;rw[ga] at hb ⊢;have LA:=λi=>AZ hb i;rw[hr] at LA
  have WA:∀j x,b+k<=j->j<b+d+m->(putAt (ey st) r (b+k))[j]?\x->∃i,b+k<=i/\i<b+d+m/\(ey st)[i]?\x:=λj x f B e=>by
   rw[LA,ir ()] at e
   have hm:=u.1.mem_iff.mp^cL^mN e
   rcases cP.mp hm with z|z
   .obtain⟨i,R,a2,_,X⟩:=ext_mem z
    exact#[i,R,(),X]
   .obtain⟨i,R,a2,_,X⟩:=ext_mem z
    exact#[i,(),a2,X]
  have t:∀j,j<b+k\/b+d+m<=j->(putAt (ey st) r (b+k))[j]? =(ey st)[j]? :=λj h=>by rw[LA,tz ()]
  have QW:∀i x j y,b<=i->i<b+k->(ey st)[i]?\x->b+k<=j->j<b+d+v->(ey st)[j]?\y->LE O key x y:=λi x j y R a2 a3 X a5 a6=>by
   by_cases c:j<b+d
   .exact fV N R () c a3 a6
   .exact On (klo i x R a2 a3)^V4 j y () a5 a6
  have Ue:∀i x j y,b<=i->i<b+d+m->(ey st)[i]?\x->b+d+m<=j->j<b+d+v->(ey st)[j]?\y->LE O key x y:=λi x j y R a2 a3 X a5 a6=>by
   by_cases c:i<b+d
   .exact On (xal i x R c a3)^mhi j y X a5 a6
   .exact fV P () () a5 a3 a6
  refine FB^q _ ?_ g.kind Uc g.pend (λj Z=>t j ()) ?_
  .refine HF hb ?_
   rw[hr];refine u.1.trans ?_;rw[ext_toList,ext_toList,show b+d-(b+k)=d-k by lia,show b+d+m-(b+d)=m by lia]
   have:((ey st).toList.drop (b+k)).take (d-k+m)=((ey st).toList.drop (b+k)).take (d-k)++((ey st).toList.drop (b+d)).take m:=by
    rw[qA _ (show d-k<=d-k+m by lia),List.drop_drop,show b+k+(d-k)=b+d by lia,show d-k+m-(d-k)=m by lia]
   rw[this]
  .refine Fx (by show b+(d+v)<=(putAt (ey st) r (b+k)).size;rw[HG hb];lia) λi j x y f G Z H I=>?_
   have L:(putAt (ey st) r (b+k))[i]?\x:=H;have F:(putAt (ey st) r (b+k))[j]?\y:=I
   by_cases ci:i<b+k
   .rw[t i^.inl ci] at L
    by_cases cj:j<b+k
    .rw[t j^.inl cj] at F
     exact fV N f G () L F
    .by_cases cj2:j<b+d+m
     .obtain⟨j',b1,b2,b3⟩:=WA j y () cj2 F
      exact QW i x j' y f ci L b1 () b3
     .rw[t j^.inr ()] at F
      exact QW i x j y f ci L () () F
   .by_cases ci2:i<b+d+m
    .by_cases cj2:j<b+d+m
     .rw[LA,ir ()] at L F
      exact gG u.2 () (mN L)^mN F
     .obtain⟨i',b1,b2,b3⟩:=WA i x () ci2 L
      rw[t j^.inr ()] at F
      exact Ue i' x j y () b2 b3 () () F
    .rw[t i^.inr ()] at L
     rw[t j^.inr ()] at F
     exact fV P () G () L F
 by_cases c:d-k<=m
 .rw[ir c]
  exact Fk (FL C o'.kind T λr l g u=>fin r l g u)
 .rw[tz c]
  exact Fk (FK C o'.kind T λr l g u=>fin r l g u)
end
abbrev U1:=Option Unit×Unit
def Mb(a:Nat):StateT ge l_^ForInStep U1:=do
 let st <-get
 match (if (ff st).size>1 then(ff st)[(ff st).size-2]? else none) with
 |some (_,_,b)=>
  if b<=a then pure (ForInStep.done (none,Unit.unit))
  else do
   let ok <-mergeAt' ((ff st).size-2)
   if (!ok)=true then pure^ForInStep.done (some ⟨⟩,Unit.unit) else pure^ForInStep.yield (none,Unit.unit)
 |_=>pure^ForInStep.done (none,Unit.unit)
def oi(size lo n:Nat):StateT ge l_^ForInStep (Option Unit×Nat):=do
 let st <-get
 match (ff st).back? with
 |some (b,a,_)=>do
  let t <-forIn [0:size] ((none,⟨⟩):U1) λ_ _=>Mb^power' size (2*b+a) (2*b+a+a+n) size
  match t.1 with
  |some r=>pure^ForInStep.done (some r,lo)
  |none=>do
   modify λs=>jm s ((ff s).modify ((ff s).size-1) λx=>(x.1,x.2.1,power' size (2*b+a) (2*b+a+a+n) size))
   modify λs=>jm s ((ff s).push (lo,n,0))
   pure^ForInStep.yield (none,lo+n)
 |_=>do
  modify λs=>jm s ((ff s).push (lo,n,0))
  pure^ForInStep.yield (none,lo+n)
def Fw(size lo:Nat):StateT ge l_^ForInStep (Option Unit×Nat):=
 if lo>=size then pure (ForInStep.done (none,lo))
 else do
  let x <-countRun' lo (size-lo)
  match x with
  |some a=>
   if a<minRun' size size 0 then do
    liftM^rule "list.sort.binary-insertion"
    let ok <-binarySort' lo (min (size-lo)^minRun' size size 0) a
    if (!ok)=true then pure^ForInStep.done (some ⟨⟩,lo) else oi size lo (min (size-lo)^minRun' size size 0)
   else oi size lo a
  |_=>pure^ForInStep.done (some ⟨⟩,lo)
def KA:StateT ge l_^ForInStep U1:=do
 let st <-get
 if (ff st).size<=1 then pure (ForInStep.done (none,Unit.unit))
 else do
  let ok <-mergeAt' (if (if (ff st).size-2>0 then(ff st)[(ff st).size-2-1]?.map (·.2.1) else none).any (·<((ff st)[(ff st).size-2+1]?.elim 0 (·.2.1))) then(ff st).size-2-1 else(ff st).size-2)
  if (!ok)=true then pure^ForInStep.done (some ⟨⟩,Unit.unit) else pure^ForInStep.yield (none,Unit.unit)
theorem Bd:sortRuns'=(do
 let st <-get
 let c <-forIn [0:(ey st).size] ((none,0):Option Unit×Nat) λ_ c=>Fw (ey st).size c.2
 match c.1 with
 |some r=>pure r
 |none=>do
  let t <-forIn [0:(ey st).size] ((none,⟨⟩):U1) λ_ _=>KA
  match t.1 with
  |some r=>pure r
  |none=>pure ⟨⟩):=by
 rw[sortRuns'_eq];dsimp only;refine dY rfl λst=>dY (Er λ_ c=>?_) λc=>?_
 .unfold Fw
  refine fT (λ_=>rfl)^λ_=>dY rfl λx=>?_;cases x with
  |none=>rfl
  |some f=>
   dsimp only;have i:∀n:Nat,oi (ey st).size c.2 n=oi (ey st).size c.2 n:=λ_=>rfl;refine fT (λ_=>dY rfl λ_=>dY rfl λok=>fT (λ_=>rfl)^λ_=>?_)^λ_=>?_
   all_goals
    unfold oi;refine dY rfl λd=>?_;cases(ff d).back? with
    |none=>rfl
    |some e=>
     obtain⟨j,k,l⟩:=e;dsimp only;refine dY (Er λ_ c=>?_) λt=>?_
     .unfold Mb
      refine dY rfl λa=>?_;cases(if (ff a).size>1 then(ff a)[(ff a).size-2]? else none) with
      |none=>rfl
      |some e=>rfl
     .obtain⟨b,g⟩:=t
      cases b<;>rfl
 .obtain⟨h,m⟩:=c
  cases h with
  |some r=>rfl
  |none=>
   dsimp only;refine dY (Er λ_ c=>?_) λt=>?_
   .rfl
   .obtain⟨b,g⟩:=t
    cases b<;>rfl
section
variable {O:KeyOrd} {key:Keyed->O.α} {S:Keyed->Prop} {k0:SortKind} {prog:Program} {w:World} {A:Around} {E:Value->Shared->Prop} {s:Shared} {st bV:SortSt}
def kH(O:KeyOrd)(key:Keyed->O.α)(c:Array Keyed):Nat->List (Nat×Nat)->Nat->Prop
 |a,[],b=>a=b
 |a,e::r,b=>e.1=a/\1<=e.2/\kh O key c a (a+e.2)/\kH O key c (a+e.2) r b
theorem kH.app:∀{j g:List (Nat×Nat)}{a b:Nat},kH O key i a (j++g) b↔∃c,kH O key i a j c/\kH O key i c g b
 | [],g,a,b=>#[λh=>#[a,rfl,h],λ#[c,d,f]=>by cases d;exact f]
 |e::j,g,a,b=>by
  constructor
  .rintro⟨d,f,k,n⟩
   obtain⟨c,l,m⟩:=kH.app.mp n;exact#[c,#[d,f,k,l],m]
  .rintro⟨c,⟨d,f,k,l⟩,m⟩
   exact#[d,f,k,kH.app.mpr #[c,l,m]]
theorem kH.le:∀{l:List (Nat×Nat)}{a b:Nat},kH O key c a l b->a+l.length<=b
 | [],a,b,h=>by cases h;simp
 |e::l,a,b,#[_,f,_,d]=>by
  have:=kH.le d
  rw[dU];lia
def Bh(h:∀i,a<=i->i<b->d[i]? =c[i]?)(g:kh O key c a b):kh O key d a b:=λi j e k f=>by
 rw[jr^h i e (),jr^h j () f];exact g i j e k f
theorem kH.congr:∀{l:List (Nat×Nat)}{a b:Nat},(∀i,a<=i->i<b->d[i]? =c[i]?)->kH O key c a l b->kH O key d a l b
 | [],a,b,_,h=>h
 |e::l,a,b,f,#[m,n,o,g]=>by
  have:=kH.le g
  exact#[m,n,Bh (λi j k=>f i j ()) o,kH.congr (λi j k=>f i () k) g]
def pl(st:SortSt):List (Nat×Nat):=(pendingOf st).toList.map λe=>(e.1,e.2.1)
structure SI (O:KeyOrd) (key:Keyed->O.α) (S:Keyed->Prop) (k0:SortKind) (a0:Array Keyed) (st:SortSt) (lo:Nat):Prop where
 ok:Ok S k0 st
 failed:failedOf st=none
 perm:(arrOf st).Perm a0
 cov:kH O key (arrOf st) 0 (pl st) lo
 le:lo<=a0.size
theorem SI.size{a:Array Keyed}{lo:Nat}(h:SI O key S k0 a st lo):(arrOf st).size=a.size:=h.perm.size_eq
def Il(C:iy O key S d (ei prog w) A E s){n:Array Keyed}{lo i:Nat}{Q:Bool->ge->Prop}(h:SI O key S d n st lo)(J:i+1<(ff st).size)
  (q:∀a,SI O key S d n a lo->(ff a).size=(ff st).size-1->(∀j,lo<=j->(ey a)[j]? =(ey st)[j]?)->Q true a):on (ei prog w) A E s (mergeAt' i) Q st:=by
 have L:(ff st)[i]? =some (ff st)[i]:=ado _ i ()
 have M:(ff st)[i+1]? =some (ff st)[i+1]:=ado _ (i+1) J
 have o:(ff st).toList=(ff st).toList.take i++((ff st)[i]::(ff st)[i+1]::(ff st).toList.drop (i+2)):=by
  conv=>lhs;rw[<-k7 i (ff st).toList]
  congr 1
  rw[wa^by rw[c9];omega,wa^by rw[c9];omega]
  rfl
 generalize hx:(ff st)[i]=x at*;generalize hy:(ff st)[i+1]=y at*;let⟨e,f,N⟩:=x;let⟨sb,g,P⟩:=y;have k:=h.cov;unfold pl at k;refine ae λG0 d=>?_;rw[o,b9,cH,cH] at k;let⟨c,R,T⟩:=kH.app.mp k;let⟨r,t,u,v,z,B,l⟩:=T;refine d ?_;dsimp only at r t u v z B l;subst r;subst v;have X:=l.le;have dQ:=h.size;have wV:=h.le;refine FJ C h.ok h.failed L M t z () u B λa F Y Z b4 m b6=>?_
 have G:(ff a).toList=(ff st).toList.take i++((e,f+g,N)::(ff st).toList.drop (i+2)):=by
  rw[b4,Array.toList_eraseIdxIfInBounds,Array.toList_setIfInBounds]
  conv=>lhs;rw[o]
  have b:((ff st).toList.take i).length=i:=by rw[iS,c9];lia
  rw[List.set_append_right _ _ (),List.eraseIdx_append_of_length_le (),b,oV,show i+1-i=1 by lia]
  rfl
 refine q a #[#[λp hp=>h.ok.mem p^(FU.mp F).mem_iff.mp hp,Y.trans h.ok.kind],Z,F.trans h.perm,?_,h.le] ?_ λj hj=>m j^.inr ()
 .unfold pl
  rw[G,b9,cH];refine kH.app.mpr #[e,kH.congr (λj H I=>m j^.inl I) R,rfl,?_,b6,?_]
  .show 1<=f+g;lia
  .show kH O key (ey a) (e+(f+g)) _ lo
   rw[<-Nat.add_assoc];exact kH.congr (λj H I=>m j^.inr H) l
 .rw[<-c9,G,dg,dU,iS,oS,c9];lia
def Kp(bV st:SortSt)(lo:Nat):Prop:=∀j,lo<=j->(arrOf st)[j]? =(arrOf bV)[j]?
def OC(C:iy O key S k0 (ei prog w) A E s){f:Array Keyed}{lo g:Nat}(h:SI O key S k0 f st lo)(d:Kp bV st lo):on (ei prog w) A E s (Mb g) (λr a=>match r with| .done c=>c=(none,⟨⟩)/\SI O key S k0 f a lo/\Kp bV a lo| .yield c=>c=(none,⟨⟩)/\SI O key S k0 f a lo/\Kp bV a lo) st:=by
 unfold Mb;refine Fk^adv ?_
 by_cases i:(ff st).size>1
 .rw[ir i]
  cases e:(ff st)[(ff st).size-2]? with
  |none=>exact FB #[rfl,h,d]
  |some x=>
   let⟨o,p,l⟩:=x;dsimp only
   by_cases b:l<=g
   .rw[ir b];exact FB #[rfl,h,d]
   .rw[tz b]
    refine Fk (Il C h (by omega) λa m _ n=>?_)
    exact FB #[rfl,m,λj k=>(n j k).trans^d j k]
 .rw[tz i]
  exact FB #[rfl,h,d]
def RD{lo n:Nat}:pl^jm st^(ff st).push (lo,n,0)=pl st++ [(lo,n)]:=by
 unfold pl;show((ff st).push (lo,n,0)).toList.map _=_;rw[BP,b9];rfl
def Ke:pl^jm st ((ff st).modify i λx=>(x.1,x.2.1,a))=pl st:=by
 unfold pl;show((ff st).modify i λx=>(x.1,x.2.1,a)).toList.map _=_;apply qI;intro j;rw[dh,dh,gm,gm,Array.getElem?_modify]
 by_cases e:i=j
 .rw[ir e]
  cases(ff st)[j]? <;>rfl
 .rw[tz e]
def SI.LS{a:Array Keyed}{lo n:Nat}(h:SI O key S k0 a st lo)(b:1<=n)(c:lo+n<=a.size)(d:kh O key (ey st) lo (lo+n)):SI O key S k0 a (jm st^(ff st).push (lo,n,0)) (lo+n):=by
 refine#[#[h.ok.mem,h.ok.kind],h.failed,h.perm,?_,c];rw[RD];exact kH.app.mpr #[lo,h.cov,rfl,b,d,rfl]
theorem yz(C:iy O key S k0 (ei prog w) A E s){b:Array Keyed}{lo n:Nat}(h:SI O key S k0 b st lo)(k:1<=n)(l:lo+n<=b.size)(m:kh O key (ey st) lo (lo+n)):
  on (ei prog w) A E s (oi b.size lo n) (λr a=>match r with| .done c=>False| .yield c=>c=(none,lo+n)/\SI O key S k0 b a (lo+n)) st:=by
 unfold oi;refine Fk^adv ?_;cases(ff st).back? with
 |none=>exact Fk^adE^FB #[rfl,h.LS k l m]
 |some e=>
  let⟨p,j,v⟩:=e;dsimp only;refine Fk^SL (SZ (I:=λ(x:Nat)(c:U1)(a:ge)=>c=(none,⟨⟩)/\SI O key S k0 b a lo/\Kp st a lo) (Q:=λc a=>c=(none,⟨⟩)/\SI O key S k0 b a lo/\Kp st a lo) (λx c a _ _ g=>?_) (λc a g=>g) #[rfl,h,λ_ _=>rfl]) ?_
  .refine SL (OC C g.2.1 g.2.2) λr y o=>?_
   cases r with
   |done d=>exact o
   |yield d=>exact o
  .rintro c a ⟨rfl,f,q⟩
   dsimp only;refine Fk^adE^Fk^adE^FB #[rfl,?_]
   have t:SI O key S k0 b (jm a ((ff a).modify ((ff a).size-1) λx=>(x.1,x.2.1,power' b.size (2*p+j) (2*p+j+j+n) b.size))) lo:=
    #[#[f.ok.mem,f.ok.kind],f.failed,f.perm,by rw[Ke];exact f.cov,f.le]
   exact t.LS k l^Bh (λi u z=>q i u) m
def SI.stp{b:Array Keyed}{lo c:Nat}{a:ge}(h:SI O key S k0 b st lo)(t:iA st a lo c):SI O key S k0 b a lo:=
 #[h.ok.step t,t.failed.trans h.failed,t.perm.trans h.perm,by
  have:pl a=pl st:=by unfold pl;rw[t.pend]
  rw[this];exact kH.congr (λi _ d=>t.out i^.inl d) h.cov,h.le]
theorem K1(C:iy O key S k0 (ei prog w) A E s){a:Array Keyed}{lo:Nat}(h:SI O key S k0 a st lo):
  on (ei prog w) A E s (Fw a.size lo) (λr b=>match r with| .done c=>c=(none,lo)/\a.size<=lo/\SI O key S k0 a b lo| .yield c=>∃n,1<=n/\c=(none,lo+n)/\SI O key S k0 a b (lo+n)) st:=by
 unfold Fw;have t:=h.size;have j:=h.le
 by_cases f:lo>=a.size
 .rw[ir f];exact FB #[rfl,f,h]
 .rw[tz f]
  refine Fk (wpS_countRun C h.ok () () λm u k m1 v g=>?_)
  dsimp only;have e:=h.stp k;have l:=e.size
  by_cases i:m<minRun' a.size a.size 0
  .rw[ir i]
   refine Fk^adV^ac8 #[rfl,?_];refine Fk (wpS_binarySort C e.ok () () g λx p q=>?_)
   rw[tz ∅]
   refine SL (yz C (e.stp p) () () q) λr b o=>?_
   cases r with
   |done d=>exact o.elim
   |yield d=>exact#[_,(),o.1,o.2]
  .rw[tz i]
   refine SL (yz C e m1 () g) λr b o=>?_
   cases r with
   |done d=>exact o.elim
   |yield d=>exact#[_,m1,o.1,o.2]
def ite_le [Decidable c]:(if c then p-1 else p)<=p:=by split<;>omega
def K0(C:iy O key S k0 (ei prog w) A E s)(h:SI O key S k0 a st a.size)(g:(ff st).size<=max 1 (a.size-x)):
  on (ei prog w) A E s KA (λr b=>match r with| .done c=>c=(none,⟨⟩)/\SI O key S k0 a b a.size/\(ff b).size<=1| .yield c=>c=(none,⟨⟩)/\SI O key S k0 a b a.size/\(ff b).size<=max 1 (a.size-(x+1))) st:=by
 unfold KA;refine Fk^adv ?_
 by_cases d:(ff st).size<=1
 .rw[ir d];exact FB #[rfl,h,d]
 .rw[tz d]
  refine Fk (Il C h (qH (Nat.succ_le_succ ite_le) ()) λb f e _=>?_)
  exact FB #[rfl,f,(by omega)]
theorem wpS_sortRuns(C:iy O key S k0 (ei prog w) A E s){Q:Unit->ge->Prop}(o:Ok S k0 st)(t:iZ st=none)(u:ff st= #[])(F:1<=(ey st).size)
  (q:∀a,(ey a).Perm^ey st->iZ a=none->kh O key (ey a) 0 (ey st).size->Q ⟨⟩ a):on (ei prog w) A E s sortRuns' Q st:=by
 rw[Bd];refine Fk^adv ?_;have v:SI O key S k0 (ey st) st 0:=#[o,t, .refl _,by unfold pl;rw[u];rfl,eE _]
 refine Fk^SL (SZ (I:=λ(x:Nat)(c:Option Unit×Nat)(a:ge)=>∃lo,c=(none,lo)/\min x (ey st).size<=lo/\SI O key S k0 (ey st) a lo) (Q:=λc a=>c=(none,(ey st).size)/\SI O key S k0 (ey st) a (ey st).size) (λx c a _ _ b=>?_) (λc a b=>?_) #[0,rfl,(),v]) ?_
 .obtain⟨lo,rfl,y,f⟩:=b
  refine SL (K1 C f) λr g o=>?_;cases r with
  |done d=>
   let⟨e,G,h⟩:=o
   have:=h.le
   have j:lo=(ey st).size:=()
   rw[j] at e h;exact#[e,h]
  |yield d=>
   let⟨n,H,e,h⟩:=o;exact#[lo+n,e,(),h]
 .obtain⟨lo,rfl,y,f⟩:=b
  have:=f.le
  have j:lo=(ey st).size:=()
  rw[j] at f ⊢;exact#[rfl,f]
 .rintro c a ⟨rfl,f⟩
  dsimp only
  have p:(ff a).size<=(ey st).size:=by
   have:=f.cov.le
   unfold pl at this;rw[aG,c9] at this;lia
  refine Fk^SL (SZ (I:=λ(x:Nat)(c:U1)(a:ge)=>c=(none,⟨⟩)/\SI O key S k0 (ey st) a (ey st).size/\(ff a).size<=max 1 ((ey st).size-x)) (Q:=λc a=>c=(none,⟨⟩)/\SI O key S k0 (ey st) a (ey st).size/\(ff a).size<=1) (λx c a _ _ b=>?_) (λc a b=>?_) #[rfl,f,()]) ?_
  .refine SL (K0 C b.2.1 b.2.2) λr g o=>?_
   cases r with
   |done d=>exact o
   |yield d=>exact o
  .exact#[b.1,b.2.1,by have:=b.2.2;lia]
  .rintro c g ⟨rfl,k,l⟩
   refine FB^q g k.perm k.failed ?_;have i:=k.cov;have m:(pl g).length<=1:=by unfold pl;rw[aG,c9];exact l
   match bX:pl g,m with
   | [],_=>rw[bX] at i;exact absurd i (by show ¬(0=(ey st).size);lia)
   | [e],_=>
    rw[bX] at i;let⟨J,L,z,B⟩:=i
    have:0+e.2=(ey st).size:=B
    rw[<-this];exact z
end
section
variable {O:KeyOrd} {key:Keyed->O.α} {S:Keyed->Prop} {k0:SortKind} {prog:Program} {w:World} {A:Around} {E:Value->Shared->Prop} {s:Shared}
def Keeps(s a:Shared):Prop:=∀b o,s.heap.get? b\o->a.heap.get? b\o
def xR(a:List Value):(a.toArray.zip a.toArray).toList=a.map λv=>(v,v):=by
 rw[Array.toList_zip];show List.zip a a=_
 induction a with
 |nil=>rfl
 |cons v r b=>rw[List.zip_cons_cons,cH,b]
def VD(h:kh O key a 0 a.size):a.toList.Pairwise^LE O key:=by
 rw[BJ];intro i j c b d;rw[c9] at c b;exact fV h (eE _) (qL d) b (lE^cz _)^lE^cz _
def p7(j:s.heap.get? a\(hX "list" c.toArray n))(N:2<=c.length)(R:c.length<=1000)(ne:∀b o,s.heap.get? b\o->b≠a->True)
  {s0:c_} (k:∀b o,s0.heap.get? b\o->b≠a/\s.heap.get? b\o)
  (z:∀(E:b_->c_->Prop)(d:c_)(m:jc->c_->Prop),Keeps s0 d->m k0 d->e_ (ei prog w) A (keyKind' c.toArray) m E d)
  (C:∀(E:b_->c_->Prop)(d:c_),Keeps s0 d->iy O key S k0 (ei prog w) A E d) (mem:∀v∈c,S (v,v))
  (h:∀out:Array Keyed,out.toList.Perm (c.map λv=>(v,v))->out.toList.Pairwise^LE O key->P (.done^.ret .none) {s with heap:=sortedHeap s.heap a c^out.map (·.2)}):
  e_ (ei prog w) A (Builtin.«list.sort» #[[.ref a],[]]) P E s:=by
 rw[list_sort_plain];have q:a<s.heap.objs.size:=Da j;have T:1000<sizeLine:=∅
 refine a_^listItems_at j rfl ?_;refine a_^aeF j rfl ?_ (by rw[cn];lia)^eE _
 obtain⟨l,r⟩:∃l,(s.heap.update a (Obj.mapSeq λ_=> #[])).get? a\(hX "list" #[] l):=#[_,get?_update_seq j^λ_=> #[]];refine a_^afl r rfl ?_;refine a_^afr ?_^by show c.length<=_;lia
 refine a_^adR ?_^eE _;refine KF ?_
 have t:(((s.heap.update a (Obj.mapSeq λ_=> #[])).push^hX "tuple" c.toArray 0).push^hX "list" #[] 0).get? a\(hX "list" #[] l):=by
  rw[adG _ _ _^by rw[aeN,ads];exact bS^adH q,adG _ _ _^by rw[ads];exact bS q]
  exact r
 show e_ (ei prog w) A _ P E {s with heap:=((s.heap.update a (Obj.mapSeq λ_=> #[])).push^hX "tuple" c.toArray 0).push^hX "list" #[] 0}
 have u:Keeps s0 {s with heap:=((s.heap.update a (Obj.mapSeq λ_=> #[])).push^hX "tuple" c.toArray 0).push^hX "list" #[] 0}:=λb o e=>by
  let⟨B,F⟩:=k b o e;refine AC _^AC _ ?_;rw[adj _ _ _ _ B];exact F
 dsimp only;have X:c.toArray.size=c.length:=by simp
 have x:¬c.toArray.size<2:=()
 rw[tz x,tz x];refine a_^z _ _ _ u ?_;have g:(c.toArray.zip c.toArray).size=c.length:=by rw[<-c9,xR,aG]
 refine a_ (ip (wpS_sortRuns (C _ _ u) (st:=SortSt.mk' k0 (c.toArray.zip c.toArray) #[] 7 none)
   (Q:=λ_ f=>(ey f).Perm^c.toArray.zip c.toArray/\iZ f=none/\kh O key (ey f) 0 (c.toArray.zip c.toArray).size)
   #[λp i=>?_,rfl] rfl rfl (by show 1<=(c.toArray.zip c.toArray).size;lia) λf G H I=>#[G,H,I]) ?_ λ_ _ e=>e)
 .have y:p∈(c.toArray.zip c.toArray).toList:=i
  rw[xR] at y;let⟨v,J,rfl⟩:=cE.mp y;exact mem v J
 rintro⟨⟨⟩,f⟩ d ⟨rfl,i,L,M⟩;dsimp only;have Y:(ey f).size=c.length:=by rw[i.size_eq,g]
 refine a_^afl t rfl ?_;refine a_^aeF t rfl ?_ (eE _)^by rw[Array.size_map];lia
 rw[L];simp only[aeK,fo,Pi];refine mo^h (ey f) ?_ ?_
 .rw[<-xR];exact FU.mp i
 .refine VD ?_
  rw[i.size_eq];exact M
def HV(j:s.heap.IsList l a.toArray)(k:2<=a.length)(n:a.length<=1000)
  (p:∀(E:b_->c_->Prop)(c:c_)(g:jc->c_->Prop),Keeps s c->g k0 c->e_ (ei prog w) A.in1.in1 (keyKind' a.toArray) g E c)
  (C:∀(E:b_->c_->Prop)(c:c_),Keeps s c->iy O key S k0 (ei prog w) A.in1.in1 E c) (mem:∀v∈a,S (v,v))
  (h:∀out:Array Keyed,out.toList.Perm (a.map λv=>(v,v))->out.toList.Pairwise^LE O key->Q (.ref (s.heap.objs.size+1)) {s with heap:=sortedAll s.heap a^out.map (·.2)}):
  e_ (ei prog w) A (call (.builtin "sorted") [.ref l]) Q E s:=by
 have u:1000<sizeLine:=∅
 refine ady kind_sorted afz afA (afB _) ?_;unfold Builtin.«sorted»;refine a_ (m:=checkCount "sorted" 1 1 _)^mo ?_;refine a_^afC j ?_ ()
 refine a_^adR ?_^by show a.length<=_;lia
 have d:((s.heap.push^hX "list" #[] 0).update s.heap.objs.size^Obj.mapSeq (·++a.toArray)).objs.size=s.heap.objs.size+1:=by
  rw[ads,aeN]
 have i:(((s.heap.push^hX "list" #[] 0).update s.heap.objs.size^Obj.mapSeq (·++a.toArray)).push^hX "list" a.toArray 0).get? (s.heap.objs.size+1)\(hX "list" a.toArray 0):=by
  rw[<-d];exact GT _ rfl
 have keep:∀b o,s.heap.get? b\o->(((s.heap.push^hX "list" #[] 0).update s.heap.objs.size^Obj.mapSeq (·++a.toArray)).push^hX "list" a.toArray 0).get? b\o:=λb o q=>by
  have f:b<s.heap.objs.size:=Da q;rw[adG _ _ _^by rw[d];exact bS^adH f,adj _ _ _ _^bS f,adG _ _ _^bS f]
  exact q
 show e_ _ _ _ _ _ {s with heap:=((s.heap.push^hX "list" #[] 0).update s.heap.objs.size^Obj.mapSeq (·++a.toArray)).push^hX "list" a.toArray 0}
 rw[d];refine a_^KF^acR nt #[_,i,rfl] ls (p7 (s0:=s) i k n (λ_ _ _ _=>trivial) (λb o e=>#[bS^adH^Da e,keep b o e]) p C mem λout r t=>#[_,rfl,?_])^aes _;exact mo #[_,rfl,h out r t]
end
end TS
namespace L2
open PySem PySem.Spec PyProof.Rows
def lexOrd:KeyOrd where
 α:=Nat×Nat
 blt:=kQ
 irrefl:=λa=>by unfold kQ;rw[ir rfl];simp
 trans:=λa b c d e=>QP _ _ _ d e
 negTrans:=λa b c h=>Ny _ _ _ h
 total:=λa b d e=>Wb.mL (Ao e)^Ao d
def keyOf(L:List (Addr×(Nat×Nat)))(v:Keyed):Nat×Nat:=match v.1 with
 | .ref a=>((L.find? λe=>e.1==a).map (·.2)).getD (0,0)
 |_=>(0,0)
def Kc(h:iJ k=iJ b):k=b:=by
 unfold iJ at h
 injection h with c a
 injection a with a _
 injection c with c
 injection a with a
 exact acY () ()
def nM(c:rJ H L)(d:e∈L)(v:Value):keyOf L (.ref e.1,v)=e.2:=by
 unfold keyOf;dsimp only;cases b:L.find? λx=>x.1==e.1 with
 |none=>exact absurd (F5.mp b e d) (by simp)
 |some x=>
  have f:=FW b;have g:=aei b;have h:x.1=e.1:=by simpa using g
  have a:=c x f;have i:=c e d;rw[h,i] at a
  injection a with a
  injection a with a
  exact(Kc a).symm
theorem ko [DecidableEq a] (f:a->b):∀(l:List b)(L:List a),l.Perm^L.map f->∃M:List a,M.Perm L/\l=M.map f
 | [],L,h=>by
  have:=h.length_eq
  rw[aG] at this
  have:L= []:=List.length_eq_zero_iff.mp this.symm
  subst this;exact#[[], .refl _,rfl]
 |x::r,L,h=>by
  let⟨e,d,rfl⟩:=cE.mp^h.mem_iff.mp dH;have c:=List.perm_cons_erase d;have g:(f e::r).Perm (f e::(L.erase e).map f):=h.trans^c.map f;let⟨M,m1,rfl⟩:=ko f r (L.erase e)^(List.perm_cons _).mp g;exact#[e::M,(m1.cons e).trans c.symm,rfl]
section
variable {X:Cx}
theorem HW(I:Inv X d Y H s)(E:rJ H L)(hz:L.length<=1000)
  (Z:∀(P:List b_->c_->Prop),(∀h' tk,s.heap.objs.size<=h'.objs.size->(∀b o,s.heap.get? b\o->h'.get? b\o)->P (L.map λe=>Value.ref e.1) {s with heap:=h',toks:=tk})->e_ (ei X.prog X.w) X.A.in1 (collect v) P X.xe s)
  (q:∀(q:Addr)(M:List (Addr×(Nat×Nat))),H q=none->M.Perm L->(M.map (·.2)).Pairwise Wb.lexLe->Q (.ref q)^upd H q^.lst (M.map λe=>V.ref e.1)):
  e_ (ei X.prog X.w) X.A (call (.builtin "sorted") [v]) (EP X d Y Q) X.xe s:=by
 have dZ:1000<sizeLine:=∅
 refine ady kind_sorted afz afA (afB _) ?_;unfold Builtin.«sorted»;refine a_ (m:=checkCount "sorted" 1 1 _)^mo^a_ (Z _ λk Ou F Rk=>a_^adR ?_^by rw[aG];lia)
 have G:(k.push^hX "list" (L.map λe=>Value.ref e.1).toArray 0).get? k.objs.size\(hX "list" (L.map λe=>Value.ref e.1).toArray 0):=GT _ rfl;have tL:∀b o,s.heap.get? b\o->b<k.objs.size:=λb o e=>Da^Rk b o e
 have fin:∀(M:List (Addr×(Nat×Nat)))(out:Array b_),M.Perm L->(M.map (·.2)).Pairwise Wb.lexLe->out.toList=M.map (λe=>Value.ref e.1)->EP X d Y Q (.ref k.objs.size) {s with heap:=sortedHeap (k.push^hX "list" (L.map λe=>Value.ref e.1).toArray 0) k.objs.size (L.map λe=>Value.ref e.1) out,toks:=Ou}:=λM out B ms J=>by
  let⟨c,N⟩:=sortedHeap_at (out:=out) G;refine#[.ref k.objs.size,_,I.laid (t':=Ou) (λb o e=>?_) F (o:= .lst (M.map λe=>V.ref e.1)) #[by rw[aG,B.length_eq];lia,out.toList,c,?_,by rw[Array.toArray_toList];exact N],rfl,q _ M (I.hok.fresh F) B ms]
  .rw[sortedHeap_old (bS^tL b o e)^by rw[aeN];exact adH^tL b o e]
   exact AC _^Rk b o e
  .rw[J,show(λe:Addr×(Nat×Nat)=>V.ref e.1)=V.ref∘(·.1) from rfl,show(λe:Addr×(Nat×Nat)=>Value.ref e.1)=Value.ref∘(·.1) from rfl,<-cC,<-cC]
   exact tR _
 by_cases h2:L.length<2
 .refine a_^KF^acR nt #[_,G,rfl] ls (KS.yw G (by rw[aG];exact h2) #[_,rfl,mo #[_,rfl,fin L _ (.refl _) ?_ rfl]])^aes _
  match L,h2 with
  | [],_=>exact .nil
  | [_],_=>exact FY _ _
 .have l:∀e∈L,∀j:c_,TS.Keeps s j->∃t u,IsTup j.heap e.1 [.int (e.2.1:Nat) t, .int (e.2.2:Nat) u].toArray:=λe he j C=>by
   refine ae λG0 k0=>?_;let⟨t,u,o,J,N,n,hd⟩:=NN I^E e he;refine k0 ?_;exact#[t,u,o,C _ _ J,N,n,hd]
  refine a_^KF^acR nt #[_,G,rfl] ls (TS.p7 (s0:=s) (O:=lexOrd) (key:=keyOf L) (S:=λp=>∃e∈L,p=(Value.ref e.1,Value.ref e.1)) (k0:=tuples' true) G (by rw[aG];lia) (by rw[aG];omega) (λ_ _ _ _=>trivial) (λb o e=>#[bS^tL b o e,AC _^Rk b o e]) (λE' j P C hq=>?_) (λE' j C x y st P sx sy hk hq=>?_) (λv r=>?_) λout pX Jx=>#[_,rfl,mo #[_,rfl,?_]])^aes _
  .have go:∀(M:List (Addr×(Nat×Nat))),(∀e∈M,e∈L)->∃fs:List b_,PySem.W.KatTups j.heap (M.map λe=>Value.ref e.1) fs/\fs.length=M.length/\∀v∈fs,∃i t,v= .int i t:=by
    intro M
    induction M with
    |nil=>exact λ_=>#[[],PySem.W.KatTups.nil,rfl,λv r=>by cases r]
    |cons e M ih=>
     intro hM;refine ae λG0 k0=>?_;let⟨fs,a,b,c⟩:=ih λx hx=>hM x^fq _ hx;let⟨t,u,o,J,N,n,hd⟩:=l e (hM e dH) j C;refine k0 ?_;refine#[.int (e.2.1:Nat) t::fs,PySem.W.KatTups.cons J N hd rfl a,by simp[b],λv r=>?_]
     rcases cQ.mp r with z|z
     .exact#[_,_,z]
     .exact c v z
   let⟨fs,kt,kl,ki⟩:=go L λ_ h=>h;refine PySem.W.kat_kind (T:= .type "int") kt () (λv r=>by let⟨i,t,rfl⟩:=ki v r;exact .now) ∅ ?_
   have hb:(Value.type "int" !=Value.type "tuple")=true:=∅
   rw[hb];exact hq
  .obtain⟨f,m1,rfl⟩:=sx
   let⟨g,R,rfl⟩:=sy;rw[lt'_eq];refine Fk^adv ?_;rw[hk];refine ae λG0 k0=>?_;let⟨t1,t2,k1⟩:=l f m1 j C;let⟨u1,u2,k2⟩:=l g R j C;refine k0 ?_;refine Fk^adV^adS^Uw k1 k2 #[rfl,?_]
   have eb:(if ((f.2.1:Nat):Int)=((g.2.1:Nat):Int) then decide (((f.2.2:Nat):Int)<((g.2.2:Nat):Int)) else decide (((f.2.1:Nat):Int)<((g.2.1:Nat):Int)))=lexOrd.blt (keyOf L (.ref f.1, .ref f.1))^keyOf L (.ref g.1, .ref g.1):=by
    rw[nM E m1,nM E R];show _=kQ f.2 g.2;unfold kQ;simp only[Int.ofNat_inj,Int.ofNat_lt]
   rw[eb];exact FB hq
  .obtain⟨e,he,rfl⟩:=cE.mp r
   exact#[e,he,rfl]
  .rw[cC] at pX
   let⟨M,B,em⟩:=ko (λe:Addr×(Nat×Nat)=>((Value.ref e.1,Value.ref e.1):Keyed)) out.toList L pX;refine fin M _ B ?_^by rw[Array.toList_map,em,cC];rfl
   rw[em,iR] at Jx;rw[iR];refine acS ?_ Jx;intro f g m1 R hle;have GY:kQ (keyOf L (.ref g.1, .ref g.1))^keyOf L (.ref f.1, .ref f.1)=false:=hle;rw[nM E^B.mem_iff.mp m1,nM E^B.mem_iff.mp R] at GY;exact Ao GY
def B3:dX X (.builtin "sorted") (λc H Q=>∃(p:Addr)(L:List (Addr×(Nat×Nat))),c= [.ref p]/\aL X.K H p (L.map λe=>V.ref e.1)/\rJ H L/\L.length<=1000/\
  ∀(q:Addr)(M:List (Addr×(Nat×Nat))),H q=none->M.Perm L->(M.map (·.2)).Pairwise Wb.lexLe->Q (.ref q)^upd H q^.lst (M.map λe=>V.ref e.1)):=by
 intro d s n H c us Q I f h;rfl';let⟨p,L,rfl,i,j,k,q⟩:=h;let⟨u,rfl,l⟩:=f.one;subst l;let⟨a,r,pl,g⟩:=I.list i
 have m:a=L.map λe=>Value.ref e.1:=by
  have:=tX (as:=L.map (·.1)) (us:=a)^by rw[cC];exact r
  rw[this,cC];rfl
 have v:1000<sizeLine:=∅
 ac_rfl;subst m;refine HW I j k (λw h=>afC pl.isList (h _ _ ?_ λb o e=>?_)^by rw[aG];lia) q
 .rw[ads,aeN];exact oW _
 .rw[adj _ _ _ _^bS^Da e];exact AC _ e
end
section
open PySem.SeqAt
open PySem.AutoSeq1 (wpAny_loadPart')
open PySem.MeetsSeq PySem.MeetsSeq2 PySem.MeetsSeq3
def Hf{c:List Value}{d:List Int}(h:IntsAre c d){i:Nat}{a:Int}(e:d[i]?\a):∃t,c[i]?\(.int a t):=by
 induction h generalizing i with
 |nil=>simp at e
 |cons b t _ f=>
  cases i with
  |zero=>simp at e;subst e;exact#[t,rfl]
  |succ i=>simp at e;obtain⟨u,g⟩:=f e;exact#[u,by simpa using g]
theorem QX(l b:Addr)(a j:Array b_)(n G:Nat)(H I:Option Addr)(J L:Array^Option b_)(m f:List Int)(C:jq a.toList m)(E:jq j.toList f)(k:Nat):
  ∀i:Nat,a.size-i=k->i<=a.size->i<=j.size->Meets (Builtin.«list.__eq__.loop» #[[.ref l, .ref b,lr i,lr 0],[]])
   (λA R s=>s.heap.get? l\{cls:= .type "list",dict:=H,data:= .seq a n,slots:=J}/\s.heap.get? b\{cls:= .type "list",dict:=I,data:= .seq j G,slots:=L}/\
    R (.ok^.ret^.bool^HT.lexLt (m.drop i)^f.drop i) s):=by
 have z1:a.size=m.length:=by rw[<-C.length];simp
 have z2:j.size=f.length:=by rw[<-E.length];simp
 induction k with
 |zero=>
  intro i M N O prog w A R s h;let⟨x,g,d,y,os⟩:=s;let⟨o,p,h⟩:=h
  wp_walk using hQ o,hQ p
  have r:a[((i:Nat):Int).toNat]? =none:=by simp;lia
  rw[r];have P:m.drop i= []:=BL ()
  rw[P] at h
  have Q:HT.lexLt []^f.drop i=decide (a.size<j.size):=by
   by_cases c:i<f.length
   .rw[wa c,HT.yS]
    exact(FM ()).symm
   .rw[BL (),HT.Ap]
    exact(GE ()).symm
  rw[Q] at h
  wp_walk using hQ o,hQ p
  exact h
 |succ k S=>
  intro i M N O prog w A R s h;let⟨x,g,d,y,os⟩:=s;let⟨o,p,h⟩:=h
  wp_walk using hQ o,hQ p
  have z:i<m.length:=()
  let⟨t,T⟩:=Hf C^cz z;have r:a[((i:Nat):Int).toNat]?\(.int m[i] t):=by rw[lW,<-gm];exact T
  have X:((i:Int)+1)=((i+1:Nat):Int):=by push_cast;rfl
  rw[r]
  by_cases c:i<f.length
  .obtain⟨u,Y⟩:=Hf E^cz c
   have v:j[((i:Nat):Int).toNat]?\(.int f[i] u):=by rw[lW,<-gm];exact Y
   rw[v];rw[wa z,wa c,HT.ik] at h;let⟨e,Z,F⟩:=HT.MX A.in1 #[x,g,d,y,os] m[i] t f[i] u;refine a_^Z prog w _ _ ?_;cases e with
   |true=>
    rw[ir^F.mp rfl] at h
    wp_walk
    rw[X]
    exact#[ada aeH _,ac2 entry_eq_loop (by
     rw[acU aeH _];exact S (i+1) () () () prog w A R _ #[o,p,h])]
   |false=>
    rw[tz^λq=>absurd (F.mpr q) eD] at h
    wp_walk using hQ o,hQ p
    rw[r,v];have B:=HT.N3 A.in1 #[x,g,d,y,os] m[i] t f[i] u prog w
    wp_walk using B
    exact h
  .have v:j[((i:Nat):Int).toNat]? =none:=by simp;lia
   rw[v];rw[wa z,BL (show f.length<=i by lia),HT.yR] at h
   wp_walk using hQ o,hQ p
   show R (.ok^.ret^.bool (decide (a.size<j.size))) _;rw[GE ()]
   exact h
end
section
open PySem.SeqAt
open PySem.AutoSeq1 (wpAny_loadPart')
open PySem.MeetsSeq PySem.MeetsSeq2 PySem.MeetsSeq3
def Ck(l b:Addr)(a c:Array b_)(n i:Nat)(j k:Option Addr)(m o:Array^Option b_)(e f:List Int)(r:jq a.toList e)(t:jq c.toList f):
  Meets (Builtin.«list.__lt__» #[[.ref l, .ref b],[]])
   (λ_ R s=>s.heap.get? l\{cls:= .type "list",dict:=j,data:= .seq a n,slots:=m}/\s.heap.get? b\{cls:= .type "list",dict:=k,data:= .seq c i,slots:=o}/\
    R (.ok^.ret^.bool^HT.lexLt e f) s):=by
 intro prog w A R s h;let⟨u,g,d,v,os⟩:=s;let⟨p,q,h⟩:=h;have x:=AutoSeq1.sub_list_list
 wp_walk using hQ p,hQ q
 exact#[ada aeH _,ac2 entry_eq_loop (by
  rw[acU aeH _];exact QX l b a c n i j k m o e f r t _ 0 rfl (eE _) (eE _) prog w A R _ #[p,q,h])]
end
section
variable {prog:Program} {w:World} {A:Around} {E:Value->Shared->Prop} {s:Shared}
theorem Hx(o:s.heap.IsList l a)(p:s.heap.IsList b d)(q:jq a.toList e)(r:jq d.toList f)(t:A.units<cLine)
  (h:Q (HT.lexLt e f) s):e_ (ei prog w) A (oneLt' true (.ref l)^.ref b) Q E s:=by
 rfl';obtain⟨⟨cls,v,i,x⟩,g,j,n,k⟩:=id o;obtain⟨⟨y,z,data2,B⟩,C,m,G,c⟩:=id p;ac_rfl;simp only at j k m c;subst j k m c;rw[oneLt'_eq];simp only[ac4];refine a_^wpAny_cRoomFor t ?_;refine a_^wpAny_callSpecialIfBound?_slot #[_,g,rfl] PySem.F.slot_list_lt^adq PySem.F.slot_list_lt #[_,g,rfl] PySem.F.entry_list_lt (PySem.F.args_list_lt_2 _ _) (Ck l b a d n G v z x B e f q r) #[g,C,?_];exact UF h
end
theorem Aq:∀a:List Int,HT.lexLt a a=false
 | []=>rfl
 |x::b=>by rw[HT.ik,ir rfl];exact Aq b
theorem EU:∀a b c:List Int,HT.lexLt a b=true->HT.lexLt b c=true->HT.lexLt a c=true
 | [],[],_,h,_=>by cases h
 | [],_::_,[],_,h=>by cases h
 | [],_::_,_::_,_,_=>rfl
 |_::_,[],_,h,_=>by cases h
 |_::_,_::_,[],_,h=>by cases h
 |x::i,y::j,z::k,g,e=>by
  rw[HT.ik] at*
  by_cases f:x=y
  .rw[ir f] at g
   by_cases d:y=z
   .rw[ir d] at e
    rw[ir^f.trans d];exact EU i j k g e
   .rw[tz d] at e
    rw[tz^by rw[f];exact d,f];exact e
  .rw[tz f] at g
   have l:=IR g
   by_cases d:y=z
   .rw[tz^by rw[<-d];exact f,<-d];exact g
   .rw[tz d] at e
    have m:=IR e;rw[tz ()]
    exact FM ()
theorem uS:∀a b:List Int,HT.lexLt a b=false->HT.lexLt b a=false->a=b
 | [],[],_,_=>rfl
 | [],_::_,h,_=>by cases h
 |_::_,[],_,h=>by cases h
 |x::f,y::g,c,d=>by
  rw[HT.ik] at*
  by_cases e:x=y
  .rw[ir e] at c
   rw[ir e.symm] at d;rw[e,uS f g c d]
  .rw[tz e] at c
   rw[tz^λz=>e z.symm] at d
   have:=SB c
   have:=SB d
   lia
def QQ(a b c:List Int)(h:HT.lexLt a c=true):HT.lexLt a b=true\/HT.lexLt b c=true:=by
 cases e:HT.lexLt a b with
 |true=>exact .inl rfl
 |false=>
  right
  cases d:HT.lexLt b a with
  |true=>exact EU _ _ _ d h
  |false=>rw[<-uS a b e d];exact h
def QU:KeyOrd where
 α:=List Int
 blt:=HT.lexLt
 irrefl:=Aq
 trans:=EU
 negTrans:=QQ
 total:=uS
def jY(r:List Nat):List Int:=r.map λ(n:Nat)=>(n:Int)
def p8(a b:List Nat):Prop:=HT.lexLt (jY b)^jY a=false
def Iz(H:Hp)(L:List (Addr×List Nat)):Prop:=∀p∈L,H p.1\(.lst^(jY p.2).map V.int)
def Ie(h:(jY a).map V.int=(jY b).map V.int):a=b:=by
 unfold jY at h;rw[cC,cC] at h
 induction a generalizing b with
 |nil=>cases b with
  |nil=>rfl
  |cons y b=>simp at h
 |cons x a d=>
  cases b with
  |nil=>simp at h
  |cons y b=>
   rw[cH,cH] at h
   injection h with e f
   have c:V.int (x:Int)=V.int (y:Int):=e
   injection c with c
   rw[d f,show x=y by lia]
def tF(L:List (Addr×List Nat))(v:Keyed):List Int:=match v.1 with
 | .ref a=>((L.find? λe=>e.1==a).map λe=>jY e.2).getD []
 |_=> []
def nK(c:Iz H L)(d:e∈L)(v:Value):tF L (.ref e.1,v)=jY e.2:=by
 unfold tF;dsimp only;cases b:L.find? λx=>x.1==e.1 with
 |none=>exact absurd (F5.mp b e d) (by simp)
 |some x=>
  have f:=FW b;have g:=aei b;have h:x.1=e.1:=by simpa using g
  have a:=c x f;have i:=c e d;rw[h,i] at a
  injection a with a
  injection a with a
  show jY x.2=jY e.2;rw[Ie a]
section
variable {X:Cx}
theorem zL(hu:X.A.units+64<cLine):dX X (.builtin "sorted") (λR H Q=>∃(p:Addr)(L:List (Addr×List Nat)),R= [.ref p]/\aL X.K H p (L.map λe=>V.ref e.1)/\Iz H L/\L.length<=1000/\
  ∀(q:Addr)(M:List (Addr×List Nat)),H q=none->M.Perm L->(M.map (·.2)).Pairwise p8->Q (.ref q)^upd H q^.lst (M.map λe=>V.ref e.1)):=by
 intro Y s σ H R us Q I rv h;refine ae λZ k0=>?_;let⟨p,L,rfl,hp,l,hz,q⟩:=h;let⟨u,rfl,ru⟩:=rv.one;subst ru;let⟨d,r,pl,D⟩:=I.list hp;have hl:=r.length;rw[aG] at hl;have dZ:1000<sizeLine:=∅
 refine k0 ?_
 have B:d=L.map λe=>Value.ref e.1:=by
  have:=tX (as:=L.map (·.1)) (us:=d)^by rw[cC];exact r
  rw[this,cC];rfl
 by_cases h2:L.length<2
 .refine KS.Cv pl.isList () ?_
  let⟨e,g⟩:=afy s.heap d d.toArray;have C:H (s.heap.objs.size+1)=none:=I.hok.fresh^oW _;refine#[.ref (s.heap.objs.size+1),_,I.laid (t':=s.toks) (λb o E=>aft E) (oW _) (o:= .lst (L.map λe=>V.ref e.1)) #[by rw[aG];lia,d,e,r,g],rfl,q _ L C (.refl _) ?_]
  match L,h2 with
  | [],_=>exact .nil
  | [_],_=>exact FY _ _
 .have lst:∀e∈L,∀f:c_,TS.Keeps s f->∃a:Array b_,f.heap.IsList e.1 a/\jq a.toList^jY e.2:=λe g f k=>by
   refine ae λZ k0=>?_;let⟨F,r2,p2,D⟩:=I.list^aL.of^l e g;let⟨o,G,m,n,hd⟩:=p2.isList;refine k0 ?_;exact#[F.toArray,#[o,k _ _ G,m,n,hd],by simpa using intsAre_of r2]
  refine TS.HV (O:=QU) (key:=tF L) (S:=λp=>∃e∈L,p=(Value.ref e.1,Value.ref e.1)) (k0:=oneType') pl.isList () () (λE' f Q' k J=>?_) (λE' f k x y st Q' sx sy hk J=>?_) (λv t=>?_) λout pX Jx=>?_
  .refine PySem.W.kas_kind (T:= .type "list") () (λv t=>?_) ∅ ∅ J
   rw[B] at t;let⟨e,g,rfl⟩:=cE.mp t;obtain⟨a,⟨o,G,m,_⟩,_⟩:=lst e g f k;rw[<-m];exact(PySem.W.Looks.ld G).andThen .now
  .obtain⟨i,m1,rfl⟩:=sx
   let⟨j,w,rfl⟩:=sy;rw[lt'_eq];refine Fk^adv ?_;rw[hk,keyLt'_oneType];refine ae λZ k0=>?_;let⟨i1,l1,n1⟩:=lst i m1 f k;let⟨i2,l2,n2⟩:=lst j w f k;refine k0 ?_;refine Fk^adV^adS^Hx l1 l2 n1 n2 ?_ #[rfl,?_]
   .rw[Around.in1_units,Around.in1_units];lia
   .have eb:HT.lexLt (jY i.2)^jY j.2=QU.blt (tF L (.ref i.1, .ref i.1))^tF L (.ref j.1, .ref j.1):=by
     rw[nK l m1,nK l w];rfl
    rw[eb];exact FB J
  .rw[B] at t
   let⟨e,g,rfl⟩:=cE.mp t;exact#[e,g,rfl]
  .rw[B,cC] at pX
   let⟨M,z,em⟩:=ko (λe:Addr×List Nat=>((Value.ref e.1,Value.ref e.1):Keyed)) out.toList L pX
   have N:(out.map (·.2)).toList=M.map λe=>Value.ref e.1:=by
    rw[Array.toList_map,em,cC];rfl
   let⟨c,m⟩:=afy s.heap d^out.map (·.2);have C:H (s.heap.objs.size+1)=none:=I.hok.fresh^oW _;have z9:=z.length_eq;refine#[.ref (s.heap.objs.size+1),_,I.laid (t':=s.toks) (λb o E=>aft E) (oW _) (o:= .lst (M.map λe=>V.ref e.1)) #[by rw[aG];lia,(out.map (·.2)).toList,c,?_,by rw[Array.toArray_toList];exact m],rfl,q _ M C z ?_]
   .rw[N,show(λe:Addr×List Nat=>V.ref e.1)=V.ref∘(·.1) from rfl,show(λe:Addr×List Nat=>Value.ref e.1)=Value.ref∘(·.1) from rfl,<-cC,<-cC]
    exact tR _
   .rw[em,iR] at Jx
    rw[iR];refine acS ?_ Jx;intro i j m1 w P;have GY:HT.lexLt (tF L (.ref j.1, .ref j.1))^tF L (.ref i.1, .ref i.1)=false:=P;rw[nK l^z.mem_iff.mp m1,nK l^z.mem_iff.mp w] at GY;exact GY
end
end L2
namespace PySem.SetTable
def pF(xs:Array Nat):Prop:=∀i j (a:j<xs.size),i<j->xs[i]! <xs[j]!
def P0{a:Array Nat}{i d:Nat}(h:i<a.size):a.getD i d=a[i]! :=by
 simp[Array.getD,h]
theorem z4(R:pF h)(j:Nat):∀(f lo g:Nat),g-lo<=f->lo<=g->g<=h.size->(∀i,i<lo->h[i]! <j)->(∀i,g<=i->i<h.size->j<=h[i]!)->
  lo<=below.go h j f lo g/\below.go h j f lo g<=g/\(∀i,i<below.go h j f lo g->h[i]! <j)/\∀i,below.go h j f lo g<=i->i<h.size->j<=h[i]!
 |0,lo,g,m,n,k,a,b=>by
  have:lo=g:=()
  subst this;rw[below.go];exact#[bg _,bg _,a,b]
 |f+1,lo,g,m,n,k,a,b=>by
  rw[below.go]
  by_cases c:lo<g
  .rw[ir c]
   have l:(lo+g) / 2<h.size:=()
   dsimp only;rw[P0 l]
   by_cases d:h[(lo+g) / 2]! <j
   .rw[ir d]
    have:=z4 R j f ((lo+g) / 2+1) g (by omega) () k (λi p=>by
     by_cases e:i=(lo+g) / 2
     .rw[e];exact d
     .have:=R i ((lo+g) / 2) l ();lia) b
    exact#[(),this.2.1,this.2.2]
   .rw[tz d]
    have:=z4 R j f lo ((lo+g) / 2) () () () a (λi q o=>by
     by_cases e:i=(lo+g) / 2
     .rw[e];lia
     .have:=R ((lo+g) / 2) i o ();lia)
    exact#[this.1,(),this.2.2]
  .rw[tz c]
   have:lo=g:=()
   subst this;exact#[bg _,bg _,a,b]
def lF{xs:Array Nat}(R:pF xs)(j:Nat):below xs j<=xs.size/\(∀i,i<below xs j->xs[i]! <j)/\∀i,below xs j<=i->i<xs.size->j<=xs[i]! :=by
 have:=z4 R j xs.size 0 xs.size () (eE _) (bg _) (λi h=>by lia)^λi a b=>by lia
 exact#[this.2.1,this.2.2]
def below_at(R:pF a)(h:a[i]?\j):below a j=i:=by
 obtain⟨b,e⟩:=BI.mp h;have g:a[i]! =j:=by simp[b,e]
 obtain⟨k,d,f⟩:=lF R j;apply Nat.le_antisymm
 .apply GM
  intro c
  have:=d i ()
  lia
 .apply GM
  intro c;have l:=f (below a j) (bg _) ()
  have m:=R (below a j) i b ()
  lia
def tS{t:SetTable}(R:pF t.place)(h:t.place[i]?\j):t.slot j= .live i:=by
 unfold slot;rw[below_at R h];simp[h]
def HU{t:nL}(R:pF t.place)(a:t.dummies= #[])(h:∀i:Nat,t.place[i]? ≠some j):t.slot j= .empty:=by
 unfold slot
 have b:(t.place[below t.place j]? ==some j)=false:=by
  rw[UV];exact h _
 dsimp only;rw[tz^by rw[b];exact eD]
 unfold has;rw[a];rfl
def oX(mask:Nat)(p:Probe):Probe:=
 if p.more>0 then {p with j:=p.j+1,more:=p.more-1} else
 let (i,perturb):=leap mask p.i p.perturb
 {p with j:=i,more:=runEnd mask i-i,i,perturb}
def bV(mask:Nat)(h:Int):Probe:={j:=bits h%(mask+1),more:=runEnd mask (bits h%(mask+1))-bits h%(mask+1),i:=bits h%(mask+1),perturb:=bits h,dummy:=none}
def tV(mask:Nat)(h:Int):Nat->Probe
 |0=>bV mask h
 |k+1=>oX mask^tV mask h k
def b8(mask:Nat)(h:Int)(k:Nat):Nat:=(tV mask h k).j
def O0(h:Int):bits h<2<<<64:=by
 unfold bits;have a:0<=h%(2<<<64:Int):=afd _ ∅
 have b:h%(2<<<64:Int)<2<<<64:=aeB _ ∅
 lia
def fk(mask:Nat)(i p:Nat):Nat->Nat×Nat
 |0=>(i,p)
 |r+1=>leap mask (fk mask i p r).1 (fk mask i p r).2
theorem l6(mask i p:Nat):∀r,(fk mask i p r).2=p / 32<<<r
 |0=>by simp[fk]
 |r+1=>by
  show(fk mask i p r).2 / 32=_;rw[l6 mask i p r,Nat.div_div_eq_div_mul,Nat.pow_succ]
def UC(mask:Nat)(i:Nat):Nat:=(i*5+1)%(mask+1)
def lN(mask:Nat)(i:Nat):Nat->Nat
 |0=>i
 |r+1=>UC mask^lN mask i r
theorem mJ(mask i:Nat)(a:Nat):∀b,lN mask i (a+b)=lN mask (lN mask i a) b
 |0=>rfl
 |b+1=>by
  show UC mask^lN mask i (a+b)=_;rw[mJ mask i a b];rfl
theorem xK{mask i p a:Nat}(h:(fk mask i p a).2=0):∀r,fk mask i p (a+r)=(lN mask (fk mask i p a).1 r,0)
 |0=>by rw[Nat.add_zero,lN];exact acY rfl h
 |r+1=>by
  show leap mask (fk mask i p (a+r)).1 (fk mask i p (a+r)).2=_;rw[xK h r];unfold leap;simp[lN,UC]
def yH(mask:Nat):Prop:=mask=7\/mask=31\/mask=127\/mask=511
def Zu(mask:Nat):Nat->Nat->List Nat
 |_,0=> []
 |i,n+1=>i::Zu mask (UC mask i) n
theorem Hu{mask s:Nat}:∀{i n:Nat},s∈Zu mask i n->∃r,r<n/\lN mask i r=s
 |i,0,h=>by cases h
 |i,n+1,h=>by
  rcases cQ.mp h with rfl|h
  .exact#[0,(),rfl]
  .obtain⟨r,a,e⟩:=Hu h
   refine#[r+1,(),?_]
   have:=mJ mask i 1 r
   rw[show 1+r=r+1 by lia] at this
   rw[this];exact e
def Zv{mask:Nat}(h:yH mask):(∀s,s<=mask->∃r,r<=mask/\lN mask 0 r=s)/\lN mask 0 (mask+1)=0:=by
 have key:∀m,(ak (m+1)).all (λs=>(Zu m 0 (m+1)).contains s)=true->∀s,s<=m->∃r,r<=m/\lN m 0 r=s:=λm a s b=>by
  have:=adU.mp a s^i9.mpr ()
  let⟨r,c,e⟩:=Hu^List.contains_iff_mem.mp this;exact#[r,(),e]
 rcases h with rfl|rfl|rfl|rfl
 .exact#[key 7^by decide+kernel,by decide+kernel]
 .exact#[key 31^by decide+kernel,by decide+kernel]
 .exact#[key 127^by decide+kernel,by decide+kernel]
 .exact#[key 511^by decide+kernel,by decide+kernel]
def cover{mask:Nat}(h:yH mask){i s:Nat}(d:i<=mask)(e:s<=mask):∃r,r<=mask/\lN mask i r=s:=by
 obtain⟨o,per⟩:=Zv h;obtain⟨a,f,rfl⟩:=o i d;obtain⟨b,g,rfl⟩:=o s e
 by_cases c:a<=b
 .refine#[b-a,(),?_]
  rw[<-mJ,show a+(b-a)=b by lia]
 .refine#[mask+1-a+b,(),?_]
  rw[<-mJ,show a+(mask+1-a+b)=mask+1+b by lia,mJ,per]
def cW(mask:Nat)(p:Probe):Nat->Probe
 |0=>p
 |k+1=>oX mask^cW mask p k
theorem mz(mask:Nat)(p:Probe)(a:Nat):∀b,cW mask p (a+b)=cW mask (cW mask p a) b
 |0=>rfl
 |b+1=>by
  show oX mask^cW mask p (a+b)=_;rw[mz mask p a b];rfl
theorem oj(mask:Nat)(h:Int):∀k,tV mask h k=cW mask (bV mask h) k
 |0=>rfl
 |k+1=>by
  show oX mask _=oX mask _;rw[oj mask h k]
theorem wB(mask:Nat)(p:Probe):∀c,c<=p.more->cW mask p c={p with j:=p.j+c,more:=p.more-c}
 |0,_=>rfl
 |c+1,a=>by
  show oX mask^cW mask p c=_;rw[wB mask p c ()]
  unfold oX;rw[ir^by show p.more-c>0;lia]
  show({p with j:=p.j+c+1,more:=p.more-c-1}:Probe)={p with j:=p.j+(c+1),more:=p.more-(c+1)}
  rw[show p.more-c-1=p.more-(c+1) by lia,show p.j+c+1=p.j+(c+1) by lia]
def VE(mask:Nat)(p:Probe)(a:Nat×Nat):Probe:={p with j:=a.1,more:=runEnd mask a.1-a.1,i:=a.1,perturb:=a.2}
def more_le(mask i:Nat):runEnd mask i-i<=9:=by
 unfold runEnd
 split<;>lia
def sO(mask:Nat)(p:Probe):cW mask p (p.more+1)=VE mask p^leap mask p.i p.perturb:=by
 show oX mask^cW mask p p.more=_;rw[wB mask p p.more^bg _];unfold oX;rw[tz^by show ¬p.more-p.more>0;lia]
 rfl
theorem zy(mask:Nat)(p:Probe):∀r,∃k,k<=p.more+1+10*r/\cW mask p k=VE mask p^fk mask p.i p.perturb (r+1)
 |0=>#[p.more+1,(),sO mask p]
 |r+1=>by
  let⟨k,a,e⟩:=zy mask p r;have b:=more_le mask (fk mask p.i p.perturb (r+1)).1;refine#[k+((runEnd mask (fk mask p.i p.perturb (r+1)).1-(fk mask p.i p.perturb (r+1)).1)+1),(),?_]
  rw[mz,e];exact sO mask^VE mask p^fk mask p.i p.perturb (r+1)
def HL(mask i p:Nat)(r:Nat):(fk mask i p (r+1)).1<=mask:=by
 show(((fk mask i p r).1*5+1+(fk mask i p r).2 / 32)%(mask+1))<=mask
 have:=qG ((fk mask i p r).1*5+1+(fk mask i p r).2 / 32) (show 0<mask+1 by lia)
 omega
def LX{mask i:Nat}(h:i<=mask):i+(runEnd mask i-i)<=mask:=by
 unfold runEnd
 split<;>lia
structure wz (mask:Nat) (p:Probe):Prop where
 le:p.j+p.more<=mask
 more:p.more<=9
 per:p.perturb<2<<<64
 dum:p.dummy=none
theorem wz.oX{mask:Nat}{p:Probe}(o:wz mask p):wz mask^oX mask p:=by
 unfold SetTable.oX
 split
 .next h=>exact#[by show p.j+1+(p.more-1)<=mask;have:=o.le;lia,by show p.more-1<=9;have:=o.more;lia,o.per,o.dum]
 .refine#[LX^by have:=qG (p.i*5+1+p.perturb / 32) (show 0<mask+1 by lia);show(p.i*5+1+p.perturb / 32)%(mask+1)<=mask;lia,more_le _ _,?_,o.dum]
  show p.perturb / 32<2<<<64
  have:=o.per
  lia
def wz.start(mask:Nat)(h:Int):wz mask^bV mask h:=#[LX (mask:=mask) (i:=bits h%(mask+1))^by have:=qG (bits h) (show 0<mask+1 by lia);lia,more_le _ _,O0 h,rfl]
theorem wz.cW{mask:Nat}{p:Probe}(o:wz mask p):∀k,wz mask^cW mask p k
 |0=>o
 |k+1=>(o.cW k).oX
def meets{mask:Nat}(f:yH mask){p:Probe}(o:wz mask p){s:Nat}(a:s<=mask):∃k,k<10*turns mask/\(cW mask p k).j=s:=by
 have z:(fk mask p.i p.perturb 13).2=0:=by
  rw[l6];exact Nat.div_eq_of_lt^cO o.per ∅
 let⟨r,c,e⟩:=cover f (HL mask p.i p.perturb 12) a;let⟨k,d,b⟩:=zy mask p (12+r);refine#[k,?_,?_]
 .have:=o.more
  unfold turns;lia
 .rw[b]
  show(fk mask p.i p.perturb (12+r+1)).1=s;rw[show 12+r+1=13+r by lia,xK z]
  exact e
theorem Dy(R:pF t.place)(o:t.dummies= #[])(hashAt:Nat->Int)(h:Int):∀(K d:Nat)(p:Probe),p.dummy=none->K<d->(∀i:Nat,t.place[i]? ≠some (cW t.mask p K).j)->
  ∃e,e<=K/\(∀f,f<e->∃i:Nat,t.place[i]?\(cW t.mask p f).j/\hashAt i≠h)/\
   (((∀i:Nat,t.place[i]? ≠some (cW t.mask p e).j)/\probe.go t hashAt h d p\(.empty (cW t.mask p e).j none))\/
    (∃i:Nat,t.place[i]?\(cW t.mask p e).j/\hashAt i=h/\probe.go t hashAt h d p\(.candidate (cW t.mask p e).j i^cW t.mask p (e+1))))
 |K,0,p,_,v,_=>by lia
 |K,d+1,p,q,v,r=>by
  by_cases c:∃i:Nat,t.place[i]?\p.j
  .obtain⟨i,g⟩:=c
   have s:=tS R g
   by_cases l:hashAt i=h
   .refine#[0,eE _,λf u=>by lia, .inr #[i,g,l,?_]]
    rw[probe.go,s];dsimp only;rw[ir^~~~l]
    rfl
   .cases K with
    |zero=>exact absurd g^r i
    |succ K=>
     have n:(oX t.mask p).dummy=none:=by
      unfold oX
      split<;>exact q
     have m:∀k,cW t.mask (oX t.mask p) k=cW t.mask p (k+1):=λk=>by
      have:=mz t.mask p 1 k
      rw[show 1+k=k+1 by lia] at this
      exact this.symm
     let⟨e,x,a,b⟩:=Dy R o hashAt h K d (oX t.mask p) n ()^by rw[m];exact r
     have w:probe.go t hashAt h (d+1) p=probe.go t hashAt h d^oX t.mask p:=by
      rw[probe.go,s];dsimp only;rw[tz^~~~l]
      rfl
     refine#[e+1,(),λf u=>?_,?_]
     .cases f with
      |zero=>exact#[i,g,l]
      |succ f=>
       have:=a f ()
       rw[m] at this;exact this
     .rw[m,m] at b
      rw[w];exact b
  .have c:∀i:Nat,t.place[i]? ≠some p.j:=λi g=>c #[i,g]
   refine#[0,eE _,λf u=>by lia, .inl #[c,?_]]
   rw[probe.go,HU R o c];dsimp only;rw[q];rfl
structure TOk (t:SetTable) (hs:List Int):Prop where
 few:yH t.mask
 dum:t.dummies= #[]
 rise:pF t.place
 size:t.place.size=hs.length
 le:∀(i j:Nat),t.place[i]?\j->j<=t.mask
 room:t.place.size<=t.mask
 path:∀(i:Nat)(h:Int),hs[i]?\h->∃k,t.place[i]?\(b8 t.mask h k)/\∀k',k'<k->∃i':Nat,t.place[i']?\(b8 t.mask h k')
def Fs(mask:Nat)(h:Int)(k:Nat):b8 mask h k<=mask:=by
 unfold b8;rw[oj]
 have:=((wz.start mask h).cW k).le
 lia
def TOk.empty(T:TOk t a):∃s,s<=t.mask/\∀i:Nat,t.place[i]? ≠some s:=by
 apply GM;intro c
 have all:∀s∈ak (t.mask+1),s∈t.place.toList:=λs a=>by
  apply GM;intro n;refine c #[s,by have:=i9.mp a;lia,λi b=>n ?_]
  rw[<-gm] at b;exact cL b
 have:=Wb.bf adX all
 rw[jQ,c9] at this
 have:=T.room
 lia
theorem TOk.probe(T:TOk t g)(hashAt:Nat->Int)(h:Int)(k:Nat):
  ∃d,k<=d/\(∀e,k<=e->e<d->∃i:Nat,t.place[i]?\(b8 t.mask h e)/\hashAt i≠h)/\
   (((∀i:Nat,t.place[i]? ≠some^b8 t.mask h d)/\t.probe hashAt h^tV t.mask h k\(.empty (b8 t.mask h d) none))\/
    (∃i:Nat,t.place[i]?\(b8 t.mask h d)/\hashAt i=h/\t.probe hashAt h^tV t.mask h k\(.candidate (b8 t.mask h d) i^tV t.mask h (d+1)))):=by
 let⟨s,j,l⟩:=T.empty;have o:=(wz.start t.mask h).cW k;rw[<-oj] at o;let⟨K,m,n⟩:=meets T.few o j;have f:∀c,cW t.mask (tV t.mask h k) c=tV t.mask h (k+c):=λc=>by rw[oj,oj,<-mz]
 let⟨d,p,a,b⟩:=Dy T.rise T.dum hashAt h K (10*turns t.mask) (tV t.mask h k) o.dum m^by rw[n];exact l
 refine#[k+d,(),λe q r=>?_,?_]
 .have:=a (e-k) ()
  rw[f,show k+(e-k)=e by lia] at this
  exact this
 .rw[f,f] at b
  exact b
def l0{xs:Array a}(x:a)(e:p<=xs.size)(i:Nat):(insertAt xs p x)[i]? =if i<p then xs[i]? else if i=p then some x else xs[i-1]? :=by
 rw[<-gm,aeZ];have lt:(xs.toList.take p).length=p:=by rw[iS,c9];lia
 by_cases c:i<p
 .rw[ir c,gJ (),FX c,gm]
 .rw[tz c]
  by_cases d:i=p
  .subst d
   rw[ir rfl,iQ (),lt,oV];rfl
  .rw[tz d,iQ (),lt]
   obtain⟨m,b⟩:∃m,i-p=m+1:=#[i-p-1,()]
   rw[b,yC,D3,gm]
   congr 1;lia
def iE(xs:Array a)(p:Nat)(x:a):(insertAt xs p x).size=xs.size+1:=by
 rw[<-c9,(afm xs p x).length_eq];simp
def kC{a:Array Nat}{i j:Nat}(h:a[i]?\j):a[i]! =j:=by
 obtain⟨b,e⟩:=BI.mp h;simp[b,e]
def N4{xs:Array Nat}(R:pF xs){j:Nat}(h:∀i:Nat,xs[i]? ≠some j):pF^insertAt xs (below xs j) j:=by
 let⟨t,w,x⟩:=lF R j;have g:=l0 (xs:=xs) j t;intro a b y A;rw[iE] at y
 have m:∀i,i<xs.size+1->∃v,(insertAt xs (below xs j) j)[i]?\v/\((i<below xs j/\xs[i]?\v)\/(i=below xs j/\v=j)\/(below xs j<i/\xs[i-1]?\v)):=λi r=>by
  rw[g i]
  by_cases c:i<below xs j
  .rw[ir c,sF ()]
   exact#[_,rfl, .inl #[c,rfl]]
  .rw[tz c]
   by_cases d:i=below xs j
   .rw[ir d];exact#[j,rfl, .inr^.inl #[d,rfl]]
   .rw[tz d,sF ()]
    exact#[_,rfl, .inr^.inr #[(),rfl]]
 let⟨G,B,C⟩:=m a ()
 let⟨H,E,s⟩:=m b ()
 rw[kC B,kC E];have lo:∀i v,i<below xs j->xs[i]?\v->v<j:=λi v n f=>by have:=w i n;rw[kC f] at this;exact this
 have r:∀i v,below xs j<=i->xs[i]?\v->j<v:=λi v n f=>by
  have:=x i n (BI.mp f).1
  rw[kC f] at this
  have:v≠j:=λz=>h i^by rw[f,z]
  lia
 have o:∀i k v u,xs[i]?\v->xs[k]?\u->i<k->v<u:=λi k v u n f F=>by
  have:=R i k (BI.mp f).1 F
  rw[kC n,kC f] at this;exact this
 rcases C with ⟨q,p⟩ | ⟨q,rfl⟩ | ⟨q,p⟩
 .rcases s with ⟨l,e⟩ | ⟨l,rfl⟩ | ⟨l,e⟩
  .exact o _ _ _ _ p e A
  .exact lo _ _ q p
  .have:=lo _ _ q p;have:=r (b-1) _ () e;lia
 .rcases s with ⟨l,e⟩ | ⟨l,rfl⟩ | ⟨l,e⟩
  .lia
  .lia
  .exact r (b-1) _ () e
 .rcases s with ⟨l,e⟩ | ⟨l,rfl⟩ | ⟨l,e⟩
  .lia
  .lia
  .exact o _ _ _ _ p e (by omega)
def RK{xs:Array Nat}(R:pF xs){j s:Nat}:(∃i:Nat,(insertAt xs (below xs j) j)[i]?\s)↔s=j\/∃i:Nat,xs[i]?\s:=by
 obtain⟨a,_,_⟩:=lF R j;have g:=l0 (xs:=xs) j a
 constructor
 .rintro⟨i,h⟩
  rw[g i] at h
  split at h
  .exact .inr #[i,h]
  .split at h
   .exact .inl (Do h).symm
   .exact .inr #[_,h]
 .rintro(rfl| ⟨i,h⟩)
  .exact#[below xs s,by rw[g,tz (),ir rfl]]
  .by_cases c:i<below xs j
   .exact#[i,by rw[g,ir c];exact h]
   .exact#[i+1,by rw[g,tz (),tz ()];exact h]
theorem TOk.put(T:TOk t l)(v:∀i:Nat,t.place[i]? ≠some^b8 t.mask h k)(w:∀a,a<k->∃i:Nat,t.place[i]?\(b8 t.mask h a))(room:t.place.size+1<=t.mask):
  (t.put^b8 t.mask h k).2=below t.place^b8 t.mask h k/\below t.place^b8 t.mask h k<=l.length/\
  TOk (t.put^b8 t.mask h k).1 (l.take^below t.place^b8 t.mask h k++h::l.drop^below t.place^b8 t.mask h k):=by
 let⟨x,z,A⟩:=lF T.rise^b8 t.mask h k;have g:=l0 (xs:=t.place) (b8 t.mask h k) x;have sz:=T.size;have o:=λs=>RK (s:=s) (j:=b8 t.mask h k) T.rise;refine#[rfl,(),T.few,?_,N4 T.rise v,?_,?_,?_,?_]
 .show(if has t.dummies _=true then _ else t.dummies)= #[]
  rw[T.dum];rfl
 .show(insertAt t.place _ _).size=_
  rw[iE,dg,iS,dU,oS];lia
 .intro i j p
  have p:(insertAt t.place (below t.place^b8 t.mask h k)^b8 t.mask h k)[i]?\j:=p
  rcases(o j).mp #[i,p] with rfl| ⟨u,e⟩
  .exact Fs _ _ _
  .exact T.le _ _ e
 .show(insertAt t.place _ _).size<=_
  rw[iE];exact room
 .intro i e b
  show ∃f,(insertAt t.place (below t.place^b8 t.mask h k)^b8 t.mask h k)[i]?\(b8 t.mask e f)/\∀a,a<f->∃u:Nat,(insertAt t.place (below t.place^b8 t.mask h k)^b8 t.mask h k)[u]?\(b8 t.mask e a);have lt:(l.take^below t.place^b8 t.mask h k).length=below t.place^b8 t.mask h k:=by rw[iS];lia
  by_cases c:i<below t.place^b8 t.mask h k
  .rw[gJ (),FX c] at b
   let⟨f,q,r⟩:=T.path i e b;exact#[f,by rw[g,ir c];exact q,λa n=>(o _).mpr^.inr^r a n]
  .rw[iQ (),lt] at b
   by_cases d:i=below t.place^b8 t.mask h k
   .rw[d,oV] at b
    cases(Do b);exact#[k,by rw[d,g,tz (),ir rfl],λa n=>(o _).mpr^.inr^w a n]
   .obtain⟨m,y⟩:∃m,i-below t.place^b8 t.mask h k=m+1:=#[i-below t.place^b8 t.mask h k-1,()]
    rw[y,yC,D3] at b;let⟨f,q,r⟩:=T.path _ e b;refine#[f,?_,λa n=>(o _).mpr^.inr^r a n];rw[g,tz c,tz d,show i-1=below t.place^b8 t.mask h k+m by lia]
    exact q
theorem yp(mask i p:Nat):∀r,fk mask i p (r+1)=fk mask (leap mask i p).1 (leap mask i p).2 r
 |0=>rfl
 |r+1=>by
  show leap mask (fk mask i p (r+1)).1 (fk mask i p (r+1)).2=_;rw[yp mask i p r];rfl
def Own(o:Array^Option Nat)(s:Nat):Prop:=(o.getD s^some 0).isNone=false
theorem zY{mask:Nat}(e:Array^Option Nat):∀(f:Nat)(p:Probe),p.j=p.i->p.more=runEnd mask p.i-p.i->p.i<=runEnd mask p.i->(∃r,r<f/\¬Own e (fk mask p.i p.perturb r).1)->
  ∃h,layClean.free mask e f p.i p.perturb\(cW mask p h).j/\¬Own e (cW mask p h).j/\∀g,g<h->Own e (cW mask p g).j
 |0,p,_,_,_,#[r,v,_]=>by lia
 |f+1,p,w,E,F,#[r,v,q]=>by
  have run:∀c,c<=p.more->(cW mask p c).j=p.i+c:=λc t=>by rw[wB mask p c t];show p.j+c=_;rw[w]
  cases l:(ak (runEnd mask p.i+1-p.i)).find? λk=>(e.getD (p.i+k)^some 0).isNone with
  |some k=>
   let⟨x,m,bs,o,y⟩:=List.find?_eq_some_iff_append.mp l;have G:k<runEnd mask p.i+1-p.i:=i9.mp^by rw[o];simp
   have z:m.length=k:=by
    have A:m.length<(ak (runEnd mask p.i+1-p.i)).length:=by rw[o];simp
    have:=wd (n:=runEnd mask p.i+1-p.i) (i:=m.length)^~~~A
    rw[o,iQ^bg _,oV] at this;exact(Do this).symm
   refine#[k,?_,?_,λg B=>?_]
   .rw[layClean.free,l,run k ()]
   .rw[run k ()]
    unfold Own;rw[x];exact Bool.noConfusion
   .rw[run g ()]
    have C:g∈m:=by
     have:=wd (n:=runEnd mask p.i+1-p.i) (i:=g) ()
     rw[o,gJ ()] at this
     exact cL this
    have:=y g C
    unfold Own;exact Bool.not_eq_true' _▸this
  |none=>
   have all:=F5.mp l
   have own:∀c,c<=p.more->Own e (p.i+c):=λc t=>by
    have:=all c^i9.mpr ()
    unfold Own;exact BQ.mpr this
   cases r with
   |zero=>exact absurd (own 0^eE _) q
   |succ r=>
    have u:=sO mask p
    let⟨h,a,b,c⟩:=zY e f (VE mask p^leap mask p.i p.perturb) rfl rfl (by
     show(leap mask p.i p.perturb).1<=runEnd mask (leap mask p.i p.perturb).1;unfold runEnd;split<;>lia) #[r,(),by rw[yp] at q;exact q]
    rw[<-u] at a b c;have s:∀k,cW mask (cW mask p (p.more+1)) k=cW mask p (p.more+1+k):=λk=>(mz mask p (p.more+1) k).symm;refine#[p.more+1+h,?_,?_,λg B=>?_]
    .rw[layClean.free,l,<-s,<-a,u];rfl
    .rw[<-s];exact b
    .by_cases d:g<=p.more
     .rw[run g d];exact own g d
     .have:=c (g-(p.more+1)) ()
      rw[s,show p.more+1+(g-(p.more+1))=g by lia] at this
      exact this
structure Laid (mask:Nat) (hs:List Int) (owner:Array^Option Nat) (ss:List Nat):Prop where
 size:owner.size=mask+1
 len:ss.length=hs.length
 nd:ss.Nodup
 le:∀s∈ss,s<=mask
 get:∀s,s<=mask->∀k,owner.getD s^some 0\k↔ss[k]?\s
 path:∀(k:Nat)(h:Int),hs[k]?\h->∃c,ss[k]?\(b8 mask h c)/\∀c',c'<c->b8 mask h c'∈ss
def Laid.own{mask:Nat}{c:List Int}{a:Array^Option Nat}{b:List Nat}(L:Laid mask c a b){s:Nat}(h:s<=mask):Own a s↔s∈b:=by
 unfold Own
 constructor
 .intro e
  cases o:a.getD s^some 0 with
  |none=>rw[o] at e;cases e
  |some k=>exact cL^(L.get s h k).mp o
 .intro e
  let⟨k,d⟩:=i6 e;rw[(L.get s h k).mpr d];rfl
def JN{mask:Nat}(f:yH mask){l:List Int}{g:Array^Option Nat}{m:List Nat}(L:Laid mask l g m)(room:l.length<=mask)(h:Int):
  ∃j,layClean.free mask g (turns mask) (bits h%(mask+1))^bits h\j/\Laid mask (l++ [h]) (g.setIfInBounds j^some l.length) (m++ [j]):=by
 have o:=wz.start mask h
 obtain⟨s,C,F⟩:∃s,s<=mask/\s∉m:=by
  apply GM;intro c
  have all:∀s∈ak (mask+1),s∈m:=λs l=>by
   apply GM;intro n;exact c #[s,by have:=i9.mp l;lia,n]
  have:=Wb.bf adX all
  rw[jQ,L.len] at this;lia
 have z:(fk mask (bV mask h).i (bV mask h).perturb 13).2=0:=by
  rw[l6];exact Nat.div_eq_of_lt^cO o.per ∅
 let⟨r,N,e⟩:=cover f (HL mask (bV mask h).i (bV mask h).perturb 12) C
 have O:(bV mask h).i<=mask:=by
  have:=qG (bits h) (show 0<mask+1 by lia)
  show bits h%(mask+1)<=mask;lia
 let⟨p,a,b,c⟩:=zY g (turns mask) (bV mask h) rfl rfl (by unfold runEnd;split<;>lia) #[13+r,by unfold turns;lia,by
  rw[xK z];show ¬Own g^lN mask _ r;rw[e,L.own C];exact F]
 have E:∀k,(cW mask (bV mask h) k).j=b8 mask h k:=λk=>by unfold b8;rw[oj]
 rw[E] at a b;have u:=Fs mask h p;rw[L.own u] at b;refine#[b8 mask h p,a,?_,?_,?_,?_,?_,?_]
 .rw[adC];exact L.size
 .rw[dg,dg,L.len];rfl
 .exact i7.mpr #[L.nd,by simp,λx t y G z=>b^by rw[<-eZ.mp G,<-z];exact t]
 .intro x t
  rcases cP.mp t with t|t
  .exact L.le x t
  .rw[eZ.mp t];exact u
 .intro x t k
  have w:(g.setIfInBounds (b8 mask h p)^some l.length).getD x^some 0=if b8 mask h p=x then some l.length else g.getD x^some 0:=by
   rw[Iw,Iw,aet]
   by_cases d:b8 mask h p=x
   .rw[ir d,ir d,ir^by rw[L.size];lia];rfl
   .rw[tz d,tz d]
  rw[w]
  by_cases d:b8 mask h p=x
  .rw[ir d]
   constructor
   .intro e
    cases(Do e);rw[<-L.len,iQ^bg _,oV,<-d];rfl
   .intro e
    by_cases q:k<m.length
    .rw[gJ q] at e
     exact absurd (by rw[d];exact cL e) b
    .have:k<(m++ [b8 mask h p]).length:=(cR.mp e).1
     rw[dg] at this
     have:k<m.length+1:=this
     rw[show k=m.length by lia,L.len]
  .rw[tz d,L.get x t k]
   constructor
   .intro e
    rw[gJ (cR.mp e).1];exact e
   .intro e
    by_cases q:k<m.length
    .rw[gJ q] at e;exact e
    .have:k<(m++ [b8 mask h p]).length:=(cR.mp e).1
     rw[dg] at this
     have:k<m.length+1:=this
     rw[show k=m.length by lia,iQ^bg _,oV] at e
     exact absurd (Do e) d
 .intro k H v
  by_cases q:k<l.length
  .rw[gJ q] at v
   let⟨I,w,J⟩:=L.path k H v;exact#[I,by rw[gJ^by rw[L.len];exact q];exact w,λA B=>j8 _^J A B]
  .have:k<(l++ [h]).length:=(cR.mp v).1
   rw[dg] at this
   have:k<l.length+1:=this
   have M:k=l.length:=()
   subst M;rw[iQ^bg _,oV] at v;cases(Do v);refine#[p,by rw[<-L.len,iQ^bg _,oV];rfl,λA B=>j8 _ ?_]
   have:=c A B
   rw[E] at this;exact(L.own^Fs _ _ _).mp this
def JO(mask:Nat):Laid mask [] (d6 (mask+1) none) [] where
 size:=by simp
 len:=rfl
 nd:=i8
 le:=λs h=>by cases h
 get:=λs a k=>by
  rw[Iw,Array.getElem?_replicate,ir ()]
  simp
 path:=λk h e=>by cases e
def C9(mask:Nat)(acc:Option (Array^Option Nat×Nat))(h:Int):Option (Array^Option Nat×Nat):=do
 let (owner,k) <-acc
 let j <-layClean.free mask owner (turns mask) (bits h%(mask+1)) (bits h)
 pure (owner.setIfInBounds j^some k,k+1)
theorem Dc{mask:Nat}(f:yH mask):∀(b done:List Int)(a:Array^Option Nat)(d:List Nat),Laid mask done a d->done.length+b.length<=mask+1->
  ∃c i,b.foldl (C9 mask)^some (a,done.length)\(c,done.length+b.length)/\Laid mask (done++b) c i
 | [],done,a,d,L,_=>#[a,d,rfl,by rw[e8];exact L]
 |h::b,done,a,d,L,l=>by
  rw[dU] at l;let⟨j,e,m⟩:=JN f L () h
  have n:C9 mask (some (a,done.length)) h\(a.setIfInBounds j^some done.length,done.length+1):=by
   unfold C9;simp[e]
  let⟨c,i,g,k⟩:=Dc f b (done++ [h]) _ _ m^by rw[dg];show done.length+1+b.length<=_;lia
  refine#[c,i,?_,by rw[k8] at k;exact k]
  rw[List.foldl_cons,n];rw[dg] at g;have g:b.foldl (C9 mask)^some (a.setIfInBounds j^some done.length,done.length+1)\(c,done.length+1+b.length):=g;rw[g,dU]
  congr 2;lia
def EO{mask:Nat}(f:yH mask)(b:List Int)(room:b.length<=mask+1):∃a c,layClean mask b.toArray\a/\Laid mask b a c:=by
 rfl';let⟨a,c,e,L⟩:=Dc f b [] _ _ (JO mask)^~~~room
 ac_rfl;refine#[a,c,?_,by simpa using L]
 have:layClean mask b.toArray=(b.foldl (C9 mask)^some (d6 (mask+1) none,0)).map (·.1):=by
  unfold layClean;rw[List.foldl_toArray];rfl
 have e:b.foldl (C9 mask)^some (d6 (mask+1) none,0)\(a,[].length+b.length):=e;rw[this,e];rfl
def fj(mask:Nat)(a:Array^Option Nat):List (Nat×Nat):=(ak (mask+1)).filterMap λj=>(a.getD j none).map (j,·)
def Nz{mask:Nat}{b:List Int}{a:Array^Option Nat}{c:List Nat}(L:Laid mask b a c){j k:Nat}:(j,k)∈fj mask a↔c[k]?\j:=by
 unfold fj;rw[aey]
 have dflt:∀s,s<=mask->a.getD s none=a.getD s^some 0:=λs b=>by
  rw[Iw,Iw,sF^by rw[L.size];lia];rfl
 constructor
 .rintro⟨s,d,e⟩
  have d:=i9.mp d;rw[dflt s ()] at e
  cases o:a.getD s^some 0 with
  |none=>rw[o] at e;cases e
  |some f=>
   rw[o] at e;have e:=Do e;have h:s=j:=(adw e).1;have i:f=k:=(adw e).2;rw[<-h,<-i];exact(L.get s () f).mp o
 .intro e
  have g:=L.le j^cL e;refine#[j,i9.mpr (),?_]
  rw[dflt j g,(L.get j g k).mpr e];rfl
def JR(mask:Nat)(c:Array^Option Nat):((fj mask c).map (·.1)).Pairwise (·<·):=by
 unfold fj;rw[iR,List.pairwise_filterMap];refine adL.imp λ {a b} h x d y e=>?_;cases f:c.getD a none with
 |none=>rw[f] at d;cases d
 |some i=>
  cases g:c.getD b none with
  |none=>rw[g] at e;cases e
  |some j=>
   rw[f] at d;rw[g] at e;cases(Do d);cases(Do e);exact h
theorem QO{mask:Nat}(f:yH mask)(l:List Int)(room:l.length<=mask)(finger moves:Nat)(led plain:Bool):
  ∃t g,laid mask finger moves led plain l.toArray\(t,g)/\t.mask=mask/\t.led=led/\t.plain=plain/\t.moves=moves/\g.toList.Perm^ak l.length/\TOk t (g.toList.map λk=>l.getD k 0):=by
 rfl';let⟨d,u,e,L⟩:=EO f l ()
 have m:=λ {j k:Nat}=>Nz (j:=j) (k:=k) L;have v:=JR mask d;ac_rfl
 have G:((fj mask d).map (·.2)).Nodup:=by
  rw[Iy,iR];rw[iR] at v;refine v.imp_of_mem λ {a b} H q r z=>?_;let⟨I,J⟩:=a;let⟨M,bk⟩:=b;have A:=m.mp H;have N:=m.mp q;have z:J=bk:=z;rw[z,N] at A
  have:=Do A
  have r:I<M:=r;lia
 have perm:((fj mask d).map (·.2)).Perm^ak l.length:=by
  refine(yB G adX).mpr λk=>?_;rw[cE,i9]
  constructor
  .rintro⟨⟨j,k'⟩,h,rfl⟩
   have:=(cR.mp^m.mp h).1
   rw[L.len] at this;exact this
  .intro n
   have O:k<u.length:=by rw[L.len];exact n
   exact#[(u[k],k),m.mpr^cz O,rfl]
 have P:(fj mask d).length=l.length:=by
  have:=perm.length_eq
  simpa using this
 refine#[{mask,place:=((fj mask d).map (·.1)).toArray,dummies:= #[],finger,led,moves,plain},((fj mask d).map (·.2)).toArray,?_,rfl,rfl,rfl,rfl,by simpa using perm,?_]
 .unfold laid
  rw[e];rfl
 have w:∀(i j:Nat),((fj mask d).map (·.1)).toArray[i]?\j↔∃k,(fj mask d)[i]?\(j,k):=λi j=>by
  rw[ad5,dh];cases o:(fj mask d)[i]? with
  |none=>simp
  |some x=>
   let⟨a,b⟩:=x;simp
 have y:∀s,s∈u->∃i:Nat,((fj mask d).map (·.1)).toArray[i]?\s:=λs Q=>by
  let⟨k,n⟩:=i6 Q;let⟨i,p⟩:=i6^m.mpr n;exact#[i,(w i s).mpr #[k,p]]
 refine#[f,rfl,?_,?_,?_,?_,?_]
 .intro a b q r
  have q:b<((fj mask d).map (·.1)).length:=q
  have:=BJ.mp v a b () q r
  simp[show a<(fj mask d).length by simpa using(show a<((fj mask d).map (·.1)).length by lia),show b<(fj mask d).length by simpa using q]
  simpa using this
 .simp
 .intro i j h
  let⟨k,n⟩:=(w i j).mp h;exact L.le j^cL^m.mp^cL n
 .show((fj mask d).map (·.1)).toArray.size<=mask
  simp[P];exact room
 .intro i B p
  rw[dh] at p;cases o:(fj mask d)[i]? with
  |none=>
   have:(((fj mask d).map (·.2)).toArray.toList)[i]? =none:=by simp[o]
   rw[this] at p;cases p
  |some x=>
   let⟨j,k⟩:=x;have R:(((fj mask d).map (·.2)).toArray.toList)[i]?\k:=by simp[o]
   rw[R] at p;have C:=m.mp^cL o;have n:k<l.length:=by rw[<-L.len];exact(cR.mp C).1
   have S:l[k]?\B:=by
    rw[<-Do p];show _\(l.getD k 0);rw[cV,cz n];rfl
   let⟨c,E,T⟩:=L.path k B S;rw[C] at E;refine#[c,(w i _).mpr #[k,by rw[o,Do E]],λX Y=>y _^T X Y]
end PySem.SetTable
namespace PySem
open SetTable PyProof.Rows
def gY(w:World):Bool:=w.params.followText "set-order"
structure oG (bt:Bool) (o:Obj) (es:Array (Int×Value)) (ep:Nat) (t:SetTable):Prop where
 ex:o.ExactSet
 dat:o.data= .set es ep t
 tok:TOk t (es.toList.map (·.1))
 pl:t.plain=true
 ld:t.led= !bt
 few:5*es.size<3*t.mask
theorem TOk.fits(T:TOk t a):t.fits a.length=true:=by
 simp only[SetTable.fits,SetTable.fill,T.dum,T.size,yF,ac0,decide_eq_true_eq,true_and]
 have:=T.room
 rw[T.size] at this;simpa using this
theorem oG.fits(S:oG w o a b t):t.fits a.size=true:=by
 have:=TOk.fits S.tok
 simpa using this
def MY{mask n:Nat}(f:yH mask)(h:5*n<3*mask):n+1<=mask:=by
 rcases f with rfl|rfl|rfl|rfl<;>lia
def Jg{mask n:Nat}(f:yH mask)(a:3*mask<=5*n)(b:5*(n-1)<3*mask)(c:n<=306):yH (sizeAbove^grown n-1)/\5*n<3*(sizeAbove^grown n-1)/\n<=sizeAbove^grown n-1/\sizeAbove^grown n<=512:=by
 rcases f with rfl|rfl|rfl|rfl
 .have:n=5:=()
  subst this;exact#[.inr^.inl rfl,∅,∅,∅]
 .have:n=19:=()
  subst this;exact#[.inr^.inr^.inl rfl,∅,∅,∅]
 .have:n=77:=()
  subst this;exact#[.inr^.inr^.inr rfl,∅,∅,∅]
 .lia
theorem Kl{t:nL}{c:Array (Int×b_)}(T:TOk t^c.toList.map (·.1))(d:t.tooFull=true)(near:5*(c.size-1)<3*t.mask)(small:c.size<=306):
  ∃f a,t.relaid (c.map (·.1))^grown c.size\(f,a)/\a.toList.Perm^ak c.size/\(a.filterMap (c[·]?)).toList.Perm c.toList/\(a.filterMap (c[·]?)).size=c.size/\
   TOk f^(a.filterMap (c[·]?)).toList.map (·.1)/\f.plain=t.plain/\f.led=t.led/\5*c.size<3*f.mask/\sizeAbove^grown c.size<=512:=by
 have sz:t.place.size=c.size:=by rw[T.size];simp
 have m:3*t.mask<=5*c.size:=by
  unfold SetTable.tooFull SetTable.fill at d;rw[T.dum,sz] at d;simp at d;lia
 rfl';let⟨o,p,q,r⟩:=Jg T.few m near small;let⟨f,a,e,em,s,u,n,g,v⟩:=QO o (c.toList.map (·.1)) (~~~q) t.finger (t.movedTo (sizeAbove^grown c.size-1)) t.led t.plain
 rw[aG,c9] at g;ac_rfl
 have i:(a.filterMap (c[·]?)).toList.Perm c.toList:=by
  rw[afn];exact(g.filterMap _).trans^by rw[filterMap_getElem?_range]
 have w:(a.filterMap (c[·]?)).size=c.size:=by rw[<-c9,i.length_eq,c9]
 refine#[f,a,?_,g,i,w,?_,u,s,by rw[em];exact p,r]
 .unfold SetTable.relaid
  rw[show c.map (·.1)=(c.toList.map (·.1)).toArray by apply aeX.mp;simp]
  exact e
 .have:(a.filterMap (c[·]?)).toList.map (·.1)=a.toList.map λk=>(c.toList.map (·.1)).getD k 0:=by
   rw[afn];have lt:∀k∈a.toList,k<c.size:=λk h=>i9.mp^g.mem_iff.mp h;generalize a.toList=l at lt
   induction l with
   |nil=>rfl
   |cons k l x=>
    have h:=lt k (dH ..);rw[List.filterMap_cons_some (b:=c[k])^by simp[h],cH,cH,x λj y=>lt j^fq _ y]
    simp[h]
  rw[this];exact v
end PySem
set_option maxHeartbeats 1000000
namespace PySem
open SetTable PyProof.Rows
section
variable {prog:Program} {w:World} {A:Around} {E:Value->Shared->Prop} {s:Shared}
def yu{h:Heap}(g:h.get? a\o)(e:o.data= .set f d t)(b:Array (Int×b_))(c:nL):
  (h.update a^Obj.putSet b c).get? a\{o with data:= .set b (d+1) c}:=by
 have:=P3 (Obj.putSet b c) g^by rw[putSet_of b c e];rfl
 rw[putSet_of b c e] at this;exact this
def zN{Q₁:b_->c_->Prop}
  (h:Q₁ (.ref s.heap.objs.size) {s with heap:=s.heap.push {cls:= .type "set",dict:=none,data:= .set #[] 0^.fresh 0 0 (!gY w)}}):
  hB (ei prog w) A (.call (.builtin "set.__new__") #[[.type "set"],[]]) (wants Q₁ E) s:=by
 refine adx ?_;refine a_^aew F.newCall_set_0^mo #[ada F.plain_set_new _,ac2 F.entry_set_new ?_];rw[acU F.plain_set_new _];unfold Builtin.«set.__new__» Builtin.Frozenset.newClass;have a:=sub_set_self;let⟨b,g,d,c,os⟩:=s;dsimp only
 wp_walk
 refine aeY^mo ?_;dsimp only;simp only[newObj];refine a_^wpAny_alloc^mo ?_;exact mo h
theorem Ec 
  (h:Q (.ref s.heap.objs.size) {s with heap:=s.heap.push {cls:= .type "set",dict:=none,data:= .set #[] 0^.fresh 0 0 (!gY w)}}):
  e_ (ei prog w) A (call (.type "set") []) Q E s:=by
 let⟨c,u,i⟩:=F.called_set.mro;have j:=F.called_set.made;have k:=F.called_set.sub;refine adm^adx ?_;show e_ _ _ (callAny (.type "set") _) _ _ _;refine mo #[aeA _^by decide+kernel,ac2 F.entry_type_call ?_]
 rw[Around.under_plain (weight_type_call_type "set" [] []) rfl];have v:=F.called_set.notType;have x:=F.called_set.canCreate;have l:=F.typeCall_set_0
 repeat (any_goals (first|assumption|wp_step))
 refine ac1 (zN (E:=E) (Q₁:=λobj a=>obj= .ref s.heap.objs.size/\a={s with heap:=s.heap.push {cls:= .type "set",dict:=none,data:= .set #[] 0^.fresh 0 0 (!gY w)}}) #[rfl,rfl]) λr a b=>?_
 cases r with
 |error e=>exact b
 |ok m=>
  cases m with
  |ret obj=>
   let⟨rfl,rfl⟩:=b;have n:(s.heap.push {cls:= .type "set",dict:=none,data:= .set #[] 0^.fresh 0 0 (!gY w)}).get? s.heap.objs.size\{cls:= .type "set",dict:=none,data:= .set #[] 0^.fresh 0 0 (!gY w)}:=GT _ rfl;have o:Shared.TypeIs {s with heap:=s.heap.push {cls:= .type "set",dict:=none,data:= .set #[] 0^.fresh 0 0 (!gY w)}} (.ref s.heap.objs.size) "set":=#[_,n,rfl]
   have p:=F.called_set.init.lookup;have q:=F.called_set.init.bind^.ref s.heap.objs.size
   repeat (any_goals (first|assumption|wp_step))
   refine ac1 (adt (R:=wants (λr g=>r= .none/\Q (.ref s.heap.objs.size) g) E) F.called_set.init.plain F.entry_set_init^check_set_init o ?_) λd g f=>?_
   .unfold Builtin.«set.__init__» noKeywords
    wp_walk
    exact#[rfl,h]
   .cases d with
    |error e=>exact f
    |ok t=>
     cases t with
     |ret r=>
      let⟨rfl,y⟩:=f
      repeat (any_goals (first|assumption|wp_step))
     |_=>exact f.elim
  |_=>exact b.elim
def oG.new(w:f5):oG (gY w) {cls:= .type "set",dict:=none,data:= .set #[] 0^.fresh 0 0 (!gY w)} #[] 0 (.fresh 0 0 (!gY w)) where
 ex:=#[rfl,rfl,rfl]
 dat:=rfl
 tok:=#[.inl rfl,rfl,λi j a=>by simp[SetTable.fresh] at a,rfl,λi j h=>by simp[SetTable.fresh] at h,by simp[SetTable.fresh],λi h e=>by simp at e]
 pl:=rfl
 ld:=rfl
 few:=by simp[SetTable.fresh]
end
section
variable {prog:Program} {w:World} {A:Around} {E:Value->Shared->Prop} {s:Shared}
def ItemsAre.ints(h:ItemsAre (intKind prog w) c b):∀v∈b,∃i t,v= .int i t:=by
 induction h with
 |nil=>intro v a;simp at a
 | @cons k f c b d _ e=>
  intro v a
  rcases cQ.mp a with rfl|a
  .obtain⟨t,rfl⟩:=Value.isInt_shape d
   exact#[k,t,rfl]
  .exact e v a
def qE(f:g6 (fD prog w) s.heap j a)(h:Q false s):e_ (ei prog w) A (k6 8^.ref a) Q E s:=by
 have k:=f.typeIs;let⟨o,c,n,l,z,m,p⟩:=f;delta k6;refine a_^aed k ?_;dsimp only;simp only[beq_self_eq_true, ↓reduceIte];refine a_^mo ?_;simp only[aeI,fo, ↓reduceIte];refine a_^adp l m ?_;dsimp only;refine a_ ?_;rw[<-F6];refine ae0 _ (λb r d=>r.1=none/\d=s/\∀v∈b,∃i t,v=Value.int i t) _ ?_ ?_ _ _ #[rfl,rfl,p.ints]
 .rintro v b r d ⟨e,rfl,g⟩
  let⟨i,t,rfl⟩:=g v dH;refine a_^aew (show k6 7^.int i t=pure false from by delta k6;rfl) ?_
  simp only[fo,Pi];exact mo #[rfl,rfl,λu q=>g u^fq _ q]
 .rintro⟨x,y⟩ d ⟨e,rfl,_⟩
  simp only at e;subst e;exact mo h
def Ik(j:g6 (fD prog w) s.heap n b)(stored:List b_)(o:∀y∈stored,∃f a,y=Value.ref a/\g6 (fD prog w) s.heap f a)(h:Q false s):
  e_ (ei prog w) A (searchCouldBeSeen (.ref b) stored) Q E s:=by
 unfold searchCouldBeSeen;refine a_ ?_;refine ae0 _ (λd r g=>r.1=none/\g=s/\∀y∈d,∃f a,y=Value.ref a/\g6 (fD prog w) s.heap f a) _ ?_ ?_ _ _ #[rfl,rfl,o]
 .rintro y d r g ⟨i,rfl,k⟩
  let⟨f,a,rfl,l⟩:=k y dH;have m:∀y∈d,∃f a,y=Value.ref a/\g6 (fD prog w) g.heap f a:=λy p=>k y^fq _ p;have e:(carriedByValue^Value.ref b&&carriedByValue^Value.ref a)=false:=by simp[carriedByValue]
  dsimp only;rw[e,afu]
  by_cases c:(b==a)=true
  .rw[ir c]
   exact mo #[rfl,rfl,m]
  .rw[tz c]
   refine a_^wpAny_eqIsQuiet_tuple j ?_;simp only[aeI,fo,Pi];refine a_^wpAny_eqIsQuiet_tuple l ?_;simp only[aeI,fo,Pi];refine a_^qE j ?_;simp only[fo,Pi];refine a_^qE l ?_;simp only[fo,Pi];exact mo #[rfl,rfl,m]
 .rintro⟨q,t⟩ g ⟨i,rfl,_⟩
  simp only at i;subst i;exact mo h
def Cy(f:g6 (fD prog w) s.heap j a)(h:Q true s):e_ (ei prog w) A (hashByValue 8^.ref a) Q E s:=by
 rfl';have l:=f.typeIs;let⟨o,c,n,m,k,p,q⟩:=f;ac_rfl;unfold hashByValue;refine a_^aej l F.slot_tuple_hash.lookup ?_;dsimp only;refine a_^adp m p ?_;refine a_ ?_;show e_ _ _ (forIn c _ _) _ _ s;rw[<-F6];refine ae0 _ (λb r d=>r.1=none/\d=s/\∀v∈b,∃i t,v=Value.int i t) _ ?_ ?_ _ _ #[rfl,rfl,q.ints]
 .rintro v b r d ⟨e,rfl,g⟩
  let⟨i,t,rfl⟩:=g v dH;refine a_^aew (show hashByValue 7^.int i t=pure true from by unfold hashByValue;rfl) ?_
  simp only[aeI,fo,Pi];exact mo #[rfl,rfl,λu x=>g u^fq _ x]
 .rintro⟨z,B⟩ d ⟨e,rfl,_⟩
  simp only at e;subst e;exact mo h
def OR(prog:Program)(w:World)(h:Heap)(b:Array (Int×Value)):Prop:=∀(i:Nat)(e:Int×Value),b[i]?\e->∃k a,e=(tupleKeyHash (intKind prog w) k, .ref a)/\IsTupleKey (intKind prog w) h k a
def Sw(a:Array (Int×Value))(i:Nat):Int:=(a[i]?.map (·.1)).getD 0
def PK(h:yH m):m%2=1:=by rcases h with rfl|rfl|rfl|rfl<;>rfl
def DD{a:Array Nat}(R:pF a){i j v:Nat}(b:a[i]?\v)(c:a[j]?\v):i=j:=by
 rw[<-below_at R b,<-below_at R c]
theorem sE(hu:A.units<cLine)(ho:s.heap.get? a\o)(S:oG (gY w) o q M t)(P:OR prog w s.heap q)(hk:g6 (fD prog w) s.heap u b)
  (Ud:(∃(i:Nat)(c:Addr),q[i]?\(f_ (fD prog w) u, .ref c)/\g6 (fD prog w) s.heap u c)->∀r:Option Nat,(B=false->r.isSome=true)->Q (.there r) s)
  (Ey:(∀(i:Nat)(e:Int×b_),q[i]?\e->∀c,e.2= .ref c->¬g6 (fD prog w) s.heap u c)->∀g,(∀i:Nat,t.place[i]? ≠some^b8 t.mask (f_ (fD prog w) u) g)->(∀j,j<g->∃i:Nat,t.place[i]?\(b8 t.mask (f_ (fD prog w) u) j))->
   Q (.free (b8 t.mask (f_ (fD prog w) u) g) false) s):
  e_ (ei prog w) A (setSearch a (.ref b) (f_ (fD prog w) u) B) Q E s:=by
 generalize hh:f_ (fD prog w) u=h at*;have T:=S.tok;obtain⟨s0,hs0,N⟩:=T.empty;obtain⟨K,hK,eK⟩:=meets T.few (wz.start t.mask h) hs0;have eK:b8 t.mask h K=s0:=by unfold b8;rw[oj];exact eK
 have kb:K<6000:=by
  have:10*turns t.mask<=5260:=by
   rcases T.few with e|e|e|e<;>rw[e]<;>decide
  lia
 have sz:t.place.size=q.size:=by rw[T.size];simp
 have hN:(t.mask%2==0)=false:=by rw[PK T.few];rfl
 have O:∀(n:Nat)(k:Nat)(l:Nat)(R:Option Probe),K+1-k<=n->n<l->k<=K->R.getD^t.probeStart h=tV t.mask h k->(∀j,j<k->∃i:Nat,t.place[i]?\(b8 t.mask h j))->
   (∀(i:Nat) c,q[i]?\(h, .ref c)->g6 (fD prog w) s.heap u c->∀C,t.place[i]?\(b8 t.mask h C)->k<=C)->
   e_ (ei prog w) A (ix a (.ref b) h B l R) Q E s:=by
  intro n
  induction n with
  |zero=>intro k l R h1 h2 h3;lia
  |succ n ih=>
   intro k l R h1 h2 h3 h4 h5 h6;obtain⟨f,rfl⟩:∃f,l=f+1:=#[l-1,()]
   unfold ix;refine a_^adb ho S.dat S.fits ?_;dsimp only;unfold SetTable.gaveWay;rw[hN];simp only[fo,Pi]
   have X:∀(i:Nat)(e:Int×b_),q[i]?\e->Sw q i=e.1:=λi e d=>by
    show(q[i]?.map (·.1)).getD 0=e.1;rw[d];rfl
   generalize I:t.probe _ h^R.getD^t.probeStart h=r;have I:t.probe (Sw q) h^tV t.mask h k=r:=by rw[<-h4];exact I
   generalize Sw q=hA at X I;obtain⟨g,yL,hp,alt⟩:=TOk.probe T hA h k
   have k0K:g<=K:=by
    apply GM;intro c;obtain⟨i,d,_⟩:=hp K h3 ()
    rw[eK] at d;exact N i d
   have UQ:∀j,j<g->∃i:Nat,t.place[i]?\(b8 t.mask h j):=λj h'=>by
    by_cases c:j<k
    .exact h5 j c
    .obtain⟨i,d,_⟩:=hp j () h'
     exact#[i,d]
   have F:∀(i:Nat) c,q[i]?\(h, .ref c)->g6 (fD prog w) s.heap u c->∀C,t.place[i]?\(b8 t.mask h C)->g<=C:=λi c d hc C Y=>by
    have hkx:=h6 i c d hc C Y;apply GM;intro z;obtain⟨p,G,f9⟩:=hp C hkx ()
    have:i=p:=DD T.rise Y G
    subst this;exact f9^X i _ d
   rcases alt with ⟨Qi,M⟩ | ⟨i,d,Jr,M⟩
   .rw[M] at I
    subst I;dsimp only;refine mo^Ey (λi e d c hc Z=>?_) g Qi UQ;obtain⟨j,a',e1,gL⟩:=P i e d;subst e1;cases hc
    have:j=u:=gL.inj Z
    subst this;rw[hh] at d;obtain⟨ky,hy1,hy2⟩:=T.path i h^by rw[dh,gm,d];rfl
    have lt:=F i _ d Z ky hy1
    by_cases c1:g<ky
    .obtain⟨p,G⟩:=hy2 g c1
     exact Qi p G
    .have:ky=g:=()
     subst this;exact Qi i hy1
   .rw[M] at I
    subst I;dsimp only
    have Y7:i<q.size:=by
     have:=(BI.mp d).1
     lia
    obtain⟨j,c,e1,gL⟩:=P i q[i]^sF Y7;have L:q[i]?\(f_ (fD prog w) j, .ref c):=by rw[sF Y7,e1]
    have H:e_ (ei prog w) A (match q[i]? with
      |some (fst,y)=>do
       let m <-io [y]^eqBool y^Value.ref b
       let J <-setState a
       if (B&&m)=true then pure (SetFound.there none)
        else
         match J.2.snd.sameMemory t.moves t.mask with
         |some same=>
          match if same=true then J.2.snd.slot^b8 t.mask h g else Slot.empty with
          |Slot.live p=>
           match J.fst[p]? with
           |some (fst,y')=>do
            let v <-isSame y' y
            let Bk <-pure^if v=true then some p else none
            match Bk with
             |none=>do
              rule "set.search.anew"
              ix a (Value.ref b) h B f none
             |some p=>
              if m=true then pure (SetFound.there^some p)
              else ix a (Value.ref b) h B f^some^tV t.mask h (g+1)
           |none=>do
            let Bk <-pure none
            match Bk with
             |none=>do
              rule "set.search.anew"
              ix a (Value.ref b) h B f none
             |some p=>
              if m=true then pure (SetFound.there^some p)
              else ix a (Value.ref b) h B f^some^tV t.mask h (g+1)
          |x=>do
           let Bk <-pure none
           match Bk with
            |none=>do
             rule "set.search.anew"
             ix a (Value.ref b) h B f none
            |some p=>
             if m=true then pure (SetFound.there^some p)
             else ix a (Value.ref b) h B f^some^tV t.mask h (g+1)
         |x=>ka "set.changed-during-lookup:is-the-new-block-at-the-old-address"
      |x=>ka "internal:set-entry") Q E s:=by
     rw[L];dsimp only;refine a_^KF^wpAny_eqBool_tuple hu gL hk ?_;refine a_^adb ho S.dat S.fits ?_;dsimp only;have sm:t.sameMemory t.moves t.mask\true:=by unfold SetTable.sameMemory;simp
     have f9:j≠u->e_ (ei prog w) A (ix a (Value.ref b) h B f^some^tV t.mask h (g+1)) Q E s:=λne=>by
      by_cases kk:g=K
      .subst kk
       rw[eK] at d;exact absurd d^N i
      refine ih (g+1) f _ () () () rfl (λUt h''=>?_) λp c' G ph C Y=>?_
      .by_cases z:Ut=g
       .subst z;exact#[i,d]
       .exact UQ Ut ()
      .have l1:=F p c' G ph C Y
       have:C≠g:=λz=>by
        subst z
        have:p=i:=DD T.rise Y d
        subst this;rw[L] at G;cases G;exact ne^gL.inj ph
       lia
     have there:j=u->∀r:Option Nat,(B=false->r.isSome=true)->Q (.there r) s:=λe=>by
      subst e;rw[hh] at L;exact Ud #[i,c,L,gL]
     by_cases e:j=u
     .rw[FM e,Bool.and_true]
      cases B with
      |true=>exact mo (there e none λz=>absurd z ∅)
      |false=>
       simp only[fo,Pi];rw[sm];dsimp only;rw[ir rfl,tS T.rise d];dsimp only;rw[L];dsimp only;refine a_^wpAny_isSame_ref_self ?_;refine a_^mo ?_;simp only[ac4];exact mo (there e (some i) λ_=>rfl)
     .rw[GE e,aeq]
      simp only[fo,Pi];rw[sm];dsimp only;rw[ir rfl,tS T.rise d];dsimp only;rw[L];dsimp only;refine a_^wpAny_isSame_ref_self ?_;refine a_^mo ?_;simp only[ac4];exact f9 e
    by_cases led:(!t.led)=true
    .rw[ir led]
     refine a_^Ik hk _ (λy hy=>?_) ?_
     .obtain⟨e,he,rfl⟩:=cE.mp hy
      have he:=(Array.mem_filter.mp^Array.mem_toList_iff.mp he).1;obtain⟨p,G,rfl⟩:=Array.mem_iff_getElem.mp he;obtain⟨Ut,c',e1,aa5⟩:=P p q[p]^sF G;exact#[Ut,c',by rw[e1],aa5]
     .simp only[fo,Pi]
      exact H
    .rw[tz led]
     exact H
 refine O (K+1) 0 100000 none (bg _) () (eE _) rfl (λj h'=>by lia) λi c d hc C _=>eE _
end
section
variable {prog:Program} {w:World} {A:Around} {E:Value->Shared->Prop} {s:Shared}
def xX(b:Addr)(a:Array (Int×Value)):byScan (.ref b) a=false:=rfl
def Cw(k:A.units<cLine)(g:s.heap.get? a\o)(S:oG (gY w) o f j t)(P:OR prog w s.heap f)(l:g6 (fD prog w) s.heap d b)
  (m:(∃(i:Nat)(c:Addr),f[i]?\(f_ (fD prog w) d, .ref c)/\g6 (fD prog w) s.heap d c)->∀r:Option Nat,r.isSome=true->Q r s)
  (n:(∀(i:Nat)(e:Int×b_),f[i]?\e->∀c,e.2= .ref c->¬g6 (fD prog w) s.heap d c)->Q none s):
  e_ (ei prog w) A (setFind a (.ref b)^f_ (fD prog w) d) Q E s:=by
 unfold setFind setFindIn;refine a_^adb g S.dat S.fits ?_;dsimp only;rw[xX];simp only[fo,Pi];refine a_ (sE k g S P l (λh r p=>?_) λh q _ _=>?_)
 .exact mo^m h r^p rfl
 .exact mo^n h
def FG(hu:A.units<cLine)(n:s.heap.get? a\o)(S:oG (gY w) o d ep t)(P:OR prog w s.heap d)(M:g6 (fD prog w) s.heap g b)(room:d.size<=305)
  (hy:(∃(i:Nat)(c:Addr),d[i]?\(f_ (fD prog w) g, .ref c)/\g6 (fD prog w) s.heap g c)->Q false s)
  (N:(∀(i:Nat)(e:Int×b_),d[i]?\e->∀c,e.2= .ref c->¬g6 (fD prog w) s.heap g c)->∀C O R wO t',Heap.SameBut a s.heap C->C.get? a\O->oG (gY w) O R wO t'->R.toList.Perm (d.toList++ [(f_ (fD prog w) g, .ref b)])->Q true {s with heap:=C}):
  e_ (ei prog w) A (setAddHashed a (.ref b)^f_ (fD prog w) g) Q E s:=by
 have y:=S.dat;have X:=S.fits;have T:=S.tok;have sz:t.place.size=d.size:=by rw[T.size];simp
 unfold setAddHashed setAddHashedIn;refine KF^a_^adb n y X ?_;dsimp only;rw[xX];simp only[fo,Pi];refine a_ (sE hu n S P M (λh r hr=>?_) λh k F UQ=>?_)
 .exact mo^hy h
 .dsimp only
  refine a_^adb n y X ?_;dsimp only;let⟨p1,p2,l⟩:=TOk.put T F UQ^by rw[sz];exact MY T.few S.few
  rw[p1]
  have e:(SetTable.insertAt d (below t.place^b8 t.mask (f_ (fD prog w) g) k) (f_ (fD prog w) g,Value.ref b)).toList.map (·.1)=(d.toList.map (·.1)).take^below t.place^b8 t.mask (f_ (fD prog w) g) k++f_ (fD prog w) g::(d.toList.map (·.1)).drop^below t.place^b8 t.mask (f_ (fD prog w) g) k:=by
   rw[aeZ];simp
  rw[<-e] at l;have pl:(t.put^b8 t.mask (f_ (fD prog w) g) k).1.plain=true:=S.pl;have ld:(t.put^b8 t.mask (f_ (fD prog w) g) k).1.led= !gY w:=S.ld;have mk:(t.put^b8 t.mask (f_ (fD prog w) g) k).1.mask=t.mask:=rfl;generalize hx:((f_ (fD prog w) g,Value.ref b):Int×b_)=x at*;generalize hp:below t.place^b8 t.mask (f_ (fD prog w) g) k=p at*;generalize (t.put^b8 t.mask (f_ (fD prog w) g) k).1=m at*;rw[ir pl];refine a_^Cy M ?_;simp only[ac4,Bool.not_false,Bool.true_and];have q:(SetTable.insertAt d p x).size=d.size+1:=SetTable.iE ..;have G:=afm d p x;rw[BP] at G;refine a_^wpAny_storeSet_of n y ?_^by rw[q];refine fits_of_scanBound ?_;show d.size+1<4096;lia
  have z:=yu n y (SetTable.insertAt d p x) m;have u:=Heap.SameBut.update s.heap a^Obj.putSet (SetTable.insertAt d p x) m
  have H:m.fits (SetTable.insertAt d p x).size=true:=by
   have:=TOk.fits l
   rw[aG,c9] at this;exact this
  by_cases j:m.tooFull=true
  .rw[ir j]
   refine ae λG0 k=>?_;let⟨B,f,Y,D,pf,Z,T2,I,l2,f2,J⟩:=Kl l j (by rw[q,mk];have:=S.few;lia)^by rw[q];lia
   refine k ?_;rw[q] at Y f2 J;refine a_ ?_;unfold setRelay;refine a_^adb z rfl H ?_;dsimp only;have big:512<=sizeLine:=∅
   rw[tz (),Y]
   have v:(f.filterMap ((SetTable.insertAt d p x)[·]?)).size=d.size+1:=by rw[Z,q]
   refine a_ (aew (a:=(f.filterMap ((SetTable.insertAt d p x)[·]?),B)) ?_ ?_)
   .show(if ((f.filterMap ((SetTable.insertAt d p x)[·]?)).size !=(SetTable.insertAt d p x).size)=true then _ else pure (f.filterMap ((SetTable.insertAt d p x)[·]?),B))=_
    rw[tz^by rw[Z];simp]
   .dsimp only
    refine wpAny_storeSet_of z rfl ?_^by rw[v];refine fits_of_scanBound ?_;show d.size+1<4096;lia
    have G9:=yu z rfl (f.filterMap ((SetTable.insertAt d p x)[·]?)) B;exact mo^N h _ _ _ _ B (u.trans^Heap.SameBut.update _ a _) G9 #[S.ex,rfl,T2,by rw[I];exact pl,by rw[l2];exact ld,by rw[v];exact f2]^pf.trans G
  .rw[tz j]
   refine mo^N h _ _ _ _ m u z #[S.ex,rfl,l,pl,ld,?_] G;have L:m.tooFull=false:=by simpa using j
   unfold SetTable.tooFull SetTable.fill at L;rw[l.dum,l.size] at L;simp at L;lia
variable {a b:Addr} {o:Obj} {es:Array (Int×Value)} {ep:Nat} {t:SetTable} {ks:List Int}
open Classical in
def pT(prog:Program)(w:World)(h:Heap)(es:Array (Int×Value))(ks:List Int):Bool:=decide (∃(i:Nat)(c:Addr),es[i]?\(tupleKeyHash (intKind prog w) ks, .ref c)/\IsTupleKey (intKind prog w) h ks c)
def Qb(h:∀(i:Nat)(e:Int×Value),es[i]?\e->∀c,e.2= .ref c->¬IsTupleKey (intKind prog w) s.heap ks c):pT prog w s.heap es ks=false:=by
 classical
 unfold pT;refine GE λhH=>?_;obtain⟨i,c,d,f⟩:=hH;exact h i _ d c rfl f
def Ni(h:∃(i:Nat)(c:Addr),es[i]?\(tupleKeyHash (intKind prog w) ks, .ref c)/\IsTupleKey (intKind prog w) s.heap ks c):pT prog w s.heap es ks=true:=by
 classical
 unfold pT;exact FM h
def vW(k:A.units+64<cLine)(d:s.heap.get? a\o)(S:oG (gY w) o es ep t)(P:OR prog w s.heap es)(e:g6 (fD prog w) s.heap ks b)
  (h:∀f,Q (pT prog w s.heap es ks) {s with toks:=f}):e_ (ei prog w) A (contains (.ref a)^.ref b) Q E s:=by
 have c:s.TypeIs (.ref a) "set":=#[o,d,S.ex.1];unfold contains
 try with_reducible refine KF ?_
 refine a_^aej c F.slot_set_contains.lookup ?_;show e_ _ _ (if (some^Value.builtin "set.__contains__"==some Value.none)=true then _ else _) _ E s;rw[tz^by rw[beq_builtin_none];exact eD]
 refine a_^wpAny_callSpecialUnlessNone?_slot (name:=Str.ofString "__contains__") c F.slot_set_contains
  (acR F.slot_set_contains c entry_set_contains ?_^F.args_set_contains_2 _ _)
 unfold Builtin.«frozenset.__contains__» Builtin.Frozenset.oneOther;simp only[List.isEmpty_nil,bind_assoc];unfold Builtin.Frozenset.addrOf Builtin.Frozenset.withSetAsKey setContains;refine a_^mo ?_
 try dsimp only
 refine a_^mo ?_
 try dsimp only
 refine a_^wpAny_tryCatch ?_;refine KF ?_;refine a_^wpAny_pyHash_tuple ?_ e ?_
 .show A.units+1<cLine;lia
 refine a_ (Cw (s:={s with toks:=s.toks+(ks.length+1)}) ?_ d S P e (λg r i=>?_) λj=>?_)
 .show A.units+1<cLine;lia
 .refine mo ?_
  show e_ _ _ (ret^Value.bool r.isSome) _ _ _;rw[i]
  have:=h (s.toks+(ks.length+1))
  rw[Ni g] at this;exact mo #[_,rfl,UF this]
 .refine mo ?_
  have:=h (s.toks+(ks.length+1))
  rw[Qb j] at this;exact mo #[_,rfl,UF this]
end
end PySem
set_option maxHeartbeats 4000000
namespace L2
open PySem PySem.Spec PyProof.Rows
inductive FV where
 |int (i:Int) |bl (b:Bool)
inductive XD where
 |vw (b:Bool) (ps:List (Int×Int)) |dj (ks:List (Int×Int)) (vs:List FV)
inductive D where
 |aQ|bl (b:Bool) |int (i:Int) |str (x:fA) |lst (l:List D) |tup (l:List D) |qy (ns:List Int) |rng (lo hi:Int) |obj (a:Addr) |gI (w:List^List Nat) |set (b:Bool) (l:List Int) |x (k:XD) |err (C:Addr) (ks:List fA) (l:List D)
structure DC where
 K:ad
 C:Addr
def ax(n:Nat):D:= .int n
def aB(r:List Nat):D:= .lst^r.map ax
def bR(w:List^List Nat):D:= .lst^w.map aB
def aag(a:Array (Int×Value))(b:List Int):Prop:=(∀e∈a.toList,∃k t,e=(hashInt k,Value.int k t))/\b.Nodup/\∃c,IntsAre (a.toList.map (·.2)) c/\c.Perm b
def V1(b:Bool)(a:Addr)(d:List Int)(h:Heap):Prop:=∃o c e t,h.get? a\o/\oG b o c e t/\aag c d
def bo(p:Int×Int):Int:=reduceHash^Builtin.Tuple.tupleHashOf [hashInt p.1,hashInt p.2]
inductive fG (H:Hp):List (Int×Addr)->List (Int×Int)->Prop
 |nil:fG H [] []
 |cons {a:Addr} {p:Int×Int} {es:List (Int×Addr)} {ps:List (Int×Int)}:H a\(.tup [.int p.1, .int p.2])->fG H es ps->fG H ((bo p,a)::es) (p::ps)
theorem fG.mono{H a:Hp}(s:aC H a):∀{b:List (Int×Addr)}{c:List (Int×Int)},fG H b c->fG a b c
 |_,_, .nil=> .nil
 |_,_, .cons h t=> .cons (s _ _ h)^t.mono s
def fY(b:Bool)(a:Addr)(d:List (Int×Addr))(h:Heap):Prop:=∃o c f t,h.get? a\o/\oG b o c f t/\c.toList.Perm (d.map λe=>(e.1,Value.ref e.2))
def Mx:FV->Value->Prop
 | .int i,v=>∃t,v= .int i t
 | .bl b,v=>v= .bool b
inductive Ms:List DictEntry->List (Int×Addr)->List FV->Prop
 |nil:Ms [] [] []
 |cons {e:DictEntry} {l:List DictEntry} {h:Int} {a:Addr} {v:FV} {es:List (Int×Addr)} {vs:List FV}:e.hash=h->e.key= .ref a->Mx v e.val->Ms l es vs->Ms (e::l) ((h,a)::es) (v::vs)
def bb(a:Addr)(c:List (Int×Addr))(d:List FV)(h:Heap):Prop:=(a==sysModules)=false/\∃o b e,h.get? a\o/\o.ExactDict/\o.data= .dict b e/\Ms b.toList c d
def MC(H:Hp)(a:Addr)(d:Heap->Prop):XD->Prop
 | .vw b e=>e.Nodup/\∃c,d=fY b a c/\fG H c e
 | .dj ks f=>ks.Nodup/\∃c,d=bb a c f/\fG H c ks
theorem MC.mono{H c:Hp}(s:aC H c):∀{k:XD},MC H a d k->MC c a d k
 | .vw _ _,#[n,b,e,p]=>#[n,b,e,p.mono s]
 | .dj _ _,#[n,b,e,p]=>#[n,b,e,p.mono s]
def Tb(H:Hp)(d:Option Addr)(a:List fA)(b:List V):Prop:=(d=none/\a= []/\b= [])\/∃c,d\c/\H c\(BZ c^a.zip b)/\a.length=b.length
theorem Tb.mono{H d:Hp}(s:aC H d)(h:Tb H e f g):Tb d e f g:=h.imp id λ#[i,a,b,c]=>#[i,a,s _ _ b,c]
mutual
inductive Dv (Z:DC) (H:Hp):V->D->Prop
 |aQ:Dv Z H .aQ .aQ
 |bl (b:Bool):Dv Z H (.bl b)^.bl b
 |int (i:Int):Dv Z H (.int i)^.int i
 |str (x:fA) (h:PyData.strOk x=true):Dv Z H (.str x)^.str x
 |lst {a:Addr} {xs:List V} {ds:List D}:H a\(.lst xs)->DvAll Z H xs ds->Dv Z H (.ref a)^.lst ds
 |tup {a:Addr} {xs:List V} {ds:List D}:H a\(.tup xs)->DvAll Z H xs ds->Dv Z H (.ref a)^.tup ds
 |obj (a:Addr):Dv Z H (.ref a)^.obj a
 |rng {a:Addr} {lo hi:Int}:H a\(.rng lo hi)->Dv Z H (.ref a)^.rng lo hi
 |qy {a:Addr} {ns:List Int}:aL Z.K H a^ns.map V.int->ns.length<=63->Dv Z H (.ref a)^.qy ns
 |gI {p dx R:Addr} {w:List^List Nat}:H p\(.ins Z.C dx [("rows", .ref R)])->Dv Z H (.ref R)^bR w->Wb.Good w->1<=w.length->w.length<=14->Dv Z H (.ref p)^.gI w
 |set {a:Addr} {b:Bool} {ns:List Int}:H a\(.ext^V1 b a ns)->Dv Z H (.ref a)^.set b ns
 |x {a:Addr} {φ:Heap->Prop} {k:XD}:H a\(.ext φ)->MC H a φ k->Dv Z H (.ref a)^.x k
 |err {a C:Addr} {od:Option Addr} {ks:List fA} {xs:List V} {ds:List D}:H a\(rG C a od)->Tb H od ks xs->DvAll Z H xs ds->Dv Z H (.ref a)^.err C ks ds
inductive DvAll (Z:DC) (H:Hp):List V->List D->Prop
 |nil:DvAll Z H [] []
 |cons {v:V} {vs:List V} {d:D} {ds:List D}:Dv Z H v d->DvAll Z H vs ds->DvAll Z H (v::vs) (d::ds)
end
def aL.mono{K:ad}{H b:Hp}(s:aC H b)(h:aL K H a xs):aL K b a xs:=by
 rcases h with (h| ⟨o,h⟩) |h
 .exact .inl^.inl^s _ _ h
 .exact .inl^.inr #[o,s _ _ h]
 .exact .inr h
section
variable {Z:DC} {H H' G G':Hp}
def DvI(Z:DC)(H:Hp)(v:V)(d:D):Prop:=D.casesOn (motive_1:=λ_=>Prop) d (v= .aQ) (λb=>v= .bl b) (λi=>v= .int i) (λx=>v= .str x) (λl=>∃a c,v= .ref a/\H a\(.lst c)/\DvAll Z H c l) (λl=>∃a c,v= .ref a/\H a\(.tup c)/\DvAll Z H c l) (λn=>∃a,v= .ref a/\aL Z.K H a (n.map V.int)/\n.length<=63) (λ_ _=>True) (λ_=>True) (λw=>∃p x R,v= .ref p/\H p\(.ins Z.C x [("rows", .ref R)])/\Dv Z H (.ref R) (bR w)/\Wb.Good w/\1<=w.length/\w.length<=14) (λ_ _=>True) (λk=>∃a f,v= .ref a/\H a\(.ext f)/\MC H a f k) λC k l=>∃a o c,v= .ref a/\H a\(rG C a o)/\Tb H o k c/\DvAll Z H c l
def Dv.inv(h:Dv Z H v d):DvI Z H v d:=Dv.casesOn h rfl (λ_=>rfl) (λ_=>rfl) (λ_ _=>rfl) (λh e=>#[_,_,rfl,h,e]) (λh e=>#[_,_,rfl,h,e]) (λ_=>⟨⟩) (λ_=>⟨⟩) (λh z=>#[_,rfl,h,z]) (λh r g a b=>#[_,_,_,rfl,h,r,g,a,b]) (λ_=>⟨⟩) (λh k=>#[_,_,rfl,h,k]) λh k e=>#[_,_,_,rfl,h,k,e]
def Dv.ofInt(h:Dv Z H v^.int i):v= .int i:=h.inv
def Dv.AF(h:Dv Z H v^.bl b):v= .bl b:=h.inv
def Dv.iG(h:Dv Z H v^.lst b):∃a xs,v= .ref a/\H a\(.lst xs)/\DvAll Z H xs b:=h.inv
def Dv.xv{v:V}{ds:List D}(h:Dv Z H v^.tup ds):∃a xs,v= .ref a/\H a\(.tup xs)/\DvAll Z H xs ds:=h.inv
def Dv.AH{v:V}{ns:List Int}(h:Dv Z H v^.qy ns):∃a,v= .ref a/\aL Z.K H a (ns.map V.int)/\ns.length<=63:=h.inv
def Dv.iX{k:XD}(h:Dv Z H v^.x k):∃a f,v= .ref a/\H a\(.ext f)/\MC H a f k:=h.inv
def Dv.iW_(h:Dv Z H v^.gI w):∃p x R,v= .ref p/\H p\(.ins Z.C x [("rows", .ref R)])/\Dv Z H (.ref R) (bR w)/\Wb.Good w/\1<=w.length/\w.length<=14:=h.inv
def DvL(Z:DC)(H:Hp)(c:List V)(d:List D):Prop:=d.casesOn (motive:=λ_=>Prop) (c= []) λd e=>∃v f,c=v::f/\Dv Z H v d/\DvAll Z H f e
def DvAll.inv(h:DvAll Z H c d):DvL Z H c d:=DvAll.casesOn h rfl λa b=>#[_,_,rfl,a,b]
def DvAll.Zn(h:DvAll Z H a []):a= []:=h.inv
def DvAll.E6(h:DvAll Z H c (d::e)):∃v f,c=v::f/\Dv Z H v d/\DvAll Z H f e:=h.inv
def DvAll.ofOne(h:DvAll Z H c [d]):∃v,c= [v]/\Dv Z H v d:=by
 obtain⟨v,e,rfl,a,b⟩:=h.E6;rw[b.Zn];exact#[v,rfl,a]
def DvAll.nY(h:DvAll Z H f [d,e]):∃v u,f= [v,u]/\Dv Z H v d/\Dv Z H u e:=by
 obtain⟨v,g,rfl,a,b⟩:=h.E6;obtain⟨u,rfl,c⟩:=b.ofOne;exact#[v,u,rfl,a,c]
theorem Dv.mono(s:aC H H')(h:Dv Z H v d):Dv Z H' v d:=
 Dv.rec (motive_1:=λv d _=>Dv Z H' v d) (motive_2:=λc e _=>DvAll Z H' c e) .aQ .bl .int .str (λh _ a=> .lst (s _ _ h) a) (λh _ a=> .tup (s _ _ h) a) .obj (λh=> .rng^s _ _ h) (λh z=> .qy (h.mono s) z) (λh _ g a b r=> .gI (s _ _ h) r g a b) (λh=> .set^s _ _ h) (λh k=> .x (s _ _ h)^k.mono s) (λh k _ a=> .err (s _ _ h) (k.mono s) a) .nil (λ_ _ a b=> .cons a b) h
def DvAll.ind{p:List V->List D->Prop}(n:p [] [])(c:∀{v:V}{e:List V}{d:D}{f:List D},Dv Z H v d->DvAll Z H e f->p e f->p (v::e) (d::f)){f:List D}(h:DvAll Z H e f):p e f:=
 DvAll.rec (motive_1:=λ_ _ _=>True) (motive_2:=λe f _=>p e f) trivial (λ_=>trivial) (λ_=>trivial) (λ_ _=>trivial) (λ_ _ _=>trivial) (λ_ _ _=>trivial) (λ_=>trivial) (λ_=>trivial) (λ_ _=>trivial) (λ_ _ _ _ _ _=>trivial) (λ_=>trivial) (λ_ _=>trivial) (λ_ _ _ _=>trivial) n (λa b _ q=>c a b q) h
theorem DvAll.mono(s:aC H H')(h:DvAll Z H c d):DvAll Z H' c d:=h.ind .nil λa _ b=> .cons (a.mono s) b
theorem DvAll.length{a:List V}(h:DvAll Z H a b):a.length=b.length:=h.ind (p:=λa b=>a.length=b.length) rfl λ_ _ e=>KM (·+1) e
def DvAll.get{i:Nat}{d:D}(h:DvAll Z H b c)(e:c[i]?\d):∃v,b[i]?\v/\Dv Z H v d:=by
 revert i
 refine h.ind (p:=λb c=>∀{i:Nat},c[i]?\d->∃v,b[i]?\v/\Dv Z H v d) (λe=>by cases e) λa _ f i e=>?_
 cases i with
 |zero=>cases e;exact#[_,rfl,a]
 |succ i=>exact f e
def DvAll.GO{b:List V}{c:List D}{i:Nat}{v:V}(h:DvAll Z H b c)(e:b[i]?\v):∃d,c[i]?\d/\Dv Z H v d:=by
 revert i
 refine h.ind (p:=λb c=>∀{i:Nat},b[i]?\v->∃d,c[i]?\d/\Dv Z H v d) (λe=>by cases e) λa _ f i e=>?_
 cases i with
 |zero=>cases e;exact#[_,rfl,a]
 |succ i=>exact f e
def DvAll.append(h:DvAll Z H c d)(k:DvAll Z H e f):DvAll Z H (c++e) (d++f):=h.ind (p:=λc d=>DvAll Z H (c++e) (d++f)) k λa _ b=> .cons a b
theorem DvAll.take:∀{b:List V}{c:List D}(n:Nat),DvAll Z H b c->DvAll Z H (b.take n)^c.take n
 |_,_,0,_=>DvAll.nil
 |_,_,n+1, .nil=>DvAll.nil
 |_,_,n+1, .cons a d=>DvAll.cons a^d.take n
theorem DvAll.drop:∀{b:List V}{c:List D}(n:Nat),DvAll Z H b c->DvAll Z H (b.drop n)^c.drop n
 |_,_,0,h=>h
 |_,_,n+1, .nil=>by simpa using DvAll.nil
 |_,_,n+1, .cons a d=>by simpa using d.drop n
theorem DvAll.set{v:V}(h:Dv Z H v d):∀{c:List V}{e:List D}(n:Nat),DvAll Z H c e->DvAll Z H (c.set n v)^e.set n d
 |_,_,_, .nil=> .nil
 |_,_,0, .cons a b=> .cons h b
 |_,_,n+1, .cons a b=> .cons a^DvAll.set h n b
theorem DvAll.ints:∀(a:List Int),DvAll Z H (a.map V.int)^a.map D.int
 | []=> .nil
 |n::a=> .cons (.int n)^DvAll.ints a
def DvAll.snoc{e:List D}(a:DvAll Z H c e)(b:Dv Z H v d):DvAll Z H (c++ [v]) (e++ [d]):=a.append^.cons b .nil
structure Ext (G H G' H':Hp):Prop where
 gg:aC G G'
 sub:aC G' H'
 hh:aC H H'
 off:∀b,H b≠none->G b=none->G' b=none
theorem Ext.refl(s:aC G H):Ext G H G H:=#[.refl _,s, .refl _,λ_ _ h=>h]
theorem Ext.trans{c d f i:Hp}(a:Ext G H c d)(b:Ext c d f i):Ext G H f i:=
 #[a.gg.trans b.gg,b.sub,a.hh.trans b.hh,λx h g=>b.off x (λz=>by
  cases e:H x with
  |none=>exact h e
  |some o=>rw[a.hh x o e] at z;cases z)^a.off x h g]
def Ext.new{o:HO}(s:aC G H)(h:H p=none):Ext G H (upd G p o)^upd H p o:=by
 have a:G p=none:=s.free h;refine#[az a o,λb u e=>?_,az h o,λb c a=>?_]
 .by_cases z:b=p
  .subst z;rw[af] at e ⊢;exact e
  .rw[ag z] at e ⊢;exact s b u e
 .have:b≠p:=λz=>c^by rw[z];exact h
  rw[ag this];exact a
end
abbrev DN:=List^Option D
structure eH (Z:DC) (G:Hp) (σ:St) (ρ:DN):Prop where
 len:ρ.length=σ.length
 at_:∀(i:Nat)(d:D),ρ[i]?\(some d)->∃v,σ[i]?\(some v)/\Dv Z G v d
section
variable {Z:DC} {G G' H H':Hp} {σ:St} {ρ:DN}
theorem eH.mono(e:eH Z G σ ρ)(s:aC G G'):eH Z G' σ ρ:=#[e.len,λi d h=>let #[v,a,b]:=e.at_ i d h;#[v,a,b.mono s]]
theorem eH.set{v:V}(e:eH Z G σ ρ)(h:Dv Z G v d):eH Z G (σ.set i^some v)^ρ.set i^some d:=by
 refine#[by rw[fF,fF];exact e.len,λj c a=>?_]
 by_cases z:i=j
 .subst z
  by_cases b:i<ρ.length
  .rw[lV b] at a
   cases Do a;exact#[v,by rw[lV (e.len▸b)],h]
  .rw[D1^ke b] at a
   rw[fm^ke b] at a;cases a
 .rw[i5 z] at a ⊢
  exact e.at_ j c a
end
abbrev aX:=DN->(D->Prop)->Prop
abbrev dq:=DN->(Bool->Prop)->Prop
abbrev gn:=DN->(List D->Prop)->Prop
abbrev iU:=D->D->(D->Prop)->Prop
abbrev eV:=D->DN->(DN->Prop)->Prop
abbrev jS:=DN->(List D->Prop)->Prop
def d9(Z:DC)(t:aX):TE:=λe H Q=>∃(G:Hp)(a:DN)(P:D->Prop),aC G H/\eH Z G e a/\t a P/\∀d,P d->∀v b c,Ext G H b c->Dv Z b v d->Q v c
def liftT(Z:DC)(t:dq):TT:=λd H Q=>∃(G:Hp)(a:DN)(P:Bool->Prop),aC G H/\eH Z G d a/\t a P/\∀b,P b->∀e c,Ext G H e c->Q b c
def EV(Z:DC)(t:gn):TA:=λf H Q=>∃(G:Hp)(a:DN)(P:List D->Prop),aC G H/\eH Z G f a/\t a P/\∀b,P b->∀c d e,Ext G H d e->DvAll Z d c b->Q c e
def ck(Z:DC)(r:iU):R2:=λx y H Q=>∃(G:Hp)(a b:D)(P:D->Prop),aC G H/\Dv Z G x a/\Dv Z G y b/\r a b P/\∀d,P d->∀v c e,Ext G H c e->Dv Z c v d->Q v e
def kR(Z:DC)(r:List D->(D->Prop)->Prop):List V->Hp->VK->Prop:=λe H Q=>∃(G:Hp)(a:List D)(P:D->Prop),aC G H/\DvAll Z G e a/\r a P/\∀d,P d->∀v b c,Ext G H b c->Dv Z b v d->Q v c
abbrev di:=List D->(D->Prop)->Prop
def aW(Z:DC)(a:di):Sp:=λb H Q _=>kR Z a b H Q
def DE(Z:DC)(X:Cx)(e:gc)(t:aX):Prop:=PE X e^d9 Z t
def DT(Z:DC)(X:Cx)(e:gc)(t:dq):Prop:=PT X e^liftT Z t
def DA(Z:DC)(X:Cx)(a:List gc)(t:gn):Prop:=PA X a^EV Z t
def PE.imp{X:Cx}{t t':TE}(h:PE X e t)(f:∀b H Q,t' b H Q->t b H Q):PE X e t':=λa s b H Q I q=>h a s b H Q I^f _ _ _ q
def PT.imp{X:Cx}{t t':TT}(h:PT X e t)(f:∀b H Q,t' b H Q->t b H Q):PT X e t':=λa s b H Q I q=>h a s b H Q I^f _ _ _ q
def PW.imp{X:Cx}{t t':TT}(h:PW X e t)(f:∀b H Q,t' b H Q->t b H Q):PW X e t':=λc a s b H Q I q=>h c a s b H Q I^f _ _ _ q
def PA.imp{X:Cx}{t t':TA}(h:PA X c t)(f:∀b H Q,t' b H Q->t b H Q):PA X c t':=λpos a s b H Q I q=>h pos a s b H Q I^f _ _ _ q
def OpR.imp{X:Cx}{f:b_->b_->l_ b_}{r d:R2}(h:OpR X f r)(g:∀x y H Q,d x y H Q->r x y H Q):OpR X f d:=λc s e H x y v u Q I a b q=>h c s e H x y v u Q I a b^g _ _ _ _ q
def dX.imp{X:Cx}{f:b_}{r d:List V->Hp->VK->Prop}(h:dX X f r)(g:∀c H Q,d c H Q->r c H Q):dX X f d:=λb s e H c i Q I a q=>h b s e H c i Q I a^g _ _ _ q
def zP(i:Nat):aX:=λa P=>∃d,a[i]?\(some d)/\P d
def dC(d:D):aX:=λ_ P=>P d
section
variable {Z:DC} {X:Cx}
def U(i:Nat)(c:X.N[i]?\x<|>zn)(a:rK X.env.scope x<|>xz)(b:(x==("__debug__":fA))=false<|>zm)
  (f:(x==("__classdict__":fA))=false<|>zm):DE Z X (.Name x pos)^zP i:=by
 refine(LP c a b f).imp λj H Q g=>?_;rfl';obtain⟨G,l,P,s,e,⟨d,b,p⟩,q⟩:=g;ac_rfl;exact let #[v,a,dv]:=e.at_ i d b;#[v,a,q d p v G H (.refl s) dv]
def aP{i j pos}:DE Z X (.Constant (.int i) j pos)^dC^.int i:=by
 refine aZ.imp λc H Q a=>?_;rfl';let⟨G,f,P,s,e,p,q⟩:=a;ac_rfl;exact q _ p _ G H (.refl s)^.int i
def pK{b j pos}:DE Z X (.Constant (.bool b) j pos)^dC^.bl b:=by
 refine Zx.imp λd H Q a=>?_;rfl';let⟨G,g,P,s,e,p,q⟩:=a;ac_rfl;exact q _ p _ G H (.refl s)^.bl b
def ft{j pos}:DE Z X (.Constant .none j pos)^dC .aQ:=by
 refine U7.imp λc H Q a=>?_;rfl';let⟨G,f,P,s,e,p,q⟩:=a;ac_rfl;exact q _ p _ G H (.refl s) .aQ
def jy{x j pos}(h:PyData.strOk x=true<|>xa):DE Z X (.Constant (.str x) j pos)^dC^.str x:=by
 refine zj.imp λc H Q a=>?_;rfl';let⟨G,f,P,s,e,p,q⟩:=a;ac_rfl;exact q _ p _ G H (.refl s)^.str x h
def MP(c:Gl X x)(a:∃b,X.mg x\(.int i b))(d:(x==("__debug__":fA))=false<|>zm):DE Z X (.Name x pos)^dC^.int i:=by
 let⟨b,a⟩:=a;refine (Rw c a (v:= .int i) #[b,rfl] d).imp λf H Q hH=>?_;obtain⟨G,g,P,s,e,p,q⟩:=hH;exact q _ p _ G H (.refl s)^.int i
def MM(r:iU)(d e:aX):aX:=λc P=>d c λa=>e c λb=>r a b P
variable {a b c:Expr} {ta tb tc:aX} {pos:Pos}
def Ar:∀f H Q,d9 Z (MM r ta tb) f H Q->FE (ck Z r) (d9 Z ta) (d9 Z tb) f H Q:=by
 intro f H Q k;rfl';obtain⟨G,j,P,s,e,h,q⟩:=k;ac_rfl;refine#[G,j,_,s,e,h,λa m v n E g dv=>?_];refine#[n,j,_,g.sub,e.mono g.gg,m,λb o u p F i t=>?_];exact#[p,a,b,P,i.sub,dv.mono i.gg,t,o,λd w x y z A B=>q d w x y z ((g.trans i).trans A) B]
def fP(e:OpR X (i_ d)^ck Z r)(f:DE Z X a ta)(g:DE Z X b tb):DE Z X (.BinOp a d b pos)^MM r ta tb:=(c5 e f g).imp Ar
def lI(e:OpR X (gj d)^ck Z r)(f:DE Z X a ta)(g:DE Z X b tb)(h:jn d b=false):DE Z X (.Compare a [d] [b] pos)^MM r ta tb:=(HA e f g h).imp Ar
def IS(t:aX):dq:=λe P=>t e λd=>∃k,d= .bl k/\P k
def Dj:∀d H Q,liftT Z (IS t) d H Q->KH (d9 Z t) d H Q:=by
 intro d H Q f;rfl';obtain⟨G,i,P,s,e,h,q⟩:=f;ac_rfl;exists G,i,_,s,e,h;rintro _ ⟨k,rfl,p⟩ v j l m dv;cases dv.AF;exact#[k,rfl,q k p j l m]
def bI(f:OpR X (gj d)^ck Z r)(g:DE Z X a ta)(i:DE Z X b tb)(j:jn d b=false):DT Z X (.Compare a [d] [b] pos)^IS^MM r ta tb:=
 (iL f g i j).imp λe H Q h=>by
  obtain h:=Dj e H Q h;exact Ar e H _ h
def Eg(r e:iU)(f g tc:aX):aX:=λd P=>f d λx=>g d λy=>r x y λz=>∃k,z= .bl k/\(if k=true then tc d λh=>e y h P else P^.bl false)
def As:∀f H Q,d9 Z (Eg r o ta tb tc) f H Q->FC (ck Z r) (ck Z o) (d9 Z ta) (d9 Z tb) (d9 Z tc) f H Q:=by
 intro f H Q y;rfl';let⟨G,g,P,s,e,h,q⟩:=y;ac_rfl;refine#[G,g,_,s,e,h,λa A v B X i dv=>?_];refine#[B,g,_,i.sub,e.mono i.gg,A,λb C u E H2 j p=>?_];exists E,a,b,_,j.sub,dv.mono j.gg,p,C;rintro _ ⟨k,rfl,t⟩ v' w F l I;cases I.AF;exists k,rfl;have x:=(i.trans j).trans l;cases k with
 |false=>exact cv^q _ t _ w F x^.bl false
 |true=>
  refine cZ #[w,g,_,l.sub,e.mono x.gg,t,λc J w' L H4 m M=>?_];exact#[L,b,c,P,m.sub,(p.mono l.gg).mono m.gg,M,J,λd N n O R S T=>q d N n O R ((x.trans m).trans S) T]
def MO(g:OpR X (gj d)^ck Z r)(h:OpR X (gj e)^ck Z f)(i:DE Z X a ta)(j:DE Z X b tb)(k:DE Z X c tc)
  (l:lastMarks [d,e] [b,c]=false<|>wr):DE Z X (.Compare a [d,e] [b,c] pos)^Eg r f ta tb tc:=(NO g h i j k l).imp As
def MW(i:OpR X (gj d)^ck Z r)(j:OpR X (gj e)^ck Z f)(k:DE Z X a ta)(l:DE Z X b tb)(m:DE Z X c tc)
  (n:lastMarks [d,e] [b,c]=false<|>wr):DT Z X (.Compare a [d,e] [b,c] pos)^IS^Eg r f ta tb tc:=
 (NZ i j k l m n).imp λg H Q h=>by
  obtain h:=Dj g H Q h;exact As g H _ h
def Mj:D->Bool
 | .aQ=>false
 | .bl b=>b
 | .int i=>i !=0
 | .str x=>x.length !=0
 | .lst l=>!l.isEmpty
 | .tup l=>!l.isEmpty
 | .qy l=>!l.isEmpty
 | .rng lo d=>decide (lo<d)
 | .obj _=>true
 | .gI _=>true
 | .set _ l=>!l.isEmpty
 | .x _=>true
 | .err _ _ _=>true
def abp:D->Bool
 | .bl _=>true
 | .int _=>true
 | .lst _=>true
 | .tup _=>true
 | .aQ=>true
 |_=>false
def aaI(t:aX):dq:=λe P=>t e λd=>abp d=true/\P^Mj d
def yl(h:DvAll Z G d e):d.isEmpty=e.isEmpty:=by cases h<;>rfl
def lK(ha:DE Z X a ta)(he:(∀whole,isTrue a X.env whole=(do let v <-whole;jo a.pos;io [v]^truthy v))<|>xx):DT Z X a^aaI ta:=by
 refine(N0 ha he).imp ?_;intro σ H Q aM;rfl';obtain⟨G,ρ,P,s,e,h,q⟩:=aM;ac_rfl;exists G,ρ,_,s,e,h;rintro d ⟨hd,p⟩ v G1 H1 x1 dv;refine#[Mj d,?_,q _ p G1 H1 x1];cases dv with
 |aQ=>rfl
 |bl b=>rfl
 |int i=>rfl
 |lst h a=>exact .inl #[_,aL.of^x1.sub _ _ h,by rw[yl a];rfl]
 |tup h a=>exact .inr^.inl #[_,fI.of^x1.sub _ _ h,by rw[yl a];rfl]
 |_=>cases hd
def aar(t u:dq):dq:=λd P=>t d λc=>if c=true then u d P else P false
def dOr(t u:dq):dq:=λd P=>t d λc=>if c=true then P true else u d P
def aaD(t:dq):dq:=λd P=>t d λc=>P (!c)
variable {tA FA:dq} {rest:List Expr}
def DW(Z:DC)(X:Cx)(e:gc)(t:dq):Prop:=PW X e^liftT Z t
def DW.dt(h:DW Z X e t):DT Z X e t:=PW.pt h
def Px(d:DT Z X a tA):DW Z X (.BoolOp .And [a] pos) tA:=A0 d
def En(d:DT Z X a tA):DW Z X (.BoolOp .Or [a] pos) tA:=LU d
def TQ(k:DT Z X a tA)(f:DW Z X (.BoolOp .And (b::rest) pos) FA):DW Z X (.BoolOp .And (a::b::rest) pos)^aar tA FA:=by
 refine(Fj k f).imp ?_;intro t H Q l;rfl';let⟨G,g,P,s,e,h,q⟩:=l;ac_rfl;refine#[G,g,_,s,e,h,λc i j n d=>?_];cases c with
 |true=>exact cZ #[j,g,P,d.sub,e.mono d.gg,i,λb f o p r=>q b f o p^d.trans r]
 |false=>exact cv^q _ i j n d
def IZ(k:DT Z X a tA)(f:DW Z X (.BoolOp .Or (b::rest) pos) FA):DW Z X (.BoolOp .Or (a::b::rest) pos)^dOr tA FA:=by
 refine(RO k f).imp ?_;intro t H Q l;rfl';let⟨G,g,P,s,e,h,q⟩:=l;ac_rfl;refine#[G,g,_,s,e,h,λc i j n d=>?_];cases c with
 |false=>exact cv #[j,g,P,d.sub,e.mono d.gg,i,λb f o p r=>q b f o p^d.trans r]
 |true=>exact cZ^q _ i j n d
def nu(d:DT Z X a tA):DT Z X (.UnaryOp .Not a pos)^aaD tA:=by
 refine(LR d).imp ?_;rintro l H Q ⟨G,f,P,s,e,h,q⟩;exact#[G,f,_,s,e,h,λc g i j k=>q _ g i j k]
def Xj(e f:aX):aX:=λd P=>e d λx=>∃c,x= .bl c/\if c=true then f d P else P^.bl false
def Xv(d:aX):aX:=λe P=>d e λx=>∃c,x= .bl c/\P^.bl (!c)
def Ei{op}(h:DE Z X a ta):DE Z X (.BoolOp op [a] pos) ta:=U9 h
def za(k:DE Z X a ta)(f:DE Z X (.BoolOp .And (b::rest) pos) tb):DE Z X (.BoolOp .And (a::b::rest) pos)^Xj ta tb:=by
 refine(U0 k f).imp ?_;intro u H Q l;rfl';let⟨G,g,P,s,e,h,q⟩:=l;ac_rfl;exists G,g,_,s,e,h;rintro _ ⟨c,rfl,i⟩ v j n d dv;cases dv.AF;exists c,rfl;cases c with
 |true=>exact cZ #[j,g,P,d.sub,e.mono d.gg,i,λb f v o p r t=>q b f v o p (d.trans r) t]
 |false=>exact cv^q _ i _ j n d^.bl false
def TH(d:DE Z X a ta):DE Z X (.UnaryOp .Not a pos)^Xv ta:=by
 refine(U8 d).imp ?_;intro n H Q f;rfl';let⟨G,i,P,s,e,h,q⟩:=f;ac_rfl;exists G,i,_,s,e,h;rintro _ ⟨c,rfl,j⟩ v k l m dv;cases dv.AF;exact#[c,rfl,q _ j _ k l m^.bl _]
def dIf(t:dq)(e f:aX):aX:=λd P=>t d λc=>if c=true then e d P else f d P
def XA{c:gc}(g:DT Z X c tA)(o:DE Z X a ta)(f:DE Z X b tb):DE Z X (.IfExp c a b pos)^dIf tA ta tb:=by
 refine(NP g o f).imp ?_;intro t H Q p;rfl';let⟨G,i,P,s,e,h,q⟩:=p;ac_rfl;refine#[G,i,_,s,e,h,λc g n w d=>?_];cases c with
 |true=>exact cZ #[n,i,P,d.sub,e.mono d.gg,g,λb f v j k l m=>q b f v j k (d.trans l) m]
 |false=>exact cv #[n,i,P,d.sub,e.mono d.gg,g,λb f v j k l m=>q b f v j k (d.trans l) m]
def lH:gn:=λ_ P=>P []
def IL(e:aX)(t:gn):gn:=λd P=>e d λx=>t d λf=>P (x::f)
variable {es:List Expr} {t:gn} {e:Expr}
def ah:DA Z X [] lH:=by
 refine aA.imp λg H Q d=>?_;rfl';obtain⟨G,i,P,s,e,p,q⟩:=d;ac_rfl;exact q _ p _ G H (.refl s) .nil
def aa(d:DE Z X e ta)(j:DA Z X es t)(k:d_ (e::es) X.env=(false,gi e X.env)::d_ es X.env<|>zn):DA Z X (e::es)^IL ta t:=by
 refine(ao d j k).imp ?_;intro w H Q l;rfl';let⟨G,g,P,s,e,h,q⟩:=l;ac_rfl;refine#[G,g,_,s,e,h,λa d v n y f dv=>?_];exact#[n,g,_,f.sub,e.mono f.gg,d,λz o A p r i u=>q _ o _ p r (f.trans i)^.cons (dv.mono i.gg) u]
def aaK(t:gn):aX:=λf P=>t f λd=>d.length<=sizeLine/\P^.tup d
def aaA(t:gn):aX:=λf P=>t f λd=>d.length<=sizeLine/\P^.lst d
def bO{d}(h:DA Z X es t):DE Z X (.Tuple es d pos)^aaK t:=by
 refine(uZ h).imp ?_;intro n H Q i;rfl';let⟨G,k,P,s,e,h,q⟩:=i;ac_rfl;exists G,k,_,s,e,h;rintro r ⟨l,m⟩ u v w d f;exact#[by rw[f.length];exact l,λp g=>q _ m _ _ _ (d.trans^.new d.sub g)^.tup af^f.mono^az (d.sub.free g) _]
def nk(h:DA Z X es t):DE Z X (.List es pos)^aaA t:=by
 refine(fU h).imp ?_;intro n H Q i;rfl';let⟨G,k,P,s,e,h,q⟩:=i;ac_rfl;exists G,k,_,s,e,h;rintro r ⟨l,m⟩ u v w d f;exact#[by rw[f.length];exact l,λp g=>q _ m _ _ _ (d.trans^.new d.sub g)^.lst af^f.mono^az (d.sub.free g) _]
def sR(r:List D->(D->Prop)->Prop)(t:gn):aX:=λd P=>t d λf=>r f P
def xp:∀f H Q,d9 Z (sR r t) f H Q->EV Z t f H λg i=>kR Z r g i Q:=by
 intro f H Q k;rfl';obtain⟨G,m,P,s,e,h,q⟩:=k;ac_rfl;exact#[G,m,_,s,e,h,λn o g p i j u=>#[p,n,P,j.sub,u,o,λd w v x y z dv=>q d w v x y (j.trans z) dv]]
def Pa(F:FnOk X.prog X.w X.K X.mg X.base fe k f g i^aW Z d)(m:bP k X.A)(n:Gl X x)(o:X.mg x\(.ref f))(r:am X.K^.ref f=true)(u:Binds X.K g i [])
  (v:DA Z X (e::es) t) (y:(x==("__debug__":fA))=false<|>zm) (z:d_ (e::es) X.env=(false,gi e X.env)::d_ es X.env<|>zn) (B:(gM pos^d_ es X.env).any (·.1)=false<|>zn):
  DE Z X (.Call (.Name x p) (e::es) [] pos)^sR d t:=
 (bq F m n o r u .nil bY v y z B).imp λC H Q h=>by
  rfl';have h:=xp C H Q h;let⟨G,I,P,s,e,h,q⟩:=h;ac_rfl;exact#[G,I,P,s,e,h,λJ L j M l N O=>by show aW Z d (j++ []) l Q E0;rw[e8];exact q J L j M l N O]
theorem aU{id:String}{x:fA}{p:jP}{r:List D->(D->Prop)->Prop}(d:dX X (.builtin id)^kR Z r)(f:Gl X x)(g:X.mg x=none)(h:gq x\(.builtin id))(i:DA Z X (e::es) t)(j:x≠"__name__"<|>zm)(k:(x==("__debug__":fA))=false<|>zm)
  (l:d_ (e::es) X.env=(false,gi e X.env)::d_ es X.env<|>zn) (m:(gM pos^d_ es X.env).any (·.1)=false<|>zn):
  DE Z X (.Call (.Name x p) (e::es) [] pos)^sR r t:=(eU d f g h i j k l m).imp xp
def nh(d:dX X (.type T)^kR Z r)(f:Gl X x)(g:X.mg x=none)(h:gq x\(.type T))(i:DA Z X (e::es) t)(j:x≠"__name__"<|>zm)(k:(x==("__debug__":fA))=false<|>zm)
  (l:d_ (e::es) X.env=(false,gi e X.env)::d_ es X.env<|>zn) (m:(gM pos^d_ es X.env).any (·.1)=false<|>zn):
  DE Z X (.Call (.Name x p) (e::es) [] pos)^sR r t:=(AU d f g h i j k l m).imp xp
end
end L2
namespace L2
open PySem PySem.Spec PyProof.Rows
section
variable {Z:DC} {X:Cx}
def V6:iU:=λx y P=>match x,y with
 | .int i, .int j=>P^.int (i+j)
 | .lst a, .lst b=>a.length+b.length<=sizeLine/\P^.lst (a++b)
 | .tup a, .tup b=>a≠ []/\a.length+b.length<=sizeLine/\b≠ []/\P^.tup (a++b)
 |_,_=>False
def dI(c:Int->Int->Prop)(g:Int->Int->Int):iU:=λx y P=>match x,y with
 | .int i, .int j=>c i j/\P^.int^g i j
 |_,_=>False
def Xq(g:Int->Int->Int):iU:=λx y P=>match x,y with
 | .int i, .int j=>P^.int^g i j
 |_,_=>False
def aaB:iU:=dI (λ_ j=>0<j) λi j=>i%j
def aaL:iU:=Xq Builtin.bitXor
def UG(h:OpR X f (rI c λi j=> .int^g i j)):OpR X f^ck Z^dI c g:=by
 refine h.imp ?_;intro x y H Q e;rfl';let⟨G,a,b,P,s,l,m,d,q⟩:=e;ac_rfl;unfold dI at d
 split at d
 .exact#[_,_,l.ofInt,m.ofInt,d.1,q _ d.2 _ G H (.refl s)^.int _]
 .exact d.elim
def UE(h:OpR X f (Fl λi j=> .int^g i j)):OpR X f^ck Z^Xq g:=by
 refine h.imp ?_;intro x y H Q d;rfl';let⟨G,a,b,P,s,k,l,c,q⟩:=d;ac_rfl;unfold Xq at c
 split at c
 .exact#[_,_,k.ofInt,l.ofInt,q _ c _ G H (.refl s)^.int _]
 .exact c.elim
def zi:OpR X (i_ .Mod)^ck Z aaB:=UG q0
def qZ:OpR X (i_ .BitXor)^ck Z aaL:=UE UZ
def lP(e:X.K=Z.K<|>zn):OpR X (i_ .Add)^ck Z V6:=by
 refine(iI.or^Fd.or^Rm).imp ?_;rintro x y H Q ⟨G,a,b,P,s,h,i,c,q⟩
 cases a with
 |int=>cases b with
  |int=>
   exact .inl #[_,_,h.ofInt,i.ofInt,q _ c _ G H (.refl s)^.int _]
  |_=>cases c
 |lst=>cases b with
  |lst=>
   obtain⟨n,o,rfl,j,d⟩:=h.iG
   let⟨r,t,rfl,k,f⟩:=i.iG;let⟨l,m⟩:=c;refine .inr^.inl #[_,_,_,_,rfl,rfl,s _ _ j,s _ _ k,by rw[d.length,f.length];exact l,λp g=>?_]
   exact q _ m _ _ _ (.new s g)^.lst af^(d.append f).mono^az (s.free g) _
  |_=>cases c
 |tup=>cases b with
  |tup=>
   obtain⟨n,o,rfl,j,d⟩:=h.xv
   let⟨r,t,rfl,k,f⟩:=i.xv;let⟨u,l,v,m⟩:=c;refine .inr^.inr #[_,_,_,_,rfl,rfl,fI.of^s _ _ j,fI.of^s _ _ k,?_,by rw[d.length,f.length];exact l,?_]
   .rintro rfl;cases d;exact u rfl
   .refine#[?_,λ_ p g=>q _ m _ _ _ (.new s g)^.tup af^(d.append f).mono^az (s.free g) _]
    rintro rfl;cases f;exact(v rfl).elim
  |_=>cases c
 |_=>cases c
mutual
noncomputable def D.py:D->Option PyData
 | .aQ=>some .none
 | .bl b=>some^.bool b
 | .int i=>some^.int i
 | .str x=>some^.str x
 | .lst l=>(fR l).map PyData.list
 | .tup l=>(fR l).map PyData.tuple
 | .qy _=>none
 | .rng _ _=>none
 | .obj _=>none
 | .gI _=>none
 | .set _ _=>none
 | .x _=>none
 | .err _ _ _=>none
noncomputable def fR:List D->Option^List PyData
 | []=>some []
 |d::ds=>(D.py d).bind λa=>(fR ds).map λas=>a::as
end
def Dv.dp{K:ad}{G:Hp}{v:V}{d:D}(h:Dv Z G v d):∀{e:PyData},d.py\e->Dp K G v e:=by
 have c:∀{p:Prop}{e:PyData},none\e->p:=λh=>nomatch h
 refine λ{e}=>Dv.rec (motive_1:=λv d _=>∀e:PyData,d.py\e->Dp K G v e) (motive_2:=λn f _=>∀g:List PyData,fR f\g->jb K G n g) ?_ ?_ ?_ ?_ (λq _ j _ h=>?_) (λq _ j _ h=>?_) (λ_ _ h=>c h) (λ_ _ h=>c h) (λ_ _ _ h=>c h) (λ_ _ _ _ _ _ _ h=>c h) (λ_ _ h=>c h) (λ_ _ _ h=>c h) (λ_ _ _ _ _ h=>c h) ?_ (λ_ _ s t _ h=>?_) h e
 .rintro _ ⟨⟩;exact .aQ
 .rintro b _ ⟨⟩;exact .bl b
 .rintro i _ ⟨⟩;exact .int i
 .rintro x k _ ⟨⟩;exact .str x k
 .obtain⟨l,c,rfl⟩:=Option.map_eq_some_iff.mp h;exact .lst (aL.of q)^j _ c
 .obtain⟨l,c,rfl⟩:=Option.map_eq_some_iff.mp h;exact .tup (fI.of q)^j _ c
 .rintro _ ⟨⟩;exact .nil
 .obtain⟨x,c,h⟩:=Option.bind_eq_some_iff.mp h;obtain⟨y,m,rfl⟩:=Option.map_eq_some_iff.mp h;exact .cons (s _ c)^t _ m
def fI.mono{K:ad}{H b:Hp}(s:aC H b)(h:fI K H a c):fI K b a c:=by
 rcases h with (h| ⟨o,h⟩) |h
 .exact .inl^.inl^s _ _ h
 .exact .inl^.inr #[o,s _ _ h]
 .exact .inr h
theorem Dp.mono{K:ad}{G H:Hp}(s:aC G H)(h:Dp K G v d):Dp K H v d:=
 Dp.rec (motive_1:=λv d _=>Dp K H v d) (motive_2:=λc e _=>jb K H c e) .aQ .bl .int .str (λh _ a=> .lst (h.mono s) a) (λh _ a=> .tup (h.mono s) a) .nil (λ_ _ a b=> .cons a b) h
def Gs(c:Bool):iU:=λx y P=>∃a b,x.py\a/\y.py\b/\a.depth<=64/\P^.bl^if c then !PyData.eqv a b else PyData.eqv a b
abbrev MK:iU:=Gs false
abbrev IQ:iU:=Gs true
def jW(e:X.A.units+64<cLine):OpR X (gj .Eq)^ck Z MK:=by
 refine(UW e).imp ?_;intro x y H Q f;rfl';obtain⟨G,a,b,P,s,h,i,⟨c,d,j,k,l,m⟩,q⟩:=f;ac_rfl;exact#[c,d,(h.dp j).mono s,(i.dp k).mono s,l,q _ m _ G H (.refl s)^.bl _]
def qb(e:X.A.units+64<cLine):OpR X (gj .NotEq)^ck Z IQ:=by
 refine(Fe e).imp ?_;intro x y H Q f;rfl';obtain⟨G,a,b,P,s,h,i,⟨c,d,j,k,l,m⟩,q⟩:=f;ac_rfl;exact#[c,d,(h.dp j).mono s,(i.dp k).mono s,l,q _ m _ G H (.refl s)^.bl _]
def uB{P:D->Prop}(h:P^.bl (decide (i=j))):MK (.int i) (.int j) P:=#[.int i, .int j,rfl,rfl,by simp[PyData.depth],by
 have:PyData.eqv (.int i)^.int j=decide (i=j):=by
  rw[PyData.eqv]
  by_cases z:i=j<;>simp[z]
 simpa [this] using h]
def Gu(h:P^.bl (!decide (i=j))):IQ (.int i) (.int j) P:=#[.int i, .int j,rfl,rfl,by simp[PyData.depth],by
 have:PyData.eqv (.int i)^.int j=decide (i=j):=by
  rw[PyData.eqv]
  by_cases z:i=j<;>simp[z]
 simpa [this] using h]
def Gr(p:Int->Int->Bool):iU:=λx y P=>match x,y with
 | .int i, .int j=>P^.bl^p i j
 |_,_=>False
def Au(h:OpR X f (Fl λi j=> .bl^p i j)):OpR X f^ck Z^Gr p:=by
 refine h.imp ?_;intro x y H Q d;rfl';let⟨G,a,b,P,s,g,k,c,q⟩:=d;ac_rfl;unfold Gr at c
 split at c
 .exact#[_,_,g.ofInt,k.ofInt,q _ c _ G H (.refl s)^.bl _]
 .exact c.elim
end
end L2
namespace L2
open PySem PySem.Spec PyProof.Rows
section
variable {Z:DC} {X:Cx}
abbrev dLt:iU:=Gr λi j=>decide (i<j)
abbrev dLe:iU:=Gr λi j=>decide (i<=j)
abbrev dGt:iU:=Gr λi j=>decide (j<i)
def AE:OpR X (gj .Lt)^ck Z dLt:=Au J9
def J2:OpR X (gj .LtE)^ck Z dLe:=Au Zs
def Zm:OpR X (gj .Gt)^ck Z dGt:=Au J7
def sv(d:D):V:=D.casesOn (motive_1:=λ_=>V) d .aQ .bl .int .str (λ_=>.ref 0) (λ_=>.ref 0) (λ_=>.ref 0) (λ_ _=>.ref 0) (λ_=>.ref 0) (λ_=>.ref 0) (λ_ _=>.ref 0) (λ_=>.ref 0) λ_ _ _=>.ref 0
def JJ(d:D):Bool:=decide (sv d= .aQ)
def Dv.sv(h:Dv Z G v d):v=L2.sv d\/(∃a,v= .ref a)/\L2.sv d= .ref 0:=
 have c:∀{a d},L2.sv d=V.ref 0->V.ref a=L2.sv d\/(∃b,V.ref a=V.ref b)/\L2.sv d=V.ref 0:=λh=>.inr #[#[_,rfl],h]
 Dv.casesOn h (.inl rfl) (λ_=>.inl rfl) (λ_=>.inl rfl) (λ_ _=>.inl rfl) (λ_ _=>c rfl) (λ_ _=>c rfl) (λ_=>c rfl) (λ_=>c rfl) (λ_ _=>c rfl) (λ_ _ _ _ _=>c rfl) (λ_=>c rfl) (λ_ _=>c rfl) λ_ _ _=>c rfl
def V8(a:Bool):iU:=λx y P=>match y with
 | .aQ=>P^.bl^if a then !JJ x else JJ x
 |_=>False
def C5(h:Dv Z G v d):decide (v= .aQ)=JJ d:=by
 rcases h.sv with e| ⟨⟨a,e⟩,f⟩<;>subst e
 .rfl
 .show _=decide (sv d=_);rw[f];rfl
def xu:OpR X (gj .Is)^ck Z^V8 false:=by
 refine UX.imp ?_;rintro x y H Q ⟨G,a,b,P,s,d,e,c,q⟩;cases e<;>first|exact c.elim|skip
 exact#[rfl,by rw[C5 d];exact q _ c _ G H (.refl s)^.bl _]
def NI:OpR X (gj .IsNot)^ck Z^V8 true:=by
 refine Ro.imp ?_;rintro x y H Q ⟨G,a,b,P,s,d,e,c,q⟩;cases e<;>first|exact c.elim|skip
 exact#[rfl,by rw[C5 d];exact q _ c _ G H (.refl s)^.bl _]
def f6(d:D):Bool:=gZ^sv d
def kN(d e:D):Bool:=sT (sv d)^sv e
def kNi(a b:Int):kN (.int a) (.int b)=(a==b):=rfl
def inD(x:D)(l:List D):Bool:=l.any λy=>kN y x
def uG(h:Dv Z G v d):gZ v=f6 d:=by
 rcases h.sv with e| ⟨⟨a,e⟩,f⟩<;>subst e
 .rfl
 .show _=gZ (sv d);rw[f];rfl
def pQ(h:DvAll Z G b c):b.all gZ=c.all f6:=h.ind (p:=λb c=>b.all gZ=c.all f6) rfl λa _ e=>by rw[adP,adP,uG a,e]
def Ep(h:Dv Z G v d)(k:Dv Z G u e):sT v u=kN d e:=by
 have R:∀a u,sT u (.ref a)=false:=λa u=>by cases u<;>rfl
 rcases h.sv with z| ⟨⟨a,z⟩,f⟩<;>subst z
 .rcases k.sv with z| ⟨⟨b,z⟩,g⟩<;>subst z
  .rfl
  .show _=sT _ (sv e);rw[g,R,R]
 .show _=sT (sv d) _;rw[f];rfl
theorem JF(h:Dv Z G v d):∀{b:List V}{c:List D},DvAll Z G b c->JE v b=inD d c
 |_,_, .nil=>rfl
 |_,_, .cons a e=>by
  unfold JE inD;rw[aeD,aeD,Ep a h];exact KM _^JF h e
def Tu(a:Bool):iU:=λx y P=>match y with
 | .lst l=>f6 x=true/\l.all f6=true/\P^.bl^if a then !inD x l else inD x l
 | .tup l=>f6 x=true/\l.all f6=true/\P^.bl^if a then !inD x l else inD x l
 |_=>False
def RY:∀x y H Q,ck Z (Tu c) x y H Q->Vj X.K c x y H Q:=by
 rintro x y H Q ⟨G,a,b,P,s,d,l,f,q⟩;cases l<;>first|exact f.elim|skip
 .rename_i p g m h e
  let⟨i,j,k⟩:=f;refine#[p,g,rfl, .inl^aL.of^s _ _ h,by rw[uG d];exact i,by rw[pQ e];exact j,?_]
  rw[JF d e];exact q _ k _ G H (.refl s)^.bl _
 .rename_i p g m h e
  let⟨i,j,k⟩:=f;refine#[p,g,rfl, .inr^fI.of^s _ _ h,by rw[uG d];exact i,by rw[pQ e];exact j,?_]
  rw[JF d e];exact q _ k _ G H (.refl s)^.bl _
def J0:OpR X (gj .In)^ck Z^Tu false:=J8.imp RY
def Dr:OpR X (gj .NotIn)^ck Z^Tu true:=r9.imp RY
def dIx:iU:=λx y P=>match x,y with
 | .lst l, .int i=>∃d,gr l i\d/\P d
 | .tup l, .int i=>∃d,gr l i\d/\P d
 | .qy l, .int i=>∃n,gr l i\n/\P^.int n
 |_,_=>False
def y9(h:DvAll Z G b a)(e:gr a i\d):∃v,gr b i\v/\Dv Z G v d:=by
 unfold gr at e ⊢;rw[h.length];cases z:lA a.length i with
 |none=>rw[z] at e;cases e
 |some j=>rw[z] at e;exact h.get e
def OU(f:a->b)(l:List a)(i:Int):gr (l.map f) i=(gr l i).map f:=by
 unfold gr;rw[aG];cases lA l.length i with
 |none=>rfl
 |some j=>show(l.map f)[j]? =_;rw[dh];rfl
variable {a b c e:Expr} {ta tb tc te:aX} {pos:Pos}
def fz(p:DE Z X a ta)(r:DE Z X b tb)(t:X.K=Z.K<|>zn)(u:pD b<|>wp):DE Z X (.Subscript a b pos)^MM dIx ta tb:=by
 refine(cS (bQ.or LI) p r u).imp λw H Q h=>?_;rfl';let⟨G,x,P,s,e,h,q⟩:=Ar w H Q h;ac_rfl;refine#[G,x,P,s,e,h,λd y v z A B dv=>?_];rfl';let⟨C,E,F,I,J,L,M⟩:=q d y v z A B dv;ac_rfl;refine#[C,E,F,I,J,L,λN k O R S T Y=>?_];let⟨G,a,b,P,s,l,m,f,q⟩:=M N k O R S T Y
 cases a with
 |lst=>cases b with
  |int=>
   obtain⟨d,i,j⟩:=f
   let⟨c,g,rfl,h,e⟩:=l.iG;let⟨v,n,dv⟩:=y9 e i;exact .inl #[_,_,_,v,rfl,m.ofInt,aL.of^s _ _ h,n,q _ j _ G _ (.refl s) dv]
  |_=>cases f
 |tup=>cases b with
  |int=>
   obtain⟨d,i,j⟩:=f
   let⟨c,g,rfl,h,e⟩:=l.xv;let⟨v,n,dv⟩:=y9 e i;exact .inr #[_,_,_,v,rfl,m.ofInt,fI.of^s _ _ h,n,q _ j _ G _ (.refl s) dv]
  |_=>cases f
 |qy=>cases b with
  |int=>
   obtain⟨d,i,j⟩:=f
   rfl';let⟨c,rfl,h,g⟩:=l.AH;ac_rfl;refine .inl #[_,_,_, .int d,rfl,m.ofInt,by rw[t];exact h.mono s,by rw[OU,i];rfl,q _ j _ G _ (.refl s)^.int d]
  |_=>cases f
 |_=>cases f
def cutD{f:Type}(d:List f)(lo g:Option Int):List f:=(d.drop^HT.b7 d.length 0 lo).take (HT.b7 d.length d.length g-HT.b7 d.length 0 lo)
def Lj(h:DvAll Z G d f)(lo g:Option Int):DvAll Z G (i3 d lo g)^cutD f lo g:=by
 unfold i3 cutD;rw[h.length];exact(h.drop _).take _
def MG(f:d->h)(l:List d)(lo g:Option Int):cutD (l.map f) lo g=(cutD l lo g).map f:=by
 unfold cutD;rw[aG,adQ,aeE]
abbrev Mv:=DN->(Option Int->Prop)->Prop
def O7:Mv:=λ_ P=>P none
def Xw(t:aX):Mv:=λf P=>t f λd=>match d with
 | .int i=>P^some i
 |_=>False
def Za(Z:DC)(t:Mv):TO:=λg H Q=>∃(G:Hp)(d:DN)(P:Option Int->Prop),aC G H/\eH Z G g d/\t d P/\∀o,P o->∀h f,Ext G H h f->Q o f
def DO(Z:DC)(X:Cx)(e:Option gc)(t:Mv):Prop:=PO X e^Za Z t
def PO.imp{e:Option gc}{t t':TO}(h:PO X e t)(f:∀g H Q,t' g H Q->t g H Q):PO X e t':=λd s g H Q I q=>h d s g H Q I^f _ _ _ q
def zT:DO Z X none O7:=by
 refine AW.imp λg H Q d=>?_;rfl';let⟨G,i,P,s,e,p,q⟩:=d;ac_rfl;exact q _ p G H^.refl s
def zU(h:DE Z X e te):DO Z X (some e)^Xw te:=by
 refine(qe h).imp ?_;intro n H Q g;rfl';let⟨G,j,P,s,e,h,q⟩:=g;ac_rfl;refine#[G,j,_,s,e,h,λd f v k l m dv=>?_];cases dv<;>first|exact f.elim|skip
 exact#[_,rfl,q _ f k l m]
def dSl(g:aX)(h i:Mv):aX:=λf P=>g f λx=>h f λlo=>i f λd=>match x with
 | .lst l=>P^.lst^cutD l lo d
 | .tup l=>¬(HT.b7 l.length 0 lo=0/\HT.b7 l.length l.length d=l.length)/\P^.tup^cutD l lo d
 | .qy l=>P^.lst^(cutD l lo d).map D.int
 |_=>False
variable {lo hi:Option Expr} {tl th:Mv} {p2:Pos}
def wF(r:DE Z X e te)(m:DO Z X lo tl)(g:DO Z X hi th)(t:X.K=Z.K<|>zn):DE Z X (.Subscript e (.Slice lo hi none p2) pos)^dSl te tl th:=by
 refine(rh (vP.or Vs) r m g).imp ?_;intro C H Q w;rfl';let⟨G,n,P,s,o,h,q⟩:=w;ac_rfl;refine#[G,n,_,s,o,h,λd z v A F j dv=>?_];refine#[A,n,_,j.sub,o.mono j.gg,z,λl m B I k=>?_];refine#[B,n,_,k.sub,(o.mono j.gg).mono k.gg,m,λu g J L f=>?_];have x:=(j.trans k).trans f;have dv:=(dv.mono k.gg).mono f.gg;cases dv<;>first|exact g.elim|skip
 .rename_i h e
  exact .inl #[_,_,rfl,aL.of^f.sub _ _ h,λp i=>q _ g _ _ _ (x.trans^.new f.sub i)^.lst af^(Lj e l u).mono^az (f.sub.free i) _]
 .rename_i h e
  refine .inr #[_,_,rfl,fI.of^f.sub _ _ h,by rw[e.length];exact g.1,λp i=>q _ g.2 _ _ _ (x.trans^.new f.sub i)^.tup af^(Lj e l u).mono^az (f.sub.free i) _]
 .rename_i h _
  refine .inl #[_,_,rfl,by rw[t];exact h.mono f.sub,λp i=>q _ g _ _ _ (x.trans^.new f.sub i)^.lst af ?_]
  show DvAll Z _ (cutD _ l u) _;rw[MG];exact .ints _
def zB:di:=λd P=>match d with
 | [.lst l]=>P^.int l.length
 | [.tup l]=>P^.int l.length
 | [.qy l]=>P^.int l.length
 |_=>False
def dM(f:X.K=Z.K<|>zn):dX X (.builtin "len")^kR Z zB:=by
 refine cT.imp ?_;rintro g H Q ⟨G,i,P,s,dv,d,q⟩
 rcases i with _|⟨x,_|⟨_,_⟩⟩
 .cases d
 .cases x with
  |lst=>
   obtain⟨_,rfl,a⟩:=dv.ofOne
   let⟨b,c,rfl,h,e⟩:=a.iG;exact#[_,_,rfl, .inl^aL.of^s _ _ h,by rw[e.length];exact q _ d _ G H (.refl s)^.int _]
  |tup=>
   obtain⟨_,rfl,a⟩:=dv.ofOne
   let⟨b,c,rfl,h,e⟩:=a.xv;exact#[_,_,rfl, .inr^fI.of^s _ _ h,by rw[e.length];exact q _ d _ G H (.refl s)^.int _]
  |qy=>
   obtain⟨_,rfl,a⟩:=dv.ofOne
   let⟨b,rfl,h,c⟩:=a.AH;exact#[_,_,rfl, .inl^by rw[f];exact h.mono s,by rw[aG];exact q _ d _ G H (.refl s)^.int _]
  |_=>cases d
 .cases x<;>cases d
def OV:di:=λd P=>match d with
 | [.lst l]=>P^.lst l
 | [.tup l]=>P^.lst l
 |_=>False
def uA:dX X (.type "list")^kR Z OV:=by
 refine B0.imp ?_;rintro g H Q ⟨G,i,P,s,dv,d,q⟩
 rcases i with _|⟨x,_|⟨_,_⟩⟩
 .cases d
 .cases x with
  |lst=>
   obtain⟨_,rfl,a⟩:=dv.ofOne
   let⟨b,c,rfl,h,e⟩:=a.iG;exact#[_,_,rfl, .inl^aL.of^s _ _ h,λp f=>q _ d _ _ _ (.new s f)^.lst af^e.mono^az (s.free f) _]
  |tup=>
   obtain⟨_,rfl,a⟩:=dv.ofOne
   let⟨b,c,rfl,h,e⟩:=a.xv;exact#[_,_,rfl, .inr^fI.of^s _ _ h,λp f=>q _ d _ _ _ (.new s f)^.lst af^e.mono^az (s.free f) _]
  |_=>cases d
 .cases x<;>cases d
def isI:String->D->Bool
 |"int", .int _=>true
 |"int", .bl _=>true
 |"bool", .bl _=>true
 |"list", .lst _=>true
 |"tuple", .tup _=>true
 |_,_=>false
def Zo(n:String):Bool:=n=="int"||n=="bool"||n=="list"||n=="tuple"
def WM:D->Bool
 | .aQ=>true
 | .bl _=>true
 | .int _=>true
 | .str _=>true
 | .lst _=>true
 | .tup _=>true
 |_=>false
def aaz(n:String)(t:aX):aX:=λf P=>t f λd=>WM d=true/\P^.bl^isI n d
def Uz{K:ad}{H:Hp}{v:V}{d:D}{n:String}(hn:Zo n=true)(hd:WM d=true)(h:Dv Z H v d):∃t,lD K H v t/\c4 K t^.type n\(isI n d):=by
 unfold Zo at hn;rw[Bool.or_eq_true,Bool.or_eq_true,Bool.or_eq_true,beq_iff_eq,beq_iff_eq,beq_iff_eq,beq_iff_eq] at hn;cases h with
 |aQ=>exists _, .aQ;rcases hn with ((rfl|rfl) |rfl) |rfl<;>kernel_rfl
 |bl b=>exists _, .bl b;rcases hn with ((rfl|rfl) |rfl) |rfl<;>kernel_rfl
 |int b=>exists _, .int b;rcases hn with ((rfl|rfl) |rfl) |rfl<;>kernel_rfl
 |str b=>exists _, .str b;rcases hn with ((rfl|rfl) |rfl) |rfl<;>kernel_rfl
 |lst h a=>exists _, .lst h;rcases hn with ((rfl|rfl) |rfl) |rfl<;>kernel_rfl
 |tup h a=>exists _, .tup h;rcases hn with ((rfl|rfl) |rfl) |rfl<;>kernel_rfl
 |_=>cases hd
end
section
variable {Z:DC} {X:Cx} {a b c e:Expr} {ta tb tc te:aX} {pos:Pos}
def Ll(n:String)(l:DE Z X a ta)(m:Gl X "isinstance")(o:X.mg "isinstance"=none)(g:Gl X x)(r:X.mg x=none)(u:gq x\(.type n))(ok:Zo n=true<|>zm)
  (w:x≠"__name__"<|>zm) (y:(x==("__debug__":fA))=false<|>zm) (i:d_ [a, .Name x f] X.env=(false,gi a X.env)::d_ [.Name x f] X.env<|>zn)
  (z:(gM pos^d_ [.Name x f] X.env).any (·.1)=false<|>zn) (A:d_ [.Name x f] X.env=(false,gi (.Name x f) X.env)::d_ [] X.env<|>zn):
  DE Z X (.Call (.Name "isinstance" p) [a, .Name x f] [] pos)^aaz n ta:=by
 have B:PE X (.Name x f)^tC^.ty n:=Rt g r u rfl w y;refine(eU Eb m o (by decide+kernel) (ao l (ao B aA A) i) ∅ ∅ i z).imp ?_
 intro O H Q C;rfl';let⟨G,F,P,s,e,h,q⟩:=C;ac_rfl;exists G,F,_,s,e,h;rintro d ⟨I,J⟩ v L j k dv;let⟨t,M,N⟩:=Uz (K:=X.K) (H:=j) ok I^dv.mono k.sub;exact#[v,n,t,_,rfl,M,N,q _ J _ L j k^.bl _]
def p6(Z:DC)(g:eV):TG:=λv j H Q=>∃(G:Hp)(f:DN)(d:D)(P:DN->Prop),aC G H/\eH Z G j f/\Dv Z G v d/\g d f P/\∀h,P h->∀i,eH Z G i h->Q i H
def DG(Z:DC)(X:Cx)(e:gc)(g:eV):Prop:=PG X e^p6 Z g
def PG.imp{e:gc}{t t':TG}(h:PG X e t)(f:∀v g H Q,t' v g H Q->t v g H Q):PG X e t':=λd s g H v u Q I r q=>h d s g H v u Q I r^f _ _ _ _ q
def kj(i:Nat):eV:=λd f P=>P^f.set i^some d
def bL(i:Nat)(f:X.N.Nodup)(g:X.N[i]?\x<|>zn)(j:Loc X.env.scope x:=by exact Or.inl rfl)(k:X.fn x=true\/X.env.scope.names.lookup x\.local<|>xz):DG Z X (.Name x pos)^kj i:=by
 refine(cx f g j k).imp λv n H Q l=>?_;rfl';let⟨G,p,d,P,s,e,dv,h,q⟩:=l;ac_rfl;exact q _ h _^e.set dv
abbrev oF:=List D->DN->(DN->Prop)->Prop
def UD(Z:DC)(g:oF):BY:=λj k H Q=>∃(G:Hp)(d:DN)(f:List D)(P:DN->Prop),aC G H/\eH Z G k d/\DvAll Z G j f/\g f d P/\∀h,P h->∀i,eH Z G i h->Q i H
def Ta(Z:DC)(X:Cx)(d:List gc)(g:oF):Prop:=D9 X d^UD Z g
def D9.imp{i:List gc}{t t':BY}(h:D9 X i t)(f:∀v g H Q,t' v g H Q->t v g H Q):D9 X i t':=λd s g H v u Q I r q=>h d s g H v u Q I r^f _ _ _ _ q
def IT:oF:=λd f P=>d= []/\P f
def zb(g:eV)(f:oF):oF:=λh i P=>match h with
 |d::r=>g d i λj=>f r j P
 | []=>False
def mB:Ta Z X [] IT:=by
 refine mT.imp λv g H Q d=>?_;rfl';obtain⟨G,j,k,P,s,e,dv,⟨h,p⟩,q⟩:=d;subst h;cases dv;ac_rfl;exact#[rfl,q _ p _ e]
def eS(i:DG Z X e g)(j:Ta Z X d f)(k:(h_ (e::d) X.env).map (·.2)=k_ e X.env::(h_ d X.env).map (·.2)<|>zn):Ta Z X (e::d)^zb g f:=by
 refine(fM i j k).imp ?_;intro v u H Q l;rfl';let⟨G,n,x,P,s,e,dv,h,q⟩:=l;ac_rfl;cases dv with
 |nil=>exact h.elim
 |cons a o=>
  refine#[_,_,rfl,G,n,_,_,s,e,a,h,λp r y t=>?_];exact#[G,p,_,P,s,t,o,r,q]
def IU(n:Nat)(f:oF):eV:=λd g P=>match d with
 | .tup l=>l.length=n/\f l g P
 |_=>False
def qP(n:Nat)(i:X.calm=true)(h:Ta Z X f g)(j:(h_ f X.env).length=n<|>zn)(l:(h_ f X.env).findIdx? (·.1)=none<|>zn):DG Z X (.Tuple f k pos)^IU n g:=by
 refine(rj i h j l).imp ?_;rintro v r H Q ⟨G,m,d,P,s,e,dv,h,q⟩;cases dv<;>first|exact h.elim|skip
 rename_i a o t p f
 exact#[a,o,rfl,fI.of^s _ _ p,by rw[f.length];exact h.1,G,m,_,P,s,e,f,h.2,q]
def zu(Z:DC)(G:Hp)(J:It)(g:List D):Prop:=∀h f,aC G h->aC h f->∀i:Nat,(i<g.length->J.go i f)/\(g.length<=i->J.stop i f)/\
 ∀x j,i<g.length->J.yld i f x j->∃k d,Ext h f k j/\g[i]?\d/\Dv Z k x d
def tI(Z:DC)(i:jS):TI:=λj H R=>∃(G:Hp)(d:DN)(P:List D->Prop),aC G H/\eH Z G j d/\i d P/\∀f,P f->∀J g h,Ext G H g h->zu Z g J f->R J h
def DI(Z:DC)(X:Cx)(d e:gc)(f:jS):Prop:=PI X d e^tI Z f
def PI.imp{i e:gc}{t t':TI}(h:PI X i e t)(f:∀g H Q,t' g H Q->t g H Q):PI X i e t':=λd s g H Q I q=>h d s g H Q I^f _ _ _ q
def Pl(t:aX):jS:=λf P=>t f λd=>match d with
 | .lst l=>P l
 |_=>False
def Hi{K:ad}{a:Addr}(h:G a\(.lst f))(e:DvAll Z G f j):zu Z G (Mz K a) j:=by
 intro o r k m i;have g:=aL.of (K:=K)^m _ _^k _ _ h;have l:=e.length;refine#[λn=>#[f,f[i],g,cz (by omega)],λn=>#[f,g,()],?_]
 rintro x s n ⟨rfl,p⟩;let⟨d,q,dv⟩:=e.GO^p _ g;exact#[o,d, .refl m,q,dv.mono k]
def bM(h:DE Z X e te):DI Z X j e^Pl te:=by
 refine(kS h).imp ?_;intro r H Q k;rfl';let⟨G,m,P,s,n,h,q⟩:=k;ac_rfl;refine#[G,m,_,s,n,h,λd f v o p g dv=>?_];cases dv<;>first|exact f.elim|skip
 rename_i i e
 exact#[_,rfl,#[_,aL.of^g.sub _ _ i],q _ f _ o p g^Hi i e]
def kr(lo:Int)(n:Nat):List D:=(ak n).map λ(k:Nat)=>D.int (lo+(k:Int))
def HI{lo:Int}{n i:Nat}(h:i<n):(kr lo n)[i]?\(.int (lo+i)):=by
 unfold kr;rw[dh,wd h];rfl
def Nu(lo:Int)(n:Nat):zu Z G (F7 lo n)^kr lo n:=by
 intro f h j g i;have l:(kr lo n).length=n:=by unfold kr;simp
 rw[l];refine#[λd=>d,λd=>d,?_];rintro x k d ⟨rfl,rfl⟩;exact#[f,_, .refl g,HI d, .int _]
def aaN(t:gn):jS:=λd P=>t d λf=>match f with
 | [.int j]=>(-(2<<<62)<=j/\j<2<<<62)/\P^kr 0 j.toNat
 |_=>False
variable {t:gn}
def zS(g:Gl X "range")(i:X.mg "range"=none)(j:DA Z X [a] t)(k:d_ [a] X.env= [(false,gi a X.env)]<|>zn):DI Z X f (.Call (.Name "range" p) [a] [] pos)^aaN t:=by
 refine(n5 g i j k).imp ?_;intro w H Q l;rfl';let⟨G,n,P,s,o,h,q⟩:=l;ac_rfl;refine#[G,n,_,s,o,h,λy d z r u v dv=>?_]
 split at d
 .obtain⟨_,rfl,a⟩:=dv.ofOne
  exact#[_,by rw[a.ofInt],d.1.1,d.1.2,q _ d.2 _ r u v^Nu 0 _]
 .exact d.elim
def eO(l:List D):List D:=l.mapIdx λi x=> .tup [.int (i:Int),x]
def TK(t:gn):jS:=λd P=>t d λf=>match f with
 | [.lst l]=>P^eO l
 |_=>False
def QI{K:ad}{a:Addr}(h:G a\(.lst f))(e:DvAll Z G f g):zu Z G (My K a)^eO g:=by
 intro r s m j i;have k:=aL.of (K:=K)^j _ _^m _ _ h;have l:=e.length;rw[show(eO g).length=g.length by unfold eO;simp]
 refine#[λn=>#[f,f[i],k,cz ()],λn=>#[f,k,()],?_]
 rintro x u n ⟨t,y,rfl,o,rfl,p⟩;let⟨d,q,dv⟩:=e.GO^p _ k;refine#[_,_, .new j o,by unfold eO;rw[List.getElem?_mapIdx,q];rfl,?_]
 exact .tup af^.cons (.int _)^.cons ((dv.mono m).mono^az (j.free o) _) .nil
def eW{k1}(j:Gl X "enumerate")(k:X.mg "enumerate"=none)(l:DA Z X [a] t)(m:d_ [a] X.env= [(false,gi a X.env)]<|>zn):DI Z X (.Tuple g k1 i) (.Call (.Name "enumerate" p) [a] [] pos)^TK t:=by
 refine(AV j k l m).imp ?_;intro x H Q n;rfl';let⟨G,r,P,s,u,h,q⟩:=n;ac_rfl;refine#[G,r,_,s,u,h,λz d A v w f dv=>?_]
 split at d
 .obtain⟨_,rfl,a⟩:=dv.ofOne
  let⟨b,c,rfl,h,e⟩:=a.iG;exact#[_,rfl,#[_,f.sub _ _ h],q _ d _ v w f^QI h e]
 .exact d.elim
def yA(l m:List D):List D:=List.zipWith (λx y=> .tup [x,y]) l m
def XF(t:gn):jS:=λd P=>t d λf=>match f with
 | [.lst l, .lst m]=>P^yA l m
 |_=>False
def Ur{a b:Addr}(h:G a\(.lst f))(e:DvAll Z G f j)(w:G b\(.lst g))(r:DvAll Z G g k):zu Z G (W4 a b)^yA j k:=by
 intro J L m n i;have o:=n _ _^m _ _ h;have p:=n _ _^m _ _ w;have l:=e.length;have M:=r.length;rw[show(yA j k).length=min j.length k.length by unfold yA;simp]
 refine#[λs=>#[f,g,f[i]'(),g[i]'(),o,p,cz (),cz ()],λs=>#[f,g,o,p,()],?_]
 intro x N s A;rfl';let⟨t,y,z,rfl,u,rfl,C,E⟩:=A;ac_rfl;rfl';let⟨d,F,dv⟩:=e.GO^C _ o;let⟨O,H,I⟩:=r.GO^E _ p;ac_rfl;refine#[_,_, .new n u,by unfold yA;rw[List.getElem?_zipWith,F,H],?_]
 have v:=az (n.free u)^.tup [y,z];exact .tup af^.cons ((dv.mono m).mono v)^.cons ((I.mono m).mono v) .nil
def TL{k1}(l:Gl X "zip")(m:X.mg "zip"=none)(d:DA Z X [a,b] t)(n:d_ [a,b] X.env= [(false,gi a X.env),(false,gi b X.env)]<|>zn)(o:d_ [b] X.env= [(false,gi b X.env)]<|>zn):DI Z X (.Tuple j k1 k) (.Call (.Name "zip" p) [a,b] [] pos)^XF t:=by
 refine(Vc l m d n o).imp ?_;rintro B H Q ⟨G,r,P,s,u,h,q⟩;refine#[G,r,_,s,u,h,λC f E v w g dv=>?_]
 rcases C with _|⟨c,_|⟨d,_|⟨_,_⟩⟩⟩
 .cases f
 .cases c<;>cases f
 .cases c with
  |lst=>cases d with
   |lst=>
    obtain⟨F,I,rfl,x,y⟩:=dv.nY
    rfl';let⟨c,z,rfl,d,e⟩:=x.iG;let⟨c,z,rfl,i,A⟩:=y.iG;ac_rfl;exact#[_,_,_,_,rfl,g.sub _ _ d,g.sub _ _ i,q _ f _ v w g^Ur d e i A]
   |_=>cases f
  |_=>cases f
 .cases c<;>cases d<;>cases f
def Bg(src:List^Option Nat)(d:DN):DN:=src.map λo=>o.bind λi=>(d[i]?).bind id
theorem eH.src(e:eH Z G l f)(src:List^Option Nat):eH Z G (k4 src l)^Bg src f:=by
 refine#[by unfold k4 Bg;simp,λi d h=>?_]
 unfold Bg at h;unfold k4;rw[dh] at h ⊢;cases k:src[i]? with
 |none=>rw[k] at h;cases h
 |some o=>
  rw[k] at h;cases o with
  |none=>cases h
  |some j=>
   have g:(f[j]?).bind id\d:=Do h;cases m:f[j]? with
   |none=>rw[m] at g;cases g
   |some z=>
    rw[m] at g;rfl';have p:z\d:=g;subst p;let⟨v,q,dv⟩:=e.at_ j d m;ac_rfl;exact#[v,by show some^(l[j]?).bind id=_;rw[q];rfl,dv]
def lcW(g:eV)(h:dq)(i:aX):List D->DN->List D->(DN->List D->Prop)->Prop
 | [],j,acc,N=>N j acc
 |x::k,j,acc,N=>g x j λf=>h f λb=>if b=true then i f λd=>acc.length<sizeLine/\lcW g h i k f (acc++ [d]) N else lcW g h i k f acc N
def Xr(f:jS)(g:eV)(h:dq)(i:aX)(src:List^Option Nat):aX:=λd P=>f d λj=>lcW g h i j (Bg src d) [] λ_ out=>P^.lst out
def rX(g:eV)(f:dq)(h:jS)(i:eV)(j:dq)(k:aX):List D->DN->List D->(List D->Prop)->Prop
 | [],_,acc,P=>P acc
 |x::l,m,acc,P=>g x m λd=>f d λb=>if b=true then h d λn=>lcW i j k n d acc λo p=>rX g f h i j k l o p P else rX g f h i j k l d acc P
def V9(f:jS)(g:eV)(h:dq)(i:jS)(j:eV)(k:dq)(l:aX)(src:List^Option Nat):aX:=λd P=>f d λm=>rX g h i j k l m (Bg src d) [] λout=>P^.lst out
def oH:dq:=λ_ P=>P true
def BV(Z:DC)(X:Cx)(d:List gc)(t:dq):Prop:=kJ X d^liftT Z t
def kJ.imp{d:List gc}{t t':TT}(h:kJ X d t)(f:∀i H Q,t' i H Q->t i H Q):kJ X d t':=λg s i H Q I q=>h g s i H Q I^f _ _ _ q
def eX:BV Z X [] oH:=by
 refine vy.imp λg H Q d=>?_;rfl';let⟨G,i,P,s,e,p,q⟩:=d;ac_rfl;exact q _ p G H^.refl s
def uE(h:DT Z X c d):BV Z X [c] d:=HE h
def CS(Z:DC)(d f:Hp)(g:Addr)(i:DN)(acc:List D)(j:St)(H:Hp):Prop:=
 ∃(G:Hp)(h:List V),aC d G/\aC G H/\aC f H/\(∀b,f b≠none->d b=none->G b=none)/\G g=none/\H g\(.lst h)/\DvAll Z G h acc/\eH Z G j i
def gf(s:aC H d){b:Addr}(h:H b≠none):d b≠none:=λz=>by
 cases e:H b with
 |none=>exact h e
 |some o=>rw[s b o e] at z;cases z
def mD{d:Type}{l:List d}{i:Nat}{x:d}(h:l[i]?\x):l.drop i=x::l.drop (i+1):=by
 obtain⟨f,e⟩:=cR.mp h;rw[wa f,e]
theorem De(hA:m f=none)(A:Hp)(it:zu Z A J n)(i:Nat)(L:DN)(acc:List D)(σ:St)(H:Hp)
  (c:CS Z l m f L acc σ H) (hG:∀G,aC l G->aC A G) (hi:i<n.length) (h:lcW g u w (n.drop i) L acc N):
  J.go i H/\∀x B,J.yld i H x B->p6 Z g x σ B λp H4=>liftT Z u p H4 λb M=>
   if b=true then d9 Z w p M λv O=>∃k,O f\(.lst k)/\k.length<sizeLine/\(∃q r,CS Z l m f q r p^upd O f^.lst (k++ [v])/\lcW g u w (n.drop (i+1)) q r N)
   else ∃q r,CS Z l m f q r p M/\lcW g u w (n.drop (i+1)) q r N:=by
 rfl';let⟨Q,k,R,s2,S,off,gA,T,Y,en⟩:=c;let⟨go,K,yld⟩:=it Q H (hG _ R) s2 i;ac_rfl;refine#[go hi,λx B y=>?_];rfl';let⟨G3,d,C,hd,dv⟩:=yld x B hi y;rw[mD hd] at h;ac_rfl;refine#[G3,L,d,_,C.sub,en.mono C.gg,dv,h,λE F p I=>?_];refine#[G3,E,_,C.sub,I,F,λb hb G5 M s=>?_];have j:=C.trans s;have a:∀{G t:Hp},Ext Q H G t->G f=none:=λx=>x.off f (by rw[T];exact λz=>nomatch z) gA
 have yo:∀{G t:Hp},Ext Q H G t->∀b,m b≠none->l b=none->G b=none:=λx b F h2=>x.off b (gf S F)^off b F h2;cases b with
 |false=>
  refine cv #[E,acc,#[G5,k,R.trans j.gg,j.sub,S.trans j.hh,yo j,a j,j.hh _ _ T,Y.mono j.gg,I.mono s.gg],?_];simpa using hb
 |true=>
  refine cZ #[G5,E,_,s.sub,I.mono s.gg,(~~~hb),λd' gx v G6 O x6 X=>?_]
  have x:=j.trans x6;refine#[k,x.hh _ _ T,by rw[Y.length];exact gx.1,E,_,#[G6,k++ [v],R.trans x.gg,λb o e=>?_,λb o e=>?_,yo x,a x,af,(Y.mono x.gg).snoc X,(I.mono s.gg).mono x6.gg],gx.2]
  .rw[ag^au e^a x];exact x.sub _ _ e
  .rw[ag^au e hA];exact(S.trans x.hh) _ _ e
def CS.done(c:CS Z h g d n acc p i)(f:Ext G H h g)(q:g d=none):∃j,Ext G H j i/\Dv Z j (.ref d)^.lst acc:=by
 rfl';let⟨s,u,v,w,x,off,k,y,A,E⟩:=c;ac_rfl;refine#[upd s d^.lst u,#[(f.gg.trans v).trans^az k _,λb o e=>?_,f.hh.trans x,λb l B=>?_], .lst af^A.mono^az k _]
 .by_cases z:b=d
  .subst z;rw[af] at e;cases e;exact y
  .rw[ag z] at e;exact w _ _ e
 .have m:=gf f.hh l
  rw[ag^λz=>m^by rw[z];exact q]
  exact off b m^f.off b l B
def CS.begin(s:aC d f)(i:f g=none)(l:eH Z d k j):CS Z d f g j [] k^upd f g^.lst []:=
 #[d,[], .refl _,λb o e=>by rw[ag^au e^s.free i];exact s _ _ e,az i _,λ_ _ h=>h,s.free i,af, .nil,l]
variable {tg iter elt:gc} {ifs:List gc} {scope:Scope} {NC:List fA} {src:List^Option Nat} {wi:jS} {g:eV} {tt:dq}
def LK:∀o H Q,d9 Z (Xr wi g tt te src) o H Q->VG (tI Z wi) (p6 Z g) (liftT Z tt) (d9 Z te) src o H Q:=by
 intro o H Q C;rfl';let⟨G,E,P,s,y,h,q⟩:=C;ac_rfl;refine#[G,E,_,s,y,h,λd F J z I p A L r=>?_];refine#[λi m u j=>m=d.length-i/\i<=d.length/\∃l acc,CS Z z I L l acc u j/\lcW g tt te (d.drop i) l acc λ_ out=>P^.lst out,#[_,rfl,eE _,_,[], .begin p.sub r^(y.mono p.gg).src src,F],?_];intro i m u j M;rfl';let⟨rfl,Y,l,acc,c,v⟩:=M;ac_rfl
 by_cases B:i<d.length
 .obtain⟨N,k⟩:=De r z A i l acc u j c (λ_ s=>s) B v
  exact .inr #[N,_,λa b n=>#[d.length-(i+1),(by omega),rfl,B,n],k]
 .have e:d.drop i= []:=BM ()
  rfl';rw[e] at v;let⟨O,x,dv⟩:=c.done p r;let⟨R,t,S,T,f⟩:=c;ac_rfl;exact .inl #[(A R j S T i).2.1 (),q _ v _ O j x dv]
def sS(f:X.calm=true)(c:bC X scope)(h:dA scope X.N src NC)(i:DI Z X tg iter wi)
  (j:∀d s H,DG Z (bH X scope NC d s H) tg g) (k:∀d s H,BV Z (bH X scope NC d s H) ifs tt) (l:∀d s H,DE Z (bH X scope NC d s H) elt te)
  (m:(∀x,f8 iter X.env x=pure x)<|>xx):DE Z X (.ListComp elt [#[tg,iter,ifs,0]] scope pos)^Xr wi g tt te src:=(Ry f c h i j k l m).imp LK
variable {t0 i0 t1 i1:Expr} {f0 f1:List Expr} {cG:jS} {g1:eV} {bW:dq}
def QT:∀σ H Q,d9 Z (V9 wi g tt cG g1 bW te src) σ H Q->WV (tI Z wi) (p6 Z g) (liftT Z tt) (tI Z cG) (p6 Z g1) (liftT Z bW) (d9 Z te) src σ H Q:=by
 intro σ H Q aM;rfl';let⟨G,ρ,P,s,en,h,q⟩:=aM;ac_rfl;refine#[G,ρ,_,s,en,h,λl hd J E r x1 it j hA=>?_];refine#[λi m dS F=>m=l.length-i/\i<=l.length/\∃u acc,CS Z E r j u acc dS F/\rX g tt cG g1 bW te (l.drop i) u acc λout=>P^.lst out,#[_,rfl,eE _,_,[], .begin x1.sub hA^(en.mono x1.gg).src src,hd],?_];intro i m dS F jx;rfl';let⟨rfl,hi,u,acc,c,hl⟩:=jx;ac_rfl
 by_cases bZ:i<l.length
 .have c0:=c
  rfl';let⟨R,p,S,s2,s3,off,gA,oZ,bD,XX⟩:=c;let⟨go,f,yld⟩:=it R F S s2 i;ac_rfl;refine .inr #[go bZ,λT I=>∃Y a,CS Z E r j Y a T I/\rX g tt cG g1 bW te (l.drop (i+1)) Y a λout=>P^.lst out,λT I n=>#[l.length-(i+1),(by omega),rfl,bZ,n],λx H3 y=>?_]
  rfl';let⟨G3,d,x3,Jl,dv⟩:=yld x H3 bZ y;rw[mD Jl] at hl;ac_rfl;refine#[G3,u,d,_,x3.sub,XX.mono x3.gg,dv,hl,λt L fb uF=>?_];refine#[G3,t,_,x3.sub,uF,L,λb X G5 H5 x5=>?_];have w:=x3.trans x5;have uW:∀{G M:Hp},Ext R F G M->G j=none:=λx=>x.off j (by rw[oZ];exact λz=>nomatch z) gA
  have yo:∀{G M:Hp},Ext R F G M->∀b,r b≠none->E b=none->G b=none:=λx b L h2=>x.off b (gf s3 L)^off b L h2;cases b with
  |false=>exact cv #[t,acc,#[G5,p,S.trans w.gg,w.sub,s3.trans w.hh,yo w,uW w,w.hh _ _ oZ,bD.mono w.gg,uF.mono x5.gg],by simpa using X]
  |true=>
   refine cZ #[G5,t,_,x5.sub,uF.mono x5.gg,(~~~X),λN YB J1 G6 H6 x6 Hh=>?_]
   have x:=w.trans x6;have c6:CS Z G6 H6 j t acc fb H6->True:=λ_=>trivial
   refine#[λk m qM A=>m=N.length-k/\k<=N.length/\∃(BS:DN)(Gb:List D),(∃(G:Hp)(p:List V),aC G6 G/\aC G A/\aC r A/\(∀b,r b≠none->E b=none->G b=none)/\G j=none/\A j\(.lst p)/\DvAll Z G p Gb/\eH Z G qM BS)/\
    lcW g1 bW te (N.drop k) BS Gb λu zx=>rX g tt cG g1 bW te (l.drop (i+1)) u zx λout=>P^.lst out,
    #[_,rfl,eE _,t,acc,#[G6,p, .refl _,x.sub,s3.trans x.hh,yo x,uW x,x.hh _ _ oZ,bD.mono x.gg,(uF.mono x5.gg).mono x6.gg],YB],?_]
   intro k m qM A jx;rfl';obtain⟨rfl,hk,BS,Gb,⟨G7,VV,a1,a2,a3,a4,a5,a6,a7,a8⟩,rO⟩:=jx;ac_rfl;have X1:aC E G6:=S.trans x.gg
   by_cases z7:k<N.length
   .obtain⟨X4,_,SU⟩:=Hh G7 A a1 a2 k
    refine .inr #[X4 z7,λT I=>∃(Y:DN)(a:List D),(∃(G:Hp)(p:List V),aC G6 G/\aC G I/\aC r I/\(∀b,r b≠none->E b=none->G b=none)/\G j=none/\I j\(.lst p)/\DvAll Z G p a/\eH Z G T Y)/\
     lcW g1 bW te (N.drop (k+1)) Y a λu zx=>rX g tt cG g1 bW te (l.drop (i+1)) u zx λout=>P^.lst out,λT I n=>#[N.length-(k+1),(by omega),rfl,z7,n],λy H8 hy=>?_]
    rfl';let⟨G8,d8,x8,Yv,XQ⟩:=SU y H8 z7 hy;rw[mD Yv] at rO;ac_rfl;refine#[G8,BS,d8,_,x8.sub,a8.mono x8.gg,XQ,rO,λCB h9 σ9 B7=>?_];refine#[G8,CB,_,x8.sub,B7,h9,λb X OJ yI y4=>?_];have B:=x8.trans y4;have oA:∀{G M:Hp},Ext G7 A G M->G j=none:=λx=>x.off j (by rw[a6];exact λz=>nomatch z) a5
    have oB:∀{G M:Hp},Ext G7 A G M->∀b,r b≠none->E b=none->G b=none:=λx b L h2=>x.off b (gf a3 L)^a4 b L h2;cases b with
    |false=>exact cv #[CB,Gb,#[OJ,VV,a1.trans B.gg,B.sub,a3.trans B.hh,oB B,oA B,B.hh _ _ a6,a7.mono B.gg,B7.mono y4.gg],by simpa using X]
    |true=>
     refine cZ #[OJ,CB,_,y4.sub,B7.mono y4.gg,(~~~X),λd' gx v W0 BW K2 Pw=>?_]
     have C:=B.trans K2;refine#[VV,C.hh _ _ a6,by rw[a7.length];exact gx.1,CB,_,#[W0,VV++ [v],a1.trans C.gg,λb o e=>?_,λb o e=>?_,oB C,oA C,af,(a7.mono C.gg).snoc Pw,(B7.mono y4.gg).mono K2.gg],gx.2]
     .rw[ag^au e^oA C];exact C.sub _ _ e
     .rw[ag^au e hA];exact(a3.trans C.hh) _ _ e
   .have e:N.drop k= []:=BM ()
    rw[e] at rO;exact .inl #[(Hh G7 A a1 a2 k).2.1 (),BS,Gb,#[G7,VV,X1.trans a1,a2,a3,a4,a5,a6,a7,a8],rO]
 .have e:l.drop i= []:=BM ()
  rfl';rw[e] at hl;let⟨G',x,dv⟩:=c.done x1 hA;let⟨R,p,S,s2,f⟩:=c;ac_rfl;exact .inl #[(it R F S s2 i).2.1 (),q _ hl _ G' F x dv]
def TC(f:X.calm=true)(c:bC X scope)(h:dA scope X.N src NC)(i:DI Z X t0 i0 wi)
  (j:∀d s H,DG Z (bH X scope NC d s H) t0 g) (k:∀d s H,BV Z (bH X scope NC d s H) f0 tt) (l:∀d s H,DI Z (bH X scope NC d s H) t1 i1 cG) (m:∀d s H,DG Z (bH X scope NC d s H) t1 g1)
  (n:∀d s H,BV Z (bH X scope NC d s H) f1 bW) (o:∀d s H,DE Z (bH X scope NC d s H) elt te)
  (p:(∀x,f8 i0 X.env x=pure x)<|>xx) (q:(∀env x,f8 i1 env x=pure x)<|>wv):
  DE Z X (.ListComp elt [#[t0,i0,f0,0],#[t1,i1,f1,0]] scope pos)^V9 wi g tt cG g1 bW te src:=(U6 f c h i j k l m n o p q).imp QT
end
inductive j0 (R:V->D->List Addr->Prop):List V->List D->List Addr->Prop
 |nil:j0 R [] [] []
 |cons {v:V} {vs:List V} {d:D} {ds:List D} {f fs:List Addr}:R v d f->j0 R vs ds fs->j0 R (v::vs) (d::ds) (f++fs)
def isL:D->Bool
 | .lst _=>true
 |_=>false
def Own(Z:DC)(G H:Hp):Nat->V->D->List Addr->Prop
 |0,v,d,c=>Dv Z G v d/\c= []
 |n+1,v,d,c=>(∃a e g i,v= .ref a/\d= .lst g/\H a\(.lst e)/\c=a::i/\j0 (Own Z G H n) e g i)\/(1<=n/\∃a e g,v= .ref a/\d= .tup g/\G a\(.tup e)/\j0 (λv d f=>(isL d=true/\Own Z G H n v d f)\/(isL d=false/\Dv Z G v d/\f= [])) e g c)\/(∃a h,v= .ref a/\H a\(.ext h)/\c= [a]/\((n=98/\∃b j,d= .set b j/\h=V1 b a j)\/(n=97/\∃k,d= .x k/\MC G a h k)))
theorem Own.lst{Z:DC}{G H:Hp}{n:Nat}{v:V}{c:List D}{d:List Addr}(o:Own Z G H (n+1) v (.lst c) d):∃a xs f g,v= .ref a/\D.lst c= .lst f/\H a\(.lst xs)/\d=a::g/\j0 (Own Z G H n) xs f g:=by
 rcases o with o| ⟨_,a,xs,c,_,e,_⟩ | ⟨a,h,_,_,_,⟨_,b,i,e,_⟩ | ⟨_,k,e,_⟩⟩
 .exact o
 .cases e
 .cases e
 .cases e
def Own.xA(o:Own Z G H 98 v (.x k) d):∃a c,v= .ref a/\H a\(.ext c)/\d= [a]/\MC G a c k:=by
 rcases o with ⟨_,_,_,_,_,e,_⟩ | ⟨_,a,j,l,_,e,_⟩ | ⟨a,c,f,g,h,⟨_,b,m,e,n⟩ | ⟨_,k,e,i⟩⟩
 .cases e
 .cases e
 .cases e
 .cases e;exact#[a,c,f,g,h,i]
def Own.one{d:D}(o:Own Z G H 1 v d b):∃a c e f,v= .ref a/\d= .lst e/\H a\(.lst c)/\b=a::f/\j0 (Own Z G H 0) c e f:=by
 rcases o with o| ⟨z,_⟩ | ⟨_,_,_,_,_,⟨z,_⟩ | ⟨z,_⟩⟩
 .exact o
 .exact absurd z ∅
 .exact absurd z ∅
 .exact absurd z ∅
def j0.imp{i:List V}(o:j0 R i j c)(h:∀v d f,(∀b∈f,b∈c)->R v d f->g v d f):j0 g i j c:=by
 induction o with
 |nil=>exact .nil
 |cons a _ k=>exact .cons (h _ _ _ (λb e=>j8 _ e) a) (k λv d f l r=>h v d f (λb e=>fW _^l b e) r)
section
variable {Z:DC} {G G' H H':Hp}
theorem Own.keep:∀{v:V}{d:D}{g:List Addr},Own Z G H n v d g->aC G G'->(∀b∈g,H' b=H b)->Own Z G' H' n v d g:=by
 induction n with
 |zero=>exact λh s _=>#[h.1.mono s,h.2]
 |succ n u=>
  intro v d g h s k
  rcases h with ⟨a,j,l,w,c,m,e,i,o⟩ | ⟨p,a,j,l,c,m,e,o⟩ | ⟨a,x,c,e,i,y⟩
  .subst i
   exact .inl #[a,j,l,w,c,m,by rw[k a (dH ..)];exact e,rfl,o.imp λv d f t r=>u r s λb q=>k b^fq _^t b q]
  .exact .inr^.inl #[p,a,j,l,c,m,s _ _ e,o.imp λv d f t r=>r.imp (λr=>#[r.1,u r.2 s λb q=>k b^t b q]) λr=>#[r.1,r.2.1.mono s,r.2.2]]
  .exact .inr^.inr #[a,x,c,by rw[k a^by rw[i];exact dH ..];exact e,i,y.imp id λ#[p,k,z,A]=>#[p,k,z,A.mono s]]
def j0.Wf(o:j0 R e g h)(k:∀v d f,(∀b∈f,b∈h)->R v d f->Dv Z G' v d):DvAll Z G' e g:=by
 induction o with
 |nil=>exact .nil
 |cons a _ i=>exact .cons (k _ _ _ (λb c=>j8 _ c) a) (i λv d f j r=>k v d f (λb c=>fW _^j b c) r)
def Own.We(o:HO->Prop)(y:∀j,o^.lst j)(t:∀u,o^.ext u):∀{v:V}{d:D}{l:List Addr},Own Z G H n v d l->aC G G'->(∀b∈l,∀x,o x->H b\x->G' b\x)->Dv Z G' v d:=by
 induction n with
 |zero=>exact λh s _=>h.1.mono s
 |succ n w=>
  intro v d l h s k
  rcases h with ⟨a,j,z,B,i,c,g,e,m⟩ | ⟨_,a,j,z,i,c,g,m⟩ | ⟨a,u,i,g,e,A⟩
  .subst e i c
   exact .lst (k a (dH ..) _ (y _) g) (m.Wf λv d f e r=>w r s λb p=>k b^fq _^e b p)
  .subst i c
   exact .tup (s _ _ g) (m.Wf λv d f e r=>r.elim (λr=>w r.2 s λb p=>k b^e b p) λr=>r.2.1.mono s)
  .subst i e
   rcases A with ⟨_,b,C,c,q⟩ | ⟨_,E,c,q⟩
   .subst c q
    exact .set^k a (dH ..) _ (t _) g
   .subst c
    exact .x (k a (dH ..) _ (t _) g)^q.mono s
def Own.dv{d:D}(h:Own Z G H n v d a)(s:aC G G')(k:∀b∈a,∀o,H b\o->G' b\o):Dv Z G' v d:=h.We (λ_=>True) (λ_=>trivial) (λ_=>trivial) s λb c x _ e=>k b c x e
def j0.flat(o:j0 (Own Z G H 0) b c d):DvAll Z G b c/\d= []:=by
 induction o with
 |nil=>exact#[.nil,rfl]
 |cons a _ e=>exact#[.cons a.1 e.1,by rw[a.2,e.2];rfl]
def DvAll.own(h:DvAll Z G c d):j0 (Own Z G H 0) c d []:=h.ind (p:=λc d=>j0 (Own Z G H 0) c d []) .nil λa _ b=> .cons (f:= []) (fs:= []) #[a,rfl] b
def Dv.flat{v:V}{d:D}(h:Dv Z G v d)(f:f6 d=true):Dv Z G' v d:=by
 have c:∀{p:Prop},false=true->p:=λh=>Bool.noConfusion h
 revert f;exact Dv.casesOn h (λ_=> .aQ) (λb _=> .bl b) (λi _=> .int i) (λx k _=> .str x k) (λ_ _ f=>c f) (λ_ _ f=>c f) (λ_ f=>c f) (λ_ f=>c f) (λ_ _ f=>c f) (λ_ _ _ _ _ f=>c f) (λ_ f=>c f) (λ_ _ f=>c f) λ_ _ _ f=>c f
end
mutual
noncomputable def iW:D->Bool
 | .aQ=>true
 | .bl _=>true
 | .int _=>true
 | .str _=>true
 | .tup l=>LN l
 |_=>false
noncomputable def LN:List D->Bool
 | []=>true
 |d::ds=>iW d&&LN ds
end
theorem Dv.iW(k:∀b xs,G b\(.tup xs)->e b\(.tup xs))(h:Dv Z G v d):L2.iW d=true->Dv Z e v d:=by
 have c:∀{p:Prop},false=true->p:=λh=>Bool.noConfusion h
 exact Dv.rec (motive_1:=λv d _=>L2.iW d=true->Dv Z e v d) (motive_2:=λj g _=>LN g=true->DvAll Z e j g) (λ_=> .aQ) (λb _=> .bl b) (λi _=> .int i) (λx h _=> .str x h) (λ_ _ _ f=>c f) (λh _ l f=> .tup (k _ _ h)^l f) (λ_ f=>c f) (λ_ f=>c f) (λ_ _ f=>c f) (λ_ _ _ _ _ _ f=>c f) (λ_ f=>c f) (λ_ _ f=>c f) (λ_ _ _ _ f=>c f) (λ_=> .nil) (λ_ _ m n f=>have f:=Bool.and_eq_true_iff.mp (f:(L2.iW _&&LN _)=true); .cons (m f.1)^n f.2) h
def Rp:HO->Bool
 | .lst _=>true
 | .ext _=>true
 |_=>false
def Own.dvL(h:Own Z G H n v d c)(s:aC G a)(k:∀b∈c,∀o,Rp o=true->H b\o->a b\o):Dv Z a v d:=h.We (λo=>Rp o=true) (λ_=>rfl) (λ_=>rfl) s k
structure Bs where
 G₀:Hp
 H₀:Hp
 Gf:Hp
structure SIx (Z:DC) (B:Bs) (md:List Nat) (ρ:DN) (σ:St) (H G:Hp) (fp:Nat->List Addr):Prop where
 ex:Ext B.G₀ B.H₀ G H
 fl:aC B.Gf G
 len:ρ.length=σ.length
 at_:∀(i:Nat)(d:D),ρ[i]?\(some d)->∃v,σ[i]?\(some v)/\Own Z G H (md.getD i 0) v d (fp i)
 nd:∀i,(fp i).Nodup
 ap:∀i j b,i≠j->b∈fp i->b∉fp j
 nw:∀i b,b∈fp i->B.H₀ b=none/\H b≠none/\G b=none
def SI(Z:DC)(B:Bs)(a:List Nat)(b:DN)(c:St)(H:Hp):Prop:=∃G d,SIx Z B a b c H G d
def cy:List Nat->DN->DN
 |_,[]=> []
 | [],o::a=>o::a
 |0::b,o::a=>o::cy b a
 | (_+1)::b,_::a=>none::cy b a
theorem tQ:∀(a:List Nat)(b:DN),(cy a b).length=b.length
 |a,[]=>by cases a<;>rfl
 | [],o::b=>rfl
 |0::a,o::b=>by rw[cy,dU,tQ a b,dU]
 | (_+1)::a,_::b=>by rw[cy,dU,tQ a b,dU]
theorem xF:∀(c:List Nat)(e:DN)(i:Nat),(cy c e)[i]?\(some d)->c.getD i 0=0/\e[i]?\(some d)
 |c,[],i,h=>by cases c<;>simp[cy] at h
 | [],o::e,i,h=>#[by simp,h]
 |0::c,o::e,0,h=>#[rfl,by simpa [cy] using h]
 |0::c,o::e,i+1,h=>by
  rw[cy,yC] at h;obtain⟨a,b⟩:=xF c e i h;exact#[by rw[List.getD_cons_succ];exact a,by rw[yC];exact b]
 | (_+1)::c,_::e,0,h=>by simp[cy] at h
 | (_+1)::c,_::e,i+1,h=>by
  rw[cy,yC] at h;obtain⟨a,b⟩:=xF c e i h;exact#[by rw[List.getD_cons_succ];exact a,by rw[yC];exact b]
def FF(b:List Nat):Bool->DN->DN
 |true,a=>a
 |false,a=>cy b a
def zd:Bool->D->Prop
 |true,d=>iW d=true
 |false,_=>True
section
variable {Z:DC} {B:Bs} {md:List Nat} {ρ:DN} {σ:St} {H G:Hp} {fp:Nat->List Addr}
def Kh(h:(cy md ρ)[i]?\(some d)):md.getD i 0=0/\ρ[i]?\(some d):=xF md ρ i h
def SIx.yc(S:SIx Z B md ρ σ H G fp):eH Z G σ^cy md ρ:=by
 refine#[by rw[tQ];exact S.len,λi d h=>?_]
 let⟨z,h⟩:=Kh h;let⟨v,a,o⟩:=S.at_ i d h;rw[z] at o;exact#[v,a,o.1]
def SIx.PF(S:SIx Z B md ρ σ H G fp):eH Z H σ ρ:=by
 refine#[S.len,λi d h=>?_];obtain⟨v,a,o⟩:=S.at_ i d h;exact#[v,a,o.dv S.ex.sub λb _ u e=>e]
theorem SIx.grow{c f:Hp}(S:SIx Z B md ρ σ H G fp)(x:Ext G H c f):SIx Z B md ρ σ f c fp where
 ex:=S.ex.trans x
 fl:=S.fl.trans x.gg
 len:=S.len
 at_:=λi d h=>by
  obtain⟨v,j,o⟩:=S.at_ i d h;refine#[v,j,o.keep x.gg λb a=>?_];cases e:H b with
  |none=>exact absurd e (S.nw i b a).2.1
  |some u=>exact x.hh _ _ e
 nd:=S.nd
 ap:=S.ap
 nw:=λi b a=>let #[k,g,l]:=S.nw i b a;#[k,gf x.hh g,x.off b g l]
def Ext.all(s:aC G H)(x:Ext H H b a):Ext G H G a:=#[.refl _,s.trans x.hh,x.hh,λ_ _ h=>h]
open Classical in
def jZ(G H:Hp)(fp:Nat->List Addr):Hp:=λb=>if ∃i,b∈fp i then(match H b with|some (.lst xs)=>some (.lst xs) |some (.ext φ)=>some (.ext φ) |_=>none) else G b
open Classical in
def xh(G:Hp)(fp:Nat->List Addr):Hp:=λb=>if ∃i,b∈fp i then none else G b
def OB(i:Nat)(h:b∈fp i)(a:Rp o=true)(e:H b\o):jZ G H fp b\o:=by
 unfold jZ;rw[ir #[i,h],e];cases o<;>first|rfl|cases a
def tZ(h:¬∃i,b∈fp i):jZ G H fp b=G b:=tz h
def SIx.Wi(S:SIx Z B md ρ σ H G fp):aC G^jZ G H fp/\aC (jZ G H fp) H/\eH Z (jZ G H fp) σ ρ:=by
 have c:aC G^jZ G H fp:=λb o e=>by
  by_cases h:∃i,b∈fp i
  .obtain⟨i,f⟩:=h
   rw[(S.nw i b f).2.2] at e;cases e
  .rw[tZ h];exact e
 refine#[c,λb o e=>?_,S.len,λi d h=>?_]
 .by_cases h:∃i,b∈fp i
  .unfold jZ at e
   rw[ir h] at e
   split at e
   .next l a=>rw[a];exact e
   .next m a=>rw[a];exact e
   .cases e
  .rw[tZ h] at e;exact S.ex.sub _ _ e
 .obtain⟨v,g,o⟩:=S.at_ i d h
  exact#[v,g,o.dvL c λb j u k a=>OB i j k a]
def SIx.abI(S:SIx Z B md ρ σ H G fp)(x:Ext (jZ G H fp) H a g):Ext G H (xh a fp) g/\∀b d,a b\(.tup d)->xh a fp b\(.tup d):=by
 let⟨j,l,m⟩:=S.Wi;refine#[#[λb o e=>?_,λb o e=>?_,x.hh,λb f k=>?_],λb d e=>?_]
 .have h:¬∃i,b∈fp i:=by
   rintro⟨i,c⟩;rw[(S.nw i b c).2.2] at e;cases e
  unfold xh;rw[tz h];exact x.gg _ _^j _ _ e
 .unfold xh at e
  split at e
  .cases e
  .exact x.sub _ _ e
 .unfold xh
  split
  .rfl
  .next h=>exact x.off b f^by rw[tZ h];exact k
 .have h:¬∃i,b∈fp i:=by
   rintro⟨i,c⟩;have f:=(S.nw i b c).2.1;cases hw:jZ G H fp b with
   |none=>rw[x.off b f hw] at e;cases e
   |some o=>
    have:=x.gg _ _ hw
    rw[e] at this;cases Do this;unfold jZ at hw;rw[ir #[i,c]] at hw
    split at hw<;>cases hw
  unfold xh;rw[tz h];exact e
theorem SIx.ev{t:aX}{P:D->Prop}(S:SIx Z B md ρ σ H G fp)(m:Bool)(h:t (FF md m ρ) P)
  (f:∀d,P d->zd m d/\∀v b a,SIx Z B md ρ σ a b fp->Ext G H b a->Dv Z b v d->Q v a):d9 Z t σ H Q:=by
 cases m with
 |false=>exact#[G,_,P,S.ex.sub,S.yc,h,λd c v b a x dv=>(f d c).2 v b a (S.grow x) x dv]
 |true=>
  let⟨j,i,e⟩:=S.Wi;refine#[jZ G H fp,_,P,i,e,h,λd c v b a x dv=>?_];let⟨g,k⟩:=S.abI x;exact(f d c).2 v _ a (S.grow g) g^dv.iW k (f d c).1
def SIx.XY(S:SIx Z B md ρ σ H G fp)(h:t ρ P)(c:∀b,P b->∀a,SIx Z B md ρ σ a G fp->Q b a):liftT Z t σ H Q:=
 #[H,ρ,P, .refl _,S.PF,h,λb d e a x=>c b d a^S.grow^Ext.all S.ex.sub x]
def SIx.lS(S:SIx Z B md ρ σ H G fp)(l:md.getD i 0=0)(dv:Dv Z G v d):SIx Z B md (ρ.set i^some d) (σ.set i^some v) H G (λj=>if j=i then[] else fp j) where
 ex:=S.ex
 fl:=S.fl
 len:=by rw[fF,fF];exact S.len
 at_:=λj c h=>by
  by_cases z:i=j
  .subst z
   by_cases a:i<ρ.length
   .rw[lV a] at h
    cases Do h;exact#[v,lV^by rw[<-S.len];exact a,by rw[l,ir rfl];exact#[dv,rfl]]
   .rw[D1^ke a,fm^ke a] at h;cases h
  .rw[i5 z] at h ⊢
   rw[tz^Ne.symm z];exact S.at_ j c h
 nd:=λj=>by split;exact i8;exact S.nd j
 ap:=λj k b ne e f=>by
  split at e
  .cases e
  .split at f
   .cases f
   .exact S.ap j k b ne e f
 nw:=λj b g=>by
  split at g
  .cases g
  .exact S.nw j b g
def SIx.L9{f:List Addr}(S:SIx Z B md ρ σ H G fp)(m:md.getD i 0=n)(o:Own Z G H n v d f)(nd:f.Nodup)(nw:∀b∈f,B.H₀ b=none/\H b≠none/\G b=none)(ap:∀b∈f,∀j,j≠i->b∉fp j):
  SIx Z B md (ρ.set i^some d) (σ.set i^some v) H G (λj=>if j=i then f else fp j) where
 ex:=S.ex
 fl:=S.fl
 len:=by rw[fF,fF];exact S.len
 at_:=λj c h=>by
  by_cases z:i=j
  .subst z
   by_cases e:i<ρ.length
   .rw[lV e] at h
    cases Do h;exact#[v,lV^by rw[<-S.len];exact e,by rw[m,ir rfl];exact o]
   .rw[D1^ke e,fm^ke e] at h;cases h
  .rw[i5 z] at h ⊢
   rw[tz^Ne.symm z];exact S.at_ j c h
 nd:=λj=>by split;exact nd;exact S.nd j
 ap:=λj k b ne g a=>by
  split at g
  .next z=>
   rw[tz^λw=>ne^z.trans w.symm] at a;exact ap b g k (λw=>ne^z.trans w.symm) a
  .next z=>
   split at a
   .exact ap b a j z g
   .exact S.ap j k b ne g a
 nw:=λj b l=>by
  split at l
  .exact nw b l
  .exact S.nw j b l
def plus(G H:Hp)(F:Addr->Prop):Hp:=λb=>open Classical in if F b then H b else G b
def jL(h:F b):plus G H F b=H b:=by unfold plus;rw[ir h]
def gF(h:¬F b):plus G H F b=G b:=by unfold plus;rw[tz h]
def rk(s:aC G H):aC (plus G H F) H:=λb o e=>by
 by_cases h:F b
 .rw[jL h] at e;exact e
 .rw[gF h] at e;exact s _ _ e
def iu(s:aC G H):aC G^plus G H F:=λb o e=>by
 by_cases h:F b
 .rw[jL h];exact s _ _ e
 .rw[gF h];exact e
def SIx.evR(S:SIx Z B md ρ σ H G fp)(h:t ρ P)(g:∀d,P d->∀v a c,Ext B.G₀ B.H₀ a c->Dv Z a v d->Q v c):d9 Z t σ H Q:=by
 let F:Addr->Prop:=λb=>∃i,b∈fp i
 have s:=S.ex.sub
 have j:Ext B.G₀ B.H₀ (plus G H F) H:=#[S.ex.gg.trans^iu s,rk s,S.ex.hh,λb f k=>by
  rw[gF^λ#[i,l]=>f (S.nw i b l).1];exact S.ex.off b f k]
 refine#[plus G H F,ρ,P,rk s,#[S.len,λi d h=>?_],h,λd m v a c x dv=>g d m v a c (j.trans x) dv];obtain⟨v,n,o⟩:=S.at_ i d h;exact#[v,n,o.dv (iu s) λb f u e=>by rw[jL #[i,f]];exact e]
end
structure fN where
 nx:DN->Prop
 rt:D->Prop
 bk:DN->Prop:=λ_=>False
 ct:DN->Prop:=λ_=>False
 xc:DN->D->Prop:=λ_ _=>False
abbrev cJ:=fN->DN->Prop
structure Meets (Z:DC) (X:Cx) (B:Bs) (md:List Nat) (rn:Nat) (E:fN) (Dn:Ends):Prop where
 nx:∀ρ,E.nx ρ->∀σ H,SI Z B md ρ σ H->Dn.nx σ H
 rt:∀d,E.rt d->∀v f G' H',Ext B.G₀ B.H₀ G' H'->Own Z G' H' rn v d f->f.Nodup->(∀b∈f,B.H₀ b=none/\H' b≠none/\G' b=none)->Dn.rt v H'
 bk:∀ρ,E.bk ρ->∀σ H,SI Z B md ρ σ H->Dn.bk σ H
 ct:∀ρ,E.ct ρ->∀σ H,SI Z B md ρ σ H->Dn.ct σ H
 xc:∀ρ d,E.xc ρ d->∀σ H G fp a,SIx Z B md ρ σ H G fp->Dv Z G (.ref a) d->Le X σ H a
def nP(Z:DC)(X:Cx)(a:List Nat)(c:Nat)(t:cJ):TS:=λd e H=>∃(B:Bs)(b:DN)(E:fN),SI Z B a b e H/\t E b/\Meets Z X B a c E d
def DSt(Z:DC)(X:Cx)(a:List Nat)(b:Nat)(st:Stmt)(t:cJ):Prop:=PS X st^nP Z X a b t
def lg(Z:DC)(X:Cx)(a:List Nat)(b:Nat)(c:List Stmt)(t:cJ):Prop:=jT X c^nP Z X a b t
def PS.imp{X:Cx}{st:Stmt}{t t':TS}(h:PS X st t)(f:∀D b H,t' D b H->t D b H):PS X st t':=λa s b H D I q=>h a s b H D I^f _ _ _ q
def jT.imp{X:Cx}{st:List Stmt}{t t':TS}(h:jT X st t)(f:∀D b H,t' D b H->t D b H):jT X st t':=λa s b H D I q=>h a s b H D I^f _ _ _ q
section
variable {Z:DC} {X:Cx} {md:List Nat} {rn:Nat} {st:Stmt} {Bm:List Stmt} {t u:cJ} {e:Expr} {te:aX} {pos:Pos}
def Xu:cJ:=λE a=>E.nx a
def aaH(t u:cJ):cJ:=λE a=>t {E with nx:=u E} a
def bx:lg Z X md rn [] Xu:=by
 refine mU.imp λD b H a=>?_;obtain⟨B,c,E,S,h,M⟩:=a;exact M.nx _ h _ _ S
def ar(a:DSt Z X md rn st t)(b:lg Z X md rn Bm u):lg Z X md rn (st::Bm)^aaH t u:=by
 refine(aF a b).imp λD k H c=>?_;rfl';let⟨B,f,E,S,h,M⟩:=c;ac_rfl;exact#[B,f,_,S,h,#[λg i m n j=>#[B,g,E,j,i,M],M.rt,M.bk,M.ct,M.xc]]
def aw(a:DSt Z X md rn st t):lg Z X md rn [st] t:=bE a
def wK:DSt Z X md rn st (λ_ _=>False):=by
 refine NX.imp λD b H a=>?_;obtain⟨B,c,E,S,h,M⟩:=a;exact h
def aaG(a:aX):cJ:=λE b=>a b E.rt
def aV(a:DE Z X e te):DSt Z X md 0 (.Return (some e) pos)^aaG te:=by
 refine(iK a).imp λD l H c=>?_;rfl';obtain⟨B,n,E,⟨G,o,S⟩,h,M⟩:=c;ac_rfl;exact S.evR h λd g v i j x dv=>M.rt d g v [] i j x #[dv,rfl] i8^λb k=>by cases k
def aaw(c:dq)(t u:cJ):cJ:=λE a=>c a λb=>if b=true then t E a else u E a
def dB(j:DT Z X c tc)(k:lg Z X md rn a t)(d:lg Z X md rn b u):DSt Z X md rn (.If c a b pos)^aaw tc t u:=by
 refine(xE j k d).imp ?_;intro D n H l;rfl';obtain⟨B,f,E,⟨G,g,S⟩,h,M⟩:=l;ac_rfl;refine S.XY h λb d p i=>?_;cases b with
 |true=>exact cZ #[B,f,E,#[G,g,i],(d),M]
 |false=>exact cv #[B,f,E,#[G,g,i],(d),M]
def Wc(b:List Nat)(m:Bool)(i:Nat)(c:aX):cJ:=λE a=>c (FF b m a) λd=>zd m d/\E.nx^a.set i^some d
def bG(m:Bool)(i:Nat)(f:X.N.Nodup)(g:DE Z X e j)(k:b.getD i 0=0<|>zn)(l:X.N[i]?\x<|>zn)(n:Loc X.env.scope x<|>xz)(o:g_ e (some^.Name x a) pos.line X.env=pure false<|>zn)
  (p:X.fn x=true\/X.env.scope.names.lookup x\.local<|>xz):DSt Z X b y (.Assign [.Name x a] e pos)^Wc b m i j:=by
 refine(bU f l n g o p).imp ?_;intro D z H q;rfl';obtain⟨B,C,E,⟨G,F,S⟩,h,M⟩:=q;ac_rfl;exact S.ev m h λd c=>#[c.1,λv s I w x dv=>M.nx _ c.2 _ _ #[s,_,w.lS k dv]]
def wM(i:Nat){NC:List fA}{src:List^Option Nat}(q:X.calm=true)(r:X.N.Nodup)(c:bC X a)(w:dA a X.N src NC)(y:DI Z X k iter n)
  (z:∀j s H,DG Z (bH X a NC j s H) k g) (A:∀j s H,BV Z (bH X a NC j s H) f o) (C:∀j s H,DE Z (bH X a NC j s H) b te)
  (F:g_ (.ListComp b [#[k,iter,f,0]] a pos) (some^.Name x l) m.line X.env=pure true<|>zn) (I:md.getD i 0=0<|>zn) (J:X.N[i]?\x<|>zn) (L:Loc X.env.scope x<|>xz)
  (O:X.fn x=true\/X.env.scope.names.lookup x\.local<|>xz)
  (P:(∀x,f8 iter X.env x=pure x)<|>xx):DSt Z X md rn (.Assign [.Name x l] (.ListComp b [#[k,iter,f,0]] a pos) m)^Wc md false i^Xr n g o te src:=by
 refine(kE q r J L c w y z A C F O P).imp ?_;intro D Q H R;rfl';obtain⟨B,u,E,⟨G,fp,S⟩,h,M⟩:=R;ac_rfl;refine LK Q H _ (S.ev false h λd p=>#[p.1,λv Y H' e x dv=>M.nx _ p.2 _ _ #[Y,_,e.lS I dv]])
end
end L2
namespace L2
open PySem PySem.Spec PyProof.Rows
section
variable {Z:DC} {X:Cx} {B:Bs} {md:List Nat} {rn:Nat} {ρ:DN} {σ:St} {H G:Hp} {fp:Nat->List Addr}
def LJ(Z:DC)(a:List Nat)(g:eV):TG:=λv f H Q=>∃(B:Bs)(b:DN)(d:D)(P:DN->Prop)(G:Hp)(h:Nat->List Addr),SIx Z B a b f H G h/\Dv Z G v d/\g d b P/\∀c,P c->∀e i,SIx Z B a c e H G i->Q e H
def QS(Z:DC)(a:List Nat)(g:oF):BY:=λf h H Q=>∃(B:Bs)(b:DN)(c:List D)(P:DN->Prop)(G:Hp)(i:Nat->List Addr),SIx Z B a b h H G i/\DvAll Z G f c/\g c b P/\∀d,P d->∀e j,SIx Z B a d e H G j->Q e H
def Mu(Z:DC)(X:Cx)(a:List Nat)(e:gc)(g:eV):Prop:=PG X e^LJ Z a g
def Lc(Z:DC)(X:Cx)(a:List Nat)(b:List gc)(g:oF):Prop:=D9 X b^QS Z a g
def aI(i:Nat)(a:X.N.Nodup)(b:c.getD i 0=0<|>zn)(e:X.N[i]?\x<|>zn)(f:Loc X.env.scope x<|>xz)(g:X.fn x=true\/X.env.scope.names.lookup x\.local<|>xz):Mu Z X c (.Name x pos)^kj i:=by
 refine(cx a e f g).imp λv l H Q j=>?_;rfl';let⟨B,n,d,P,G,o,S,dv,h,q⟩:=j;ac_rfl;exact q _ h _ _^S.lS b dv
def bT:Lc Z X md [] IT:=by
 refine mT.imp λv c H Q a=>?_;rfl';obtain⟨B,e,f,P,G,g,S,dv,⟨h,p⟩,q⟩:=a;subst h;cases dv;ac_rfl;exact#[rfl,q _ p _ _ S]
def aJ(d:Mu Z X md e g)(f:Lc Z X md b c)(i:(h_ (e::b) X.env).map (·.2)=k_ e X.env::(h_ b X.env).map (·.2)<|>zn):Lc Z X md (e::b)^zb g c:=by
 refine(fM d f i).imp ?_;intro v t H Q j;rfl';let⟨B,l,w,P,G,m,S,dv,h,q⟩:=j;ac_rfl;cases dv with
 |nil=>exact h.elim
 |cons a n=>exact#[_,_,rfl,B,l,_,_,G,m,S,a,h,λo p x r s=>#[B,o,_,P,G,r,s,n,p,q]]
def dO(n:Nat)(e:X.calm=true)(h:Lc Z X md b c)(f:(h_ b X.env).length=n<|>zn)(g:(h_ b X.env).findIdx? (·.1)=none<|>zn):Mu Z X md (.Tuple b k pos)^IU n c:=by
 refine(rj e h f g).imp ?_;rintro v o H Q ⟨B,i,d,P,G,j,S,dv,h,q⟩;cases dv<;>first|exact h.elim|skip
 rename_i a l p m b
 exact#[a,l,rfl,fI.of^S.ex.sub _ _ m,by rw[b.length];exact h.1,B,i,_,P,G,j,S,b,h.2,q]
def aat(b:List Nat)(c:aX)(g:eV):cJ:=λE a=>c (cy b a) λd=>g d a E.nx
def Ek(f:DE Z X e b)(i:Mu Z X md a g)(j:li [a] e pos.line X.env=pure false<|>zn)(hw:ln [a] e X.env=pure none<|>zn)
  (k:(h_ [a] X.env).map (·.2)= [k_ a X.env]<|>zn):DSt Z X md rn (.Assign [a] e pos)^aat md b g:=by
 refine(rm f i j hw k).imp ?_;intro D u H l;rfl';obtain⟨B,n,E,⟨G,o,S⟩,h,M⟩:=l;ac_rfl;exact S.ev false h λd p=>#[trivial,λv c y q x dv=>#[B,n,d,E.nx,c,o,q,dv,p,λz r A s t=>M.nx _ r _ _ #[c,s,t]]]
def iC(g:eV)(a:cJ)(E:fN):List D->DN->Prop
 | [],b=>E.nx b
 |x::c,b=>g x b λd=>a {nx:=iC g a E c,ct:=iC g a E c,bk:=E.nx,rt:=E.rt,xc:=E.xc} d
def aav(b:List Nat)(m:Bool)(c:jS)(g:eV)(d:cJ):cJ:=λE a=>c (FF b m a) λe=>iC g d E e a
def CY(S:SIx Z B md h c H G fp)(O:zu Z G J k)(P:iC g r E k h)(M:Meets Z X B md rn E q):
  ∃W:Nat->Nat->St->Hp->Prop,(∃m,W 0 m c H)/\∀i m c H,W i m c H->
   (J.stop i H/\q.nx c H)\/(J.go i H/\∃N:St->Hp->Prop,(∀j a,N j a->∃F,F<m/\W (i+1) F j a)/\∀x a,J.yld i H x a->LJ Z md g x c a λI v=>nP Z X md rn r {q with nx:=N,ct:=N,bk:=q.nx} I v):=by
 let p:Bs:={B with Gf:=G}
 have back:∀h c H,SI Z p md h c H->SI Z B md h c H:=λh c H #[s,t,f]=>#[s,t,#[f.ex,S.fl.trans f.fl,f.len,f.at_,f.nd,f.ap,f.nw]];have Q:SIx Z p md h c H G fp:=#[S.ex, .refl _,S.len,S.at_,S.nd,S.ap,S.nw];refine#[λi m c H=>m=k.length-i/\i<=k.length/\∃h,SI Z p md h c H/\iC g r E (k.drop i) h,#[_,rfl,eE _,h,#[G,fp,Q],P],?_];intro i m I v R;rfl';obtain⟨rfl,hi,Y,⟨s,t,f⟩,u⟩:=R;obtain⟨go,stop,yld⟩:=O s v f.fl f.ex.sub i;ac_rfl
 by_cases z:i<k.length
 .refine .inr #[go z,λj a=>∃l,SI Z p md l j a/\iC g r E (k.drop (i+1)) l,λj a n=>#[k.length-(i+1),(by omega),rfl,z,n],λx a y=>?_]
  rfl';obtain⟨L,d,x3,Jl,dv⟩:=yld x a z y;rw[mD Jl] at u;ac_rfl;refine#[p,Y,d,_,L,t,f.grow x3,dv,u,λA h4 fb C S4=>?_];exact#[p,A,_,#[L,C,S4],h4,#[λl o j a b=>#[l,b,o],M.rt,λl o j a b=>M.nx _ o _ _^back _ _ _ b,λl o j a b=>#[l,b,o],λl d o j a G' sV a' b nv=>M.xc l d o j a G' sV a' #[b.ex,S.fl.trans b.fl,b.len,b.at_,b.nd,b.ap,b.nw] nv]]
 .have e:k.drop i= []:=BM ()
  rw[e] at u;exact .inl #[stop (),M.nx _ u _ _^back _ _ _ #[s,t,f]]
variable {tg iter:Expr} {body:List Stmt} {wi:jS} {g:eV} {tb:cJ} {pos:Pos}
def cu(a:X.calm=true)(b:PassesOwn (ei X.prog X.w) X.A X.env X.xe)(c:DI Z X tg iter wi)(d:Mu Z X md tg g)(e:lg Z X md rn body tb)
  (f:(∀x,f8 iter X.env x=pure x)<|>xx):DSt Z X md rn (.For tg iter body [] pos)^aav md false wi g tb:=by
 refine(kq b a c d e f).imp ?_;intro D n H i;rfl';obtain⟨B,p,E,⟨G,q,S⟩,h,M⟩:=i;ac_rfl;exact#[G,_,_,S.ex.sub,S.yc,h,λr k J s t l m=>CY (S.grow l) m k M]
variable {a b e:Expr} {ta te:aX} {t:gn}
def Lk(c:dq)(i:cJ):cJ:=λE d=>∃W:Nat->DN->Prop,(∃m,W m d)/\∀m d,W m d->c d λb=>if b=true then i {nx:=λh=>∃f,f<m/\W f h,ct:=λh=>∃f,f<m/\W f h,bk:=E.nx,rt:=E.rt,xc:=E.xc} d else E.nx d
def qR(z:PassesOwn (ei X.prog X.w) X.A X.env X.xe)(C:DT Z X c tc)(l:lg Z X md rn body tb):DSt Z X md rn (.While c body [] pos)^Lk tc tb:=by
 refine(Dz z C l).imp ?_;intro D s H p;rfl';obtain⟨B,n,E,S,⟨W,⟨I,J⟩,h⟩,M⟩:=p;ac_rfl;refine#[λm s H=>∃n,SI Z B md n s H/\W m n,#[I,n,S,J],?_];intro m P Q p;rfl';obtain⟨u,⟨v,x,L⟩,N⟩:=p;ac_rfl;refine L.XY (h m u N) λb l i y=>?_;cases b with
 |false=>exact cv^M.nx _ (l) _ _ #[v,x,y]
 |true=>
  refine cZ #[λo i=>∃d f,f<m/\SI Z B md d o i/\W f d,λo i #[d,f,j,k,O]=>#[f,j,d,k,O],B,u,_,#[v,x,y],(l),?_];exact#[λd #[f,j,k] o i r=>#[d,f,j,r,k],M.rt,M.nx,λd #[f,j,k] o i r=>#[d,f,j,r,k],M.xc]
abbrev t7:=DN->(List D->Prop)->Prop
def EW(Z:DC)(n:Nat)(t:t7):TE:=λj H Q=>∃(G:Hp)(h:DN)(P:List D->Prop),aC G H/\eH Z G j h/\t h P/\∀i,P i->∀v f d c,Ext G H d c->Own Z d c n v (.lst i) f->f.Nodup->(∀b∈f,H b=none/\c b≠none/\d b=none)->Q v c
def DF(Z:DC)(X:Cx)(n:Nat)(e:gc)(t:t7):Prop:=PE X e^EW Z n t
def Ext.side(x:Ext G H d c)(f:c p=none):Ext G H d^upd c p o:=
 #[x.gg,λb u e=>by rw[ag^au e^x.sub.free f];exact x.sub _ _ e,x.hh.trans^az f _,x.off]
def Rq(x:Ext G H d f)(i:f p=none)(dv:DvAll Z d c h):
  Own Z d (upd f p^.lst c) 1 (.ref p) (.lst h) [p]/\([p]:List Addr).Nodup/\∀b∈([p]:List Addr),H b=none/\(upd f p^.lst c) b≠none/\d b=none:=by
 refine#[.inl #[p,c,h,[],rfl,rfl,af,rfl,dv.own],by simp,λb j=>?_]
 have:b=p:=by simpa using j
 subst this;exact#[x.hh.free i,(af▸λz=>nomatch z),x.sub.free i]
def aaS(t:gn):t7:=λd P=>t d λc=>c.length<=sizeLine/\P c
def jz(h:DA Z X c t):DF Z X 1 (.List c pos)^aaS t:=by
 refine(fU h).imp ?_;intro v H Q j;rfl';let⟨G,l,P,s,e,h,q⟩:=j;ac_rfl;exists G,l,_,s,e,h;rintro x ⟨m,n⟩ y z A d f;refine#[by rw[f.length];exact m,λp i=>?_]
 let⟨o,r,u⟩:=Rq d i f;exact q _ n _ _ _ _ (d.side i) o r u
def XZ(d:jS)(g:eV)(f:dq)(h:aX)(src:List^Option Nat):t7:=λc P=>d c λi=>lcW g f h i (Bg src c) [] λ_ out=>P out
def Ho:∀u H Q,EW Z 1 (XZ wi g r te src) u H Q->VG (tI Z wi) (p6 Z g) (liftT Z r) (d9 Z te) src u H Q:=by
 intro u H Q O;rfl';let⟨G,S,P,s,w,h,q⟩:=O;ac_rfl;refine#[G,S,_,s,w,h,λf T J C Y d E j x=>?_];refine#[λi m y k=>m=f.length-i/\i<=f.length/\∃o acc,CS Z C Y j o acc y k/\lcW g r te (f.drop i) o acc λ_ out=>P out,#[_,rfl,eE _,_,[], .begin d.sub x^(w.mono d.gg).src src,T],?_];rintro i m y k ⟨rfl,hi,o,acc,c,A⟩
 by_cases F:i<f.length
 .obtain⟨a,l⟩:=De x C E i o acc y k c (λ_ s=>s) F A
  exact .inr #[a,_,λay H' n=>#[f.length-(i+1),(),rfl,F,n],l]
 .have e:f.drop i= []:=BM ()
  rfl';rw[e] at A;let⟨I,t,L,M,B,off,X,N,bD,w⟩:=c;ac_rfl;refine .inl #[(E I k L M i).2.1 (),q _ A (.ref j) [j] I k #[d.gg.trans L,M,d.hh.trans B,λb p hg=>off b (gf d.hh p)^d.off b p hg] (.inl #[j,t,acc,[],rfl,rfl,N,rfl,bD.own]) (by simp) λb p=>?_]
  have:b=j:=by simpa using p
  subst this;exact#[d.hh.free x,(by rw[N];exact λz=>nomatch z),X]
variable {elt:gc} {ifs:List gc} {scope:Scope} {NC:List fA} {src:List^Option Nat} {tt:dq}
def Wa(d:List Nat)(i:Nat)(t:t7):cJ:=λE c=>t (cy d c) λf=>E.nx^c.set i^some^.lst f
def Dq{t:t7}(p:md.getD i 0=n)(S:SIx Z B md ρ σ H G fp)(h:t (cy md ρ) λl=>E.nx^ρ.set i^some^.lst l)(M:Meets Z X B md rn E k):EW Z n t σ H λv m=>k.nx (σ.set i^some v) m:=by
 refine#[G,_,_,S.ex.sub,S.yc,h,λl q v f r m x o s d=>?_];refine M.nx _ q _ _ #[r,_,(S.grow x).L9 p o s (λb c=>#[S.ex.hh.free (d b c).1,(d b c).2]) λb c j _ u=>(S.nw j b u).2.1 (d b c).1]
def jA(i:Nat){t:t7}(f:X.N.Nodup)(j:DF Z X n e t)(k:d.getD i 0=n<|>zn)(l:X.N[i]?\x<|>zn)(m:Loc X.env.scope x<|>xz)(o:g_ e (some^.Name x c) pos.line X.env=pure false<|>zn)
  (p:X.fn x=true\/X.env.scope.names.lookup x\.local<|>xz):DSt Z X d s (.Assign [.Name x c] e pos)^Wa d i t:=by
 refine(bU f l m j o p).imp ?_;intro D u H q;rfl';obtain⟨B,w,E,⟨G,y,S⟩,h,M⟩:=q;ac_rfl;exact Dq k S h M
def wL(i:Nat)(k:X.calm=true)(l:X.N.Nodup)(c:bC X scope)(m:dA scope X.N src NC)(n:DI Z X tg iter wi)
  (o:∀d s H,DG Z (bH X scope NC d s H) tg g) (p:∀d s H,BV Z (bH X scope NC d s H) ifs tt) (q:∀d s H,DE Z (bH X scope NC d s H) elt te)
  (r:g_ (.ListComp elt [#[tg,iter,ifs,0]] scope pos) (some^.Name x f) j.line X.env=pure true<|>zn) (u:md.getD i 0=1<|>zn) (v:X.N[i]?\x<|>zn) (w:Loc X.env.scope x<|>xz)
  (y:X.fn x=true\/X.env.scope.names.lookup x\.local<|>xz)
  (z:(∀x,f8 iter X.env x=pure x)<|>xx):DSt Z X md rn (.Assign [.Name x f] (.ListComp elt [#[tg,iter,ifs,0]] scope pos) j)^Wa md i^XZ wi g tt te src:=by
 refine(kE k l v w c m n o p q r y z).imp ?_;intro D A H C;rfl';obtain⟨B,J,E,⟨G,L,S⟩,h,M⟩:=C;ac_rfl;exact Ho A H _^Dq u S h M
end
section
variable {Z:DC} {X:Cx} {B:Bs} {md:List Nat} {rn:Nat} {ρ:DN} {σ:St} {H G:Hp} {fp:Nat->List Addr} {a e k o:Expr} {ta te tk tp:aX} {pos apos aO p2:Pos}
def SIx.mut{b:Addr}(S:SIx Z B md ρ σ H G fp)(r:σ[i]?\(some v))(n:b∈fp i)(o:Own Z G (upd H b c) (md.getD i 0) v m^fp i):SIx Z B md (ρ.set i^some m) σ (upd H b c) G fp where
 ex:=by
  let⟨d,p,f⟩:=S.nw i b n;exact#[S.ex.gg,λx u e=>by rw[ag^au e f];exact S.ex.sub _ _ e,λx u e=>by rw[ag^au e d];exact S.ex.hh _ _ e,S.ex.off]
 fl:=S.fl
 len:=by rw[fF];exact S.len
 at_:=λj w h=>by
  by_cases z:i=j
  .subst z
   by_cases g:i<ρ.length
   .rw[lV g] at h
    cases Do h;exact#[v,r,o]
   .rw[D1^ke g,fm^ke g] at h;cases h
  .rw[i5 z] at h
   let⟨u,s,t⟩:=S.at_ j w h;exact#[u,s,t.keep (.refl _) λx l=>ag λq=>S.ap i j b z n (q▸l)]
 nd:=S.nd
 ap:=S.ap
 nw:=λj x l=>by
  let⟨d,p,f⟩:=S.nw j x l;refine#[d,?_,f]
  by_cases z:x=b
  .rw[z,af];exact λq=>nomatch q
  .rw[ag z];exact p
theorem SIx.one{i:Nat}{d:D}(S:SIx Z B md ρ σ H G fp)(j:md.getD i 0=1)(h:ρ[i]?\(some d)):∃l b c,d= .lst c/\σ[i]?\(some^.ref l)/\H l\(.lst b)/\DvAll Z G b c/\
  ∀f g,DvAll Z G f g->SIx Z B md (ρ.set i^some^.lst g) σ (upd H l^.lst f) G fp:=by
 rfl';let⟨v,m,o⟩:=S.at_ i d h;rw[j] at o;let⟨l,b,c,u,rfl,rfl,q,n,r⟩:=o.one;let⟨dv,rfl⟩:=r.flat;ac_rfl;refine#[l,b,c,rfl,m,q,dv,λf g s=>S.mut m (by rw[n];simp) ?_]
 rw[j,n];exact .inl #[l,f,g,[],rfl,rfl,af,rfl,s.own]
def ty_list{K:ad}{l:Addr}{b:List V}(h:H l\(.lst b)):VQ K "list" (.ref l) H:= .inl #[rfl,_,aL.of h]
def aas(f:List Nat)(m:Bool)(i:Nat)(g:aX):cJ:=λE b=>∃c,b[i]?\(some^.lst c)/\g (FF f m b) λd=>zd m d/\c.length<sizeLine/\E.nx^b.set i^some^.lst (c++ [d])
def nq(m:Bool)(i:Nat)(t:DE Z X e te)(g:md.getD i 0=1<|>zn)(u:X.N[i]?\x<|>zn)(w:rK X.env.scope x<|>xz)(f:(x==("__debug__":fA))=false<|>zm)(y:(x==("__classdict__":fA))=false<|>zm)
  (z:hT (.Name x b) "append" X.env^gi (.Name x b) X.env=gi (.Name x b) X.env<|>zn)
  (A:((gM aO^d_ [e] X.env).all (λx=>!x.1)&&(js aO^iq [] X.env).all (λx=>x.1.isSome)&&decide (([e]:List gc).length+([]:List jp).length+(if ([]:List jp).isEmpty then 0 else 1)<30))=true<|>zn)
  (C:(apos.endLine==aO.line)=true<|>zn) (j:d_ [e] X.env=(false,gi e X.env)::d_ [] X.env<|>zn) (F:(gM aO^d_ [] X.env).any (·.1)=false<|>zn)
  (I:g_ (.Call (.Attribute (.Name x b) "append" apos) [e] [] aO) none pos.line X.env=pure false<|>zn):
  DSt Z X md rn (.Expr (.Call (.Attribute (.Name x b) "append" apos) [e] [] aO) pos)^aas md m i te:=by
 refine(c7 (hV KB adf adg ju (pv i u w f y) (ao t aA j) z A C j F) I).imp ?_;intro D o H J;rfl';obtain⟨B,ρ,E,⟨G,L,S⟩,⟨ds,p,h⟩,M⟩:=J;ac_rfl;rfl';let⟨l,xs,c,n,q,O,K⟩:=S.one g p;ac_rfl;refine#[_,q,ty_list O,S.ev m h λd f=>#[f.1,λv P H' Q x dv=>?_]];rfl';let⟨c,R,T⟩:=f;let⟨l',Y,wJ,a,r,k,s,put⟩:=Q.one g p;cases a;ac_rfl;rw[q] at r;cases r;exact#[l,Y,v,rfl,rfl,k,by rw[s.length];exact R,M.nx _ T _ _ #[P,L,put _ _^s.snoc dv]]
def Tn(d:b.length=n)(h:lA n i\j)(e:b[j]?\v):gr b i\v:=by unfold gr;rw[d,h];exact e
def Tx(f:List Nat)(m:Bool)(i:Nat)(g h:aX):cJ:=λE b=>h (FF f m b) λd=>zd m d/\∃c,b[i]?\(some^.lst c)/\g b λl=>∃k j,l= .int k/\lA c.length k\j/\E.nx^b.set i^some^.lst^c.set j d
def qQ(m:Bool)(i:Nat)(z:DE Z X k tk)(A:DE Z X e te)(r:md.getD i 0=1<|>zn)(C:X.N[i]?\x<|>zn)(F:rK X.env.scope x<|>xz)(g:(x==("__debug__":fA))=false<|>zm)(I:(x==("__classdict__":fA))=false<|>zm)
  (J:(∀v,k_ (.Subscript (.Name x b) k c) X.env v=(do
   let n <-io [v]^gi (.Name x b) X.env
   let q <-io [v,n] (gi k X.env)
   jo c
   io [v,n,q] (setItem n q v)
   release [v,n,q] []))<|>xx)
  (L:li [.Subscript (.Name x b) k c] e pos.line X.env=pure false<|>zn) (hw:ln [.Subscript (.Name x b) k c] e X.env=pure none<|>zn)
  (p:(h_ [.Subscript (.Name x b) k c] X.env).map (·.2)= [k_ (.Subscript (.Name x b) k c) X.env]<|>zn):DSt Z X md rn (.Assign [.Subscript (.Name x b) k c] e pos)^Tx md m i tk te:=by
 refine(rm A (Fh (pv i C F g I) z set_list J) L hw p).imp ?_;intro D σ H O;rfl';obtain⟨B,ρ,E,⟨G,P,S⟩,h,M⟩:=O;ac_rfl;refine S.ev m h λd g=>#[g.1,λv G' H' t x dv=>?_];rfl';obtain⟨_,ds,p,h⟩:=g;obtain⟨l,xs,_,_,u,e3,_⟩:=t.one r p;ac_rfl;refine#[_,u,t.ev true h ?_];rintro _ ⟨k,j,rfl,Q,R⟩;refine#[rfl,λv1 T H1 Y a o=>?_];rfl';cases o.ofInt;obtain⟨l',y6,wJ,e1,w,I0,y,put⟩:=Y.one r p;cases e1;ac_rfl;rw[u] at w;cases w;exact#[l,y6,k,j,rfl,rfl,I0,by rw[y.length];exact Q,M.nx _ R _ _ #[T,P,put _ _^y.set (dv.mono a.gg) j]]
def aaF(f:List Nat)(i j:Nat):cJ:=λE b=>∃c d,b[j]?\(some^.lst (c++ [d]))/\E.nx^(b.set j^some^.lst c).set i^some d
def Lq(i j:Nat)(t:X.N.Nodup)(u:f.getD i 0=0<|>zn)(w:f.getD j 0=1<|>zn)(z:X.N[i]?\x<|>zn)(A:Loc X.env.scope x<|>xz)
  (C:X.N[j]?\y<|>zn) (I:rK X.env.scope y<|>xz) (J:(y==("__debug__":fA))=false<|>zm) (L:(y==("__classdict__":fA))=false<|>zm)
  (O:hT (.Name y py) "pop" X.env^gi (.Name y py) X.env=gi (.Name y py) X.env<|>zn) (P:(b.endLine==q.line)=true<|>zn)
  (Q:g_ (.Call (.Attribute (.Name y py) "pop" b) [] [] q) (some^.Name x p) pos.line X.env=pure false<|>zn)
  (R:X.fn x=true\/X.env.scope.names.lookup x\.local<|>xz):DSt Z X f rn (.Assign [.Name x p] (.Call (.Attribute (.Name y py) "pop" b) [] [] q) pos)^aaF f i j:=by
 refine(bU t z A (U2 KB PySem.F.slot_list_pop PySem.F.type_list_pop UK (pv j C I J L) O P) Q R).imp ?_;intro D σ H T;rfl';obtain⟨B,ρ,E,⟨G,fp,S⟩,⟨m,d,a,h⟩,M⟩:=T;ac_rfl;rfl';let⟨l,c,wJ,e,k,r,n,put⟩:=S.one w a;cases e;have s:c.length=m.length+1:=by rw[n.length];simp
 let⟨v,o,dv⟩:=n.get (i:=c.length-1) (d:=d)^by rw[s];simp
 ac_rfl;refine#[_,k,ty_list r,l,c,v,rfl,rfl,r,o,M.nx _ h _ _ #[G,_,(put c.dropLast m ?_).lS u dv]]
 have:=n.take m.length
 rw[List.take_left'] at this
 .rw[List.dropLast_eq_take,s];exact this
 .rfl
def SIx.LV(S:SIx Z B md ρ σ H G fp)(h:ρ[j]?\(some d)):∃v,σ[j]?\(some v)/\Dv Z (plus G H λb=>b∈fp j) v d/\SIx Z B md (ρ.set j none) σ H (plus G H λb=>b∈fp j) (λk=>if k=j then[] else fp k):=by
 have s:=S.ex.sub;let⟨v,m,o⟩:=S.at_ j d h;refine#[v,m,o.dv (iu s) λb g u e=>by rw[jL g];exact e,?_]
 refine#[#[S.ex.gg.trans^iu s,rk s,S.ex.hh,λb g n=>?_],S.fl.trans^iu s,by rw[fF];exact S.len,λk c f=>?_,λk=>by split;exact i8;exact S.nd k,λk p b ne f i=>?_,λk b g=>?_]
 .rw[gF^λz=>g (S.nw j b z).1];exact S.ex.off b g n
 .by_cases z:j=k
  .subst z
   by_cases l:j<ρ.length
   .rw[lV l] at f;cases f
   .rw[D1^ke l,fm^ke l] at f;cases f
  .rw[i5 z] at f
   let⟨u,q,r⟩:=S.at_ k c f;exact#[u,q,by rw[tz^Ne.symm z];exact r.keep (iu s) λ_ _=>rfl]
 .split at f
  .cases f
  .split at i
   .cases i
   .exact S.ap k p b ne f i
 .split at g
  .cases g
  .next z=>
   let⟨t,x,y⟩:=S.nw k b g;exact#[t,x,by rw[gF^λw=>S.ap k j b z g w];exact y]
end
structure aae (mg:Str->Option Value):Prop where
 len:mg "len"=none
 range:mg "range"=none
 max:mg "max"=none
 min:mg "min"=none
 enumerate:mg "enumerate"=none
 zip:mg "zip"=none
 sorted:mg "sorted"=none
 all:mg "all"=none
 isinstance:mg "isinstance"=none
 int:mg "int"=none
 bool:mg "bool"=none
 list:mg "list"=none
 tuple:mg "tuple"=none
 sum:mg "sum"=none
 reversed:mg "reversed"=none
def Lg:bootBuiltins "max"\(.builtin "max"):=by decide+kernel
def Lh:bootBuiltins "min"\(.builtin "min"):=by decide+kernel
def OY:bootBuiltins "bool"\(.type "bool"):=by decide+kernel
def Tp:bootBuiltins "int"\(.type "int"):=by decide+kernel
def pI:bootBuiltins "list"\(.type "list"):=by decide+kernel
def je:bootBuiltins "sorted"\(.builtin "sorted"):=by decide+kernel
def dJ:bootBuiltins "len"\(.builtin "len"):=by decide+kernel
section
variable {P:Program} {w:World} {K:ad} {mg:Str->Option Value} {base:Heap} {Z:DC}
def jD(N:List Str)(a:List D):DN:=a.map some++b5 (N.length-a.length) none
def mM(Z:DC)(n:Nat)(g:di):Sp:=λh H Q _=>∃(G:Hp)(e:List D)(P:D->Prop),aC G H/\DvAll Z G h e/\g e P/\∀d,P d->∀v f c a,Ext G H c a->Own Z c a n v d f->f.Nodup->(∀b∈f,H b=none/\a b≠none/\c b=none)->Q v a
def Own.pure(x:Ext G H c a)(o:Own Z c a n v d f)(i:∀b∈f,H b=none/\a b≠none/\c b=none):∃h,Ext G H h a/\Dv Z h v d:=by
 refine#[plus c a λb=>b∈f,#[x.gg.trans^iu x.sub,rk x.sub,x.hh,λb g j=>?_],o.dv (iu x.sub) λb g u e=>by rw[jL g];exact e]
 rw[gF^λz=>g (i b z).1];exact x.off b g j
def spF:∀a H Q E,aW Z b a H Q E->mM Z n b a H Q E:=by
 intro a H Q E c;rfl';obtain⟨G,g,P,s,dv,h,q⟩:=c;ac_rfl;exact#[G,g,P,s,dv,h,λd i v f t j x o u k=>let #[l,m,p]:=o.pure x k;q d i v l j m p]
theorem MZ(l:Nat){x a:Str}{st:Stmt}{f:Addr}{n:FuncData}{N g:List Str}{k:Nat}{m:di}(F:sN K x a st f n)(S:aE N g (aq st))(o:List Nat)(u:∀i,i<g.length->o.getD i 0=0)(len:∀c P,m c P->c.length=g.length)
  (y:∀(j:Value)(A:Around)(outer:List Env)(s:Shared)(H:Hp)(E:XK)(c:List D)(R:D->Prop),bP k (A.deeper (envOfC a (aq st) s.heap.objs.size f j))->m c R->
   ∃t,lg Z (j5 fe P w K mg base N a (aq st) f j A outer s H E).lB o l (cY st) t/\t {nx:=λ_=>l=0/\R .aQ,rt:=R} (jD N c)):FnOk P w K mg base fe (k+1) f n g (mM Z l m):=by
 refine F.ok S (λB H Q E h=>?_) (λj A outer s H B Q E C h=>?_)
 .obtain⟨G,c,R,s,dv,h,q⟩:=h
  rw[dv.length];exact len _ _ h
 rfl';obtain⟨G,c,R,J,dv,h,q⟩:=h;have L:=q;obtain⟨t,M,O⟩:=y j A outer s H E c R C h;have hl:=len _ _ h;ac_rfl;refine#[_,M,#[G,H,G],_,_,#[G,λ_=> [],?_],O,#[λρ p ay T #[X,fp,Y]=>q _ p.2 _ [] X T Y.ex (by rw[p.1];exact#[.aQ,rfl]) i8 (λb hb=>by cases hb),L,λ_ z=>z.elim,λ_ z=>z.elim,λ_ _ z=>z.elim]]
 refine#[.refl J, .refl _,by unfold jD start;simp[dv.length],λi d e=>?_,λ_=>i8,(λ_ _ _ _ z=>by cases z),(λ_ _ z=>by cases z)]
 unfold jD at e
 have r:i<c.length:=by
  apply GM;intro z;rw[iQ (~~~ke z),wb] at e
  split at e<;>cases e
 rw[gJ (~~~r),dh] at e
 have gx:c[i]?\d:=by
  cases z:c[i]? with
  |none=>rw[z] at e;cases e
  |some d'=>rw[z] at e;cases e;rfl
 obtain⟨v,hv,nv⟩:=dv.get gx;refine#[v,?_,by rw[u i ()];exact#[nv,rfl]]
 unfold start;rw[gJ (by simpa [dv.length] using r),dh,hv];rfl
def bz{x c:fA}{st:Stmt}{f:Addr}{m:hH}{N e:List fA}{k:Nat}{j:di}(F:sN K x c st f m)(S:aE N e^aq st)(l:List Nat)(n:∀i,i<e.length->l.getD i 0=0)(len:∀d P,j d P->d.length=e.length)
  (o:∀(g:b_)(A:gs)(outer:List oy)(s:c_)(H:Hp)(E:XK)(d:List D)(R:D->Prop),bP k^A.deeper^lc c (aq st) s.heap.objs.size f g->j d R->
   ∃t,lg Z (j5 fe P w K mg base N c (aq st) f g A outer s H E).lB l 0 (cY st) t/\t {nx:=λ_=>0=0/\R .aQ,rt:=R}^jD N d):FnOk P w K mg base fe (k+1) f m e^aW Z j:=
 (MZ 0 F S l n len λg A outer s H E d R p h=>let #[t,a,b]:=o g A outer s H E d R p h;#[t,a,b]).imp spF
end
section
variable {Z:DC} {X:Cx} {a b c e o:Expr} {ta tb te:aX} {t:gn} {es:List Expr} {pos apos:Pos}
def aaC(f:aX):aX:=λg P=>f g λd=>match d with
 | .int i=>P^.int (-i)
 |_=>False
def TF(g:DE Z X a ta):DE Z X (.UnaryOp .USub a pos)^aaC ta:=by
 refine(Zy VR g).imp ?_;intro r H Q i;rfl';let⟨G,k,P,s,l,h,q⟩:=i;ac_rfl;refine#[G,k,_,s,l,h,λd f v m n p dv=>?_];cases dv<;>first|exact f.elim|skip
 exact#[_,rfl,q _ f _ m n p^.int _]
def Xe:di:=λd P=>∃i j,d= [.int i, .int j]/\P^.int^if j<i then j else i
def Xd:di:=λd P=>∃i j,d= [.int i, .int j]/\P^.int^if j>i then j else i
def Ii(h:DvAll Z G d [.int i, .int j]):d= [.int i, .int j]:=by
 cases h with
 |cons a f=>
  cases f with
  |cons b bs=>cases bs;cases a;cases b;rfl
def Gm(d:X.calm=true):dX X (.builtin "max")^kR Z Xd:=by
 refine(zJ d).imp ?_;intro k H Q f;rfl';obtain⟨G,m,P,s,dv,⟨i,j,rfl,h⟩,q⟩:=f;ac_rfl;exact#[i,j,Ii dv,q _ h _ G H (.refl s)^.int _]
def Gn(d:X.calm=true):dX X (.builtin "min")^kR Z Xe:=by
 refine(zK d).imp ?_;intro k H Q f;rfl';obtain⟨G,m,P,s,dv,⟨i,j,rfl,h⟩,q⟩:=f;ac_rfl;exact#[i,j,Ii dv,q _ h _ G H (.refl s)^.int _]
theorem pN:∀{d:List V}{f:List Int},DvAll Z G d^f.map D.int->d=f.map V.int
 |d,[],h=>h.Zn
 |d,b::bs,h=>by
  obtain⟨_,_,rfl,a,g⟩:=h.E6;rw[a.ofInt,pN g];rfl
def Lf:di:=λg P=>∃d:List Int,g= [.lst^d.map D.int]/\d.length<64/\∀f:List Int,f.Perm d->f.Pairwise (·<=·)->P^.lst^f.map D.int
def wD:dX X (.builtin "sorted")^kR Z Lf:=by
 refine B2.imp ?_;rintro n H Q ⟨G,r,P,s,dv,⟨f,rfl,g,i⟩,q⟩;obtain⟨_,rfl,a⟩:=dv.ofOne;obtain⟨_,_,rfl,h,e⟩:=a.iG
 refine#[_,f,rfl,aL.of (pN e▸s _ _ h),g,λp d k l m=>?_];exact q _ (i d l m) _ _ _ (.new s k)^.lst af^.ints d
def pairD(k:Nat×Nat):D:= .tup [.int (k.1:Nat), .int (k.2:Nat)]
def To:di:=λg P=>∃d:List (Nat×Nat),g= [.lst^d.map pairD]/\d.length<=1000/\∀f:List (Nat×Nat),f.Perm d->f.Pairwise Wb.lexLe->P^.lst^f.map pairD
theorem CM:∀{d:List V}{f:List (Nat×Nat)},DvAll Z G d^f.map pairD->∃L:List (Addr×(Nat×Nat)),d=L.map (λe=>V.ref e.1)/\L.map (·.2)=f/\rJ G L
 |d,[],h=>#[[],h.Zn,rfl,λp g=>by cases g]
 |d,n::f,h=>by
  obtain⟨_,_,rfl,a,j⟩:=h.E6;obtain⟨L,rfl,rfl,m⟩:=CM j;obtain⟨p,_,rfl,g,e⟩:=a.xv;obtain⟨_,_,rfl,s,u⟩:=e.nY;rw[s.ofInt,u.ofInt] at g;refine#[(p,n)::L,rfl,rfl,λq i=>?_]
  rcases cQ.mp i with rfl|i
  .exact g
  .exact m q i
theorem rJ.dv:∀{L:List (Addr×(Nat×Nat))},rJ G L->DvAll Z G (L.map λe=>V.ref e.1)^(L.map (·.2)).map pairD
 | [],_=> .nil
 |x::L,h=> .cons (.tup (h x (dH ..))^.cons (.int _)^.cons (.int _) .nil) (rJ.dv λp d=>h p^fq _ d)
def CD:dX X (.builtin "sorted")^kR Z To:=by
 refine B3.imp ?_;rintro v H Q ⟨G,k,P,s,dv,⟨f,rfl,w,d⟩,q⟩;obtain⟨_,rfl,a⟩:=dv.ofOne;obtain⟨p,_,rfl,h,e⟩:=a.iG
 obtain⟨L,rfl,g,i⟩:=CM e
 have z:L.length=f.length:=by rw[<-g];simp
 refine#[_,L,rfl,aL.of^s _ _ h,λp d=>s _ _^i p d,(),λp M j m1 m=>?_]
 have n:(M.map (·.2)).Perm f:=by rw[<-g];exact m1.map _
 have r:rJ (upd G p^.lst (M.map λe=>V.ref e.1)) M:=λx u=>az (s.free j) _ _ _^i x^m1.mem_iff.mp u;exact q _ (d _ n m) _ _ _ (.new s j)^.lst af r.dv
def Tv(g h:aX):aX:=λf P=>g f λd=>∃l,d= .lst l/\h f λy=>f6 y=true/\l.all f6=true/\∃(j:Nat)(z:D),l[j]?\z/\kN z y=true/\(∀(m:Nat) z,m<j->l[m]?\z->kN z y=false)/\P^.int (j:Nat)
theorem CJ(E:DE Z X o ta)(F:DE Z X e tb)
  (I:hT o "index" X.env^gi o X.env=gi o X.env<|>zn)
  (J:((gM d^d_ [e] X.env).all (λx=>!x.1)&&(js d^iq [] X.env).all (λx=>x.1.isSome)&&decide (([e]:List gc).length+([]:List jp).length+(if ([]:List jp).isEmpty then 0 else 1)<30))=true<|>zn)
  (L:(apos.endLine==d.line)=true<|>zn) (r:d_ [e] X.env=(false,gi e X.env)::d_ [] X.env<|>zn) (M:(gM d^d_ [] X.env).any (·.1)=false<|>zn):
  DE Z X (.Call (.Attribute o "index" apos) [e] [] d)^Tv ta tb:=by
 refine(hV KB adk adl qY E (ao F aA r) I J L r M).imp ?_;intro σ H Q N;rfl';let⟨G,A,P,s,B,h,q⟩:=N;ac_rfl;exists G,A,_,s,B,h;rintro _ ⟨l,rfl,R⟩ v S H1 f dv;obtain⟨p,T,rfl,C,e⟩:=dv.iG;refine#[ty_list^f.sub _ _ C,S,A,_,f.sub,B.mono f.gg,R,λy Y u a b i k=>?_];rfl';let⟨c,t,j,z,h3,h4,h5,h6⟩:=Y;have n:=e.mono i.gg;let⟨w,hw,dw⟩:=n.get h3;ac_rfl;refine#[p,T,u,j,w,rfl,rfl,i.hh _ _^f.sub _ _ C,by rw[uG k];exact c,by rw[pQ n];exact t,hw,by rw[Ep dw k];exact h4,λm z' hm hz=>?_,q _ h6 _ a b (f.trans i)^.int _]
 let⟨d',gx,nv⟩:=n.GO hz;rw[Ep nv k];exact h5 m d' hm gx
end
structure Ld (Z:DC):Prop where
 cl:zr Z.K Z.C
 nR:fS Z.K Z.C "rows"
section
variable {Z:DC} {X:Cx} {a b c e o:Expr} {ta tb te:aX} {t:gn} {es:List Expr} {pos apos:Pos}
def Xx(f:aX):aX:=λg P=>f g λd=>∃w,d= .gI w/\P^bR w
def zR(T:Ld Z)(i:DE Z X o ta)(d:X.K=Z.K<|>zn)(j:hT o "rows" X.env^gi o X.env=gi o X.env<|>zn):DE Z X (.Attribute o "rows" apos)^Xx ta:=by
 refine(U5 i j).imp ?_;intro B H Q k;rfl';let⟨G,m,P,s,n,h,q⟩:=k;ac_rfl;exists G,m,_,s,n,h;rintro _ ⟨w,rfl,r⟩ v u x f dv;obtain⟨p,y,R,rfl,z,A,_⟩:=dv.iW_;exact#[p,Z.C,y,_, .ref R,rfl,f.sub _ _ z,by rw[d];exact T.cl,by rw[d];exact T.nR,rfl,q _ r _ u x f A]
def IM(g:di)(h:aX)(t:gn):aX:=λf P=>h f λd=>∃w,d= .gI w/\t f λi=>g (.gI w::i) P
def Dh(x:([("rows",V.ref 0)]:List (Str×V)).lookup m=none):∀j H Q,d9 Z (IM i ta t) j H Q->KG Z.C m (aW Z i) [] E0 (d9 Z ta) (EV Z t) j H Q:=by
 intro j H Q y;rfl';obtain⟨G,r,P,s,u,h,q⟩:=y;ac_rfl;exists G,r,_,s,u,h;rintro _ ⟨w,rfl,k⟩ v B c f dv;have l:=dv;obtain⟨p,E,R,rfl,F,e,_⟩:=dv.iW_
 refine#[p,E,_,rfl,f.sub _ _ F,?_,B,r,_,f.sub,u.mono f.gg,k,λds I J L M n N=>?_]
 .have O:(m==("rows":Str))=false:=by
   cases z:(m==("rows":Str)) with
   |false=>rfl
   |true=>simp[bi,z] at x
  simp[bi,O]
 .show aW Z i (V.ref p::(J++ [])) M Q E0
  rw[e8];exact#[L,_,P,n.sub, .cons (l.mono n.gg) N,I,λd k v S T Y a=>q d k v S T ((f.trans n).trans Y) a]
variable {sd:di} {k:Nat} {f:Addr} {fd:FuncData} {ps:List Str} {m:Str}
def Gw(T:Ld Z)(h:DE Z X o ta)(i:Meth Z.K Z.C m f)(F:FnOk X.prog X.w X.K X.mg X.base fe k f fd ps^aW Z sd)(j:bP k X.A)(l:Binds X.K fd ps [])(n:DA Z X (e::es) t)(d:X.K=Z.K<|>zn)
  (p:([("rows",V.ref 0)]:List (fA×V)).lookup m=none<|>zm) (q:d_ (e::es) X.env=(false,gi e X.env)::d_ es X.env<|>zn) (r:(gM pos^d_ es X.env).any (·.1)=false<|>zn)
  (s:gi (.Call (.Attribute o m apos) (e::es) [] pos) X.env=(do
   let g <-gi o X.env
   jo apos.atName
   let (f,first) <-io [g] (ni g m pl)
   callWith pos f first (gM pos^d_ (e::es) X.env)^js pos^iq [] X.env)<|>zn):DE Z X (.Call (.Attribute o m apos) (e::es) [] pos)^IM sd ta t:=
 (RA (pl:=pl) h (by rw[d];exact T.cl) (by rw[d];exact i) F j l .nil bY n q r s).imp^Dh p
def gw(T:Ld Z)(l:DE Z X o ta)(n:Meth Z.K Z.C m f)(F:FnOk X.prog X.w X.K X.mg X.base fe k f fd ps^aW Z sd)(r:bP k X.A)(u:Binds X.K fd ps [])(i:X.K=Z.K<|>zn)
  (x:([("rows",V.ref 0)]:List (fA×V)).lookup m=none<|>zm)
  (y:gi (.Call (.Attribute o m apos) [] [] pos) X.env=(do
   let j <-gi o X.env
   jo apos.atName
   let (f,first) <-io [j] (ni j m pl)
   callWith pos f first (gM pos^d_ [] X.env)^js pos^iq [] X.env)<|>zn):DE Z X (.Call (.Attribute o m apos) [] [] pos)^IM sd ta lH:=
 (NQ (pl:=pl) l (by rw[i];exact T.cl) (by rw[i];exact n) F r u .nil bY y).imp λz H Q h=>by
  rfl';obtain⟨G,E,P,s,I,h,q⟩:=Dh x z H Q h;ac_rfl;refine#[G,E,P,s,I,h,λd J v L M N dv=>?_];rfl';obtain⟨p,O,fs,R,S,Y,a,aK,P',b,c,e,t⟩:=q d J v L M N dv;ac_rfl;exact#[p,O,fs,R,S,Y,t _ e _ a _ (.refl b) .nil]
def HY(Z:DC):Sp:=λi H Q _=>∃(p h:Addr)(v:V)(G:Hp)(w:List^List Nat),i= [.ref p,v]/\H p\(.ins Z.C h [])/\aC G H/\G p=none/\Dv Z G v^bR w/\Wb.Good w/\1<=w.length/\w.length<=14/\
 ∀(R:Addr)(d g:Hp),aC G d->aC d g->(∀b o,H b\o->b≠p->g b\o)->(∀b,H b≠none->G b=none->d b=none)->g p\(.ins Z.C h [("rows", .ref R)])->Dv Z d (.ref R)^bR w->Q .aQ g
def Xs(t:gn):aX:=λd P=>t d λg=>∃w,g= [bR w]/\Wb.Good w/\1<=w.length/\w.length<=14/\P^.gI w
theorem Pc(M:Mk Z.K Z.C f)(F:FnOk X.prog X.w X.K X.mg X.base fe k f fd ps^HY Z)(L:bP (k+1) X.A)(r:Gl X x)(N:X.mg x\(.ref Z.C))(l:Binds X.K fd ps [])
  (O:DA Z X (e::es) t) (S:X.K=Z.K<|>zn) (T:(x==("__debug__":fA))=false<|>zm) (Y:d_ (e::es) X.env=(false,gi e X.env)::d_ es X.env<|>zn) (a:(gM pos^d_ es X.env).any (·.1)=false<|>zn):
  DE Z X (.Call (.Name x p) (e::es) [] pos)^Xs t:=by
 refine(Rz (by rw[S];exact M) F L r N l .nil bY O T Y a).imp ?_
 intro σ H Q c;rfl';let⟨G,ρ,P,s,en,h,q⟩:=c;ac_rfl;exists G,ρ,_,s,en,h;rintro _ ⟨w,rfl,g,B,h14,hp⟩ vs G1 H1 d u p n i tq ne;cases u with
 | @cons v _ _ _ dv u=>
  cases u;have pZ:upd H1 n (.own p) p=none:=by rw[ag^Ne.symm ne];exact i
  have y:=(az tq^.own p).trans^az pZ^.ins Z.C n [];refine#[p,n,v,G1,w,rfl,af,d.sub.trans y,d.sub.free i,dv,g,B,h14,λR E H2 g1 g2 kp off Uk Em=>#[rfl,?_]];have I:E p=none:=off p (by rw[af];exact λz=>nomatch z)^d.sub.free i
  refine q _ hp _ (upd E p^.ins Z.C n [("rows", .ref R)]) H2 #[(d.gg.trans g1).trans^az I _,λb o e=>?_,λb o e=>?_,λb l r=>?_]^.gI af (Em.mono^az I _) g B h14
  .by_cases z:b=p
   .subst z;rw[af] at e;cases e;exact Uk
   .rw[ag z] at e;exact g2 _ _ e
  .have J:=d.hh _ _ e
   exact kp b o (y _ _ J)^au J i
  .have j:=gf d.hh l
   have nb:b≠p:=λz=>j^by rw[z];exact i
   rw[ag nb];exact off b (gf y j)^d.off b l r
end
section
variable {Z:DC} {X:Cx} {pos:Pos}
variable {tg iter elt:gc} {scope:Scope} {NC:List fA} {src:List^Option Nat} {wi:jS} {g:eV} {tf:t7} {md:List Nat} {rn:Nat}
end
abbrev ie:=inClass
structure D8 (Z:DC) (m qual:Str) (st:Stmt) (ps:List Str) where
 f:Addr
 fd:FuncData
 F:sN Z.K m qual st f fd
 b:Binds Z.K fd ps []
 m:Meth Z.K Z.C m f
def vS(K:ad):Sp:=λc H Q _=>∃(a:Addr)(b:List Int),c= [.ref a]/\aL K H a^b.map V.int/\b.length<=63/\∀d,Q (.bl true) d
def Ft:di:=λb P=>∃a:List Int,b= [.qy a]/\a.length<=63/\P^.bl true
def UB{Z:DC}:∀b H Q E,vS Z.K b H Q E->aW Z Ft b H Q E:=by
 rintro b H Q E ⟨a,c,rfl,f,e,q⟩;exact#[H,[.qy c],λd=>d= .bl true, .refl _, .cons (.qy f e) .nil,#[c,rfl,e,rfl],λd g v i h x dv=>by subst g;cases dv;exact q h]
def Z1(k:Nat){l:db}{q:fw}{e:List fA}{o:(fA->Option b_)->Heap->Prop}{m:f5->Heap->Prop}{d:DefRec}{K:Params->ad}(H:3*k<150)(p:l.most\63)(r:d.params.defaults= [])
  (t:∀(w:f5)(h:Heap),m w h->(K w.params).In h)
  (F:∀(w:f5)(g:fA->Option b_)(i:Addr)(h:Heap),(K w.params).In h->h.Ns gt g->g d.name\(.ref i)->
   ∃j:hH,(∀(s:c_)(u:b_),BindsTo s j #[[u],[]] [("_law_script",u)])/\∀base:Heap,(K w.params).In base->base.Ns gt g->FnOk l.prog w (K w.params) g base fe k i j ["_law_script"]^vS^K w.params):
  eh q e o m l.row.toRowW d [] (λf v=>eg f v):=
 L2.SO (n:=63) (k:=50) (x:="_law_script") (CX:=λ_=>fe) (sp:=λw=>vS^K w.params) p ∅ r #[rfl,∅,∅] t (λw g i h a b c=>by
  let⟨j,A,B⟩:=F w g i h a b c;exact#[j,A,λbase x y=>(B base x y).mono ()]) (λ_ _ a C E _ G=>#[a,C,rfl,G,E,λ_=>rfl]) λ_ _ _ _ _ z=>z
def fu{c:Bool}{A B:Prop}(a:c=true->A)(b:c=false->B):if c=true then A else B:=by
 cases c with
 |true=>exact cZ^a rfl
 |false=>exact cv^b rfl
theorem Am{ρ:DN}(a:g->D)(p:g->Bool)(f:g->D):∀(d:List g)(c:DN)(acc:List D)(N:DN->List D->Prop),(∀y∈d,∀(Y:D->Prop)(q:Prop),(p y=true->Y^f y)->(p y=false->q)->j (ρ.set i^some^a y) λb=>if b=true then n (ρ.set i^some^a y) Y else q)->
  (∃o,c=ρ.set i o)->acc.length+d.length<=sizeLine->(∀c,N c (acc++(d.filter p).map f))->lcW (kj i) j n (d.map a) c acc N
 | [],c,acc,N,_,_,_,h=>by
  show N c acc;simpa using h c
 |y::d,c,acc,N,k,#[o,r],e,h=>by
  show j (c.set i^some^a y) _;rw[r,List.set_set];rw[dU] at e;refine k y (dH ..) _ _ (λl=>#[(),?_])^λl=>?_
  .refine Am a p f d _ (acc++ [f y]) N (λz e=>k z^fq _ e) #[_,rfl] (by simp;lia) λm=>?_
   have:=h m
   rw[xU,l] at this;simpa using this
  .refine Am a p f d _ acc N (λz e=>k z^fq _ e) #[_,rfl] () λm=>?_
   have:=h m
   rw[xU,l] at this;simpa using this
def nN{ρ:DN}(a:c->D)(f:c->D)(b:List c)(N:DN->List D->Prop)(j:∀y∈b,∀(Y:D->Prop),Y^f y->g (ρ.set i^some^a y) Y)(k:ρ[i]?\none)(l:b.length<=sizeLine)(h:∀d,N d^b.map f):lcW (kj i) oH g (b.map a) ρ [] N:=by
 refine Am (ρ:=ρ) a (λ_=>true) f b ρ [] N (λy m Y o n _=>?_) #[none,?_] (~~~l) λd=>by rw[List.filter_eq_self.mpr^λ_ _=>rfl,sM];exact h d
 .unfold oH
  dsimp only;rw[ir rfl];exact j y m Y^n rfl
 .obtain⟨p,e⟩:=cR.mp k
  rw[<-e,List.set_getElem_self]
theorem CV(I:Nat->DN->Prop):∀(b:List D)(k:Nat)(a:DN),I k a->(∀(j:Nat)(d:D)(a:DN),b[j]?\d->I (k+j) a->∀A:DN->Prop,(∀a,I (k+j+1) a->A a)->g d a λn=>m {nx:=A,ct:=A,bk:=E.nx,rt:=E.rt,xc:=E.xc} n)->
  (∀a,I (k+b.length) a->E.nx a)->iC g m E b a
 | [],k,a,c,e,f=>f a c
 |d::b,k,a,c,e,f=>by
  refine e 0 d a rfl c _ λo p=>?_
  exact CV I b (k+1) o p (λj q h r i A s=>by
   refine e (j+1) q h (~~~r) (by rw[show k+(j+1)=k+1+j by lia];exact i) A λl t=>s l ?_
   rw[show k+1+j+1=k+(j+1)+1 by lia];exact t)^λh i=>f h^by rw[dU,show k+(b.length+1)=k+1+b.length by lia];exact i
def bN(I:Nat->DN->Prop)(e:I 0 a)(f:∀(j:Nat)(d:D)(a:DN),b[j]?\d->I j a->∀A:DN->Prop,(∀a,I (j+1) a->A a)->g d a λi=>c {nx:=A,ct:=A,bk:=E.nx,rt:=E.rt,xc:=E.xc} i)
  (k:∀a,I b.length a->E.nx a):iC g c E b a:=CV I b 0 a e (λj d a l h A m=>f j d a l (~~~h) A λn o=>m n^~~~o)^λa h=>k a^~~~h
def oE(I:Nat->DN->Prop)(g:Nat)(h:I g a)(i:∀m a,I m a->c a λb=>if b=true then f {nx:=λe=>∃d,d<m/\I d e,ct:=λe=>∃d,d<m/\I d e,bk:=E.nx,rt:=E.rt,xc:=E.xc} a else E.nx a):Lk c f E a:=#[I,#[g,h],i]
section
variable {Z:DC} {X:Cx} {a b c e:Expr} {ta tb te:aX} {t:gn} {pos:Pos}
def M5:V0 X^HH X.K:=by
 intro d s n H x y v u Q I o A h;rfl';let⟨p,O,i,z,rfl,rfl,C,E,q⟩:=h;subst o;let⟨t,rfl⟩:=A;let⟨g,r,pl,P⟩:=I.list C;let⟨j,f,F,R,G,J⟩:=zA E;let⟨w,l,L⟩:=r.get F;have M:=r.length;have S:=lO;have fin:EP X d n Q w s:=#[z,H,I,L,q];ac_rfl
 by_cases m:0<=i
 .have k:i.toNat=j:=by
   rw[afh m J] at f;exact Do f
  exact wpAny_getItem_list pl.isList m () (by rw[k];simpa using l) fin
 .have k:(i+(g.toArray.size:Int)).toNat=j:=by
   rw[seqIndex_neg () G] at f
   rw[cn,<-M];exact Do f
  exact afi pl.isList () (by rw[cn]<;>lia) () (by rw[k];simpa using l) fin
variable {md:List Nat} {rn:Nat} {k:Expr} {tk:aX}
def Tt(i:Nat)(f:Int->Int->Int)(l m:aX):cJ:=λE g=>∃h,g[i]?\(some^.lst h)/\l g λo=>∃k j n,o= .int k/\lA h.length k\j/\h[j]?\(.int n)/\m g λd=>∃q,d= .int q/\E.nx^g.set i^some^.lst^h.set j^.int^f n q
def CK(i:Nat)(P:DE Z X k tk)(Q:W7 X y^ipI f)(R:DE Z X e te)(p:md.getD i 0=1<|>zn)
  (T:X.N[i]?\x<|>zn) (Y:rK X.env.scope x<|>xz) (a:(x==("__debug__":fA))=false<|>zm) (b:(x==("__classdict__":fA))=false<|>zm)
  (c:(∀m o new,augStore k m o new=(do io [new,m,o]^setItem m o new;release [new,m,o] [];pure .next))<|>wn):DSt Z X md rn (.AugAssign (.Subscript (.Name x L) k O) y e pos)^Tt i f tk te:=by
 refine(RG (pv i T Y a b) P M5 R Q set_list c).imp ?_;intro D σ H t;rfl';obtain⟨B,ρ,E,⟨G,fp,S⟩,⟨ds,r,h⟩,M⟩:=t;ac_rfl;rfl';let⟨l,xs,d,g,s,e3,K⟩:=S.one p r;ac_rfl;refine#[_,s,S.ev true h ?_];intro _ Z8;rfl';let⟨k,j,n,rfl,z,hn,h⟩:=Z8;ac_rfl;refine#[rfl,λv1 G1 H1 A x1 Pu=>?_];rfl';cases Pu.ofInt;let⟨l1,Z4,oY,u,C,I0,F,d⟩:=A.one p r;cases u;ac_rfl;rw[s] at C;rfl';cases C;let⟨v,JC,dv⟩:=F.get hn;cases dv.ofInt;ac_rfl;refine#[l,Z4,k, .int n,rfl,rfl,aL.of I0,Tn F.length z JC,A.ev true h ?_];rintro _ ⟨q,rfl,h⟩;refine#[rfl,λv2 G2 H2 S2 x2 Em=>?_];rfl';cases Em.ofInt;let⟨l2,Z5,mE,u,I,w,J,put⟩:=S2.one p r;cases u;ac_rfl;rw[s] at I;cases I;exact#[n,q,rfl,rfl,l,Z5,k,j,rfl,rfl,w,by rw[J.length];exact z,M.nx _ h _ _ #[G2,fp,put _ _^J.set (.int _) j]]
variable {apos aO:Pos}
variable {es:List Expr}
def PJ(g:di)(t:gn):t7:=λh P=>t h λi=>g i λd=>∃f,d= .lst f/\P f
def Pj{k:Nat}(F:FnOk X.prog X.w X.K X.mg X.base fe k f l m^mM Z n g)(u:bP k X.A)(y:Gl X x)(z:X.mg x\(.ref f))(B:am X.K^.ref f=true)(d:Binds X.K l m [])
  (C:DA Z X (e::es) t) (E:(x==("__debug__":fA))=false<|>zm) (I:d_ (e::es) X.env=(false,gi e X.env)::d_ es X.env<|>zn) (J:(gM pos^d_ es X.env).any (·.1)=false<|>zn):
  DF Z X n (.Call (.Name x p) (e::es) [] pos)^PJ g t:=by
 refine(bq F u y z B d .nil bY C E I J).imp ?_;intro σ H Q L;rfl';let⟨G,N,P,s,O,h,q⟩:=L;ac_rfl;refine#[G,N,_,s,O,h,λR S T Y a j c=>?_];show mM Z n g (T++ []) a Q E0;rw[e8];exists Y,R,_,j.sub,c,S;intro _ Z8 v f G2 H2 x2 o nd r;rfl';let⟨wJ,rfl,hp⟩:=Z8;ac_rfl;exact q _ hp v f G2 H2 (j.trans x2) o nd λb d=>#[j.hh.free (r b d).1,(r b d).2]
end
section
variable {X:Cx} {elt t0 i0 t1 i1:gc} {f0 f1:List gc} {scope:Scope} {pos:jP} {wi cG:TI} {g g1:TG} {tt bW:TT} {te:TE} {src:List^Option Nat} {NC:List fA}
end
section
variable {Z:DC} {X:Cx} {md:List Nat} {rn:Nat} {elt t0 i0 t1 i1:gc} {f0 f1:List gc} {scope:Scope} {pos:jP} {wi cG:jS} {g g1:eV} {tt bW:dq} {te:aX} {src:List^Option Nat} {NC:List fA}
end
section
variable {Z:DC} {X:Cx} {md:List Nat} {rn:Nat} {e:Expr} {pos:Pos}
def Xt(i:Nat)(t:t7):cJ:=λE a=>t a λb=>b.all f6=true/\E.nx^a.set i^some^.lst b
theorem DvAll.flat:∀{c:List V}{b:List D},DvAll Z G c b->b.all f6=true->DvAll Z d c b
 |_,_, .nil,_=> .nil
 |_,_, .cons a f,h=>by
  rw[adP,yF] at h;exact .cons (a.flat h.1)^f.flat h.2
end
def jg{l:List D}{j:Nat}{d:D}(h:(eO l)[j]?\d):∃x,l[j]?\x/\d= .tup [.int (j:Int),x]:=by
 unfold eO at h;rw[List.getElem?_mapIdx] at h;cases e:l[j]? with
 |none=>rw[e] at h;cases h
 |some x=>rw[e] at h;cases h;exact#[x,rfl,rfl]
def jh(l:List D):(eO l).length=l.length:=by unfold eO;simp
def cw{a b:Type}{f:a->b}{l:List a}{j:Nat}{y:b}(h:(l.map f)[j]?\y):∃x,l[j]?\x/\y=f x:=by
 rw[dh] at h;cases e:l[j]? with
 |none=>rw[e] at h;cases h
 |some x=>rw[e] at h;cases h;exact#[x,rfl,rfl]
def h8(r:List Nat):(r.map ax).all f6=true:=by rw[List.all_map];exact adU.mpr λ_ _=>rfl
def Ah{r:List Nat}{p:Nat}:inD (ax p)^r.map ax=decide (p∈r):=by
 unfold inD;rw[List.any_map]
 have:((λy=>kN y^ax p)∘ax)=λq:Nat=>decide (q=p):=by
  funext q
  simp[ax,kNi,Function.comp]
  by_cases z:q=p
  .simp[z]
  .have:¬(q:Int)=(p:Int):=()
   simp[z,this]
 rw[this]
 by_cases h:p∈r
 .rw[FM h,adY];exact#[p,h,by simp]
 .rw[GE h]
  apply BQ.mpr;intro z;rw[adY] at z;let⟨q,a,e⟩:=z
  exact h (by have:q=p:=by simpa using e
              rw[<-this];exact a)
def hZ{l:List D}{p:Nat}{d:D}(h:l[p]?\d):gr l (p:Int)\d:=cX h
def Bu(h:p<w.length):(w.map aB)[p]?\(aB^Wb.row w p):=by
 rw[dh,Wb.HK h];rfl
section
variable {Z:DC} {X:Cx} {md:List Nat} {rn:Nat} {e:Expr} {te:aX} {pos:Pos}
def Xl(b:aX):cJ:=λE a=>b a λ_=>E.nx a
def Pp(a:DE Z X e te)(b:g_ e none pos.line X.env=pure false<|>zn):DSt Z X md rn (.Expr e pos)^Xl te:=by
 refine(c7 a b).imp ?_;intro D k H c;rfl';obtain⟨B,g,E,⟨G,i,S⟩,h,M⟩:=c;ac_rfl;exact#[H,g,_, .refl _,S.PF,h,λd j v m n x dv=>M.nx _ j _ _ #[G,i,S.grow^Ext.all S.ex.sub x]]
end
def Mo(h:A):oH a (λb=>if b=true then A else B):=by
 unfold oH;dsimp only;rw[ir rfl];exact h
theorem jB(I:DN->Prop)(c:m->D)(p:m->Bool)(f:m->D):∀(i:List m)(e:DN)(acc:List D)(N:DN->List D->Prop),(∀y∈i,∀e,I e->∀(Y:DN->D->Prop)(u:DN->Prop),(∀a,I a->p y=true->Y a^f y)->(∀a,I a->p y=false->u a)->g (c y) e λa=>k a λb=>if b=true then l a^Y a else u a)->
  I e->acc.length+i.length<=sizeLine->(∀e,I e->N e (acc++(i.filter p).map f))->lcW g k l (i.map c) e acc N
 | [],e,acc,N,_,n,_,h=>by
  show N e acc;simpa using h e n
 |y::i,e,acc,N,o,n,j,h=>by
  rw[dU] at j;refine o y (dH ..) e n (λa d=>acc.length<sizeLine/\lcW g k l (i.map c) a (acc++ [d]) N) (λa=>lcW g k l (i.map c) a acc N) (λa q r=>#[(),?_])^λa q r=>?_
  .refine jB I c p f i _ (acc++ [f y]) N (λz j=>o z^fq _ j) q (by simp;lia) λs t=>?_
   have:=h s t
   rw[xU,r] at this;simpa using this
  .refine jB I c p f i _ acc N (λz j=>o z^fq _ j) q () λs t=>?_
   have:=h s t
   rw[xU,r] at this;simpa using this
def Wu(h:b.length=1):∃d,b= [d]:=by
 cases b with
 |nil=>cases h
 |cons a l=>
  cases l with
  |nil=>exact#[a,rfl]
  |cons _ _=>cases h
def Wv(h:b.length=2):∃e c,b= [e,c]:=by
 cases b with
 |nil=>cases h
 |cons a l=>
  let⟨c,rfl⟩:=Wu^Nat.succ.inj h;exact#[a,c,rfl]
def abu(h:b.length=3):∃f c d,b= [f,c,d]:=by
 cases b with
 |nil=>cases h
 |cons a l=>
  let⟨c,d,rfl⟩:=Wv^Nat.succ.inj h;exact#[a,c,d,rfl]
section
variable {Z:DC} {X:Cx}
end
def bC.nest(k:f.kind= .function)(a:∀x∈f.names,x.2= .local->f.names.lookup x.1\.local)(b:∀x∈f.names,x.2≠ .cell)
  (d:∀x∈f.names,x.2= .free->c.names.lookup x.1\.free):bC (bH X c NC g s H) f where
 kind:=k
 names:=a
 nocell:=b
 free:=λx i e=>by
  have h:(bH X c NC g s H).env.kindOf x.1=(c.names.lookup x.1).map λk=>if (k==NameKind.free&&X.env.scope.kind== .function&&X.env.kindOf x.1==some .cell) then NameKind.cell else k:=gW c.names x.1;rw[h,d x i e,BH]
  split
  .exact .inl rfl
  .exact .inr rfl
section
variable {Z:DC} {X:Cx} {e:Expr} {es:List Expr} {t:gn} {pos:Pos}
def aH{a:di}{k j:Nat}{x:fA}{st:Stmt}{c:List fA}{p:jP}(d:bK X.K X.mg x st c)(F:FnOk X.prog X.w X.K X.mg X.base fe k d.f d.fd c^aW Z a)(g:bP j X.A)(h:DA Z X (e::es) t)(i:Gl X x<|>zn)(l:k<=j<|>ww)
  (n:(x==("__debug__":fA))=false<|>zm) (o:d_ (e::es) X.env=(false,gi e X.env)::d_ es X.env<|>zn) (q:(gM pos^d_ es X.env).any (·.1)=false<|>zn):
  DE Z X (.Call (.Name x p) (e::es) [] pos)^sR a t:=Pa F (g.mono l) i d.m d.F.kp d.b h n o q
def MS{n:Nat}{a:di}{k j:Nat}{x:fA}{st:Stmt}{c:List fA}{p:jP}(d:bK X.K X.mg x st c)(F:FnOk X.prog X.w X.K X.mg X.base fe k d.f d.fd c^mM Z n a)(g:bP j X.A)(h:DA Z X (e::es) t)(i:Gl X x<|>zn)(l:k<=j<|>ww)
  (o:(x==("__debug__":fA))=false<|>zm) (q:d_ (e::es) X.env=(false,gi e X.env)::d_ es X.env<|>zn) (r:(gM pos^d_ es X.env).any (·.1)=false<|>zn):
  DF Z X n (.Call (.Name x p) (e::es) [] pos)^PJ a t:=Pj F (g.mono l) i d.m d.F.kp d.b h o q r
def sQ(f:Scope)(e:X.env.scope=f<|>zn)(k:d.kind= .function<|>zn)(a:(∀x∈d.names,x.2= .local->d.names.lookup x.1\.local)<|>xa)(b:(∀x∈d.names,x.2≠ .cell)<|>xa)
  (c:(∀x∈d.names,x.2= .free->f.names.lookup x.1\.cell\/f.names.lookup x.1\.free)<|>xa):bC X d:=bC.of f e k a b c
def aao{NC:List Str}(k:f.kind= .function<|>zn)(a:(∀x∈f.names,x.2= .local->f.names.lookup x.1\.local)<|>xa)(b:(∀x∈f.names,x.2≠ .cell)<|>xa)
  (d:(∀x∈f.names,x.2= .free->c.names.lookup x.1\.free)<|>xa):bC (bH X c NC g s H) f:=bC.nest k a b d
end
section
variable {K:ad} {h:Heap} {mg:Str->Option Value}
abbrev Te(K:ad)(x:fA)(d:Addr):Prop:=ce K gt x\(some^.ref d)
abbrev BX(K:ad)(x a:fA)(st:Stmt)(d:Addr)(b c:Option Addr)(e:Array^Option b_)(f kV g i j k:b_):Prop:=K.lookup d\#[f,b, .func^bv x a (gP st) (cY st) (aq st) .none kV g i c j k,e]
def bK.of{x:fA}{st:Stmt}{e:List fA}{d:Addr}{o f:Option Addr}{p:Array^Option b_}{q kV r g n i:b_}(X:K.In h)(G:h.Ns gt mg)(a:Te K x d)(l:BX K x x st d o f p q kV r g n i)(c:bd K n x=true)(k:am K^.ref d=true)
  (b:∀(kV j g:b_)(f:Option Addr)(s i:b_)(m:List b_),m.length=e.length->nC (bv x x (gP st) (cY st) (aq st) .none kV j g f s i) #[m,[]]=pure^e.zip m):bK K mg x st e:=
 #[d,_,nG l c k,(nG l c k).binds b,ac5 X G a]
def D8.of{Z:DC}{m e:fA}{st:Stmt}{g:List fA}{d:Addr}{r i:Option Addr}{s:Array^Option b_}{t kV u j q n:b_}(a:aj Z.K (.ref Z.C) m\(some^.ref d))(f:bu Z.K^.ref d=true)(l:BX Z.K m e st d r i s t kV u j q n)(c:bd Z.K q e=true)(k:am Z.K^.ref d=true)
  (b:∀(kV o j:b_)(i:Option Addr)(v n:b_)(p:List b_),p.length=g.length->nC (bv m e (gP st) (cY st) (aq st) .none kV o j i v n) #[p,[]]=pure^g.zip p):D8 Z m e st g:=
 #[d,_,nG l c k,(nG l c k).binds b,#[a,f,k]]
end
end L2
namespace Wb
def jf(w:W):Nat:=(w.map da).sum
theorem uD{r:List Nat}:∀{w:W}{p:Nat},p<w.length->jf^w.set p r+(row w p).length=jf w+r.length
 | [],_,h=>by simp at h
 |a::w,0,_=>by simp[jf,row];lia
 |a::w,p+1,h=>by
  have b:=uD (r:=r) (w:=w) (p:=p)^~~~h
  have e:row (a::w) (p+1)=row w p:=by simp[row]
  rw[e];simp only[jf,List.set_cons_succ,cH,List.sum_cons] at b ⊢;lia
def MR(w:W)(r:List Nat):jf (w++ [r])=jf w+r.length:=by simp[jf]
def MQ(h:p<w.length):jf^leaf w p i=jf w+2:=by
 unfold leaf
 have:=uD (r:=ins (row w p) i w.length) h
 rw[Ai] at this;rw[MR];simp;lia
def Ph{w:W}{p i u j:Nat}(a:p<w.length)(c:u<w.length)(ne:u≠p):jf^y3 w p i u j=jf w+2:=by
 unfold y3;have d:=uD (r:=ins (row w p) i u) a;have b:=uD (w:=w.set p^ins (row w p) i u) (r:=ins (row w u) j p) (p:=u)^~~~c
 rw[jO a,tz^Ne.symm ne] at b;rw[Ai] at d b;lia
def NT{l c:List Nat}(h:l.Perm c):l.sum=c.sum:=by
 induction h with
 |nil=>rfl
 |cons x _ d=>simp[d]
 |swap x y l=>simp;lia
 |trans _ _ a b=>exact a.trans b
def wG(w:W):jf w=((ak w.length).map λp=>(row w p).length).sum:=by
 unfold jf
 congr 1
 refine List.ext_getElem (by simp) λi b c=>?_
 rw[adZ,adZ,List.getElem_range];have a:i<w.length:=by simpa using b
 have:=HK a
 rw[cz a] at this;rw[Do this]
def Pg{ord:List Nat}(f:a.length=w.length)(d:ord.Perm^ak w.length)(g:∀p,p<w.length->(row a^ord.getD p 0).Perm ((row w p).map λx=>ord.getD x 0)):jf a=jf w:=by
 rw[wG a,f,wG w,<-NT (d.map λp=>(row a p).length)]
 congr 1
 have b:ord.length=w.length:=by rw[d.length_eq,jQ]
 refine List.ext_getElem (by simp[b]) λi j h=>?_
 rw[adZ,adZ,List.getElem_range];have c:i<w.length:=by simpa using h
 have e:ord.getD i 0=ord[i]'(by rw[b];exact c):=by rw[cV,cz^by rw[b];exact c];rfl
 have:=(g i c).length_eq
 rw[aG,e] at this;exact this
def zQ(w:W):(ba w).length=jf w:=by
 rw[wG];unfold ba;rw[List.length_flatMap]
 congr 1
 apply D2;intro p _;rw[aG]
def dN(g:Good w):(ba w).Nodup:=by
 unfold ba cI;refine qd (λp _=>?_) ?_
 .rw[iR]
  exact(g.nod p).imp λne e=>ne^KM Prod.snd e
 .refine List.Pairwise.imp ?_ adL
  intro a b lt x c y d e;let⟨f,h,rfl⟩:=cE.mp c;let⟨f,h,rfl⟩:=cE.mp d
  have:=KM Prod.fst e
  simp at this;lia
def eB(w:W):cM (row w) w.length=(ba w).filter λd=>decide (d.1<d.2):=by
 unfold cM ba;rw[List.filter_flatMap]
 congr 1
 funext p
 rw[List.filter_map];rfl
def KL(g:Good w):2*(cM (row w) w.length).length<=jf w:=by
 rw[eB,<-zQ];have f:=List.length_eq_countP_add_countP (λd:Nat×Nat=>decide (d.1<d.2)) (l:=ba w)
 have p:((ba w).filter λd=>decide (d.1<d.2)).length<=((ba w).filter λd=>decide (d.2<d.1)).length:=by
  have:=bf (l:=((ba w).filter λd=>decide (d.1<d.2)).map λd=>(d.2,d.1)) (m:=(ba w).filter λd=>decide (d.2<d.1)) ?_ ?_
  .rwa [aG] at this
  .unfold cI
   rw[iR];refine List.Pairwise.imp ?_^(dN g).filter _;intro a b ne e;have i:=KM Prod.fst e;have j:=KM Prod.snd e;exact ne^acY j i
  .intro x k
   let⟨d,n,rfl⟩:=cE.mp k;let⟨o,c⟩:=m7.mp n;refine m7.mpr #[bh.mpr^g.sym _ _^bh.mp o,?_];simpa using c
 have q:((ba w).filter λd=>decide (d.2<d.1)).length<=(ba w).countP λd=>!decide (d.1<d.2):=by
  rw[<-aeu];apply List.countP_mono_left;intro d _ h;simp at h ⊢;lia
 rw[aeu] at f
 have r:(ba w).countP (λd=>!decide (d.1<d.2))=List.countP (λa=>decide ¬(decide (a.1<a.2)=true))^ba w:=by
  congr 1
  funext d
  by_cases h:d.1<d.2<;>simp[h]
 lia
structure RI (w:W) (bs:List Bool) (ws ex:List Nat) (c:Nat):Prop where
 len:bs.length=w.length
 z:bs[0]?\true
 wt:∀x∈ws,bs[x]?\true
 cl:∀x,bs[x]?\true->x∈ws\/x∈ex\/∀q∈row w x,bs[q]?\true
 cnt:bs.count false+ws.length<=c
def RI.pop(h:RI w bs (b++ [p]) [] (c+1)):RI w bs b [p] c:=
 #[h.len,h.z,λx a=>h.wt x^j8 _ a,λx a=>by
  rcases h.cl x a with q|q|q
  .rcases cP.mp q with q|q
   .exact .inl q
   .exact .inr^.inl q
  .cases q
  .exact .inr^.inr q,by have:=h.cnt;rw[dg] at this;simp at this;lia]
def RI.push(h:RI w bs f g c)(j:bs[q]?\false):RI w (bs.set q true) (f++ [q]) g c:=by
 let⟨b,i⟩:=cR.mp j
 have d:∀x,bs[x]?\true->(bs.set q true)[x]?\true:=λx a=>by
  rw[kc]
  by_cases e:q=x
  .rw[ir e,ir b]
  .rw[tz e];exact a
 refine#[by rw[fF];exact h.len,d _ h.z,λx a=>?_,λx a=>?_,?_]
 .rcases cP.mp a with z|z
  .exact d _^h.wt x z
  .have:x=q:=by simpa using z
   rw[this,kc,ir rfl,ir b]
 .by_cases e:q=x
  .exact .inl^by rw[e];simp
  .rw[kc,tz e] at a
   rcases h.cl x a with z|z|z
   .exact .inl^j8 _ z
   .exact .inr^.inl z
   .exact .inr (.inr λy k=>d _^z y k)
 .have l:=h.cnt
  have:0<bs.count false:=List.count_pos_iff.mpr^by rw[<-i];exact lX b
  rw[aev b,i,dg];simp;lia
def RI.close(h:RI w bs a [p] c)(b:∀q∈row w p,bs[q]?\true):RI w bs a [] c:=
 #[h.len,h.z,h.wt,λx d=>by
  rcases h.cl x d with q|q|q
  .exact .inl q
  .have:x=p:=by simpa using q
   rw[this];exact .inr^.inr b
  .exact .inr^.inr q,h.cnt]
def RI.all(g:Good w)(h:RI w bs [] [] c):bs=b5 w.length true:=by
 have:=Gq g (S:=λx=>bs[x]?\true) h.z λp q b d=>by
  rcases h.cl p b with z|z|z
  .cases z
  .cases z
  .exact z q d
 refine qI λi=>?_
 by_cases a:i<w.length
 .rw[this i a,wb,ir a]
 .rw[fm^by rw[h.len];lia,fm^by simp;lia]
structure CC (w:W):Prop where
 rng:∀p q,q∈row w p->q<w.length
 irr:∀p,p∉row w p
 nod:∀p,(row w p).Nodup
 sym:∀p q,q∈row w p->p∈row w q
def Good.near(g:Good w):CC w:=#[g.rng,g.irr,g.nod,g.sym]
def CC.good(n:CC w)(h:∀p,p<w.length->Reach w 0 p):Good w:=#[n.rng,n.irr,n.nod,n.sym,h]
end Wb
namespace L2
open PySem PySem.Spec PySem.Calls PyProof.Rows PySem.W
section
variable {X:Cx} {C:Addr} {x:Str} {p pos:Pos} {e:Expr} {es:List Expr} {te:TE} {t:TA}
def VI(X:Cx)(f:TE):TS:=λ_ b H=>f b H λv c=>∃a C d,v= .ref a/\c a\(wA C a d)/\mw X.K C/\mroIn X.K C^.type "BaseException"\true/\Le X b (upd c a^rG C a d) a
def NY(y:X.calm=true)(z:PE X e te):PS X (.Raise (some e) none pos)^VI X te:=by
 intro c s m H D I h;rw[arm_exec_Raise];refine a_^nA ?_;simp only[show ∀e v,evalOpt (some e) v=some (gi e v) from λ_ _=>rfl,Option.map];unfold raiseStmt;refine a_^a_ (thn (z c s m H _ I h) λu f hH=>?_);obtain⟨v,B,l,E,a,C,d,ev,n,F,j,q⟩:=hH;refine a_^nA^gl ?_;subst ev;obtain rfl:u=Value.ref a:=E;let⟨t,k⟩:=zp l.hok n;let⟨Y,Z,N,bs,G,p,sn,sub,ab,J,dd,r,k1,k2,k3,k5,w,cB,cA,cN⟩:=F.obj;have i:=l.fi _ _ w
 have L:(Value.ref C::G).contains^.type "BaseException"=true:=by
  unfold mroIn clsIn at j;rw[w] at j;simpa using j
 have M:Inv X c m (upd B a^rG C a d) f:=by
  refine ae λG0 r=>?_;have O:=l.write (x:=a) (e:=a) (o:=rG C a d) (h':=f.heap) (t':=f.toks) (by rw[n];exact True.intro) (.inl rfl) (λb u j q=>q) #[_,k]^PL (tb:= .none) k
  let⟨P,g,Q,R,os⟩:=f;refine r ?_;exact O
 have S:X.xe (.ref a) f:=q f M.OX #[C,t, .none,d,af,k, .inl rfl];have T:X.A.handled=none:=I.ok.hd y;let⟨P,g,Q,R,os⟩:=f
 repeat (first|with_reducible refine ii k ?_|with_reducible refine ii i ?_| (with_reducible refine im i ?_;rw[L]) |wp_step)
 exact wpAny_raiseNew_none T S
end
section
variable {X:Cx} {k:Nat} {f C:Addr} {fd:FuncData} {ps:List Str} {sp:Sp} {x m:Str} {p pos apos:Pos} {e o:Expr} {es:List Expr} {ta:TE} {t:TA}
def Xc(X:Cx)(b:St):XK:=λe _ c=>∃a,e= .ref a/\Le X b c a
theorem Se{pins:List (Addr×Obj)}{σ:St}{H:Hp}{s:c_}{Q:VK}{us:List b_}{vs:List V}(F:FnOk X.prog X.w X.K X.mg X.base (wx X.prog X.w) k f fd ps sp)(hr:bP k X.A)(hb:Binds X.K fd ps [])
  (I:Inv X pins σ H s) (r:Vals vs us) (h:sp vs H Q^Xc X σ):e_ (ei X.prog X.w) X.A (call (.ref f) us) (EP X pins σ Q) X.xe s:=by
 have hl:(us++ []).length=ps.length:=by rw[e8,<-r.length];exact F.len _ _ _ _ h
 have Jk:=hb s us I.fi hl;rw[e8] at Jk;refine la (mv (F.run X.A X.stack s H #[us,[]] us vs Q (Xc X σ) hr I.Lw Jk r h) λr s' hq=>?_);cases r with
 |error e=>
  rfl';let⟨a,H',rfl,fl,a',ea,q⟩:=hq;cases ea;let⟨I2,f2⟩:=T4 I fl;ac_rfl;exact q s' I2 f2
 |ok fl=>
  cases fl with
  |ret u=>exact I.after hq
  |next=>exact False.elim hq
  |brk=>exact False.elim hq
  |cont=>exact False.elim hq
def Me(X:Cx)(b:Sp)(t:TA):TE:=λa H Q=>t a H λc d=>b c d Q^Xc X a
def xC(F:FnOk X.prog X.w X.K X.mg X.base (wx X.prog X.w) k f fd ps sp)(c:bP k X.A)(d:Gl X x)(g:X.mg x\(.ref f))(i:am X.K^.ref f=true)(j:Binds X.K fd ps [])
  (l:PA X (e::es) t) (n:(x==("__debug__":fA))=false<|>zm) (u:d_ (e::es) X.env=(false,gi e X.env)::d_ es X.env<|>zn) (v:(gM pos^d_ es X.env).any (·.1)=false<|>zn):
  PE X (.Call (.Name x p) (e::es) [] pos)^Me X sp t:=by
 intro a s y H Q I h;refine W1^jK I d g ?_ n;refine adn (h₀:=X.base) I.ok.mod.kin i (thn (l pos a s y H _ I h) λz B hH=>?_) u v;obtain⟨E,G,b,r,q⟩:=hH;refine #[b.fi,?_];exact Se F c j b r q
end
section
variable {X:Cx} {pins:List (Addr×Obj)} {σ:St} {H:Hp} {s:Shared}
theorem uK(I:Inv X pins σ H s)(L:X.N.Nodup)(C:X.N[i]?\x)(O:X.env.scope.names.lookup x\.local)
  (h:∀F,Inv X pins (σ.set i none) H F->Q ⟨⟩ F):e_ M A (do bindName X.env x .none;unbindBehindTheSuite X.env x pos) Q E s:=by
 let⟨m,G,P⟩:=id I.loc;have R:(X.env.scope.kind== .class|| (X.env.scope.kind== .module&&X.env.locals !=X.env.globals))=false:=by rw[I.ok.kind];rfl
 have S:i<σ.length:=by rw[I.len];exact(cR.mp C).1
 have zM:=I.zM;refine wpAny_nameGoes_keeps O G R λT v Y f=>?_;rfl';let⟨oL,D,K,Ab,U⟩:=id G;ac_rfl
 have a:iz X.prog X.w H T:=λb ob e=>by
  refine(I.hok b ob e).oQ (λc J r q=>(f.2 c ?_).trans q) (λ_ q=>q) λ_ _ q=>q;rintro rfl
  rcases r with rfl|r
  .rw[I.free] at e;cases e
  .rw[I.free] at r;cases r
 refine h _ #[I.ok,I.os,I.bare,#[λb o e n u l=>?_,λb o e n u l=>?_,I.base.free,λb o e l=>?_,I.base.tups,I.base.frzs,I.base.tbls],#[_,Y,λj y v' g t e3=>?_],λy c e=>?_,I.free,I.freeC,λp hp=>?_,a,by simpa using I.len]
 .exact(f.2 b^bS^cO (Da e) I.ok.above).trans^I.base.keep b o e n u l
 .obtain⟨sl,g⟩:=I.base.slot b o e n u l
  exact#[sl,(f.2 b^bS^cO (Da e) I.ok.above).trans g]
 .obtain⟨o',g⟩:=I.base.there b o e l
  exact#[o',(f.2 b^bS^cO (Da e) I.ok.above).trans g]
 .by_cases B:j=i
  .subst B
   rw[lV S] at t;cases Do t
  .rw[i5^Ne.symm B] at t
   let⟨u',r',q⟩:=P j y v' g t e3;exists u',r'
   rcases q with ⟨k,e⟩ | ⟨k,c,e,z⟩
   .refine .inl #[k,?_]
    have:y≠x:=λe=>B^xr L g (e▸C)
    simp[this,e]
   .exact .inr #[k,c,e,z.sameBut f^zM y c e]
 .obtain⟨J,z⟩:=I.cell y c e
  exact#[J,z.sameBut f^zM y c e]
 .obtain⟨e,n,ne,nf,d⟩:=I.pin p hp
  exact#[(f.2 p.1 ne).trans e,n,ne,nf,d]
def GQ{K:ad}{C:Addr}{b:Value}{r:Bool}{f q:Str}{N:Addr}{bs e:List Value}{g:Bool}{h:List Str}{sub:List Value}{i:Bool}{c:Option Bool}{j:Option Addr}{k l m n o:Option Value}{a:String}
  (p:K.lookup C\(excClassObj f q C N bs e g h sub i c j k l m n o a)) (d:mroIn K C b\r):(Value.ref C::e).contains b=r:=by
 unfold mroIn clsIn at d;rw[p] at d;simpa using d
def GI{M:Model}{A:gs}{E:b_->c_->Prop}{Q:Bool->c_->Prop}{K:ad}{a C e t:Addr}{j:b_}{d:Option Addr}{b:Bool}(X:K.In s.heap)(k:s.heap.get? a\(jH C t j d))(l:mw K C)(m:mw K e)(n:mroIn K e^.type "BaseException"\true)(o:mroIn K C^.ref e\b)
  (h:Q b s):e_ M A (excMatches (.ref a)^.ref e) Q E s:=by
 let⟨S,T,N,bs,Y,Z,H,sub,ab,p,dd,k0,k1,k2,k3,k5,i,D⟩:=l.obj;let⟨q,r,N',u,v,w,x,y,z,B,F,G,I,J,L,O,c,D⟩:=m.obj;have P:=GQ i o;have R:=GQ c n
 replace i:=X _ _ i
 replace c:=X _ _ c
 have f:=tc_notTuple;let⟨hp,g,dr,tk,os⟩:=s;unfold excMatches
 repeat (first|with_reducible refine ii k ?_|with_reducible refine ii c ?_| (with_reducible refine im c ?_;rw[R]) | (with_reducible refine im i ?_;rw[P]) |wp_step)
 cases b<;>(wp_walk;exact h)
end
abbrev Cx.pA(X:Cx)(a:Addr):Cx:={X with A:=X.A.mark^some^.ref a,calm:=false,xe:=λ_ _=>False}
abbrev Cx.tr(X:Cx)(pn:List (Addr×Obj))(E:Value->Shared->Prop):Cx:={X with pn:=pn,xe:=E}
section
variable {X:Cx} {pins pn:List (Addr×Obj)} {σ:St} {H:Hp} {s:Shared} {E:Value->Shared->Prop} {a:Addr}
theorem Inv.pA(I:Inv X pins σ H s)(a:Addr):Inv (X.pA a) pins σ H s:=
 #[#[I.ok.mod,I.ok.kind,I.ok.glob,I.ok.blt,I.ok.above,I.ok.inj,I.ok.has,I.ok.cab,(λz=>nomatch z),I.ok.frames,I.ok.stk,I.ok.exf,I.ok.bs,I.ok.bsz,I.ok.noex,I.ok.exfs,I.ok.funs,I.ok.frf],I.os,I.bare,I.base,I.loc,I.cell,I.free,I.freeC,I.pin,I.hok,I.len]
def Inv.qB(ok:X.Ok)(I:Inv (X.pA a) pins σ H s):Inv X pins σ H s:=#[ok,I.os,I.bare,I.base,I.loc,I.cell,I.free,I.freeC,I.pin,I.hok,I.len]
theorem Inv.tr(I:Inv X pins σ H s)(E:b_->c_->Prop):Inv (X.tr (X.pn++pins) E) [] σ H s:=
 #[#[I.ok.mod,I.ok.kind,I.ok.glob,I.ok.blt,I.ok.above,I.ok.inj,I.ok.has,I.ok.cab,I.ok.hd,I.ok.frames,I.ok.stk,I.ok.exf,I.ok.bs,I.ok.bsz,I.ok.noex,I.ok.exfs,I.ok.funs,I.ok.frf],I.os,I.bare,I.base,I.loc,I.cell,I.free,I.freeC,λp b=>I.pin p^by rw[e8] at b;exact b,I.hok,I.len]
def Inv.Ij(ok:X.Ok)(I:Inv (X.tr (X.pn++pins) E) [] σ H s):Inv X pins σ H s:=#[ok,I.os,I.bare,I.base,I.loc,I.cell,I.free,I.freeC,λp b=>I.pin p^by rw[e8];exact b,I.hok,I.len]
def uH{X:Cx}(f:zt X H s a)(h:Q ⟨⟩ s):e_ M A (no (.ref a) none) Q E s:=by
 rfl';let⟨C,t,l,d,i,c,b⟩:=f;ac_rfl
 rcases b with rfl| ⟨T,rfl,_,_,_,_,_,o,j,e,g,b⟩
 .unfold no
  refine a_^acT (x:= .none) c rfl rfl ?_;rw[tz ∅]
  exact mo h
 .refine wpAny_setFlight_none c rfl rfl e g (BI.mp b).1 ?_
  rw[Heap.update_setField_same _ _ o j 3 .none e g b];exact h
end
def aaR:Option Nat->Ends->Ends
 |none,D=>D
 |some i,D=>{nx:=λa H=>D.nx (a.set i none) H,rt:=D.rt,bk:=λa H=>D.bk (a.set i none) H,ct:=λa H=>D.ct (a.set i none) H}
def abX:Option Nat->Addr->St->St
 |none,_,b=>b
 |some i,a,b=>b.set i^some^.ref a
abbrev OK:=List (Addr×Option Nat×(Addr->TS))
def FD(K:ad):OK->Ends->St->Hp->Addr->Addr->Prop
 | [],_,_,_,_,_=>False
 | (d,n,e)::r,D,c,H,a,C=>∃b,mroIn K C^.ref d\b/\if b=true then e a (aaR n D) (abX n a c) H else FD K r D c H a C
def PH(X:Cx)(e:List ExceptHandler)(l:OK):Prop:=
 ∀(b:List (Addr×Obj))(c:St)(H:Hp)(s:Shared)(a C:Addr)(d:Option Addr)(D:Ends),Inv X b c H s->zt X H s a->H a\(rG C a d)->mw X.K C->FD X.K l D c H a C->wpAny (model X.prog X.w) X.A (handleBy (.ref a) X.env e) (SP X b D) X.xe s
section
variable {X:Cx} {pos p:Pos} {c n:Str} {Cm:Addr} {t9:Stmt} {oq:List Stmt} {rest:List ExceptHandler} {l:OK} {th:Addr->TS}
def Vb:PH X [] []:=λ_ _ _ _ _ _ _ _ _ _ _ _ h=>h.elim
def GK{h:Heap}(e:rG C a d=rG f a i)(g:h.get? a\(jH C t b d)):C=f:=by
 have:=KM (λo=>match o with|HO.ext k=>k h|_=>True) e
 have m:∃t b,h.get? a\(jH f t b i):=by
  have:(∃t b,h.get? a\(jH C t b d))=(∃t b,h.get? a\(jH f t b i)):=this
  rw[<-this];exact#[t,b,g]
 obtain⟨r,q,j⟩:=m;rw[g] at j;cases j;rfl
theorem RC(hg:Gl X c)(hm:X.mg c\(.ref Cm))(xm:mw X.K Cm)(pU:mroIn X.K Cm^.type "BaseException"\true)(hs:∀a,jT (X.pA a) (t9::oq)^th a)(hr:PH X rest l)(dP:(c==("__debug__":fA))=false<|>zm):
  PH X (.ExceptHandler (some^.Name c p) none (t9::oq) pos::rest) ((Cm,none,th)::l):=by
 intro pins σ H s a C d D I fl ha xc h;rfl';let⟨C',t,tb,d',h1,h2,h3⟩:=id fl;have eC:C'=C:=GK (Option.some.inj^h1.symm.trans ha) h2;subst eC;let⟨b,hb,h⟩:=h;ac_rfl;refine wpAny_handleBy_cons (codeAny_handlers_test (ip (jK (I.pA a) hg hm ?_ dP) (λ_ _ x=>x) λ_ _ z=>z))^by intro q;cases q
 refine GI I.fi h2 xc xm pU hb ?_;cases b with
 |false=>exact hr pins σ H s a C' d D I fl ha xc h
 |true=>
  refine codeAny_handlers_suite^uH fl ?_;refine ip (hs a pins s σ H D (I.pA a) h) (λf s1 q=>?_) λ_ _ z=>z.elim;cases f with
  |next=>let⟨ay,H',I',q⟩:=q;exact#[ay,H',I'.qB I.ok,q]
  |brk=>let⟨ay,H',I',q⟩:=q;exact#[ay,H',I'.qB I.ok,q]
  |cont=>let⟨ay,H',I',q⟩:=q;exact#[ay,H',I'.qB I.ok,q]
  |ret u=>let⟨v,ay,H',I',r,q⟩:=q;exact#[v,ay,H',I'.qB I.ok,r,q]
theorem Zz(i:Nat)(hN:X.N.Nodup)(hi:X.N[i]?\n)(hk:X.env.scope.names.lookup n\.local)(hg:Gl X c)(hm:X.mg c\(.ref Cm))(xm:mw X.K Cm)(pU:mroIn X.K Cm^.type "BaseException"\true)(hs:∀a,jT (X.pA a) (t9::oq)^th a)(hr:PH X rest l)(dP:(c==("__debug__":fA))=false<|>zm):
  PH X (.ExceptHandler (some^.Name c p) (some n) (t9::oq) pos::rest) ((Cm,some i,th)::l):=by
 intro pins σ H s a C d D I fl ha xc h;rfl';let⟨C',t,tb,d',h1,h2,h3⟩:=id fl;have eC:C'=C:=GK (Option.some.inj^h1.symm.trans ha) h2;subst eC;let⟨b,hb,h⟩:=h;ac_rfl;refine wpAny_handleBy_cons (codeAny_handlers_test (ip (jK (I.pA a) hg hm ?_ dP) (λ_ _ x=>x) λ_ _ z=>z))^by intro q;cases q
 refine GI I.fi h2 xc xm pU hb ?_;cases b with
 |false=>exact hr pins σ H s a C' d D I fl ha xc h
 |true=>
  refine codeAny_handlers_suite_as^uH fl ?_;refine kF (X:=X.pA a) (v:= .ref a) (I.pA a) hN hi (.inl hk) rfl (λs1 I1=>?_)^.inr hk;refine ip (hs a pins s1 _ H _ I1 h) (λf s2 q=>?_) λ_ _ z=>z.elim;cases f with
  |next=>let⟨ay,H',I',q⟩:=q;exact uK (I'.qB I.ok) hN hi hk λs3 I3=>#[_,H',I3,q]
  |brk=>let⟨ay,H',I',q⟩:=q;exact uK (I'.qB I.ok) hN hi hk λs3 I3=>#[_,H',I3,q]
  |cont=>let⟨ay,H',I',q⟩:=q;exact uK (I'.qB I.ok) hN hi hk λs3 I3=>#[_,H',I3,q]
  |ret u=>let⟨v,ay,H',I',r,q⟩:=q;exact uK (I'.qB I.ok) hN hi hk λs3 I3=>#[v,_,H',I3,r,q]
def aca(X:Cx)(g:List (Addr×Obj)->(Value->Shared->Prop)->TS)(h:TS)(l:OK):TS:=λD i H=>∀e E,(∀f b a C d,b a\(rG C a d)->mw X.K C->FD X.K l D f b a C->Le (X.tr e E) f b a)->g e E {D with nx:=h D} i H
theorem Vh{body orelse:List Stmt}{h₀:jM}{hs:List jM}{tb:List (Addr×Obj)->(b_->c_->Prop)->TS}{to:TS}(lq:X.stack=X.env::X.outer)(Qn:X.env.frame\X.env.locals)
  (hb:∀pn E,jT (X.tr pn E) body^tb pn E) (ho:jT X orelse to) (hh:PH X (h₀::hs) l):PS X (.Try body (h₀::hs) orelse [] pos)^aca X tb to l:=by
 intro pins s σ H D I h;refine wpAny_Try_except ?_
 let E':b_->c_->Prop:=λe s₁=>e_ (ei X.prog X.w) X.A (nn e X.env) (λ_ DQ=>e_ (ei X.prog X.w) X.A (no e none) (λ_ vT=>e_ (ei X.prog X.w) X.A (handleBy e X.env (h₀::hs)) (SP X pins D) X.xe vT) X.xe DQ) X.xe s₁
 have hw:=h (X.pn++pins) E' λay H' a C d h1 h2 h3=>by
  intro s1 I1 f1;refine Df (X:=X.tr (X.pn++pins) E') lq Qn I1 f1 λs2 I2 f2=>?_;rfl';have I2':=I2.Ij I.ok;obtain⟨C',t,tb,d',g1,g2,g3⟩:=f2;ac_rfl;refine hh pins ay H' s2 a C d D I2' #[C',t,tb,d',g1,g2,g3.imp id λhH=>?_] h1 h2 h3;obtain⟨T,e1,e2,e3,e4,e5,e6⟩:=hH;refine #[T,e1,e2,e3,e4,λp hp=>e5 p^j8 _ hp,e6]
 refine ip (hb _ E' [] s σ H _ (I.tr E') hw) (λf s1 q=>?_) λ_ _ z=>z;cases f with
 |next=>obtain⟨ay,H',I',q⟩:=q;exact ho pins s1 ay H' D (I'.Ij I.ok) q
 |brk=>obtain⟨ay,H',I',q⟩:=q;exact#[ay,H',I'.Ij I.ok,q]
 |cont=>obtain⟨ay,H',I',q⟩:=q;exact#[ay,H',I'.Ij I.ok,q]
 |ret u=>obtain⟨v,ay,H',I',r,q⟩:=q;exact#[v,ay,H',I'.Ij I.ok,r,q]
end
abbrev D5:=List D->(D->Prop)->(D->Prop)->Prop
def iF(Z:DC)(f:D5):Sp:=λg H Q E=>∃(G:Hp)(e:List D)(P R:D->Prop),aC G H/\DvAll Z G g e/\f e P R/\(∀d,P d->∀v b c,Ext G H b c->Dv Z b v d->Q v c)/\∀d,R d->∀a b c,Ext G H b c->Dv Z b (.ref a) d->E (.ref a) none c
section
variable {P:Program} {w:World} {K:ad} {mg:Str->Option Value} {base:Heap} {Z:DC}
def sN.okX{x a:fA}{st:Stmt}{f:Addr}{g:hH}{N d:List fA}{k:Nat}{e:Sp}{h:rF}(F:sN K x a st f g)(S:aE N d^aq st)(len:∀b H Q E,e b H Q E->b.length=d.length)
  (i:∀(c:b_)(A:gs)(outer:List oy)(s:c_)(H:Hp)(b:List V)(Q:VK)(E:XK),bP k^A.deeper^lc a (aq st) s.heap.objs.size f c->e b H Q E->
   ∃t,jT (j5 h P w K mg base N a (aq st) f c A outer s H E) (cY st) t/\t {nx:=λ_ j=>Q .aQ j,rt:=Q} (start N b) H):FnOk P w K mg base h (k+1) f g d e:=by
 rfl';let⟨u,v,kV,m,y,z,c,B,C,rfl,n,o⟩:=F.ex;ac_rfl;exact PQ n o S len λA outer s H b Q E p q=>i c A outer s H b Q E p q
theorem wQ{x b:fA}{st:Stmt}{f:Addr}{B:hH}{N m:List fA}{k:Nat}{p:D5}(F:sN K x b st f B)(S:aE N m^aq st)(C:List Nat)(J:∀i,i<m.length->C.getD i 0=0)(len:∀c P R,p c P R->c.length=m.length)
  (L:∀(n:b_)(A:gs)(outer:List oy)(s:c_)(H:Hp)(E:XK)(c:List D)(R g:D->Prop),bP k^A.deeper^lc b (aq st) s.heap.objs.size f n->p c R g->
   ∃t,lg Z (j5 (wx P w) P w K mg base N b (aq st) f n A outer s H E) C 0 (cY st) t/\t {nx:=λ_=>R .aQ,rt:=R,xc:=λ_ d=>g d}^jD N c):FnOk P w K mg base (wx P w) (k+1) f B m^iF Z p:=by
 refine F.okX S (λM H Q E h=>?_)^λn A outer s H M Q E O h=>?_
 .obtain⟨G,c,R,g,s,dv,h,q⟩:=h
  rw[dv.length];exact len _ _ _ h
 rfl';let⟨G,c,R,g,X,dv,h,q,Y⟩:=h;let⟨t,ht,hq⟩:=L n A outer s H E c R g O h;have hl:=len _ _ _ h;ac_rfl;refine#[_,ht,#[G,H,G],_,_,#[G,λ_=> [],?_],hq,#[λρ JD ay j #[l,fp,r]=>q _ JD _ l j r.ex .aQ,λd u v f l j x o nd nw=>q d u v l j x o.1,λ_ z=>z.elim,λ_ z=>z.elim,λρ d u ay j l fp a r y s2 I2 f2=>PM I2 f2^Y d u a l j r.ex y]];refine#[.refl X, .refl _,by unfold jD start;simp[dv.length],λi d e=>?_,λ_=>i8,(λ_ _ _ _ z=>by cases z),(λ_ _ z=>by cases z)]
 unfold jD at e
 have I:i<c.length:=by
  apply GM;intro z;rw[iQ^~~~ke z,wb] at e
  split at e<;>cases e
 rw[gJ^~~~I,dh] at e
 have gx:c[i]?\d:=by
  cases z:c[i]? with
  |none=>rw[z] at e;cases e
  |some d'=>rw[z] at e;cases e;rfl
 let⟨v,hv,y⟩:=dv.get gx;refine#[v,?_,by rw[J i ()];exact#[y,rfl]]
 unfold start;rw[gJ^by simpa [dv.length] using I,dh,hv];rfl
end
section
variable {Z:DC} {X:Cx} {md:List Nat} {rn:Nat} {st:Stmt} {Bm:List Stmt} {t:gn} {e x1 y1:Expr} {es:List Expr} {tx ty:aX} {sd:D5} {k j:Nat} {x:Str} {ps:List Str} {p pos aO:Pos}
def Ef(b:List Nat)(c:D5)(t:gn)(K:fN->DN->D->Prop):cJ:=λE a=>t (cy b a) λd=>c d (K E a)^E.xc a
def pJ{B:Bs}{b:DN}{g:St}{H G:Hp}{i:Nat->List Addr}{E:fN}{r:Ends}{K:D->Prop}{Q:VK}(S:SIx Z B md b g H G i)(h:t (cy md b) λl=>sd l K^E.xc b)(M:Meets Z X B md rn E r)
  (q:∀d,K d->∀v c f,SIx Z B md b g f c i->Dv Z c v d->Q v f):Me X (iF Z sd) (EV Z t) g H Q:=by
 refine#[G,_,_,S.ex.sub,S.yc,h,λl s y u z n w=>?_];have o:=S.grow n;exact#[u,l,K,E.xc b,n.sub,w,s,λd m v c f x dv=>q d m v c f (o.grow x) dv,λd m a c f x dv=>#[a,rfl,M.xc b d m g f c i a (o.grow x) dv]]
def MT(d:bK X.K X.mg x st ps)(F:FnOk X.prog X.w X.K X.mg X.base (wx X.prog X.w) k d.f d.fd ps^iF Z sd)(c:bP j X.A)(g:DA Z X (e::es) t)(i:Gl X x<|>zn)(l:k<=j<|>ww)
  (n:(x==("__debug__":fA))=false<|>zm) (o:d_ (e::es) X.env=(false,gi e X.env)::d_ es X.env<|>zn) (q:(gM aO^d_ es X.env).any (·.1)=false<|>zn) (r:g_ (.Call (.Name x p) (e::es) [] aO) none pos.line X.env=pure false<|>zn):
  DSt Z X md rn (.Expr (.Call (.Name x p) (e::es) [] aO) pos) (Ef md sd t λE a _=>E.nx a):=by
 refine(c7 (xC F (c.mono l) i d.m d.F.kp d.b g n o q) r).imp ?_;intro D J H s;rfl';obtain⟨B,a,E,⟨G,y,S⟩,h,M⟩:=s;ac_rfl;exact pJ S h M λd z v C N I dv=>M.nx _ z _ _ #[C,y,I]
def Pt(i:Nat)(g:X.N.Nodup)(d:bK X.K X.mg x st ps)(F:FnOk X.prog X.w X.K X.mg X.base (wx X.prog X.w) k d.f d.fd ps^iF Z sd)(l:bP j X.A)(n:DA Z X (e::es) t)(o:Gl X x<|>zn)(q:k<=j<|>ww)
  (r:(x==("__debug__":fA))=false<|>zm) (s:d_ (e::es) X.env=(false,gi e X.env)::d_ es X.env<|>zn) (u:(gM aO^d_ es X.env).any (·.1)=false<|>zn) (z:g_ (.Call (.Name x p) (e::es) [] aO) (some^.Name y a) pos.line X.env=pure false<|>zn)
  (C:md.getD i 0=0<|>zn) (I:X.N[i]?\y<|>zn) (J:Loc X.env.scope y<|>xz) (L:X.fn y=true\/X.env.scope.names.lookup y\.local<|>xz):
  DSt Z X md rn (.Assign [.Name y a] (.Call (.Name x p) (e::es) [] aO) pos) (Ef md sd t λE c d=>E.nx^c.set i^some d):=by
 refine(bU g I J (xC F (l.mono q) o d.m d.F.kp d.b n r s u) z L).imp ?_;intro D Y H O;rfl';obtain⟨B,c,E,⟨G,fp,S⟩,h,M⟩:=O;ac_rfl;exact pJ S h M λd Q v R H' T dv=>M.nx _ Q _ _ #[R,_,T.lS C dv]
structure XE (K:ad) (C:Addr):Prop where
 cls:rT K C
 obj:mw K C
def PD:Option Nat->fN->fN
 |none,E=>{E with xc:=λ_ _=>False}
 |some i,E=>{nx:=λa=>E.nx^a.set i none,rt:=E.rt,bk:=λa=>E.bk^a.set i none,ct:=λa=>E.ct^a.set i none}
def Si:Option Nat->D->DN->DN
 |none,_,a=>a
 |some i,d,a=>a.set i^some d
abbrev D6:=List (Addr×Option Nat×cJ)
def Xp(K:ad)(C:Addr):D6->fN->DN->D->Prop
 | [],_,_,_=>False
 | (c,n,f)::r,E,a,d=>∃b,cm K C^.ref c\b/\if b=true then f (PD n E)^Si n d a else Xp K C r E a d
def Xo(K:ad)(l:D6)(E:fN)(a:DN):D->Prop
 | .err C b c=>mw K C/\Xp K C l E a^.err C b c
 |_=>False
def aaJ(K:ad)(tb a:cJ)(l:D6):cJ:=λE b=>tb {E with nx:=a E,xc:=Xo K l E} b
def SIx.drop{i:Nat}(S:SIx Z B md a d H G f):SIx Z B md (a.set i none) (d.set i none) H G f where
 ex:=S.ex
 fl:=S.fl
 len:=by rw[fF,fF];exact S.len
 at_:=λj c h=>by
  by_cases z:i=j
  .subst z
   by_cases b:i<a.length
   .rw[lV b] at h;cases h
   .rw[D1^ke b,fm^ke b] at h;cases h
  .rw[i5 z] at h ⊢
   exact S.at_ j c h
 nd:=S.nd
 ap:=S.ap
 nw:=S.nw
def Wx(Z:DC)(X:Cx)(b:List Nat)(d:Nat)(l:D6):OK:=l.map λc=>(c.1,c.2.1,λa=>nP Z (X.pA a) b d c.2.2)
def okH(a:List Nat)(l:D6):Prop:=∀c∈l,∀i,c.2.1\i->a.getD i 0=0
def DHs(Z:DC)(X:Cx)(a:List Nat)(b:Nat)(c:List jM)(l:D6):Prop:=PH X c^Wx Z X a b l/\okH a l
theorem C1{B:Bs}{E:fN}{s:Ends}(M:Meets Z X B md rn E s){q:DN}{u:St}{H G:Hp}{v:Nat->List Addr}(S:SIx Z B md q u H G v){a C:Addr}{d:D}(dv:Dv Z G (.ref a) d){K:ad}:∀(l:D6),okH md l->Xp K C l E q d->FD K (Wx Z X md rn l) s u H a C
 | [],_,h=>h
 | (L,n,F)::r,ok,#[b,I,h]=>by
  exists b,I;cases b with
  |false=>exact cv^C1 M S dv r (λc J=>ok c^fq _ J)^h
  |true=>
   have h:F (PD n E)^Si n d q:=h;refine cZ ?_;cases n with
   |none=>exact#[B,q,_,#[G,v,S],h,#[M.nx,M.rt,M.bk,M.ct,λ_ _ z=>z.elim]]
   |some i=>
    refine#[B,_,_,#[G,_,S.lS (ok _ (dH ..) i rfl) dv],h,#[λw f y A #[g,m,o]=>M.nx _ f _ _ #[g,m,o.drop],M.rt,λw f y A #[g,m,o]=>M.bk _ f _ _ #[g,m,o.drop],λw f y A #[g,m,o]=>M.ct _ f _ _ #[g,m,o.drop],λ_ _ z=>z.elim]]
def Lr(v:∀g E,lg Z (X.tr g E) md rn c tb)(w:lg Z X md rn b o)(q:DHs Z X md rn (f::n) l)(y:X.stack=X.env::X.outer<|>zn)(z:X.env.frame\X.env.locals<|>zn):
  DSt Z X md rn (.Try c (f::n) b [] pos)^aaJ X.K tb o l:=by
 refine(Vh (tb:=λg E=>nP Z (X.tr g E) md rn tb) y z v w q.1).imp ?_;intro P Q H A g R F;rfl';let⟨B,J,E,S,h,M⟩:=A;ac_rfl;refine#[B,J,_,S,h,#[λr L s u i=>#[B,r,E,i,L,M],M.rt,M.bk,M.ct,λr d m s u G Y a i dv=>?_]];cases d<;>first|exact False.elim m|skip
 rename_i C e j
 have N:=dv;obtain⟨_,_,_,e,O,k,p⟩:=dv.inv;cases e;exact F s u a C _ (i.ex.sub _ _ O) m.1^C1 M i N l q.2 m.2
def Lm:DHs Z X md rn [] []:=#[Vb,λc a=>by cases a]
variable {c n:Str} {Cm:Addr} {t9:Stmt} {oq:List Stmt} {rest:List ExceptHandler} {l:D6} {th:cJ}
def Pk(g:X.mg c\(.ref Cm))(d:XE X.K Cm)(h:∀a,lg Z (X.pA a) md rn (m::oq) th)(f:DHs Z X md rn rest l)(o:Gl X c<|>zn)(q:(c==("__debug__":fA))=false<|>zm):
  DHs Z X md rn (.ExceptHandler (some^.Name c p) none (m::oq) pos::rest) ((Cm,none,th)::l):=
 #[RC o g d.obj d.cls.be h f.1 q,λc b=>by
  rcases cQ.mp b with rfl|b
  .intro i z;cases z
  .exact f.2 c b]
def XB(i:Nat)(g:X.N.Nodup)(h:X.mg c\(.ref Cm))(d:XE X.K Cm)(m:∀a,lg Z (X.pA a) md rn (o::oq) th)(f:DHs Z X md rn rest l)(q:Gl X c<|>zn)(r:(c==("__debug__":fA))=false<|>zm)(s:X.N[i]?\n<|>zn)(u:X.env.scope.names.lookup n\.local<|>zn)(v:md.getD i 0=0<|>zn):
  DHs Z X md rn (.ExceptHandler (some^.Name c p) (some n) (o::oq) pos::rest) ((Cm,some i,th)::l):=
 #[Zz i g s u q h d.obj d.cls.be m f.1 r,λc b=>by
  rcases cQ.mp b with rfl|b
  .intro i z;cases z;exact v
  .exact f.2 c b]
end
section
variable {X:Cx}
structure IsX (K:ad):Prop where
 hn:bj K (.builtin "object.__class__") "__get__"\(some^.builtin "getset_descriptor.__get__")
 htk:dG K^.builtin "object.__class__"\true
end
section
variable {Z:DC} {X:Cx} {a c:Expr} {cs:List Expr} {ta:aX} {p pos:Pos}
def Xm(K:ad)(f:Str)(t:aX):aX:=λb P=>t b λd=>match d with
 | .err C e g=>rT K C/\fS K C f/\∃y,(e.zip g).lookup f\y/\P y
 |_=>False
theorem Mp:∀{b:List Str}{d:List V}{e:List D},DvAll Z G d e->(b.zip e).lookup f\y->∃v,(b.zip d).lookup f\v/\Dv Z G v y
 | [],_,_,_,h=>by cases h
 |k::b,_,_, .nil,h=>by cases h
 |k::b,_,_, .cons a g,h=>by
  rw[List.zip_cons_cons] at h ⊢
  by_cases z:(f==k)=true
  .rw[bi,z] at h
   cases Do h;exact#[_,by rw[bi,z],a]
  .have z:(f==k)=false:=by simpa using z
   rw[bi,z] at h;obtain⟨v,i,j⟩:=Mp g h;exact#[v,by rw[bi,z];exact i,j]
def ZU(K:ad)(e:TE)(f:fA):TE:=λg H Q=>e g H λx b=>∃a C d fs v,x= .ref a/\b a\(rG C a^some d)/\b d\(BZ d fs)/\rT K C/\fS K C f/\fs.lookup f\v/\Q v b
def Rv(k:PE X e i)(m:hT e f X.env^gi e X.env=gi e X.env):PE X (.Attribute e f pos)^ZU X.K i f:=by
 intro b s w H Q I h;refine Gg m (thn (k b s w H _ I h) λu P y=>?_);rfl';let⟨x,A,d,B,a,C,R,fs,v,E,F,G,c,n,l,q⟩:=y;ac_rfl;subst E;obtain rfl:u=Value.ref a:=B;rfl';let⟨t,S,e⟩:=T3 d.hok F;let⟨g,J,L,r,p⟩:=Mn d.hok G;let⟨u,M,j⟩:=lC.some_of (v:=v) (o:=J f)^by rw[<-l];exact r f
 let⟨od,N,O⟩:=tK L;ac_rfl;exact Io d.fi (od:=some od) #[e,rfl,rfl,N] c (PySem.W.findObj_own c.hd n rfl^by rw[O,M]) (z5 j) #[v,A,d.tok _,j,q]
def Pb{K:ad}{f:fA}(i:IsX K)(l:DE Z X a ta)(m:hT a f X.env^gi a X.env=gi a X.env<|>zn)(n:X.K=K<|>zn):DE Z X (.Attribute a f pos)^Xm K f ta:=by
 subst n;refine(Rv l m).imp ?_;intro O H Q o;rfl';let⟨G,t,P,s,e,h,q⟩:=o;ac_rfl;refine#[G,t,_,s,e,h,λd j v w x g dv=>?_];cases dv<;>first|exact j.elim|skip
 rename_i a C R S T Y z A B
 rfl';let⟨E,F,y,k,I⟩:=j;let⟨u,J,L⟩:=Mp B k;ac_rfl
 rcases A with ⟨_,rfl,_⟩ | ⟨M,rfl,N,_⟩
 .cases k
 .exact#[a,C,M,_,u,rfl,g.sub _ _ z,g.sub _ _ N,E,F,J,q _ I _ w x g L]
end
section
variable {P:Program} {w:World} {K:ad} {mg:Str->Option Value} {base:Heap} {Z:DC}
end
section
variable {Z:DC} {X:Cx} {e:Expr} {es:List Expr} {t:gn} {pos:Pos}
end
def SK:List Value->Bool
 | []=>false
 |v::r=>if isRef v then LG r else LG (v::r)
def Ov(h:SK a=true):a= [.type "ValueError", .type "Exception", .type "BaseException", .type "object"]\/∃M,a= [.ref M, .type "ValueError", .type "Exception", .type "BaseException", .type "object"]:=by
 cases a with
 |nil=>cases h
 |cons v r=>
  rw[SK] at h;cases b:isRef v with
  |true=>
   rw[ir b] at h;cases v with
   |ref M=>rw[Aj h];exact .inr #[M,rfl]
   |_=>cases b
  |false=>
   rw[tz^by rw[b];exact eD] at h
   exact .inl^Aj h
def Z3{K:ad}{C N:Addr}{d:ClassData}{e:List b_}{f q:fA}{bs s:List b_}{g:Bool}{h:List fA}{sub:List b_}{i:Bool}{c:Option Bool}{j:Option Addr}{k l m n o:Option b_}
  (t:cb K C=true) (u:aj K (.ref C) "__getattribute__"\(some^.builtin "BaseException.__getattribute__")) (v:aj K (.ref C) "__getattr__"\none)
  (w:aj K (.ref C) "__setattr__"\(some^.builtin "object.__setattr__")) (x:aj K (.ref C) "__class__"\(some^.builtin "object.__class__"))
  (p:PySem.W.clsIn K C\d) (r:d.mro= .ref C::e) (lo:K.lookup C\(jd f q C N bs s g h sub i c j k l m n o "ValueError.__new__")) (y:s=e) (z:SK e=true):XE K C:=by
 have a:∀b,cm K C b\((Value.ref C::e).contains b):=λb=>by
  unfold cm;rw[p,Option.bind_some,r];rfl
 subst y
 rcases Ov z with rfl| ⟨M,rfl⟩
 .refine#[#[t,u,v,w,?_,x,?_,?_],#[f,q,N,bs,_,g,h,sub,i,c,j,k,l,m,n,o,lo,rfl,rfl,rfl]]
  .unfold Fg
   rw[p];show rg d.mro=true;rw[r];rfl
  .rw[a];rfl
  .rw[a];rfl
 .refine#[#[t,u,v,w,?_,x,?_,?_],#[f,q,N,bs,_,g,h,sub,i,c,j,k,l,m,n,o,lo,rfl,rfl,rfl]]
  .unfold Fg
   rw[p];show rg d.mro=true;rw[r];rfl
  .rw[a];rfl
  .rw[a];rfl
structure IC (K:ad) (C:Addr) (qual:fA) (st:Stmt) (ps:List fA) where
 f:Addr
 fd:hH
 F:sN K "__init__" qual st f fd
 b:Binds K fd ps []
 made:Th K C (.ref f)
 fn:bu K^.ref f=true
structure XBs (K:ad) (mg:fA->Option b_) (M:Addr):Prop where
 m:mg "MapError"\(.ref M)
 sg:bj K (.ref M) "__getattribute__"\(some^.builtin "type.__getattribute__")
 rd:dV K M^.type "type"=true
 fc:d5 K (.ref M) (.type "type") "__init__"\(.val^.builtin "ValueError.__init__")
def Kw(Z:DC)(C:Addr)(g:List fA)(ok:List D->Prop):Sp:=λj H Q _=>∃(a:Addr)(h:List V)(G:Hp)(f:List D),j= .ref a::h/\H a\(wA C a none)/\G a=none/\aC G H/\DvAll Z G h f/\ok f/\f.length=g.length/\
 ∀c i d e,aC G d->aC d e->(∀b o,b≠a->H b\o->e b\o)->(∀b,H b≠none->G b=none->d b=none)->e a\(wA C a^some c)->H c=none->e c\(BZ c^g.zip i)->d c=none->DvAll Z d i f->Q .aQ e
section
variable {Z:DC} {X:Cx} {md:List Nat} {rn:Nat} {st:Stmt} {t:gn} {e:Expr} {es:List Expr} {k j:Nat} {x qual:Str} {ps:List Str} {p pos aO:Pos}
def O8(d:List Nat)(C:Addr)(b:List fA)(ok:List D->Prop)(t:gn):cJ:=λE c=>t (cy d c) λa=>ok a/\a.length=b.length/\E.xc c^.err C b a
def zV(hc:X.calm=true)(I:IC X.K C qual st T)(F:FnOk X.prog X.w X.K X.mg X.base fe k I.f I.fd T^Kw Z C m ok)(hr:bP j X.A)(Y:XE X.K C)(hm:X.mg x\(.ref C))(g:DA Z X (e::es) t)(s:Gl X x<|>zn)(hk:k+1<=j<|>ww)(Qz:T.length<=1000<|>zm)
  (dP:(x==("__debug__":fA))=false<|>zm) (he:d_ (e::es) X.env=(false,gi e X.env)::d_ es X.env<|>zn) (bX:(gM aO^d_ es X.env).any (·.1)=false<|>zn):
  DSt Z X md rn (.Raise (some^.Call (.Name x p) (e::es) [] aO) none pos)^O8 md C m ok t:=by
 refine(NY hc^NS I.made I.fn F (hr.mono hk) s hm I.b Qz bY g dP he bX).imp ?_;intro D σ H aM;rfl';obtain⟨B,ρ,E,⟨G,fp,S⟩,h,M⟩:=aM;ac_rfl;refine#[G,_,_,S.ex.sub,S.yc,h,λds v vs n H1 y bD a g=>?_];rfl';let⟨ok,hl,hx⟩:=v;ac_rfl;have S1:=S.grow y;have J:n a=none:=y.sub.free g;refine#[a,vs,n,ds,rfl,af,J,y.sub.trans^az g _,bD,ok,hl,λd zs q H' g1 g2 g3 g4 g5 r g7 g8 g9=>#[rfl,a,C,some d,rfl,g5,Y.obj,Y.cls.be,?_]];have l:d≠a:=λz=>by rw[z,af] at r;cases r
 have L:H1 d=none:=by rw[ag l] at r;exact r
 have N:n d=none:=g1.free g8;have O:q a=none:=g4 a (by rw[af];exact λz=>nomatch z) J
 have x2:Ext n H1 (upd (upd q d^BZ d^m.zip zs) a^rG C a^some d)^upd H' a^rG C a^some d:=by
  refine#[λb o c=>?_,λb o c=>?_,λb o c=>?_,λb P s=>?_]
  .rw[ag^au c J,ag^au c N];exact g1 _ _ c
  .by_cases z:b=a
   .rw[z,af] at c ⊢;exact c
   .rw[ag z] at c ⊢
    by_cases Q:b=d
    .rw[Q,af] at c;cases c;rw[Q];exact g7
    .rw[ag Q] at c;exact g2 _ _ c
  .have i:b≠a:=au c g
   rw[ag i];exact g3 b o i^by rw[ag i];exact c
  .have i:b≠a:=λz=>P^by rw[z];exact g
   have R:b≠d:=λz=>P^by rw[z];exact L
   rw[ag i,ag R];exact g4 b (by rw[ag i];exact P) s
 have s2:aC q^upd (upd q d^BZ d^m.zip zs) a^rG C a^some d:=λb o c=>by rw[ag^au c O,ag^au c g8];exact c
 exact M.xc ρ _ hx σ _ _ fp a (S1.grow x2)^.err af (.inr #[d,rfl,by rw[ag l,af],by rw[g9.length];exact hl.symm])^g9.mono s2
end
section
variable {Z:DC} {X:Cx} {a:Expr} {ta:aX} {p p1 p2 p3 p4 pos:Pos}
end
def fO(K:ad)(x:fA)(st:Stmt):Prop:=∃(d:Addr)(b c:Option Addr)(e:Array^Option b_)(f kV g h a i:b_),Te K x d/\BX K x x st d b c e f kV g h a i/\bd K a x=true/\am K^.ref d=true
def IA(K:ad)(C:Addr)(m a:fA)(st:Stmt):Prop:=∃(d:Addr)(c e:Option Addr)(f:Array^Option b_)(g kV h i b j:b_),aj K (.ref C) m\(some^.ref d)/\bu K^.ref d=true/\BX K m a st d c e f g kV h i b j/\bd K b a=true/\am K^.ref d=true
abbrev pC(K:ad)(x:Str):Prop:=ce K mainGlobals x\none
section
variable {K:ad} {h:Heap} {mg:Str->Option Value}
def dfH{x:fA}{st:Stmt}{d:Addr}{e f:Option Addr}{g:Array^Option b_}{i kV j m b n:b_}(a:Te K x d)(l:BX K x x st d e f g i kV j m b n)(c:bd K b x=true)(k:am K^.ref d=true):fO K x st:=#[_,_,_,_,_,_,_,_,_,_,a,l,c,k]
def mfH{C:Addr}{m b:fA}{st:Stmt}{d:Addr}{g i:Option Addr}{j:Array^Option b_}{n kV o p e q:b_}(a:aj K (.ref C) m\(some^.ref d))(f:bu K^.ref d=true)(l:BX K m b st d g i j n kV o p e q)(c:bd K e b=true)(k:am K^.ref d=true):IA K C m b st:=#[_,_,_,_,_,_,_,_,_,_,a,f,l,c,k]
def bK.ch{x:fA}{st:Stmt}{d:List fA}(X:K.In h)(G:h.Ns gt mg)(e:fO K x st)
  (b:∀(kV f i:b_)(j:Option Addr)(m n:b_)(g:List b_),g.length=d.length->nC (bv x x (gP st) (cY st) (aq st) .none kV f i j m n) #[g,[]]=pure^d.zip g):bK K mg x st d:=
 Classical.choice (by
  let⟨o,p,q,r,s,t,u,v,w,y,a,l,c,k⟩:=e;exact#[.of X G a l c k b])
def D8.ch{Z:DC}{m d:fA}{st:Stmt}{g:List fA}(e:IA Z.K Z.C m d st)
  (b:∀(kV i n:b_)(o:Option Addr)(p q:b_)(j:List b_),j.length=g.length->nC (bv m d (gP st) (cY st) (aq st) .none kV i n o p q) #[j,[]]=pure^g.zip j):D8 Z m d st g:=
 Classical.choice (by
  let⟨h,r,s,t,u,v,w,x,y,z,a,f,l,c,k⟩:=e;exact#[.of a f l c k b])
end
abbrev Dk(P:Program)(w:World)(base:Heap)(k:Nat){K:ad}{a:Str->Option Value}{x:Str}{st:Stmt}{b:List Str}(D:bK K a x st b)(c:Sp):Prop:=FnOk P w K a base fe k D.f D.fd b c
abbrev Dx(P:Program)(w:World)(base:Heap)(k:Nat){K:ad}{a:Str->Option Value}{x:Str}{st:Stmt}{b:List Str}(D:bK K a x st b)(c:Sp):Prop:=FnOk P w K a base (wx P w) k D.f D.fd b c
section
variable {K:ad} {E M:Addr}
def Tj{p:Addr->Prop}:∀a∈([]:List Addr),p a:=λ_ h=>nomatch h
def OT{p:Addr->Prop}{a:Addr}{l:List Addr}(h:p a)(k:∀x∈l,p x):∀x∈a::l,p x:=λx b=>by
 rcases cQ.mp b with rfl|b
 .exact h
 .exact k x b
structure KitX (K:ad) (E:Addr) (Zf Mf Mt:List Addr):Prop where
 ve:c4 K (.ref E)^.type "ValueError"\true
 zf:∀a∈Zf,c4 K (.ref E)^.ref a\false
 mf:∀a∈Mf,cm K E^.ref a\false
 mt:∀a∈Mt,cm K E^.ref a\true
variable {Zf Mf Mt:List Addr}
def KitX.m1(h:KitX K E Zf Mf Mt)(i:Nat)(e:Mt[i]?\a):cm K E^.ref a\true:=h.mt a^cL e
structure Tg (K:ad) (C:Addr) (init:b_):Prop where
 call:bj K (.ref C) "__call__"\(some^.builtin "type.__call__")
 typ:d7 K (.ref C)^.type "type"\true
 ini:aj K (.ref C) "__init__"\(some init)
 kp:am K^.ref C=true
def Tc(K:ad)(E:Addr)(a:fA)(st:Stmt):Prop:=∃(J:Addr)(c d:Option Addr)(e:Array^Option b_)(f g h i b j:b_),Tg K E^.ref J/\bu K^.ref J=true/\BX K "__init__" a st J c d e f g h i b j/\bd K b a=true/\am K^.ref J=true
def jnH{e:fA}{st:Stmt}{J:Addr}{h i:Option Addr}{j:Array^Option b_}{n o p q g r:b_}(a:bj K (.ref E) "__call__"\(some^.builtin "type.__call__"))(b:d7 K (.ref E)^.type "type"\true)
  (c:aj K (.ref E) "__init__"\(some^.ref J)) (d:am K^.ref E=true) (f:bu K^.ref J=true) (l:BX K "__init__" e st J h i j n o p q g r) (m:bd K g e=true) (k:am K^.ref J=true):Tc K E e st:=
 #[_,_,_,_,_,_,_,_,_,_,#[a,b,c,d],f,l,m,k]
def Tg.mk'(h:Tg K E init)(o:mw K E):Th K E init:=#[o,h.call,h.typ,h.ini,h.kp]
def IC.ch{a:fA}{st:Stmt}{c:List fA}(e:Tc K E a st)(o:mw K E)
  (b:∀(kV d h:b_)(i:Option Addr)(j n:b_)(g:List b_),g.length=c.length->nC (bv "__init__" a (gP st) (cY st) (aq st) .none kV d h i j n) #[g,[]]=pure^c.zip g):IC K E a st c:=
 Classical.choice (by
  let⟨J,p,q,r,s,t,u,v,w,y,x,f,l,m,k⟩:=e;exact#[#[J,_,nG l m k,(nG l m k).binds b,x.mk' o,f]])
structure Xb (K:ad) (M C:Addr):Prop where
 xe:XE K C
def VU{N:Addr}{b:ClassData}{c q:fA}{bs:List b_}{d:Bool}{e:List fA}{sub:List b_}{f:Bool}{a:Option Bool}{g:Option Addr}{h i j k l:Option b_}
  (m:cb K E=true) (n:aj K (.ref E) "__getattribute__"\(some^.builtin "BaseException.__getattribute__")) (o:aj K (.ref E) "__getattr__"\none)
  (p:aj K (.ref E) "__setattr__"\(some^.builtin "object.__setattr__")) (r:aj K (.ref E) "__class__"\(some^.builtin "object.__class__"))
  (s:PySem.W.clsIn K E\b) (t:b.mro= .ref E:: [.ref M, .type "ValueError", .type "Exception", .type "BaseException", .type "object"])
  (lo:K.lookup E\(jd c q E N bs [.ref M, .type "ValueError", .type "Exception", .type "BaseException", .type "object"] d e sub f a g h i j k l "ValueError.__new__")):Xb K M E:=#[Z3 m n o p r s t lo rfl rfl]
end
end L2
namespace wy
open PySem L2 Wb
def top(i:Nat):Stmt:=PySem.Challenge.pw_mapdye_k72_whole_there_and_back.main.body.getD i^.Pass #[0,0,0,0]
abbrev mq:Stmt:=top 12
abbrev ql:Stmt:=top 13
abbrev Ba:Stmt:=top 14
abbrev qk:Stmt:=top 15
abbrev mm:Stmt:=top 16
abbrev qj:Stmt:=top 19
abbrev kU:Stmt:=top 20
abbrev mr:Stmt:=top 21
abbrev kY:Stmt:=top 22
abbrev mj:Stmt:=top 23
abbrev eG:Stmt:=top 24
abbrev kW:Stmt:=top 25
abbrev kX:Stmt:=top 26
abbrev qm:Stmt:=top 29
abbrev gX:Stmt:=top 30
abbrev qo:Stmt:=top 31
abbrev kB:Stmt:=top 32
abbrev kA:Stmt:=top 33
abbrev vD:Stmt:=top 35
abbrev se:Stmt:=top 36
abbrev qi:Stmt:=top 37
abbrev vE:Stmt:=top 38
abbrev vG:Stmt:=top 39
abbrev oh:Stmt:=top 40
abbrev mh:Stmt:=top 41
abbrev yr:Stmt:=top 42
abbrev oK:Stmt:=top 43
abbrev yt:Stmt:=top 44
abbrev l8:Stmt:=top 45
abbrev jX:Stmt:=top 46
abbrev kz:Stmt:=top 47
abbrev l9:Stmt:=top 48
abbrev iN:Stmt:=top 49
abbrev ku:Stmt:=top 50
abbrev og:Stmt:=top 51
abbrev xN:Stmt:=top 52
abbrev fL:Stmt:=L2.ie (top 27) 0
abbrev qh:Stmt:=L2.ie (top 27) 1
abbrev vC:Stmt:=L2.ie (top 27) 2
abbrev lQ:Stmt:=L2.ie (top 27) 3
abbrev yq:Stmt:=L2.ie (top 27) 4
abbrev l7:Stmt:=L2.ie (top 27) 5
abbrev gd:Stmt:=L2.ie (top 8) 0
def i4:aE ["self","counted"] ["self","counted"]^aq gd:=by bv_omega
abbrev iM:Stmt:=L2.ie (top 9) 0
def kZ:aE ["self","one","other"] ["self","one","other"]^aq iM:=by bv_omega
def qv:aE ["web","side","sides","p","q"] ["web","side"]^aq mq:=by bv_omega
def DP:aE ["web","walked","told","side","sides","step"] ["web"]^aq ql:=by bv_omega
def DM:aE ["web"] ["web"]^aq Ba:=by bv_omega
def vK:aE ["web","points","ties","rounds"] ["web"]^aq qk:=by bv_omega
def qu:aE ["web"] ["web"]^aq mm:=by bv_omega
def vJ:aE ["thing","many"] ["thing","many"]^aq qj:=by bv_omega
def oM:aE ["rows","p","row","q"] ["rows"]^aq kU:=by bv_omega
def qw:aE ["rows","p","row"] ["rows"]^aq mr:=by bv_omega
def oP:aE ["rows","p","row","place","q"] ["rows"]^aq kY:=by bv_omega
def qt:aE ["rows","p","row","q"] ["rows"]^aq mj:=by bv_omega
def iO:aE ["rows","reached","waiting","p","q"] ["rows"]^aq eG:=by bv_omega
def oN:aE ["rows","q","reached"] ["rows"]^aq kW:=by bv_omega
def oO:aE ["rows","fault"] ["rows"]^aq kX:=by bv_omega
def vL:aE ["land"] ["land"]^aq qm:=by bv_omega
def mX:aE ["web"] ["web"]^aq gX:=by bv_omega
def vM:aE ["web","dyes","number_of","told","a","b","dye"] ["web","dyes"]^aq qo:=by bv_omega
def sC:aE ["web","dyes","sums","a","b","dye","p","left"] ["web","dyes"]^aq kB:=by bv_omega
def sA:aE ["web","dyes","first","number_of","dye_of","rounds","told","waiting","number","p","q","beyond"] ["web","dyes","first"]^aq kA:=by bv_omega
def su:aE ["_law_turns","_law_side","_law_p","_law_q"] ["_law_turns","_law_side"]^aq oh:=by bv_omega
def qs:aE ["_law_turns","_law_side","_law_found","_law_here"] ["_law_turns","_law_side"]^aq mh:=by bv_omega
def qq:aE ["_law_turns","_law_found","_law_seen","_law_p","_law_turn","_law_q","_law_side"] ["_law_turns"]^aq l8:=by bv_omega
def mW:aE ["_law_turns","_law_found","_law_number","_law_sides","_law_side"] ["_law_turns"]^aq jX:=by bv_omega
def sv:aE ["_law_turns","_law_ties_here","_law_a","_law_turn"] ["_law_turns"]^aq kz:=by bv_omega
def qr:aE ["_law_turns"] ["_law_turns"]^aq l9:=by bv_omega
def si:aE ["_law_turns","_law_left","_law_by_side_here","_law_dyes_here","_law_number","_law_sides","_law_near","_law_some"] ["_law_turns","_law_left"]^aq iN:=by bv_omega
def sq:aE ["_law_turns","_law_ties_here","_law_dyes_here","_law_by_tie","_law_p","_law_turn","_law_here","_law_total","_law_dye"] ["_law_turns","_law_ties_here","_law_dyes_here"]^aq ku:=by bv_omega
def sh:aE ["_law_web_here","_law_dyes_here","_law_first","_law_told","e"] ["_law_web_here","_law_dyes_here","_law_first"]^aq og:=by bv_omega
def L8:aE ["_law_script","_law_turns","_law_dyes_here","_law_web_here","_law_found","_law_by_side_here","_law_handed","_law_due","_law_first","_law_moved"] ["_law_script"]^aq xN:=by bv_omega
def mV:aE ["self","turns","rows","fault"] ["self","turns"]^aq fL:=by bv_omega
def vH:aE ["self"] ["self"]^aq qh:=by bv_omega
def vI:aE ["self"] ["self"]^aq lQ:=by bv_omega
def qp:aE ["self","p","q","row"] ["self","p","q"]^aq l7:=by bv_omega
set_option genInjectivity false in
structure Txt (Z:DC) (mg:Str->Option Value) where
 B:aae mg
 u0:mg "set"=none
 u1:mg "dict"=none
 u2:bK Z.K mg "round_from" mq ["web","side"]
 u3:bK Z.K mg "lands" ql ["web"]
 u4:bK Z.K mg "count" Ba ["web"]
 u5:bK Z.K mg "is_plane" qk ["web"]
 u6:bK Z.K mg "need_plane" mm ["web"]
 u7:bK Z.K mg "is_among" qj ["thing","many"]
 u8:bK Z.K mg "alien_fault" kU ["rows"]
 u9:bK Z.K mg "self_fault" mr ["rows"]
 ua:bK Z.K mg "twice_fault" kY ["rows"]
 ub:bK Z.K mg "lone_fault" mj ["rows"]
 uc:bK Z.K mg "reached_from_first" eG ["rows"]
 ud:bK Z.K mg "apart_fault" kW ["rows"]
 ue:bK Z.K mg "first_fault" kX ["rows"]
 uf:bK Z.K mg "sides_of" qm ["land"]
 ug:bK Z.K mg "land_numbers" gX ["web"]
 uh:bK Z.K mg "tie_dyes" qo ["web","dyes"]
 ui:bK Z.K mg "need_even" kB ["web","dyes"]
 uj:bK Z.K mg "land_dyes" kA ["web","dyes","first"]
 uk:bK Z.K mg "_law_cell" vD ["_law_script","_law_k"]
 ul:bK Z.K mg "_law_mixed" se ["_law_script","_law_turn"]
 um:bK Z.K mg "_law_digits" qi ["_law_script","_law_at"]
 un:bK Z.K mg "_law_take" vE ["_law_left","_law_many"]
 uo:bK Z.K mg "_law_tree" vG ["_law_many","_law_left"]
 up:bK Z.K mg "_law_next" oh ["_law_turns","_law_side"]
 uq:bK Z.K mg "_law_round" mh ["_law_turns","_law_side"]
 ur:bK Z.K mg "_law_tie" yr ["_law_turns","_law_left","_law_plane_here"]
 us:bK Z.K mg "_law_renamed" oK ["_law_turns","_law_order","_law_left"]
 ut:bK Z.K mg "_law_web" yt ["_law_script","_law_most","_law_plane_here"]
 uu:bK Z.K mg "_law_lands" l8 ["_law_turns"]
 uv:bK Z.K mg "_law_by_side" jX ["_law_turns"]
 uw:bK Z.K mg "_law_ties" kz ["_law_turns"]
 ux:bK Z.K mg "_law_plane" l9 ["_law_turns"]
 uy:bK Z.K mg "_law_dyes" iN ["_law_turns","_law_left"]
 uz:bK Z.K mg "_law_even" ku ["_law_turns","_law_ties_here","_law_dyes_here"]
 v0:bK Z.K mg "_law_back" og ["_law_web_here","_law_dyes_here","_law_first"]
 v1:bK Z.K mg "law" xN ["_law_script"]
 W:Ld Z
 mC:mg "Web"\(.ref Z.C)
 v2:Addr
 v3:FuncData
 v4:sN Z.K "__init__" "Web.__init__" fL v2 v3
 v5:Mk Z.K Z.C v2
 v6:Binds Z.K v3 ["self","turns"] []
 v7:D8 Z "many" "Web.many" qh ["self"]
 v8:D8 Z "turns" "Web.turns" vC ["self"]
 v9:D8 Z "ties" "Web.ties" lQ ["self"]
 va:D8 Z "tied" "Web.tied" yq ["self","a","b"]
 vb:D8 Z "behind" "Web.behind" l7 ["self","p","q"]
 iX:IsX Z.K
 vc:Addr
 vd:mg "MapError"\(.ref vc)
 ve:Addr
 vf:mg "NotPlane"\(.ref ve)
 vg:Addr
 vh:mg "Alike"\(.ref vg)
 vi:XE Z.K ve
 vj:XE Z.K vg
 xb:XBs Z.K mg vc
 vk:IC Z.K ve "NotPlane.__init__" gd ["self","counted"]
 vl:fS Z.K ve "counted"
 vm:KitX Z.K ve [] [vg] [ve]
 vn:IC Z.K vg "Alike.__init__" iM ["self","one","other"]
 vo:fS Z.K vg "one"
 vp:fS Z.K vg "other"
 vq:KitX Z.K vg [] [ve] [vg]
 vr:∃tk,mg "__name__"\(.str "law_mapdye_k72_whole_there_and_back" tk)
 vs:∃tk,mg "MOST_POINTS"\(.int 14 tk)
variable {P:Program} {w:World} {mg:Str->Option Value} {base:Heap} {Z:DC} (T:Txt Z mg)
def So:di:=λa P=>∃(i n:Int),a= [.int i, .int n]/\P^.bl (decide (0<=i/\i<n))
def E8:Dk P w base 1 T.u7^aW Z So:=by
 have d:=vJ.nd;refine bz T.u7.F vJ [0,0] ∅ (λb R h=>by let⟨g,j,rfl,k⟩:=h;rfl)^λe A outer s H E b R c h=>?_
 have f:=c.units;exists _,(aw^aV^za (Ll "int" (U 0) rfl T.B.isinstance rfl T.B.int Tp)^za (TH^Ll "bool" (U 0) rfl T.B.isinstance rfl T.B.bool OY)^Ei^MO J2 AE aP (U 0)^U 1);let⟨i,n,rfl,q⟩:=h;refine#[_,rfl,rfl,true,rfl,cZ #[_,rfl,rfl,false,rfl,true,rfl,cZ #[_,rfl,?_]]];refine#[_,rfl,fu (λa=>#[_,rfl,?_])^λa=>?_]
 .have a:0<=i:=IR a
  show R^.bl (decide (i<n));rw[show decide (i<n)=decide (0<=i/\i<n) by simp[a]]
  exact q
 .have a:¬0<=i:=SB a
  rw[show decide (0<=i/\i<n)=false by simp[a]] at q
  exact q
def zo:di:=λa P=>∃(w:W),a= [bR w]/\CC w/\1<=w.length/\w.length<=14/\P .aQ
def yy{w:W}(h:(eO^w.map aB)[j]?\d):j<w.length/\d= .tup [.int (j:Int),aB^row w j]:=by
 let⟨x,b,rfl⟩:=jg h;let⟨r,a,rfl⟩:=cw b;have c:j<w.length:=(cR.mp a).1;exists c;rw[Vp a]
def yW:Dk P w base 2 T.u8^aW Z zo:=by
 have c:=oM.nd;refine bz T.u8.F oM [0,0,0,0] ∅ (λm R h=>by let⟨D,rfl,K⟩:=h;rfl)^λv A outer s H E m R l h=>?_
 have y:=l.units
 refine#[_,(ar (cu rfl FS (eW rfl T.B.enumerate^aa (U 0) ah) (dO 2 rfl^aJ (aI 1 c)^aJ (aI 2 c) bT)^aw^cu rfl FS (bM^U 2) (aI 3 c)^aw^dB (nu^lK^aH T.u7 (E8 T) l^aa (U 3)^aa (aU dM rfl T.B.len dJ^aa (U 0) ah) ah) (aw^aV^bO^aa jy^aa (U 1)^aa (U 3) ah) bx)
   (aw^aV ft)),?_]
 let⟨a,rfl,g,z,h14,q⟩:=h;refine#[_,rfl,bN (λ_ e=>∃f i b,e= [some^bR a,f,i,b]) #[_,_,_,rfl] ?_ ?_]
 .rintro j d _ n ⟨f,i,b,rfl⟩ A o
  let⟨C,rfl⟩:=yy n;exists rfl,rfl;refine#[_,rfl,bN (λ_ e=>∃b,e= [some^bR a,some^.int (j:Int),some^aB^row a j,b]) #[_,rfl] ?_ ?_]
  .rintro k G _ p ⟨r,rfl⟩ I t
   let⟨x,u,rfl⟩:=cw p;refine#[_,rfl,_,rfl,_,_,rfl,#[rfl,?_]];have J:x<a.length:=g.rng _ _^cL u;rw[show decide ((0:Int)<=(x:Int)/\(x:Int)<((a.map aB).length:Int))=true by simp;lia]
   exact cv^t _ #[_,rfl]
  .rintro _ ⟨r,rfl⟩
   exact o _ #[_,_,_,rfl]
 .rintro _ ⟨f,i,b,rfl⟩
  exact q
def AS:Dk P w base 1 T.u9^aW Z zo:=by
 have f:=qw.nd;refine bz T.u9.F qw [0,0,0] ∅ (λi R h=>by let⟨x,rfl,y⟩:=h;rfl)^λo A outer s H E i R k h=>?_
 have t:=k.units
 refine#[_,(ar (cu rfl FS (eW rfl T.B.enumerate^aa (U 0) ah) (dO 2 rfl^aJ (aI 1 f)^aJ (aI 2 f) bT)^aw^dB (bI J0 (U 1) (U 2)^by with_unfolding_all rfl) (aw^aV^bO^aa jy^aa (U 1)^aa (U 1) ah) bx)
   (aw^aV ft)),?_]
 let⟨a,rfl,g,u,h14,q⟩:=h;refine#[_,rfl,bN (λ_ l=>∃b c,l= [some^bR a,b,c]) #[_,_,rfl] ?_ ?_]
 .rintro j d _ m ⟨b,c,rfl⟩ A n
  let⟨v,rfl⟩:=yy m;exists rfl,rfl;exists _,rfl,_,rfl,rfl,h8 _,_,rfl
  have e:inD (.int (j:Int))^(row a j).map ax=false:=by
   have:=Ah (r:=row a j) (p:=j)
   rw[GE^g.irr j] at this;exact this
  rw[tz eD,e];exact cv^n _ #[_,_,rfl]
 .rintro _ ⟨b,c,rfl⟩
  exact q
def zO(l:List a)(k:Nat)(h:k<=l.length):cutD l none^some (k:Int)=l.take k:=by
 unfold cutD;have b:HT.b7 l.length 0 none=0:=rfl
 have c:HT.b7 l.length l.length^some (k:Int)=k:=by
  simp only[HT.b7]
  split<;>lia
 rw[b,c];simp
def yY:Dk P w base 1 T.ua^aW Z zo:=by
 have f:=oP.nd;refine bz T.ua.F oP [0,0,0,0,0] ∅ (λr R h=>by let⟨D,rfl,K⟩:=h;rfl)^λO A outer s H E r R t h=>?_
 have Q:=t.units
 refine#[_,(ar (cu rfl FS (eW rfl T.B.enumerate^aa (U 0) ah) (dO 2 rfl^aJ (aI 1 f)^aJ (aI 2 f) bT)^aw^cu rfl FS (eW rfl T.B.enumerate^aa (U 2) ah) (dO 2 rfl^aJ (aI 3 f)^aJ (aI 4 f) bT)^aw^dB (bI J0 (U 4) (wF (U 2) zT^zU^U 3)^by with_unfolding_all rfl) (aw^aV^bO^aa jy^aa (U 1)^aa (U 4) ah) bx)
   (aw^aV ft)),?_]
 let⟨a,rfl,g,S,h14,q⟩:=h;refine#[_,rfl,bN (λ_ i=>∃l n b c,i= [some^bR a,l,n,b,c]) #[_,_,_,_,rfl] ?_ ?_]
 .rintro j d _ u ⟨l,n,b,c,rfl⟩ A v
  let⟨X,rfl⟩:=yy u;exists rfl,rfl;refine#[_,rfl,bN (λ_ i=>∃b c,i= [some^bR a,some^.int (j:Int),some^aB^row a j,b,c]) #[_,_,rfl] ?_ ?_]
  .rintro k Y _ C ⟨G,I,rfl⟩ A' J
   let⟨y,L,rfl⟩:=jg C;let⟨x,p,rfl⟩:=cw L;have gL:k<(row a j).length:=(cR.mp p).1;exists rfl,rfl;exists _,rfl,_,rfl,_,rfl;have M:cutD ((row a j).map ax) none^some (k:Int)=((row a j).take k).map ax:=by rw[zO _ _^by simp;lia,adQ]
   refine(?_:Tu false (ax x) (.lst^cutD ((row a j).map ax) none^some (k:Int)) _);rw[M];exists rfl,h8 _,_,rfl
   have e:inD (ax x)^((row a j).take k).map ax=false:=by
    rw[Ah,GE];intro z;let⟨m,o⟩:=i6 z
    have N:m<k:=by
     have:=(cR.mp o).1
     rw[iS] at this;lia
    rw[FX N] at o;exact absurd ((List.getElem?_inj ()^g.nod j).mp^o.trans p.symm) ()
   rw[tz eD,e];exact cv^J _ #[_,_,rfl]
  .rintro _ ⟨G,I,rfl⟩
   exact v _ #[_,_,_,_,rfl]
 .rintro _ ⟨l,n,b,c,rfl⟩
  exact q
def AQ:Dk P w base 1 T.ub^aW Z zo:=by
 have f:=qt.nd;refine bz T.ub.F qt [0,0,0,0] ∅ (λn R h=>by let⟨D,rfl,K⟩:=h;rfl)^λI A outer s H E n R o h=>?_
 have J:=o.units
 refine#[_,(ar (cu rfl FS (eW rfl T.B.enumerate^aa (U 0) ah) (dO 2 rfl^aJ (aI 1 f)^aJ (aI 2 f) bT)^aw^cu rfl FS (bM^U 2) (aI 3 f)^aw^dB (bI Dr (U 1) (fz (U 0)^U 3)^by with_unfolding_all rfl) (aw^aV^bO^aa jy^aa (U 1)^aa (U 3) ah) bx)
   (aw^aV ft)),?_]
 let⟨a,rfl,g,L,h14,q⟩:=h;refine#[_,rfl,bN (λ_ i=>∃l m b,i= [some^bR a,l,m,b]) #[_,_,_,rfl] ?_ ?_]
 .rintro j d _ t ⟨l,m,b,rfl⟩ A u
  let⟨M,rfl⟩:=yy t;exists rfl,rfl;refine#[_,rfl,bN (λ_ i=>∃b,i= [some^bR a,some^.int (j:Int),some^aB^row a j,b]) #[_,rfl] ?_ ?_]
  .rintro k N _ v ⟨y,rfl⟩ O z
   let⟨x,C,rfl⟩:=cw v;have c:=cL C;have G:x<a.length:=g.rng _ _ c;exists _,rfl,_,rfl,_,rfl,_,hZ^Bu G,rfl,h8 _,_,rfl
   have e:inD (.int (j:Int))^(row a x).map ax=true:=by
    have:=Ah (r:=row a x) (p:=j)
    rw[FM^g.sym _ _ c] at this;exact this
   rw[ir rfl,e];exact cv^z _ #[_,rfl]
  .rintro _ ⟨y,rfl⟩
   exact u _ #[_,_,_,rfl]
 .rintro _ ⟨l,m,b,rfl⟩
  exact q
def yJ(bs:List Bool):List D:=bs.map D.bl
def O1{bs:List Bool}{i:Nat}{b:Bool}(h:bs[i]?\b):(yJ bs)[i]?\(.bl b):=by unfold yJ;rw[dh,h];rfl
def Gk(bs:List Bool)(i:Nat)(b:Bool):(yJ bs).set i^.bl b=yJ^bs.set i b:=by unfold yJ;rw[ae1]
def Gj(bs:List Bool):(yJ bs).length=bs.length:=aG _
def C6{n k:Nat}(h:k<n):lA n (k:Int)\k:=by unfold lA;rw[ir (),ir ()];simp
def Kz:di:=λa P=>∃(w:W),a= [bR w]/\CC w/\1<=w.length/\w.length<=14/\∀bs m,RI w bs [] [] m->(∀x,bs[x]?\true->Reach w 0 x)->P^.lst^yJ bs
def Met(w:W)(bs:List Bool):Prop:=∀x,bs[x]?\true->Reach w 0 x
def n0:Dk P w base 1 T.uc^aW Z Kz:=by
 have u:=iO.nd;refine bz T.uc.F iO [0,1,1,0,0] ∅ (λds R h=>by let⟨K,rfl,V⟩:=h;rfl)^λaT A outer s H E ds R hr h=>?_
 have hu:=hr.units
 refine#[_,(ar (wL 1 (NC:= ["row"]) (src:= [none]) rfl u (sQ^aq eG) trivial (bM^U 0) (λ_ _ _=>(bL 0 (show(["row"]:List fA).Nodup from by decide+kernel))) (λ_ _ _=>eX)^λ_ _ _=>pK)
   (ar (qQ false 1 aP pK)
   (ar (jA 2 u^jz^aa aP ah)
   (ar (qR FS (lK^U 2)^ar (Lq 3 2 u)
   (aw^cu rfl FS (bM^fz (U 0)^U 3) (aI 4 u)^aw^dB (nu^lK^fz (U 1)^U 4) (ar (qQ false 1 (U 4) pK)
   (aw^nq false 2^U 4)) bx))
   (aw^aV^U 1))))),?_]
 let⟨c,rfl,g,h1,h14,q⟩:=h;refine#[_,rfl,nN (ρ:= [none]) aB (λ_=> .bl false) c _ (λy b Y h=>h) rfl (small ()) λaK=>?_]
 have e0:c.map (λ_=>D.bl false)=yJ^b5 c.length false:=by unfold yJ;rw[List.map_replicate,List.map_const']
 rw[e0];refine#[trivial,_,rfl,0,0,rfl,by rw[Gj,yD];exact C6 (k:=0) (),?_]
 rw[Gk];refine#[by show 1<=sizeLine;decide,?_]
 refine oE (λm ρ=>∃(bs:List Bool)(i:List Nat)(Q v:Option D),ρ= [some^bR c,some^.lst^yJ bs,some^.lst^i.map ax,Q,v]/\RI c bs i [] m/\Met c bs/\m<=14/\bs.count false+i.length=m) c.length ?_ ?_
 .refine#[_,[0],none,none,rfl,#[by simp,?_,?_,λx d=>?_,?_],λx d=>?_,h14,?_]
  .rw[kc,ir rfl,ir^by rw[yD];lia]
  .intro x d
   have:x=0:=by simpa using d
   rw[this,kc,ir rfl,ir^by rw[yD];lia]
  .by_cases e:0=x
   .exact .inl^by rw[<-e];simp
   .rw[kc,tz e,wb] at d
    split at d<;>cases d
  .rw[aev^by rw[yD];lia,aeO,afo]
   simp;lia
  .by_cases e:0=x
   .rw[<-e];exact .refl _
   .rw[kc,tz e,wb] at d
    split at d<;>cases d
  .rw[aev^by rw[yD];lia,aeO,afo]
   simp;lia
 .rintro m _ ⟨bs,i,Q,v,rfl,B,mt,hc,S⟩
  exists _,rfl,rfl
  rcases List.eq_nil_or_concat i with rfl| ⟨L,p,e⟩
  .exact cv #[_,rfl,q bs m B mt]
  .rw[List.concat_eq_append] at e
   subst e;rw[show Mj^.lst^(L++ [p]).map ax=true by simp[Mj]]
   refine cZ ?_;rw[dg] at S;simp only[F0] at S;obtain⟨l,rfl⟩:∃l,m=l+1:=#[m-1,()]
   have M:=B.pop;have X:bs[p]?\true:=B.wt p^by simp
   have Jx:p<c.length:=by rw[<-B.len];exact(cR.mp X).1
   refine#[L.map ax,ax p,by rw[b9];rfl,?_]
   refine#[_,rfl,_,rfl,_,hZ^Bu Jx,bN (λj ρ=>∃(a:List Bool)(f:List Nat)(v:Option D),ρ= [some^bR c,some^.lst^yJ a,some^.lst^f.map ax,some^ax p,v]/\RI c a f [p] l/\Met c a/\(∀k y,k<j->(row c p)[k]?\y->a[y]?\true)/\a.count false+f.length=l) ?_ ?_ ?_]
   .exact#[bs,L,_,rfl,M,mt,(λk n o=>by lia),()]
   .rintro j x _ d ⟨a,f,o5,rfl,r,C,G,N⟩ A hA
    let⟨n,I,rfl⟩:=cw d;have YM:=g.rng _ _^cL I;have O:n<a.length:=by rw[r.len];exact YM
    have t:a[n]?\(a[n]):=cz O;exists _,rfl,_,rfl,_,hZ^O1 t,rfl;generalize a[n]=bn at t;cases bn with
    |true=>
     refine cv^hA _ #[a,f,_,rfl,r,C,λk y o b=>?_,N]
     by_cases e:k=j
     .rw[e,I] at b;cases b;exact t
     .exact G k y () b
    |false=>
     refine cZ ?_;refine#[trivial,_,rfl,_,rfl,_,n,rfl,by rw[Gj];exact C6 O,?_]
     rw[Gk];have J:=r.push t;have acw:=J.cnt;refine#[_,rfl,_,rfl,trivial,bA^by rw[aG];lia,?_]
     have er:f.map ax++ [ax n]=(f++ [n]).map ax:=by rw[b9];rfl
     rw[er];refine hA _ #[a.set n true,f++ [n],_,rfl,J,λy b=>?_,λk y o b=>?_,?_]
     .by_cases e:n=y
      .rw[<-e];exact .step (mt p X)^cL I
      .rw[kc,tz e] at b;exact C y b
     .rw[kc]
      by_cases e:n=y
      .rw[ir e,ir O]
      .rw[tz e]
       refine G k y ?_ b;apply GM;intro z
       have:k=j:=()
       rw[this,I] at b;cases b;exact e rfl
     .obtain⟨hl,he⟩:=cR.mp t
      have:0<a.count false:=List.count_pos_iff.mpr^by rw[<-he];exact lX hl
      rw[aev hl,he,dg];simp;lia
   .rintro _ ⟨a,f,o5,rfl,r,C,G,N⟩
    have J:=r.close λy b=>by
     let⟨k,o⟩:=i6 b;exact G k y (by rw[aG];exact(cR.mp o).1) o
    exact#[l,(),a,f,_,_,rfl,J,C,(),N]
def HX:di:=λa P=>∃(w:W),a= [bR w]/\CC w/\1<=w.length/\w.length<=14/\(Good w->P .aQ)/\(¬Good w->∀q,P^.tup [.str "apart", .int 0,ax q])
def yX:Dk P w base 2 T.ud^aW Z HX:=by
 have l:=oN.nd;refine bz T.ud.F oN [0,0,0] ∅ (λt R h=>by let⟨D,rfl,K⟩:=h;rfl)^λM A outer s H E t R n h=>?_
 have N:=n.units
 refine#[_,(ar (cu rfl FS (eW rfl T.B.enumerate^aa (aH T.uc (n0 T) n^aa (U 0) ah) ah) (dO 2 rfl^aJ (aI 1 l)^aJ (aI 2 l) bT)^aw^dB (nu^lK^U 2) (aw^aV^bO^aa jy^aa aP^aa (U 1) ah) bx)
   (aw^aV ft)),?_]
 let⟨o,rfl,g,u,h14,v,z⟩:=h;refine#[_,rfl,o,rfl,g,u,h14,λbs m q mt=>bN (λk C=>(∀x,x<k->bs[x]?\true)/\∃c f,C= [some^bR o,c,f]) #[λx r=>absurd r^Nat.not_lt_zero x,_,_,rfl] ?_ ?_]
 .rintro j d _ G ⟨i,c,f,rfl⟩ A I
  let⟨y,J,rfl⟩:=jg G;let⟨b,a,rfl⟩:=cw J;exists rfl,rfl;cases b with
  |true=>
   refine#[_,rfl,rfl,cv^I _ #[λx r=>?_,_,_,rfl]]
   by_cases e:x=j
   .rw[e];exact a
   .exact i x ()
  |false=>
   refine#[_,rfl,rfl,cZ #[_,rfl,by show 3<=sizeLine;decide,z (λL=>?_) j]]
   have:=q.all L
   rw[this,wb] at a
   split at a<;>cases a
 .rintro _ ⟨i,c,f,rfl⟩
  refine v (g.good λp O=>mt p^i p ?_)
  have:=q.len
  unfold yJ eO;simp;lia
def oJ:Dk P w base 3 T.ue^aW Z HX:=by
 have b:=oO.nd;refine bz T.ue.F oO [0,0] ∅ (λf R h=>by let⟨m,rfl,n⟩:=h;rfl)^λk A outer s H E f R a h=>?_
 have l:=a.units
 refine#[_,(ar (bG false 1 b^aH T.u8 (yW T) a^aa (U 0) ah)
   (ar (dB (bI xu (U 1) ft^aY _) (aw^bG false 1 b^aH T.u9 (AS T) a^aa (U 0) ah) bx)
   (ar (dB (bI xu (U 1) ft^aY _) (aw^bG false 1 b^aH T.ua (yY T) a^aa (U 0) ah) bx)
   (ar (dB (bI xu (U 1) ft^aY _) (aw^bG false 1 b^aH T.ub (AQ T) a^aa (U 0) ah) bx)
   (ar (dB (bI xu (U 1) ft^aY _) (aw^bG false 1 b^aH T.ud (yX T) a^aa (U 0) ah) bx)
   (aw^aV^U 1)))))),?_]
 let⟨c,rfl,g,d,h14,i,j⟩:=h;exists _,rfl,c,rfl,g,d,h14,trivial;refine#[_,rfl,_,rfl,cZ #[_,rfl,c,rfl,g,d,h14,trivial,?_]];refine#[_,rfl,_,rfl,cZ #[_,rfl,c,rfl,g,d,h14,trivial,?_]];refine#[_,rfl,_,rfl,cZ #[_,rfl,c,rfl,g,d,h14,trivial,?_]];refine#[_,rfl,_,rfl,cZ #[_,rfl,c,rfl,g,d,h14,λe=>#[trivial,_,rfl,i e],λe q=>#[trivial,_,rfl,j e q]]]
def xy{P:fw}{w:f5}{base:Heap}{Z:DC}(T:Txt Z n):FnOk P w Z.K n base fe 4 T.v2 T.v3 ["self","turns"]^HY Z:=by
 have PZ:=oJ (P:=P) (w:=w) (base:=base) T;have r:=mV.nd;refine T.v4.ok mV (λM H Q E h=>?_)^λaT A outer s H M Q E u h=>?_
 .obtain⟨p,x,v,G,a,rfl,_⟩:=h;rfl
 let⟨p,x,v,G,a,rfl,F,N,O,dv,g,S,h14,q⟩:=h;have hu:=u.units
 refine#[_,aF (t:=nP Z _ [0,0,0,0] 0 _)
   (dB (nu^MW J2 J2 aP (aU dM rfl T.B.len dJ^aa (U 1) ah)^MP rfl T.vs) (aw wK) bx)
  (aF (t:=nP Z _ [0,0,0,0] 0 _)
   (wM 2 (NC:= ["row"]) (src:= [none]) rfl r (sQ^aq fL) trivial (bM^U 1) (λ_ _ _=>(bL 0 (show(["row"]:List fA).Nodup from by decide+kernel))) (λ_ _ _=>eX)^λ_ _ _=>(nh uA rfl T.B.list pI^aa (U 0) ah))
  (aF (t:=nP Z _ [0,0,0,0] 0 _)
   (bG false 3 r^aH T.ue (oJ T) u^aa (U 2) ah)
  (aF (t:=nP Z _ [0,0,0,0] 0 _)
   (dB (bI NI (U 3) ft^aY _) (aw wK) bx)
  (bE^Vf (pv 0) (pv 2) rfl)))),?_]
 have I:(a.map aB).length=a.length:=aG _;refine#[#[G,H,G],[some^.obj p,some^bR a,none,none],{nx:=λρ=>ρ= [some^.obj p,some^bR a,none,none],rt:=λ_=>False},#[G,λ_=> [],?_],?_,#[?_,λ_ z=>z.elim,λ_ z=>z.elim,λ_ z=>z.elim,λ_ _ z=>z.elim]]
 .refine#[.refl N, .refl _,rfl,λi d c=>?_,λ_=>i8,(λ_ _ _ _ z=>by cases z),(λ_ _ z=>by cases z)]
  match i,c with
  |0,c=>cases c;exact#[_,rfl, .obj p,rfl]
  |1,c=>cases c;exact#[_,rfl,dv,rfl]
  |2,c=>cases c
  |3,c=>cases c
  |i+4,c=>cases c
 .have X:D.bl (decide ((1:Int)<=((a.map aB).length:Int)))= .bl true:=KM D.bl^FM^by rw[I];lia
  have e2:D.bl (decide (((a.map aB).length:Int)<=14))= .bl true:=KM D.bl^FM^by rw[I];lia
  exact#[_,rfl,true,X,cZ #[true,e2,cv rfl]]
 rintro _ rfl Lb H1 S1;refine#[#[G,H,G],_,{nx:=λρ=>ρ= [some^.obj p,some^bR a,some^bR a,none],rt:=λ_=>False},S1,?_,#[?_,λ_ z=>z.elim,λ_ z=>z.elim,λ_ z=>z.elim,λ_ _ z=>z.elim]]
 .exact#[_,rfl,nN (ρ:= [none]) aB aB a _ (λy hy Y h=>#[_,rfl,h]) rfl (small ()) λaK=>#[trivial,rfl]]
 rintro _ rfl dS H2 S2;refine#[#[G,H,G],_,{nx:=λρ=>ρ= [some^.obj p,some^bR a,some^bR a,some .aQ],rt:=λ_=>False},S2,?_,#[?_,λ_ z=>z.elim,λ_ z=>z.elim,λ_ z=>z.elim,λ_ _ z=>z.elim]]
 .exact#[_,rfl,a,rfl,g.near,S,h14,λ_=>#[trivial,rfl],λz=>absurd g z]
 rintro _ rfl y8 H3 S3;refine#[#[G,H,G],_,{nx:=λρ=>ρ= [some^.obj p,some^bR a,some^bR a,some .aQ],rt:=λ_=>False},S3,?_,#[?_,λ_ z=>z.elim,λ_ z=>z.elim,λ_ z=>z.elim,λ_ _ z=>z.elim]]
 .exact#[_,rfl,_,rfl,cv rfl]
 rintro _ rfl fb H4 ⟨J,fp,f⟩;let⟨v0,yP,o0⟩:=f.at_ 0 _ rfl;let⟨v2,k,o2⟩:=f.at_ 2 _ rfl;let⟨d0,V⟩:=o0;let⟨L,V⟩:=o2;cases d0;have l:=L;cases L with
 | @lst R xs ds hR e=>
  have m:=f.ex.hh _ _ F;refine#[_,k,_,yP,p,Z.C,x,[],rfl,m,T.W.cl,T.W.nR,∅,?_]
  have g4:J p=none:=f.ex.off p (by show H p≠none;rw[F];exact λz=>nomatch z) O
  refine q R J _ f.ex.gg (λb o j=>?_) (λb o j nb=>?_) f.ex.off af l
  .rw[ag^au j g4];exact f.ex.sub _ _ j
  .rw[ag nb];exact f.ex.hh _ _ j
def Vy:di:=λa P=>∃(w:W),a= [.gI w]/\P^.int (w.length:Int)
def nZ:FnOk P w Z.K mg base fe 1 T.v7.f T.v7.fd ["self"]^aW Z Vy:=by
 have d:=vH.nd;refine bz T.v7.F vH [0] ∅ (λb R h=>by let⟨i,rfl,j⟩:=h;rfl)^λe A outer s H E b R c h=>?_
 have g:=c.units;exists _,(aw^aV^aU dM rfl T.B.len dJ^aa (zR T.W^U 0) ah);let⟨a,rfl,q⟩:=h;exists _,rfl,a,rfl;refine(?_:R^.int ((a.map aB).length:Int));rw[aG];exact q
end wy
namespace L2
open PySem PySem.Spec PyProof.Rows
section
variable {X:Cx}
variable {o e:Expr} {es:List Expr} {to:TE} {t:TA} {name:Str} {apos aO:Pos} {id:String} {r:V->List V->Hp->VK->Prop}
end
section
variable {Z:DC} {X:Cx} {B:Bs} {md:List Nat} {rn:Nat} {ρ:DN} {σ:St} {H G:Hp} {fp:Nat->List Addr} {a e k o:Expr} {ta te tk tp:aX} {pos apos aO p2:Pos}
def aau(g:List Nat)(i:Nat)(h:aX):cJ:=λE b=>∃c,b[i]?\(some^.lst c)/\h (cy g b) λd=>∃f,d= .lst f/\c.length+f.length<=sizeLine/\E.nx^b.set i^some^.lst (c++f)
def TM(i:Nat)(t:DE Z X e te)(g:md.getD i 0=1<|>zn)(u:X.N[i]?\x<|>zn)(w:rK X.env.scope x<|>xz)(f:(x==("__debug__":fA))=false<|>zm)(y:(x==("__classdict__":fA))=false<|>zm)
  (z:hT (.Name x c) "extend" X.env^gi (.Name x c) X.env=gi (.Name x c) X.env<|>zn)
  (A:((gM aO^d_ [e] X.env).all (λx=>!x.1)&&(js aO^iq [] X.env).all (λx=>x.1.isSome)&&decide (([e]:List gc).length+([]:List jp).length+(if ([]:List jp).isEmpty then 0 else 1)<30))=true<|>zn)
  (C:(apos.endLine==aO.line)=true<|>zn) (j:d_ [e] X.env=(false,gi e X.env)::d_ [] X.env<|>zn) (F:(gM aO^d_ [] X.env).any (·.1)=false<|>zn)
  (I:g_ (.Call (.Attribute (.Name x c) "extend" apos) [e] [] aO) none pos.line X.env=pure false<|>zn):
  DSt Z X md rn (.Expr (.Call (.Attribute (.Name x c) "extend" apos) [e] [] aO) pos)^aau md i te:=by
 refine(c7 (hV KB ae2 ae3 Ay (pv i u w f y) (ao t aA j) z A C j F) I).imp ?_;rintro D o H ⟨B,ρ,E,⟨G,J,S⟩,⟨ds,m,h⟩,M⟩;let⟨l,xs,K,U,n,L,V⟩:=S.one g m;refine#[_,n,ty_list L,S.ev false h λd f=>#[trivial,λv O H' p x dv=>?_]];let⟨zs,rfl,P,Q⟩:=f;let⟨l',R,wJ,T,q,Y,r,put⟩:=p.one g m;cases T;rw[n] at q;cases q;obtain⟨b,a,rfl,k,s⟩:=dv.iG;exact#[l,b,R,a,rfl,rfl,Y,p.ex.sub _ _ k,by rw[r.length,s.length];exact P,M.nx _ Q _ _ #[O,J,put _ _^r.append s]]
end
def fY.ok{P:fw}{w:f5}{H:Hp}{a:Addr}(x:fY b a d h):cK P w H h a^.ext^fY b a d:=by
 refine#[x,let #[o,_,_,_,c,_]:=x;#[o,c],λg i p k=>?_];obtain⟨o,e,f,t,c,r⟩:=p;exact#[o,e,f,t,k o c,r]
theorem fG.mem:∀{b:List (Int×Addr)}{c:List (Int×Int)},fG H b c->∀e∈b,∃p∈c,e.1=bo p/\H e.2\(.tup [.int p.1, .int p.2])
 |_,_, .nil,e,a=>nomatch a
 |_,_, .cons (p:=p) h t,e,a=>by
  rcases cQ.mp a with rfl|a
  .exact#[p,dH ..,rfl,h]
  .obtain⟨q,d,f⟩:=t.mem e a
   exact#[q,fq _ d,f]
theorem fG.Wz:∀{c:List (Int×Addr)}{d:List (Int×Int)},fG H c d->∀p∈d,∃a,(bo p,a)∈c/\H a\(.tup [.int p.1, .int p.2])
 |_,_, .nil,p,b=>nomatch b
 |_,_, .cons (a:=a) h t,p,b=>by
  rcases cQ.mp b with rfl|b
  .exact#[a,dH ..,h]
  .obtain⟨e,f,g⟩:=t.Wz p b
   exact#[e,fq _ f,g]
theorem fG.len:∀{a:List (Int×Addr)}{b:List (Int×Int)},fG H a b->a.length=b.length
 |_,_, .nil=>rfl
 |_,_, .cons _ t=>KM (·+1) t.len
theorem fG.snoc(h:H a\(.tup [.int p.1, .int p.2])):∀{b:List (Int×Addr)}{c:List (Int×Int)},fG H b c->fG H (b++ [(bo p,a)]) (c++ [p])
 |_,_, .nil=> .cons h .nil
 |_,_, .cons h' t=> .cons h'^fG.snoc h t
section
variable {X:Cx} {pins:List (Addr×Obj)} {σ:St} {H:Hp} {s:Shared}
def Inv.qf{p:Int×Int}(I:Inv X pins σ H s)(h:H a\(.tup [.int p.1, .int p.2])):g6 (fD X.prog X.w) s.heap [p.1,p.2] a:=by
 rfl';obtain⟨c,r,⟨o,d,e,n,f⟩,_⟩:=I.tuple^fI.of h;obtain⟨i,j,rfl,⟨t,rfl⟩,⟨u,rfl⟩⟩:=Vals.two r;ac_rfl;exact#[o,_,n,d,e,f, .cons (by simp[fD,Value.isInt])^.cons (by simp[fD,Value.isInt]) .nil]
def Inv.lS(I:Inv X pins σ H s)(h:H a\(.ext^fY b a c)):fY b a c s.heap:=(I.hok a _ h).1
def n4(P:Program)(w:World)(p:Int×Int):tupleKeyHash (intKind P w) [p.1,p.2]=bo p:=rfl
def Inv.pes(I:Inv X pins σ H s)(g:fG H b f)(h:a.toList.Perm (b.map λe=>(e.1,Value.ref e.2))):OR X.prog X.w s.heap a:=λi e c=>by
 rfl';have k:e∈a.toList:=by rw[<-gm] at c;exact cL c
 let⟨d,l,rfl⟩:=cE.mp^h.mem_iff.mp k;let⟨p,j,m,n⟩:=g.mem d l;ac_rfl;exact#[[p.1,p.2],d.2,by rw[n4,m],I.qf n]
def Inv.pT{h:List (Int×Addr)}{j:List (Int×Int)}{b:Array (Int×b_)}(I:Inv X pins σ H s)(k:fG H h j)(l:b.toList.Perm (h.map λe=>(e.1,Value.ref e.2)))(p:Int×Int):
  (∃(i:Nat)(c:Addr),b[i]?\(f_ (fD X.prog X.w) [p.1,p.2], .ref c)/\g6 (fD X.prog X.w) s.heap [p.1,p.2] c)↔p∈j:=by
 constructor
 .rintro⟨i,c,d,f⟩
  have g:(f_ (fD X.prog X.w) [p.1,p.2],Value.ref c)∈b.toList:=by rw[<-gm] at d;exact cL d
  let⟨m,r,t⟩:=cE.mp^l.mem_iff.mp g;let⟨q,u,x,n⟩:=k.mem m r
  have:m.2=c:=by have:=(adw t).2;injection this
  rw[this] at n
  have:=(I.qf n).inj f
  simp at this
  have:q=p:=acY this.1 this.2
  rw[<-this];exact u
 .intro v
  let⟨a,d,f⟩:=k.Wz p v;have g:(bo p,Value.ref a)∈b.toList:=l.mem_iff.mpr^cE.mpr #[_,d,rfl];let⟨i,o⟩:=BF.mp g;rw[gm] at o;exact#[i,a,by rw[n4];exact o,I.qf f]
def NR(c:Gl X "set")(d:X.mg "set"=none):PE X (.Call (.Name "set" p) [] [] pos) (λf H Q=>∀q,H q=none->Q (.ref q)^upd H q^.ext^fY (gY X.w) q []):=by
 intro a s f H Q I h;refine W1^gS I c d (u:= .type "set") (by decide+kernel) ?_ ∅ ∅
 refine PyProof.Rows.callWith_type rfl^PyProof.Rows.evalArgs_nil3^Ec ?_;have g:=I.hok.fresh^bg _;exact#[.ref s.heap.objs.size,_,I.laid (t':=s.toks) (λb o e=>AC _ e) (bg _) (o:= .ext^fY (gY X.w) s.heap.objs.size [])^fY.ok #[_,_,_,_,GT _ rfl,oG.new X.w, .refl _],rfl,h _ g]
def abo(i:X.A.units+64<cLine)(I:Inv X pins σ H s)(j:H c\(.tup [.int p.1, .int p.2]))(k:H a\(.ext^fY (gY X.w) a e))(f:fG H e b)
  (h:∀d,Q (decide (p∈b)) {s with toks:=d}):e_ (ei X.prog X.w) X.A (contains (.ref a)^.ref c) Q E s:=by
 rfl';let⟨o,m,r,t,n,S,g⟩:=I.lS k;ac_rfl;refine vW i n S (I.pes f g) (I.qf j) λd=>?_
 have:PySem.pT X.prog X.w s.heap m [p.1,p.2]=decide (p∈b):=by
  classical
  unfold PySem.pT;exact ad0.mpr^I.pT f g p
 rw[this];exact h d
def Kb(f:X.A.units+64<cLine):OpR X (gj .NotIn) (λx y H Q=>∃c a b d p,x= .ref c/\y= .ref a/\H c\(.tup [.int p.1, .int p.2])/\H a\(.ext^fY (gY X.w) a b)/\fG H b d/\Q (.bl (!decide (p∈d))) H):=by
 intro e s n H x y v u Q I g i h;rfl';let⟨c,a,b,d,p,rfl,rfl,k,l,m,q⟩:=h;ac_rfl;cases g;cases i;exact a_ (abo f I k l m λr=>mo #[.bl _,H,I.tok _,rfl,q])
def Q1(hu:X.A.units+64<cLine):Td X "set.add" (λx k H Q=>∃l c d a p,x= .ref l/\k= [.ref c]/\H c\(.tup [.int p.1, .int p.2])/\H l\(.ext^fY (gY X.w) l d)/\fG H d a/\a.length<=300/\
  (p∈a->Q .aQ H)/\(p∉a->Q .aQ^upd H l^.ext^fY (gY X.w) l (d++ [(bo p,c)]))):=by
 intro m s σ H x k v us Q I C E h;rfl';let⟨l,c,d,a,p,rfl,rfl,J,n,g,hz,L,M⟩:=h;subst C;let⟨u,rfl,N⟩:=E.one;subst N;let⟨o,O,ep,t,q,S,f⟩:=I.lS n;have P:s.TypeIs (.ref l) "set":=#[o,q,S.ex.1];ac_rfl;refine acR F.slot_set_add P F.entry_set_add ?_^F.args_set_add_2 _ _;unfold Builtin.«set.add» Builtin.Frozenset.oneOther;simp only[List.isEmpty_nil,bind_assoc];unfold Builtin.Frozenset.addrOf setAdd;refine a_^mo ?_
 try dsimp only
 refine a_^mo ?_
 try dsimp only
 refine a_ ?_;refine KF ?_;have r:=I.qf J;refine a_^wpAny_pyHash_tuple ?_ r ?_
 .show X.A.units+1<cLine;lia
 have sz:O.size=a.length:=by
  have:=f.length_eq
  rw[c9,aG,g.len] at this;exact this
 refine FG (s:={s with toks:=s.toks+([p.1,p.2].length+1)}) (by show X.A.units+1<cLine;lia) q S (I.pes g f) r () (λR=>?_) λT h' y Y Z t' sb B S' xD=>?_
 .show e_ _ _ (ret Value.none) _ _ _
  exact mo #[_,rfl, .aQ,H,I.tok _,rfl,L^(I.pT g f p).mp R]
 .show e_ _ _ (ret Value.none) _ _ _
  have j:p∉a:=λz=>by
   let⟨i,c',h1,h2⟩:=(I.pT g f p).mpr z;exact T i _ h1 c' rfl h2
  have I':=I.write (h':=h') (t':=s.toks+([p.1,p.2].length+1)) (x:=l) (e:=l) (o:= .ext^fY (gY X.w) l (d++ [(bo p,c)])) (by rw[n];trivial) (.inl rfl) (λb u hb e=>sb.extBut b u hb e) #[y,B]^fY.ok #[y,Y,Z,t',B,S',by
   rw[b9];exact xD.trans^f.append_right _]
  exact mo #[_,rfl, .aQ,_,I',rfl,M j]
def ab3(b:Bool)(r:V->List V->Hp->VK->Prop)(d:TE)(t:TA):TE:=λa H Q=>d a H λx c=>(∃p e,x= .ref p/\c p\(.ext^fY b p e))/\t a c λf g=>r x f g Q
variable {o e:Expr} {es:List Expr} {to:TE} {t:TA} {name:Str} {apos aO:Pos} {id:String} {r:V->List V->Hp->VK->Prop}
theorem U3{b:Bool}(n:PlainAttrs "set")(slot:Slot "set" name id)(q:typeOf^.builtin id=pure^.type "method_descriptor")(u:Td X id r)(w:PE X o to)(y:PA X (e::d) t)
  (z:hT o name X.env^gi o X.env=gi o X.env<|>zn)
  (A:((gM f^d_ (e::d) X.env).all (λx=>!x.1)&&(js f^iq [] X.env).all (λx=>x.1.isSome)
   &&decide ((e::d).length+([]:List jp).length+(if ([]:List jp).isEmpty then 0 else 1)<30))=true<|>zn)
  (B:(apos.endLine==f.line)=true<|>zn) (C:d_ (e::d) X.env=(false,gi e X.env)::d_ d X.env<|>zn) (E:(gM f^d_ d X.env).any (·.1)=false<|>zn):
  PE X (.Call (.Attribute o name apos) (e::d) [] f)^ab3 b r to t:=by
 intro c s i H Q I h;refine afj z A B rfl (thn (w c s i H _ I h) λv F G=>?_);rfl';let⟨x,L,k,M,N,O⟩:=G;ac_rfl;rfl';let⟨p,nB,rfl,P⟩:=N;subst M;let⟨l,j,D,J,g,S,K⟩:=k.lS P;ac_rfl;refine#["set",id,n,slot,q,#[l,g,S.ex.1],λa R=>?_,?_]
 .cases R;exact#[l,g,S.ex.2.1]
 have m:=y f c F i L _ k O;rw[C] at m ⊢;refine adK (by show(false|| (gM f^d_ d X.env).any (·.1))=false;rw[E]<;>rfl)^Calls.evalArgs_plain ?_
 refine thn m λT Y hH=>?_;obtain⟨Z,H2,I2,r2,q2⟩:=hH;exact u c Y i H2 (.ref p) Z (.ref p) T Q I2 rfl r2 q2
end
def He(a:List (Int×Int))(p:Int×Int):List (Int×Int):=if p∈a then a else a++ [p]
section
variable {Z:DC} {X:Cx} {B:Bs} {md:List Nat} {rn:Nat} {ρ:DN} {σ:St} {H G:Hp} {fp:Nat->List Addr} {a e k o:Expr} {ta te tk tp:aX} {pos apos aO p2:Pos}
def AX(p:Int×Int):D:= .tup [.int p.1, .int p.2]
def Dv.AG(h:Dv Z G v^AX p):∃c,v= .ref c/\G c\(.tup [.int p.1, .int p.2]):=by
 rfl';let⟨c,l,rfl,b,f⟩:=Dv.xv h;let⟨m,n,rfl,g,i⟩:=f.nY;rw[g.ofInt,i.ofInt] at b;ac_rfl;exact#[c,rfl,b]
def aay(w:f5)(c:Bool):iU:=λa b P=>∃p d,a=AX p/\b= .x^.vw (gY w) d/\P^.bl^if c=true then !decide (p∈d) else decide (p∈d)
def J4(d:X.A.units+64<cLine):OpR X (gj .NotIn)^ck Z^aay X.w true:=by
 refine(Kb d).imp ?_;rintro x y H Q ⟨G,a,b,P,s,f,g,⟨p,i,rfl,rfl,h⟩,q⟩;let⟨c,rfl,j⟩:=f.AG;obtain⟨_,_,rfl,l,ok⟩:=g.iX;rfl';let⟨e,n,rfl,r⟩:=ok;ac_rfl;exact#[c,_,n,i,p,rfl,rfl,s _ _ j,s _ _ l,r.mono s,q _ h _ G H (.refl s)^.bl _]
def Tz(w:f5)(i:Nat):cJ:=λE b=>E.nx^b.set i^some^.x^.vw (gY w) []
def MU(i:Nat)(m:X.N.Nodup)(n:Gl X "set")(q:X.mg "set"=none)(r:s.getD i 0=98<|>zn)(t:X.N[i]?\x<|>zn)(u:Loc X.env.scope x<|>xz)(v:g_ (.Call (.Name "set" p) [] [] y) (some^.Name x d) pos.line X.env=pure false<|>zn)
  (A:X.fn x=true\/X.env.scope.names.lookup x\.local<|>xz):DSt Z X s L (.Assign [.Name x d] (.Call (.Name "set" p) [] [] y) pos)^Tz X.w i:=by
 refine(bU m t u (NR n q) v A).imp ?_;intro D O H C;rfl';obtain⟨B,Q,E,⟨G,R,S⟩,h,M⟩:=C;ac_rfl;intro c g;have I:G c=none:=S.ex.sub.free g;have x:Ext G H G^upd H c^.ext^fY (gY X.w) c []:=#[.refl _,S.ex.sub.trans^az g _,az g _,λ_ _ z=>z];refine M.nx _ h _ _ #[G,_,(S.grow x).L9 r (f:= [c]) (.inr^.inr #[c,_,rfl,af,rfl, .inr #[rfl,_,rfl,i8,[],rfl, .nil]]) (by simp) (λb l=>?_) λb l j _ J=>?_]
 .rw[eZ] at l;subst l
  exact#[S.ex.hh.free g,(by rw[af];exact λz=>nomatch z),I]
 .rw[eZ] at l;subst l
  exact(S.nw j _ J).2.1 g
def Xi(w:f5)(f:List Nat)(m:Bool)(i:Nat)(g:aX):cJ:=λE b=>∃c,b[i]?\(some^.x^.vw (gY w) c)/\g (FF f m b) λd=>∃p,d=AX p/\c.length<=300/\E.nx^b.set i^some^.x^.vw (gY w)^He c p
def Po(m:Bool)(i:Nat)(hu:X.A.units+64<cLine)(he:DE Z X e te)(s:md.getD i 0=98<|>zn)(hi:X.N[i]?\x<|>zn)(hv:rK X.env.scope x<|>xz)(t:(x==("__debug__":fA))=false<|>zm)(gK:(x==("__classdict__":fA))=false<|>zm)
  (f7:hT (.Name x g) "add" X.env^gi (.Name x g) X.env=gi (.Name x g) X.env<|>zn)
  (mG:((gM aO^d_ [e] X.env).all (λx=>!x.1)&&(js aO^iq [] X.env).all (λx=>x.1.isSome)&&decide (([e]:List gc).length+([]:List jp).length+(if ([]:List jp).isEmpty then 0 else 1)<30))=true<|>zn)
  (dZ:(apos.endLine==aO.line)=true<|>zn) (I:d_ [e] X.env=(false,gi e X.env)::d_ [] X.env<|>zn) (gz:(gM aO^d_ [] X.env).any (·.1)=false<|>zn)
  (tD:g_ (.Call (.Attribute (.Name x g) "add" apos) [e] [] aO) none pos.line X.env=pure false<|>zn):
  DSt Z X md rn (.Expr (.Call (.Attribute (.Name x g) "add" apos) [e] [] aO) pos)^Xi X.w md m i te:=by
 refine(c7 (U3 (b:=gY X.w) PySem.F.plainAttrs_set PySem.F.slot_set_add PySem.F.type_set_add (Q1 hu) (pv i hi hv t gK) (ao he aA I) f7 mG dZ I gz) tD).imp ?_;intro D σ H aM;rfl';obtain⟨B,J,E,⟨G,L,S⟩,⟨O,n,h⟩,M⟩:=aM;ac_rfl;rfl';let⟨v0,y,P⟩:=S.at_ i _ n;rw[s] at P;let⟨l,φ,rfl,hl,f,nd,es,rfl,pe⟩:=P.xA;ac_rfl;refine#[_,y,#[l,_,rfl,hl],S.ev m h λd t=>?_];let⟨p,rfl,hz,q⟩:=t;refine#[by cases m<;>trivial,λv Q H' C x dv=>?_]
 rfl';let⟨c,rfl,R⟩:=dv.AG;let⟨v1,T,Y⟩:=C.at_ i _ n;rw[y] at T;ac_rfl;cases Do T;rfl';rw[s] at Y;let⟨l',φ',e',Cc,k,Cp,nB,rfl,o⟩:=Y.xA;cases e';ac_rfl;refine#[l,c,nB,O,p,rfl,rfl,x.sub _ _ R,Cc,o.mono x.sub,hz,λr=>?_,λr=>?_]
 .rw[He,ir r] at q
  refine M.nx _ q _ _ #[Q,L,?_]
  have e:J.set i^some^.x^.vw (gY X.w) O=J:=by
   refine qI λj=>?_
   by_cases z:i=j
   .subst z
    have bZ:=(cR.mp n).1;rw[lV bZ,n]
   .rw[i5 z]
  rw[e];exact C
 .rw[He,tz r] at q
  refine M.nx _ q _ _ #[Q,L,C.mut y (b:=l) (by rw[k];simp) ?_]
  rw[s,k];refine .inr^.inr #[l,_,rfl,af,rfl, .inr #[rfl,_,rfl,?_,_,rfl,o.snoc R]];rw[i7];refine#[Cp,by simp,λa ha b hb z=>r ?_]
  rw[eZ] at hb;rw[<-hb,<-z];exact ha
end
section
variable {Z:DC} {X:Cx}
def OW:di:=λa P=>∃L:List^List Nat,a= [.lst^L.map aB]/\L.length<=1000/\∀M:List^List Nat,M.Perm L->M.Pairwise p8->P^.lst^M.map aB
def TN(h:Dv Z G v^aB r):∃a,v= .ref a/\G a\(.lst^(jY r).map V.int):=by
 let⟨a,d,rfl,b,c⟩:=Dv.iG h
 have:d=(jY r).map V.int:=by
  have e:r.map ax=(jY r).map D.int:=by unfold jY;rw[cC];rfl
  rw[e] at c;exact pN c
 rw[this] at b;exact#[a,rfl,b]
def Vn(h:G a\(.lst^(jY r).map V.int)):Dv Z G (.ref a)^aB r:=by
 have e:aB r= .lst^(jY r).map D.int:=by unfold aB jY;rw[cC];rfl
 rw[e];exact .lst h^.ints _
theorem CL:∀{b:List V}{L:List^List Nat},DvAll Z G b^L.map aB->∃A:List (Addr×List Nat),b=A.map (λe=>V.ref e.1)/\A.map (·.2)=L/\Iz G A
 |b,[],h=>#[[],h.Zn,rfl,λp c=>by cases c]
 |b,r::L,h=>by
  obtain⟨_,_,rfl,a,f⟩:=h.E6;obtain⟨A,rfl,rfl,j⟩:=CL f;obtain⟨p,rfl,c⟩:=TN a;refine#[(p,r)::A,rfl,rfl,λq d=>?_]
  rcases cQ.mp d with rfl|d
  .exact c
  .exact j q d
theorem Iz.dv:∀{L:List (Addr×List Nat)},Iz G L->DvAll Z G (L.map λe=>V.ref e.1)^(L.map (·.2)).map aB
 | [],_=> .nil
 |x::L,h=> .cons (Vn^h x (dH ..)) (Iz.dv λp a=>h p^fq _ a)
def IJ(i:X.A.units+64<cLine):dX X (.builtin "sorted")^kR Z OW:=by
 refine(zL i).imp ?_;rintro r H Q ⟨G,j,P,s,dv,⟨c,rfl,t,b⟩,q⟩;obtain⟨_,rfl,a⟩:=dv.ofOne;obtain⟨p,_,rfl,h,e⟩:=a.iG
 obtain⟨L,rfl,d,f⟩:=CL e
 have v:L.length=c.length:=by rw[<-d];simp
 refine#[_,L,rfl,aL.of^s _ _ h,λp b=>s _ _^f p b,(),λp M g m1 l=>?_]
 have m:(M.map (·.2)).Perm c:=by rw[<-d];exact m1.map _
 have n:Iz (upd G p^.lst (M.map λe=>V.ref e.1)) M:=λx o=>az (s.free g) _ _ _^f x^m1.mem_iff.mp o;exact q _ (b _ m l) _ _ _ (.new s g)^.lst af n.dv
end
section
variable {Z:DC} {X:Cx} {md:List Nat} {rn:Nat} {a b:Expr} {pos:Pos} {ta:gn}
def aaE(d:List Nat)(i j:Nat)(e:gn):cJ:=λE c=>e (cy d c) λf=>∃a b,f= [a,b]/\E.nx^(c.set i^some a).set j^some b
def Lp(i j:Nat){kt k2 Kg}(d:X.calm=true)(e:X.N.Nodup)(f:DA Z X [a,b] ta)(g:X.N[i]?\x<|>zn)(k:X.N[j]?\y<|>zn)(l:i≠j<|>zm)(m:md.getD i 0=0<|>zn)(n:md.getD j 0=0<|>zn)
  (o:X.env.scope.names.lookup x\.local<|>zn) (p:X.env.scope.names.lookup y\.local<|>zn)
  (hw:ln [.Tuple [.Name x c, .Name y py] kt pt] (.Tuple [a,b] k2 Kg) X.env=pure^some [x,y]<|>zn)
  (q:li [.Tuple [.Name x c, .Name y py] kt pt] (.Tuple [a,b] k2 Kg) pos.line X.env=pure false<|>zn):
  DSt Z X md rn (.Assign [.Tuple [.Name x c, .Name y py] kt pt] (.Tuple [a,b] k2 Kg) pos)^aaE md i j ta:=by
 refine(Vg d e g k l o p f hw q).imp ?_;intro D I H r;rfl';obtain⟨B,t,E,⟨G,L,S⟩,h,M⟩:=r;ac_rfl;exists G,cy md t,_,S.ex.sub,S.yc,h;rintro _ ⟨a,b,rfl,w⟩ O z P x A;let⟨v,u,rfl,C,F⟩:=A.nY;exact#[v,u,rfl,M.nx _ w _ _ #[z,_,((S.grow x).lS m C).lS n F]]
end
def bb.ok{P:fw}{w:f5}{H:Hp}{a:Addr}{vs:List FV}(x:bb a c vs h):cK P w H h a^.ext^bb a c vs:=by
 refine#[x,let #[_,o,_,_,b,_]:=x;#[o,b],λf g p k=>?_];obtain⟨z,o,d,e,b,r⟩:=p;exact#[z,o,d,e,k o b,r]
inductive lY (H:Hp):List (Int×Addr)->List (Int×Int)->List FV->List (List Int×Addr×Value)->Prop
 |nil:lY H [] [] [] []
 |cons {a:Addr} {p:Int×Int} {v:FV} {u:Value} {es:List (Int×Addr)} {ks:List (Int×Int)} {vs:List FV} {xs:List (List Int×Addr×Value)}:H a\(.tup [.int p.1, .int p.2])->Mx v u->lY H es ks vs xs->lY H ((bo p,a)::es) (p::ks) (v::vs) (([p.1,p.2],a,u)::xs)
theorem lY.keys:∀{c:List (Int×Addr)}{a:List (Int×Int)}{d:List FV}{b:List (List Int×Addr×Value)},lY H c a d b->b.map (·.1)=a.map λp=> [p.1,p.2]
 |_,_,_,_, .nil=>rfl
 |_,_,_,_, .cons _ _ t=>by rw[cH,cH,t.keys]
theorem lY.len:∀{b:List (Int×Addr)}{a:List (Int×Int)}{c:List FV}{xs:List (List Int×Addr×Value)},lY H b a c xs->xs.length=a.length
 |_,_,_,_, .nil=>rfl
 |_,_,_,_, .cons _ _ t=>KM (·+1) t.len
theorem lY.snoc(b:H a\(.tup [.int p.1, .int p.2]))(h:Mx v u):∀{c:List (Int×Addr)}{d:List (Int×Int)}{e:List FV}{f:List (List Int×Addr×b_)},lY H c d e f->lY H (c++ [(bo p,a)]) (d++ [p]) (e++ [v]) (f++ [([p.1,p.2],a,u)])
 |_,_,_,_, .nil=> .cons b h .nil
 |_,_,_,_, .cons k' g t=> .cons k' g^lY.snoc b h t
def yb(P:fw)(w:f5)(p:Int×Int)(a:Addr)(u:b_):n7 (iB^fD P w) ([p.1,p.2],a,u)=#[bo p, .ref a,u]:=by
 unfold n7;rw[show(iB^fD P w).hash [p.1,p.2]=bo p from n4 P w p]
def XS(d:Ms l b g):∀{c:List (Int×Int)},fG H b c->∃f,lY H b c g f/\∀(P:fw)(w:f5),l=f.map^n7^iB^fD P w:=by
 induction d with
 |nil=>intro c i;cases i;exact#[[], .nil,λ_ _=>rfl]
 | @cons e l h a v b g j k m d n=>
  intro c i;cases i with
  | @cons _ p _ r h t=>
   let⟨f,o,q⟩:=n t;refine#[([p.1,p.2],a,e.val)::f, .cons h m o,λP w=>?_];rw[cH,<-q P w,yb];let⟨s,u,ev⟩:=e;simp only at j k ⊢;rw[j,k]
def Ja{e:List (Int×Int)}(d:lY H a e b c):Ms (c.map^n7^iB^fD P w) a b:=by
 induction d with
 |nil=>exact .nil
 |cons _ h t f=>
  rw[cH,yb];exact .cons rfl rfl h f
def lY.isKey(I:Inv X a e H s)(d:lY H f g i c):∀x∈c,IsTupleKey (intKind X.prog X.w) s.heap x.1 x.2.1:=by
 induction d with
 |nil=>intro x b;cases b
 |cons h _ _ j=>
  intro x b
  rcases cQ.mp b with rfl|b
  .exact I.qf h
  .exact j x b
def jF{K:Type} [DecidableEq K] {b:List (K×Addr×Value)} {k:K}:(atKey b k).isSome=true↔k∈b.map (·.1):=by
 unfold atKey;rw[Option.isSome_map,List.find?_isSome,cE]
 constructor
 .rintro⟨x,a,e⟩;exact#[x,a,IR e]
 .rintro⟨x,a,e⟩;exact#[x,a,FM e]
def mS{p:Int×Int}{a:List (Int×Int)}: [p.1,p.2]∈a.map (λp=> [p.1,p.2])↔p∈a:=by
 rw[cE]
 constructor
 .rintro⟨q,b,e⟩
  simp at e;rw[<-show q=p from acY e.1 e.2];exact b
 .intro h;exact#[p,h,rfl]
def Hz{c:List (Int×Int)}(h:c.Nodup):(c.map λp=> [p.1,p.2]).Nodup:=by
 rw[Iy,iR];rw[Iy] at h;exact h.imp λ {a b} n e=>n^by simp at e;exact acY e.1 e.2
section
variable {X:Cx} {pins:List (Addr×Obj)} {σ:St} {H:Hp} {s:Shared}
def Inv.Pm(I:Inv X pins σ H s)(h:H a\(.ext^bb a b e))(f:fG H b c)(g:c.Nodup):
  (a==jk)=false/\∃xs,lY H b c e xs/\s.heap.DictOfH (iB^fD X.prog X.w) a xs:=by
 rfl';let⟨z,o,j,k,l,m,n,p⟩:=(I.hok a _ h).1;let⟨xs,d,q⟩:=XS p f;ac_rfl;exact#[z,xs,d,o,j,k,l,m,n,q _ _,d.isKey I,by rw[d.keys];exact Hz g]
def Ru:PE X (.Dict [] [] pos) (λc H Q=>∀q,H q=none->Q (.ref q)^upd H q^.ext^bb q [] []):=by
 intro b s c H Q I h;have d:=I.hok.fresh^bg s.heap.objs.size;refine wpAny_Dict_empty #[.ref s.heap.objs.size,_,I.laid (a:=s.heap.objs.size) (t':=s.toks) (λ_ _ q=>AC _ q) (bg _) (o:= .ext^bb s.heap.objs.size [] [])^bb.ok #[?_,_, #[],0,GT _ rfl,#[rfl,rfl,rfl],rfl, .nil],rfl,h _ d];have e:gt<s.heap.objs.size:=(I.mod.glob.keeps I.bk).lt;have f:jk<s.heap.objs.size:=afD ∅ e
 exact UV.mpr^Ne.symm^bS f
def Hy(F:X.A.units+64<cLine):OpR X (gj .NotIn) (λx y H Q=>∃c a d b g p,x= .ref c/\y= .ref a/\H c\(.tup [.int p.1, .int p.2])/\H a\(.ext^bb a d g)/\fG H d b/\b.Nodup/\Q (.bl (!decide (p∈b))) H):=by
 intro i s G H x y v u Q I l m h;rfl';let⟨c,a,d,b,g,p,rfl,rfl,o,r,t,B,q⟩:=h;ac_rfl;cases l;cases m;rfl';let⟨z,C,j,E⟩:=I.Pm r t B;ac_rfl
 have:(ow C [p.1,p.2]).isSome=decide (p∈b):=by
  by_cases e:p∈b
  .rw[FM e];exact jF.mpr^by rw[j.keys];exact mS.mpr e
  .rw[GE e]
   apply BQ.mpr;exact λz=>e^mS.mp^by rw[<-j.keys];exact jF.mp z
 exact PyProof.Rows.wpAny_notIn_heap (knd:=iB^fD X.prog X.w) (k:= [p.1,p.2]) (by show X.A.units+1<cLine;lia) (I.qf o) z E^by rw[this];exact#[.bl _,H,I.tok _,rfl,q]
def vF:FV->V
 | .int i=> .int i
 | .bl b=> .bl b
def Es(h:RelV (vF f) u):Mx f u:=by
 cases f with
 |int i=>exact h
 |bl b=>exact h
variable {o i value:Expr} {td ti tv:TE} {pos pos':Pos}
def ZZ(h j k:TE):TS:=λD b H=>k b H λv l=>h b l λx m=>j b m λy d=>∃a c f e g p fv,x= .ref a/\y= .ref c/\v=vF fv/\d a\(.ext^bb a f g)/\d c\(.tup [.int p.1, .int p.2])/\fG d f e/\e.Nodup/\p∉e/\e.length<=300/\D.nx b^upd d a^.ext^bb a (f++ [(bo p,c)]) (g++ [fv])
def RH(hu:X.A.units+64<cLine)(G:PE X o td)(J:PE X i ti)(L:PE X value tv)(M:g_ value (some^.Subscript o i pos') pos.line X.env=pure false<|>zn):PS X (.Assign [.Subscript o i pos'] value pos)^ZZ td ti tv:=by
 intro d s f H D I h;refine wpAny_Assign_Subscript (thn (L d s f H _ I h) λr N hH=>?_) M;obtain⟨v,O,P,Q,R⟩:=hH;refine thn (G d N f O _ P R) λu S hH=>?_;obtain⟨x,T,Y,Z,q2⟩:=hH;refine thn (J d S f T _ Y q2) λiv s3 hH=>?_;obtain⟨y,H3,g,ry,a,c,m,ks,n,p,fv,e1,e2,e3,t,B,pe,nd,np,hz,q3⟩:=hH;subst e1 e2 e3;cases Z;cases ry;let⟨z,j,l,hm⟩:=g.Pm t pe nd;refine wpAny_setItem_heap (knd:=iB^fD X.prog X.w) (k:= [p.1,p.2]) (by show X.A.units+1<cLine;lia) (g.qf B) hm (λh' C sb=>?_)^small^by rw[l.len];lia
 have na:ow j [p.1,p.2]=none:=by
  cases e:ow j [p.1,p.2] with
  |none=>rfl
  |some q=>exact absurd (mS.mp^by rw[<-l.keys];exact jF.mp^by rw[e];rfl) np
 rw[storedH_new na] at C;rfl';have x2:lY H3 (m++ [(bo p,c)]) (ks++ [p]) (n++ [fv]) (j++ [([p.1,p.2],c,r)]):=l.snoc B^Es Q;let⟨E,PB,wO,F,pZ,gx,tu,K,U⟩:=C;have I':=g.write (h':=h') (t':=s3.toks+(iB^fD X.prog X.w).draws [p.1,p.2]) (x:=a) (e:=a) (o:= .ext^bb a (m++ [(bo p,c)]) (n++ [fv])) (by rw[t];trivial) (.inl rfl) (λb u hb e=>sb.extBut b u hb e) #[E,F]^bb.ok #[z,E,PB,wO,F,pZ,gx,by rw[tu];exact Ja x2]
 ac_rfl;exact#[f,_,I',q3]
end
section
variable {Z:DC} {X:Cx} {B:Bs} {md:List Nat} {rn:Nat} {ρ:DN} {σ:St} {H G:Hp} {fp:Nat->List Addr} {a e k o:Expr} {ta te tk tp:aX} {pos apos aO p2:Pos}
def aax(c:Bool):iU:=λa b P=>∃p d f,a=AX p/\b= .x^.dj d f/\P^.bl^if c=true then !decide (p∈d) else decide (p∈d)
def J3(d:X.A.units+64<cLine):OpR X (gj .NotIn)^ck Z^aax true:=by
 refine(Hy d).imp ?_;rintro x y H Q ⟨G,a,b,P,s,f,g,⟨p,i,j,rfl,rfl,h⟩,q⟩;let⟨c,rfl,l⟩:=f.AG;obtain⟨_,_,rfl,m,ok⟩:=g.iX;rfl';let⟨r,t,rfl,u⟩:=ok;ac_rfl;exact#[c,_,t,i,j,p,rfl,rfl,s _ _ l,s _ _ m,u.mono s,r,q _ h _ G H (.refl s)^.bl _]
def Xk(i:Nat):cJ:=λE b=>E.nx^b.set i^some^.x^.dj [] []
def GA(i:Nat)(m:X.N.Nodup)(n:p.getD i 0=98<|>zn)(q:X.N[i]?\x<|>zn)(r:Loc X.env.scope x<|>xz)(s:g_ (.Dict [] [] t) (some^.Name x d) pos.line X.env=pure false<|>zn)
  (u:X.fn x=true\/X.env.scope.names.lookup x\.local<|>xz):DSt Z X p C (.Assign [.Name x d] (.Dict [] [] t) pos)^Xk i:=by
 refine(bU m q r Ru s u).imp ?_;intro D F H v;rfl';obtain⟨B,J,E,⟨G,L,S⟩,h,M⟩:=v;ac_rfl;intro c g;have y:G c=none:=S.ex.sub.free g;have x:Ext G H G^upd H c^.ext^bb c [] []:=#[.refl _,S.ex.sub.trans^az g _,az g _,λ_ _ z=>z];refine M.nx _ h _ _ #[G,_,(S.grow x).L9 n (f:= [c]) (.inr^.inr #[c,_,rfl,af,rfl, .inr #[rfl,_,rfl,i8,[],rfl, .nil]]) (by simp) (λb l=>?_) λb l j _ A=>?_]
 .rw[eZ] at l;subst l
  exact#[S.ex.hh.free g,(by rw[af];exact λz=>nomatch z),y]
 .rw[eZ] at l;subst l
  exact(S.nw j _ A).2.1 g
def Je:FV->D
 | .int i=> .int i
 | .bl b=> .bl b
def Dv.Ra(h:Dv Z G v^Je f):v=vF f:=by
 cases f with
 |int i=>exact h.ofInt
 |bl b=>exact h.AF
def Xy(f:List Nat)(i:Nat)(h j:aX):cJ:=λE b=>j (cy f b) λd=>∃fv c g,d=Je fv/\b[i]?\(some^.x^.dj c g)/\h (cy f b) λl=>∃p,l=AX p/\p∉c/\c.length<=300/\E.nx^b.set i^some^.x^.dj (c++ [p]) (g++ [fv])
def GB(i:Nat)(T:X.A.units+64<cLine)(Y:DE Z X k tk)(o:DE Z X e te)(m:md.getD i 0=98<|>zn)(hi:X.N[i]?\x<|>zn)(hv:rK X.env.scope x<|>xz)(n:(x==("__debug__":fA))=false<|>zm)(gK:(x==("__classdict__":fA))=false<|>zm)
  (hs:g_ e (some^.Subscript (.Name x r) k g) pos.line X.env=pure false<|>zn):DSt Z X md rn (.Assign [.Subscript (.Name x r) k g] e pos)^Xy md i tk te:=by
 refine(RH T (pv i hi hv n gK) Y o hs).imp ?_;intro D σ H aM;rfl';obtain⟨B,ρ,E,⟨G,fp,S⟩,h,M⟩:=aM;ac_rfl;refine S.ev false h λd n=>#[trivial,λv G1 H1 s x1 dv=>?_];rfl';let⟨fv,ks,vs,rfl,t,h2⟩:=n;ac_rfl;obtain rfl:=dv.Ra;rfl';let⟨v0,q,w⟩:=s.at_ i _ t;rw[m] at w;let⟨l,φ,rfl,hl,f,nd,es,rfl,pe⟩:=w.xA;ac_rfl;refine#[_,q,s.ev false h2 λkd Uh=>#[trivial,λu G2 H2 y C du=>?_]];rfl';let⟨p,rfl,F,hz,hn⟩:=Uh;let⟨c,rfl,I⟩:=du.AG;let⟨v1,J,L⟩:=y.at_ i _ t;rw[q] at J;ac_rfl;cases Do J;rfl';rw[m] at L;let⟨l',φ',e',Cc,O,P,nB,rfl,Q⟩:=L.xA;cases e';ac_rfl;refine#[l,c,nB,ks,vs,p,fv,rfl,rfl,rfl,Cc,C.sub _ _ I,Q.mono C.sub,P,F,hz,M.nx _ hn _ _ #[G2,fp,y.mut q (b:=l) (by rw[O];simp) ?_]]
 rw[m,O];refine .inr^.inr #[l,_,rfl,af,rfl, .inr #[rfl,_,rfl,?_,_,rfl,Q.snoc I]];rw[i7];refine#[P,by simp,λa ha b R z=>F ?_]
 rw[eZ] at R;rw[<-R,<-z];exact ha
end
section
variable {Z:DC} {X:Cx} {B:Bs} {md:List Nat} {rn:Nat} {ρ:DN} {σ:St} {H G:Hp} {fp:Nat->List Addr} {k c e k1 k2 et:Expr} {tk te tt Ou VN:aX} {tc:dq} {pos:Pos}
variable {elt tg iter:gc} {ifs:List gc} {scope:Scope} {NC:List fA} {src:List^Option Nat} {tt':dq} {wi:jS} {g:eV}
def JV(s:md.getD i 0=1)(S:SIx Z B md ρ σ H G fp)(h:t ρ λd=>d.all f6=true/\E.nx^ρ.set i^some^.lst d)(M:Meets Z X B md rn E n):EW Z 1 t σ H λv p=>n.nx (σ.set i^some v) p:=by
 exists H,ρ,_, .refl _,S.PF,h;rintro d ⟨u,w⟩ v f J p x o L q;have y:=S.grow^Ext.all S.ex.sub x;let⟨a,z,N,O,rfl,A,C,r,F⟩:=o.lst;cases A;let⟨dv,rfl⟩:=F.flat;have l:H a=none:=(q a^by rw[r];simp).1
 refine M.nx _ w _ _ #[G,_,y.L9 (f:= [a]) s (.inl #[a,z,d,[],rfl,rfl,C,rfl,(dv.flat u).own]) (by simp) (λb m=>?_) λb m j _ I=>?_]
 .have:b=a:=by simpa using m
  subst this;exact#[S.ex.hh.free l,(q b^by rw[r];simp).2.1,S.ex.sub.free l]
 .have:b=a:=by simpa using m
  subst this;exact(S.nw j b I).2.1 l
def IY(i:Nat)(f:X.calm=true)(j:X.N.Nodup)(c:bC X scope)(l:dA scope X.N src NC)(m:DI Z X tg iter wi)
  (n:∀a s H,DG Z (bH X scope NC a s H) tg g) (o:∀a s H,BV Z (bH X scope NC a s H) ifs tt') (p:∀a s H,DE Z (bH X scope NC a s H) elt te)
  (q:g_ (.ListComp elt [#[tg,iter,ifs,0]] scope pos) (some^.Name x b) d.line X.env=pure true<|>zn) (r:md.getD i 0=1<|>zn) (t:X.N[i]?\x<|>zn) (u:Loc X.env.scope x<|>xz)
  (v:X.fn x=true\/X.env.scope.names.lookup x\.local<|>xz)
  (w:(∀x,f8 iter X.env x=pure x)<|>xx):DSt Z X md rn (.Assign [.Name x b] (.ListComp elt [#[tg,iter,ifs,0]] scope pos) d)^Xt i^XZ wi g tt' te src:=by
 refine(kE f j t u c l m n o p q v w).imp ?_;intro C y H z;rfl';obtain⟨B,I,E,⟨G,J,S⟩,h,M⟩:=z;ac_rfl;exact Ho y H _^JV r S h M
end
end L2
namespace Wb
def gO(w:W)(d:Nat×Nat)(r:List (Nat×Nat)):Prop:=∃k,0<k/\dD w k d=d/\(∀j,0<j->j<k->dD w j d≠d)/\r=walk w d k
def mO:e∈walk w d k↔∃i,i<k/\e=dD w i d:=by
 unfold walk;rw[cE]
 constructor
 .rintro⟨i,a,rfl⟩;exact#[i,i9.mp a,rfl]
 .rintro⟨i,a,rfl⟩;exact#[i,i9.mpr a,rfl]
def gO.first(h:gO w d r):d∈r:=by
 obtain⟨k,a,_,_,rfl⟩:=h;exact mO.mpr #[0,a,rfl]
def gO.next(h:gO w d r)(a:e∈r):qa w e∈r:=by
 obtain⟨k,b,f,_,rfl⟩:=h;obtain⟨i,g,rfl⟩:=mO.mp a
 by_cases c:i+1<k
 .exact mO.mpr #[i+1,c,rfl]
 .have:i+1=k:=()
  refine mO.mpr #[0,b,?_];show dD w (i+1) d=d;rw[this];exact f
theorem gO.iter(h:gO w d r)(a:e∈r):∀n,dD w n e∈r
 |0=>a
 |n+1=>h.next^h.iter a n
def gO.back(h:gO w d r)(a:e∈r):∃n,dD w n e=d:=by
 obtain⟨k,c,b,_,rfl⟩:=h;obtain⟨i,f,rfl⟩:=mO.mp a;exists k-i;rw[<-Ak i (k-i),show k-i+i=k by lia]
 exact b
def gO.nodup(g:Good w)(h:gO w d r)(a:aR w d):r.Nodup:=by
 obtain⟨k,c,e,b,rfl⟩:=h;exact qD g a b
def gO.ba(g:Good w)(h:gO w d r)(a:aR w d):∀e∈r,aR w e:=by
 obtain⟨k,b,c,f,rfl⟩:=h;exact oz g a
structure Wk (w:W) (ds:List (Nat×Nat)) (i:Nat) (rs:List^List (Nat×Nat)):Prop where
 rnd:∀r∈rs,∃d,gO w d r/\aR w d/\∀e∈r,lexLe d e
 nod:rs.flatten.Nodup
 met:∀j e,j<i->ds[j]?\e->e∈rs.flatten
def Wk.zero(w:W)(a:List (Nat×Nat)):Wk w a 0 []:=#[(λr h=>by cases h),i8,(λj e h=>by lia)]
def Wk.skip(h:Wk w a i b)(g:a[i]?\d)(k:d∈b.flatten):Wk w a (i+1) b:=
 #[h.rnd,h.nod,λj e l f=>by
  by_cases c:j=i
  .subst c;rw[g] at f;cases f;exact k
  .exact h.met j e () f]
def Wk.take(g:Good w){k:List (Nat×Nat)}(all:∀e,aR w e->e∈k)(dart:∀e∈k,aR w e)(srt:k.Pairwise lexLe){i:Nat}{o:List^List (Nat×Nat)}(h:Wk w k i o)(p:k[i]?\d)(u:d∉o.flatten)(l:gO w d r):Wk w k (i+1) (o++ [r]):=by
 have s:aR w d:=dart d^cL p
 have off:∀e∈r,e∉o.flatten:=λe f v=>by
  let⟨q,t,x⟩:=k9.mp v;let⟨L,y,D,K⟩:=h.rnd q t;let⟨n,A⟩:=l.back f;exact u^k9.mpr #[q,t,by rw[<-A];exact y.iter x n]
 refine#[λq B=>?_,?_,λj e m f=>?_]
 .rcases cP.mp B with z|z
  .exact h.rnd q z
  .rw[eZ.mp z]
   refine#[d,l,s,λe f=>?_];let⟨j,m⟩:=i6^all e^l.ba g s e f
   by_cases c:j<i
   .exact absurd (h.met j e c m)^off e f
   .by_cases C:j=i
    .subst C;rw[p] at m;cases m
     exact .inr #[rfl,bg _]
    .obtain⟨E,F⟩:=cR.mp p
     let⟨G,H⟩:=cR.mp m;rw[<-F,<-H];exact BJ.mp srt i j E G ()
 .rw[we,i7]
  refine#[h.nod,by simpa using l.nodup g s,λa I b J e=>?_]
  subst e;exact off a (~~~J) I
 .rw[we,cP]
  by_cases c:j=i
  .subst c;rw[p] at f;cases f
   exact .inr^~~~l.first
  .exact .inl^h.met j e () f
def Wk.fin(g:Good w)(all:∀e,aR w e->e∈a)(h:Wk w a a.length b):b.flatten.Perm^ba w:=by
 have sub:∀e,e∈b.flatten↔e∈ba w:=λe=>by
  rw[bh]
  constructor
  .intro c
   let⟨r,i,k⟩:=k9.mp c;let⟨d,R,l,m⟩:=h.rnd r i;exact R.ba g l e k
  .intro c
   let⟨j,f⟩:=i6^all e c;exact h.met j e (cR.mp f).1 f
 exact(yB h.nod^dN g).mpr sub
structure cg (w:W) (rs:List^List (Nat×Nat)):Prop where
 rnd:∀r∈rs,∃d,gO w d r/\aR w d/\∀e∈r,lexLe d e
 perm:rs.flatten.Perm^ba w
def cg.Rc(R:cg w a)(p:b.Perm a):cg w b:=
 #[λr c=>R.rnd r^p.mem_iff.mp c,(p.flatten).trans R.perm]
def kM(g:Good w)(h:aR w d):d.1≠d.2:=λe=>g.irr d.1^by have:d.2∈row w d.1:=h;rw[<-e] at this;exact this
def IG{w:W}(g:Good w){f:List (Nat×Nat)}(l:f.Perm^cM (row w) w.length):(f++f.map λt=>(t.2,t.1)).Perm^ba w:=by
 have e:=eB w;have n:=dN g
 have m:∀t,t∈f↔aR w t/\t.1<t.2:=λt=>by
  rw[l.mem_iff,e,m7,bh,decide_eq_true_eq]
 have i:f.Nodup:=l.nodup_iff.mpr^by rw[e];exact n.filter _
 refine(yB ?_ n).mpr λd=>?_
 .rw[i7]
  refine#[i,?_,λa o b p z=>?_]
  .rw[Iy,iR]
   rw[Iy] at i;exact i.imp λ {a b} h z=>h^acY (adw z).2 (adw z).1
  .obtain⟨c,j,rfl⟩:=cE.mp p
   have k:=((m a).mp o).2;have q:=((m c).mp j).2;rw[z] at k;have k:c.2<c.1:=k;lia
 .rw[cP,cE,bh]
  constructor
  .rintro(h| ⟨c,j,rfl⟩)
   .exact((m d).mp h).1
   .exact g.sym _ _ ((m c).mp j).1
  .intro h
   rcases Nat.lt_or_gt_of_ne^kM g h with c|c
   .exact .inl^(m d).mpr #[h,c]
   .exact .inr #[(d.2,d.1),(m _).mpr #[g.sym _ _ h,c],rfl]
def gO.uniq(h:gO w d r)(b:gO w d a):r=a:=by
 let⟨k,e,f,g,rfl⟩:=h;let⟨m,i,j,l,rfl⟩:=b
 rcases Nat.lt_trichotomy k m with c|c|c
 .exact absurd f^l k e c
 .rw[c]
 .exact absurd j^g m i c
def cg.sub{f b:List^List (Nat×Nat)}(R:cg w f)(g:cg w b):∀r∈f,r∈b:=λr j=>by
 let⟨d,c,k,l⟩:=R.rnd r j;have m:d∈b.flatten:=g.perm.mem_iff.mpr^bh.mpr k;let⟨o,h,a⟩:=k9.mp m;let⟨p,i,u,q⟩:=g.rnd o h;let⟨n,s⟩:=i.back a;have t:lexLe d p:=by rw[<-s];exact l _^c.iter c.first n
 have e:=mL t^q d a;subst e;rw[c.uniq i];exact h
def cg.ne{w:W}{a:List^List (Nat×Nat)}(R:cg w a):∀r∈a,r≠ []:=λr b z=>by
 let⟨d,c,e⟩:=R.rnd r b
 have:=c.first
 rw[z] at this;cases this
theorem ye:∀{l:List^List c},l.flatten.Nodup->(∀r∈l,r≠ [])->l.Nodup
 | [],_,_=>i8
 |a::l,h,b=>by
  rw[yE,i7] at h;refine wk.mpr #[λd=>?_,ye h.2.1 λr e=>b r^fq _ e];cases a with
  |nil=>exact b [] (dH ..) rfl
  |cons x a=>exact h.2.2 x (dH ..) x (k9.mpr #[_,d,dH ..]) rfl
def cg.nodup(g:Good w)(R:cg w a):a.Nodup:=ye (R.perm.nodup_iff.mpr^dN g) R.ne
abbrev iD(a:List^List (Nat×Nat)):List^List Nat:=a.map λr=>r.map (·.1)
def JS(h:L2.p8 a b)(c:L2.p8 b a):a=b:=by
 have:=L2.uS (L2.jY a) (L2.jY b) c h
 exact L2.Ie^by rw[this]
def cg.uniq(g:Good w)(R:cg w a)(c:cg w b)(s:(iD a).Pairwise L2.p8)(d:(iD b).Pairwise L2.p8):iD a=iD b:=by
 have e:a.Perm b:=(yB (R.nodup g)^c.nodup g).mpr λr=>#[R.sub c r,c.sub R r];exact ac3 (λ_ _ _ _=>JS) s d^e.map _
open Classical in
def w9(w:W):List (List Nat):=if h:∃rs,cg w rs/\(iD rs).Pairwise L2.p8 then iD h.choose else[]
def C8(g:Good w)(R:cg w a)(s:(iD a).Pairwise L2.p8):w9 w=iD a:=by
 have h:∃a,cg w a/\(iD a).Pairwise L2.p8:=#[a,R,s];unfold w9;rw[dif_pos h];exact h.choose_spec.1.uniq g R h.choose_spec.2 s
def R0(h:gO w d r)(a:i<r.length):r.getD ((i+1)%r.length) (0,0)=qa w^r.getD i (0,0):=by
 let⟨k,b,f,l,rfl⟩:=h;rw[jw] at a ⊢
 have at_:∀j,j<k->(walk w d k).getD j (0,0)=dD w j d:=λj g=>by
  unfold walk;rw[cV,dh,wd g];rfl
 rw[at_ i a]
 by_cases c:i+1<k
 .rw[wj c,at_ _ c];rfl
 .have e:i+1=k:=()
  rw[e,aef,at_ 0 b];show d=dD w (i+1) d;rw[e,f]
def CZ(r:List (Nat×Nat))(i:Nat):(r.map (·.1)).getD i 0=(r.getD i (0,0)).1:=by
 rw[cV,cV,dh];cases r[i]? <;>rfl
def Om(a:l.Nodup)(h:i+1<l.length):eQ l^l.getD i 0=l.getD (i+1) 0:=by
 have e:l.getD i 0=l[i]:=by rw[cV,cz ()];rfl
 unfold eQ;rw[e,a.idxOf_getElem i (),wj h]
def KC(a:l.Nodup)(h:i+1=l.length):eQ l^l.getD i 0=l.getD 0 0:=by
 have e:l.getD i 0=l[i]:=by rw[cV,cz ()];rfl
 unfold eQ;rw[e,a.idxOf_getElem i (),h,aef]
section
variable {w:W} {R:List Nat} {A:Nat×Nat->Prop} {v m:Nat} {y:Nat->Nat}
end
def z3{l:List Nat}{i:Nat}(h:i<l.length):l.getD i 0∈l:=by
 rw[cV,cz h];exact lX h
def RF(a:R.Nodup)(h:x∈R):∃b,b∈R/\eQ R b=x:=by
 obtain⟨i,d,rfl⟩:=List.mem_iff_getElem.mp h;have e:R[i]=R.getD i 0:=by rw[cV,cz d];rfl
 by_cases c:i=0
 .subst c
  exact#[R.getD (R.length-1) 0,z3 (),by rw[KC a (),e]]
 .refine#[R.getD (i-1) 0,z3 (),?_]
  rw[Om a (),show i-1+1=i by lia,e]
section
variable {w:W} {R:List Nat} {A:Nat×Nat->Prop}
end
def ES(a b:Nat×Nat):lexLe a b\/lexLe b a:=by unfold lexLe;lia
def ET(h:lexLe a b)(d:lexLe b c):lexLe a c:=by unfold lexLe at*;lia
end Wb
namespace PySem
abbrev m9(h:Heap)(z TI TO a:Addr)(f:Bool):Prop:=
 h.get? z\{cls:= .type "zip",dict:=none,data:= .fields [rawInt a, .bool f, .bool false, .ref TI, .ref TO].toArray,slots:= #[]}
section
variable {prog:Program} {w:World} {A:Around} {E:Value->Shared->Prop} {s:Shared}
theorem DZ(b:m9 s.heap z TI TO a f)(g:s.heap.get? a\e)
  (d:∀c,m9 c z TI TO a true->Heap.SameBut z s.heap c->Q false {s with heap:=c}):e_ (ei prog w) A (Builtin.SmallTypes.ownedTupleIsFree^.ref z) Q E s:=by
 unfold Builtin.SmallTypes.ownedTupleIsFree;refine a_^acT b rfl (x:=lr a) rfl ?_;show e_ _ _ (loadIfAlive^(a:Int).toNat>>=_) _ _ _;rw[lW];refine a_^PySem.W.kdx_alive g ?_;simp only[Option.isNone_some,fo,Pi];refine a_^acT b rfl (x:= .bool f) rfl ?_;cases f with
 |true=>
  rw[tz (show ¬((Value.bool true !=Value.bool true)=true) from eD)];exact mo^d _ b^Heap.SameBut.refl _ _
 |false=>
  rw[ir (show(Value.bool false !=Value.bool true)=true from rfl)];exact a_ (wpAny_setField_rec b (by simp) λh i j=>mo^d _ i j)
def CA{z TI TO b d j k a:Addr}{f:Bool}{H:Obj}{n p:Nat}{C F:Array b_}{x y:b_}{Q:b_->c_->Prop}(D:jt z TI TO b d j k)
  (q:m9 s.heap z TI TO a f) (I:s.heap.get? a\H) (J:n_ s.heap TI (.ref b)^.ref d)
  (L:s.heap.IsListIter b j n) (M:s.heap.IsListIter d k p) (N:s.heap.IsList j C) (O:s.heap.IsList k F) (P:C[n]?\x) (R:F[p]?\y)
  (S:∀g,m9 g z TI TO a true->g.IsListIter b j (n+1)->g.IsListIter d k (p+1)->n_ g s.heap.objs.size x y->g.objs.size=s.heap.objs.size+1->
   (∀c o,c≠z->c≠b->c≠d->s.heap.get? c\o->g.get? c\o)->Q (.ref s.heap.objs.size) {s with heap:=g}):
  e_ (ei prog w) A (Builtin.«zip.__next__» #[[.ref z],[]]) (λfin T=>∃v,fin= .done^.ret v/\Q v T) E s:=by
 show e_ _ _ (field (.ref z) 2>>=_) _ _ _;refine a_^acT q rfl (x:= .bool false) rfl ?_;refine a_^acT q rfl (x:= .ref TI) rfl ?_;refine a_^adp J rfl ?_;refine a_ (DZ q I λG X h=>?_);simp only[fo,Pi];refine a_ ?_;simp only[<-F6,afc,List.forIn_nil];refine a_^a_^KF ?_;show e_ _ _ (Builtin.SmallTypes.nextOf^.ref b>>=_) _ _ _;refine a_ (adN (L.extBut h.extBut D.i1z) (N.extBut h.extBut D.l1z) P λQH Y i=>mo ?_);refine mo ?_;refine a_^a_^KF ?_;show e_ _ _ (Builtin.SmallTypes.nextOf^.ref d>>=_) _ _ _
 refine a_ (adN ((M.extBut h.extBut D.i2z).extBut i.extBut D.i12.symm)
  ((O.extBut h.extBut D.l2z).extBut i.extBut D.l2i1) R λl Z m=>mo ?_)
 refine mo^mo ?_;refine a_^afr ?_^by show 2<=sizeLine;decide
 have r:l.objs.size=s.heap.objs.size:=by rw[m.1,i.1,h.1]
 have Y2:m9 l z TI TO a true:=m.extBut _ _ D.i2z.symm^i.extBut _ _ D.i1z.symm X;refine mo #[_,rfl,?_];show Q (.ref l.objs.size) _;rw[r];have YF:∀c o,c≠z->c≠b->c≠d->s.heap.get? c\o->l.get? c\o:=λc o t u B e=>m.extBut _ _ B^i.extBut _ _ u^h.extBut _ _ t e;exact S _ (AC _ Y2) ((Y.extBut m.extBut D.i12).at λo e=>AC _ e) (Z.at λo e=>AC _ e) (r▸GT _ rfl) (by rw[adD,r]) λc o t u B e=>AC _^YF c o t u B e
theorem FQ(B:A.handled=none)(D:jt z TI TO d g j k)
  (q:m9 s.heap z TI TO a f) (L:s.heap.get? a\J) (M:n_ s.heap TI (.ref d)^.ref g)
  (C:s.heap.IsListIter d j l) (N:s.heap.IsListIter g k m) (F:s.heap.IsList j n) (O:s.heap.IsList k p) (P:n[l]? =none\/p[m]? =none)
  (G:∀r e,(∀c o,c≠z->c≠d->c≠g->s.heap.get? c\o->r.get? c\o)->(∃o,r.get? e\o/\o.cls= .type "StopIteration")->E (.ref e) {s with heap:=r}):
  e_ (ei prog w) A (Builtin.«zip.__next__» #[[.ref z],[]]) Q E s:=by
 show e_ _ _ (field (.ref z) 2>>=_) _ _ _;refine a_^acT q rfl (x:= .bool false) rfl ?_;refine a_^acT q rfl (x:= .ref TI) rfl ?_;refine a_^adp M rfl ?_;refine a_ (DZ q L λH Y b=>?_);simp only[fo,Pi];refine a_ ?_;simp only[<-F6,afc,List.forIn_nil];refine a_^a_^KF ?_;show e_ _ _ (Builtin.SmallTypes.nextOf^.ref d>>=_) _ _ _;cases t:n[l]? with
 |none=>
  exact a_ (wpAny_nextOf_list_end B (C.extBut b.extBut D.i1z) (F.extBut b.extBut D.l1z) t λI e i u=>G I e (λc o v y _ x=>i _ _ y^b.extBut _ _ v x) u)
 |some x=>
  have R:p[m]? =none:=by rcases P with h|h;rw[t] at h;cases h;exact h
  refine a_ (adN (C.extBut b.extBut D.i1z) (F.extBut b.extBut D.l1z) t λI Z i=>mo ?_);refine mo ?_;refine a_^a_^KF ?_;show e_ _ _ (Builtin.SmallTypes.nextOf^.ref g>>=_) _ _ _
  exact a_ (wpAny_nextOf_list_end B ((N.extBut b.extBut D.i2z).extBut i.extBut D.i12.symm)
   ((O.extBut b.extBut D.l2z).extBut i.extBut D.l2i1) R λS e T u=>G S e (λc o v y X x=>T _ _ X^i.extBut _ _ y^b.extBut _ _ v x) u)
end
namespace F
def JX:typeLookup (.type "zip") "__len__"=pure none:=by rw[afe,ad6];kernel_rfl
def Hv:typeLookup (.type "zip") "__length_hint__"=pure none:=by rw[afe,ad6];kernel_rfl
end F
structure ZS (z TI TO i1 i2 l1 l2 S:Addr) (xs ys:Array Value) (k:Nat) (h:Heap):Prop where
 ti:IsPair h TI (.ref i1) (.ref i2)
 s1:h.IsListIter i1 l1 k
 s2:h.IsListIter i2 l2 k
 m1:h.IsList l1 xs
 m2:h.IsList l2 ys
 zz:(IsZip h z TI TO .none/\∃a b,IsPair h TO a b)\/∃a f oa,m9 h z TI TO a f/\h.get? a\oa/\a≠z/\a≠i1/\a≠i2/\a≠S
section
variable {prog:Program} {w:World} {A:Around} {E:Value->Shared->Prop} {s:Shared} {z TI TO i1 i2 l1 l2 S:Addr} {xs ys:Array Value} {k:Nat}
def ZS.keep{h h':Heap}(x:ZS z TI TO i1 i2 l1 l2 S xs ys k h)(g:∀b o,b≠S->h.get? b\o->h'.get? b\o)(j:∀b∈ [z,TI,TO,i1,i2,l1,l2],b<S):ZS z TI TO i1 i2 l1 l2 S xs ys k h':=by
 have n:∀b∈ [z,TI,TO,i1,i2,l1,l2],∀o,h.get? b\o->h'.get? b\o:=λb l o e=>g b o (bS^j b l) e;refine#[n TI (by simp) _ x.ti,x.s1.at λo e=>n i1 (by simp) o e,x.s2.at λo e=>n i2 (by simp) o e,x.m1.at λo e=>n l1 (by simp) o e,x.m2.at λo e=>n l2 (by simp) o e,?_]
 rcases x.zz with ⟨a,b,c,d⟩ | ⟨a,f,m,p,q,r,t,u,i⟩
 .exact .inl #[n z (by simp) _ a,b,c,n TO (by simp) _ d]
 .exact .inr #[a,f,m,n z (by simp) _ p,g _ _ i q,r,t,u,i]
def Iu{x y:b_}(D:jt z TI TO i1 i2 l1 l2)(st:ZS z TI TO i1 i2 l1 l2 S xs ys k s.heap)(L:S<s.heap.objs.size)(u:xs[k]?\x)(v:ys[k]?\y)
  (B:∀h',ZS z TI TO i1 i2 l1 l2 S xs ys (k+1) h'->n_ h' s.heap.objs.size x y->h'.objs.size=s.heap.objs.size+1->
   (∀c o,c≠z->c≠TO->c≠i1->c≠i2->s.heap.get? c\o->h'.get? c\o)->Q (some^.ref s.heap.objs.size) {s with heap:=h'}):
  e_ (ei prog w) A (nr^.ref z) Q E s:=by
 let⟨h,m,n,i,j,zz⟩:=st;have lt:∀{c o},s.heap.get? c\o->s.heap.objs.size≠c:=λe=>jR^Da e;have M:s.heap.objs.size≠i1:=by let⟨K,e,U⟩:=m;exact lt e
 have N:s.heap.objs.size≠i2:=by let⟨K,e,U⟩:=n;exact lt e
 rcases zz with ⟨g,a,b,O⟩ | ⟨a,f,P,g,C,G,H,I,R⟩
 .refine wpAny_pyNext_zip_item D g h O m n i j u v λh' p Z q r l t d=>?_
  exact B h' #[d _ _ D.TIz D.TITO D.TIi1 D.TIi2 h,q,r,i.at λo e=>d _ o D.l1z D.l1TO D.l1i1 D.l1i2 e,j.at λo e=>d _ o D.l2z D.l2TO D.l2i1 D.l2i2 e, .inr #[_,false,_,p,l,lt g,M,N,jR L]] l t d
 .have J:s.TypeIs (.ref z) "zip":=#[_,g,rfl]
  unfold nr
  refine a_^adS^adF (name:=Str.ofString "__next__") J ael
   (acR ael J F.entry_zip_next
    (CA D g C h m n i j u v λh' p q r l t d=>mo ?_)^F.args_zip_next_1 _)
  exact B h' #[d _ _ D.TIz D.TIi1 D.TIi2 h,q,r,i.at λo e=>d _ o D.l1z D.l1i1 D.l1i2 e,j.at λo e=>d _ o D.l2z D.l2i1 D.l2i2 e, .inr #[a,true,P,p,d _ _ G H I C,G,H,I,R]] l t λc o T _ X Y e=>d c o T X Y e
def Ir(h:A.handled=none)(D:jt z TI TO i1 i2 l1 l2)(st:ZS z TI TO i1 i2 l1 l2 S xs ys k s.heap)(i:xs[k]? =none\/ys[k]? =none)
  (j:∀g,(∀c o,c≠z->c≠TO->c≠i1->c≠i2->s.heap.get? c\o->g.get? c\o)->Q none {s with heap:=g}):e_ (ei prog w) A (nr^.ref z) Q E s:=by
 let⟨l,m,n,p,q,zz⟩:=st
 rcases zz with ⟨d,a,b,t⟩ | ⟨a,f,I,d,u,J,L,M,N⟩
 .exact wpAny_pyNext_zip_end h D d l t m n p q i j
 .have r:s.TypeIs (.ref z) "zip":=#[_,d,rfl]
  unfold nr
  refine a_^adS^adF (name:=Str.ofString "__next__") r ael
   (acR ael r F.entry_zip_next (FQ h D d u l m n p q i λg e v x=>?_)^F.args_zip_next_1 _)
  let⟨o,y,B⟩:=x;refine a_^wpAny_isInstance (T:="StopIteration") (b:=true) #[o,y,B] isSubtype_stop ?_;exact mo (j _ λc o C _ G H e=>v c o C G H e)
structure ZG (xs ys:Array Value) (lo:Addr) (h:Heap) (as:List Addr):Prop where
 rise:as.Pairwise (·<·)
 above:∀a∈as,lo<a
 pairs:∀(j:Nat)(a:Addr),as[j]?\a->∃x y,xs[j]?\x/\ys[j]?\y/\IsPair h a x y
theorem S0(hh:A.handled=none)(D:jt z TI TO i1 i2 l1 l2)(m:∀b∈ [z,TI,TO,i1,i2,l1,l2],b<S)(hn:min xs.size ys.size<=sizeLine)(v:b_){h₁:Heap}
  (hR:∀g r acc c f,(∀b o,b≠S->b≠z->b≠TO->b≠i1->b≠i2->h₁.get? b\o->g.get? b\o)->g.get? S\{cls:= .type "list",dict:=none,data:= .seq acc c,slots:= #[]}->f.length=min xs.size ys.size->ZG xs ys S g f->
   acc.toList=f.map Value.ref->R (.ok^.ret v) {s with heap:=g,toks:=r}):
  ∀(n i:Nat)(h:Heap)(r c:Nat)(acc:Array b_)(f:List Addr),min xs.size ys.size-i=n->i<=min xs.size ys.size->ZS z TI TO i1 i2 l1 l2 S xs ys i h->
   (∀b o,b≠S->b≠z->b≠TO->b≠i1->b≠i2->h₁.get? b\o->h.get? b\o)->
   h.get? S\{cls:= .type "list",dict:=none,data:= .seq acc c,slots:= #[]}->acc.toList=f.map Value.ref->f.length=i->ZG xs ys S h f->
   hB (ei prog w) A (.builtin "list.extend.loop" #[[.ref S, .ref z,v],[]]) R {s with heap:=h,toks:=r}:=by
 have nS:∀b∈ [z,TI,TO,i1,i2,l1,l2],b≠S:=λb d=>bS^m b d;intro n
 induction n with
 |zero=>
  intro i h r c acc f hk hi N O J L B p;have hin:i=min xs.size ys.size:=()
  refine ac2 aeP ?_;rw[acU acZ _];show e_ _ A.in1 (nr^.ref z>>=_) _ _ _;refine a_ (Ir (s:={s with heap:=h,toks:=r}) (A:=A.in1) hh D N (by simp only[Array.getElem?_eq_none_iff];lia) λg he=>?_)
  have P:∀b,S<=b->b≠z/\b≠TO/\b≠i1/\b≠i2:=λb d=>#[jR^cO (m z^by simp) d,jR^cO (m TO^by simp) d,jR^cO (m i1^by simp) d,jR^cO (m i2^by simp) d]
  have t:∀b o,S<=b->h.get? b\o->g.get? b\o:=λb o d e=>let #[Q,T,X,Y]:=P b d;he b o Q T X Y e;refine mo^hR g r acc c f (λb o M q C F G e=>he b o q C F G^O b o M q C F G e) (t S _ (bg _) J) () #[p.rise,p.above,λj a l=>?_] L
  obtain⟨x,y,Z,k,E⟩:=p.pairs j a l;exact#[x,y,Z,k,t a _ (qL^p.above a^cL l) E]
 |succ n ih=>
  intro i h r c acc f hk hi N O J L B p;have bZ:i<min xs.size ys.size:=()
  have Ug:i<xs.size:=()
  have H:i<ys.size:=()
  have dQ:acc.size=i:=by rw[<-c9,L,aG,B]
  have Yj:S<h.objs.size:=Da J;refine ac2 aeP ?_;rw[acU acZ _];show e_ _ A.in1 (nr^.ref z>>=_) _ _ _;refine a_ (Iu (s:={s with heap:=h,toks:=r}) (x:=xs[i]) (y:=ys[i]) D N Yj (sF Ug) (sF H) λg abj ht hz hkp=>?_)
  dsimp only at ht hz hkp ⊢;have P:∀b,S<=b->b≠z/\b≠TO/\b≠i1/\b≠i2:=λb d=>#[jR^cO (m z^by simp) d,jR^cO (m TO^by simp) d,jR^cO (m i1^by simp) d,jR^cO (m i2^by simp) d]
  have I:∀b o,S<=b->h.get? b\o->g.get? b\o:=λb o d e=>let #[Q,T,X,Y]:=P b d;hkp b o Q T X Y e;have T7:=I S _ (bg _) J;have t:∀b o,b≠S->g.get? b\o->(g.update S^Obj.mapSeq (·.push^Value.ref h.objs.size)).get? b\o:=λb o d e=>(Os _ _^Ne.symm d).trans e;show e_ _ A.in1 (updateSeq S (·.push^Value.ref h.objs.size)>>=_) _ _ _;refine a_ ?_
  refine aem T7 rfl (mo #[ada acZ _,ih (i+1) _ r _ (acc.push^Value.ref h.objs.size) (f++ [h.objs.size]) () bZ (abj.keep t m)
   (λb o M q C F G e=>t b o M^hkp b o q C F G^O b o M q C F G e) (P3 _ T7 rfl) (by rw[BP,L,b9];rfl) (by rw[dg,B];rfl) #[?_,?_,?_]]) (by rw[dQ];lia)^by show(acc.push^Value.ref h.objs.size).size<=sizeLine+1;rw[Array.size_push,dQ];lia
  .refine sL.mpr #[p.rise,FY _ _,λa u b d=>?_]
   rw[eZ.mp d];obtain⟨j,l⟩:=BF.mp u;obtain⟨_,_,_,_,e⟩:=p.pairs j a l;exact Da e
  .intro a u
   rcases cP.mp u with u|u
   .exact p.above a u
   .rw[eZ.mp u];exact Yj
  .intro j b l
   rcases Nat.lt_trichotomy j f.length with q|q|q
   .rw[gJ q] at l
    obtain⟨x',y',Z,k,E⟩:=p.pairs j b l;have d:=p.above b^cL l;exact#[x',y',Z,k,t b _ (jR d)^I b _ (qL d) E]
   .subst q
    have d:h.objs.size=b:=by simpa using l
    subst d;exact#[_,_,by rw[B];exact sF Ug,by rw[B];exact sF H,t _ _ (jR Yj) ht]
   .have YL:(f++ [h.objs.size])[j]? =none:=fm^by rw[dg,F0];lia
    rw[YL] at l;cases l
def SY(a:s.TypeIs (.ref z) "zip")(h:Q true s):e_ (ei prog w) A (Builtin.List.listLengthHint^.ref z) Q E s:=by
 unfold Builtin.List.listLengthHint;refine a_^aej a F.JX ?_;refine a_^aej a F.Hv ?_;exact mo h
def K7(C:A.handled=none)(D:jt z TI TO i1 i2 l1 l2)(n:∀b∈ [z,TI,TO,i1,i2,l1,l2],b<S)(st:ZS z TI TO i1 i2 l1 l2 S xs ys 0 s.heap)(t:s.TypeIs (.ref z) "zip")(F:min xs.size ys.size<=sizeLine)(g:b_)(c₀:Nat)
  (hz:∃u,IsZip s.heap z TI TO u) (p:s.heap.get? S\{cls:= .type "list",data:= .seq #[] c₀})
  (G:∀l i acc c q,(∀b o,b≠S->b≠z->b≠TO->b≠i1->b≠i2->s.heap.get? b\o->l.get? b\o)->l.get? S\{cls:= .type "list",dict:=none,data:= .seq acc c,slots:= #[]}->q.length=min xs.size ys.size->ZG xs ys S l q->
   acc.toList=q.map Value.ref->R (.ok^.ret g) {s with heap:=l,toks:=i}):
  e_ (ei prog w) A.in1 (Builtin.List.listExtendWith (.ref S) (.ref z) g)
   (λfin m=>match fin with| .done f=>R (.ok f) m| .again v=>v.quiet=true/\hB (ei prog w) A v R m) (λe m=>R (.error e) m) s:=by
 have r:S≠z:=jR^n z^by simp
 let⟨u,hz⟩:=hz
 have key:∀(h:Heap)(d i:Nat),(∀b o,b≠S->s.heap.get? b\o->h.get? b\o)->
   h.get? S\{cls:= .type "list",data:= .seq #[] d}->hB (ei prog w) A (.builtin "list.extend.loop" #[[.ref S, .ref z,g],[]]) R {s with heap:=h,toks:=i}:=by
  intro h d i x H;exact S0 (s:=s) (h₁:=s.heap) C D n F g G _ 0 h i d #[] [] rfl (eE _) (st.keep x n) (λb o I _ _ _ _ e=>x b o I e) H rfl rfl #[List.Pairwise.nil,(λ_ J=>nomatch J),(λj a L=>by simp at L)]
 unfold Builtin.List.listExtendWith;refine a_^aed (T:="zip") t ?_;have M:Builtin.List.listSameRef (.ref S)^.ref z=false:=by simp[Builtin.List.listSameRef,r]
 have N:(Value.type "zip"==Value.type "list")=false:=∅
 have O:(Value.type "zip"==Value.type "tuple")=false:=∅
 simp only[M,N,O,afu,fo,Pi];refine a_^adT hz ?_;refine a_^KF^SY t ?_;refine wpAny_ite_split (λ_=>?_)^λ_=>mo #[ada acZ _,key _ c₀ _ (λb o _ e=>e) p];refine a_^ac8 ?_;refine a_ ?_;show e_ _ _ (updateSeq S (·.push .none)>>=λ_=>updateSeq S (·.pop)) _ _ _;refine a_^aem p rfl ?_;have y:=P3 (Obj.mapSeq (·.push Value.none)) p rfl;refine aem (hz:=by seq_fits) y rfl ?_
 have P:=P3 (Obj.mapSeq (·.pop)) y rfl;refine mo #[ada acZ _,key _ _ _ (λb o B e=>?_) P];exact(Os _ _^Ne.symm B).trans^(Os _ _^Ne.symm B).trans e
def SX(t:A.handled=none)(D:jt z TI TO i1 i2 l1 l2)(st:∀S,ZS z TI TO i1 i2 l1 l2 S xs ys 0 s.heap)(u:IsZip s.heap z TI TO .none)(h:∀b∈ [z,TI,TO,i1,i2,l1,l2],b<s.heap.objs.size)(v:min xs.size ys.size<=sizeLine)
  (q:∀d j acc c f,(∀b o,b≠z->b≠TO->b≠i1->b≠i2->s.heap.get? b\o->d.get? b\o)->d.get? s.heap.objs.size\{cls:= .type "list",dict:=none,data:= .seq acc c,slots:= #[]}->f.length=min xs.size ys.size->ZG xs ys s.heap.objs.size d f->
   acc.toList=f.map Value.ref->Q (.ref s.heap.objs.size) {s with heap:=d,toks:=j}):
  e_ (ei prog w) A (call (.type "list") [.ref z]) Q E s:=by
 refine callType_codes (Q₁:=λobj a=>obj= .ref s.heap.objs.size/\a={s with heap:=s.heap.push {cls:= .type "list",data:= .seq #[]}}) PySem.F.called_list (PySem.F.typeCall_list_1 _) PySem.F.entry_list_init
  (code_list_new _ #[rfl,rfl]) λobj a g=>?_
 obtain⟨rfl,rfl⟩:=g;generalize l:s.heap.objs.size=S at h q ⊢;have i:(s.heap.push {cls:= .type "list",data:= .seq #[]}).get? S\{cls:= .type "list",data:= .seq #[]}:=by rw[<-l];exact GT _ rfl
 have m:∀b o,s.heap.get? b\o->(s.heap.push {cls:= .type "list",data:= .seq #[]}).get? b\o:=λb o e=>AC _ e;exists #[_,i,rfl],PySem.F.args_list_init_2 _ _;show e_ _ A.in1.in1 (do let n <-Builtin.List.listItems^.ref S;Builtin.List.listUpdate (.ref S)^λ_=> #[];letGo n.toList.reverse;Builtin.List.listExtendWith (.ref S) (.ref z) .none) _ _ _
 refine a_ ?_;unfold Builtin.List.listItems;refine a_^adp i rfl^mo ?_;show e_ _ _ (updateSeq S (λ_=> #[])>>=λ_=>letGo (#[]:Array b_).toList.reverse>>=λ_=>Builtin.List.listExtendWith (.ref S) (.ref z) .none) _ _ _;refine a_^aem i rfl ?_;have y:=P3 (Obj.mapSeq^λ_=>(#[]:Array b_)) i rfl
 have p:∀b o,b≠S->s.heap.get? b\o->((s.heap.push {cls:= .type "list",data:= .seq #[]}).update S^Obj.mapSeq^λ_=>(#[]:Array b_)).get? b\o:=
  λb o B e=>(Os _ _^Ne.symm B).trans^m b o e
 refine a_^wpAny_letGo ?_;have r:=p z _ (bS^h z^by simp) u
 refine K7 (A:=A.in1) (c₀:=0) t D h ((st S).keep p h) #[_,r,rfl] v .none #[_,r] y^λd j acc c f C G H I J=>?_;exact#[rfl,q d j acc c f (λb o L M N O e=>C b o (λx=>kg S^by have:=Da e;rw[l,x] at this;exact this) L M N O^p b o (λx=>kg S^by have:=Da e;rw[l,x] at this;exact this) e) G H I J]
end
end PySem
namespace L2
open PySem PySem.Spec PyProof.Rows
def zH(H:Hp)(q:Addr)(a:List Addr)(xs c:List V):Hp:=λb=>if b=q then some^.lst^a.map V.ref else if b∈a then some^.tup [xs.getD (a.idxOf b) .aQ,c.getD (a.idxOf b) .aQ] else H b
section
variable {X:Cx} {Z:DC} {G H H':Hp} {q:Addr} {as:List Addr} {xs ys:List V} {pins:List (Addr×Obj)} {σ:St} {s:Shared} {h':Heap}
def zq(c:H q=none)(d:∀a∈as,H a=none)(e:H b\o):zH H q as xs ys b\o:=by
 unfold zH;rw[tz (λz=>by rw[z,c] at e;cases e),tz (λz=>by rw[d b z] at e;cases e)];exact e
def aaa{a:Addr}{j:Nat}{x y:V}(c:as.Nodup)(d:q∉as)(e:as[j]?\a)(f:xs[j]?\x)(g:ys[j]?\y):zH H q as xs ys a\(.tup [x,y]):=by
 let⟨h,rfl⟩:=cR.mp e;have b:as[j]∈as:=lX h;unfold zH;rw[tz^λz:as[j]=q=>d^by rw[<-z];exact b,ir b,c.idxOf_getElem,cV,f,cV,g];rfl
theorem Inv.abt{t':Nat}(I:Inv X pins σ H s)(k:∀b u,s.heap.get? b\u->h'.get? b\u)(a:∀b o,H b\o->H' b\o)
  (d:∀b o,H b=none->H' b\o->s.heap.objs.size<=b/\cK X.prog X.w H' h' b o):Inv X pins σ H' {s with heap:=h',toks:=t'}:=by
 refine I.un #[λb o e _ _ _=>k b o e,λb o e _ _ _=>#[o.slots,k b o e],λb o e n _=>?_,λb o e _=>#[o,k b o e],λb f e=>a b _ e,λb o u e=>a b _ e,λb g e=>#[#[],by rw[a b _ e];simp]] λb o e=>?_
 .cases z:H' b with
  |none=>rfl
  |some u=>exact absurd (d b u n z).1^Nat.not_le.mpr^Da e
 .cases z:H b with
  |none=>exact(d b o z e).2
  |some u=>
   rw[a b u z] at e;cases Do e;exact(I.hok b o z).oQ (λc v _ q=>k c v q) (λc q=>a c _ q) λc f q=>a c _ q
def BE(n a b:Nat)(c:a<n)(d:b<n):ZipApart (n+4) (n+2) (n+3) n (n+1) a b:=
 #[show n+2≠n+4 by lia,show n+3≠n+4 by lia,show n≠n+4 by lia,show n+1≠n+4 by lia,show n+2≠n+3 by lia,show n+2≠n by lia,show n+2≠n+1 by lia,show n+3≠n by lia,show n+3≠n+1 by lia,show n≠n+1 by lia,
  show a≠n+4 by lia,show a≠n+3 by lia,show a≠n by lia,show a≠n+1 by lia,show b≠n+4 by lia,show b≠n+3 by lia,show b≠n by lia,show b≠n+1 by lia]
theorem DvAll.of_get:∀{a:List V}{b:List D},a.length=b.length->(∀(k:Nat) x d,a[k]?\x->b[k]?\d->Dv Z G x d)->DvAll Z G a b
 | [],[],_,_=> .nil
 | [],_::_,h,_=>by simp at h
 |_::_,[],h,_=>by simp at h
 |x::a,u::f,h,r=> .cons (r 0 x u rfl rfl) (DvAll.of_get (~~~h) λk y w c e=>r (k+1) y w (~~~c)^~~~e)
def Oq(K:ad)(h:TA):TE:=λi H Q=>h i H λj b=>∃f g d e,j= [.ref f, .ref g]/\aL K b f d/\aL K b g e/\
 ∀q c,c.length=min d.length e.length->c.Nodup->q∉c->b q=none->(∀a∈c,b a=none)->Q (.ref q)^zH b q c d e
theorem HC(hc:X.calm=true)(Jp:Gl X "list")(z9:X.mg "list"=none)(Jq:Gl X "zip")(Aa:X.mg "zip"=none)(N:PA X [a,b] ta)
  (hs:d_ [.Call (.Name "zip" l) [a,b] [] F] X.env=(false,gi (.Call (.Name "zip" l) [a,b] [] F) X.env)::d_ [] X.env<|>zn) (bX:(gM pos^d_ [] X.env).any (·.1)=false<|>zn)
  (iV:d_ [a,b] X.env= [(false,gi a X.env),(false,gi b X.env)]<|>zn) (tw:d_ [b] X.env= [(false,gi b X.env)]<|>zn):
  PE X (.Call (.Name "list" p) [.Call (.Name "zip" l) [a,b] [] F] [] pos)^Oq X.K ta:=by
 intro r s σ H Q I h;refine W1^gS I Jp z9 pI ?_;refine PP ?_ hs bX;rw[hs];show e_ _ _ (spliced ((false,gi _ X.env)::gM pos^d_ [] X.env)) _ _ s;refine aez ?_;refine Call_^gS I Jq Aa (show gq "zip"\(.type "zip") by decide+kernel)^PP (thn (N F r s σ H _ I h) λus f #[vs,O,t,r1,q1]=>?_) (by rw[iV,tw])^by rw[tw];rfl
 rfl';let⟨J,L,P,R,e,pk,nI,q⟩:=q1;subst e;let⟨u1,u2,rfl,Ko,Kq⟩:=r1.two;subst Ko;subst Kq;let⟨LH,Fn,T,uO⟩:=t.list pk;let⟨mI,Fo,l,w4⟩:=t.list nI;have e1:=Fn.length;have e2:=Fo.length;have Y:J<f.heap.objs.size:=by let⟨o,G,U⟩:=T.isList;exact Da G
 have Z:L<f.heap.objs.size:=by let⟨o,G,U⟩:=l.isList;exact Da G
 ac_rfl;refine call_zip_2 T.isList l.isList λg hz nH pb h1 h2 dQ kk=>?_;refine aeJ ?_;have D:=BE f.heap.objs.size J L Y Z;have m1:=T.isList.at λo e=>kk J o e;have m2:=l.isList.at λo e=>kk L o e;refine SX (s:={f with heap:=g}) (I.ok.hd hc) D (λS=>#[nH,h1,h2,m1,m2, .inl #[hz,_,_,pb]]) hz (λb d=>?_) (by simp only[cn];lia) λh3 tk acc c i hk hS hl y yh=>?_
 .show b<g.objs.size
  rw[dQ];generalize f.heap.objs.size=n at d Y Z;simp only[cQ,BR,aer] at d;show b<n+5
  rcases d with z|z|z|z|z|z|z<;>rw[z]
  .show n+4<n+5;lia
  .show n+2<n+5;lia
  .show n+3<n+5;lia
  .show n<n+5;lia
  .show n+1<n+5;lia
  .show J<n+5;exact cO Y ()
  .show L<n+5;exact cO Z ()
 .have yM:∀b o,f.heap.get? b\o->h3.get? b\o:=λb o e=>by
   have d:=Da e;refine hk b o ?_ ?_ ?_ ?_^kk b o e<;>(intro z;rw[z] at d;revert d;generalize f.heap.objs.size=n;intro d;exact absurd d^by show ¬(_<n);lia)
  have M:f.heap.objs.size<=g.objs.size:=by rw[dQ];exact Nat.le_add_right _ _
  have ji:h3.get? g.objs.size\{cls:= .type "list",dict:=none,data:= .seq acc c,slots:= #[]}:=hS;have pA:i.Nodup:=y.rise.imp λh=>bS h;have hqa:g.objs.size∉i:=λm=>kg _^y.above _ m;have A:O g.objs.size=none:=t.hok.fresh M;have B:∀a∈i,O a=none:=λa N=>t.hok.fresh^iT M^qL^y.above a N;have Cc:i.length=min P.length R.length:=by rw[hl,cn,cn];lia
  refine#[.ref g.objs.size,zH O g.objs.size i P R,Inv.abt (s:=f) (t':=tk) t yM (λb o e=>zq A B e)^λb o n e=>?_,rfl,q _ i Cc pA hqa A B];unfold zH at e
  by_cases d:b=g.objs.size
  .rw[ir d] at e
   obtain rfl:=Do e;subst d;refine#[M,by rw[aG,Cc];lia,acc.toList,c,?_,by simpa using ji]
   rw[yh]
   exact Vals.of_get (by simp) λk x w C hw=>by
    rw[dh] at C hw;cases z:i[k]? with
    |none=>rw[z] at C;cases C
    |some a=>rw[z] at C hw;cases C;cases hw;rfl
  .rw[tz d] at e
   by_cases m:b∈i
   .obtain⟨j,hj⟩:=BF.mp m
    let⟨hjl,hjb⟩:=cR.mp hj;let⟨u,v,e3,e4,e5⟩:=y.pairs j b hj;have GX:j<P.length:=()
    have E:j<R.length:=()
    let⟨u',QE,ru⟩:=Fn.get^cz GX;let⟨v',JC,rv⟩:=Fo.get^cz E;have eu:u'=u:=by rw[ad5,QE] at e3;exact Do e3
    have ev:v'=v:=by rw[ad5,JC] at e4;exact Do e4
    subst eu ev;rw[ir m] at e;have ez:i.idxOf b=j:=by rw[<-hjb];exact pA.idxOf_getElem j hjl
    rw[ez,cV,cV,cz GX,cz E] at e;cases Do e;exact#[iT M^qL^y.above _ m,by show 2<=sizeLine;decide,[u',v'], .cons ru^.cons rv .nil,p5 e5]
   .rw[tz m,n] at e;cases e
def VW{G H:Hp}(s:aC G H)(c:H q=none)(d:∀a∈as,H a=none):Ext G H (zH G q as xs ys)^zH H q as xs ys:=by
 refine#[λb o e=>zq (s.free c) (λa m=>s.free^d a m) e,λb o e=>?_,λb o e=>zq c d e,λb f g=>?_]
 .unfold zH at e ⊢
  by_cases h:b=q
  .rw[ir h] at e ⊢;exact e
  .rw[tz h] at e ⊢
   by_cases i:b∈as
   .rw[ir i] at e ⊢;exact e
   .rw[tz i] at e ⊢;exact s b o e
 .unfold zH
  rw[tz^λz=>f^by rw[z];exact c,tz^λz=>f^d b z];exact g
def ML(t:gn):aX:=λa P=>t a λb=>match b with
 | [.lst l, .lst m]=>P^.lst ((l.zip m).map λp=> .tup [p.1,p.2])
 |_=>False
theorem Gv(I:X.calm=true)(J:Gl X "list")(L:X.mg "list"=none)(M:Gl X "zip")(N:X.mg "zip"=none)(O:DA Z X [a,b] t)
  (R:d_ [.Call (.Name "zip" n) [a,b] [] r] X.env=(false,gi (.Call (.Name "zip" n) [a,b] [] r) X.env)::d_ [] X.env<|>zn) (S:(gM pos^d_ [] X.env).any (·.1)=false<|>zn)
  (T:d_ [a,b] X.env= [(false,gi a X.env),(false,gi b X.env)]<|>zn) (Y:d_ [b] X.env= [(false,gi b X.env)]<|>zn):
  DE Z X (.Call (.Name "list" p) [.Call (.Name "zip" n) [a,b] [] r] [] pos)^ML t:=by
 refine(HC I J L M N O R S T Y).imp ?_;rintro σ H Q ⟨G,ρ,P,s,en,h,q⟩;refine#[G,ρ,_,s,en,h,λds c vs i H1 f dv=>?_]
 have GU:∃l m,ds= [.lst l, .lst m]/\P^.lst ((l.zip m).map λp=> .tup [p.1,p.2]):=by
  split at c
  .exact#[_,_,rfl,c]
  .exact c.elim
 rfl';let⟨l,m,rfl,c⟩:=GU;let⟨v1,v2,rfl,d1,d2⟩:=dv.nY;let⟨a1,xs,rfl,k1,A⟩:=d1.iG;let⟨a2,B,rfl,k2,C⟩:=d2.iG;ac_rfl;refine#[a1,a2,xs,B,rfl,aL.of^f.sub _ _ k1,aL.of^f.sub _ _ k2,λp j hl hn u E has=>?_];have gp:i p=none:=f.sub.free E;have ga:∀a∈j,i a=none:=λa m=>f.sub.free^has a m;have F:aC i^zH i p j xs B:=λb o e=>zq gp ga e;have g1:=A.length;have g2:=C.length;refine q _ c _ _ _ (f.trans^VW f.sub E has)^.lst (xs:=j.map V.ref) (by unfold zH;rw[ir rfl]) ?_
 refine DvAll.of_get (by rw[aG,aG,List.length_zip,hl,g1,g2]) λk v d g c=>?_
 rw[dh] at g c;cases z:j[k]? with
 |none=>rw[z] at g;cases g
 |some b=>
  rw[z] at g;obtain rfl:=Do g;cases w:(l.zip m)[k]? with
  |none=>rw[w] at c;cases c
  |some pr=>
   rw[w] at c;obtain rfl:=Do c;let⟨c1,c2⟩:=aeQ.mp w;let⟨x,hx,dx⟩:=A.get c1;let⟨y,hy,dy⟩:=C.get c2;exact .tup (aaa hn u z hx hy)^.cons (dx.mono F)^.cons (dy.mono F) .nil
end
theorem lY.at{H:Hp}{ks:List (Int×Int)}{b:List FV}{xs:List (List Int×Addr×b_)}(d:lY H g ks b xs):∀{j:Nat}{p:Int×Int}{fv:FV},ks.Nodup->ks[j]?\p->b[j]?\fv->∃a u,ow xs [p.1,p.2]\(a,u)/\Mx fv u:=by
 induction d with
 |nil=>intro j p fv _ h;cases h
 | @cons a q v u g ks b xs w l t m=>
  intro j p fv n c i;have k:=wk.mp n;cases j with
  |zero=>
   cases c;cases i;exact#[a,u,by simp[ow],l]
  |succ j=>
   let⟨o,r,e,f⟩:=m k.2 c i;refine#[o,r,?_,f]
   have s:¬([q.1,q.2]= [p.1,p.2]):=λz=>k.1 (by
    simp at z;rw[show q=p from acY z.1 z.2];exact cL c)
   unfold ow at e ⊢;rw[List.find?_cons_of_neg^~~~s];exact e
section
variable {X:Cx} {Z:DC} {a b:Expr} {ta tb:aX} {pos:Pos}
def PV(h:Mx f u):RelV (vF f) u:=by
 cases f with
 |int i=>exact h
 |bl b=>exact h
def WQ:R2:=λx y H Q=>∃(c a:Addr)(e:List (Int×Addr))(d:List (Int×Int))(f:List FV)(p:Int×Int)(j:Nat)(fv:FV),x= .ref a/\y= .ref c/\H c\(.tup [.int p.1, .int p.2])/\H a\(.ext^bb a e f)/\fG H e d/\d.Nodup/\d[j]?\p/\f[j]?\fv/\Q (vF fv) H
def Us(O:X.A.units+64<cLine):zv X WQ:=by
 intro e f d s l H x y v u Q I m n h o;rfl';let⟨c,a,R,S,T,p,j,fv,rfl,rfl,B,C,E,g,F,G,q⟩:=h;subst m;subst n;let⟨z,Y,J,i⟩:=I.Pm C E g;let⟨b,u,L,M⟩:=J.at g F G;ac_rfl
 exact adJ (x:=u) i.typeIs slot_dict_getitem.lookup
  (wpAny_getItem_heap (knd:=iB^fD X.prog X.w) (k:= [p.1,p.2]) (p:=(b,u)) (Q:=λr N=>r=u/\EP X d l Q r N) (tupleKind_room_in1 ()) (I.qf B) i L #[rfl,vF fv,H,I.tok _,PV M,q]) o
def O5:iU:=λa b P=>∃(p:Int×Int)(c:List (Int×Int))(d:List FV)(j:Nat)(fv:FV),a= .x^.dj c d/\b=AX p/\c[j]?\p/\d[j]?\fv/\P^Je fv
def Dv.fv(f:FV):Dv Z G (vF f)^Je f:=by
 cases f with
 |int i=>exact .int i
 |bl b=>exact .bl b
def QK(h:ck Z O5 x y H Q):WQ x y H Q:=by
 revert h
 rintro⟨G,a,b,P,s,d,e,⟨p,f,g,j,fv,rfl,rfl,i,k,h⟩,q⟩;let⟨c,rfl,l⟩:=e.AG;obtain⟨_,_,rfl,m,ok⟩:=d.iX;rfl';let⟨o,r,rfl,t⟩:=ok;ac_rfl;exact#[c,_,r,f,g,p,j,fv,rfl,rfl,s _ _ l,s _ _ m,t.mono s,o,i,k,q _ h _ G H (.refl s)^.fv fv]
def lJ(g:X.A.units+64<cLine)(i:DE Z X a ta)(j:DE Z X b tb)(f:pD b<|>wp):DE Z X (.Subscript a b pos)^MM O5 ta tb:=by
 have k:zv X^ck Z O5:=λc d e s l H x y v u Q I m n h f=>Us g c d e s l H x y v u Q I m n (QK h) f;exact(cS k i j f).imp Ar
end
def StK(D:Addr)(v e:V)(H:Hp)(N:Hp->Prop):Prop:=∃c b a d p fv,v= .ref c/\e=vF fv/\H D\(.ext^bb D b d)/\H c\(.tup [.int p.1, .int p.2])/\fG H b a/\a.Nodup/\p∉a/\a.length<=300/\N^upd H D^.ext^bb D (b++ [(bo p,c)]) (d++ [fv])
theorem Sj(hu:X.A.units+64<cLine)(j:Inv X d n H s)(t:H c\(.tup [.int p.1, .int p.2]))(v:H a\(.ext^bb a f i))(G:fG H f g)(I:g.Nodup)(J:p∉g)(hz:g.length<=300)(L:RelV (vF fv) r)
  (h:∀y h',Inv X d n (upd H a^.ext^bb a (f++ [(bo p,c)]) (i++ [fv])) {s with heap:=h',toks:=y}->Q ⟨⟩ {s with heap:=h',toks:=y}):e_ (ei X.prog X.w) X.A (dictSet a (.ref c) r) Q E s:=by
 let⟨z,l,m,M⟩:=j.Pm v G I;refine wpAny_dictSet_heap (knd:=iB^fD X.prog X.w) (k:= [p.1,p.2]) (by show X.A.units<cLine;lia) (j.qf t) M (λh' B N=>?_)^small^by rw[m.len];lia
 have O:ow l [p.1,p.2]=none:=by
  cases e:ow l [p.1,p.2] with
  |none=>rfl
  |some q=>exact absurd (mS.mp^by rw[<-m.keys];exact jF.mp^by rw[e];rfl) J
 rw[storedH_new O] at B;rfl';have R:lY H (f++ [(bo p,c)]) (g++ [p]) (i++ [fv]) (l++ [([p.1,p.2],c,r)]):=m.snoc t^Es L;let⟨C,S,T,F,Y,Z,tu,D,K⟩:=B;ac_rfl;exact h _ _^j.write (h':=h') (t':=s.toks+(iB^fD X.prog X.w).draws [p.1,p.2]) (x:=a) (e:=a) (o:= .ext^bb a (f++ [(bo p,c)]) (i++ [fv])) (by rw[v];trivial) (.inl rfl) (λb u hb e=>N.extBut b u hb e) #[C,F]^bb.ok #[z,C,S,T,F,Y,Z,by rw[tu];exact Ja R]
section
variable {X XC:Cx} {kx vx i0 t0 i1 t1:gc} {f0 f1:List gc} {scope:Scope} {pos:jP} {wi cG:TI} {g g1:TG} {tt bW:TT} {tk tv:TE} {src:List^Option Nat} {NC:List fA}
theorem Ox:kK (.DictComp kx vx [#[t0,i0,f0,0],#[t1,i1,f1,0]] scope pos) t0 i0 t1 i1 f0 f1 (λD env=>do
  let b <-gi kx env
  let d <-io [b] (gi vx env)
  jo {kx.pos with endLine:=vx.pos.endLine,endCol:=vx.pos.endCol}
  io [b,d]^dictSet D b d) where
 u:=λ_ _ _ _ _=>rfl
 z0:=λ_ _ _ _ _=>rfl
 z1:=λ_ _ _ _ _=>rfl
 b0:=λa c=>codeAny_compStart_dict a (c _ _ a)
 b1:=λa c=>by
  refine codeAny_of_tree ?_;refine wpAny_notedAt ?_;unfold compStart;refine a_^wpAny_askSetting^wpAny_ite ?_
  split
  .first
    |exact a_^gl^gl #[rfl,a]
    |exact gl #[rfl,a]
  .refine a_^wpAny_rule ?_
   exact a_^nA^a_^c _ _^gl #[rfl,a]
def acD(b c:TE):MB:=λD a H N=>b a H λv d=>c a d λe f=>StK D v e f N
def NL(l:X.A.units+64<cLine)(m:PE X kx i)(n:PE X vx tv):OQ X (λD env=>do
  let b <-gi kx env
  let j <-io [b] (gi vx env)
  jo {kx.pos with endLine:=vx.pos.endLine,endCol:=vx.pos.endCol}
  io [b,j]^dictSet D b j)^acD i tv:=λD a s k H N I h=>
 a_ (thn (m a s k H _ I h) λy o d=>by
  rfl';obtain⟨v,r,t,u,w⟩:=d;ac_rfl;refine a_^KF (thn (n a o k r _ t w) λP Q d=>?_);rfl';obtain⟨R,S,x,f,c,T,Y,Z,p,fv,z,B,C,E,F,G,J,L,M⟩:=d;ac_rfl;subst z B;subst u;exact a_^acP^KF (Sj l x E C F G J L f λi g O=>#[_,O,M]))
def SE(g:TG)(a:TT)(b:TI)(c:TG)(d:TT)(e f:TE)(D:Addr)(J:It)(Q:VK)(h:St)(H:Hp):Prop:=PX g a b c d (acD e f) D J Q h H
def WU(c:TI)(g:TG)(d:TT)(e:TI)(f:TG)(h:TT)(i j:TE)(src:List^Option Nat):TE:=λa H Q=>c a H λJ b=>∀D,b D=none->SE g d e f h i j D J Q (k4 src a)^upd b D^.ext^bb D [] []
def B5{f:List (Addr×Obj)}{l:St}{h:c_}{i:Hp}{r:Addr}{j:List Addr}{t:Nat->Heap->Prop}{J:It}{u:b_->Addr->ny->c_->Prop}{E:b_->c_->Prop}{Q:VK}
  (B:X.A.units+64<cLine) (C:X.calm=true) (c:bC X scope) (F:dA scope X.N src NC) (k:Inv X f l i h) (T:Turn X.prog X.w X.K t0 J j r t) (G:t 0 h.heap) (I:∀b∈j,eJ X f i b)
  (m:∀d s H,PG (bH X scope NC d s H) t0 g) (L:∀d s H,kJ (bH X scope NC d s H) f0 tt) (M:∀d s H,PI (bH X scope NC d s H) t1 i1 cG) (O:∀d s H,PG (bH X scope NC d s H) t1 g1)
  (P:∀d s H,kJ (bH X scope NC d s H) f1 bW) (R:∀d s H,PE (bH X scope NC d s H) kx tk) (S:∀d s H,PE (bH X scope NC d s H) vx tv) (Y:∀env x,f8 i1 env x=pure x)
  (Z:∀D,i D=none->SE g tt cG g1 bW tk tv D J Q (k4 src l)^upd i D^.ext^bb D [] [])
  (Ji:∀D n p ay v y,Inv X f l p n->(∀b∈j,eJ X f p b)->Inv (bH X scope NC j n p) [] ay v y->Q (.ref D) v->u (.ref D) n.heap.objs.size (.ok .next) y):
  e_ (ei X.prog X.w) X.A newDict (λacc vT=>e_ (ei X.prog X.w) X.A (kO scope X.env.globals (jG X.env scope.names []) [] X.env.qual none .none^some X.env) (λz vU=>
   hB (ei X.prog X.w) X.A (.compStart (.DictComp kx vx [#[t0,i0,f0,0],#[t1,i1,f1,0]] scope pos) 0 (.ref r) acc {z with scope:=m8 scope X.env}) (u acc z.locals) vU) E vT) E h:=by
 have Sy:(h.heap.objs.size==jk)=false:=by
  have m:gt<h.heap.objs.size:=(k.mod.glob.keeps k.bk).lt;have hs:jk<h.heap.objs.size:=afD ∅ m
  exact UV.mpr^Ne.symm^bS hs
 refine Bt (o0:=λD=> .ext^bb D [] []) Ox C c F k T G I m L M O P (λd s H=>NL B (R d s H)^S d s H) Y (λQ' E' q=>?_) Z Ji;simp only[newDict,newObj];exact a_^wpAny_alloc^mo (q _ (k.laid (a:=h.heap.objs.size) (t':=h.toks) (λ_ _ q=>AC _ q) (bg _) (o:= .ext^bb h.heap.objs.size [] [])^bb.ok #[Sy,_, #[],0,GT _ rfl,#[rfl,rfl,rfl],rfl, .nil]) λb o e=>AC _ e)
def U4(e:X.A.units+64<cLine)(f:X.calm=true)(c:bC X scope)(i:dA scope X.N src NC)(j:PI X t0 i0 wi)
  (k:∀a s H,PG (bH X scope NC a s H) t0 g) (l:∀a s H,kJ (bH X scope NC a s H) f0 tt) (n:∀a s H,PI (bH X scope NC a s H) t1 i1 cG) (o:∀a s H,PG (bH X scope NC a s H) t1 g1)
  (p:∀a s H,kJ (bH X scope NC a s H) f1 bW) (q:∀a s H,PE (bH X scope NC a s H) kx tk) (r:∀a s H,PE (bH X scope NC a s H) vx tv)
  (t:(∀x,f8 i0 X.env x=pure x)<|>xx) (u:(∀env x,f8 i1 env x=pure x)<|>wv):
  PE X (.DictComp kx vx [#[t0,i0,f0,0],#[t1,i1,f1,0]] scope pos)^WU wi g tt cG g1 bW tk tv src:=by
 intro b s w H Q I h;rw[arm_eval_DictComp];refine ade (use:=none) rfl t (gv^c.cells I.ok) c.kind c.names (thn (j b s w H _ I h) λv Y y=>thn y λZ s2 z=>?_);rfl';let⟨it,fp,tn,J,H2,rfl,C,T,E,F,G⟩:=z;ac_rfl
 exact B5 e f c i C T E F k l n o p q r u G λD s3 H3 ay L s' M O d P=>by
  let⟨m,R,B⟩:=d.loc;exact#[m,R,λh' S=>#[.ref D,L,comp_back M O d S,rfl,P]]
end
section
variable {Z:DC} {X:Cx} {kx vx:gc} {tk tv:aX} {scope:Scope} {NC:List fA} {src:List^Option Nat} {wi:jS} {g:eV} {tt:dq} {pos:jP}
def lcWK(g:eV)(e:dq)(f h:aX):List D->DN->List (Int×Int)->List FV->(DN->List (Int×Int)->List FV->Prop)->Prop
 | [],i,a,d,N=>N i a d
 |x::j,i,a,d,N=>g x i λc=>e c λb=>if b=true then f c λk=>h c λl=>∃p fv,k=AX p/\l=Je fv/\p∉a/\a.length<=300/\lcWK g e f h j c (a++ [p]) (d++ [fv]) N else lcWK g e f h j c a d N
def lcWK2(g:eV)(e:dq)(f:jS)(h:eV)(i:dq)(j k:aX):List D->DN->List (Int×Int)->List FV->(List (Int×Int)->List FV->Prop)->Prop
 | [],_,a,c,P=>P a c
 |x::l,m,a,c,P=>g x m λd=>e d λb=>if b=true then f d λn=>lcWK h i j k n d a c λo p q=>lcWK2 g e f h i j k l o p q P else lcWK2 g e f h i j k l d a c P
def V7(b:jS)(g:eV)(c:dq)(d:jS)(e:eV)(f:dq)(h i:aX)(src:List^Option Nat):aX:=λa P=>b a λj=>lcWK2 g c d e f h i j (Bg src a) [] [] λk l=>P^.x^.dj k l
def Mr(Z:DC)(c d:Hp)(a:Addr)(h:DN)(e:List (Int×Int))(i:List FV)(j:St)(H:Hp):Prop:=
 ∃(G:Hp)(f:List (Int×Addr)),aC c G/\aC G H/\aC d H/\(∀b,d b≠none->c b=none->G b=none)/\G a=none/\H a\(.ext^bb a f i)/\fG G f e/\e.Nodup/\eH Z G j h
def Mr.done(c:Mr Z i f a r k h s j)(d:Ext G H i f)(t:f a=none):∃l,Ext G H l j/\Dv Z l (.ref a)^.x^.dj k h:=by
 rfl';let⟨v,m,w,y,A,off,n,B,C,E,J⟩:=c;ac_rfl;refine#[upd v a^.ext^bb a m h,#[(d.gg.trans w).trans^az n _,λb o e=>?_,d.hh.trans A,λb p F=>?_], .x af #[E,m,rfl,C.mono^az n _]]
 .by_cases z:b=a
  .subst z;rw[af] at e;cases e;exact B
  .rw[ag z] at e;exact y _ _ e
 .have q:=gf d.hh p
  rw[ag^λz=>q^by rw[z];exact t]
  exact off b q^d.off b p F
def Mr.begin(s:aC a c)(f:c d=none)(k:eH Z a j i):Mr Z a c d i [] [] j^upd c d^.ext^bb d [] []:=
 #[a,[], .refl _,λb o e=>by rw[ag^au e^s.free f];exact s _ _ e,az f _,λ_ _ h=>h,s.free f,af, .nil,i8,k]
variable {t0 i0 t1 i1:Expr} {f0 f1:List Expr} {cG:jS} {g1:eV} {bW:dq}
def QR:∀σ H Q,d9 Z (V7 wi g tt cG g1 bW tk tv src) σ H Q->WU (tI Z wi) (p6 Z g) (liftT Z tt) (tI Z cG) (p6 Z g1) (liftT Z bW) (d9 Z tk) (d9 Z tv) src σ H Q:=by
 intro σ H Q aM;rfl';let⟨G,ρ,P,s,en,h,q⟩:=aM;ac_rfl;refine#[G,ρ,_,s,en,h,λt hd J M B x1 it r hA=>?_];refine#[λi m dS N=>m=t.length-i/\i<=t.length/\∃C j l,Mr Z M B r C j l dS N/\lcWK2 g tt cG g1 bW tk tv (t.drop i) C j l λj l=>P^.x^.dj j l,#[_,rfl,eE _,_,[],[], .begin x1.sub hA^(en.mono x1.gg).src src,hd],?_];intro i m dS N jx;rfl';let⟨rfl,hi,C,j,l,c,hl⟩:=jx;ac_rfl
 by_cases bZ:i<t.length
 .have c0:=c
  rfl';let⟨G2,u,s1,s2,s3,off,gA,oZ,Va,nd,XX⟩:=c;let⟨go,f,yld⟩:=it G2 N s1 s2 i;ac_rfl;refine .inr #[go bZ,λay O=>∃aK X SM,Mr Z M B r aK X SM ay O/\lcWK2 g tt cG g1 bW tk tv (t.drop (i+1)) aK X SM λj l=>P^.x^.dj j l,λay O n=>#[t.length-(i+1),(by omega),rfl,bZ,n],λx H3 y=>?_]
  rfl';let⟨G3,d,x3,Jl,dv⟩:=yld x H3 bZ y;rw[mD Jl] at hl;ac_rfl;refine#[G3,C,d,_,x3.sub,XX.mono x3.gg,dv,hl,λbF R fb uF=>?_];refine#[G3,bF,_,x3.sub,uF,R,λb w G5 H5 x5=>?_];have E:=x3.trans x5;have uW:∀{G S:Hp},Ext G2 N G S->G r=none:=λx=>x.off r (by rw[oZ];exact λz=>nomatch z) gA
  have yo:∀{G S:Hp},Ext G2 N G S->∀b,B b≠none->M b=none->G b=none:=λx b R h2=>x.off b (gf s3 R)^off b R h2;cases b with
  |false=>exact cv #[bF,j,l,#[G5,u,s1.trans E.gg,E.sub,s3.trans E.hh,yo E,uW E,E.hh _ _ oZ,Va.mono E.gg,nd,uF.mono x5.gg],by simpa using w]
  |true=>
   refine cZ #[G5,bF,_,x5.sub,uF.mono x5.gg,(~~~w),λT YB J1 G6 H6 x6 Hh=>?_]
   have x:=E.trans x6
   refine#[λk m qM F=>m=T.length-k/\k<=T.length/\∃(BS:DN)(Y:List (Int×Int))(Oz:List FV),(∃(G:Hp)(u:List (Int×Addr)),aC G6 G/\aC G F/\aC B F/\(∀b,B b≠none->M b=none->G b=none)/\G r=none/\F r\(.ext^bb r u Oz)/\fG G u Y/\Y.Nodup/\eH Z G qM BS)/\
    lcWK g1 bW tk tv (T.drop k) BS Y Oz λC QN SN=>lcWK2 g tt cG g1 bW tk tv (t.drop (i+1)) C QN SN λj l=>P^.x^.dj j l,
    #[_,rfl,eE _,bF,j,l,#[G6,u, .refl _,x.sub,s3.trans x.hh,yo x,uW x,x.hh _ _ oZ,Va.mono x.gg,nd,(uF.mono x5.gg).mono x6.gg],YB],?_]
   intro k m qM F jx;rfl';obtain⟨rfl,hk,BS,Y,Oz,⟨G7,XW,a1,a2,a3,a4,a5,a6,a7,UM,a8⟩,rO⟩:=jx;ac_rfl;have X1:aC M G6:=s1.trans x.gg
   by_cases z7:k<T.length
   .obtain⟨X4,_,SU⟩:=Hh G7 F a1 a2 k
    refine .inr #[X4 z7,λay O=>∃(aK:DN)(X:List (Int×Int))(SM:List FV),(∃(G:Hp)(u:List (Int×Addr)),aC G6 G/\aC G O/\aC B O/\(∀b,B b≠none->M b=none->G b=none)/\G r=none/\O r\(.ext^bb r u SM)/\fG G u X/\X.Nodup/\eH Z G ay aK)/\
     lcWK g1 bW tk tv (T.drop (k+1)) aK X SM λC QN SN=>lcWK2 g tt cG g1 bW tk tv (t.drop (i+1)) C QN SN λj l=>P^.x^.dj j l,λay O n=>#[T.length-(k+1),(by omega),rfl,z7,n],λy H8 hy=>?_]
    rfl';let⟨G8,d8,x8,Yv,XQ⟩:=SU y H8 z7 hy;rw[mD Yv] at rO;ac_rfl;refine#[G8,BS,d8,_,x8.sub,a8.mono x8.gg,XQ,rO,λCB h9 σ9 B7=>?_];refine#[G8,CB,_,x8.sub,B7,h9,λb w OJ yI y4=>?_];have I:=x8.trans y4;have oA:∀{G S:Hp},Ext G7 F G S->G r=none:=λx=>x.off r (by rw[a6];exact λz=>nomatch z) a5
    have oB:∀{G S:Hp},Ext G7 F G S->∀b,B b≠none->M b=none->G b=none:=λx b R h2=>x.off b (gf a3 R)^a4 b R h2;cases b with
    |false=>exact cv #[CB,Y,Oz,#[OJ,XW,a1.trans I.gg,I.sub,a3.trans I.hh,oB I,oA I,I.hh _ _ a6,a7.mono I.gg,UM,B7.mono y4.gg],by simpa using w]
    |true=>
     refine cZ #[OJ,CB,_,y4.sub,B7.mono y4.gg,(by rw[ir rfl] at w;exact w),λkd Uh v W0 BW K2 Pw=>?_]
     refine#[W0,CB,_,K2.sub,(B7.mono y4.gg).mono K2.gg,Uh,λvd hvd v2 G12 H12 SR aaO=>?_];rfl';let⟨p,fv,rfl,rfl,np,hz,hn⟩:=hvd;let⟨c,rfl,ph⟩:=Pw.AG;obtain rfl:=aaO.Ra;ac_rfl;have A:=(I.trans K2).trans SR;have B9:=SR.gg _ _ ph;refine#[c,XW,Y,Oz,p,fv,rfl,rfl,A.hh _ _ a6,SR.sub _ _ B9,(a7.mono A.gg).mono SR.sub,UM,np,hz,CB,_,_,#[G12,_,a1.trans A.gg,λb o e=>?_,λb o e=>?_,oB A,oA A,af,(a7.mono A.gg).snoc B9,?_,((B7.mono y4.gg).mono K2.gg).mono SR.gg],hn]
     .rw[ag^au e^oA A];exact A.sub _ _ e
     .rw[ag^au e hA];exact(a3.trans A.hh) _ _ e
     .rw[i7]
      refine#[UM,by simp,λa ha b w z=>np ?_]
      rw[eZ] at w;rw[<-w,<-z];exact ha
   .have e:T.drop k= []:=BM ()
    rw[e] at rO;exact .inl #[(Hh G7 F a1 a2 k).2.1 (),BS,Y,Oz,#[G7,XW,X1.trans a1,a2,a3,a4,a5,a6,a7,UM,a8],rO]
 .have e:t.drop i= []:=BM ()
  rfl';rw[e] at hl;let⟨G',x,dv⟩:=c.done x1 hA;let⟨G2,u,s1,s2,f⟩:=c;ac_rfl;exact .inl #[(it G2 N s1 s2 i).2.1 (),q _ hl _ G' N x dv]
def TB(b:X.A.units+64<cLine)(d:X.calm=true)(c:bC X scope)(e:dA scope X.N src NC)(f:DI Z X t0 i0 wi)
  (h:∀a s H,DG Z (bH X scope NC a s H) t0 g) (i:∀a s H,BV Z (bH X scope NC a s H) f0 tt) (j:∀a s H,DI Z (bH X scope NC a s H) t1 i1 cG) (k:∀a s H,DG Z (bH X scope NC a s H) t1 g1)
  (l:∀a s H,BV Z (bH X scope NC a s H) f1 bW) (m:∀a s H,DE Z (bH X scope NC a s H) kx tk) (n:∀a s H,DE Z (bH X scope NC a s H) vx tv)
  (o:(∀x,f8 i0 X.env x=pure x)<|>xx) (p:(∀env x,f8 i1 env x=pure x)<|>wv):
  DE Z X (.DictComp kx vx [#[t0,i0,f0,0],#[t1,i1,f1,0]] scope pos)^V7 wi g tt cG g1 bW tk tv src:=(U4 b d c e f h i j k l m n o p).imp QR
end
end L2
namespace Wb
abbrev Dt:=Nat×Nat
def JQ(h:l≠ []):∃a z,l=a++ [z]:=#[l.dropLast,l.getLast h,(List.dropLast_concat_getLast h).symm]
def rS(w:W)(a:List^List Dt):Prop:=∀r∈a,∃d,gO w d r/\aR w d
def rS.dart(g:Good w)(h:rS w a):∀e∈a.flatten,aR w e:=λe b=>by
 obtain⟨r,c,f⟩:=k9.mp b;obtain⟨d,R,i⟩:=h r c;exact R.ba g i e f
end Wb
namespace L2
open PySem PySem.Spec PyProof.Rows
section
variable {Z:DC} {X:Cx} {md:List Nat} {rn:Nat} {k tg:Expr} {tk:aX} {g:eV} {pos:Pos}
def Xn(d:List Nat)(j:Nat)(e:aX)(g:eV)(f:cJ):cJ:=λE a=>∃b,a[j]?\(some^.lst b)/\e (FF d true a) λh=>∃(n:Int)(c:List D),h= .int n/\gr b n\(.lst c)/\iC g f E c a
def Pq(j:Nat)(z:X.calm=true)(C:PassesOwn (ei X.prog X.w) X.A X.env X.xe)(F:DE Z X k tk)(I:Mu Z X md tg g)(J:lg Z X md rn c l)(L:md.getD j 0=1<|>zn)
  (O:X.N[j]?\y<|>zn) (P:rK X.env.scope y<|>xz) (Q:(y==("__debug__":fA))=false<|>zm) (R:(y==("__classdict__":fA))=false<|>zm)
  (T:pD k<|>wp) (Y:(∀x,f8 (.Subscript (.Name y py) k i) X.env x=pure x)<|>xx):DSt Z X md rn (.For tg (.Subscript (.Name y py) k i) c [] pos)^Xn md j tk g l:=by
 refine(kq C z (kS^cS bQ (pv j O P Q R) F T) I J Y).imp ?_;intro Dn σ H aM;rfl';obtain⟨B,ρ,E,⟨G,fp,S⟩,⟨XM,p,h⟩,M⟩:=aM;ac_rfl;rfl';let⟨v0,q,o⟩:=S.at_ j _ p;ac_rfl;refine#[_,q,S.ev true h ?_];rintro _ ⟨n,ds,rfl,Jj,hf⟩;refine#[rfl,λv G1 H1 e x1 Pu=>?_];rfl';cases Pu.ofInt;let⟨v1,r,s⟩:=e.at_ j _ p;rw[q] at r;cases r;rw[L] at s;let⟨a,xs,oY,sW,rfl,e1,ha,d,ol⟩:=s.one;cases e1;let⟨Up,d⟩:=ol.flat;let⟨u,hu,du⟩:=y9 Up Jj;let⟨b,ys,rfl,t,f⟩:=du.iG;ac_rfl;exact#[a,xs,n, .ref b,rfl,rfl,aL.of ha,hu,b,rfl,#[_,aL.of^e.ex.sub _ _ t],CY e (Hi t f) hf M]
end
end L2
namespace wy
open PySem L2 Wb
variable {P:Program} {w:World} {mg:Str->Option Value} {base:Heap} {Z:DC} (T:Txt Z mg)
def TV{P:D->Prop}(h:P^.bl (decide (i=j))):dC (.int j) a (λb=>MK (.int i) b P):=uB h
def IK(l:List a)(k:Nat)(h:k<=l.length):cutD l (some (k:Int)) none=l.drop k:=by
 unfold cutD
 have b:HT.b7 l.length 0^some (k:Int)=k:=by
  simp only[HT.b7]
  split<;>lia
 have c:HT.b7 l.length l.length none=l.length:=rfl;rw[b,c];exact sI^by simp
def vB{w:W}(h:p<w.length):gr (w.map aB) (p:Int)\(aB^row w p):=hZ^Bu h
def gb{a:List Nat}{p:Nat}(h:p<a.length):gr (a.map ax) (p:Int)\(ax^a.getD p 0):=hZ^by rw[dh,cV,cz h];rfl
theorem E1:∀(b:List Nat)(m:Nat),m<b.idxOf x->b[m]? ≠some x
 | [],m,h=>by simp at h
 |a::b,m,h=>by
  rw[List.idxOf_cons] at h
  by_cases e:(a==x)=true
  .rw[e] at h;simp at h
  .rw[BQ.mpr e] at h
   cases m with
   |zero=>intro z;simp at z;exact e (by simp[z])
   |succ m=>rw[yC];exact E1 b m^~~~h
def JG{a:List Nat}{x:Nat}{P:D->Prop}(h:x∈a)(q:P^ax^a.idxOf x):f6^ax x=true/\(a.map ax).all f6=true/\∃(j:Nat)(z:D),(a.map ax)[j]?\z/\kN z^ax x=true/\(∀(m:Nat) z,m<j->(a.map ax)[m]?\z->kN z^ax x=false)/\P^.int (j:Nat):=by
 have b:=BK.mpr h;have e:a[a.idxOf x]?\x:=by rw[cz b];exact KM some^BO b
 refine#[rfl,h8 _,a.idxOf x,ax x,by rw[dh,e];rfl,by simp[kNi,ax],λm z c d=>?_,q]
 let⟨y,f,rfl⟩:=cw d
 have:y≠x:=by
  rintro rfl;exact E1 _ _ c f
 have:¬((y:Int)=(x:Int)):=()
 simpa [kNi,ax] using this
def km{a:List Nat}{x:Nat}(h:x∈a):(a.map ax)[a.idxOf x]?\(ax x)/\kN (ax x)^ax x=true/\∀(m:Nat) z,m<a.idxOf x->(a.map ax)[m]?\z->kN z^ax x=false:=by
 have:=JG (P:=λd=>d=ax^a.idxOf x) h rfl
 let⟨o,p,j,z,i,k,l,n⟩:=this;have b:=BK.mpr h;have e:a[a.idxOf x]?\x:=by rw[cz b];exact KM some^BO b
 refine#[by rw[dh,e];rfl,by simp[kNi,ax],λm z c f=>?_]
 let⟨y,g,rfl⟩:=cw f
 have:y≠x:=by
  rintro rfl;exact E1 _ _ c g
 have:¬((y:Int)=(x:Int)):=()
 simpa [kNi,ax] using this
def Kj(n:Nat):kr 0 n=(ak n).map λ(x:Nat)=>ax x:=by unfold kr ax;simp
theorem A1{g:b->PyData}(h:∀a,(f a).py\(g a)):∀l:List b,fR^l.map f\(l.map g)
 | []=>rfl
 |a::l=>by
  have:=A1 h l
  rw[cH,fR,h a,this];rfl
def vz(r:List Nat):(aB r).py\(vA r):=by
 unfold aB vA;rw[D.py,A1 (g:=nD)^λn=>rfl];rfl
def zW(a b:List Nat):PyData.eqv (vA a)^vA b=decide (a=b):=by
 by_cases e:a=b
 .rw[FM e];exact(CP a b).mpr e
 .rw[GE e]
  apply BQ.mpr;exact λz=>e^(CP a b).mp z
def uC{v w:List Nat}{P:D->Prop}(h:P^.bl (decide (v=w))):MK (aB v) (aB w) P:=by
 refine#[_,_,vz v,vz w,by have:=pL v;lia,?_]
 rw[tz eD,zW];exact h
def O6{v w:List Nat}{P:D->Prop}(h:P^.bl (!decide (v=w))):IQ (aB v) (aB w) P:=by
 refine#[_,_,vz v,vz w,by have:=pL v;lia,?_]
 rw[ir rfl,zW];exact h
def JU{P:D->Prop}(h:P^.bl (!decide (i=j))):dC (.int j) a (λb=>IQ (.int i) b P):=Gu h
variable {P:Program} {w:World} {mg:Str->Option Value} {base:Heap} {Z:DC} (T:Txt Z mg)
theorem xP{P:D->Prop}(g:L.length<64)(h:∀M:List Nat,M.Perm L->M.Pairwise (·<=·)->P^aB M):Lf [aB L] P:=by
 refine#[L.map λ(n:Nat)=>(n:Int),by unfold aB;rw[cC];rfl,by rw[aG];exact g,λc f srt=>?_]
 have e:∀m∈c,((m.toNat:Nat):Int)=m:=λm d=>by
  let⟨n,k,rfl⟩:=cE.mp^f.mem_iff.mp d;simp
 have i:(c.map Int.toNat).Perm L:=by
  have:=f.map Int.toNat
  rw[cC] at this;rw[show(Int.toNat∘λ(n:Nat)=>(n:Int))=id from by funext n;simp] at this
  simpa using this
 have:=h (c.map Int.toNat) i (by
  rw[iR];exact srt.imp λ {a b} j=>Int.toNat_le_toNat j)
 unfold aB at this;rw[cC] at this;rw[show c.map D.int=c.map (ax∘Int.toNat) from D2 λm d=>by show D.int m=ax m.toNat;unfold ax;rw[e m d]]
 exact this
def tP(k:Nat×Nat):PyData:= .tuple [nD k.1,nD k.2]
def RP(k:Nat×Nat):(pairD k).py\(tP k):=by
 unfold pairD;rw[D.py,fR,fR,fR];rfl
def CO(a b:Nat×Nat):PyData.eqv (tP a)^tP b=true↔a=b:=by
 unfold tP nD;simp[PyData.eqv,PyData.eqvAll]
 constructor
 .rintro⟨c,d⟩;exact acY () ()
 .rintro rfl;exact#[rfl,rfl]
variable {P:Program} {w:World} {mg:Str->Option Value} {base:Heap} {Z:DC} (T:Txt Z mg)
def zz(d:Nat×Nat):Int×Int:=(d.1,d.2)
def Mq(h:zz a=zz b):a=b:=acY (by have:=(adw h).1;lia)^by have:=(adw h).2;lia
def rD{d:Nat×Nat}{l:List (Nat×Nat)}:zz d∈l.map zz↔d∈l:=by
 rw[cE];exact#[λ#[a,b,e]=>by rw[<-Mq e];exact b,λh=>#[d,h,rfl]]
def Vz:di:=λb P=>∃(w:W),b= [.gI w]/\Good w/\w.length<=14/\∀a:List (Nat×Nat),a.Perm^cM (row w) w.length->a.Pairwise lexLe->P^.lst^a.map pairD
theorem Wt(I:DN->Prop)(J:n->DN->Prop)(l:n->D)(f:n->List t)(u:t->D)(p:n->t->Bool)(k:n->t->A)(d:A->D)(F:∀y G,J y G->I G):∀(j:List n)(i:DN)(acc:List A)(P:List D->Prop),
  (∀y∈j,∀i,I i->∀(Y:DN->List D->Prop),(∀a,J y a->Y a^(f y).map u)->g (l y) i λa=>x a^Y a)->
  (∀y∈j,∀b∈f y,∀i,J y i->∀(Y:DN->D->Prop)(v:DN->Prop),(∀a,J y a->p y b=true->Y a^d^k y b)->(∀a,J y a->p y b=false->v a)->q (u b) i λa=>r a λc=>if c=true then s a^Y a else v a)->
  I i->acc.length+(j.flatMap λy=>((f y).filter^p y).map^k y).length<=sizeLine->(∀y∈j,acc.length+(j.flatMap λy=>((f y).filter^p y).map^k y).length+(f y).length<=sizeLine)->P^(acc++j.flatMap λy=>((f y).filter^p y).map^k y).map d->rX g oH x q r s (j.map l) i (acc.map d) P
 | [],i,acc,P,_,_,H,_,_,h=>by
  show P^acc.map d;simpa using h
 |y::j,i,acc,P,L,M,H,m,N,h=>by
  have B:=N y (dH ..);rw[xT,dg] at m B;refine L y (dH ..) i H (λa O=>lcW q r s O a (acc.map d) λo Q=>rX g oH x q r s (j.map l) o Q P) λa C=>?_;refine jB (J y) u (p y) (λb=>d^k y b) (f y) a (acc.map d) _ (λb R o E Y v S X=>?_) C (by rw[aG];lia) λo E=>?_
  .exact M y (dH ..) b R o E Y v S X
  .have e:acc.map d++((f y).filter^p y).map (λb=>d^k y b)=(acc++((f y).filter^p y).map^k y).map d:=by rw[b9,cC];rfl
   rw[e];refine Wt I J l f u p k d F j o (acc++((f y).filter^p y).map^k y) P (λz m=>L z^fq _ m) (λz m=>M z^fq _ m) (F y o E) (by rw[dg];lia) (λz m=>?_) ?_
   .have:=N z^fq _ m
    rw[xT,dg] at this;rw[dg];lia
   .rw[xT] at h
    rw[k8];exact h
def gE:FnOk P w Z.K mg base fe 1 T.v9.f T.v9.fd ["self"]^aW Z Vz:=by
 have L:=vI.nd;refine bz T.v9.F vI [0] ∅ (λu R h=>by obtain⟨_,rfl,_⟩:=h;rfl)^λM A outer s H E u R v h=>?_
 have N:=v.units;refine#[_,(aw^aV^aU CD rfl T.B.sorted je^aa (TC (NC:= ["p","row","q"]) (src:= [none,none,none]) rfl (sQ^aq lQ) trivial (eW rfl T.B.enumerate^aa (zR T.W^U 0) ah) (λ_ _ _=>(qP 2 rfl^eS (bL 0 (show(["p","row","q"]:List fA).Nodup from by decide+kernel))^eS (bL 1 (show(["p","row","q"]:List fA).Nodup from by decide+kernel)) mB)) (λ_ _ _=>eX) (λ_ _ _=>(bM^U 1)) (λ_ _ _=>(bL 2 (show(["p","row","q"]:List fA).Nodup from by decide+kernel))) (λ_ _ _=>(uE^bI AE (U 0) (U 2)^aY _))^λ_ _ _=>(bO^aa (U 0)^aa (U 2) ah)) ah),?_]
 let⟨a,rfl,g,h14,q⟩:=h
 have x:eO^a.map aB=(ak a.length).map λ(j:Nat)=>D.tup [.int (j:Int),aB^row a j]:=by
  refine qI λj=>?_;rw[dh]
  by_cases lt:j<a.length
  .rw[wd lt]
   cases e:(eO^a.map aB)[j]? with
   |none=>
    have:=List.getElem?_eq_none_iff.mp e
    rw[jh,aG] at this;lia
   |some d=>rw[(yy e).2];rfl
  .rw[fm^by rw[jh,aG];lia,fm^by rw[jQ];lia];rfl
 have k:((ak a.length).flatMap λp=>((row a p).filter λq=>decide (p<q)).map λq=>(p,q))=cM (row a) a.length:=rfl
 have z:∀n,n<=a.length->(cM (row a) n).length<=n*14:=λn=>by
  induction n with
  |zero=>intro _;exact bg _
  |succ n C=>
   intro h
   have:=C ()
   have O:=fC g n;have Q:=F2 (λq=>decide (n<q))^row a n;unfold cM at this ⊢;rw[aeg,List.flatMap_append,dg];simp only[xT,List.flatMap_nil,e8,aG];lia
 have G:=z a.length^bg _;exists _,rfl,a,rfl;refine(?_:rX _ _ _ _ _ _ (eO^a.map aB) _ _ _);rw[x];refine Wt (λi=>∃o r c,i= [o,r,c]) (λp i=>∃c,i= [some^ax p,some^aB^row a p,c]) _ (λp=>row a p) ax (λp q=>decide (p<q)) (λp q=>(p,q)) pairD (λy i #[c,e]=>#[_,_,_,e]) (ak a.length) _ [] _ (λp t I l Y m=>?_) (λp t b S I l Y X m J=>?_) #[none,none,none,rfl] ?_ (λp t=>?_) ?_
 .obtain⟨o,r,c,rfl⟩:=l
  exact#[rfl,rfl,_,rfl,m _ #[_,rfl]]
 .obtain⟨c,rfl⟩:=l
  exists _,rfl,_,rfl,_,rfl;refine(?_:if decide ((p:Int)<(b:Int))=true then _ else _);rw[show decide ((p:Int)<(b:Int))=decide (p<b) from ad0.mpr ()]
  exact fu (λe=>#[_,rfl,_,rfl,by show 2<=sizeLine;decide,m _ #[_,rfl] e])^λe=>J _ #[_,rfl] e
 .rw[k,qK,ja];exact small ()
 .have:=fC g p
  rw[k,qK,ja];exact small ()
 .rw[k,sM]
  exact#[_,rfl,(),q]
def Od:di:=λa P=>∃(w:W)(p q:Nat),a= [.gI w,ax p,ax q]/\Good w/\q∈row w p/\P^ax^eQ (row w p) q
def qc:FnOk P w Z.K mg base fe 1 T.vb.f T.vb.fd ["self","p","q"]^aW Z Od:=by
 have e:=qp.nd;refine bz T.vb.F qp [0,0,0,0] ∅ (λk R h=>by let⟨v,x,y,rfl,z⟩:=h;rfl)^λr A outer s H E k R l h=>?_
 have t:=l.units
 refine#[_,(ar (bG false 3 e^fz (zR T.W^U 0)^U 1)
   (aw^aV^fz (U 3)^fP zi (fP lP (CJ (U 3)^U 2) aP)^aU dM rfl T.B.len dJ^aa (U 3) ah)),?_]
 let⟨a,p,b,rfl,g,c,q⟩:=h;have m:=gH c;have u:=fC g p;have d:((row a p).map ax).length=(row a p).length:=aG _;have pos:0<(row a p).length:=sH c;have n:(0:Int)<(((row a p).map ax).length:Int):=by rw[d];lia
 exists _,rfl,a,rfl,_,rfl,_,vB m,trivial;exists _,rfl,_,rfl,_,rfl,_,rfl,rfl,h8 _,_,_,(km c).1,(km c).2.1,(km c).2.2;exists _,rfl,n;have em:(((row a p).idxOf b:Nat):Int)+1=(((row a p).idxOf b+1:Nat):Int):=()
 have o:((((row a p).idxOf b:Nat):Int)+1)%(((row a p).map ax).length:Int)=((((row a p).idxOf b+1)%(row a p).length:Nat):Int):=by rw[d,em,ae4]
 refine#[ax^eQ (row a p) b,?_,q];show gr ((row a p).map ax)^(λi j=>i%j) _ _=_;dsimp only;rw[o];exact gb^qG _ pos
def CI{P:D->Prop}(h:P^.bl (!decide (a=b))):IQ (pairD a) (pairD b) P:=by
 refine#[_,_,RP a,RP b,by unfold tP nD;simp[PyData.depth,PyData.depthAll],?_]
 have:PyData.eqv (tP a)^tP b=decide (a=b):=by
  by_cases e:a=b
  .rw[FM e];exact(CO a b).mpr e
  .rw[GE e]
   apply BQ.mpr;exact λz=>e^(CO a b).mp z
 rw[ir rfl,this];exact h
def Be:di:=λa P=>∃(w:W)(d:Nat×Nat),a= [.gI w,pairD d]/\Good w/\w.length<=14/\aR w d/\∀r,gO w d r->P^.lst^r.map pairD
def AR:Dk P w base 2 T.u2^aW Z Be:=by
 have f:=qv.nd;refine bz T.u2.F qv [0,0,1,0,0] ∅ (λr R h=>by let⟨D,G,rfl,I⟩:=h;rfl)^λy A outer s H E r R l h=>?_
 have t:=l.units
 refine#[_,(ar (jA 2 f^jz^aa (U 1) ah)
   (ar (Ek (U 1)^dO 2 rfl^aJ (aI 3 f)^aJ (aI 4 f) bT)
   (ar (Lp 3 4 rfl f^aa (U 4)^aa (Gw T.W (U 0) T.vb.m (qc T) (l.mono ∅) T.vb.b^aa (U 4)^aa (U 3) ah) ah)
   (ar (qR FS (bI (qb t) (bO^aa (U 3)^aa (U 4) ah) (U 1)^aY _)^ar (nq false 2^bO^aa (U 3)^aa (U 4) ah)
   (aw^Lp 3 4 rfl f^aa (U 4)^aa (Gw T.W (U 0) T.vb.m (qc T) (l.mono ∅) T.vb.b^aa (U 4)^aa (U 3) ah) ah))
   (aw^aV^U 2))))),?_]
 let⟨a,d,rfl,g,h14,n,q⟩:=h;have z:=fZ g;have B:a.length*a.length<=14*14:=wo h14 h14;refine#[_,rfl,by show 1<=sizeLine;decide,?_]
 exists _,rfl,rfl,rfl;exists _,rfl,_,rfl,a,rfl,_,rfl,_,rfl,a,d.2,d.1,rfl,g,g.sym _ _ n,_,_,rfl;refine oE (λm u=>∃k,0<k/\m+k=(ba a).length+1/\(∀j,0<j->j<k->dD a j d≠d)/\u= [some^.gI a,some^pairD d,some^.lst^(walk a d k).map pairD,some^ax (dD a k d).1,some^ax (dD a k d).2]) (ba a).length #[1,(),rfl,λj i p=>by lia,rfl] ?_
 rintro m _ ⟨k,v,C,o,rfl⟩;have x:=ig g n k;refine#[_,rfl,_,rfl,by show 2<=sizeLine;decide,_,rfl,?_]
 refine(?_:IQ (pairD^dD a k d) (pairD d) _);refine CI #[_,rfl,fu (λe=>?_)^λe=>?_]
 .have ne:dD a k d≠d:=by simpa using e
  have lt:k<(ba a).length:=by
   have:=vV g n (k:=k+1) λj i p=>by
    by_cases c:j=k
    .subst c;exact ne
    .exact o j i ()
   lia
  refine#[_,rfl,_,rfl,_,rfl,by show 2<=sizeLine;decide,trivial,bA^by rw[aG,jw];lia,?_]
  exists _,rfl,_,rfl,a,rfl,_,rfl,_,rfl,a,(dD a k d).2,(dD a k d).1,rfl,g,g.sym _ _ x,_,_,rfl;refine#[m-1,(),k+1,(),(),λj i p=>?_,?_]
  .by_cases c:j=k
   .subst c;exact ne
   .exact o j i ()
  .rw[tY,b9];rfl
 .have e:dD a k d=d:=by simpa using e
  exact#[_,rfl,q _ #[k,v,e,o,rfl]]
def zh(a:List^List (Nat×Nat)):D:= .lst^(a.map λr=>r.map (·.1)).map aB
def HZ:di:=λb P=>∃(w:W),b= [.gI w]/\Good w/\1<=w.length/\w.length<=14/\(w.length=1->P^.lst [aB [0]])/\(2<=w.length->∀a,cg w a->w9 w=iD a->P^.lst^(w9 w).map aB)
def Nt(h:d∉l):He (l.map zz)^zz d=(l++ [d]).map zz:=by
 unfold He;rw[tz^λz=>h^rD.mp z,b9];rfl
def xB:Dk P w base 3 T.u3^aW Z HZ:=by
 have G:=DP.nd;refine bz T.u3.F DP [0,98,1,0,0,0] ∅ (λu R h=>by let⟨K,rfl,V⟩:=h;rfl)^λaT A outer s H E u R n h=>?_
 have O:=n.units
 refine#[_,(ar (dB (bI (jW O) (gw T.W (U 0) T.v7.m (nZ T) (n.mono ∅) T.v7.b) aP^aY _) (aw^aV^nk^aa (nk^aa aP ah) ah) bx)
   (ar (MU 1 G rfl T.u0)
   (ar (jA 2 G^jz ah)
   (ar (cu rfl FS (bM^aU CD rfl T.B.sorted je^aa (fP lP (gw T.W (U 0) T.v9.m (gE T) (n.mono ∅) T.v9.b)^sS (NC:= ["a","b"]) (src:= [none,none]) rfl (sQ^aq ql) trivial (bM^gw T.W (U 0) T.v9.m (gE T) (n.mono ∅) T.v9.b) (λ_ _ _=>(qP 2 rfl^eS (bL 0 (show(["a","b"]:List fA).Nodup from by decide+kernel))^eS (bL 1 (show(["a","b"]:List fA).Nodup from by decide+kernel)) mB)) (λ_ _ _=>eX)^λ_ _ _=>(bO^aa (U 1)^aa (U 0) ah)) ah) (aI 3 G)^aw^dB (bI (J4 O) (U 3) (U 1)^by with_unfolding_all rfl) (ar (bG false 4 G^aH T.u2 (AR T) n^aa (U 0)^aa (U 3) ah)
   (ar (cu rfl FS (bM^U 4) (aI 5 G)^aw^Po false 1 O^U 5)
   (aw^nq false 2^sS (NC:= ["p","q"]) (src:= [none,none]) rfl (sQ^aq ql) trivial (bM^U 4) (λ_ _ _=>(qP 2 rfl^eS (bL 0 (show(["p","q"]:List fA).Nodup from by decide+kernel))^eS (bL 1 (show(["p","q"]:List fA).Nodup from by decide+kernel)) mB)) (λ_ _ _=>eX)^λ_ _ _=>(U 0)))) bx)
   (aw^aV^aU (IJ O) rfl T.B.sorted je^aa (U 2) ah))))),?_]
 let⟨j,rfl,g,h1,h14,q1,q2⟩:=h;have c1:=fZ g;have c2:j.length*j.length<=14*14:=wo h14 h14;have lw:(j.map aB).length=j.length:=aG _;exists _,rfl,j,rfl,j,rfl;refine TV #[_,rfl,fu (λe=>?_)^λe=>?_]
 .have e:j.length=1:=by have:=IR e;lia
  exact#[by show 1<=sizeLine;decide,by show 1<=sizeLine;decide,q1 e]
 have n2:2<=j.length:=by have:=SB e;lia
 refine#[by show 0<=sizeLine;decide,?_]
 refine#[_,rfl,j,rfl,j,rfl,g,h14,λts C srt=>?_];have tl:=KL g;rw[<-zQ] at tl;have tl2:=C.length_eq;refine#[_,rfl,j,rfl,j,rfl,g,h14,λv Vd Mc=>?_];have e2:v=ts:=ac3 (λ_ _ _ _=>mL) Mc srt^Vd.trans C.symm;subst e2;refine jB (λy=>∃I J,y= [I,J]) pairD (λ_=>true) (λt=>pairD (t.2,t.1)) v _ [] _ (λt ht X L Y Nn hY hN=>?_) #[none,none,rfl] (by rw[qK,ja];exact small ()) λX L=>?_
 .obtain⟨I,J,rfl⟩:=L
  exact#[rfl,rfl,Mo #[_,rfl,_,rfl,by show 2<=sizeLine;decide,hY _ #[_,_,rfl] rfl]]
 have pd:=IG g C;have pl:=pd.length_eq;rw[dg,aG] at pl;have ef:v.filter (λ_=>true)=v:=by simp
 rw[sM,ef];refine#[by rw[aG,aG];exact small (),?_]
 have ej:(.lst (v.map pairD++v.map λt=>pairD (t.2,t.1)):D)= .lst^(v++v.map λt=>(t.2,t.1)).map pairD:=by rw[b9,cC];rfl
 dsimp only[lH];rw[ej];refine#[_,rfl,by rw[dg,aG];lia,λu Q abZ=>?_]
 have Q:=Q.trans pd;have all:∀e,aR j e->e∈u:=λe h=>Q.mem_iff.mpr^bh.mpr h;have dart:∀e∈u,aR j e:=λe h=>bh.mp^Q.mem_iff.mp h;clear C Vd srt Mc ej pd ef;refine bN (λi y=>∃(f:List^List (Nat×Nat))(o3 o4 p:Option D),y= [some^.gI j,some^.x^.vw (gY w)^f.flatten.map zz,some^zh f,o3,o4,p]/\Wk j u i f) #[[],none,none,none,rfl,Wk.zero j u] ?_ ?_
 .rintro i d _ hd ⟨f,o3,o4,p,rfl,hw⟩ A S
  let⟨e,he,rfl⟩:=cw hd;have de:=dart e^cL he;exists _,rfl,_,rfl,zz e,f.flatten.map zz,rfl,rfl,_,rfl;refine(?_:if (if true=true then !decide (zz e∈f.flatten.map zz) else _)=true then _ else _);rw[ir rfl,show decide (zz e∈f.flatten.map zz)=decide (e∈f.flatten) from ad0.mpr rD]
  have sub:∀x∈f.flatten,x∈ba j:=λx q=>by
   let⟨r,n,Y0⟩:=k9.mp q;let⟨d,R,dd,K⟩:=hw.rnd r n;exact bh.mpr^R.ba g dd x Y0
  have fl:=bf hw.nod sub;refine fu (λc=>?_)^λc=>?_
  .have c:e∉f.flatten:=by simpa using c
   refine#[_,rfl,_,rfl,j,e,rfl,g,h14,de,λr R=>#[trivial,?_]];have N:=hw.take g all dart abZ he c R;have rd:∀x∈r,x∈ba j:=λx q=>bh.mpr^R.ba g de x q;have rl:=bf (R.nodup g de) rd;have Zc:(f.flatten++r).Nodup:=by have:=N.nod;rw[we] at this;simpa using this
   have TZ:(f.flatten++r).length<=(ba j).length:=bf Zc λx q=>(cP.mp q).elim (sub x)^rd x;rw[dg] at TZ;exists _,rfl;refine bN (λk y=>∃p,y= [some^.gI j,some^.x^.vw (gY w)^(f.flatten++r.take k).map zz,some^zh f,some^pairD e,some^.lst^r.map pairD,p]) #[p,by rw[t6,e8];rfl] ?_ ?_
   .rintro k d _ hd ⟨p,rfl⟩ A S
    let⟨x,q,rfl⟩:=cw hd;have hk:=(cR.mp q).1;have tk:r.take (k+1)=r.take k++ [x]:=by rw[wq,q];rfl
    have nx:x∉f.flatten++r.take k:=λz=>by
     have sp:f.flatten++r=(f.flatten++r.take k)++(x::r.drop (k+1)):=by
      rw[k8,<-cR.mp q|>.2,adO,k7]
     rw[sp] at Zc;exact(i7.mp Zc).2.2 x z x (dH ..) rfl
    refine#[_,rfl,_,rfl,zz x,rfl,by rw[aG,dg,iS];lia,?_]
    rw[Nt nx,k8,<-tk];exact S _ #[_,rfl]
   .rintro _ ⟨p,rfl⟩
    rw[aG,qJ]
    have dl:f.length<=300:=by
     have h:∀o:List^List (Nat×Nat),(∀r∈o,r≠ [])->o.length<=o.flatten.length:=λo=>by
      induction o with
      |nil=>intro _;exact bg _
      |cons a l ih=>
       intro h;have h1:=F4.mpr^h a (dH ..);have h2:=ih λr n=>h r^fq _ n;rw[yE,dg,dU];lia
     have:=h f λr n z=>by
      let⟨d,R,K,V⟩:=hw.rnd r n
      have:=R.first
      rw[z] at this;cases this
     lia
    exists _,rfl,_,rfl;refine jB (λy=>∃I J,y= [I,J]) pairD (λ_=>true) (λt=>ax t.1) r _ [] _ (λt ht X L Y Nn hY hN=>?_) #[none,none,rfl] (by rw[qK,ja];exact small ()) λX L=>?_
    .obtain⟨I,J,rfl⟩:=L
     exact#[rfl,rfl,Mo #[_,rfl,hY _ #[_,_,rfl] rfl]]
    rw[sM,show r.filter (λ_=>true)=r by simp]
    refine#[trivial,bA^by rw[aG,aG];lia,?_]
    refine S _ #[f++ [r],some^pairD e,some^.lst^r.map pairD,p,?_,N]
    have e1:zh (f++ [r])= .lst ((f.map λr=>r.map (·.1)).map aB++ [.lst (r.map λt=>ax t.1)]):=by
     unfold zh aB;rw[b9,b9];simp only[cH,xW,cC];rfl
    rw[e1,we,show[r].flatten=r by simp];rfl
  .have c:e∈f.flatten:=by simpa using c
   exact S _ #[f,_,_,_,rfl,hw.skip he c]
 .rintro _ ⟨f,o3,o4,p,rfl,hw⟩
  have hw:Wk j u u.length f:=by rw[aG] at hw;exact hw
  have fin:=hw.fin g all;have R:cg j f:=#[hw.rnd,fin]
  have dl:f.length<=300:=by
   have h:∀o:List^List (Nat×Nat),(∀r∈o,r≠ [])->o.length<=o.flatten.length:=λo=>by
    induction o with
    |nil=>intro _;exact bg _
    |cons a l ih=>
     intro h;have h1:=F4.mpr^h a (dH ..);have h2:=ih λr n=>h r^fq _ n;rw[yE,dg,dU];lia
   have:=h f λr n z=>by
    let⟨d,R,K,V⟩:=hw.rnd r n
    have:=R.first
    rw[z] at this;cases this
   have:=fin.length_eq
   lia
  refine#[_,rfl,f.map^λr=>r.map (·.1),rfl,by rw[aG];lia,λM C srt=>?_]
  let⟨o,p',rfl⟩:=L2.ko (λr:List (Nat×Nat)=>r.map (·.1)) M f C;have R':=R.Rc p';have e:=C8 g R' srt
  have:=q2 n2 o R' e
  rw[e] at this;exact this
variable {P:Program} {w:World} {mg:Str->Option Value} {base:Heap} {Z:DC} (T:Txt Z mg)
def vO(l:List Nat):List (Nat×Nat):=(ak l.length).map λk=>(l.getD k 0,l.getD ((k+1)%l.length) 0)
def K6(l:List Nat):l.zip (l.drop 1++l.take 1)=vO l:=by
 refine qI λi=>?_;unfold vO;rw[dh]
 by_cases h:i<l.length
 .rw[wd h,BH]
  refine aeQ.mpr #[by rw[cV,cz h];rfl,?_]
  by_cases c:i+1<l.length
  .rw[gJ^by rw[oS];lia,D3,wj c,show 1+i=i+1 by lia,cz c];show _\(l.getD (i+1) 0);rw[cV,cz c];rfl
  .have e:i+1=l.length:=()
   rw[iQ^by rw[oS];lia,oS,e,aef,show i-(l.length-1)=0 by lia]
   cases l with
   |nil=>simp at h
   |cons a l=>rfl
 .rw[fm^by rw[List.length_zip,dg,oS,iS];omega,fm^by rw[jQ];lia];rfl
def rR(l:List Nat):List (Nat×Nat):=if 1<l.length then vO l else[]
def Bf:di:=λa P=>∃(l:List Nat),a= [aB l]/\l.length<=300/\P^.lst^(rR l).map pairD
def uX:Dk P w base 1 T.uf^aW Z Bf:=by
 have f:=vL.nd;refine bz T.uf.F vL [0] ∅ (λd R h=>by let⟨m,rfl,n⟩:=h;rfl)^λg A outer s H E d R e h=>?_
 have i:=e.units;exists _,(aw^aV^XA (bI Zm (aU dM rfl T.B.len dJ^aa (U 0) ah) aP^aY _) (Gv rfl rfl T.B.list rfl T.B.zip^aa (U 0)^aa (fP lP (wF (U 0) (zU aP) zT)^wF (U 0) zT^zU aP) ah)^nk ah);let⟨l,rfl,j,q⟩:=h;have k:(l.map ax).length=l.length:=aG _;unfold rR at q;exists _,rfl,_,rfl;refine(?_:if decide ((1:Int)<((l.map ax).length:Int))=true then _ else _);refine fu (λc=>?_)^λc=>?_
 .have c:1<l.length:=by have:=IR c;lia
  rw[ir c] at q;exists _,rfl,_,rfl,_,rfl;have a:cutD (l.map ax) (some ((1:Nat):Int)) none=(l.drop 1).map ax:=by rw[IK _ _ (),aeE]
  have b:cutD (l.map ax) none^some ((1:Nat):Int)=(l.take 1).map ax:=by rw[zO _ _ (),adQ]
  refine#[small^by rw[show cutD (l.map ax) (some 1) none=_ from a,show cutD (l.map ax) none^some 1=_ from b,aG,aG,oS,iS];lia,?_]
  refine(?_:R^.lst (((l.map ax).zip (cutD (l.map ax) (some ((1:Nat):Int)) none++cutD (l.map ax) none^some ((1:Nat):Int))).map λp=> .tup [p.1,p.2]));rw[a,b,<-b9,List.zip_map,K6,cC];exact q
 .have c:¬1<l.length:=by have:=SB c;lia
  rw[tz c] at q;exact#[by show 0<=sizeLine;decide,q]
def qg(a:List^List (Nat×Nat)):List (Int×Int):=a.flatten.map zz
def iY(n:Nat):List^List (Nat×Nat)->List FV
 | []=> []
 |r::a=>r.map (λ_=>FV.int (n:Int))++iY (n+1) a
def RS(w:W)(a:List^List (Nat×Nat)):Prop:=(w.length=1/\a= [[]])\/(2<=w.length/\cg w a/\w9 w=iD a)
def wN:Nat->List D->List D
 |_,[]=> []
 |n,x::l=> .tup [.int (n:Int),x]::wN (n+1) l
theorem CN:∀(l:List D)(n:Nat),wN n l=l.mapIdx λi x=> .tup [.int ((n+i:Nat):Int),x]
 | [],n=>rfl
 |x::l,n=>by
  rw[List.mapIdx_cons];show _::wN (n+1) l=_;rw[CN l (n+1)]
  congr 1
  congr 1
  funext i x
  rw[show n+1+i=n+(i+1) by lia]
def GG(l:List D):eO l=wN 0 l:=by
 rw[CN];unfold eO
 congr 1
 funext i x
 rw[ja]
theorem HS:∀(c:List (Nat×Nat))(o:Option D)(b:List (Nat×Nat))(d:List FV),(b++c).Nodup->(b++c).length<=300->(∀o,N [some^ax n,x,o] ((b++c).map zz) (d++c.map λ_=>FV.int (n:Int)))->
  lcWK (kj 2) oH (zP 2) (zP 0) (c.map pairD) [some^ax n,x,o] (b.map zz) d N
 | [],o,b,d,_,_,h=>by
  have:=h o
  rw[e8,xW,e8] at this;exact this
 |s::c,o,b,d,f,g,h=>by
  have e:b++s::c=(b++ [s])++c:=by simp
  have i:s∉b:=λm=>by
   rw[i7] at f;exact f.2.2 s m s (dH ..) rfl
  simp only[cH,lcWK,kj,oH, ↓reduceIte];refine#[_,rfl,_,rfl,zz s,FV.int (n:Int),rfl,rfl,(λz=>i^rD.mp z),by rw[aG];rw[dg] at g;lia,?_]
  have:=HS c (some^pairD s) (b++ [s]) (d++ [FV.int (n:Int)]) (e▸f) (e▸g) λo=>by
   have:=h o
   rw[e,cH,show ∀(a:FV)(l:List FV),d++a::l=d++ [a]++l from λa l=>by simp] at this;exact this
  rw[b9] at this;exact this
theorem AD{N:List (Int×Int)->List FV->Prop}:∀(a:List^List Nat)(n:Nat)(e f d:Option D)(b:List (Nat×Nat))(c:List FV),(∀r∈a,r.length<=300)->(b++(a.map rR).flatten).Nodup->(b++(a.map rR).flatten).length<=300->
  N ((b++(a.map rR).flatten).map zz) (c++iY n^a.map rR)->
  lcWK2 (IU 2^zb (kj 0)^zb (kj 1) IT) oH (Pl^sR Bf^IL (zP 1) lH) (kj 2) oH (zP 2) (zP 0) (wN n^a.map aB) [e,f,d] (b.map zz) c N
 | [],n,e,f,d,b,c,_,_,_,h=>by
  rw[xW,List.flatten_nil,e8] at h;unfold iY at h;rw[e8] at h;exact h
 |r::a,n,e,f,d,b,c,j,g,i,h=>by
  rw[cH,yE,<-k8] at g i h;simp only[cH,wN,lcWK2,oH, ↓reduceIte];exists rfl,rfl;exists _,rfl,r,rfl,j r (dH ..);refine HS (rR r) d b c (i7.mp g).1 (by rw[dg] at i;lia) λo=>?_
  refine AD a (n+1) _ _ _ (b++rR r) _ (λx k=>j x^fq _ k) g i ?_;unfold iY at h;rw[<-k8] at h;exact h
def Ku{w:W}(h:gO w d r):vO^r.map (·.1)=r:=by
 refine qI λi=>?_;unfold vO;rw[dh,aG]
 by_cases a:i<r.length
 .have b:r.getD i (0,0)=r[i]:=by rw[cV,cz a];rfl
  rw[wd a,cz a,BH,CZ,CZ,R0 h a,b];rfl
 .rw[fm^by rw[jQ];lia,fm ()];rfl
def Sa{w:W}(g:Good w)(h:gO w d r)(b:aR w d):1<r.length:=by
 obtain⟨k,c,a,_,rfl⟩:=h;rw[jw];apply GM;intro z;obtain rfl:k=1:=()
 have a:qa w d=d:=a;exact kM g b (KM Prod.fst a).symm
theorem rz{w:W}(g:Good w)(R:cg w a):(iD a).map rR=a:=by
 unfold iD;rw[cC];refine(D2 (g:=id) λr c=>?_).trans^List.map_id _;let⟨d,b,e,f⟩:=R.rnd r c;show rR^r.map (·.1)=r;unfold rR;rw[ir^by rw[aG];exact Sa g b e,Ku b]
def rq{w:W}(g:Good w)(h14:w.length<=14)(R:cg w a):a.flatten.Nodup/\a.flatten.length<=196/\∀r∈a,r.length<=196:=by
 have c:=fZ g;have d:w.length*w.length<=14*14:=wo h14 h14;have e:=R.perm.length_eq;refine#[R.perm.nodup_iff.mpr^dN g,(),λr b=>?_]
 have:=(K8 b).length_le
 lia
def Ky:di:=λb P=>∃(w:W),b= [.gI w]/\Good w/\1<=w.length/\w.length<=14/\∀a,RS w a->P^.x^.dj (qg a)^iY 0 a
def mQ:Dk P w base 4 T.ug^aW Z Ky:=by
 have y:=mX.nd;refine bz T.ug.F mX [0] ∅ (λk R h=>by let⟨C,rfl,D⟩:=h;rfl)^λz A outer s H E k R f h=>?_
 have l:=f.units;refine#[_,(aw^aV^TB (NC:= ["number","land","side"]) (src:= [none,none,none]) l rfl (sQ^aq gX) trivial (eW rfl T.B.enumerate^aa (aH T.u3 (xB T) f^aa (U 0) ah) ah) (λ_ _ _=>(qP 2 rfl^eS (bL 0 (show(["number","land","side"]:List fA).Nodup from by decide+kernel))^eS (bL 1 (show(["number","land","side"]:List fA).Nodup from by decide+kernel)) mB)) (λ_ _ _=>eX) (λ_ _ _=>(bM^aH T.uf (uX T) f^aa (U 1) ah)) (λ_ _ _=>(bL 2 (show(["number","land","side"]:List fA).Nodup from by decide+kernel))) (λ_ _ _=>eX) (λ_ _ _=>(U 2))^λ_ _ _=>(U 0)),?_]
 let⟨m,rfl,g,n,h14,q⟩:=h;refine#[_,rfl,m,rfl,g,n,h14,λo=>?_,λp d R e=>?_]
 .have:=AD (N:=λt u=>R^.x^.dj t u) [[0]] 0 none none none [] [] (λr f=>by rw[eZ] at f;subst f;decide) ∅ ∅^q [[]]^.inl #[o,rfl]
  rw[<-GG] at this;exact this
 .obtain⟨a,b,c⟩:=rq g h14 R
  have i:=rz g R;rw[e];refine(?_:lcWK2 _ _ _ _ _ _ _ (eO^(iD d).map aB) _ _ _ _);rw[GG];refine AD (iD d) 0 none none none [] [] (λr f=>?_) (by rw[i];exact a) (by rw[i];show d.flatten.length<=300;lia)^by rw[i];exact q d^.inr #[p,R,e]
  let⟨j,v,rfl⟩:=cE.mp f
  have:=c j v
  show(j.map (·.1)).length<=300;rw[aG];lia
end wy
namespace t8
open PySem L2
def top(i:Nat):Stmt:=PySem.Challenge.pw_mapdye_k72_whole_there_and_back.main.body.getD i^.Pass #[0,0,0,0]
abbrev A6:Stmt:=top 35
abbrev zk:Stmt:=top 36
abbrev A7:Stmt:=top 37
abbrev xM:Stmt:=top 38
def Vu(K:ad):Sp:=λd H Q _=>∃(a:Addr)(b:List Int)(k:Int),d= [.ref a, .int k]/\aL K H a^b.map V.int/\b.length<=63/\0<=k/\k<=100/\∀(v:Int)(c:Hp),aC H c->Q (.int v) c
section
variable {P:Program} {w:World} {K:ad} {mg:Str->Option Value} {base:Heap}
def Vr:aE ["_law_script","_law_k"] ["_law_script","_law_k"]^aq A6:=by bv_omega
def AN(D:bK K mg "_law_cell" A6 ["_law_script","_law_k"]):FnOk P w K mg base fe 1 D.f D.fd ["_law_script","_law_k"]^Vu K:=by
 refine D.F.ok Vr (λn H Q E h=>?_)^λC A outer s H n Q E G h=>?_
 .obtain⟨a,b,k,rfl,_⟩:=h
  rfl
 let⟨a,b,k,rfl,o,I,J,L,q⟩:=h;refine#[_,bE^iK^cS bQ (c5 Fd (rh vP (pv 0) (qe^pv 1)^qe^c5 iI (pv 1) aZ)^fU^ao aZ aA) aZ^λ_ _=>rfl,?_];refine#[_,rfl,_,rfl,k,rfl,_,rfl,_,_,rfl,rfl,_,rfl,a,_,rfl,o,λp t=>?_];refine#[by show 1<=sizeLine;decide,λg l=>?_]
 have ne:p≠g:=au (af (H:=H) (a:=p)) l;have c:=ng (b.map V.int) (some k)^some (k+1);rw[aG] at c;refine#[p,g,_,_,rfl,rfl,by rw[ag ne];exact af,af,small^by show _+1<=1000;lia,λm i=>?_]
 have u:aC H^upd (upd (upd H p^.lst^i3 (b.map V.int) (some k)^some (k+1)) g^.lst [.int 0]) m^.lst (i3 (b.map V.int) (some k)^some (k+1)++ [.int 0]):=
  (az t _).trans^(az l _).trans^az i _
 have d:∃v:Int,gr (i3 (b.map V.int) (some k)^some (k+1)++ [V.int 0]) 0\(.int v):=by
  have:∀x∈i3 (b.map V.int) (some k)^some (k+1)++ [V.int 0],∃v,x=V.int v:=λx y=>by
   rcases cP.mp y with z|z
   .unfold i3 at z
    let⟨v,M,rfl⟩:=cE.mp^List.mem_of_mem_drop^F3 z;exact#[v,rfl]
   .exact#[0,by simpa using z]
  cases e:i3 (b.map V.int) (some k)^some (k+1)++ [V.int 0] with
  |nil=>simp at e
  |cons x r=>
   let⟨v,rfl⟩:=this x^by rw[e];exact dH
   exact#[v,cX (j:=0) rfl]
 let⟨v,B⟩:=d;exact#[m,_,0, .int v,rfl,rfl,aL.of af,B,q v _ u]
end
def boot_max:bootBuiltins "max"\(.builtin "max"):=by decide+kernel
def boot_min:bootBuiltins "min"\(.builtin "min"):=by decide+kernel
def Su(K:ad):Sp:=λd H Q _=>∃(a:Addr)(b:List Int)(k:Int),d= [.ref a, .int k]/\aL K H a^b.map V.int/\b.length<=63/\∀(v:Int)(c:Hp),aC H c->Q (.int v) c
structure BU (mg:Str->Option Value):Prop where
 len:mg "len"=none
 range:mg "range"=none
 max:mg "max"=none
 min:mg "min"=none
 enumerate:mg "enumerate"=none
 zip:mg "zip"=none
 sorted:mg "sorted"=none
 all:mg "all"=none
 isinstance:mg "isinstance"=none
 int:mg "int"=none
 bool:mg "bool"=none
 list:mg "list"=none
 tuple:mg "tuple"=none
section
variable {P:Program} {w:World} {K:ad} {mg:Str->Option Value} {base:Heap}
def HP:aE ["_law_script","_law_turn","_law_number","_law_k","_law_part"] ["_law_script","_law_turn"]^aq zk:=by bv_omega
def NJ(B:BU mg)(C:bK K mg "_law_cell" A6 ["_law_script","_law_k"])(D:bK K mg "_law_mixed" zk ["_law_script","_law_turn"]):FnOk P w K mg base fe 2 D.f D.fd ["_law_script","_law_turn"]^Su K:=by
 refine D.F.ok HP (λu H Q E h=>?_)^λJ A outer s H u Q E x h=>?_
 .obtain⟨a,c,k,rfl,_⟩:=h
  rfl
 let⟨a,c,k,rfl,r,y,q⟩:=h;have d:=HP.nd
 refine#[_,aF (bU (i:=2) d rfl (Or.inl rfl) aZ)
  (aF (kq FS rfl (n5 rfl B.range^ao (eU (zJ rfl) rfl B.max boot_max^ao aZ^ao (eU (zK rfl) rfl B.min boot_min^ao aZ^ao (eU cT rfl B.len ac7^ao (pv 0) aA) aA) aA) aA) (cx (i:=3) d rfl^Or.inl rfl)
   (aF (bU (i:=4) d rfl (Or.inl rfl)^c5 q0 (c5 rf (c5 iI (c5 iI (c5 iI (c5 q0 (bq (AN C) x rfl C.m C.F.kp C.b .nil bY^ao (pv 0)^ao (pv 3) aA) aZ)^c5 rf aZ^pv 3)^c5 rf aZ^pv 1) aZ) aZ) aZ)
    (bE^bU (i:=2) d rfl (Or.inl rfl)^c5 iI (c5 rf (pv 2) aZ)^c5 q0 (c5 rf (pv 4)^pv 4) aZ)))
  (bE^iK^pv 2)),?_]
 exists _,rfl,a,_,rfl, .inl r,_,_,rfl,_,_,rfl,_,rfl;have z:(c.map V.int).length=c.length:=aG _;rw[z]
 have G:(if (if (c.length:Int)<63 then(c.length:Int) else 63)>12 then(if (c.length:Int)<63 then(c.length:Int) else 63) else 12)<=63/\0<=(if (if (c.length:Int)<63 then(c.length:Int) else 63)>12 then(if (c.length:Int)<63 then(c.length:Int) else 63) else(12:Int)):=by
  repeat' split
  all_goals lia
 generalize (if (if (c.length:Int)<63 then(c.length:Int) else 63)>12 then(if (c.length:Int)<63 then(c.length:Int) else 63) else(12:Int))=n at G;refine#[(),(),nE (λi g j=>∃num l o,g= [some^.ref a,some^.int k,some^.int num,l,o]/\aC H j) #[_,_,_,rfl,aC.refl _] (λi g j L p=>?_)^λg j p=>?_]
 .obtain⟨num,l,o,rfl,e⟩:=p
  have M:(0:Int)+(i:Int)=(i:Int):=()
  refine#[_,rfl,_,rfl,a,c,_,rfl,e.seq r,y,(),(),λv N I=>?_]
  refine#[_,_,rfl,rfl,(by show(0:Int)<2147483647;decide),?_]
  refine#[_,rfl,_,_,rfl,rfl, .inl #[∅,∅],_,_,rfl,rfl,?_]
  refine#[_,rfl,_,_,rfl,rfl, .inl #[∅,∅],_,_,rfl,rfl,_,_,rfl,rfl,?_]
  refine#[_,_,rfl,rfl, .inr #[∅,∅],_,_,rfl,rfl,(by show(0:Int)<2147483647;decide),?_]
  generalize t:((v%2147483647+40692*(0+(i:Int))+7*k+1)*48271)%2147483647=part;have O:0<=part:=by rw[<-t];exact afd _ ∅
  have R:part<2147483647:=by rw[<-t];exact aeB _ ∅
  refine#[_,rfl,_,_,rfl,rfl, .inr #[∅,∅],?_]
  refine#[_,rfl,_,rfl,_,_,rfl,rfl, .inl #[(),()],_,_,rfl,rfl,(by show(0:Int)<2147483629;decide),_,_,rfl,rfl,?_]
  exact#[_,_,_,rfl,e.trans I]
 .obtain⟨num,l,o,rfl,e⟩:=p
  exact#[_,rfl,q _ _ e]
def Og(K:ad):Sp:=λe H Q _=>∃(a:Addr)(d:List Int)(k:Int),e= [.ref a, .int k]/\aL K H a^d.map V.int/\d.length<=63/\0<=k/\k<=100/\
 ∀(r:Addr)(b:List Int)(c:Hp),aC H c->H r=none->c r\(.lst^b.map V.int)->b≠ []->b.length<=2->Q (.ref r) c
def N9:aE ["_law_script","_law_at"] ["_law_script","_law_at"]^aq A7:=by bv_omega
def AO(B:BU mg)(C:bK K mg "_law_cell" A6 ["_law_script","_law_k"])(M:bK K mg "_law_mixed" zk ["_law_script","_law_turn"])(D:bK K mg "_law_digits" A7 ["_law_script","_law_at"]):FnOk P w K mg base fe 3 D.f D.fd ["_law_script","_law_at"]^Og K:=by
 refine D.F.ok N9 (λz H Q E h=>?_)^λL A outer s H z Q E j h=>?_
 .obtain⟨a,c,k,rfl,_⟩:=h
  rfl
 let⟨a,c,k,rfl,l,n,t,u,q⟩:=h;have x:=(AN (P:=P) (w:=w) (base:=base) C).mono (show 1<=2 by decide)
 have y:=NJ (P:=P) (w:=w) (base:=base) B C M
 refine#[_,aF (xE (iL J9 (bq x j rfl C.m C.F.kp C.b .nil bY^ao (pv 0)^ao (pv 1) aA) (c5 UY aZ aZ)^aY _)
   (bE^iK^fU^ao (bq y j rfl M.m M.F.kp M.b .nil bY^ao (pv 0)^ao (pv 1) aA) aA) mU)
  (bE^iK^fU^ao (bq x j rfl C.m C.F.kp C.b .nil bY^ao (pv 0)^ao (pv 1) aA)^ao (bq y j rfl M.m M.F.kp M.b .nil bY^ao (pv 0)^ao (pv 1) aA) aA),?_]
 refine#[_,rfl,_,rfl,a,c,k,rfl,l,n,t,u,λv N d=>?_];refine#[_,_,rfl,rfl,#[∅,∅,∅],_,_,rfl,rfl,_,rfl,?_]
 refine yn (λ_=>?_)^λ_=>?_
 .refine#[_,rfl,_,rfl,a,c,k,rfl,d.seq l,n,λp G o=>?_]
  refine#[by show 1<=sizeLine;decide,λr e=>?_]
  have g:=d.trans o;exact q r [p] _ (g.trans^az e _) (g.free e) af (by simp)^by simp
 .refine#[_,rfl,_,rfl,a,c,k,rfl,d.seq l,n,t,u,λp G o=>?_]
  refine#[_,rfl,_,rfl,a,c,k,rfl,(d.trans o).seq l,n,λI O J=>?_];refine#[by show 2<=sizeLine;decide,λr e=>?_]
  have i:=(d.trans o).trans J;exact q r [p,I] _ (i.trans^az e _) (i.free e) af (by simp)^by simp
def Fv:Sp:=λc H Q _=>∃(l:Addr)(a:List Int)(m:Int),c= [.ref l, .int m]/\H l\(.lst^a.map V.int)/\a≠ []/\a.length<=1000/\0<m/\m<1073741824/\
 ∀(d:Int)(b:List Int),0<=d->d<m->b≠ []->b.length<=a.length->Q (.int d)^upd H l^.lst^b.map V.int
def L5:aE ["_law_left","_law_many","_law_digit"] ["_law_left","_law_many"]^aq xM:=by bv_omega
def mR(B:BU mg)(D:bK K mg "_law_take" xM ["_law_left","_law_many"]):FnOk P w K mg base fe 1 D.f D.fd ["_law_left","_law_many"] Fv:=by
 refine D.F.ok L5 (λy H Q E h=>?_)^λO A outer s H y Q E R h=>?_
 .obtain⟨a,g,k,rfl,_⟩:=h
  rfl
 let⟨l,g,m,rfl,d,C,S,o,G,q⟩:=h;have I:=L5.nd
 refine#[_,aF (xE (PW.pt^Fj (iL J9 (cS bQ (pv 0) aZ^λ_ _=>rfl) aZ^aY _)^A0^iL J7 (eU cT rfl B.len ac7^ao (pv 0) aA) aZ^aY _)
   (bE^c7^hV KB PySem.F.slot_list_pop PySem.F.type_list_pop NB (pv 0)^ao aZ aA) mU)
  (aF (bU (i:=2) I rfl (Or.inl rfl)^c5 q0 (cS bQ (pv 0) aZ^λ_ _=>rfl)^pv 1)
  (aF (rm (c5 Rn (cS bQ (pv 0) aZ^λ_ _=>rfl)^pv 1)^Fh (pv 0) aZ set_list)
  (bE^iK^pv 2))),?_]
 have fin:∀(b:List Int),b≠ []->b.length<=g.length->∀e,e=H\/e=upd H l^.lst^b.map V.int->e l\(.lst^b.map V.int)->
   (SG (Md (FE (rI (λ_ j=>0<j) λi j=>V.int (i%j)) (FE (HH K) (yx 0)^tC^.int 0)^yx 1)^zZ 2)^SG (Md (FE (rI VZ λi j=>V.int (i / j)) (FE (HH K) (yx 0)^tC^.int 0)^yx 1)^Wj (yx 0) (tC^.int 0) RX)^WY^yx 2)
    {nx:=λ_ J=>Q .aQ J,rt:=Q} (start ["_law_left","_law_many","_law_digit"] [.ref l, .int m]) e:=by
  intro b p L e t u
  obtain⟨x,r,rfl⟩:∃x r,b=x::r:=by
   cases b with
   |nil=>exact absurd rfl p
   |cons x r=>exact#[x,r,rfl]
  exists _,rfl,l,_,0, .int x,rfl,rfl,aL.of u,cX (j:=0) rfl,_,rfl,_,_,rfl,rfl,o;exists _,rfl,l,_,0, .int x,rfl,rfl,aL.of u,cX (j:=0) rfl,_,rfl,_,_,rfl,rfl,#[o,G];refine#[_,rfl,l,_,0,0,rfl,rfl,u,?_,?_]
  .show lA (r.length+1|>λn=>((x::r).map V.int).length) 0\0
   unfold lA;rw[ir ∅,ir^by simp]
   rfl
  .refine#[_,rfl,?_]
   have M:upd e l^.lst^((x::r).map V.int).set 0^.int (x / m)=upd H l^.lst^((x / m)::r).map V.int:=by
    rcases t with z|z
    .rw[z];rfl
    .rw[z,qC];rfl
   rw[M];exact q (x%m) ((x / m)::r) (afd _ ()) (aeB _ o) (by simp)^~~~L
 obtain⟨x,r,rfl⟩:∃x r,g=x::r:=by
  cases g with
  |nil=>exact absurd rfl C
  |cons x r=>exact#[x,r,rfl]
 exists _,rfl,l,_,0, .int x,rfl,rfl,aL.of d,cX (j:=0) rfl,_,_,rfl,rfl,_,rfl;refine yn (λ_=>?_)^λ_=>?_
 .refine#[_,rfl,l,_,rfl, .inl^aL.of d,_,_,rfl,rfl,_,rfl,?_]
  refine yn (λc=>?_)^λ_=>?_
  .have N:=IR c
   have v:r≠ []:=by
    intro z;subst z;simp at N
   refine#[_,rfl, .inl #[rfl,_,aL.of d],l,_,0,0, .int x,rfl,rfl,d,∅,∅,?_,rfl,?_]
   .simp[seqIndex?]
   .exact fin r v (by simp) _ (.inr rfl) af
  .exact fin (x::r) (by simp) (bg _) _ (.inl rfl) d
 .exact cv^fin (x::r) (by simp) (bg _) _ (.inl rfl) d
end
open Wb
abbrev Ks:Stmt:=top 39
def bw(r:List Nat):List V:=r.map λ(n:Nat)=>V.int (n:Int)
def Off(S:List Addr)(H a:Hp):Prop:=∀b o,b∉S->H b\o->a b\o
def Off.trans{S:List Addr}{H d e:Hp}(a:Off S H d)(b:Off S d e):Off S H e:=λc o f h=>b c o f^a c o f h
def Off.of_same{S:List Addr}{H a:Hp}(h:aC H a):Off S H a:=λb o _ e=>h b o e
def Off.put{S:List Addr}(h:a∈S\/H a=none):Off S H^upd H a o:=λb u c e=>by
 rw[ag^λz=>?_]
 .exact e
 .rcases h with h|h
  .rw[z] at c;exact c h
  .rw[z,h] at e;cases e
structure aN (H:Hp) (T:Addr) (as:List Addr) (w:W):Prop where
 top:H T\(.lst^as.map V.ref)
 nod:as.Nodup
 nT:T∉as
 len:as.length=w.length
 row:∀(i:Nat) a,as[i]?\a->H a\(.lst^bw^Wb.row w i)
def aN.keep{T:Addr}(R:aN H T c w)(h:∀b,b=T\/b∈c->d b=H b):aN d T c w:=
 #[by rw[h T^.inl rfl];exact R.top,R.nod,R.nT,R.len,λi a e=>by rw[h a^.inr^cL e];exact R.row i a e]
def aN.off{S:List Addr}(R:aN H T b w)(h:Off S H c)(d:T∉S)(f:∀a∈b,a∉S):aN c T b w:=
 #[h _ _ d R.top,R.nod,R.nT,R.len,λi a e=>h _ _ (f a^cL e)^R.row i a e]
def aN.at{H:Hp}{T:Addr}{b:List Addr}(R:aN H T b w){p:Nat}(c:p<w.length):∃a,b[p]?\a/\H a\(.lst^bw^Wb.row w p):=by
 have:p<b.length:=by rw[R.len];exact c
 exact#[_,cz this,R.row p _^cz this]
def get_inj{b:Type}{l:List b}(h:l.Nodup){i j:Nat}{a:b}(c:l[i]?\a)(d:l[j]?\a):i=j:=by
 let⟨g,e⟩:=cR.mp c;let⟨k,f⟩:=cR.mp d;exact(aeS h).mp^e.trans f.symm
def aN.put{d:List Addr}(R:aN H T d w)(f:d[p]?\a)(h:∀b,b=T\/b∈d->b≠a->g b=H b)(e:g a\(.lst^bw r)):aN g T d^w.set p r:=by
 have k:p<w.length:=by rw[<-R.len];exact(cR.mp f).1
 have l:=cL f;refine#[by rw[h T (.inl rfl)^λz=>R.nT^by rw[z];exact l];exact R.top,R.nod,R.nT,by rw[R.len,fF],λi b c=>?_]
 rw[jO k]
 by_cases j:p=i
 .subst j
  rw[f] at c;cases c;rw[ir rfl];exact e
 .rw[tz j,h b (.inr^cL c)^λz=>j^get_inj R.nod f^by rw[<-z];exact c]
  exact R.row i b c
def aN.snoc(R:aN H T c w){r:List Nat}(j:a∉c)(k:a≠T)(h:∀b,b∈c->f b=H b)(l:f T\(.lst^(c++ [a]).map V.ref))(e:f a\(.lst^bw r)):aN f T (c++ [a]) (w++ [r]):=by
 refine#[l,?_,λz=>?_,by simp[R.len],λi b d=>?_]
 .rw[i7]
  exact#[R.nod,by simp,λx g y m z=>by
   have:y=a:=by simpa using m
   rw[this] at z;rw[z] at g;exact j g]
 .rcases cP.mp z with z|z
  .exact R.nT z
  .have n:T=a:=by simpa using z
   exact k n.symm
 .rw[DJ]
  by_cases o:i<c.length
  .rw[gJ o] at d
   rw[tz^by rw[<-R.len];lia,h b^cL d]
   exact R.row i b d
  .have p:i=c.length:=by
    have:=(cR.mp d).1
    simp at this;lia
   subst p;rw[iQ^bg _] at d;simp at d;rw[ir R.len,<-d];exact e
def cc(r:List Nat):(bw r).length=r.length:=aG _
def rp(r:List Nat)(i n:Nat):bw^ins r i n=ins (bw r) i^.int (n:Int):=ins_map _ _ _ _
def VA:Sp:=λf H Q _=>∃(l:Addr)(c:List Int)(m:Nat),f= [.int (m:Int), .ref l]/\H l\(.lst^c.map V.int)/\c≠ []/\c.length<=2/\1<=m/\m<=14/\
 ∀(T:Addr)(e:List Addr)(w:W)(d:List Int)(b:Hp),Off [l] H b->H T=none->(∀a∈e,H a=none)->aN b T e w->Good w->w.length=m->b l\(.lst^d.map V.int)->d≠ []->d.length<=2->jf w+2=2*m->Q (.ref T) b
section
variable {P:Program} {w:World} {K:ad} {mg:Str->Option Value} {base:Heap}
def L6:aE ["_law_many","_law_left","_law_turns","_law_new","_law_p"] ["_law_many","_law_left"]^aq Ks:=by bv_omega
def Ri(B:BU mg)(Tk:bK K mg "_law_take" xM ["_law_left","_law_many"])(D:bK K mg "_law_tree" Ks ["_law_many","_law_left"]):FnOk P w K mg base fe 2 D.f D.fd ["_law_many","_law_left"] VA:=by
 refine D.F.ok L6 (λvs H Q E h=>?_) (λaT A outer s H vs Q E hr h=>?_)
 .obtain⟨a,ns,k,rfl,_⟩:=h
  rfl
 obtain⟨l,ns,m,rfl,N,f9,hz,h1,h14,q⟩:=h;have S:=L6.nd;have gT:=mR (P:=P) (w:=w) (base:=base) B Tk
 refine#[_,aF (bU (i:=2) S rfl (Or.inl rfl) (fU (ao (fU aA) aA)))
  (aF (kq FS rfl (Kd rfl B.range (ao aZ (ao (pv 0) aA))) (cx (i:=3) S rfl (Or.inl rfl))
   (aF (bU (i:=4) S rfl (Or.inl rfl) (bq gT hr rfl Tk.m Tk.F.kp Tk.b .nil bY (ao (pv 1) (ao (pv 3) aA))))
   (aF (c7 (hV KB adh adi nX (cS bQ (pv 2) (pv 4) (λ_ _=>rfl))
     (ao (bq gT hr rfl Tk.m Tk.F.kp Tk.b .nil bY (ao (pv 1) (ao (c5 iI (eU cT rfl B.len ac7 (ao (cS bQ (pv 2) (pv 4) (λ_ _=>rfl)) aA)) aZ) aA))) (ao (pv 3) aA))))
   (bE (c7 (hV KB adf adg ju (pv 2) (ao (fU (ao (pv 4) aA)) aA)))))))
  (bE (iK (pv 2)))),?_]
 refine#[by show 0<=sizeLine;decide,λG X=>#[by show 1<=sizeLine;decide,λT I=>?_]]
 have Y:T≠G:=λz=>by rw[z,af] at I;cases I
 have Z:H T=none:=by rw[ag Y] at I;exact I
 have O:l≠T:=au N Z;have nl0:l≠G:=au N X;refine#[_,rfl,1,(m:Int),rfl,#[∅,∅,(),()],?_]
 refine nE (λi σ u=>∃n w x o3 o4,σ= [some (.int (m:Int)),some (.ref l),some (.ref T),o3,o4]/\Off [l] H u/\(∀a∈n,H a=none)/\aN u T n w/\Good w/\w.length=i+1/\u l\(.lst (x.map V.int))/\x≠ []/\x.length<=2/\jf w=2*i) ?_ (λi σ u hi hP=>?_) (λσ u hP=>?_)
 .refine#[[G],[[]],ns,_,_,rfl,(Off.put (.inr X)).trans (Off.put (.inr I)),λa v=>?_,#[af,by simp,by simpa using Y,rfl,λi a e=>?_],M7,rfl,?_,f9,hz,rfl]
  .have:a=G:=by simpa using v
   rw[this];exact X
  .cases i with
   |zero=>
    have:a=G:=by simpa using e.symm
    rw[this,ag (Ne.symm Y),af];rfl
   |succ i=>simp at e
  .rw[ag O,ag nl0];exact N
 .obtain⟨n,t,x,o3,o4,rfl,off,J,R,g,L,Cc,Qr,EM,hdg⟩:=hP
  have mH:l∉n:=λz=>by have:=J l z;rw[N] at this;cases this
  refine#[_,rfl,_,rfl,l,x,_,rfl,Cc,Qr,(),(),(),λd oY d0 d1 rW uO=>?_]
  have R1:aN (upd u l (.lst (oY.map V.int))) T n t:=R.keep λb c=>by
   refine ag λz=>?_
   rcases c with c|c
   .exact O (z.symm.trans c)
   .rw[z] at c;exact mH c
  obtain⟨p,rfl⟩:=wc d0;have hp:p<t.length:=()
  obtain⟨a,v,jJ⟩:=R1.at hp;have UN:l≠a:=λz=>mH (by rw[z];exact cL v)
  have wC:gr (n.map V.ref) ((p:Nat):Int)\(.ref a):=cX (by rw[dh,v];rfl)
  exists _,rfl,_,rfl,T,_,_,_,rfl,rfl,aL.of R1.top,wC, .inl #[rfl,_,aL.of jJ];exists _,rfl,_,rfl,_,rfl,T,_,_,_,rfl,rfl,aL.of R1.top,wC,a,_,rfl, .inl (aL.of jJ),_,_,rfl,rfl;have rl:=fC g p;rw[cc];refine#[l,oY,_,rfl,af,rW,(),(),(by lia),λd2 mE e0 e1 yk w4=>?_]
  rw[qC]
  have R2:aN (upd u l (.lst (mE.map V.int))) T n t:=R.keep λb c=>by
   refine ag λz=>?_
   rcases c with c|c
   .exact O (z.symm.trans c)
   .rw[z] at c;exact mH c
  have Jz:=R2.row p a v;refine#[_,rfl,a,_,d2,_,rfl,rfl,Jz,e0,by rw[cc];lia,qH (by rw[cc];exact rl) (bA ()),?_]
  obtain⟨j,rfl⟩:=wc e0;have ew:(1:Int)+(i:Int)=((t.length:Nat):Int):=()
  rw[ew,lW,<-rp];have y:aN (upd (upd u l (.lst (mE.map V.int))) a (.lst (bw (ins (row t p) j t.length)))) T n (t.set p (ins (row t p) j t.length)):=R2.put v (λb _ c=>ag c) af;refine#[_,rfl, .inl #[rfl,_,aL.of y.top],_,rfl,by show 1<=sizeLine;decide,λr C=>?_]
  have Zk:r≠T:=Ne.symm (au y.top C)
  have Q6:r∉n:=λz=>by
   obtain⟨k,hk⟩:=i6 z
   have:=y.row k r hk
   rw[C] at this;cases this
  have Zl:r≠l:=λz=>by
   rw[z,ag UN,af] at C;cases C
  refine#[T,_, .ref r,rfl,rfl,by rw[ag (Ne.symm Zk)];exact y.top,qH (by rw[aG,y.len,fF];exact bg _) (bA ()),?_]
  have M:H r=none:=by
   cases e:H r with
   |none=>rfl
   |some o=>
    have:=off r o (~~~Zl) e
    rw[ag (λz=>Q6 (by rw[z];exact cL v)),ag Zl] at C
    rw[C] at this;cases this
  have Yn:H a=none:=J a (cL v);refine#[n++ [r],leaf t p j,mE,_,_,rfl,?_,λb c=>?_,?_,Jf g hp,by rw[xf];lia,?_,yk,(),by rw[MQ hp];lia]
  .intro b o c e
   have hbl:b≠l:=by simpa using c
   rw[ag (λz=>by rw[z,Z] at e;cases e),ag (λz=>by rw[z,M] at e;cases e),ag (λz=>by rw[z,Yn] at e;cases e),ag hbl]
   exact off b o c e
  .rcases cP.mp c with z|z
   .exact J b z
   .have:b=r:=by simpa using z
    rw[this];exact M
  .refine y.snoc (r:= [p]) Q6 Zk (λb c=>?_) ?_ ?_
   .rw[ag (λz=>y.nT (by rw[<-z];exact c)),ag (λz=>Q6 (by rw[<-z];exact c))]
   .rw[af,b9];rfl
   .rw[ag Zk,af];rfl
  .rw[ag O,ag (Ne.symm Zl),ag UN,af]
 .obtain⟨n,t,x,o3,o4,rfl,off,J,R,g,L,Cc,Qr,EM,hdg⟩:=hP
  exact#[_,rfl,q T n t x u off Z J R g () Cc Qr EM ()]
end
abbrev A8:Stmt:=top 40
abbrev zl:Stmt:=top 41
def jv{r:List Nat}{i n:Nat}(h:r[i]?\n):(bw r)[i]?\(.int (n:Int)):=by unfold bw;rw[dh,h];rfl
def n9(r:List Nat):(bw r).all gZ=true:=by
 rw[adU];intro x a;obtain⟨n,_,rfl⟩:=cE.mp a;rfl
def xJ{r:List Nat}{i:Nat}{z:V}(h:(bw r)[i]?\z):∃n,r[i]?\n/\z= .int (n:Int):=by
 unfold bw at h;rw[dh] at h;cases e:r[i]? with
 |none=>rw[e] at h;cases h
 |some n=>rw[e] at h;cases h;exact#[n,rfl,rfl]
def uP{r:List Nat}{p:Nat}(h:p∈r):r[r.idxOf p]?\p:=by
 have lt:=BK.mpr h;rw[cz lt,BO lt]
def Uq{r:List Nat}(a:r.Nodup){p m n:Nat}(h:p∈r)(b:m<r.idxOf p)(e:r[m]?\n):n≠p:=λz=>by
 rw[z] at e
 have:=get_inj a e^uP h
 lia
def qS(p:Nat):sT (.int (p:Int))^.int (p:Int)=true:=by simp[sTi]
def tM{r:List Nat}(a:r.Nodup){p:Nat}(h:p∈r)(m:Nat)(z:V)(b:m<r.idxOf p)(c:(bw r)[m]?\z):sT z^.int (p:Int)=false:=by
 let⟨n,d,rfl⟩:=xJ c
 have:=Uq a h b d
 simp[sTi];lia
def Fu:Sp:=λb H Q _=>∃(T a:Addr)(c:List Addr)(w:W)(d:Nat×Nat),b= [.ref T, .ref a]/\aN H T c w/\Good w/\w.length<=14/\H a\(.tup^iJ d)/\aR w d/\
 ∀t,H t=none->Q (.ref t)^upd H t^.tup^iJ^qa w d
section
variable {P:Program} {w:World} {K:ad} {mg:Str->Option Value} {base:Heap}
def L4:aE ["_law_turns","_law_side","_law_p","_law_q"] ["_law_turns","_law_side"]^aq A8:=by bv_omega
def Rh(B:BU mg)(D:bK K mg "_law_next" A8 ["_law_turns","_law_side"]):FnOk P w K mg base fe 1 D.f D.fd ["_law_turns","_law_side"] Fu:=by
 refine D.F.ok L4 (λu H Q E h=>?_)^λG A outer s H u Q E I h=>?_
 .obtain⟨T,l,m,w,d,rfl,_⟩:=h
  rfl
 obtain⟨T,l,m,c,⟨p,b⟩,rfl,R,g,h14,v,n,q⟩:=h;have o:=L4.nd
 refine#[_,aF (rm (pv 1)^rj rfl^fM (cx (i:=2) o rfl^Or.inl rfl)^fM (cx (i:=3) o rfl^Or.inl rfl) mT)
  (bE^iK^uZ^ao (pv 3)^ao (cS bQ (cS bQ (pv 0) (pv 3)^λ_ _=>rfl)
   (c5 q0 (c5 iI (hV KB adk adl qY (cS bQ (pv 0) (pv 3)^λ_ _=>rfl)^ao (pv 2) aA) aZ)
    (eU cT rfl B.len ac7^ao (cS bQ (pv 0) (pv 3)^λ_ _=>rfl) aA))^λ_ _=>rfl) aA),?_]
 have e:p∈row c b:=g.sym _ _ n;have x:b<c.length:=g.rng _ _ n;let⟨a,y,j⟩:=R.at x;have k:gr (m.map V.ref) ((b:Nat):Int)\(.ref a):=cX^by rw[dh,y];rfl
 have r:0<(row c b).length:=sH e;exists _,rfl,l,_,rfl,fI.of v,rfl,_,_,rfl,_,_,rfl,rfl;exists _,rfl,_,rfl,_,rfl,T,_,_,_,rfl,rfl,aL.of R.top,k;exists _,rfl,_,rfl,T,_,_,_,rfl,rfl,aL.of R.top,k, .inl #[rfl,_,aL.of j],_,rfl;exists a,_,_,(row c b).idxOf p,_,rfl,rfl,j,rfl,n9 _,jv^uP e,qS p,tM (g.nod _) e;exists _,_,rfl,rfl,_,rfl,_,rfl,T,_,_,_,rfl,rfl,aL.of R.top,k,a,_,rfl, .inl^aL.of j,_,_,rfl,rfl;rw[cc];refine#[(),?_]
 have em:((((row c b).idxOf p:Nat):Int)+1)%((row c b).length:Int)=((((row c b).idxOf p+1)%(row c b).length:Nat):Int):=by rw[ae4,Int.natCast_add];rfl
 have z:gr (bw^row c b) (((((row c b).idxOf p:Nat):Int)+1)%((row c b).length:Int))\(.int (eQ (row c b) p:Nat)):=by
  rw[em];exact cX^jv^om e
 refine#[a,_,_,_,rfl,rfl,aL.of j,z,by show 2<=sizeLine;decide,λt C=>?_]
 exact q t C
def Be:Sp:=λc H Q _=>∃(T b:Addr)(f:List Addr)(w:W)(d:Nat×Nat),c= [.ref T, .ref b]/\aN H T f w/\Good w/\w.length<=14/\H b\(.tup^iJ d)/\aR w d/\
 ∀(F:Addr)(L:List (Addr×(Nat×Nat)))(k:Nat)(a:Hp),aC H a->H F=none->a F\(.lst (L.map λe=>V.ref e.1))->rJ a L->L.map (·.2)=walk w d k->0<k->dD w k d=d->(∀j,0<j->j<k->dD w j d≠d)->Q (.ref F) a
def HQ:aE ["_law_turns","_law_side","_law_found","_law_here"] ["_law_turns","_law_side"]^aq zl:=by bv_omega
def Gx{K:ad}(h:H a\(.tup^iJ d)):Dp K H (.ref a)^oR d:= .tup (fI.of h)^.cons (.int _)^.cons (.int _) .nil
def NK(B:BU mg)(r:bK K mg "_law_next" A8 ["_law_turns","_law_side"])(D:bK K mg "_law_round" zl ["_law_turns","_law_side"]):FnOk P w K mg base fe 2 D.f D.fd ["_law_turns","_law_side"] Be:=by
 refine D.F.ok HQ (λvs H Q E h=>?_)^λaT A outer s H vs Q E hr h=>?_
 .obtain⟨T,p,x,w,d,rfl,_⟩:=h
  rfl
 let⟨T,p,x,l,d,rfl,R,g,h14,M,hd,q⟩:=h;have nd:=HQ.nd;have gN:=Rh (P:=P) (w:=w) (base:=base) B r
 refine#[_,aF (bU (i:=2) nd rfl (Or.inl rfl)^fU^ao (pv 1) aA)
  (aF (bU (i:=3) nd rfl (Or.inl rfl)^bq gN hr rfl r.m r.F.kp r.b .nil bY^ao (pv 0)^ao (pv 1) aA)
  (aF (Dz FS (iL (Fe hr.units) (pv 3) (pv 1)^aY _)
   (aF (c7^hV KB adf adg ju (pv 2)^ao (pv 3) aA)
    (bE^bU (i:=3) nd rfl (Or.inl rfl)^bq gN hr rfl r.m r.F.kp r.b .nil bY^ao (pv 0)^ao (pv 3) aA)))
  (bE^iK^pv 2))),?_]
 refine#[_,rfl,by show 1<=sizeLine;decide,λF C=>?_]
 have N:aC H^upd H F^.lst [.ref p]:=az C _;have R1:aN (upd H F^.lst [.ref p]) T x l:=R.off (S:= []) (Off.of_same N) (by simp)^by simp
 refine#[_,rfl,_,rfl,T,p,x,l,d,rfl,R1,g,h14,N _ _ M,hd,λt O=>?_];have dl:=fZ g;have hw:l.length*l.length<=196:=wo h14 h14
 refine OA (λX n=>∃(k:Nat)(L:List (Addr×(Nat×Nat)))(t:Addr),X= [some^.ref T,some^.ref p,some^.ref F,some^.ref t]/\0<k/\L.map (·.2)=walk l d k/\(∀j,0<j->j<k->dD l j d≠d)/\aC H n/\n F\(.lst (L.map λe=>V.ref e.1))/\rJ n L/\n t\(.tup^iJ^dD l k d))
  (λX n=>(ba l).length+1-(match n F with|some^.lst xs=>xs.length|_=>0)) ?_ (λX n hP=>?_)^λX H Q Q' hq h=>?_
 .have nFt:F≠t:=λz=>by rw[<-z,af] at O;cases O
  have nsF:p≠F:=au M C;refine#[1,[(p,d)],t,rfl,(),rfl,λj h1 h2=>by lia,N.trans^az O _,by rw[ag nFt];exact af,λe he=>?_,af]
  have tu:e=(p,d):=by simpa using he
  rw[tu];exact(N.trans^az O _) _ _ M
 .obtain⟨k,L,t,rfl,hk,hL,Cd,sm,u,LD,v⟩:=hP
  refine#[_,rfl,_,rfl,_,_,Gx v,Gx^sm _ _ M,by have:=ya^dD l k d;lia,_,rfl,?_]
  refine yn (λc=>?_)^λc=>?_
  .have f9:dD l k d≠d:=λz=>by
    rw[(CQ _ _).mpr z] at c;cases c
   have Wr:∀j,0<j->j<k+1->dD l j d≠d:=λj h1 h2=>by
    by_cases hj:j=k
    .rw[hj];exact f9
    .exact Cd j h1 ()
   have Uh:=vV g hd Wr;have lL:L.length=k:=by have:=KM da hL;rw[aG,jw] at this;exact this
   refine#[_,rfl, .inl #[rfl,_,aL.of u],_,rfl,F,_, .ref t,rfl,rfl,u,qH (by rw[aG,lL];exact bg _)^bA (),?_]
   have nFH:H F=none:=C;have Vt:aC H^upd n F^.lst ((L.map λe=>V.ref e.1)++ [.ref t]):=λb o e=>by rw[ag^au e C];exact sm b o e
   have R2:aN (upd n F^.lst ((L.map λe=>V.ref e.1)++ [.ref t])) T x l:=R.off (S:= []) (Off.of_same Vt) (by simp)^by simp
   have G:t≠F:=λz=>by rw[z,u] at v;cases v
   refine#[_,rfl,_,rfl,T,t,x,l,dD l k d,rfl,R2,g,h14,by rw[ag G];exact v,ig g hd k,λY I=>?_]
   have Q8:Y≠F:=λz=>by rw[z,af] at I;cases I
   have J:n Y=none:=by rw[ag Q8] at I;exact I
   refine#[#[k+1,L++ [(t,dD l k d)],Y,rfl,(),?_,Wr,Vt.trans^az I _,?_,λe he=>?_,af],?_]
   .rw[b9,hL,tY];rfl
   .rw[ag^Ne.symm Q8,af,b9];rfl
   .rcases cP.mp he with z|z
    .have Z:=LD e z
     rw[ag^au Z J,ag^λy=>by rw[y,u] at Z;cases Z]
     exact Z
    .have z':e=(t,dD l k d):=by simpa using z
     rw[z'];show upd _ Y _ t=_;rw[ag^au v J,ag G];exact v
   .show(ba l).length+1-_<(ba l).length+1-_
    rw[ag^Ne.symm Q8,af,u];simp only[dg,aG,F0];lia
  .have heq:dD l k d=d:=by
    apply GM;intro z;apply c
    have:PyData.eqv (oR^dD l k d)^oR d=false:=by
     cases y:PyData.eqv (oR^dD l k d)^oR d with
     |false=>rfl
     |true=>exact absurd ((CQ _ _).mp y) z
    rw[this];rfl
   exact#[_,rfl,q F L k n sm C u LD hL hk heq Cd]
 .obtain⟨v1,e1,v2,e2,d',e',a,b,c,k,ek,q⟩:=h
  exact#[v1,e1,v2,e2,d',e',a,b,c,k,ek,hq _ _ q]
end
end t8
namespace L2
open PySem
theorem Lo:∀{M:List (Addr×(Nat×Nat))},rJ H M->jb K H (M.map λe=>V.ref e.1) (M.map λe=>oR e.2)
 | [],_=> .nil
 |e::M,h=> .cons (.tup (fI.of^h e dH)^.cons (.int _)^.cons (.int _) .nil) (Lo λx a=>h x^fq _ a)
end L2
namespace t8
open PySem L2 Wb
def PY{i:Nat}{x:V}{a:St}{H:Hp}{P R:St->Hp->Prop}(h:P (a.set i^some x) H):zZ i x a H (λc e=>WZ c e^λb d=>if b=true then P c d else R c d):=by
 show(if true=true then P (a.set i^some x) H else R (a.set i^some x) H);rw[ir rfl];exact h
abbrev A9:Stmt:=top 42
theorem Vo(g:Good w)(j:2<=w.length)(f:p<w.length):row w p≠ []:=by
 intro z
 have c:∃q,q<w.length/\q≠p:=by
  by_cases h:p=0
  .exact#[1,(),()]
  .exact#[0,(),λy=>h y.symm]
 let⟨q,c,ne⟩:=c;have r:=((g.con p f).symm g.sym).trans^g.con q c
 have:∀{a b},Reach w a b->a=p->b=p:=λ {a b} h=>by
  induction h with
  |refl=>exact id
  |step _ d i=>
   intro e
   have:=i e
   rw[this,z] at d;cases d
 exact ne^this r rfl
structure Xa (H:Hp) (w:W) (S:Addr) (L:List (Addr×(Nat×Nat))):Prop where
 at':H S\(.lst (L.map λe=>V.ref e.1))
 prs:rJ H L
 dart:∀e∈L,aR w e.2
 few:L.length<=196
def ZK:Sp:=λg H Q _=>∃(T l:Addr)(b:Bool)(a:List Addr)(w:W)(e:List Int),g= [.ref T, .ref l, .bl b]/\aN H T a w/\Good w/\2<=w.length/\w.length<=14/\H l\(.lst^e.map V.int)/\e≠ []/\e.length<=2/\l≠T/\l∉a/\
 ∀(c:W)(f:List Int)(d:Hp),Off (l::a) H d->aN d T a c->Good c->c.length=w.length->d l\(.lst^f.map V.int)->f≠ []->f.length<=2->jf c<=jf w+2->Q .aQ d
section
variable {P:Program} {w:World} {K:ad} {mg:Str->Option Value} {base:Heap}
def Sh:aE ["_law_turns","_law_left","_law_plane_here","_law_p","_law_r","_law_sides","_law_q","_law_turn","_law_u","_law_v"] ["_law_turns","_law_left","_law_plane_here"]^aq A9:=by bv_omega
theorem UT(B:BU mg)(Tk:bK K mg "_law_take" xM ["_law_left","_law_many"])(Nx:bK K mg "_law_next" A8 ["_law_turns","_law_side"])(Rd:bK K mg "_law_round" zl ["_law_turns","_law_side"])
  (D:bK K mg "_law_tie" A9 ["_law_turns","_law_left","_law_plane_here"]):FnOk P w K mg base fe 3 D.f D.fd ["_law_turns","_law_left","_law_plane_here"] ZK:=by
 refine D.F.ok Sh (λvs H Q E h=>?_)^λaT A outer s H vs Q E hr h=>?_
 .obtain⟨T,l,b,J,w,ns,rfl,_⟩:=h
  rfl
 let⟨T,l,b,J,C,ns,rfl,R,g,h2,h14,hl,f9,hz,yU,mH,q⟩:=h;have nd:=Sh.nd;have gT:=(mR (P:=P) (w:=w) (base:=base) B Tk).mono (show 1<=2 by decide)
 have gR:=NK (P:=P) (w:=w) (base:=base) B Nx Rd;have acu:C.length*C.length<=196:=wo h14 h14;have Q3:(["_law_side","_law_p","_law_turns"]:List fA).Nodup:=by decide+kernel
 obtain⟨tE,pE,rE⟩:∃t,jT (j5 fe P w K mg base ["_law_turns","_law_left","_law_plane_here","_law_p","_law_r","_law_sides","_law_q","_law_turn","_law_u","_law_v"] "_law_tie" (aq A9) D.f aT A outer s H E).lB ((cY A9).drop 4) t/\
   ∀(p r:Nat)(S:Addr)(L:List (Addr×(Nat×Nat)))(ds:List Int)(o6 o7:Option V)(N:Hp),Off (l::J) H N->aN N T J C->p<C.length->r∈row C p->Xa N C S L->N l\(.lst^ds.map V.int)->ds≠ []->ds.length<=2->S≠l->S≠T->S∉J->
    t {nx:=λ_ H'=>Q .aQ H',rt:=Q} [some^.ref T,some^.ref l,some^.bl b,some^.int (p:Int),some^.int (r:Int),some^.ref S,o6,o7,none,none] N:=by
  refine#[_,aF (kE (i:=5) (NC:= ["_law_side","_law_p","_law_turns"]) (src:= [none,some 3,some 0]) rfl nd rfl (Or.inl rfl) (bC.of (aq A9) rfl rfl (by decide+kernel) (by decide+kernel)^by decide+kernel) #[rfl,rfl,rfl,rfl,trivial] (kS^pv 5)
    (λ_ _ _=>cx (i:=0) Q3 rfl^Or.inl rfl) (λ_ _ _=>HE^PW.pt^Fj (iL Zt (cS (Hl (K:=K)) (pv 0) aZ^λ_ _=>rfl) (pv 1)^aY _)^A0^iL (Ka (K:=K)) (cS (Hl (K:=K)) (pv 0) aZ^λ_ _=>rfl) (cS (C7 (K:=K)) (pv 2) (pv 1)^λ_ _=>rfl) rfl) (λ_ _ _=>pv 0) rfl)
   (bE^xE (iL (Fe hr.units) (pv 5) (fU aA)^aY _)
    (aF (rm (cS bQ (pv 5) (bq gT hr rfl Tk.m Tk.F.kp Tk.b .nil bY^ao (pv 1)^ao (eU cT rfl B.len ac7^ao (pv 5) aA) aA)^λ_ _=>rfl)^rj rfl^fM (cx (i:=8) nd rfl^Or.inl rfl)^fM (cx (i:=9) nd rfl^Or.inl rfl) mT)
    (aF (c7^hV KB adh adi nX (cS bQ (pv 0) (pv 3)^λ_ _=>rfl)^ao (hV KB adk adl qY (cS bQ (pv 0) (pv 3)^λ_ _=>rfl)^ao (pv 4) aA)^ao (pv 8) aA)
    (bE^c7^hV KB adh adi nX (cS bQ (pv 0) (pv 8)^λ_ _=>rfl)^ao (hV KB adk adl qY (cS bQ (pv 0) (pv 8)^λ_ _=>rfl)^ao (pv 9) aA)^ao (pv 3) aA))) mU),?_]
  intro p r S L ds o6 o7 N off R1 hp EJ Z pk rW uO nSl nST WD;let⟨a,ha,jJ⟩:=R1.at hp;have wC:gr (J.map V.ref) ((p:Nat):Int)\(.ref a):=cX^by rw[dh,ha];rfl
  refine#[_,rfl,S,rfl,#[_,aL.of Z.at'],λG hD=>?_];have UL:S≠G:=au Z.at' hD;refine ER (L.map λe=>V.ref e.1).length (λi lb Y=>∃(M:List (Addr×(Nat×Nat)))(o:Option V),lb= [o,some^.int (p:Int),some^.ref T]/\Y=upd N G^.lst (M.map λe=>V.ref e.1)/\(∀e∈M,e∈L/\e.2.1≠p/\e.2.1∉row C p)/\M.length<=i) ?_ ?_ ?_ ?_ ?_
  .exact#[[],none,rfl,rfl,(λe I=>by cases I),bg _]
  .rintro i lb Y hi ⟨M,o,rfl,rfl,_,_⟩
   exact#[_,_,aL.of^by rw[ag UL];exact Z.at',cz hi]
  .rintro i lb Y hi ⟨M,o,rfl,rfl,_,_⟩
   exact#[_,aL.of^by rw[ag UL];exact Z.at',hi]
  .rintro i x lb Y H3 hi ⟨M,o,rfl,rfl,hM,Ye⟩ ⟨rfl,hx⟩
   have pZ:=hx _^aL.of^by rw[ag UL];exact Z.at'
   have gy:i<L.length:=by simpa using hi
   rw[dh,cz gy] at pZ;have ex:x= .ref (L[i]).1:=(Do pZ).symm;subst ex;have hm:L[i]∈L:=lX gy
   have C3:upd N G (.lst (M.map λe=>V.ref e.1)) (L[i]).1\(.tup^iJ (L[i]).2):=by
    have:=Z.prs _ hm
    rw[ag^au this hD];exact this
   have nDT:T≠G:=au R1.top hD;have nDa:a≠G:=au jJ hD;exists _,rfl,(L[i]).1,_,0,_,rfl,rfl,fI.of C3,cX (j:=0) rfl,_,rfl,rfl,_,rfl;refine yn (λc=>?_)^λc=>?_
   .refine#[_,rfl,(L[i]).1,_,0,_,rfl,rfl,fI.of C3,cX (j:=0) rfl,?_]
    refine#[_,rfl,_,rfl,T,_,_,_,rfl,rfl,aL.of^by rw[ag nDT];exact R1.top,wC,a,_,rfl, .inl^aL.of^by rw[ag nDa];exact jJ,rfl,n9 _,_,rfl,?_]
    refine yn (λc2=>?_)^λc2=>?_
    .refine#[_,rfl,_,af,qH (by rw[aG];exact Ye)^bA^by have:=Z.few;lia,M++ [L[i]],_,rfl,?_,λe I=>?_,by simp;lia]
     .rw[qC,b9];rfl
     .rcases cP.mp I with z|z
      .exact hM e z
      .have z':e=L[i]:=by simpa using z
       rw[z'];refine#[hm,λy=>?_,λy=>?_]
       .rw[show V.int ((L[i]).2.1:Int)=V.int (p:Int) by rw[y]] at c
        simp at c
       .have:JE (V.int ((L[i]).2.1:Int))^bw^row C p=true:=by
         unfold JE;rw[adY];exact#[_,cE.mpr #[_,y,rfl],qS _]
        have c3:(!JE (V.int ((L[i]).2.1:Int))^bw^row C p)=true:=c2;rw[this] at c3;cases c3
    .exact#[M,_,rfl,rfl,hM,()]
   .exact cv #[M,_,rfl,rfl,hM,()]
  .rintro lb Y ⟨M,o,rfl,rfl,hM,Ye⟩
   have nDl:l≠G:=au pk hD;have nDT:T≠G:=au R1.top hD;have few:=Z.few;rw[aG] at Ye
   have abL:rJ (upd N G^.lst (M.map λe=>V.ref e.1)) M:=λe I=>by
    have:=Z.prs e (hM e I).1
    rw[ag^au this hD];exact this
   refine#[_,rfl,by show 0<=sizeLine;decide,λe1 Ew=>?_]
   have n1D:e1≠G:=λz=>by rw[z,af] at Ew;cases Ew
   have Kv:aC (upd N G^.lst (M.map λe=>V.ref e.1))^upd (upd N G^.lst (M.map λe=>V.ref e.1)) e1^.lst []:=az Ew _;have WO:rJ (upd (upd N G^.lst (M.map λe=>V.ref e.1)) e1^.lst []) M:=λe I=>Kv _ _^abL e I;have Ya:upd (upd N G^.lst (M.map λe=>V.ref e.1)) e1 (.lst []) G\(.lst (M.map λe=>V.ref e.1)):=Kv _ _ af;have WK:Off (l::J) H^upd (upd N G^.lst (M.map λe=>V.ref e.1)) e1^.lst []:=off.trans^(Off.put^.inr hD).trans^Off.put^.inr Ew;have QB:aC N^upd (upd N G^.lst (M.map λe=>V.ref e.1)) e1^.lst []:=(az hD _).trans Kv;have R3:aN (upd (upd N G^.lst (M.map λe=>V.ref e.1)) e1^.lst []) T J C:=R1.off (S:= []) (Off.of_same QB) (by simp)^by simp
   have Np:=QB _ _ pk;refine#[_,_, .lst (aL.of Ya)^Lo WO, .lst (aL.of af) .nil,?_,_,rfl,?_]
   .rw[PyData.depth]
    have:=lZ (f:=λe:Addr×(Nat×Nat)=>oR e.2) (k:=2) (λe=>ya e.2) M
    lia
   generalize hH3:upd (upd N G^.lst (M.map λe=>V.ref e.1)) e1^.lst []=H3 at*;refine yn (λc=>?_)^λc=>?_
   .have hM0:0<M.length:=by
     cases M with
     |nil=>simp[PyData.eqv,PyData.eqvAll] at c
     |cons _ _=>simp
    exists _,rfl,_,rfl,_,rfl,G,_,rfl, .inl^aL.of Ya;rw[aG];refine#[l,ds,_,rfl,Np,rW,(),(),(),λdI mE d0 d1 yk w4=>?_]
    let⟨d,rfl⟩:=wc d0;have hd:d<M.length:=()
    have nlD:G≠l:=λz=>nDl z.symm;have aaV:upd H3 l (.lst^mE.map V.int) G\(.lst (M.map λe=>V.ref e.1)):=by rw[ag nlD];exact Ya
    let⟨hmL,JB,hun⟩:=hM _^lX hd;have tj:=Z.dart _ hmL;have C3:=WO _^lX hd;have ntl:(M[d]).1≠l:=λz=>by rw[z,Np] at C3;cases C3
    refine#[G,_,_, .ref (M[d]).1,rfl,rfl,aL.of aaV,cX^by rw[dh,cz hd];rfl,?_]
    refine#[(M[d]).1,_,rfl,fI.of^by rw[ag ntl];exact C3,rfl,_,_,rfl,_,_,rfl,rfl,?_]
    generalize M[d]=me at*;let⟨at0,u,v⟩:=me;dsimp only at*;have hu:u<C.length:=gH tj
    have X:aN (upd H3 l^.lst^mE.map V.int) T J C:=R3.keep λb O=>by
     refine ag λz=>?_
     rcases O with O|O
     .exact yU^z.symm.trans O
     .rw[z] at O;exact mH O
    have EH:=X.row p a ha;have rlp:=fC g p;have rlu:=fC g u;have Y7:=BK.mpr EJ;have jlt:(row C u).idxOf v<(row C u).length:=BK.mpr tj;exists _,rfl,_,rfl,T,_,_,_,rfl,rfl,aL.of X.top,wC, .inl #[rfl,_,aL.of EH];exists _,rfl,_,rfl,T,_,_,_,rfl,rfl,aL.of X.top,wC, .inl #[rfl,_,aL.of EH],_,rfl;exists a,_,_,(row C p).idxOf r,_,rfl,rfl,EH,rfl,n9 _,jv^uP EJ,qS r,tM (g.nod _) EJ;refine#[_,rfl,a,_,_,_,rfl,rfl,EH,(),by rw[cc];lia,qH (by rw[cc];exact rlp)^bA (),?_]
    rw[lW,<-rp];have R5:aN (upd (upd H3 l^.lst^mE.map V.int) a^.lst^bw^ins (row C p) ((row C p).idxOf r) u) T J^C.set p^ins (row C p) ((row C p).idxOf r) u:=X.put ha (λb _ O=>ag O) af;let⟨a2,P8,U⟩:=X.at hu;have pY:=R5.row u a2 P8;rw[jO hp,tz^Ne.symm JB] at pY;have at2:gr (J.map V.ref) ((u:Nat):Int)\(.ref a2):=cX^by rw[dh,P8];rfl
    exists _,rfl,_,rfl,T,_,_,_,rfl,rfl,aL.of R5.top,at2, .inl #[rfl,_,aL.of pY];exists _,rfl,_,rfl,T,_,_,_,rfl,rfl,aL.of R5.top,at2, .inl #[rfl,_,aL.of pY],_,rfl;exists a2,_,_,(row C u).idxOf v,_,rfl,rfl,pY,rfl,n9 _,jv^uP tj,qS v,tM (g.nod _) tj;refine#[_,rfl,a2,_,_,_,rfl,rfl,pY,(),by rw[cc];lia,qH (by rw[cc];exact rlu)^bA (),?_]
    rw[lW,<-rp];have R6:aN (upd (upd (upd H3 l^.lst^mE.map V.int) a^.lst^bw^ins (row C p) ((row C p).idxOf r) u) a2^.lst^bw^ins (row C u) ((row C u).idxOf v) p) T J^y3 C p ((row C p).idxOf r) u^(row C u).idxOf v:=R5.put P8 (λb _ O=>ag O) af;have UN:l≠a:=λz=>mH^by rw[z];exact cL ha
    have abC:l≠a2:=λz=>mH^by rw[z];exact cL P8
    refine q _ mE _ ?_ R6 (M9 g hp hu JB hun) (Bq _ _ _ _ _) ?_ yk ()^by rw[Ph hp hu JB];exact bg _
    .exact WK.trans^(Off.put^.inl dH).trans^(Off.put^.inl^fq _^cL ha).trans^Off.put^.inl^fq _^cL P8
    .rw[ag abC,ag UN,af]
   .exact q C ds _ WK R3 g rfl Np rW uO ()
 have nd3:(["_law_s","_law_q"]:List fA).Nodup:=by decide+kernel
 refine#[_,aF (bU (i:=3) nd rfl (Or.inr rfl)^bq gT hr rfl Tk.m Tk.F.kp Tk.b .nil bY^ao (pv 1)^ao (eU cT rfl B.len ac7^ao (pv 0) aA) aA)
  (aF (bU (i:=4) nd rfl (Or.inl rfl)^cS bQ (cS bQ (pv 0) (pv 3)^λ_ _=>rfl) (bq gT hr rfl Tk.m Tk.F.kp Tk.b .nil bY^ao (pv 1)^ao (eU cT rfl B.len ac7^ao (cS bQ (pv 0) (pv 3)^λ_ _=>rfl) aA) aA)^λ_ _=>rfl)
  (aF (bU (i:=5) nd rfl (Or.inl rfl)^bq gR hr rfl Rd.m Rd.F.kp Rd.b .nil bY^ao (pv 0)^ao (uZ^ao (pv 3)^ao (pv 4) aA) aA)
  (aF (xE (LR^Vi^pv 2)
   (aF (bU (i:=5) nd rfl (Or.inl rfl)^fU aA)
   (bE^kq FS rfl (AV rfl B.enumerate^ao (pv 0) aA) (rj rfl^fM (cx (i:=6) nd rfl^Or.inr rfl)^fM (cx (i:=7) nd rfl^Or.inl rfl) mT)
    (bE^c7^hV KB ae2 ae3 Ay (pv 5)^ao (Ry (NC:= ["_law_s","_law_q"]) (src:= [none,some 6]) rfl (bC.of (aq A9) rfl rfl (by decide+kernel) (by decide+kernel)^by decide+kernel) #[rfl,rfl,trivial] (kS^pv 7)
     (λ_ _ _=>cx (i:=0) nd3 rfl^Or.inl rfl) (λ_ _ _=>vy)^λ_ _ _=>uZ^ao (pv 1)^ao (pv 0) aA) aA))) mU) pE))),?_]
 have P6:H T=_:=R.top;have lmap:(J.map V.ref).length=C.length:=by rw[aG,R.len]
 refine#[_,rfl,_,rfl,T,_,rfl, .inl^aL.of R.top,l,ns,_,rfl,hl,f9,(),(),(),λdI oY d0 d1 rW uO=>?_]
 let⟨p,rfl⟩:=wc d0;have hp:p<C.length:=()
 have keep:∀(o:HO),aN (upd H l o) T J C:=λo=>R.keep λb O=>by
  refine ag λz=>?_
  rcases O with O|O
  .exact yU^z.symm.trans O
  .rw[z] at O;exact mH O
 have R1:=keep^.lst^oY.map V.int;let⟨a,ha,jJ⟩:=R1.at hp;have wC:gr (J.map V.ref) ((p:Nat):Int)\(.ref a):=cX^by rw[dh,ha];rfl
 have rne:=Vo g h2 hp;have acM:0<(row C p).length:=F4.mpr rne;have rl:=fC g p;have rvl:=cc^row C p;exists _,rfl,_,rfl,T,_,_,_,rfl,rfl,aL.of R1.top,wC;refine#[_,rfl,_,rfl,_,rfl,T,_,_,_,rfl,rfl,aL.of R1.top,wC,a,_,rfl, .inl^aL.of jJ,l,oY,_,rfl,af,rW,(),(),(by lia),λdI2 mE e0 e1 yk w4=>?_]
 rw[qC];let⟨j,rfl⟩:=wc e0;have hj:j<(row C p).length:=()
 have R2:=keep^.lst^mE.map V.int;have Jz:=R2.row p a ha;exists a,_,_,_,rfl,rfl,aL.of Jz,cX^jv^cz hj;have EJ:(row C p)[j]∈row C p:=lX hj;generalize (row C p)[j]=r at EJ;have WJ:Off (l::J) H^upd H l^.lst^mE.map V.int:=Off.put^.inl dH;have nI:upd H l (.lst^mE.map V.int) l\(.lst^mE.map V.int):=af;generalize upd H l^.lst^mE.map V.int=H2 at R2 WJ nI;refine#[_,rfl,_,rfl,_,rfl,by show 2<=sizeLine;decide,λZ Hb=>?_]
 have ss:=az Hb^.tup [V.int (p:Int),V.int (r:Int)];have R3:aN (upd H2 Z^.tup [V.int (p:Int),V.int (r:Int)]) T J C:=R2.off (S:= []) (Off.of_same ss) (by simp)^by simp
 refine#[T,Z,J,C,(p,r),rfl,R3,g,h14,af,EJ,λF L k H4 sm4 Nc hF LD hL hk hit Cd=>?_];have Sl:aC H2 H4:=ss.trans sm4;have X:aN H4 T J C:=R2.off (S:= []) (Off.of_same Sl) (by simp)^by simp
 have YG:=Sl _ _ nI;have WL:Off (l::J) H H4:=WJ.trans^Off.of_same Sl;have tj:aR C (p,r):=EJ;have kd:=vV g tj Cd;have dl:=fZ g;have W6:∀e∈L,aR C e.2:=λe I=>oz g tj (k:=k) e.2^by rw[<-hL];exact cE.mpr #[e,I,rfl]
 have acv:L.length=k:=by have:=KM da hL;rw[aG,jw] at this;exact this
 have nFl:F≠l:=λz=>by rw[z,ss _ _ nI] at Nc;cases Nc
 have nFT:F≠T:=λz=>by rw[z,R3.top] at Nc;cases Nc
 have abx:F∉J:=λz=>by
  let⟨i,hi⟩:=i6 z;rw[R3.row i F hi] at Nc;cases Nc
 refine#[_,rfl,_,rfl,yn (λ_=>?_)^λ_=>?_]
 .
  refine#[by show 0<=sizeLine;decide,λS hS=>?_]
  have nSl:S≠l:=λz=>by rw[z,YG] at hS;cases hS
  have nST:S≠T:=λz=>by rw[z,X.top] at hS;cases hS
  have WD:S∉J:=λz=>by
   let⟨i,hi⟩:=i6 z;rw[X.row i S hi] at hS;cases hS
  refine#[_,rfl,T,rfl,#[_,(az hS _) _ _ X.top],CW (xs:=J.map V.ref) (λi σ H'=>∃(o6 o7:Option V)(L:List (Addr×(Nat×Nat))),σ= [some^.ref T,some^.ref l,some^.bl b,some^.int (p:Int),some^.int (r:Int),some^.ref S,o6,o7,none,none]/\aC H4 H'/\H' S\(.lst (L.map λe=>V.ref e.1))/\rJ H' L/\(∀e∈L,aR C e.2)/\L.length<=i*14) ?_ ?_ ?_ ?_]
  .exact#[_,_,[],rfl,az hS _,af,(λe I=>by cases I),(λe I=>by cases I),eE _]
  .rintro i σ H' _ ⟨o6,o7,L,rfl,sm,_⟩
   exact aL.of^sm _ _ X.top
  .rintro i x t σ H5 hx ht ⟨o6,o7,L,rfl,Oa,Yg,Jv,Yu,Qp⟩
   rw[dh] at hx;let⟨ai,Nh,rfl⟩:=adM.mp hx;have hi:i<C.length:=by rw[<-X.len];exact(cR.mp Nh).1
   exists t,_,rfl,fI.of af,rfl,_,_,rfl,_,_,rfl,rfl;have s6:=az ht^.tup [V.int (i:Int),V.ref ai];generalize upd H5 t^.tup [V.int (i:Int),V.ref ai]=H6 at s6;have EI:=s6 _ _^Oa _ _^X.row i ai Nh;have Yh:=s6 _ _ Yg;have rli:=fC g i;refine#[_,rfl, .inl #[rfl,_,aL.of Yh],_,rfl,ai,rfl,#[_,aL.of EI],λG hD=>?_];have UL:S≠G:=au Yh hD;refine ER (bw^row C i).length (λj lb Y=>∃(o:Option V)(M:List (Addr×(Nat×Nat))),lb= [o,some^.int (i:Int)]/\aC H6 Y/\Y G\(.lst (M.map λe=>V.ref e.1))/\rJ Y M/\(∀e∈M,aR C e.2)/\M.length<=j) ?_ ?_ ?_ ?_ ?_
   .exact#[none,[],rfl,az hD _,af,(λe I=>by cases I),(λe I=>by cases I),bg _]
   .rintro j lb Y hj ⟨o,M,rfl,Cu,_⟩
    exact#[_,_,aL.of^Cu _ _ EI,cz hj]
   .rintro j lb Y hj ⟨o,M,rfl,Cu,_⟩
    exact#[_,aL.of^Cu _ _ EI,hj]
   .rintro j x lb Y H7 hj ⟨o,M,rfl,Cu,hM,Jw,Yw,YI⟩ ⟨rfl,hx⟩
    let⟨n,hn,rfl⟩:=xJ^hx _^aL.of^Cu _ _ EI;refine PY ?_;refine#[_,rfl,_,rfl,by show 2<=sizeLine;decide,λtt Ci=>?_]
    have s8:=az Ci^.tup [V.int (i:Int),V.int (n:Int)];have Ws:upd H7 tt (.tup [V.int (i:Int),V.int (n:Int)]) tt\(.tup^iJ (i,n)):=af;generalize upd H7 tt^.tup [V.int (i:Int),V.int (n:Int)]=H8 at s8 Ws;have ntD:tt≠G:=λz=>by rw[z,hM] at Ci;cases Ci
    refine#[_,s8 _ _ hM,qH (by rw[aG];exact YI)^bA^by rw[cc] at hj;lia,_,M++ [(tt,(i,n))],rfl,λb u eb=>?_,?_,λe I=>?_,λe I=>?_,by simp;lia]
    .rw[ag^au eb hD];exact s8 _ _^Cu _ _ eb
    .rw[af,b9];rfl
    .rcases cP.mp I with z|z
     .have:=Jw e z
      rw[ag^λy=>by rw[y,hM] at this;cases this]
      exact s8 _ _ this
     .have z':e=(tt,(i,n)):=by simpa using z
      rw[z',ag ntD];exact Ws
    .rcases cP.mp I with z|z
     .exact Yw e z
     .have z':e=(tt,(i,n)):=by simpa using z
      rw[z'];exact cL hn
   .rintro lb Y ⟨o,M,rfl,Cu,hM,Jw,Yw,YI⟩
    rw[cc] at YI;have hSc:=Cu _ _ Yh;refine#[S,G,_,_,rfl,rfl,hSc,hM,small^by simp;lia,?_]
    refine#[_,_,L++M,rfl,λb u eb=>?_,?_,λe I=>?_,λe I=>?_,by simp;lia]
    .rw[ag^au eb hS];exact Cu _ _^s6 _ _^Oa _ _ eb
    .rw[af,b9]
    .have hh:Y e.1\(.tup^iJ e.2):=by
      rcases cP.mp I with z|z
      .exact Cu _ _^s6 _ _^Jv e z
      .exact Jw e z
     rw[ag^λy=>by rw[y,hSc] at hh;cases hh];exact hh
    .rcases cP.mp I with z|z
     .exact Yu e z
     .exact Yw e z
  .rintro σ H5 ⟨o6,o7,L,rfl,Oa,Yg,Jv,Yu,Qp⟩
   rw[aG,X.len] at Qp;exact rE p r S L mE o6 o7 H5 (WL.trans^Off.of_same Oa) (X.off (S:= []) (Off.of_same Oa) (by simp)^by simp) hp EJ #[Yg,Jv,Yu,()] (Oa _ _ YG) yk () nSl nST WD
 .exact rE p r F L mE none none H4 WL X hp EJ #[hF,LD,W6,()] YG yk () nFl nFT abx
end
abbrev HN:Stmt:=top 43
def aN.abS(R:aN H T d w)(n:k<w.length)(o:a∉d)(l:a≠T)(h:∀b,b∈d->g b=H b)(p:g T\(.lst^(d.set k a).map V.ref))
  (e:g a\(.lst^bw r)):aN g T (d.set k a)^w.set k r:=by
 have q:k<d.length:=by rw[R.len];exact n
 refine#[p,?_,λz=>?_,by rw[fF,fF];exact R.len,λi b f=>?_]
 .unfold cI
  rw[BJ];intro i j c m lt;rw[fF] at c m;rw[List.getElem_set,List.getElem_set];have s:=BJ.mp R.nod
  split
  .split
   .lia
   .intro z;exact o^by rw[z];exact lX m
  .split
   .intro z;exact o^by rw[<-z];exact lX c
   .exact s i j c m lt
 .rcases aeR z with z|z
  .exact R.nT z
  .exact l z.symm
 .rw[jO n]
  rw[kc] at f
  by_cases c:k=i
  .rw[ir c,ir q] at f
   cases f;rw[ir c];exact e
  .rw[tz c] at f
   rw[tz c,h b^cL f];exact R.row i b f
def QL(h:k<n):lA n (k:Int)\k:=by
 unfold lA;rw[ir (),ir (),lW]
def Ts(a:List V)(b:Nat):i3 a (some (b:Int)) none=a.drop b:=by
 unfold i3;rw[HT.HM,HT.DL]
 by_cases h:b<=a.length
 .rw[t5 h,sI^by rw[oS];exact bg _]
 .rw[xV (),BL^bg _,BL ()];simp
def Tq(a:List V)(b:Nat):i3 a none^some (b:Int)=a.take b:=by
 unfold i3;rw[HT.HM,HT.DL,List.drop_zero,Nat.sub_zero]
 by_cases h:b<=a.length
 .rw[t5 h]
 .rw[xV (),sI^bg _,sI ()]
def Kn(r:List Nat)(b:Nat):(bw r).take b=bw^r.take b:=by unfold bw;rw[adQ]
def Km(r:List Nat)(b:Nat):(bw r).drop b=bw^r.drop b:=by unfold bw;rw[aeE]
def N6(r s:List Nat):bw r++bw s=bw (r++s):=by unfold bw;rw[b9]
def N5(l:List a)(b:Nat):(l.drop b++l.take b).Perm l:=by
 have:=(List.perm_append_comm (l₁:=l.drop b) (l₂:=l.take b))
 rwa [k7] at this
structure Ord (ord:List Nat) (n:Nat):Prop where
 pm:ord.Perm^ak n
def Ord.len(o:Ord ord n):ord.length=n:=by rw[o.pm.length_eq,jQ]
def Ord.get(o:Ord ord n)(h:p<n):ord[p]?\(ord.getD p 0):=by
 rw[cV,cz^by rw[o.len];exact h];rfl
def Ord.into(o:Ord ord n)(h:p<n):ord.getD p 0<n:=i9.mp^o.pm.mem_iff.mp^cL^o.get h
def Ord.inj(o:Ord ord n)(b:p<n)(c:q<n)(e:ord.getD p 0=ord.getD q 0):p=q:=by
 have d:ord.Nodup:=o.pm.nodup_iff.mpr adX;have a:=o.get b;rw[e] at a;exact get_inj d a^o.get c
def Ord.Ia(o:Ord ord n)(h:y<n):∃p,p<n/\ord.getD p 0=y:=by
 have:=o.pm.mem_iff.mpr^i9.mpr h
 let⟨p,a⟩:=i6 this;have lt:=(cR.mp a).1;rw[o.len] at lt
 have:=o.get lt
 rw[a] at this;exact#[p,lt,(Do this).symm]
structure W9 (H:Hp) (T:Addr) (as:List Addr) (w:W):Prop where
 top:H T\(.lst^as.map V.ref)
 len:as.length=w.length
 row:∀(i:Nat) a,as[i]?\a->H a\(.lst^bw^Wb.row w i)
def ZJ:Sp:=λg H Q _=>∃(T O l:Addr)(f:List Addr)(w:W)(ord:List Nat)(d:List Int),g= [.ref T, .ref O, .ref l]/\W9 H T f w/\Good w/\w.length<=14/\H O\(.lst^bw ord)/\Ord ord w.length/\H l\(.lst^d.map V.int)/\d≠ []/\d.length<=2/\l≠T/\l∉f/\l≠O/\
 ∀(F:Addr)(fs:List Addr)(c:W)(e:Hp),Off [l] H e->H F=none->(∀a∈fs,H a=none)->aN e F fs c->Good c->c.length=w.length->jf c=jf w->(∀p,p<w.length->∃b,row c^ord.getD p 0=((row w p).map λx=>ord.getD x 0).drop b++((row w p).map λx=>ord.getD x 0).take b)->Q (.ref F) e
section
variable {P:Program} {w:World} {K:ad} {mg:Str->Option Value} {base:Heap}
def Sg:aE ["_law_turns","_law_order","_law_left","_law_found","_law_p","_law_turn","_law_begin","_law_names"] ["_law_turns","_law_order","_law_left"]^aq HN:=by bv_omega
def US(B:BU mg)(Tk:bK K mg "_law_take" xM ["_law_left","_law_many"])(D:bK K mg "_law_renamed" HN ["_law_turns","_law_order","_law_left"]):FnOk P w K mg base fe 2 D.f D.fd ["_law_turns","_law_order","_law_left"] ZJ:=by
 refine D.F.ok Sg (λvs H Q E h=>?_)^λaT A outer s H vs Q E hr h=>?_
 .obtain⟨T,O,l,as,w,ord,ns,rfl,_⟩:=h
  rfl
 let⟨T,O,l,as,c,ord,ns,rfl,R,g,h14,hO,Y,hl,f9,hz,yU,mH,nlO,q⟩:=h;have nd:=Sg.nd;have nd1:(["_law_turn"]:List fA).Nodup:=by decide+kernel
 have Q3:(["_law_q","_law_order"]:List fA).Nodup:=by decide+kernel
 have gT:=mR (P:=P) (w:=w) (base:=base) B Tk
 refine#[_,aF (kE (i:=3) (NC:= ["_law_turn"]) (src:= [none]) rfl nd rfl (Or.inl rfl) (bC.of (aq HN) rfl rfl (by decide+kernel) (by decide+kernel)^by decide+kernel) trivial (kS^pv 0)
    (λ_ _ _=>cx (i:=0) nd1 rfl^Or.inl rfl) (λ_ _ _=>vy) (λ_ _ _=>fU aA) rfl)
  (aF (kq FS rfl (AV rfl B.enumerate^ao (pv 0) aA) (rj rfl^fM (cx (i:=4) nd rfl^Or.inl rfl)^fM (cx (i:=5) nd rfl^Or.inl rfl) mT)
   (aF (bU (i:=6) nd rfl (Or.inl rfl)^bq gT hr rfl Tk.m Tk.F.kp Tk.b .nil bY^ao (pv 2)^ao (c5 iI (eU cT rfl B.len ac7^ao (pv 5) aA) aZ) aA)
   (aF (kE (i:=7) (NC:= ["_law_q","_law_order"]) (src:= [none,some 1]) rfl nd rfl (Or.inl rfl) (bC.of (aq HN) rfl rfl (by decide+kernel) (by decide+kernel)^by decide+kernel) #[rfl,rfl,trivial] (kS^pv 5)
    (λ_ _ _=>cx (i:=0) Q3 rfl^Or.inl rfl) (λ_ _ _=>vy) (λ_ _ _=>cS (C7 (K:=K)) (pv 1) (pv 0)^λ_ _=>rfl) rfl)
   (bE^rm (c5 Fd (rh vP (pv 7) (qe^pv 6) AW)^rh vP (pv 7) AW^qe^pv 6)^Fh (pv 3) (cS bQ (pv 1) (pv 4)^λ_ _=>rfl) set_list))))
  (bE^iK^pv 3)),?_]
 refine#[_,rfl,T,rfl,#[_,aL.of R.top],λF hF=>?_];refine ER (as.map V.ref).length (λi G C=>∃(o:Option V)(fs:List Addr),G= [o]/\aC H C/\C F\(.lst^fs.map V.ref)/\fs.Nodup/\F∉fs/\(∀a∈fs,H a=none/\C a\(.lst []))/\fs.length=i) ?_ ?_ ?_ ?_ ?_
 .exact#[none,[],rfl,az hF _,af,i8,(by simp),(λa ha=>by cases ha),rfl]
 .rintro i G C N ⟨o,fs,rfl,d,_⟩
  exact#[_,_,aL.of^d _ _ R.top,cz N]
 .rintro i G C N ⟨o,fs,rfl,d,_⟩
  exact#[_,aL.of^d _ _ R.top,N]
 .rintro i x G C H3 N ⟨o,fs,rfl,d,hf,nf,nF,fr,hl⟩ ⟨rfl,Z⟩
  rw[aG,R.len] at N;refine PY ?_;refine#[by show 0<=sizeLine;decide,λr gB=>?_]
  have Zj:r≠F:=λz=>by rw[z,hf] at gB;cases gB
  have WI:r∉fs:=λz=>by rw[(fr r z).2] at gB;cases gB
  refine#[_,by rw[ag^Ne.symm Zj];exact hf,bA^by simp;lia,_,fs++ [r],rfl,λb u X=>?_,?_,?_,?_,λa ha=>?_,by simp[hl]]
  .rw[ag^au X hF,ag^au (d _ _ X) gB];exact d _ _ X
  .rw[af,b9];rfl
  .rw[i7]
   exact#[nf,by simp,λx Z y hy z=>by
    have:y=r:=by simpa using hy
    rw[this] at z;rw[z] at Z;exact WI Z]
  .intro z
   rcases cP.mp z with z|z
   .exact nF z
   .have:F=r:=by simpa using z
    exact Zj this.symm
  .rcases cP.mp ha with z|z
   .refine#[(fr a z).1,?_]
    rw[ag^λy=>nF^by rw[<-y];exact z,ag^λy=>WI^by rw[<-y];exact z]
    exact(fr a z).2
   .have:a=r:=by simpa using z
    rw[this];exact#[d.free gB,by rw[ag Zj,af]]
 rintro G H1 ⟨o,fs0,rfl,Kv,hF1,nf0,nF0,PR,Nl⟩;rw[aG,R.len] at Nl;have pk:=Kv _ _ hl;have Zi:l≠F:=λz=>by rw[z,hF] at hl;cases hl
 have R1:aN H1 F fs0^b5 c.length []:=by
  refine#[hF1,nf0,nF0,by rw[Nl,yD],λi a e=>?_]
  have hz:row (b5 c.length []) i= []:=by
   unfold row;rw[cV,wb]
   split<;>rfl
  rw[hz];exact(PR a^cL e).2
 refine#[_,rfl,T,rfl,#[_,Kv _ _ R.top],CW (xs:=as.map V.ref) (λi σ H'=>∃(o4 o5 o6 o7:Option V)(fs:List Addr)(I:W)(ds:List Int),σ= [some^.ref T,some^.ref O,some^.ref l,some^.ref F,o4,o5,o6,o7]/\Off [l] H H'/\aN H' F fs I/\(∀a∈fs,H a=none)/\I.length=c.length/\
   (∀p,p<i->∃b,row I^ord.getD p 0=((row c p).map λx=>ord.getD x 0).drop b++((row c p).map λx=>ord.getD x 0).take b)/\H' l\(.lst^ds.map V.int)/\ds≠ []/\ds.length<=2) ?_ ?_ ?_ ?_]
 .exact#[_,_,_,_,fs0,_,ns,rfl,Off.of_same Kv,R1,λa ha=>(PR a ha).1,yD,(λp J=>by lia),pk,f9,hz]
 .rintro i σ H' _ ⟨o4,o5,o6,o7,fs,I,ds,rfl,off,_⟩
  exact aL.of^off _ _ (~~~Ne.symm yU) R.top
 .rintro i x t σ H5 Z ht ⟨o4,o5,o6,o7,fs,I,ds,rfl,off,R5,sX,mK,A2,Qp,Wo,hz5⟩
  rw[dh] at Z;let⟨ai,Nh,rfl⟩:=adM.mp Z;have N:i<c.length:=by rw[<-R.len];exact(cR.mp Nh).1
  have WG:l≠ai:=λz=>mH^by rw[z];exact cL Nh
  have pY:H5 ai=_:=off _ _ (~~~Ne.symm WG)^R.row i ai Nh
  have Jh:H5 O=_:=off _ _ (~~~Ne.symm nlO) hO
  exists t,_,rfl,fI.of af,rfl,_,_,rfl,_,_,rfl,rfl;have s6:=az ht^.tup [V.int (i:Int),V.ref ai];generalize upd H5 t^.tup [V.int (i:Int),V.ref ai]=H6 at s6;have rli:=fC g i;have rvl:=cc^row c i;refine#[_,rfl,_,rfl,ai,_,rfl, .inl^aL.of^s6 _ _ pY,_,_,rfl,rfl,l,ds,_,rfl,s6 _ _ Qp,Wo,(),(),(),λdI oY d0 d1 rW uO=>?_]
  let⟨b,rfl⟩:=wc d0;have Rf:Off [l] H^upd H6 l^.lst^oY.map V.int:=(off.trans^Off.of_same s6).trans^Off.put^.inl dH;have rO:upd H6 l (.lst^oY.map V.int) l\(.lst^oY.map V.int):=af;have abD:l∉fs:=λz=>by rw[sX l z] at hl;cases hl
  have R7:aN (upd H6 l^.lst^oY.map V.int) F fs I:=(R5.off (S:= []) (Off.of_same s6) (by simp)^by simp).keep λb M=>by
   refine ag λz=>?_
   rcases M with M|M
   .exact Zi^z.symm.trans M
   .rw[z] at M;exact abD M
  have Ag:upd H6 l (.lst^oY.map V.int) ai\(.lst^bw^row c i):=by rw[ag^Ne.symm WG];exact s6 _ _ pY
  have Nf:upd H6 l (.lst^oY.map V.int) O\(.lst^bw ord):=by rw[ag^Ne.symm nlO];exact s6 _ _ Jh
  generalize upd H6 l^.lst^oY.map V.int=H7 at Rf rO R7 Ag Nf;refine#[_,rfl,ai,rfl,#[_,aL.of Ag],λNm hNm=>?_];refine ER (bw^row c i).length (λj G C=>∃(o:Option V),G= [o,some^.ref O]/\aC H7 C/\C Nm\(.lst^bw (((row c i).take j).map λx=>ord.getD x 0))) ?_ ?_ ?_ ?_ ?_
  .exact#[none,rfl,az hNm _,af]
  .rintro j G C hj ⟨o,rfl,d,_⟩
   exact#[_,_,aL.of^d _ _ Ag,cz hj]
  .rintro j G C hj ⟨o,rfl,d,_⟩
   exact#[_,aL.of^d _ _ Ag,hj]
  .rintro j x G C H8 hj ⟨o,rfl,d,hN⟩ ⟨rfl,Z⟩
   let⟨n,hn,rfl⟩:=xJ^Z _^aL.of^d _ _ Ag;have YM:n<c.length:=g.rng _ _^cL hn;refine PY ?_;exists _,rfl,_,rfl,O,_,_,_,rfl,rfl,aL.of^d _ _ Nf,cX^jv^Y.get YM;refine#[_,hN,qH (by rw[cc,aG,iS];exact Nat.min_le_right _ _)^bA (),_,rfl,λb u X=>?_,?_]
   .rw[ag^au X hNm];exact d _ _ X
   .obtain⟨bZ,hg⟩:=cR.mp hn
    rw[af,adW bZ,hg,b9];unfold bw;rw[b9];rfl
  rintro G H8 ⟨o,rfl,sm8,T6⟩;rw[rvl,qJ] at T6;generalize hnm:((row c i).map λx=>ord.getD x 0)=v at T6;have nml:v.length<=14:=by rw[<-hnm,aG];lia
  refine#[_,rfl,_,rfl,_,rfl,Nm,_,rfl,aL.of T6,λc1 hc1=>?_];rw[Ts,Km];have s9:=az hc1^.lst^bw^v.drop b;have e9:upd H8 c1 (.lst^bw^v.drop b) c1=_:=af;generalize upd H8 c1^.lst^bw^v.drop b=H9 at s9 e9;refine#[_,rfl,_,rfl,_,rfl,Nm,_,rfl,aL.of^s9 _ _ T6,λc2 B9=>?_];rw[Tq,Kn];have A5:=az B9^.lst^bw^v.take b;have e10:upd H9 c2 (.lst^bw^v.take b) c2=_:=af;generalize upd H9 c2^.lst^bw^v.take b=yI at A5 e10;refine#[c1,c2,_,_,rfl,rfl,A5 _ _ e9,e10,small^by rw[cc,cc,oS,iS];omega,λL hc3=>?_]
  rw[N6];have Fp:=az hc3^.lst^bw (v.drop b++v.take b);have e11:upd yI L (.lst^bw (v.drop b++v.take b)) L=_:=af;have yf:yI L=none:=hc3;generalize upd yI L^.lst^bw (v.drop b++v.take b)=BW at Fp e11;have LZ:aC H7 BW:=sm8.trans^s9.trans^A5.trans Fp;have LY:aC H7 yI:=sm8.trans^s9.trans A5;have W8:aN BW F fs I:=R7.off (S:= []) (Off.of_same LZ) (by simp)^by simp
  have YN:=Y.into N;have lfs:(fs.map V.ref).length=c.length:=by rw[aG,R7.len,mK]
  refine#[_,rfl,_,rfl,_,rfl,O,_,_,_,rfl,rfl,aL.of^LZ _ _ Nf,cX^jv^Y.get N,F,_,_,ord.getD i 0,rfl,rfl,W8.top,by rw[lfs];exact QL YN,?_]
  have WE:L≠F:=λz=>by rw[z,LY _ _ R7.top] at yf;cases yf
  have Zg:L∉fs:=λz=>by
   let⟨k,hk⟩:=i6 z;rw[LY _ _^R7.row k L hk] at yf;cases yf
  have aaY:H L=none:=by
   cases e:H L with
   |none=>rfl
   |some u=>
    by_cases z:L=l
    .rw[z,LY _ _ rO] at yf;cases yf
    .rw[LY _ _^Rf _ _ (~~~z) e] at yf;cases yf
  have acJ:l≠F:=Zi;refine#[_,_,_,_,fs.set (ord.getD i 0) L,I.set (ord.getD i 0) (v.drop b++v.take b),oY,rfl,?_,?_,λa ha=>?_,by rw[fF];exact mK,λp J=>?_,?_,rW,()]
  .exact λb u M X=>by rw[ag^au X hF];exact LZ _ _^Rf b u M X
  .refine W8.abS (by rw[mK];exact YN) Zg WE (λb M=>ag λz=>W8.nT^by rw[<-z];exact M) ?_ ?_
   .rw[af,ae1]
   .rw[ag WE];exact e11
  .rcases aeR ha with z|z
   .exact sX a z
   .rw[z];exact aaY
  .rw[jO^by rw[mK];exact YN]
   by_cases e:p=i
   .subst e
    rw[ir rfl,hnm];exact#[b,rfl]
   .rw[tz^λz=>e^Y.inj () N z.symm]
    exact A2 p ()
  .rw[ag Zi];exact LZ _ _ rO
 .rintro σ H5 ⟨o4,o5,o6,o7,fs,I,ds,rfl,off,R5,sX,mK,A2,Qp,Wo,hz5⟩
  rw[aG,R.len] at A2
  have pm5:∀p,p<c.length->(row I^ord.getD p 0).Perm ((row c p).map λx=>ord.getD x 0):=λp J=>by
   let⟨b,e⟩:=A2 p J;rw[e];exact N5 _ b
  exact#[_,rfl,q F fs I H5 off hF sX R5 (M8 g mK (λp J=>Y.into J) (λp q J hq e=>Y.inj J hq e) (λy hy=>Y.Ia hy) λp J=>pm5 p J) mK (Pg mK Y.pm λp J=>pm5 p J) A2]
end
abbrev Sf:Stmt:=top 44
def boot_int:bootBuiltins "int"\(.type "int"):=by decide+kernel
def VC(K:ad):Sp:=λf H Q _=>∃(a:Addr)(e:List Int)(m:Int)(b:Bool),f= [.ref a, .int m, .bl b]/\aL K H a^e.map V.int/\e.length<=63/\1<=m/\m<=14/\
 ∀(F:Addr)(fs:List Addr)(c:W)(d:Hp),aC H d->H F=none->(∀a∈fs,H a=none)->aN d F fs c->Good c->1<=c.length->(c.length:Int)<=m->jf c<=102->Q (.ref F) d
section
variable {P:Program} {w:World} {K:ad} {mg:Str->Option Value} {base:Heap}
def L7:aE ["_law_script","_law_most","_law_plane_here","_law_left","_law_many","_law_turns","_law_order","_law_k","_law_at"] ["_law_script","_law_most","_law_plane_here"]^aq Sf:=by bv_omega
theorem Rj(B:BU mg)(Ce:bK K mg "_law_cell" A6 ["_law_script","_law_k"])(Mi:bK K mg "_law_mixed" zk ["_law_script","_law_turn"])(L:bK K mg "_law_digits" A7 ["_law_script","_law_at"])(Tk:bK K mg "_law_take" xM ["_law_left","_law_many"])
  (Tr:bK K mg "_law_tree" Ks ["_law_many","_law_left"]) (Nx:bK K mg "_law_next" A8 ["_law_turns","_law_side"]) (Rd:bK K mg "_law_round" zl ["_law_turns","_law_side"]) (Ti:bK K mg "_law_tie" A9 ["_law_turns","_law_left","_law_plane_here"]) (Re:bK K mg "_law_renamed" HN ["_law_turns","_law_order","_law_left"])
  (D:bK K mg "_law_web" Sf ["_law_script","_law_most","_law_plane_here"]):FnOk P w K mg base fe 4 D.f D.fd ["_law_script","_law_most","_law_plane_here"]^VC K:=by
 refine D.F.ok L7 (λvs H Q E h=>?_)^λaT A outer s H vs Q E M h=>?_
 .obtain⟨a,ns,m,b,rfl,_⟩:=h
  rfl
 obtain⟨a,ns,m,b,rfl,hS,pS,m1,m14,q⟩:=h;have Y:=L7.nd;have gD:=AO (P:=P) (w:=w) (base:=base) B Ce Mi L;have gT:=(mR (P:=P) (w:=w) (base:=base) B Tk).mono (show 1<=3 by decide)
 have gTr:=(Ri (P:=P) (w:=w) (base:=base) B Tk Tr).mono (show 2<=3 by decide)
 have gTi:=UT (P:=P) (w:=w) (base:=base) B Tk Nx Rd Ti;have gRe:=(US (P:=P) (w:=w) (base:=base) B Tk Re).mono (show 2<=3 by decide)
 refine#[_,aF (bU (i:=3) Y rfl (Or.inl rfl)^bq gD M rfl L.m L.F.kp L.b .nil bY^ao (pv 0)^ao aZ aA)
  (aF (bU (i:=4) Y rfl (Or.inl rfl)^c5 iI aZ^bq gT M rfl Tk.m Tk.F.kp Tk.b .nil bY^ao (pv 3)^ao (pv 1) aA)
  (aF (bU (i:=5) Y rfl (Or.inl rfl)^bq gTr M rfl Tr.m Tr.F.kp Tr.b .nil bY^ao (pv 4)^ao (pv 3) aA)
  (aF (bU (i:=6) Y rfl (Or.inl rfl)^fU aA)
  (aF (kq FS rfl (n5 rfl B.range^ao (pv 4) aA) (cx (i:=7) Y rfl^Or.inl rfl)
   (bE^c7^hV KB adh adi nX (pv 6)^ao (bq gT M rfl Tk.m Tk.F.kp Tk.b .nil bY^ao (pv 3)^ao (c5 iI (pv 7) aZ) aA)^ao (pv 7) aA))
  (aF (kq FS rfl (kS^fU^ao aZ^ao aZ aA) (cx (i:=8) Y rfl^Or.inl rfl)
   (aF (bU (i:=3) Y rfl (Or.inl rfl)^bq gD M rfl L.m L.F.kp L.b .nil bY^ao (pv 0)^ao (pv 8) aA)
   (bE^kq FS rfl (n5 rfl B.range^ao (c5 rf (bq gT M rfl Tk.m Tk.F.kp Tk.b .nil bY^ao (pv 3)^ao aZ aA)^AU II rfl B.int boot_int^ao (HA J7 (pv 4) aZ^aY _) aA) aA) (cx (i:=7) Y rfl^Or.inl rfl)
    (bE^c7^bq gTi M rfl Ti.m Ti.F.kp Ti.b .nil bY^ao (pv 5)^ao (pv 3)^ao (pv 2) aA))))
  (bE^iK^bq gRe M rfl Re.m Re.F.kp Re.b .nil bY^ao (pv 5)^ao (pv 6)^ao (bq gD M rfl L.m L.F.kp L.b .nil bY^ao (pv 0)^ao aZ aA) aA)))))),?_]
 refine#[_,rfl,a,ns,1,rfl,hS,pS,∅,∅,λl R H1 s1 Nl pk f9 hz=>?_]
 refine#[_,rfl,_,rfl,l,R,m,rfl,pk,f9,(),(),(),λdI oY d0 d1 rW uO=>?_]
 exists _,_,rfl,rfl;obtain⟨d,rfl⟩:=wc d0;have em:(1:Int)+(d:Int)=((d+1:Nat):Int):=()
 show zZ 4 (V.int (1+(d:Int))) _ _ _;rw[em];have hm:((d+1:Nat):Int)<=m:=()
 generalize d+1=n at hm em;have Ui:1<=n:=()
 refine#[_,rfl,_,rfl,l,oY,n,rfl,af,rW,(),Ui,(),λT C w0 mE H2 off P6 PR R2 g0 len0 nI yk w4 dg0=>?_]
 have yU:l≠T:=λz=>by rw[<-z,af] at P6;cases P6
 have mH:l∉C:=λz=>by have:=PR l z;rw[af] at this;cases this
 have s2:aC H H2:=λb u g=>off b u (~~~au g Nl)^by rw[ag^au g Nl];exact s1 b u g
 have hTH:H T=none:=by
  cases e:H T with
  |none=>rfl
  |some u=>rw[ag^Ne.symm yU,s1 _ _ e] at P6;cases P6
 have frH:∀x∈C,H x=none:=λx G=>by
  cases e:H x with
  |none=>rfl
  |some u=>
   have:=PR x G
   rw[ag^λz=>mH^by rw[<-z];exact G,s1 _ _ e] at this;cases this
 refine#[by show 0<=sizeLine;decide,λO hO=>?_]
 have Zd:l≠O:=au nI hO;have nOT:T≠O:=au R2.top hO
 have WC:O∉C:=λz=>by
  obtain⟨k,hk⟩:=i6 z;rw[R2.row k O hk] at hO;cases hO
 have hOH:H O=none:=s2.free hO;refine#[_,rfl,(n:Int),rfl,(),(by lia),nE (n:=((n:Int)).toNat) (λi I p=>∃(ord:List Nat)(R:List Int)(v:Option V),I= [some^.ref a,some^.int m,some^.bl b,some^.ref l,some^.int (n:Int),some^.ref T,some^.ref O,v,none]/\aC H p/\aN p T C w0/\p O\(.lst^bw ord)/\ord.Perm^ak i/\p l\(.lst^R.map V.int)/\R≠ []/\R.length<=2) ?_ ?_ ?_]
 .refine#[[],mE,none,rfl,s2.trans^az hO _,R2.off (S:= []) (Off.of_same^az hO _) (by simp)^by simp,af,List.Perm.refl _,?_,yk,w4]
  rw[ag Zd];exact nI
 .rintro i I H3 hi ⟨ord,XH,v,rfl,s3,R3,P5,RE,Np,Wn,hz3⟩
  rw[lW] at hi;have lo:ord.length=i:=by rw[RE.length_eq,jQ]
  have EM:(0:Int)+(i:Int)=(i:Int):=()
  refine#[_,rfl, .inl #[rfl,_,aL.of P5],_,rfl,_,rfl,_,_,rfl,rfl,l,XH,_,rfl,Np,Wn,(),(),(by lia),λeI XI e0 e1 abb hz4=>?_]
  obtain⟨e,rfl⟩:=wc e0;have hO4:upd H3 l (.lst^XI.map V.int) O\(.lst^bw ord):=by rw[ag^Ne.symm Zd];exact P5
  refine#[_,rfl,O,_,_,_,rfl,rfl,hO4,(),by rw[cc];lia,qH (by rw[cc];exact afw lo)^bA (),?_]
  rw[EM,lW,<-rp];refine#[ins ord e i,XI,_,rfl,λb u g=>?_,?_,af,?_,?_,abb,()]
  .rw[ag^au g hOH,ag^au g Nl];exact s3 b u g
  .refine R3.keep λb o=>?_
   rw[ag^λz=>?_,ag^λz=>?_]
   .rcases o with o|o
    .exact yU^z.symm.trans o
    .rw[z] at o;exact mH o
   .rcases o with o|o
    .exact nOT^o.symm.trans z
    .rw[z] at o;exact WC o
  .refine(qV ord e i).trans ?_
   rw[aeg];refine(List.Perm.cons i RE).trans ?_;exact(List.perm_append_singleton i^ak i).symm
  .rw[ag Zd,af]
 rintro I H3 ⟨ord,XH,v,rfl,s3,R3,P5,RE,Np,Wn,hz3⟩;rw[lW] at RE;have od:Ord ord n:=#[RE];refine#[by show 2<=sizeLine;decide,λy Nd=>?_]
 have s4:=az Nd^.lst [V.int 2,V.int 3];have e4:upd H3 y (.lst [V.int 2,V.int 3]) y\(.lst [V.int 2,V.int 3]):=af;have nLT:y≠T:=Ne.symm^au R3.top Nd;have nLO:y≠O:=Ne.symm^au P5 Nd
 have aby:y∉C:=λz=>by
  obtain⟨k,hk⟩:=i6 z;rw[R3.row k y hk] at Nd;cases Nd
 have hLH:H y=none:=s3.free Nd;generalize upd H3 y^.lst [V.int 2,V.int 3]=H4 at s4 e4;have R4:aN H4 T C w0:=R3.off (S:= []) (Off.of_same s4) (by simp)^by simp
 refine#[y,rfl,#[_,aL.of e4],M1 (K:=K) (a:=y) (xs:= [V.int 2,V.int 3]) (λi I p=>∃(l':Addr)(J:W)(v X:Option V),I= [some^.ref a,some^.int m,some^.bl b,some^.ref l',some^.int (n:Int),some^.ref T,some^.ref O,v,X]/\aC H p/\aN p T C J/\Good J/\J.length=n/\p O\(.lst^bw ord)/\p y\(.lst [V.int 2,V.int 3])/\jf J<=26+38*i) ?_ ?_ ?_ ?_]
 .exact#[l,w0,v,none,rfl,s3.trans s4,R4,g0,len0,s4 _ _ P5,e4,()]
 .rintro i I p _ ⟨l',J,v,X,rfl,_,_,_,_,_,hL,_⟩
  exact aL.of hL
 .rintro i x I H5 G ⟨l',J,v,X,rfl,s5,R5,g5,mK,Jh,Yc,dg5⟩
  obtain⟨k,yL,yM,rfl⟩:∃k:Int,0<=k/\k<=100/\x= .int k:=by
   match i,G with
   |0,G=>cases G;exact#[2,∅,∅,rfl]
   |1,G=>cases G;exact#[3,∅,∅,rfl]
   |n+2,G=>simp at G
  refine#[_,rfl,_,rfl,a,ns,k,rfl,s5.seq hS,pS,yL,yM,λr XJ H6 Z t YH Qs hz6=>?_];have n2T:r≠T:=λz=>by rw[z,R5.top] at t;cases t
  have WB:r∉C:=λz=>by
   obtain⟨k,hk⟩:=i6 z;rw[R5.row k r hk] at t;cases t
  have n2O:r≠O:=λz=>by rw[z,Jh] at t;cases t
  have n2L:r≠y:=λz=>by rw[z,Yc] at t;cases t
  have h2H:H r=none:=s5.free t;refine#[_,rfl,r,XJ,20,rfl,YH,Qs,(),∅,∅,λcI Gy c0 c1 abc hz7=>?_]
  refine#[_,rfl,_,_,rfl,rfl, .inr #[_,rfl,?_]];obtain⟨c,rfl⟩:=wc c0
  have R7:aN (upd H6 r^.lst^Gy.map V.int) T C J:=(R5.off (S:= []) (Off.of_same Z) (by simp)^by simp).keep λb o=>by
   refine ag λz=>?_
   rcases o with o|o
   .exact n2T^z.symm.trans o
   .rw[z] at o;exact WB o
  have s7:aC H^upd H6 r^.lst^Gy.map V.int:=λb u g=>by rw[ag^au g h2H];exact Z _ _^s5 b u g
  have Nf:upd H6 r (.lst^Gy.map V.int) O\(.lst^bw ord):=by rw[ag^Ne.symm n2O];exact Z _ _ Jh
  have hL7:upd H6 r (.lst^Gy.map V.int) y\(.lst [V.int 2,V.int 3]):=by rw[ag^Ne.symm n2L];exact Z _ _ Yc
  have rO:upd H6 r (.lst^Gy.map V.int) r\(.lst^Gy.map V.int):=af;generalize upd H6 r^.lst^Gy.map V.int=H7 at R7 s7 Nf hL7 rO;refine#[_,_,rfl,rfl, .inl #[(),(by lia)],?_]
  have aaZ:∃N:Nat,(c:Int)*(if decide ((1:Int)<(n:Int))=true then 1 else 0)=(N:Int)/\N<20/\(0<N->2<=n):=by
   by_cases hn:(1:Int)<(n:Int)
   .rw[FM hn,ir rfl]
    exact#[c,(),(),λ_=>by lia]
   .rw[GE hn,tz ∅]
    exact#[0,(),(),λh=>by lia]
  obtain⟨N,eN,N20,N2⟩:=aaZ;refine#[(N:Int),KM (λz=> [V.int z]) eN,(),(by lia),nE (n:=((N:Int)).toNat) (λj I p=>∃(w2:W)(R:List Int)(v X:Option V),I= [some^.ref a,some^.int m,some^.bl b,some^.ref r,some^.int (n:Int),some^.ref T,some^.ref O,v,X]/\aC H p/\aN p T C w2/\Good w2/\w2.length=n/\p O\(.lst^bw ord)/\p y\(.lst [V.int 2,V.int 3])/\p r\(.lst^R.map V.int)/\R≠ []/\R.length<=2/\jf w2<=jf J+2*j) ?_ ?_ ?_]
  .exact#[J,Gy,_,_,rfl,s7,R7,g5,mK,Nf,hL7,rO,abc,(),()]
  .rintro j I H8 hj ⟨w2,ds8,v,X,rfl,s8,R8,g8,Ww,Yf,Yd,hl8,Wq,hz8,dg8⟩
   rw[lW] at hj;have n2:=N2 ()
   refine#[_,rfl,_,rfl,_,rfl,T,r,b,C,w2,ds8,rfl,R8,g8,(),(),hl8,Wq,hz8,n2T,WB,λw3 ds9 H9 Rg R9 g9 acH hl9 abd hz9 dg9=>?_]
   refine#[w3,ds9,_,_,rfl,λb u g=>Rg b u (λz=>?_)^s8 b u g,R9,g9,(),Rg _ _ (λz=>?_) Yf,Rg _ _ (λz=>?_) Yd,hl9,abd,hz9,()]
   .rcases cQ.mp z with z|z
    .rw[z,h2H] at g;cases g
    .rw[frH b z] at g;cases g
   .rcases cQ.mp z with z|z
    .exact n2O z.symm
    .exact WC z
   .rcases cQ.mp z with z|z
    .exact n2L z.symm
    .exact aby z
  .rintro I H8 ⟨w2,ds8,v,X,rfl,s8,R8,g8,Ww,Yf,Yd,hl8,Wq,hz8,dg8⟩
   rw[lW] at dg8;exact#[r,w2,v,X,rfl,s8,R8,g8,Ww,Yf,Yd,()]
 .rintro I H5 ⟨l',J,v,X,rfl,s5,R5,g5,mK,Jh,Yc,dg5⟩
  refine#[_,rfl,_,rfl,_,rfl,a,ns,4,rfl,s5.seq hS,pS,∅,∅,λl4 XJ H6 Z t YH Qs hz6=>?_]
  have n4T:l4≠T:=λz=>by rw[z,R5.top] at t;cases t
  have abw:l4∉C:=λz=>by
   obtain⟨k,hk⟩:=i6 z;rw[R5.row k l4 hk] at t;cases t
  have n4O:l4≠O:=λz=>by rw[z,Jh] at t;cases t
  have h4H:H l4=none:=s5.free t;have ZE:=s5.trans Z;refine#[T,O,l4,C,J,ord,XJ,rfl,(let Q5:=R5.off (S:= []) (Off.of_same Z) (by simp) (by simp);#[Q5.top,Q5.len,Q5.row]),g5,(),Z _ _ Jh,by rw[mK];exact od,YH,Qs,hz6,n4T,abw,n4O,λF fs w' p off hF fr R' g' acF dg' _=>?_]
  refine q F fs w' p (λb u g=>off b u (~~~au g h4H)^ZE b u g) (ZE.free hF) (λx G=>ZE.free^fr x G) R' g' () ()^by rw[dg'];simp at dg5;lia
end
end t8
namespace wy
open PySem L2 Wb
variable {P:Program} {w:World} {mg:Str->Option Value} {base:Heap} {Z:DC} (T:Txt Z mg)
theorem LW{Z:DC}:∀(fs:List Addr)(w:W),fs.length=w.length->(∀(i:Nat) a,fs[i]?\a->G a\(.lst^t8.bw^row w i))->DvAll Z G (fs.map V.ref)^w.map aB
 | [],[],_,_=> .nil
 | [],_::_,h,_=>by cases h
 |_::_,[],h,_=>by cases h
 |a::fs,r::w,h,k=>by
  refine .cons ?_ (LW fs w (~~~h) λi b d=>k (i+1) b^~~~d)
  have c:G a\(.lst^t8.bw r):=k 0 a rfl;refine Dv.lst c ?_;unfold t8.bw;clear c k h
  induction r with
  |nil=>exact .nil
  |cons x r e=>exact .cons (.int _) e
def VB:di:=λa P=>∃(c:List Int)(m:Nat)(b:Bool),a= [.qy c,ax m, .bl b]/\1<=m/\m<=14/\∀w,Good w->1<=w.length->w.length<=m->P^bR w
def Li{Z:DC}(T:Txt Z a):t8.BU a:=#[T.B.len,T.B.range,T.B.max,T.B.min,T.B.enumerate,T.B.zip,T.B.sorted,T.B.all,T.B.isinstance,T.B.int,T.B.bool,T.B.list,T.B.tuple]
def E7:Dk P w base 4 T.ut^aW Z VB:=by
 refine(t8.Rj (Li T) T.uk T.ul T.um T.un T.uo T.up T.uq T.ur T.us T.ut).imp ?_;rintro M H Q E ⟨G,N,P,s,dv,⟨p,m,b,rfl,m1,r,t⟩,q⟩;obtain⟨O,S,rfl,u,dv⟩:=dv.E6;obtain⟨X,Y,rfl,v,x⟩:=dv.nY;obtain⟨a,rfl,y,A⟩:=u.AH;obtain rfl:=v.ofInt;obtain rfl:=x.AF;refine#[a,p,m,b,rfl,y.mono s,A,(),(),λF fs h j k B f R g C lm _=>?_]
 let d:Addr->Prop:=λb=>b=F\/b∈fs
 have l:∀b,d b->H b=none:=λb c=>by
  rcases c with rfl|c
  .exact B
  .exact f b c
 have I:∀b o,H b\o->¬d b:=λb o e z=>by rw[l b z] at e;cases e
 have J:Ext G H (plus G j d) j:=#[λb o e=>by rw[gF^I b o^s _ _ e];exact e,λb o e=>by
  by_cases z:d b
  .rw[jL z] at e;exact e
  .rw[gF z] at e;exact k _ _^s _ _ e,k,λb c L=>by
  rw[gF^λz=>c^l b z];exact L]
 refine q _ (t h g C ()) _ _ _ J^Dv.lst (xs:=fs.map V.ref) (by rw[jL^.inl rfl];exact R.top) (LW fs h R.len λi a n=>?_)
 rw[jL^.inr^cL n];exact R.row i a n
def Sr:di:=λa P=>∃(b:List Int)(k:Nat),a= [.qy b,ax k]/\k<=100/\∀v:Int,P^.int v
def r6:Dk P w base 1 T.uk^aW Z Sr:=by
 refine(t8.AN T.uk).imp ?_;rintro j H Q E ⟨G,l,P,s,dv,⟨c,k,rfl,m,d⟩,q⟩;let⟨n,o,rfl,e,f⟩:=dv.nY;let⟨a,rfl,g,h⟩:=e.AH;obtain rfl:=f.ofInt;refine#[a,c,k,rfl,g.mono s,h,(),(),λv i b=>?_]
 exact q _ (d v) _ G i #[.refl _,s.trans b,b,λ_ _ z=>z]^.int v
variable {P:Program} {w:World} {mg:Str->Option Value} {base:Heap} {Z:DC} (T:Txt Z mg)
def nJ(l:List Int):List D:=l.map D.int
def Vv:di:=λb P=>∃(c:List Int)(k:Nat),b= [.qy c,ax k]/\k<=100/\∀a:List Int,a≠ []->a.length<=2->P^.lst^nJ a
def xw:Dk P w base 3 T.um^mM Z 1 Vv:=by
 refine(t8.AO (Li T) T.uk T.ul T.um).imp ?_;rintro u H Q E ⟨G,v,P,s,dv,⟨g,k,rfl,x,h⟩,q⟩;let⟨y,A,rfl,i,j⟩:=dv.nY;let⟨a,rfl,l,m⟩:=i.AH;obtain rfl:=j.ofInt;refine#[a,g,k,rfl,l.mono s,m,(),(),λr c n d e f o p=>?_]
 refine q _ (h c o p) (.ref r) [r] G n #[.refl _,s.trans d,d,λ_ _ z=>z] (.inl #[r,_,_,[],rfl,rfl,f,rfl,(DvAll.ints c).own]) (by simp) λb t=>?_
 have:b=r:=by simpa using t
 subst this;exact#[e,(by rw[f];exact λz=>nomatch z),s.free e]
section
variable {X:Cx} {md:List Nat}
def O9(i:Nat)(t:cJ):cJ:=λE a=>(∃d,a[i]?\(some d))/\t {nx:=λ_=>False,rt:=E.rt} a
def h7(i:Nat)(h:lg Z X (md.set i 0) 0 f t):lg Z X md 0 f^O9 i t:=by
 refine jT.imp h ?_;rintro p q H ⟨B,k,E,⟨G,r,S⟩,⟨⟨d,g⟩,l⟩,M⟩;let⟨v,m,dv,a⟩:=S.LV g;refine#[B,k,_,#[_,_,#[a.ex,a.fl,S.len,λj c b=>?_,a.nd,a.ap,a.nw]],l,#[λ_ z=>z.elim,M.rt,λ_ z=>z.elim,λ_ z=>z.elim,λ_ _ z=>z.elim]]
 by_cases e:j=i
 .subst e
  rw[g] at b;cases b;exists v,m
  have:(md.set j 0).getD j 0=0:=by
   rw[cV,kc]
   split<;>first| (split<;>rfl) |exact absurd rfl ‹_›
  rw[this,ir rfl];exact#[dv,rfl]
 .obtain⟨u,n,o⟩:=a.at_ j c^by rw[i5^Ne.symm e];exact b
  exists u,n
  have:(md.set i 0).getD j 0=md.getD j 0:=by rw[cV,cV,i5^Ne.symm e]
  rw[this];exact o
end
variable {P:Program} {w:World} {mg:Str->Option Value} {base:Heap} {Z:DC} (T:Txt Z mg)
section
variable {X:Cx} {md:List Nat}
def CH(g:List Nat)(i n j:Nat)(h:aX):cJ:=λE a=>∃(c f:List D)(b:List Int),a[i]?\(some^.lst c)/\a[n]?\(some^.lst f)/\a[j]?\(some^.lst^nJ b)/\b≠ []/\b.length<=1000/\c.length<sizeLine/\h (FF g true a) λk=>∃m:Int,k= .int m/\0<m/\m<1073741824/\
 ∀(d:Int)(e:List Int),0<=d->d<m->e≠ []->e.length<=b.length->∃v,gr f d\v/\E.nx^(a.set j^some^.lst^nJ e).set i^some^.lst (c++ [v])
def Gz(i n j:Nat){P:hH}{T:List fA}(F:FnOk X.prog X.w X.K X.mg X.base fe k t P T t8.Fv)(hr:bP k X.A)(hg:Gl X f)(wW:X.mg f\(.ref t))(hk:am X.K^.ref t=true)(hb:Binds X.K P T [])
  (hm:DE Z X em Y) (ij:i≠j<|>zm) (nj:n≠j<|>zm) (r:md.getD i 0=1<|>zn) (z8:md.getD j 0=1<|>zn) (s:md.getD n 0=1<|>zn) (hi:X.N[i]?\x<|>zn) (hj:X.N[j]?\y<|>zn) (C:X.N[n]?\z<|>zn)
  (hv:rK X.env.scope x<|>xz) (YX:rK X.env.scope y<|>xz) (I:rK X.env.scope z<|>xz)
  (hd:(x==("__debug__":fA))=false<|>zm) (gK:(x==("__classdict__":fA))=false<|>zm) (Yy:(y==("__debug__":fA))=false<|>zm) (Yr:(y==("__classdict__":fA))=false<|>zm) (J:(z==("__debug__":fA))=false<|>zm) (T9:(z==("__classdict__":fA))=false<|>zm) (dP:(f==("__debug__":fA))=false<|>zm)
  (f7:hT (.Name x q) "append" X.env^gi (.Name x q) X.env=gi (.Name x q) X.env<|>zn)
  (mG:((gM e^d_ [.Subscript (.Name z c) (.Call (.Name f p) [.Name y py,em] [] b) g] X.env).all (λx=>!x.1)&&(js e^iq [] X.env).all (λx=>x.1.isSome)&&decide (([.Subscript (.Name z c) (.Call (.Name f p) [.Name y py,em] [] b) g]:List gc).length+([]:List jp).length+(if ([]:List jp).isEmpty then 0 else 1)<30))=true<|>zn)
  (dZ:(a.endLine==e.line)=true<|>zn) (hs:d_ [.Subscript (.Name z c) (.Call (.Name f p) [.Name y py,em] [] b) g] X.env=(false,gi (.Subscript (.Name z c) (.Call (.Name f p) [.Name y py,em] [] b) g) X.env)::d_ [] X.env<|>zn) (gz:(gM e^d_ [] X.env).any (·.1)=false<|>zn)
  (tw:d_ [.Name y py,em] X.env=(false,gi (.Name y py) X.env)::d_ [em] X.env<|>zn) (YS:d_ [em] X.env=(false,gi em X.env)::d_ [] X.env<|>zn) (bX:(gM b^d_ [em] X.env).any (·.1)=false<|>zn) (EG:pD^.Call (.Name f p) [.Name y py,em] [] b<|>wp)
  (tD:g_ (.Call (.Attribute (.Name x q) "append" a) [.Subscript (.Name z c) (.Call (.Name f p) [.Name y py,em] [] b) g] [] e) none pos.line X.env=pure false<|>zn):
  DSt Z X md rn (.Expr (.Call (.Attribute (.Name x q) "append" a) [.Subscript (.Name z c) (.Call (.Name f p) [.Name y py,em] [] b) g] [] e) pos)^CH md i n j Y:=by
 refine(c7 (hV KB adf adg ju (pv i hi hv hd gK) (ao (cS bQ (pv n C I J T9) (bq F hr hg wW hk hb .nil bY (ao (pv j hj YX Yy Yr) (ao hm aA YS) tw) dP tw bX) EG) aA hs) f7 mG dZ hs gz) tD).imp ?_;rintro Dn σ H ⟨B,ρ,E,⟨G,fp,S⟩,⟨xs,ss,ns,h1,h0,h2,f9,hz,L,h⟩,M⟩;obtain⟨l,xs0,_,_,e2,e3,_⟩:=S.one r h1;let⟨lj,xsj,dsj,ej1,PC,ej3,U⟩:=S.one z8 h2;obtain⟨an,xn0,_,_,en,_,_⟩:=S.one s h0;refine#[_,e2,ty_list e3,_,en,_,PC,S.ev true h λm' pq=>#[(by let⟨m,rfl,U⟩:=pq;rfl),λv G1 H1 S1 x1 dv=>?_]]
 let⟨m,rfl,m0,m1,h⟩:=pq;cases dv;let⟨lk,xk,dk,O,k2,k3,XR,RM⟩:=S1.one z8 h2;have O:ns.map D.int=dk:=by cases O;rfl
 subst O;rw[PC] at k2;cases k2;obtain rfl:=pN XR;refine#[lj,ns,m,rfl,k3,f9,hz,m0,m1,λd o d0 dm Q l'=>?_];have S2:=RM (o.map V.int) (o.map D.int)^.ints o;let⟨v,Jj,C⟩:=h d o d0 dm Q l';have X5:(ρ.set j^some^.lst^o.map D.int)[n]?\(some^.lst ss):=by rw[i5^Ne.symm nj];exact h0
 let⟨l4,xn,XI,r1,r2,r3,YZ,U⟩:=S2.one s X5;cases r1;rw[en] at r2;cases r2;let⟨u,hu,du⟩:=y9 YZ Jj;have Na:(ρ.set j^some^.lst^o.map D.int)[i]?\(some^.lst xs):=by rw[i5^Ne.symm ij];exact h1
 let⟨l3,R,XH,q1,q2,q3,bD,put⟩:=S2.one r Na;cases q1;rw[e2] at q2;cases q2;exists an,xn,d,u,rfl,rfl,aL.of r3,hu;exact#[l,R,u,rfl,rfl,q3,by rw[bD.length];exact L,M.nx _ C _ _ #[_,fp,put _ _^bD.snoc du]]
def O4(h:List Nat)(j:Nat)(i:dq)(k:aX)(f:Int)(g:cJ):cJ:=λE a=>i a λb=>if b=true then g E a else ∃c:List Int,a[j]?\(some^.lst^nJ c)/\c≠ []/\c.length<=1000/\k (FF h false a) λl=>∃m:Int,l= .int m/\0<m/\m<1073741824/\
 ∀(d:Int)(e:List Int),0<=d->d<m->e≠ []->e.length<=c.length->(d=f->g E^a.set j^some^.lst^nJ e)/\(d≠f->E.nx^a.set j^some^.lst^nJ e)
theorem IW(j:Nat){T:cJ}(hu:X.A.units+64<cLine)(F:FnOk X.prog X.w X.K X.mg X.base fe k o fd ps t8.Fv)(hr:bP k X.A)(hg:Gl X f)(wW:X.mg f\(.ref o))(hk:am X.K^.ref o=true)(i:Binds X.K fd ps [])
  (ha:DT Z X a R) (hm:DE Z X em Y) (q:DE Z X n^dC^.int g) (r:lg Z X md rn e T) (z8:md.getD j 0=1<|>zn) (hj:X.N[j]?\y<|>zn) (YX:rK X.env.scope y<|>xz)
  (Yy:(y==("__debug__":fA))=false<|>zm) (Yr:(y==("__classdict__":fA))=false<|>zm) (dP:(f==("__debug__":fA))=false<|>zm)
  (tw:d_ [.Name y py,em] X.env=(false,gi (.Name y py) X.env)::d_ [em] X.env<|>zn) (YS:d_ [em] X.env=(false,gi em X.env)::d_ [] X.env<|>zn) (bX:(gM Q^d_ [em] X.env).any (·.1)=false<|>zn) (s:jn .Eq n=false:=by exact aY _):
  DSt Z X md rn (.If (.BoolOp .Or [a, .Compare (.Call (.Name f p) [.Name y py,em] [] Q) [.Eq] [n] cp] bp) e [] pos)^O4 md j R Y g T:=by
 refine(xE (PW.pt^RO ha^LU^iL (jW (Z:=Z) hu) (bq F hr hg wW hk i .nil bY (ao (pv j hj YX Yy Yr) (ao hm aA YS) tw) dP tw bX) q s) r mU).imp ?_;rintro Dn σ H ⟨B,ρ,E,⟨G,z,S⟩,h,M⟩;refine S.XY h λb i H' C=>?_;cases b with
 |true=>exact cZ^cZ #[B,ρ,E,#[G,z,C],i,M]
 |false=>
  let⟨I,h2,f9,hz,h⟩:=(show ∃I:List Int,_ from i);let⟨lj,xsj,dsj,ej1,PC,ej3,U⟩:=C.one z8 h2;refine cv #[_,PC,C.ev false h λm' pq=>#[trivial,λv G1 H1 S1 x1 dv=>?_]];let⟨m,rfl,m0,m1,h⟩:=pq;cases dv;let⟨lk,xk,dk,J,k2,k3,XR,RM⟩:=S1.one z8 h2;have J:I.map D.int=dk:=by cases J;rfl
  subst J;rw[PC] at k2;cases k2;obtain rfl:=pN XR;refine#[lj,I,m,rfl,k3,f9,hz,m0,m1,λd l d0 dm L l'=>?_];have S2:=RM (l.map V.int) (l.map D.int)^.ints l;let⟨hy,Cd⟩:=h d l d0 dm L l';refine S2.ev (t:=dC^.int g) (P:=λx=>x= .int g) false rfl λx hx=>#[trivial,λu G3 H3 S3 x3 du=>?_];subst hx;cases du.ofInt;refine#[G3, .int d, .int g,λx=>x= .bl (decide (d=g)),S3.ex.sub, .int d, .int g,uB rfl,?_];rintro _ rfl v G4 H4 x4 O;cases O.AF;have S4:=S3.grow x4;exists _,rfl
  by_cases c:d=g
  .rw[FM c]
   exact cZ #[B,_,E,#[_,z,S4],hy c,M]
  .rw[GE c]
   exact cv^M.nx _ (Cd c) _ _ #[_,z,S4]
end
variable {P:Program} {w:World} {mg:Str->Option Value} {base:Heap} {Z:DC} (T:Txt Z mg)
def Fu:di:=λa P=>∃(w:W)(d:Nat×Nat),a= [bR w,pairD d]/\Good w/\aR w d/\P^pairD^qa w d
def r8:Dk P w base 1 T.up^aW Z Fu:=by
 have e:=su.nd;refine bz T.up.F su [0,0,0,0] ∅ (λk R h=>by let⟨r,t,rfl,u⟩:=h;rfl)^λo A outer s H E k R l h=>?_
 have p:=l.units
 refine#[_,(ar (Ek (U 1)^dO 2 rfl^aJ (aI 2 e)^aJ (aI 3 e) bT)
   (aw^aV^bO^aa (U 3)^aa (fz (fz (U 0)^U 3)^fP zi (fP lP (CJ (fz (U 0)^U 3)^U 2) aP)^aU dM rfl T.B.len dJ^aa (fz (U 0)^U 3) ah) ah)),?_]
 let⟨a,d,rfl,g,f,q⟩:=h;have b:=g.rng _ _ f;have i:d.1∈row a d.2:=g.sym _ _ f;have j:((row a d.2).map ax).length=(row a d.2).length:=aG _;have pos:0<(row a d.2).length:=sH i;have m:(0:Int)<(((row a d.2).map ax).length:Int):=by rw[j];lia
 have c:=km i;exists _,rfl,rfl,rfl;have em:(((row a d.2).idxOf d.1:Nat):Int)+1=(((row a d.2).idxOf d.1+1:Nat):Int):=()
 have n:((((row a d.2).idxOf d.1:Nat):Int)+1)%(((row a d.2).map ax).length:Int)=((((row a d.2).idxOf d.1+1)%(row a d.2).length:Nat):Int):=by rw[j,em,ae4]
 have at_:gr ((row a d.2).map ax) (((((row a d.2).idxOf d.1:Nat):Int)+1)%(((row a d.2).map ax).length:Int))\(ax^eQ (row a d.2) d.1):=by
  rw[n];exact gb^qG _ pos
 exists _,rfl,_,rfl,_,rfl,_,vB b,_,rfl,_,rfl,_,vB b;exact#[_,rfl,_,rfl,rfl,h8 _,_,_,c.1,c.2.1,c.2.2,_,rfl,_,rfl,_,vB b,m,_,at_,by show 2<=sizeLine;decide,q]
def Ol:di:=λa P=>∃(w:W)(d:Nat×Nat),a= [bR w,pairD d]/\Good w/\w.length<=14/\aR w d/\∀r,gO w d r->P^.lst^r.map pairD
def AM:Dk P w base 2 T.uq^aW Z Ol:=by
 have f:=qs.nd;refine bz T.uq.F qs [0,0,1,0] ∅ (λp R h=>by let⟨C,D,rfl,G⟩:=h;rfl)^λx A outer s H E p R i h=>?_
 have r:=i.units
 refine#[_,(ar (jA 2 f^jz^aa (U 1) ah)
   (ar (bG false 3 f^aH T.up (r8 T) i^aa (U 0)^aa (U 1) ah)
   (ar (qR FS (bI (qb r) (U 3) (U 1)^aY _)^ar (nq false 2^U 3)
   (aw^bG false 3 f^aH T.up (r8 T) i^aa (U 0)^aa (U 3) ah))
   (aw^aV^U 2)))),?_]
 let⟨a,d,rfl,g,h14,l,q⟩:=h;have y:=fZ g;have z:a.length*a.length<=14*14:=wo h14 h14;refine#[_,rfl,by show 1<=sizeLine;decide,?_]
 exists _,rfl,_,rfl,a,d,rfl,g,l,trivial;refine oE (λm t=>∃k,0<k/\m+k=(ba a).length+1/\(∀j,0<j->j<k->dD a j d≠d)/\t= [some^bR a,some^pairD d,some^.lst^(walk a d k).map pairD,some^pairD^dD a k d]) (ba a).length #[1,(),rfl,λj b o=>by lia,rfl] ?_
 rintro m _ ⟨k,u,B,n,rfl⟩;have v:=ig g l k;exists _,rfl,_,rfl;refine CI #[_,rfl,fu (λe=>?_)^λe=>?_]
 .have ne:dD a k d≠d:=by simpa using e
  have lt:k<(ba a).length:=by
   have:=vV g l (k:=k+1) λj b o=>by
    by_cases c:j=k
    .subst c;exact ne
    .exact n j b ()
   lia
  refine#[_,rfl,_,rfl,trivial,bA^by rw[aG,jw];lia,?_]
  exists _,rfl,_,rfl,a,dD a k d,rfl,g,v,trivial;refine#[m-1,(),k+1,(),(),λj b o=>?_,?_]
  .by_cases c:j=k
   .subst c;exact ne
   .exact n j b ()
  .rw[tY,b9];rfl
 .have e:dD a k d=d:=by simpa using e
  exact#[_,rfl,q _ #[k,u,e,n,rfl]]
def rS.off{w:W}{a:List^List (Nat×Nat)}(h:rS w a)(R:gO w d r)(f:d∉a.flatten):∀x∈r,x∉a.flatten:=λx g z=>by
 let⟨b,c,i⟩:=k9.mp z;let⟨e,j,l⟩:=h b c;let⟨n,k⟩:=R.back g;exact f^k9.mpr #[b,c,k▸j.iter i n]
def DH{w:W}(h:gO w d r)(c:gO w e r):d=e:=by
 obtain⟨k,g,_,_,rfl⟩:=h;obtain⟨m,i,_,_,f⟩:=c
 have:=KM List.head? f
 obtain⟨a,rfl⟩:∃a,k=a+1:=#[k-1,()]
 obtain⟨b,rfl⟩:∃b,m=b+1:=#[m-1,()]
 unfold walk at this;rw[FZ,FZ] at this;exact Do this
def HJ{w:W}(g:Good w)(h:gO w d r)(b:aR w d):∃t,r.map (·.1)=d.1::d.2::t:=by
 obtain⟨k,c,a,_,rfl⟩:=h
 obtain⟨m,rfl⟩:∃m,k=m+2:=by
  exists k-2;apply GM;intro z;obtain rfl:k=1:=()
  have a:qa w d=d:=a;exact kM g b (KM Prod.fst a).symm
 unfold walk;rw[FZ,cH,cH,FZ,cH,cH,cH];exact#[_,rfl]
theorem qN{w:W}:∀{rss:List^List (Nat×Nat)},rS w rss->rss.length<=rss.flatten.length
 | [],_=>bg _
 |r::rss,h=>by
  let⟨d,R,b⟩:=h r (dH ..)
  have:=sH R.first
  have:=qN (rss:=rss) λr a=>h r^fq _ a
  rw[yE,dg,dU];lia
structure RL (w:W) (rss:List^List (Nat×Nat)) (c:Nat×Nat->Prop):Prop where
 rnd:∀r∈rss,∃d,gO w d r/\aR w d/\(∀e∈r,lexLe d e)/\c d
 ord:rss.Pairwise λr r'=>∀d e,gO w d r->gO w e r'->lexLe d e
 nd:rss.flatten.Nodup
 all:∀d,aR w d->c d->d∈rss.flatten
theorem RL.imp{w:W}{c i:Nat×Nat->Prop}(h:RL w g c)(k:∀d,aR w d->i d->c d\/d∈g.flatten)(l:∀d,c d->i d):RL w g i:=
 #[λr m=>let #[d,a,b,e,f]:=h.rnd r m;#[d,a,b,e,l d f],h.ord,h.nd,λd j n=>(k d j n).elim (h.all d j) id]
def RL.allR{w:W}(h:RL w e c):rS w e:=λr f=>let #[d,a,b,_]:=h.rnd r f;#[d,a,b]
def RL.add{w:W}(g:Good w)(h:RL w f c)(m:aR w d)(R:gO w d r)(A:d∉f.flatten)(lo:∀e,aR w e->¬c e->lexLe d e)(B:∀e,c e->lexLe e d)
  (C:∀e,c e->l e) (E:l d) (F:∀e,aR w e->l e->c e\/e=d):RL w (f++ [r]) l:=by
 have off:=rS.off h.allR R A
 have p:∀e∈r,aR w e:=λe i=>by
  let⟨k,D,K,M,rfl⟩:=R;exact oz g m e i
 have q:(f++ [r]).flatten=f.flatten++r:=by rw[we];simp
 refine#[λs j=>?_,?_,?_,λe i G=>?_]
 .rcases cP.mp j with j|j
  .obtain⟨e,n,t,u,o⟩:=h.rnd s j
   exact#[e,n,t,u,C e o]
  .rw[eZ] at j
   subst j;exact#[d,R,m,λe i=>lo e (p e i) λz=>off e i^h.all e (p e i) z,E]
 .refine sL.mpr #[h.ord,FY _ _,λs j L v x y X Y=>?_]
  rw[eZ] at v;subst v;obtain rfl:=DH Y R;let⟨e,n,t,u,o⟩:=h.rnd s j;obtain rfl:=DH X n;exact B _ o
 .rw[q,i7]
  refine#[h.nd,?_,λa H b I z=>off b I (z▸H)];let⟨k,D,K,J,rfl⟩:=R;exact qD g m J
 .rw[q]
  rcases F e i G with z|z
  .exact j8 _^h.all e i z
  .rw[z];exact fW _ R.first
def RL.lands{w:W}(g:Good w)(h:RL w f c)(all:∀d,aR w d->c d):cg w f/\w9 w=iD f:=by
 have p:f.flatten.Perm^ba w:=(yB h.nd^dN g).mpr λd=>#[λi=>bh.mpr^rS.dart g h.allR d i,λi=>h.all d (bh.mp i)^all d^bh.mp i];have R:cg w f:=#[λr j=>let #[d,a,b,e,_]:=h.rnd r j;#[d,a,b,e],p];have o:=h.rnd;have q:=h.ord;refine#[R,C8 g R ?_];unfold iD;rw[iR];refine q.imp_of_mem λ {r k} j s l=>?_;obtain⟨d,a,b,_,_⟩:=o r j;obtain⟨e,m,v,_,_⟩:=o k s;have le:=l d e a m;obtain⟨t,x⟩:=HJ g a b;obtain⟨B,n⟩:=HJ g m v
 by_cases z:d=e
 .subst z
  rw[a.uniq m];unfold p8;cases y:HT.lexLt (jY^k.map (·.1))^jY^k.map (·.1) with
  |false=>rfl
  |true=>exact absurd y^by rw[Aq];simp
 .have A:d.1<e.1\/(d.1=e.1/\d.2<e.2):=by
   unfold lexLe at le
   by_cases y:d.1=e.1
   .have:d.2≠e.2:=λu=>z^acY y u
    lia
   .lia
  rw[x,n];unfold p8 jY;rw[cH,cH,cH,cH,HT.ik]
  split
  .rw[HT.ik]
   split
   .lia
   .exact GE ()
  .exact GE ()
def lR(r:List (Nat×Nat)):D:= .lst^r.map pairD
def H0:di:=λb P=>∃(w:W),b= [bR w]/\Good w/\1<=w.length/\w.length<=14/\∀a,RS w a->P^.lst^a.map lR
theorem iH:Dk P w base 3 T.uu^aW Z H0:=by
 have G:=qq.nd;refine bz T.uu.F qq [0,1,98,0,0,0,0] ∅ (λds R h=>by let⟨K,rfl,V⟩:=h;rfl)^λaT A outer s H E ds R hr h=>?_
 have Q:=hr.units
 refine#[_,(ar (dB (bI (jW Q) (aU dM rfl T.B.len dJ^aa (U 0) ah) aP^aY _) (aw^aV^nk^aa (nk ah) ah) bx)
   (ar (jA 1 G^jz ah)
   (ar (GA 2 G)
   (ar (cu rfl FS (eW rfl T.B.enumerate^aa (U 0) ah) (dO 2 rfl^aJ (aI 3 G)^aJ (aI 4 G) bT)^aw^cu rfl FS (bM^aU wD rfl T.B.sorted je^aa (U 4) ah) (aI 5 G)^aw^dB (bI (J3 Q) (bO^aa (U 3)^aa (U 5) ah) (U 2)^by with_unfolding_all rfl) (ar (nq false 1^aH T.uq (AM T) hr^aa (U 0)^aa (bO^aa (U 3)^aa (U 5) ah) ah)
   (aw^Pq 1 rfl FS (TF aP) (aI 6 G)^aw^GB 2 Q (U 6) pK)) bx)
   (h7 1
   (aw^aV^U 1)))))),?_]
 let⟨b,rfl,g,h1,h14,q⟩:=h;have lw:(b.map aB).length=b.length:=aG _;have c1:=fZ g;have c2:b.length*b.length<=14*14:=wo h14 h14;exists _,rfl;dsimp only[lH,zB,bR];refine TV #[_,rfl,fu (λe=>?_)^λe=>?_]
 .have n1:b.length=1:=by
   have:((b.map aB).length:Int)=1:=IR e
   lia
  exact#[by show 0<=sizeLine;decide,by show 1<=sizeLine;decide,q [[]]^.inl #[n1,rfl]]
 have L:2<=b.length:=by
  have:¬((b.map aB).length:Int)=1:=SB e
  lia
 refine#[by show 0<=sizeLine;decide,?_]
 exists _,rfl;refine(?_:iC _ _ _ (eO^b.map aB) _)
 refine bN (λj M=>∃(a:List^List (Nat×Nat))(i:List FV)(S X C n:Option D),M= [some^bR b,some^.lst^a.map lR,some^.x^.dj (a.flatten.map zz) i,S,X,C,n]/\RL b a λd=>d.1<j)
  #[[],[],_,_,_,_,rfl,(λr h=>nomatch h), .nil,i8,λd _ h=>absurd h ()] ?_ ?_
 .rintro p _ _ l ⟨a,i,S,X,C,n,rfl,ok⟩ A N
  let⟨hp,rfl⟩:=yy l;exists rfl,rfl;have rl0:=fC g p;exists _,rfl;dsimp only[lH];refine xP () λo Y srt=>?_
  refine bN (λm M=>∃(a:List^List (Nat×Nat))(i:List FV)(C n:Option D),M= [some^bR b,some^.lst^a.map lR,some^.x^.dj (a.flatten.map zz) i,some^ax p,some^aB^row b p,C,n]/\RL b a λd=>d.1<p\/(d.1=p/\d.2∈o.take m))
   #[a,i,_,_,rfl,ok.imp (λd _ h=> .inl (h.elim id λz=>by simp at z)) λd h=> .inl h] ?_ ?_
  .clear ok
   rintro t _ _ l ⟨a,i,C,n,rfl,ok⟩ A N;let⟨k,hq,rfl⟩:=cw l;have de:aR b (p,k):=Y.mem_iff.mp^cL hq;have I:o.take (t+1)=o.take t++ [k]:=by rw[wq,hq];rfl
   refine#[_,rfl,_,rfl,by show 2<=sizeLine;decide,_,rfl,zz (p,k),_,i,rfl,rfl,_,rfl,?_]
   refine(?_:if (if true=true then !decide (zz (p,k)∈a.flatten.map zz) else _)=true then _ else _);rw[ir rfl,show decide (zz (p,k)∈a.flatten.map zz)=decide ((p,k)∈a.flatten) from ad0.mpr rD];refine fu (λc=>?_)^λc=>?_
   .have c:(p,k)∉a.flatten:=by simpa using c
    have fl:=bf ok.nd λe u=>bh.mpr^rS.dart g ok.allR e u;have rl:=qN ok.allR;refine#[_,rfl,_,rfl,_,rfl,_,rfl,by show 2<=sizeLine;decide,b,(p,k),rfl,g,h14,de,λr R=>?_]
    refine#[trivial,bA^by rw[aG];lia,?_]
    have leq:∀y∈o.take t,y<=k:=λy v=>by
     rw[<-k7 (t+1) o,I] at srt
     have:=(sL.mp (sL.mp srt).1).2.2
     exact this y v k^by simp
    have geq:∀y∈o,y∉o.take t->k<=y:=λy v hn=>by
     have ed:o.drop t=k::o.drop (t+1):=by
      let⟨hl,e⟩:=cR.mp hq;rw[<-e];exact wa hl
     rw[<-k7 t o,cP] at v;have v:=v.resolve_left hn;have s2:=(sL.mp^by rw[<-k7 t o] at srt;exact srt).2.1
     rw[ed] at v s2
     rcases cQ.mp v with rfl|v
     .exact bg _
     .exact(List.pairwise_cons.mp s2).1 y v
    have O:RL b (a++ [r]) λd=>d.1<p\/(d.1=p/\d.2∈o.take (t+1)):=by
     refine RL.add g ok de R c (λe u nc=>?_) (λe J=>?_) (λe J=>J.imp id λz=>#[z.1,by rw[I];exact j8 _ z.2]) (.inr #[rfl,by rw[I];simp]) λe u J=>?_
     .unfold lexLe
      by_cases z:e.1=p
      .right
       refine#[z.symm,geq _ (Y.mem_iff.mpr ?_) λy=>nc^.inr #[z,y]];have u:e.2∈row b e.1:=u;rw[z] at u;exact u
      .left
       show p<e.1
       have:¬e.1<p:=λy=>nc^.inl y
       lia
     .unfold lexLe
      exact J.imp id λz=>#[z.1,leq _ z.2]
     .rw[I] at J
      by_cases z:e=(p,k)
      .exact .inr z
      .exact .inl (J.imp id λh=>#[h.1,(cP.mp h.2).elim id λh2=>absurd (acY h.1^eZ.mp h2) z])
    have ef:(a++ [r]).flatten=a.flatten++r:=by rw[we];simp
    have L:=O.nd;have TZ:=bf O.nd λe u=>bh.mpr^rS.dart g O.allR e u;rw[ef] at L TZ;rw[dg] at TZ;have Jj:gr (a.map lR++ [.lst^r.map pairD]) (-1)\(.lst^r.map pairD):=MD _ _;exists _,rfl,-1,r.map pairD,rfl,Jj;refine bN (λj M=>∃(i:List FV)(n:Option D),M= [some^bR b,some^.lst (a.map lR++ [.lst^r.map pairD]),some^.x^.dj ((a.flatten++r.take j).map zz) i,some^ax p,some^aB^row b p,some^ax k,n]) #[i,n,by rw[t6,e8];rfl] ?_ ?_
    .rintro j _ _ Qf ⟨i,n,rfl⟩ A3 X7
     let⟨f,hf,rfl⟩:=cw Qf;have VN:r.take (j+1)=r.take j++ [f]:=by rw[wq,hf];rfl
     have Zh:f∉a.flatten++r.take j:=λz=>by
      have sp:a.flatten++r=(a.flatten++r.take j)++(f::r.drop (j+1)):=by
       rw[k8,<-cR.mp hf|>.2,adO,k7]
      rw[sp] at L;exact(i7.mp L).2.2 f z f (dH ..) rfl
     refine#[.bl true,_,i,rfl,rfl,_,rfl,zz f,rfl,λz=>Zh^rD.mp z,by rw[aG,dg,iS];lia,X7 _ #[i++ [.bl true],some^pairD f,?_]]
     rw[VN,<-k8,b9 (l₂:= [f])];rfl
    .rintro _ ⟨i,n,rfl⟩
     rw[aG,qJ];exact N _ #[a++ [r],i,some^ax k,n,by rw[ef,b9 (f:=lR)];rfl,O]
   .have c:(p,k)∈a.flatten:=IR^by simpa only[Bool.not_eq_false'] using c
    refine N _ #[a,i,_,_,rfl,ok.imp (λd _ l=>?_) λd l=>l.imp id λz=>#[z.1,by rw[I];exact j8 _ z.2]]
    rw[I] at l
    by_cases z:d=(p,k)
    .rw[z];exact .inr c
    .exact .inl (l.imp id λh=>#[h.1,(cP.mp h.2).elim id λh2=>absurd (acY h.1^eZ.mp h2) z])
  .rintro _ ⟨a,i,C,n,rfl,ok⟩
   refine N _ #[a,i,_,_,_,_,rfl,ok.imp (λd Jl l=> .inl ?_) λd l=>?_]
   .rw[aG,qJ]
    by_cases z:d.1=p
    .exact .inr #[z,Y.mem_iff.mpr (z▸Jl)]
    .left;lia
   .rcases l with l|l<;>lia
 rintro _ ⟨a,i,S,X,C,n,rfl,ok⟩;rw[jh,lw] at ok;let⟨R1,R2⟩:=RL.lands g ok λd l=>gH l;exact#[#[_,rfl],_,rfl,q a^.inr #[L,R1,R2]]
variable {P:Program} {w:World} {mg:Str->Option Value} {base:Heap} {Z:DC} (T:Txt Z mg)
theorem DK(r:List (Nat×Nat)):∀(l:List^List (Nat×Nat))(n:Nat),iY n (l++ [r])=iY n l++r.map λ_=>FV.int ((n+l.length:Nat):Int)
 | [],n=>by simp[iY]
 |s::l,n=>by
  show _++iY (n+1) (l++ [r])=_++iY (n+1) l++_;rw[DK r l (n+1),<-k8,dU,show n+1+l.length=n+(l.length+1) by lia]
def RS.facts{w:W}(g:Good w)(h14:w.length<=14)(h:RS w c):c.flatten.Nodup/\c.flatten.length<=196:=by
 rcases h with ⟨_,rfl⟩ | ⟨_,R,_⟩
 .exact#[∅,∅]
 .obtain⟨a,b,_⟩:=rq g h14 R
  exact#[a,b]
def Oe:di:=λb P=>∃(w:W),b= [bR w]/\Good w/\1<=w.length/\w.length<=14/\∀a,RS w a->P^.x^.dj (qg a)^iY 0 a
def mP:Dk P w base 4 T.uv^aW Z Oe:=by
 have c:=mW.nd;refine bz T.uv.F mW [0,98,0,0,0] ∅ (λy R h=>by let⟨K,rfl,V⟩:=h;rfl)^λaT A outer s H E y R d h=>?_
 have C:=d.units
 refine#[_,(ar (GA 1 c)
   (ar (cu rfl FS (eW rfl T.B.enumerate^aa (aH T.uu (iH T) d^aa (U 0) ah) ah) (dO 2 rfl^aJ (aI 2 c)^aJ (aI 3 c) bT)^aw^cu rfl FS (bM^U 3) (aI 4 c)^aw^GB 1 C (U 4)^U 2)
   (h7 1
   (aw^aV^U 1)))),?_]
 let⟨k,rfl,g,G,h14,q⟩:=h;refine#[_,rfl,k,rfl,g,G,h14,λa p=>?_];let⟨c,I⟩:=p.facts g h14;refine(?_:iC _ _ _ (eO^a.map lR) _);refine bN (λj l=>∃(m n b:Option D),l= [some^bR k,some^.x^.dj ((a.take j).flatten.map zz)^iY 0^a.take j,m,n,b]) #[_,_,_,rfl] ?_ ?_
 .rintro j _ _ J ⟨m,n,b,rfl⟩ A L
  let⟨x,M,rfl⟩:=jg J;let⟨r,d,rfl⟩:=cw M;have t:a.take (j+1)=a.take j++ [r]:=by rw[wq,d];rfl
  have N:=(cR.mp d).1;have o:(a.take (j+1)).flatten=(a.take j).flatten++r:=by rw[t,we];simp
  have sub:=K8^cL d
  have u:((a.take j).flatten++r).Nodup:=by
   rw[<-o];have e:a.flatten=(a.take (j+1)).flatten++(a.drop (j+1)).flatten:=by rw[<-we,k7]
   rw[e] at c;exact(i7.mp c).1
  have O:((a.take j).flatten++r).length<=196:=by
   rw[<-o];have e:a.flatten=(a.take (j+1)).flatten++(a.drop (j+1)).flatten:=by rw[<-we,k7]
   rw[e,dg] at I;lia
  exists rfl,rfl;exists _,rfl;refine(?_:iC _ _ _ (r.map pairD) _);refine bN (λi l=>∃(b:Option D),l= [some^bR k,some^.x^.dj (((a.take j).flatten++r.take i).map zz) (iY 0^a.take j++(r.take i).map λ_=>FV.int (j:Int)),some^.int (j:Int),some^lR r,b]) #[b,by rw[t6,e8,xW,e8];rfl] ?_ ?_
  .rintro i _ _ Q ⟨b,rfl⟩ A3 S
   let⟨f,v,rfl⟩:=cw Q;have X:r.take (i+1)=r.take i++ [f]:=by rw[wq,v];rfl
   have Y:f∉(a.take j).flatten++r.take i:=λz=>by
    have sp:(a.take j).flatten++r=((a.take j).flatten++r.take i)++(f::r.drop (i+1)):=by
     rw[k8,<-cR.mp v|>.2,adO,k7]
    rw[sp] at u;exact(i7.mp u).2.2 f z f (dH ..) rfl
   rw[dg] at O;refine#[_,rfl, .int (j:Int),_,_,rfl,rfl,_,rfl,zz f,rfl,λz=>Y^rD.mp z,by rw[aG,dg,iS];lia,S _ #[some^pairD f,?_]]
   rw[X,<-k8,b9 (l₂:= [f]) (f:=zz),b9 (l₂:= [f]),<-k8];rfl
  .rintro _ ⟨b,rfl⟩
   rw[aG,qJ];refine L _ #[_,_,_,by rw[o,t,DK,iS,t5^qL N,ja]]
 .rintro _ ⟨m,n,b,rfl⟩
  rw[jh,aG,qJ];exact#[#[_,rfl],_,rfl,q a p]
def KN(r:Nat->List Nat)(n:Nat):cM r (n+1)=cM r n++((r n).filter λq=>decide (n<q)).map λq=>(n,q):=by
 unfold cM;rw[aeg,List.flatMap_append];simp
def Kx:di:=λb P=>∃(w:W),b= [bR w]/\Good w/\w.length<=14/\∀a:List (Nat×Nat),a.Perm^cM (row w) w.length->a.Pairwise lexLe->P^.lst^a.map pairD
def jC:Dk P w base 1 T.uw^aW Z Kx:=by
 have k:=sv.nd;refine bz T.uw.F sv [0,1,0,0] ∅ (λz R h=>by let⟨K,rfl,V⟩:=h;rfl)^λaT A outer s H E z R C h=>?_
 have hu:=C.units
 refine#[_,(ar (jA 1 k^jz ah)
   (ar (cu rfl FS (eW rfl T.B.enumerate^aa (U 0) ah) (dO 2 rfl^aJ (aI 2 k)^aJ (aI 3 k) bT)^aw^TM 1^sS (NC:= ["_law_b","_law_a"]) (src:= [none,some 2]) rfl (sQ^aq kz) #[rfl,rfl,trivial] (bM^aU wD rfl T.B.sorted je^aa (U 3) ah) (λ_ _ _=>(bL 0 (show(["_law_b","_law_a"]:List fA).Nodup from by decide+kernel))) (λ_ _ _=>(uE^bI AE (U 1) (U 0)^aY _))^λ_ _ _=>(bO^aa (U 1)^aa (U 0) ah))
   (h7 1
   (aw^aV^U 1)))),?_]
 let⟨e,rfl,g,h14,q⟩:=h;have G:(e.map aB).length=e.length:=aG _;refine#[by show 0<=sizeLine;decide,?_]
 exists _,rfl;refine(?_:iC _ _ _ (eO^e.map aB) _);refine bN (λj l=>∃(d:List (Nat×Nat))(m n:Option D),l= [some^bR e,some^.lst^d.map pairD,m,n]/\d.Perm^cM (row e) j/\d.Pairwise lexLe/\(∀t∈d,t.1<j)/\d.length<=j*14) #[[],_,_,rfl, .refl _, .nil,(λt h=>nomatch h),eE _] ?_ ?_
 .rintro p _ _ I ⟨d,m,n,rfl,i,srt,lo,J⟩ A L
  let⟨hp,rfl⟩:=yy I;exists rfl,rfl;have M:=fC g p
  have N:d.length<=196:=by
   have:p*14<=14*14:=wo ()^bg _
   lia
  exists _,rfl,_,rfl;dsimp only[lH];refine xP () λr v u=>?_
  have ml:=v.length_eq;refine jB (λl=>∃o,l= [o,some^ax p]) ax (λq=>decide (p<q)) (λq=>pairD (p,q)) r _ [] _ (λy hy O x Y Nn Q S=>?_) #[_,rfl] (by rw[qK,ja];exact small ()) λO x=>?_
  .obtain⟨o,rfl⟩:=x
   exists _,rfl,_,rfl,_,rfl;refine(?_:if decide ((p:Int)<(y:Int))=true then _ else _);refine fu (λc=>?_)^λc=>?_
   .have c:p<y:=by have:=IR c;lia
    exact#[_,rfl,_,rfl,by show 2<=sizeLine;decide,Q _ #[_,rfl]^FM c]
   .have c:¬p<y:=by have:=SB c;lia
    exact S _ #[_,rfl]^GE c
  have fl:=F2 (λq=>decide (p<q)) r;rw[sM];refine#[_,rfl,small^by rw[aG,aG];lia,L _ #[d++(r.filter λq=>decide (p<q)).map^λq=>(p,q),some^.int (p:Int),some^aB^row e p,?_,?_,?_,?_,?_]]
  .rw[b9,cC];rfl
  .rw[KN]
   exact i.append^(v.filter _).map _
  .refine sL.mpr #[srt,?_,λa X b hb=>?_]
   .rw[iR]
    refine(u.filter _).imp λ {a b} h=>?_;exact .inr #[rfl,h]
   .obtain⟨y,_,rfl⟩:=cE.mp hb
    exact .inl^lo a X
  .intro t f
   rcases cP.mp f with f|f
   .have:=lo t f;lia
   .obtain⟨y,_,rfl⟩:=cE.mp f
    exact aeV _
  .rw[dg,aG];lia
 .rintro _ ⟨d,m,n,rfl,i,srt,lo,J⟩
  rw[jh,G] at i;exact#[#[_,rfl],_,rfl,q d i srt]
end wy
set_option autoImplicit true
namespace Wb
def cF(a:List^List (Nat×Nat))(d:Nat×Nat):Nat:=a.findIdx λr=>decide (d∈r)
def LM(h:d∈a.flatten):cF a d<a.length:=by
 obtain⟨r,b,c⟩:=k9.mp h;exact List.findIdx_lt_length_of_exists #[r,b,FM c]
def UO{a:List^List (Nat×Nat)}{d:Nat×Nat}(h:d∈a.flatten):d∈a.getD (cF a d) []:=by
 have l:=LM h;rw[cV,cz l]
 have:=List.findIdx_getElem (w:=l)
 exact IR this
theorem LL:∀{a:List^List (Nat×Nat)}{d:Nat×Nat}{k:Nat},a.flatten.Nodup->d∈a.getD k []->cF a d=k
 | [],d,k,_,h=>by simp at h
 |r::a,d,0,b,h=>by
  have h:d∈r:=h;unfold cF;rw[adI,FM h];rfl
 |r::a,d,k+1,b,h=>by
  have h:d∈a.getD k []:=h;rw[yE] at b;let⟨l,f,g⟩:=i7.mp b;have c:=LL f h
  have i:d∈a.flatten:=by
   rw[cV] at h;cases e:a[k]? with
   |none=>rw[e] at h;cases h
   |some x=>rw[e] at h;exact k9.mpr #[x,cL e,h]
  have j:d∉r:=λz=>g d z d i rfl;unfold cF at c ⊢;rw[adI,GE j];show a.findIdx _+1=k+1;rw[c]
structure kI (w:W) (rss:List^List (Nat×Nat)):Prop where
 nd:rss.flatten.Nodup
 dart:∀d,d∈rss.flatten↔aR w d
 go:∀k d,d∈rss.getD k []->qa w d∈rss.getD k []
def kI.of{w:W}(g:Good w){a:List^List (Nat×Nat)}(R:cg w a):kI w a:=by
 refine#[R.perm.nodup_iff.mpr^dN g,λd=>R.perm.mem_iff.trans bh,λk d h=>?_];rw[cV] at h ⊢;cases e:a[k]? with
 |none=>rw[e] at h;cases h
 |some r=>
  rw[e] at h;let⟨c,b,f⟩:=R.rnd r^cL e;exact b.next h
def kI.one(g:Good w)(h:w.length=1):kI w [[]]:=by
 refine#[∅,λd=>#[λz=>by simp at z,λz=>?_],λk d z=>?_]
 .have a:=gH z
  have b:=g.rng _ _ z;exact absurd (show d.1=d.2 by lia)^kM g z
 .match k with
  |0=>cases z
  |k+1=>simp at z
def kI.num(L:kI w a)(h:aR w d):cF a d<a.length/\d∈a.getD (cF a d) []:=#[LM^(L.dart d).mpr h,UO^(L.dart d).mpr h]
def kI.at_(L:kI w a)(h:d∈a.getD k []):aR w d/\cF a d=k:=by
 refine#[(L.dart d).mp ?_,LL L.nd h];rw[cV] at h;cases e:a[k]? with
 |none=>rw[e] at h;cases h
 |some x=>rw[e] at h;exact k9.mpr #[x,cL e,h]
def kI.next(L:kI w a)(h:aR w d):cF a^qa w d=cF a d:=(L.at_^L.go _ _ (L.num h).2).2
def IE(g:Good w){A:Nat×Nat->Prop}(k:∀d,aR w d->A d->A (d.2,d.1))(s:∀d,aR w d->A d->A^qa w d)(l:aR w f)(t:A f):∀d,aR w d->A d:=by
 have m:∀p q,q∈row w p->A (p,q)->∀x∈row w p,A (p,x):=λp q e u=>by
  have pos:=sH e
  have v:∀n,A (p,(row w p).getD (((row w p).idxOf q+n)%(row w p).length) 0):=λn=>by
   induction n with
   |zero=>
    have c:=K9 e;rw[Nat.add_zero,wj c,cV,cz c,ae5,BO];exact u
   |succ n j=>
    have c:=qG ((row w p).idxOf q+n) pos
    have o:(row w p).getD (((row w p).idxOf q+n)%(row w p).length) 0∈row w p:=by
     rw[cV,cz c];exact lX c
    have i:aR w ((row w p).getD (((row w p).idxOf q+n)%(row w p).length) 0,p):=g.sym _ _ o
    have:=s _ i^k (p,(row w p).getD (((row w p).idxOf q+n)%(row w p).length) 0) o j
    unfold qa eQ at this
    have y:(row w p).idxOf^(row w p).getD (((row w p).idxOf q+n)%(row w p).length) 0=((row w p).idxOf q+n)%(row w p).length:=by
     rw[cV,cz c,ae5];exact List.Nodup.idxOf_getElem (g.nod p) _ c
    simp only[y] at this;rw[Nat.mod_add_mod] at this;exact this
  intro x z;have c:=K9 z;have C:=K9 e
  have:=v ((row w p).idxOf x+(row w p).length-(row w p).idxOf q)
  rw[show(row w p).idxOf q+((row w p).idxOf x+(row w p).length-(row w p).idxOf q)=(row w p).idxOf x+(row w p).length by lia,Nat.add_mod_right,wj c,cV,cz c,ae5,BO] at this
  exact this
 have y3:∀p q,q∈row w p->(∀x∈row w p,A (p,x))->∀x∈row w q,A (q,x):=λp q e h=>m q p (g.sym _ _ e)^k (p,q) e^h q e
 have reach:∀a b,Reach w a b->((∀x∈row w a,A (a,x))↔∀x∈row w b,A (b,x)):=λa b h=>by
  induction h with
  |refl=>exact Iff.rfl
  |step _ r j=>exact j.trans #[y3 _ _ r,y3 _ _^g.sym _ _ r]
 have B:=m f.1 f.2 l t;intro d i;exact(reach 0 d.1^g.con _^gH i).mp ((reach 0 f.1^g.con _^gH l).mpr B) d.2 i
end Wb
namespace wy
open PySem L2 Wb
variable {P:Program} {w:World} {mg:Str->Option Value} {base:Heap} {Z:DC} (T:Txt Z mg)
theorem kT:∀(a:List^List (Nat×Nat))(n:Nat),d∈a.flatten->∃j:Nat,(qg a)[j]?\(zz d)/\(iY n a)[j]?\(FV.int ((n+cF a d:Nat):Int))
 | [],n,h=>nomatch h
 |r::a,n,h=>by
  unfold qg cF;rw[yE,b9];unfold iY
  by_cases c:d∈r
  .obtain⟨j,b⟩:=BF.mp c
   have e:=(cR.mp b).1;refine#[j,?_,?_]
   .rw[gJ^by rw[aG];exact e,dh,b];rfl
   .rw[gJ^by rw[aG];exact e,dh,b,adI,FM c];rfl
  .rw[yE,cP] at h
   let⟨j,g,f⟩:=kT a (n+1)^h.resolve_left c;unfold cF at f;refine#[r.length+j,?_,?_]
   .rw[iQ^by rw[aG];lia,aG,afa];exact g
   .rw[iQ^by rw[aG];lia,aG,afa,f,adI,GE c]
    show some^FV.int _\(FV.int _);rw[show n+1+a.findIdx (λr=>decide (d∈r))=n+(a.findIdx (λr=>decide (d∈r))+1) by lia];rfl
def RS.uniq{w:W}(g:Good w)(h:RS w a)(k:RS w b):a=b:=by
 rcases h with ⟨c,rfl⟩ | ⟨c,R,e⟩<;>rcases k with ⟨d,rfl⟩ | ⟨d,S,f⟩
 .rfl
 .lia
 .lia
 .rw[<-rz g R,<-rz g S,<-e,f]
def RS.Dm{w:W}(g:Good w)(h:RS w a):kI w a:=by
 rcases h with ⟨b,rfl⟩ | ⟨_,R,_⟩
 .exact .one g b
 .exact .of g R
def ot{w:W}(h:t∈cM (row w) w.length):aR w t:=by
 rw[eB] at h;exact bh.mp (m7.mp h).1
structure Tk (w:W) (rss:List^List (Nat×Nat)) (ts:List (Nat×Nat)):Prop where
 g:Good w
 h1:1<=w.length
 h14:w.length<=14
 rs:RS w rss
 pm:ts.Perm (cM (row w) w.length)
 srt:ts.Pairwise lexLe
def Tk.uniq{w:W}(h:Tk w a c)(d:b.Perm^cM (row w) w.length)(srt:b.Pairwise lexLe):b=c:=ac3 (λ_ _ _ _=>mL) srt h.srt^d.trans h.pm.symm
def Tk.few{w:W}(h:Tk w a b):b.length<=196:=by
 have c:=fZ h.g;have e:w.length*w.length<=14*14:=wo h.h14 h.h14
 have:=h.pm.length_eq
 rw[eB] at this
 have:=F2 (λd:Nat×Nat=>decide (d.1<d.2))^ba w
 lia
def Tk.rounds{w:W}(h:Tk w rss f):rss.flatten.length<=196/\(∀r∈rss,r.length<=196)/\rss.length<=197:=by
 rcases h.rs with ⟨_,rfl⟩ | ⟨_,R,_⟩
 .exact#[∅,λr e=>by rw[eZ] at e;subst e;decide,∅]
 .obtain⟨a,b,c⟩:=rq h.g h.h14 R
  exists b,c
  have:=qN (w:=w) (rss:=rss) λr e=>let #[d,a,b,_]:=R.rnd r e;#[d,a,b]
  lia
def tc(w:W):Nat:=(cM (row w) w.length).length
def xY(w:W)(a:List^List (Nat×Nat)):D:= .tup [.int (w.length:Int), .int (tc w:Int), .int (a.length:Int)]
def j4(w:W)(a:List^List (Nat×Nat)):Prop:=(w.length:Int)+(a.length:Int)=(tc w:Int)+2
def Hm{w:W}{P:D->Prop}(g:Good w)(j:1<=w.length)(f:w.length<=14)(R:RS w a)(h:∀b:List^List Nat,b.map rR=a->b.length=a.length->(∀r∈b,r.length<=300)->P^.lst^b.map aB):HZ [.gI w] P:=by
 refine#[w,rfl,g,j,f,λe=>?_,λk m R2 e=>?_]
 .obtain rfl:=R.uniq g^.inl #[e,rfl]
  exact h [[0]] rfl rfl λr d=>by rw[eZ] at d;subst d;decide
 .obtain rfl:=R.uniq g^.inr #[k,R2,e]
  rw[e];let⟨n,o,c⟩:=rq g f R2;refine h (iD a) (rz g R2) (by unfold iD;rw[aG]) λr d=>?_
  let⟨i,l,rfl⟩:=cE.mp d
  have:=c i l
  show(i.map (·.1)).length<=300;rw[aG];lia
def Of:di:=λb P=>∃(w:W)(a:List^List (Nat×Nat)),b= [.gI w]/\Good w/\1<=w.length/\w.length<=14/\RS w a/\P^xY w a
def Du:Dk P w base 4 T.u4^aW Z Of:=by
 have r:=DM.nd;refine bz T.u4.F DM [0] ∅ (λf R h=>by let⟨v,x,rfl,y⟩:=h;rfl)^λt A outer s H E f R c h=>?_
 have u:=c.units;refine#[_,(aw^aV^bO^aa (gw T.W (U 0) T.v7.m (nZ T) (c.mono ∅) T.v7.b)^aa (aU dM rfl T.B.len dJ^aa (gw T.W (U 0) T.v9.m (gE T) (c.mono ∅) T.v9.b) ah)^aa (aU dM rfl T.B.len dJ^aa (aH T.u3 (xB T) c^aa (U 0) ah) ah) ah),?_]
 let⟨a,d,rfl,g,i,e,R,q⟩:=h;refine#[_,rfl,a,rfl,a,rfl,_,rfl,a,rfl,a,rfl,g,e,λj k srt=>?_];have l:(j.map pairD).length=tc a:=by rw[aG,k.length_eq];rfl
 exists _,rfl;dsimp only[lH];refine Hm g i e R λn _ o _=>?_;have p:(n.map aB).length=d.length:=by rw[aG,o]
 unfold xY at q;rw[<-l,<-p] at q;exact#[by show 3<=sizeLine;decide,q]
def Oj:di:=λb P=>∃(w:W)(a:List^List (Nat×Nat)),b= [.gI w]/\Good w/\1<=w.length/\w.length<=14/\RS w a/\(j4 w a->P^.bl true)/\(¬j4 w a->P^.bl false)
def E9:Dk P w base 5 T.u5^aW Z Oj:=by
 have b:=vK.nd;refine bz T.u5.F vK [0,0,0,0] ∅ (λf R h=>by let⟨o,p,rfl,q⟩:=h;rfl)^λn A outer s H E f R d h=>?_
 have i:=d.units
 refine#[_,(ar (Ek (aH T.u4 (Du T) d^aa (U 0) ah)^dO 3 rfl^aJ (aI 1 b)^aJ (aI 2 b)^aJ (aI 3 b) bT)
   (aw^aV^lI (jW i) (fP lP (U 1)^U 3) (fP lP (U 2) aP)^aY _)),?_]
 let⟨e,a,rfl,g,j,k,R,l,m⟩:=h;exists _,rfl,e,a,rfl,g,j,k,R;unfold xY;exists rfl,rfl;exists _,rfl,_,rfl,_,rfl;refine uB ?_
 by_cases c:j4 e a
 .have:=l c
  unfold j4 at c;rw[FM c];exact this
 .have:=m c
  unfold j4 at c;rw[GE c];exact this
end wy
namespace L2
open PySem PySem.Spec PyProof.Rows
open Classical in
def tH(H:Hp)(a:Addr):Hp:=λb=>if b=a then none else H b
def xg(h:b≠a):tH H a b=H b:=tz h
def Dg:tH H a a=none:=ir rfl
def Hn:aC (tH H a) H:=λb o e=>by
 by_cases z:b=a
 .subst z;rw[Dg] at e;cases e
 .rw[xg z] at e;exact e
def uT(Z:DC)(n:Nat)(j:di):Sp:=λk H Q _=>∃(G:Hp)(g:List V)(a:Addr)(h:List V)(i l:List D)(P:D->Prop),k=g++ [.ref a]/\aC G H/\DvAll Z G g i/\H a\(.lst h)/\G a=none/\DvAll Z G h l/\j (i++ [.lst l]) P/\
 ∀d,P d->∀v f e c,Ext G (tH H a) e c->Own Z e c n v d f->f.Nodup->(∀b∈f,tH H a b=none/\c b≠none/\e b=none)->Q v c
section
variable {P:Program} {w:World} {K:ad} {mg:Str->Option Value} {base:Heap} {Z:DC}
theorem M0(B:Nat){x m:Str}{st:Stmt}{f:Addr}{T:FuncData}{N n:List Str}{k:Nat}{C:di}(F:sN K x m st f T)(S:aE N n (aq st))(I:List Nat)(Ju:∀i,i<n.length-1->I.getD i 0=0)(z8:I.getD (n.length-1) 0=1)(len:∀e P,C e P->e.length=n.length)
  (jj:∀(y:Value)(A:Around)(outer:List Env)(s:Shared)(H:Hp)(E:XK)(e:List D)(R:D->Prop),bP k (A.deeper (envOfC m (aq st) s.heap.objs.size f y))->C e R->
   ∃t,lg Z (j5 fe P w K mg base N m (aq st) f y A outer s H E).lB I B (cY st) t/\t {nx:=λ_=>B=0/\R .aQ,rt:=R} (jD N e)):FnOk P w K mg base fe (k+1) f T n (uT Z B C):=by
 refine F.ok S (λvs H Q E h=>?_) (λy A outer s H vs Q E hr h=>?_)
 .obtain⟨G,p,a,X,e,l,R,rfl,s,dv,_,_,_,h,q⟩:=h
  have:=len _ _ h
  rw[dg] at this ⊢;rw[dv.length];exact this
 rfl';obtain⟨G,p,a,X,e,l,R,rfl,s0,dv,Y,ga,J,h,q⟩:=h;have QA:=q;obtain⟨t,ht,hq⟩:=jj y A outer s H E _ R hr h;have hl:=len _ _ h;have ld:e.length+1=n.length:=by rw[<-hl,dg];rfl
 have lu:p.length=e.length:=dv.length;ac_rfl;refine#[_,ht,#[G,tH H a,G],_,_,#[G,λi=>if i=n.length-1 then[a] else[],?_],hq,#[λρ JD ay H' #[G',fp,S']=>q _ JD.2 _ [] G' H' S'.ex (by rw[JD.1];exact#[.aQ,rfl]) i8 (λb r=>by cases r),QA,λ_ z=>z.elim,λ_ z=>z.elim,λ_ _ z=>z.elim]]
 refine#[#[.refl _,s0,Hn,λ_ _ h=>h], .refl _,by unfold jD start;simp[dv.length],λi d g=>?_,λi=>?_,(λi j b ne g hj=>?_),(λi b r=>?_)]
 .unfold jD at g
  have L:i<(e++ [D.lst l]).length:=by
   apply GM;intro z;rw[iQ (~~~ke z),wb] at g
   split at g<;>cases g
  rw[gJ (~~~L),dh] at g
  have o:(e++ [D.lst l])[i]?\d:=by
   cases z:(e++ [D.lst l])[i]? with
   |none=>rw[z] at g;cases g
   |some d'=>rw[z] at g;cases g;rfl
  have st:∀u,(p++ [V.ref a])[i]?\u->(start N (p++ [V.ref a]))[i]?\(some u):=λu hu=>by
   unfold start;have M:i<(p++ [V.ref a]).length:=(cR.mp hu).1;rw[gJ (~~~M),dh,hu];rfl
  by_cases c:i<e.length
  .rw[gJ c] at o
   obtain⟨v,hv,nv⟩:=dv.get o;refine#[v,st v (by rw[gJ ()];exact hv),?_]
   rw[Ju i (),tz ()]
   exact#[nv,rfl]
  .have O:i=e.length:=by rw[dg] at L;have:i<e.length+1:=L;lia
   subst O;rw[iQ (bg _),oV] at o;have o:d= .lst l:=(Do o).symm;subst o;refine#[.ref a,st _ (by rw[iQ (),lu,oV];rfl),?_]
   rw[show e.length=n.length-1 by lia,z8,ir rfl]
   exact .inl #[a,X,l,[],rfl,rfl,Y,rfl,J.own]
 .split<;>simp
 .split at g
  .split at hj
   .lia
   .cases hj
  .cases g
 .split at r
  .have:b=a:=by simpa using r
   subst this;exact#[Dg,(by rw[Y];exact λz=>nomatch z),ga]
  .cases r
end
section
variable {Z:DC} {X:Cx} {md:List Nat} {rn:Nat} {e e1 e2 e3 k:Expr} {pos p2:Pos} {te t1 t2:aX} {t3:t7}
def Ext.give(x:Ext G H c d)(i:H a=none)(y:Ext c (tH d a) f g):Ext G H f g:=
 have ne:∀b o,H b\o->b≠a:=λb o e z=>by rw[z,i] at e;cases e
 #[x.gg.trans y.gg,y.sub,λb o e=>y.hh b o^by rw[xg^ne b o e];exact x.hh b o e,λb h j=>by
  cases e:H b with
  |none=>exact absurd e h
  |some o=>exact y.off b (by rw[xg^ne b o e,x.hh b o e];exact λz=>nomatch z)^x.off b h j]
end
section
variable {P:Program} {w:World} {K:ad} {mg:Str->Option Value} {base:Heap} {Z:DC} {k:Nat} {f:Addr} {fd:FuncData} {ps:List Str}
def PN(F:FnOk P w K mg base (wx P w) k f fd ps^iF Z d):FnOk P w K mg base fe k f fd ps (aW Z λa P=>d a P λ_=>False):=
 #[λc H Q E #[G,a,P,s,dv,h,q]=>F.len c H Q (λ_ _ _=>False) #[G,a,P,λ_=>False,s,dv,h,q,λ_ z=>z.elim],
  λA outer s H b i c Q E j l m n #[G,a,P,g,dv,h,q]=>ac1 (F.run A outer s H b i c Q (λ_ _ _=>False) j l m n #[G,a,P,λ_=>False,g,dv,h,q,λ_ z=>z.elim]) λr g q=>by
  cases r with
  |error e=>let⟨p,t,u,v,z⟩:=q;exact z
  |ok o=>cases o<;>exact q]
end
end L2
namespace Wb
open PySem PySem.Spec PyProof.Rows
def Sn{le:d->d->Prop}(tr:∀a b c,le a b->le b c->le a c)(e:∀a b,le a b\/le b a)(l:List d):∃f:List d,f.Perm l/\f.Pairwise le:=by
 classical
 refine#[l.mergeSort λa b=>decide (le a b),List.mergeSort_perm _ _,?_]
 have:=List.pairwise_mergeSort (le:=λa b=>decide (le a b)) (λa b c h k=>FM^tr a b c (IR h)^IR k) (λa b=>by simpa using e a b) l
 exact this.imp λh=>IR h
def zI{a b:Nat}(c:a<4)(d:b<4):Builtin.bitXor (a:Int) (b:Int)=((a^^^b:Nat):Int)/\a^^^b<4:=by
 have:∀a b:Fin 4,Builtin.bitXor (a.val:Int) (b.val:Int)=((a.val^^^b.val:Nat):Int)/\a.val^^^b.val<4:=by decide+kernel
 exact this #[a,c] #[b,d]
def c8:List Nat->Nat
 | []=>0
 |a::l=>a^^^c8 l
def t4(h:l.Perm m):c8 l=c8 m:=by
 induction h with
 |nil=>rfl
 |cons a _ c=>unfold c8;rw[c]
 |swap a b l=>show b^^^(a^^^c8 l)=a^^^(b^^^c8 l);rw[<-oU,<-oU,ae6 b a]
 |trans _ _ d e=>exact d.trans e
theorem xQ:∀(l m:List Nat),c8 (l++m)=c8 l^^^c8 m
 | [],m=>by show c8 m=0^^^c8 m;rw[ae7]
 |a::l,m=>by show a^^^c8 (l++m)=a^^^c8 l^^^c8 m;rw[xQ l m,oU]
theorem DX(f g:b->Nat):∀l:List b,c8 (l.map λx=>f x^^^g x)=c8 (l.map f)^^^c8^l.map g
 | []=>by show 0=0^^^0;decide
 |a::l=>by
  show f a^^^g a^^^c8 (l.map λx=>f x^^^g x)=f a^^^c8 (l.map f)^^^(g a^^^c8^l.map g);rw[DX f g l,oU,oU,<-oU^g a,<-oU^c8^l.map f,ae6^g a]
def Im(h:∀x∈l,x<4):c8 l<4:=by
 induction l with
 |nil=>decide
 |cons a l b=>exact(zI (h a (dH ..)) (b λx c=>h x^fq _ c)).2
def dW(a:List^List (Nat×Nat))(b:List Nat)(t:Nat×Nat):Nat:=b.getD (cF a t) 0^^^b.getD (cF a (t.2,t.1)) 0
def XT(a:List^List (Nat×Nat))(b:List Nat)(p q:Nat):dW a b (q,p)=dW a b (p,q):=ae6 _ _
def nW(p q:Nat):Nat×Nat:=(min p q,max p q)
def Zb(p q:Nat):nW p q=(p,q)\/nW p q=(q,p):=by
 unfold nW
 rcases afE p q with h|h
 .left;rw[t5 h,ad1 h]
 .right;rw[xV h,aen h]
def Eo(a:List^List (Nat×Nat))(b:List Nat)(p q:Nat):dW a b^nW p q=dW a b (p,q):=by
 rcases Zb p q with h|h<;>rw[h]
 exact XT a b p q
def KD{r:List Nat}(c:r.Nodup):(r.map^eQ r).Perm r:=by
 have g:(r.map^eQ r).Nodup:=by
  unfold cI;rw[iR];exact acS (λ {a b} h d n e=>n^Bn c h d e) c
 refine(yB g c).mpr λx=>#[λf=>?_,λf=>?_]
 .obtain⟨y,i,rfl⟩:=cE.mp f
  exact Bo i
 .obtain⟨b,d,e⟩:=RF c f
  exact cE.mpr #[b,d,e]
def GD(g:Good w)(L:kI w a)(b:List Nat)(p:Nat):c8 ((row w p).map λq=>dW a b (p,q))=0:=by
 have c:((row w p).map λq=>dW a b (p,q))=(row w p).map λq=>b.getD (cF a (p,q)) 0^^^b.getD (cF a (p,eQ (row w p) q)) 0:=by
  refine D2 λq e=>?_;have d:aR w (q,p):=g.sym p q e
  have:=L.next d
  unfold qa at this;unfold dW;rw[<-this]
 rw[c,DX]
 have f:c8 ((row w p).map λq=>b.getD (cF a (p,eQ (row w p) q)) 0)=c8 ((row w p).map λq=>b.getD (cF a (p,q)) 0):=by
  have:=(KD^g.nod p).map λq=>b.getD (cF a (p,q)) 0
  rw[cC] at this;exact t4 this
 rw[f,ae8]
def KJ(d:a<4)(e:b<4)(f:c<4)(g:a≠0)(i:b≠0)(j:c≠0)(h:c8 [a,b,c]=0): [a,b,c].Perm [1,2,3]:=by
 have:∀a b c:Fin 4,a.val≠0->b.val≠0->c.val≠0->c8 [a.val,b.val,c.val]=0-> [a.val,b.val,c.val].isPerm [1,2,3]=true:=by decide+kernel
 exact List.isPerm_iff.mp^this #[a,d] #[b,e] #[c,f] g i j h
def tU(v:Nat×Nat->Nat)(p:Nat):List (Nat×Nat)->Nat:=λa=>c8^(a.filter λt=>decide (t.1=p\/t.2=p)).map v
def Sm(g:Good w)(j:c.Perm^cM (row w) w.length)(v:Nat×Nat->Nat)(p:Nat):tU v p c=c8 ((row w p).map λq=>v^nW p q):=by
 have k:tU v p c=tU v p^cM (row w) w.length:=t4^(j.filter _).map _;rw[k,eB]
 have l:((((ba w).filter λd=>decide (d.1<d.2)).filter λt=>decide (t.1=p\/t.2=p))).Perm^(row w p).map^nW p:=by
  refine(yB (((dN g).filter _).filter _) ?_).mpr λt=>?_
  .unfold cI
   rw[iR];refine acS (λ {a b} s u n e=>n ?_)^g.nod p;unfold nW at e;have m:=KM Prod.fst e;have o:=KM Prod.snd e;simp only at m o;lia
  .rw[m7,m7,bh,cE]
   constructor
   .rintro⟨⟨i,lt⟩,r⟩
    have lt:=IR lt
    rcases IR r with h|h
    .refine#[t.2,by have:aR w (t.1,t.2):=i;rw[h] at this;exact this,?_]
     unfold nW;rw[<-h,t5 (),ad1 ()]
    .refine#[t.1,by have:aR w (t.1,t.2):=i;have:=g.sym _ _ this;rw[h] at this;exact this,?_]
     unfold nW;rw[<-h,xV (),aen ()]
   .rintro⟨q,f,rfl⟩
    have ne:p≠q:=kM g (show aR w (p,q) from f);unfold nW;refine#[#[?_,FM^by show min p q<max p q;lia],FM ?_]
    .rcases afE p q with h|h
     .rw[t5 h,ad1 h];exact f
     .rw[xV h,aen h];exact g.sym p q f
    .show min p q=p\/max p q=p
     lia
 have:=t4^l.map v
 rw[cC] at this;exact this
end Wb
namespace PySem
namespace F
def FR:lf (.type "zip") "keys"=pure none:=am_miss_of_fast^by kernel_rfl
def vZ:typeLookup (.type "zip") "__getattr__"=pure none:=by rw[afe,ad6];kernel_rfl
def oI:entryFor table "dict.update.loop"\Builtin.«dict.update.loop»:=entryFor_of_fast^by kernel_rfl
def gU:plainId "dict.update.loop"=true:=by decide+kernel
def B8:entryFor table "zip.__getattribute__"\Builtin.«object.__getattribute__»:=
 entryFor_alias (id':="object.__getattribute__") (by kernel_rfl) (by decide+kernel) (by decide+kernel)^by kernel_rfl
end F
def yT(a:Addr)(e:Array b_)(f:Array^Option b_)(b:fA)(u:Tok)(h:lf (.type "zip") b=pure none)(i:(["__module__","__name__","__qualname__","__doc__","__annotations__"]:List fA).contains b=false)(j:b.length+100<=sizeLine):
  Meets (Builtin.«object.__getattribute__» #[[.ref a, .str b u],[]]) (λA R s=>s.heap.get? a\{cls:= .type "zip",dict:=none,data:= .fields e,slots:=f}/\raisesAttr (.ref a) b A R s):=
 Meets.of_wp λprog w A R s c=>by
  let⟨k,g,d,l,os⟩:=s;let⟨m,c⟩:=c;have n:(#[k,g,d,l,os]:c_).TypeIs (.ref a) "zip":=#[_,m,rfl];delta Builtin.«object.__getattribute__»
  repeat (any_goals (first|assumption|wp_step))
  simp only[i,fo,Pi]
  repeat (any_goals (first|assumption|wp_step))
  exact wpAny_raiseAttrError c.1 c.2^attrMsg_fits (by decide+kernel) j
def OG{s:c_} 
  (j:s.heap.get? a\{cls:= .type "zip",dict:=none,data:= .fields f,slots:=i}) (n:A.handled=none)
  (h:∀h' k,(∀b o,s.heap.get? b\o->h'.get? b\o)->Q none {s with heap:=h',toks:=k}):e_ (ei prog w) A (getAttr? (.ref a) "keys") Q E s:=by
 let⟨p,g,d,k,os⟩:=s;have l:∀c,(#[p,g,d,c,os]:c_).TypeIs (.ref a) "zip":=λ_=>#[_,j,rfl];have q:=sub_AttributeError;have r:=F.slot_zip_getattribute.lookup;have t:=F.slot_zip_getattribute.bind^.ref a;have u:=F.vZ;unfold getAttr? getAttrBy? getAttrBy
 repeat (any_goals (first|assumption|exact l _| ((with_reducible show e_ _ _ (call (Value.builtin "zip.__getattribute__") _ _) _ _ _);refine adq F.slot_zip_getattribute (l _) F.B8 (F.args_zip_getattribute_2 _ _) (yT a f i _ _ F.FR (by decide+kernel)^by decide+kernel) #[j,n,λh' c e m=>?_]) |wp_step))
 let⟨v,x,y⟩:=m.there;show e_ _ _ (getattributeRaised _ _ _ _ _ _ _) _ _ _;unfold getattributeRaised
 repeat (any_goals (first|assumption|wp_step))
 exact h _ _ m.keeps
end PySem
namespace L2
open PySem PySem.Spec PyProof.Rows
structure ZQ where
 c:Addr
 p:Int×Int
 f:FV
 u:Value
def zE(L:List ZQ):List (Int×Addr):=L.map λq=>(bo q.p,q.c)
theorem LQ:∀(L:List ZQ),(∀q∈L,H q.c\(.tup [.int q.p.1, .int q.p.2]))->fG H (zE L)^L.map (·.p)
 | [],_=> .nil
 |q::L,h=> .cons (h q (dH ..)) (LQ L λx a=>h x^fq _ a)
theorem RJ{ks:List (Int×Int)}(hu:B.units+1<cLine)(i:Inv X d m H s)(n:H c\(.tup [.int p.1, .int p.2]))(t:H a\(.ext^bb a f g))(G:fG H f ks)(I:ks.Nodup)(J:p∉ks)(hz:ks.length<=300)(L:RelV (vF fv) r)
  (h:∀v h',Inv X d m (upd H a^.ext^bb a (f++ [(bo p,c)]) (g++ [fv])) {s with heap:=h',toks:=v}->Heap.SameBut a s.heap h'->Q ⟨⟩ {s with heap:=h',toks:=v}):e_ (ei X.prog X.w) B (dictSet a (.ref c) r) Q E s:=by
 let⟨z,j,l,M⟩:=i.Pm t G I;refine wpAny_dictSet_heap (knd:=iB^fD X.prog X.w) (k:= [p.1,p.2]) (by show B.units<cLine;lia) (i.qf n) M (λh' y A=>?_)^small^by rw[l.len];lia
 have N:ow j [p.1,p.2]=none:=by
  cases e:ow j [p.1,p.2] with
  |none=>rfl
  |some q=>exact absurd (mS.mp^by rw[<-l.keys];exact jF.mp^by rw[e];rfl) J
 rw[storedH_new N] at y;rfl';have P:lY H (f++ [(bo p,c)]) (ks++ [p]) (g++ [fv]) (j++ [([p.1,p.2],c,r)]):=l.snoc n^Es L;let⟨C,R,S,F,T,Y,Z,D,K⟩:=y;ac_rfl;exact h _ _ (i.write (h':=h') (t':=s.toks+(iB^fD X.prog X.w).draws [p.1,p.2]) (x:=a) (e:=a) (o:= .ext^bb a (f++ [(bo p,c)]) (g++ [fv])) (by rw[t];trivial) (.inl rfl) (λb u hb e=>A.extBut b u hb e) #[C,F]^bb.ok #[z,C,R,S,F,T,Y,by rw[Z];exact Ja P]) A
section
variable {X:Cx} {pins:List (Addr×Obj)} {σ:St} {H:Hp} {z TI TO i1 i2 l1 l2 D:Addr} {B:Around}
theorem SW(P:B.handled=none)(hu:B.units+4<cLine)(N:jt z TI TO i1 i2 l1 l2)(r:∀b∈ [z,TI,TO,i1,i2,l1,l2],b<D)(t:H D=none)(v:∀b∈ [z,TO,i1,i2,TI],eJ X pins H b)
  (y:∀q∈L,H q.c\(.tup [.int q.p.1, .int q.p.2])/\RelV (vF q.f) q.u) (i:(L.map (·.p)).Nodup) (hl:L.length<=300)
  (Q:∀C,Inv X pins σ (upd H D^.ext^bb D (zE L)^L.map (·.f)) C->R (.ok^.ret d) C):
  ∀(M A:List ZQ)(s:c_),A++M=L->Inv X pins σ (upd H D^.ext^bb D (zE A)^A.map (·.f)) s->ZS z TI TO i1 i2 l1 l2 D (L.map λq=>Value.ref q.c).toArray (L.map (·.u)).toArray A.length s.heap->
   hB (ei X.prog X.w) B (.builtin "dict.update.loop" #[[.ref D, .ref z,lr A.length,d],[]]) R s:=by
 have nD:∀b∈ [z,TO,i1,i2,TI],b≠D:=λb a=>bS^r b^by simp only[cQ,BR,aer] at a ⊢;rcases a with h|h|h|h|h<;>simp[h]
 have E:∀o,∀b∈ [z,TO,i1,i2,TI],eJ X pins (upd H D o) b:=λo b a=>#[by rw[ag^nD b a];exact(v b a).1,(v b a).2]
 intro M
 induction M with
 |nil=>
  intro A s e I st;rw[e8] at e;subst e;refine ac2 PySem.F.oI ?_;rw[acU PySem.F.gU _];show e_ _ B.in1 (nr^.ref z>>=_) _ _ _;refine a_ (Ir (A:=B.in1) P N st (.inl^by simp) λh' j=>?_)
  exact a_^mo^mo^Q _ (I.m6 (t':=s.toks) (E _) λb o a q=>j b o (λz=>a^by simp[z]) (λz=>a^by simp[z]) (λz=>a^by simp[z]) (λz=>a^by simp[z]) q)
 |cons q M S=>
  intro A s e I st;have g:=y q^by rw[<-e];simp
  have G:L[A.length]?\q:=by rw[<-e,iQ^bg _,oV];rfl
  have k:((L.map λq=>Value.ref q.c).toArray)[A.length]?\(.ref q.c):=by simp[G]
  have Y:((L.map (·.u)).toArray)[A.length]?\q.u:=by simp[G]
  have l:D<s.heap.objs.size:=by
   let⟨K,o,U,V,Z,W⟩:=(I.hok D _ af).1;exact Da Z
  refine ac2 PySem.F.oI ?_;rw[acU PySem.F.gU _];show e_ _ B.in1 (nr^.ref z>>=_) _ _ _;refine a_ (Iu (A:=B.in1) N st l k Y λh' av J _ j=>?_);have I1:=I.m6 (h':=h') (t':=s.toks) (E _) λb o a q=>j b o (λz=>a^by simp[z]) (λz=>a^by simp[z]) (λz=>a^by simp[z]) (λz=>a^by simp[z]) q
  refine a_^KF ?_;refine a_^wpAny_tryCatch ?_;show e_ _ _ (typeOf^.ref s.heap.objs.size>>=_) _ _ _;refine a_^aed (T:="tuple") #[_,J,rfl] ?_;rw[ir ∅]
  refine a_^adp J rfl^mo ?_;show e_ _ _ (io [.ref q.c,q.u]^dictSet D (.ref q.c) q.u) _ _ _;have cD:D≠q.c:=λz=>by rw[<-z,t] at g;cases g.1
  have sub:A.Sublist L:=by rw[<-e];exact List.sublist_append_left ..
  have al:=sub.length_le
  have np:q.p∉A.map (·.p):=λm=>by
   rw[<-e,b9,cH,i7] at i;exact i.2.2 q.p m q.p (dH ..) rfl
  refine KF (RJ (ks:=A.map (·.p)) (by show B.units+1+1<cLine;lia) I1 (by rw[ag^Ne.symm cD];exact g.1) af (LQ A λx k=>by
   have n:=(y x^sub.subset k).1;rw[ag^λz=>by rw[z,t] at n;cases n];exact n) (i.sublist^sub.map _) np (by rw[aG];lia) g.2 λtk h2 O sb=>?_)
  have eu:upd (upd H D^.ext^bb D (zE A)^A.map (·.f)) D^.ext^bb D (zE A++ [(bo q.p,q.c)]) (A.map (·.f)++ [q.f])=upd H D^.ext^bb D (zE (A++ [q]))^(A++ [q]).map (·.f):=by
   rw[qC];unfold zE;rw[b9,b9];rfl
  rw[eu] at O
  have:=S (A++ [q]) _ (by rw[k8];exact e) O^by rw[dg];exact av.keep (λb o a e=>sb.extBut b o a e) r
  rw[dg] at this;exact mo #[ada PySem.F.gU _,this]
end
section
variable {X:Cx} {pins:List (Addr×Obj)} {σ:St} {H:Hp} {z TI TO i1 i2 l1 l2:Addr}
def SV{s:c_}(k:X.A.handled=none)(hu:X.A.units+64<cLine)(I:Inv X pins σ H s)(N:jt z TI TO i1 i2 l1 l2)(st:∀S,ZS z TI TO i1 i2 l1 l2 S (L.map λq=>Value.ref q.c).toArray (L.map (·.u)).toArray 0 s.heap)
  (n:IsZip s.heap z TI TO .none) (l:∀b∈ [z,TI,TO,i1,i2,l1,l2],b<s.heap.objs.size) (r:∀b∈ [z,TO,i1,i2,TI],eJ X pins H b)
  (t:∀q∈L,H q.c\(.tup [.int q.p.1, .int q.p.2])/\RelV (vF q.f) q.u) (v:(L.map (·.p)).Nodup) (x:L.length<=300)
  (y:∀h,H s.heap.objs.size=none->Inv X pins σ (upd H s.heap.objs.size^.ext^bb s.heap.objs.size (zE L)^L.map (·.f)) h->Q (.ref s.heap.objs.size) h):e_ (ei X.prog X.w) X.A (call (.type "dict") [.ref z]) Q E s:=by
 refine callType_codes (Q₁:=λobj d=>obj= .ref s.heap.objs.size/\d={s with heap:=s.heap.push {cls:= .type "dict",data:= .dict #[]}}) F.kt_called_dict (F.kt_typeCall_dict_1 _) F.entry_dict_init (kt_code_dict_new _ #[rfl,rfl]) ?_
 rintro obj d ⟨rfl,rfl⟩;have g:H s.heap.objs.size=none:=I.hok.fresh^bg _
 have C:(s.heap.objs.size==jk)=false:=by
  have G:gt<s.heap.objs.size:=(I.mod.glob.keeps I.bk).lt;have J:jk<s.heap.objs.size:=afD ∅ G
  exact UV.mpr^Ne.symm^bS J
 have M:=I.laid (h':=s.heap.push {cls:= .type "dict",data:= .dict #[]}) (a:=s.heap.objs.size) (t':=s.toks) (λ_ _ q=>AC _ q) (bg _) (o:= .ext^bb s.heap.objs.size [] [])^bb.ok #[C,_, #[],0,GT _ rfl,#[rfl,rfl,rfl],rfl, .nil];have m:({s with heap:=s.heap.push {cls:= .type "dict",data:= .dict #[]}}:c_).TypeIs (.ref s.heap.objs.size) "dict":=#[_,GT _ rfl,rfl]
 have i:IsZip (s.heap.push {cls:= .type "dict",data:= .dict #[]}) z TI TO .none:=AC _ n;exists m,F.args_dict_init_2 _ _;unfold Builtin.«dict.__init__»;refine a_ ?_;unfold Builtin.Dict.selfAndRest;refine a_^wpAny_notOrdered_dict m ?_;show e_ _ _ (pure (s.heap.objs.size,[Value.ref z])) _ _ _;refine mo ?_;show e_ _ _ (Builtin.Dict.updateFrom "dict.__init__" s.heap.objs.size (.ref z) [] .none) _ _ _;unfold Builtin.Dict.updateFrom;refine a_^aed (T:="zip") #[_,i,rfl] ?_;rw[ir ∅]
 refine a_ (OG (s:={s with heap:=s.heap.push {cls:= .type "dict",data:= .dict #[]}}) i k λh' O j=>?_)
 simp only[Option.isNone_none,ac4];refine a_^ac8 ?_;have P:IsZip h' z TI TO .none:=j _ _ i;refine a_^adT P ?_;have R:=M.kept (h':=h') (t':=O) j;have Y:=(st s.heap.objs.size).keep (h':=h') (λb o _ e=>j _ _^AC _ e) l;refine mo #[ada PySem.F.gU _,?_];exact SW (B:=X.A.in1) k (by show X.A.units+1+4<cLine;lia) N l g r t v x (λh Z=>#[rfl,y h g Z]) L [] _ rfl R Y
end
theorem S8:∀{g:List (Int×Addr)}{j:List (Int×Int)},fG H g j->∀{fs:List FV}{k d:List Value},fs.length=j.length->Vals (fs.map vF) k->Vals (g.map λe=>V.ref e.2) d->
  ∃L:List ZQ,zE L=g/\L.map (·.p)=j/\L.map (·.f)=fs/\(L.map (·.u))=k/\(L.map λq=>Value.ref q.c)=d/\∀q∈L,H q.c\(.tup [.int q.p.1, .int q.p.2])/\RelV (vF q.f) q.u
 |_,_, .nil,[],_,_,_,a,b=>by
  cases a;cases b;exact#[[],rfl,rfl,rfl,rfl,rfl,λ_ h=>nomatch h]
 |_,_, @fG.cons _ c p g j h t,f::fs,_,_,o,a,b=>by
  cases a with| @cons _ u _ k r a=>
  cases b with| @cons _ i _ d l b=>
  obtain⟨L,n,s,v,w,x,y⟩:=S8 t (~~~o) a b
  have l:i= .ref c:=l;subst l;refine#[#[c,p,f,u]::L,?_,?_,?_,?_,?_,λq m=>?_]
  .unfold zE at n ⊢;rw[cH,n]
  .rw[cH,s]
  .rw[cH,v]
  .rw[cH,w]
  .rw[cH,x]
  .rcases cQ.mp m with rfl|m
   .exact#[h,r]
   .exact y q m
section
variable {X:Cx} {Z:DC}
def Oo(K:ad)(g:TA):TE:=λh H Q=>g h H λi a=>∃d f c b fs,i= [.ref d, .ref f]/\aL K a d (c.map λe:Int×Addr=>V.ref e.2)/\aL K a f^fs.map vF/\fG a c b/\b.Nodup/\fs.length=b.length/\b.length<=300/\
 ∀D,a D=none->Q (.ref D)^upd a D^.ext^bb D c fs
def HB(G:X.A.units+64<cLine)(J:X.calm=true)(M:Gl X "dict")(N:X.mg "dict"=none)(O:Gl X "zip")(P:X.mg "zip"=none)(R:PA X [a,b] w)
  (x:d_ [.Call (.Name "zip" f) [a,b] [] j] X.env=(false,gi (.Call (.Name "zip" f) [a,b] [] j) X.env)::d_ [] X.env<|>zn) (T:(gM pos^d_ [] X.env).any (·.1)=false<|>zn)
  (Y:d_ [a,b] X.env= [(false,gi a X.env),(false,gi b X.env)]<|>zn) (y:d_ [b] X.env= [(false,gi b X.env)]<|>zn):
  PE X (.Call (.Name "dict" p) [.Call (.Name "zip" f) [a,b] [] j] [] pos)^Oo X.K w:=by
 intro g s Z H Q I h;refine W1^gS I M N (show gq "dict"\(.type "dict") by decide+kernel) ?_
 refine PP ?_ x T;rw[x];show e_ _ _ (spliced ((false,gi _ X.env)::gM pos^d_ [] X.env)) _ _ s;refine aez ?_;refine Call_^gS I O P (show gq "zip"\(.type "zip") by decide+kernel)^PP (thn (R j g s Z H _ I h) λus c #[vs,H1,i,r1,q1]=>?_) (by rw[Y,y])^by rw[y];rfl
 rfl';let⟨k,l,es,ks,fs,e,pk,nI,pe,nd,fl,B,q⟩:=q1;subst e;let⟨u1,u2,rfl,Ko,Kq⟩:=r1.two;subst Ko;subst Kq;let⟨LH,Fn,m,uO⟩:=i.list pk;let⟨mI,Fo,f,w4⟩:=i.list nI;let⟨L,e1,e2,e3,e4,e5,e6⟩:=S8 pe fl Fo Fn;subst e1 e2 e3 e4 e5;have r:k<c.heap.objs.size:=by let⟨o,t,U⟩:=m.isList;exact Da t
 have u:l<c.heap.objs.size:=by let⟨o,t,U⟩:=f.isList;exact Da t
 ac_rfl;refine call_zip_2 m.isList f.isList λC E nH pb h1 h2 dQ v=>?_;refine aeJ ?_;have D:=BE c.heap.objs.size k l r u;have m1:=m.isList.at λo e=>v k o e;have m2:=f.isList.at λo e=>v l o e
 have F:∀b∈ [c.heap.objs.size+4,c.heap.objs.size+3,c.heap.objs.size,c.heap.objs.size+1,c.heap.objs.size+2],c.heap.objs.size<=b:=λb d=>by
  generalize c.heap.objs.size=n at d;simp only[cQ,BR,aer] at d
  rcases d with z|z|z|z|z<;>(rw[z];show n<=_;lia)
 refine SV (s:={c with heap:=C}) (I.ok.hd J) G (i.kept (t':=c.toks) v) D (λS=>#[nH,h1,h2,m1,m2, .inl #[E,_,_,pb]]) E (λb d=>?_) (λb d=>?_) e6 nd (by rw[aG] at B;exact B) λs' hD I'=>?_
 .show b<C.objs.size
  rw[dQ];generalize c.heap.objs.size=n at d r u;simp only[cQ,BR,aer] at d;show b<n+5
  rcases d with z|z|z|z|z|z|z<;>rw[z]
  .show n+4<n+5;lia
  .show n+2<n+5;lia
  .show n+3<n+5;lia
  .show n<n+5;lia
  .show n+1<n+5;lia
  .show k<n+5;exact cO r ()
  .show l<n+5;exact cO u ()
 .exact i.GL (F b d)^i.hok.fresh^F b d
 .exact#[.ref _,_,I',rfl,q _ hD]
def MH(t:gn):aX:=λb P=>t b λc=>∃(a:List (Int×Int))(fs:List FV),c= [.lst^a.map AX, .lst^fs.map Je]/\a.Nodup/\fs.length=a.length/\a.length<=300/\P^.x^.dj a fs
theorem Lu:∀{a:List (Int×Int)}{d:List V},DvAll Z G d^a.map AX->∃b,fG G b a/\d=b.map λe:Int×Addr=>V.ref e.2
 | [],_,h=>#[[], .nil,h.Zn]
 |p::a,_,h=>by
  obtain⟨_,_,rfl,f,g⟩:=h.E6;obtain⟨c,rfl,i⟩:=f.AG;obtain⟨b,j,rfl⟩:=Lu g;exact#[_, .cons i j,rfl]
theorem Ls:∀{fs:List FV}{a:List V},DvAll Z G a^fs.map Je->a=fs.map vF
 | [],_,h=>h.Zn
 |f::fs,_,h=>by
  obtain⟨_,_,rfl,b,c⟩:=h.E6;rw[b.Ra,Ls c];rfl
def x9(l:X.A.units+64<cLine)(m:X.calm=true)(n:Gl X "dict")(o:X.mg "dict"=none)(r:Gl X "zip")(u:X.mg "zip"=none)(v:DA Z X [a,b] t)
  (w:d_ [.Call (.Name "zip" d) [a,b] [] e] X.env=(false,gi (.Call (.Name "zip" d) [a,b] [] e) X.env)::d_ [] X.env<|>zn) (y:(gM pos^d_ [] X.env).any (·.1)=false<|>zn)
  (z:d_ [a,b] X.env= [(false,gi a X.env),(false,gi b X.env)]<|>zn) (B:d_ [b] X.env= [(false,gi b X.env)]<|>zn):
  DE Z X (.Call (.Name "dict" p) [.Call (.Name "zip" d) [a,b] [] e] [] pos)^MH t:=by
 refine(HB l m n o r u v w y z B).imp ?_;rintro σ H Q ⟨G,C,P,s,E,h,q⟩;refine#[G,C,_,s,E,h,λds f vs F H1 c dv=>?_];rfl';let⟨J,fs,rfl,g,L,M,f⟩:=f;let⟨v1,v2,rfl,N,O⟩:=dv.nY;let⟨R,xs,rfl,S,T⟩:=N.iG;let⟨Y,ys,rfl,k2,f2⟩:=O.iG;let⟨i,j,rfl⟩:=Lu T;obtain rfl:=Ls f2;ac_rfl;refine#[R,Y,i,J,fs,rfl,aL.of^c.sub _ _ S,aL.of^c.sub _ _ k2,j.mono c.sub,g,L,M,λD k=>?_];have gD:F D=none:=c.sub.free k;exact q _ f _ _ _ (c.trans^.new c.sub k)^.x af #[g,i,rfl,j.mono^az gD _]
end
section
variable {Z:DC} {X:Cx} {md:List Nat} {rn:Nat} {st:Stmt} {t:gn} {e:Expr} {es:List Expr} {sd:D5} {k j:Nat} {x:Str} {ps:List Str} {p pos aO DU j7:Pos}
def MV(i:Nat){sj}{x1}(hok:PyData.strOk c=true)(o:X.N.Nodup)(d:bK X.K X.mg x st ps)(F:FnOk X.prog X.w X.K X.mg X.base (wx X.prog X.w) k d.f d.fd ps^iF Z sd)(q:bP j X.A)(r:DA Z X (e::es) t)(s:Gl X x<|>zn)(u:k<=j<|>ww)
  (z:(x==("__debug__":fA))=false<|>zm) (C:d_ (e::es) X.env=(false,gi e X.env)::d_ es X.env<|>zn) (I:(gM aO^d_ es X.env).any (·.1)=false<|>zn)
  (J:d_ [.Constant (.str c) sj j7, .Call (.Name x p) (e::es) [] aO] X.env=(false,gi (.Constant (.str c) sj j7) X.env)::d_ [.Call (.Name x p) (e::es) [] aO] X.env<|>zn) (L:d_ [.Call (.Name x p) (e::es) [] aO] X.env=(false,gi (.Call (.Name x p) (e::es) [] aO) X.env)::d_ [] X.env<|>zn)
  (O:g_ (.Tuple [.Constant (.str c) sj j7, .Call (.Name x p) (e::es) [] aO] x1 DU) (some^.Name y a) pos.line X.env=pure false<|>zn)
  (P:md.getD i 0=0<|>zn) (Q:X.N[i]?\y<|>zn) (R:Loc X.env.scope y<|>xz) (T:X.fn y=true\/X.env.scope.names.lookup y\.local<|>xz):
  DSt Z X md rn (.Assign [.Name y a] (.Tuple [.Constant (.str c) sj j7, .Call (.Name x p) (e::es) [] aO] x1 DU) pos) (Ef md sd t λE l d=>E.nx^l.set i^some^.tup [.str c,d]):=by
 refine(bU o Q R (uZ^ao zj (ao (xC F (q.mono u) s d.m d.F.kp d.b r z C I) aA L) J) O T).imp ?_;intro D σ H Y;rfl';obtain⟨B,l,E,⟨G,fp,S⟩,h,M⟩:=Y;ac_rfl;refine pJ S h M λd hd v G' H' g dv=>#[by show 2<=sizeLine;decide,λp n=>?_]
 have gp:G' p=none:=g.ex.sub.free n;exact M.nx _ hd _ _ #[_,_,(g.grow^.new g.ex.sub n).lS P^.tup af^.cons (.str _ hok)^.cons (dv.mono^az gp _) .nil]
def LF:W7 X .BitXor^ipI Builtin.bitXor:=by
 intro a s g H x y v u Q I b c h;let⟨i,j,d,f,q⟩:=h;subst d;subst f;let⟨t,rfl⟩:=b;let⟨l,rfl⟩:=c;exact ixor_int #[.int _,H,I.tok _,#[_,rfl],q]
end
section
variable {Z:DC} {X:Cx} {B:Bs} {md:List Nat} {rn:Nat} {ρ:DN} {σ:St} {H G:Hp} {fp:Nat->List Addr}
variable {tg:Expr} {body:List Stmt} {g:eV} {tb:cJ} {pos:Pos}
def QY(h:k≠i):(md.set i 0).getD k 0=md.getD k 0:=by rw[cV,cV,i5^Ne.symm h]
def UI:(md.set i 0).getD i 0=0:=by
 by_cases h:i<md.length
 .rw[cV,lV h];rfl
 .rw[cV,fm^by rw[fF];lia];rfl
end
section
variable {Z:DC} {X:Cx} {B:Bs} {md:List Nat} {rn:Nat}
def MN(i:Nat)(t:cJ):cJ:=λE a=>(∃d,a[i]?\(some d))/\t {nx:=λa=>E.nx^a.set i none,rt:=E.rt,xc:=λa d=>E.xc (a.set i none) d} a
def SIx.Pn(S:SIx Z B (md.set i 0) a b H G c):SIx Z B md (a.set i none) b H G c:=by
 refine#[S.ex,S.fl,by rw[fF];exact S.len,λk d e=>?_,S.nd,S.ap,S.nw]
 by_cases z:k=i
 .subst z
  rw[kc] at e
  split at e<;>first| (split at e<;>cases e) |exact absurd rfl ‹_›
 .rw[i5^Ne.symm z] at e
  have:=S.at_ k d e
  rw[QY z] at this;exact this
def El(i:Nat)(h:lg Z X (md.set i 0) rn m t):lg Z X md rn m^MN i t:=by
 refine jT.imp h ?_;intro C f H o;rfl';obtain⟨B,k,E,⟨G,g,S⟩,⟨⟨d,n⟩,q⟩,M⟩:=o;let⟨v,r,dv,b⟩:=S.LV n;ac_rfl;refine#[B,k,_,#[_,_,#[b.ex,b.fl,S.len,λj c l=>?_,b.nd,b.ap,b.nw]],q,#[λk h f H #[G,g,s]=>M.nx _ h f H #[G,g,s.Pn],M.rt,λ_ z=>z.elim,λ_ z=>z.elim,λk d h f w x g a s dv=>M.xc _ d h f w x g a s.Pn dv]]
 by_cases e:j=i
 .subst e
  rw[n] at l;cases Do l;exists v,r;rw[UI,ir rfl];exact#[dv,rfl]
 .obtain⟨u,y,A⟩:=b.at_ j c^by rw[i5^Ne.symm e];exact l
  exists u,y;rw[QY e];exact A
end
end L2
namespace wy
open PySem L2 Wb
variable {P:Program} {w:World} {mg:Str->Option Value} {base:Heap} {Z:DC} (T:Txt Z mg)
def Zp(a:List D):Prop:=∃d,a= [d]
def Cq:FnOk P w Z.K mg base fe 2 T.vk.f T.vk.fd ["self","counted"]^Kw Z T.ve ["counted"] Zp:=by
 have B:=i4.nd;refine T.vk.F.ok i4 (λl H Q E h=>?_)^λC A outer s H l Q E I h=>?_
 .obtain⟨a,n,G,p,rfl,_,_,_,dv,_,r,_⟩:=h
  have:=dv.length
  simp at r ⊢;lia
 obtain⟨a,n,G,p,rfl,g,t,j,dv,⟨d,rfl⟩,_,q⟩:=h;let⟨y,rfl,u⟩:=dv.ofOne;exists _,aF (c7^Dw rfl T.xb.m T.xb.sg T.xb.rd T.xb.fc^ao (pv 0)^ao zj aA)^bE^AY (pv 0) (pv 1) rfl;exists _,rfl,a,T.ve,none,_,rfl,g,T.vi.obj;refine#[_,rfl,_,rfl,a,T.ve,[],rfl,T.vi.cls,T.vl, .inl #[rfl,g,λi b=>?_]];have v:a≠i:=au g b;have k:G i=none:=j.free b;refine q i [y] G _ (.refl _) (λc o e=>?_) (λc o x e=>?_) (λc _ z=>z) ?_ b af k^.cons u .nil
 .rw[ag^au e k,ag^au e t];exact j _ _ e
 .rw[ag^au e b,ag x];exact e
 .rw[ag v,af]
def Zq(a:List D):Prop:=∃d e,a= [d,e]
def J6:FnOk P w Z.K mg base fe 2 T.vn.f T.vn.fd ["self","one","other"]^Kw Z T.vg ["one","other"] Zq:=by
 have I:=kZ.nd;refine T.vn.F.ok kZ (λn H Q E h=>?_)^λJ A outer s H n Q E L h=>?_
 .obtain⟨a,p,G,r,rfl,_,_,_,dv,_,t,_⟩:=h
  have:=dv.length
  simp at t ⊢;lia
 obtain⟨a,p,G,r,rfl,i,u,l,dv,⟨d,e,rfl⟩,_,q⟩:=h;let⟨y,z,rfl,v,x⟩:=dv.nY;exists _,aF (c7^Dw rfl T.xb.m T.xb.sg T.xb.rd T.xb.fc^ao (pv 0)^ao zj aA)^aF (AY (pv 0) (pv 1) rfl)^bE^AY (pv 0) (pv 2) rfl;exists _,rfl,a,T.vg,none,_,rfl,i,T.vj.obj;refine#[_,rfl,_,rfl,a,T.vg,[],rfl,T.vj.cls,T.vo, .inl #[rfl,i,λg b=>?_]];have j:a≠g:=au i b;have k:G g=none:=l.free b;refine#[_,rfl,_,rfl,a,T.vg,[("one",y)],rfl,T.vj.cls,T.vp, .inr #[g,by rw[ag j,af],af,?_]]
 refine#[by show 1<1000;decide,?_]
 refine q g [y,z] G _ (.refl _) (λc o e=>?_) (λc o B e=>?_) (λc _ C=>C) ?_ b ?_ k^.cons v^.cons x .nil
 .rw[ag^au e k,ag^au e k,ag^au e u];exact l _ _ e
 .rw[ag^au e b,ag^au e b,ag B];exact e
 .rw[ag j,ag j,af]
 .rw[af];rfl
def Oh(c:Addr):D5:=λb P R=>∃(w:W)(a:List^List (Nat×Nat)),b= [.gI w]/\Good w/\1<=w.length/\w.length<=14/\RS w a/\(j4 w a->P .aQ)/\(¬j4 w a->R^.err c ["counted"] [xY w a])
def yV:Dx P w base 6 T.u6^iF Z^Oh T.ve:=by
 have n:=qu.nd;refine wQ T.u6.F qu [0] ∅ (λj R k h=>by let⟨q,r,rfl,t⟩:=h;rfl)^λo A outer s H E j R k b h=>?_
 have p:=b.units;exists _,(aw^dB (nu^lK^aH T.u5 (E9 T) b^aa (U 0) ah) (aw^zV rfl T.vk (Cq T) b T.vi T.vf^aa (aH T.u4 (Du T) b^aa (U 0) ah) ah) bx);let⟨d,a,rfl,g,e,f,i,l,m⟩:=h;refine#[_,rfl,d,a,rfl,g,e,f,i,λc=>#[rfl,cv^l c],λc=>#[rfl,cZ ?_]];exact#[_,rfl,d,a,rfl,g,e,f,i,#[_,rfl],rfl,m c]
def T5{a:List Nat}(h:∀x∈a,x<4)(k:Nat):a.getD k 0<4:=by
 rw[cV];cases e:a[k]? with
 |none=>show 0<4;decide
 |some x=>exact h x^cL e
def Py(h:∀x∈b,x<4)(a:List^List (Nat×Nat))(t:Nat×Nat):Builtin.bitXor (b.getD (cF a t) 0:Int) (b.getD (cF a (t.2,t.1)) 0:Int)=(dW a b t:Int)/\dW a b t<4:=zI (T5 h _)^T5 h _
def iW(a:List^List (Nat×Nat))(b:List Nat)(t:Nat×Nat):Bool:=decide (dW a b t=0)
def Ma(c:Addr):D5:=λe P R=>∃(w:W)(a:List^List (Nat×Nat))(d:List (Nat×Nat))(b:List Nat),e= [.gI w,aB b]/\Tk w a d/\b.length=a.length/\(∀x∈b,x<4)/\(∀t,d.find?^iW a b\t->R^.err c ["one","other"] [ax t.1,ax t.2])/\(d.find?^iW a b=none->P^aB^d.map^dW a b)
def rZ:Dx P w base 5 T.uh^iF Z^Ma T.vg:=by
 have k:=vM.nd;refine wQ T.uh.F vM [0,0,0,1,0,0,0] ∅ (λG R I h=>by obtain⟨_,_,_,_,rfl,_⟩:=h;rfl)^λaT A outer s H E G R I l h=>?_
 have f:=l.units
 refine#[_,(ar (bG false 2 k^aH T.ug (mQ T) l^aa (U 0) ah)
   (ar (jA 3 k^jz ah)
   (ar (cu rfl aeM (bM^gw T.W (U 0) T.v9.m (gE T) (l.mono ∅) T.v9.b) (dO 2 rfl^aJ (aI 4 k)^aJ (aI 5 k) bT)^ar (bG false 6 k^fP qZ (fz (U 1)^lJ f (U 2)^bO^aa (U 4)^aa (U 5) ah)^fz (U 1)^lJ f (U 2)^bO^aa (U 5)^aa (U 4) ah)
   (ar (dB (bI (jW f) (U 6) aP^aY _) (aw^zV rfl T.vn (J6 T) l T.vj T.vh^aa (U 4)^aa (U 5) ah) bx)
   (aw^nq false 3^U 6)))
   (h7 3
   (aw^aV^U 3))))),?_]
 let⟨i,J,ts,c,rfl,ok,dl,M,N,O⟩:=h;have g:=ok.g;have L:=ok.rs.Dm g;have SA:=ok.few;refine#[_,rfl,i,rfl,g,ok.h1,ok.h14,λa Q=>?_];obtain rfl:=Q.uniq g ok.rs;exists trivial;refine#[by show 0<=sizeLine;decide,?_]
 refine#[_,rfl,i,rfl,i,rfl,g,ok.h14,λd S X=>?_];obtain rfl:=ok.uniq S X;refine(?_:iC _ _ _ (d.map pairD) _);refine bN (λj Y=>(d.take j).find?^iW a c=none/\∃(o p q:Option D),Y= [some^.gI i,some^aB c,some^.x^.dj (qg a)^iY 0 a,some^aB^(d.take j).map^dW a c,o,p,q]) #[rfl,_,_,_,rfl] ?_ ?_
 .rintro j _ _ hd ⟨n,o,p,q,rfl⟩ A hA
  let⟨u,f,rfl⟩:=cw hd;have r:aR i u:=ot^ok.pm.mem_iff.mp^cL f;have v:aR i (u.2,u.1):=g.sym _ _ r;let⟨j1,a1,y⟩:=kT a 0^(L.dart _).mpr r;let⟨j2,a2,z⟩:=kT a 0^(L.dart _).mpr v;have l1:=(L.num r).1;have l2:=(L.num v).1;have B:d.take (j+1)=d.take j++ [u]:=by rw[wq,f];rfl
  have C:(d.take (j+1)).find?^iW a c= [u].find?^iW a c:=by rw[B,List.find?_append,n];rfl
  have ex:=(Py M a u).1;exists rfl,rfl;refine#[_,rfl,_,rfl,_,rfl,_,rfl,by show 2<=sizeLine;decide,?_]
  rw[ja] at y z;refine#[zz u,qg a,iY 0 a,j1,_,rfl,rfl,a1,y,_,gb^by rw[dl];exact l1,?_]
  refine#[_,rfl,_,rfl,_,rfl,_,rfl,by show 2<=sizeLine;decide,?_]
  refine#[zz (u.2,u.1),qg a,iY 0 a,j2,_,rfl,rfl,a2,z,_,gb^by rw[dl];exact l2,trivial,?_]
  exists _,rfl;refine TV #[_,rfl,fu (λe=>?_)^λe=>?_]
  .have e:Builtin.bitXor (c.getD (cF a u) 0:Int) (c.getD (cF a (u.2,u.1)) 0:Int)=0:=IR e
   have t:iW a c u=true:=FM ()
   refine#[_,rfl,_,rfl,#[_,_,rfl],rfl,N u ?_]
   have:d.find?^iW a c=(d.take (j+1)++d.drop (j+1)).find?^iW a c:=by rw[k7]
   rw[this,List.find?_append,C,List.find?_cons,t];rfl
  .have e:¬Builtin.bitXor (c.getD (cF a u) 0:Int) (c.getD (cF a (u.2,u.1)) 0:Int)=0:=SB e
   have t:iW a c u=false:=GE ()
   refine#[_,rfl,_,rfl,trivial,bA^by rw[aG,aG,iS];lia,hA _ #[by rw[C,List.find?_cons,t];rfl,some^ax u.1,some^ax u.2,some^.int (dW a c u:Int),?_]]
   rw[B,b9];unfold aB;rw[b9];show[_,_,_,some^D.lst (_++ [D.int^Builtin.bitXor (c.getD (cF a u) 0:Int) (c.getD (cF a (u.2,u.1)) 0:Int)]),_,_,some^D.int^Builtin.bitXor (c.getD (cF a u) 0:Int) (c.getD (cF a (u.2,u.1)) 0:Int)]=_;rw[ex];rfl
 .rintro _ ⟨n,o,p,q,rfl⟩
  rw[aG,qJ] at n;rw[aG,qJ];exact#[#[_,rfl],_,rfl,O n]
def Fb:Dk P w base 5 T.uh (aW Z λa P=>Ma T.vg a P λ_=>False):=PN^rZ T
variable {P:Program} {w:World} {mg:Str->Option Value} {base:Heap} {Z:DC} (T:Txt Z mg)
def zg{n p:Nat}(h:p<n):lA n (p:Int)\p:=by
 unfold lA;rw[ir (),ir ()]
 exact KM some ()
def Oc(v:Nat×Nat->Nat)(p:Nat)(a:List (Nat×Nat))(u:Nat×Nat):tU v p (a++ [u])=tU v p a^^^if u.1=p\/u.2=p then v u else 0:=by
 unfold tU;rw[List.filter_append,b9,xQ]
 congr 1
 by_cases h:u.1=p\/u.2=p
 .rw[xU,ir^FM h,ir h];show v u^^^0=v u;exact afF _
 .rw[xU,tz^~~~h,tz h];rfl
def tT(v:Nat×Nat->Nat)(n:Nat)(a:List (Nat×Nat)):List Nat:=(ak n).map λp=>tU v p a
def vR(h:p<n):(tT v n a)[p]?\(tU v p a):=by unfold tT;rw[dh,wd h];rfl
def Ob(f:u.1<n)(g:u.2<n)(ne:u.1≠u.2):((tT v n a).set u.1 (tU v u.1 a^^^v u)).set u.2 (tU v u.2 a^^^v u)=tT v n (a++ [u]):=by
 refine qI λp=>?_;have d:(tT v n a).length=n:=by unfold tT;rw[aG,jQ]
 by_cases e:p<n
 .rw[vR e,Oc,kc]
  by_cases b:u.2=p
  .rw[ir b,ir^by rw[fF,d];exact g,ir^.inr b,b]
  .rw[tz b,kc]
   by_cases c:u.1=p
   .rw[ir c,ir^by rw[d];exact f,ir^.inl c,c]
   .rw[tz c,vR e,tz^λz=>z.elim c b,afF]
 .rw[fm^by rw[fF,fF,d];lia,fm^by unfold tT;rw[aG,jQ];lia]
def Vx:di:=λb P=>∃(w:W)(a:List (Nat×Nat))(v:Nat×Nat->Nat),b= [.gI w,aB^a.map v]/\Good w/\w.length<=14/\a.Perm^cM (row w) w.length/\a.Pairwise lexLe/\(∀t,v t<4)/\(∀p,p<w.length->tU v p a=0)/\P .aQ
def Cs:Dk P w base 2 T.ui^aW Z Vx:=by
 have e:=sC.nd;refine bz T.ui.F sC [0,0,1,0,0,0,0,0] ∅ (λds R h=>by obtain⟨_,_,_,rfl,_⟩:=h;rfl)^λaT A outer s H E ds R o h=>?_
 have i:=o.units
 refine#[_,(ar (wL 2 (NC:= ["p"]) (src:= [none]) rfl e (sQ^aq kB) trivial (zS rfl T.B.range^aa (gw T.W (U 0) T.v7.m (nZ T) (o.mono ∅) T.v7.b) ah) (λ_ _ _=>(bL 0 (show(["p"]:List fA).Nodup from by decide+kernel))) (λ_ _ _=>eX)^λ_ _ _=>aP)
   (ar (cu rfl FS (TL rfl T.B.zip^aa (gw T.W (U 0) T.v9.m (gE T) (o.mono ∅) T.v9.b)^aa (U 1) ah) (dO 2 rfl^aJ (dO 2 rfl^aJ (aI 3 e)^aJ (aI 4 e) bT)^aJ (aI 5 e) bT)^ar (CK 2 (U 3) LF^U 5)
   (aw^CK 2 (U 4) LF^U 5))
   (El 2
   (aw^cu rfl FS (eW rfl T.B.enumerate^aa (U 2) ah) (dO 2 rfl^aJ (aI 6 e)^aJ (aI 7 e) bT)^aw^dB (bI (qb i) (U 7) aP^aY _) (aw wK) bx)))),?_]
 let⟨a,d,v,rfl,g,yQ,O,srt,r,ev,q⟩:=h;refine#[_,rfl,a,rfl,a,rfl,#[(),()],?_]
 refine(?_:lcW _ _ _ (kr 0 (a.length:Int).toNat) _ _ _);rw[lW,Kj];refine nN (ρ:= [none]) ax (λ_=> .int 0) (ak a.length) _ (λy hy Y h=>h) rfl (small^by rw[jQ];lia) λaK=>?_
 refine#[_,rfl,a,rfl,a,rfl,g,yQ,λc xD qz=>#[_,rfl,?_]];obtain rfl:c=d:=ac3 (λ_ _ _ _=>mL) qz srt^xD.trans O.symm;refine(?_:iC _ _ _ (yA (c.map pairD)^(c.map v).map ax) _)
 have ez:yA (c.map pairD)^(c.map v).map ax=c.map λt=> .tup [pairD t,ax^v t]:=by
  unfold yA;rw[cC,List.zipWith_map,List.zipWith_self];rfl
 rw[ez];have z:∀d,((tT v a.length d).map ax).length=a.length:=λd=>by unfold tT;rw[aG,aG,jQ]
 have Q:∀p d,tU v p d<4:=λp d=>Im λx f=>by let⟨t,K,rfl⟩:=cE.mp f;exact r t
 refine bN (λj ρ=>∃k l n,ρ= [some^.gI a,some^aB^c.map v,some^aB^tT v a.length^c.take j,k,l,n,none,none]) #[none,none,none,?_] ?_ ?_
 .show[_,_,some^D.lst ((ak a.length).map λ_=>D.int 0),_,_,_,_,_]=_
  have e0:((ak a.length).map λ_=>D.int 0)=(tT v a.length []).map ax:=by unfold tT;rw[cC];rfl
  rw[e0];rfl
 .rintro j _ _ C ⟨k,l,n,rfl⟩ A G
  let⟨u,i,rfl⟩:=cw C;have I:aR a u:=ot^O.mem_iff.mp^cL i;have J:u.1<a.length:=gH I;have L:u.2<a.length:=g.rng _ _ I;have ne:=kM g I;have ou:c.take (j+1)=c.take j++ [u]:=by rw[wq,i];rfl
  have e1:=(zI (Q u.1^c.take j)^r u).1;have e2:=(zI (Q u.2^c.take j)^r u).1;have S:∀p,p<a.length->((tT v a.length^c.take j).map ax)[p]?\(.int (tU v p^c.take j:Int)):=λp hp=>by rw[dh,vR hp];rfl
  exists rfl,rfl,rfl,rfl;refine#[_,rfl,_,rfl,_,u.1,_,rfl,zg^by rw[z];exact J,S _ J,_,rfl,_,rfl,?_]
  refine#[_,rfl,_,rfl,_,u.2,_,rfl,zg^by rw[fF,z];exact L,(i5 ne).trans^S _ L,_,rfl,_,rfl,G _ #[some^ax u.1,some^ax u.2,some^ax^v u,?_]]
  show[_,_,some^D.lst^(((tT v a.length^c.take j).map ax).set u.1^D.int^Builtin.bitXor (tU v u.1^c.take j:Int) (v u:Int)).set u.2^D.int^Builtin.bitXor (tU v u.2^c.take j:Int) (v u:Int),_,_,_,_,_]=_;rw[e1,e2,ou,<-Ob J L ne];unfold aB;rw[ae1,ae1];rfl
 .rintro _ ⟨k,l,n,rfl⟩
  rw[aG,qJ];exists #[_,rfl];exists _,rfl;refine bN (λj ρ=>∃M N,ρ= [some^.gI a,some^aB^c.map v,some^aB^tT v a.length c,k,l,n,M,N]) #[none,none,rfl] ?_ ?_
  .rintro j _ _ C ⟨M,N,rfl⟩ A G
   let⟨x,f,rfl⟩:=jg C
   have X:j<a.length:=by
    have:=(cR.mp f).1
    rw[z] at this;exact this
   rw[dh,vR X,ev j X] at f;cases f;exact#[rfl,rfl,_,rfl,JU #[_,rfl,cv^G _ #[_,_,rfl]]]
  .rintro _ ⟨M,N,rfl⟩
   exact#[rfl,q]
def Bp(a:List Nat)(n:Nat)(b:Nat->Bool):List D:=(ak n).map λi=>if b i=true then ax^a.getD i 0 else .aQ
def mZ(a:List Nat)(n:Nat)(b:Nat->Bool):(Bp a n b).length=n:=by unfold Bp;rw[aG,jQ]
def mY(h:i<n):(Bp a n b)[i]?\(if b i=true then ax^a.getD i 0 else .aQ):=by unfold Bp;rw[dh,wd h];rfl
def jE(b:Nat->Bool)(k:Nat):Nat->Bool:=λi=>b i||decide (i=k)
def Ic:(Bp a n b).set k^ax^a.getD k 0=Bp a n^jE b k:=by
 refine qI λi=>?_
 by_cases d:i<n
 .rw[mY d,kc]
  unfold jE
  by_cases c:k=i
  .subst c;rw[ir rfl,ir^by rw[mZ];exact d,FM rfl,afG,ir rfl]
  .rw[tz c,mY d,GE^λz=>c z.symm,afu]
 .rw[fm^by rw[fF,mZ];lia,fm^by rw[mZ];lia]
def AI(n:Nat)(b:Nat->Bool):Nat:=((ak n).filter λi=>!b i).length
def Ds{b:Nat->Bool}(h:k<n)(a:b k=false):AI n^jE b k+1=AI n b:=by
 unfold AI
 have d:((ak n).filter λi=>!b i).Perm (k::(ak n).filter λi=>!jE b k i):=by
  refine(yB (adX.filter _)^wk.mpr #[λz=>?_,adX.filter _]).mpr λi=>?_
  .have:=(m7.mp z).2
   unfold jE at this;simp at this
  .rw[cQ,m7,m7]
   unfold jE
   by_cases c:i=k
   .subst c;simp[h,a]
   .simp[c]
 rw[d.length_eq,dU]
def Ax{w:W}(g:Good w){p q:Nat}(d:aR w (p,q)):nW p q∈cM (row w) w.length:=by
 rw[eB,m7,bh];have ne:p≠q:=kM g d;unfold nW
 rcases afE p q with h|h
 .rw[t5 h,ad1 h];exact#[d,FM^by show p<q;lia]
 .rw[xV h,aen h];exact#[g.sym _ _ d,FM^by show q<p;lia]
def DS{a:List (Nat×Nat)}{t:Nat×Nat}(h:t∈a)(v:Nat×Nat->Nat):∃j:Nat,(a.map zz)[j]?\(zz t)/\(a.map λt=>FV.int (v t:Int))[j]?\(FV.int (v t:Int)):=by
 obtain⟨j,b⟩:=BF.mp h;exact#[j,by rw[dh,b];rfl,by rw[dh,b];rfl]
def D4{a:List (Nat×Nat)}(h:a.Nodup):(a.map zz).Nodup:=by
 unfold cI;rw[iR];exact List.Pairwise.imp (λn e=>n^Mq e) h
def Tk.nodup{w:W}(h:Tk w a b):b.Nodup:=h.pm.nodup_iff.mpr^by rw[eB];exact(dN h.g).filter _
structure OI (rss:List^List (Nat×Nat)) (b:Nat->Bool) (ws:List Nat) (x:Option Nat):Prop where
 z:b 0=true
 wt:∀k∈ws,k<rss.length/\b k=true
 cl:∀k,k<rss.length->b k=true->k∈ws\/x\k\/∀d∈rss.getD k [],b^cF rss (d.2,d.1)=true
def OI.all{w:W}(g:Good w)(j:RS w c)(S:OI c b [] none):∀k,k<c.length->b k=true:=by
 have L:=j.Dm g
 rcases j with ⟨_,rfl⟩ | ⟨s,R,_⟩
 .intro k e
  obtain rfl:k=0:=by have:k<1:=e;lia
  exact S.z
 .have side:∀k,k<c.length->∃d,d∈c.getD k []:=λk e=>by
   let⟨d,n,u⟩:=R.rnd c[k]^lX e;exact#[d,by rw[cV,cz e];exact n.first]
  intro k e;let⟨t,f⟩:=side 0 ()
  let⟨d,o⟩:=side k e;let⟨p,q⟩:=L.at_ f;let⟨Dk,r⟩:=L.at_ o
  have:=IE g (A:=λd=>b^cF c d=true) (λd i a=>by
   have#[l,m]:=L.num i
   rcases S.cl _ l a with h|h|h
   .cases h
   .cases h
   .exact h d m) (λd i a=>by rw[L.next i];exact a) p (by rw[q];exact S.z) d Dk
  rw[r] at this;exact this
def SH(d:a.length=n)(h:∀k,k<n->b k=true):Bp a n b=a.map ax:=by
 refine qI λi=>?_
 by_cases c:i<n
 .rw[mY c,ir^h i c,dh,cV,cz ()];rfl
 .rw[fm^by rw[mZ];lia,fm^by rw[aG];lia]
def Ot{l:List b}(h:l.length=n):(l.map λ_=>D.aQ)=Bp c n λ_=>false:=by
 subst h;refine qI λi=>?_
 by_cases a:i<l.length
 .rw[mY a,dh,cz a];rfl
 .rw[fm^by rw[aG];lia,fm^by rw[mZ];lia]
def QZ(p q:Nat):D.tup [.int^if (q:Int)<(p:Int) then(q:Int) else(p:Int), .int^if (q:Int)>(p:Int) then(q:Int) else(p:Int)]=AX^zz^nW p q:=by
 unfold AX zz nW;have a:(if (q:Int)<(p:Int) then(q:Int) else(p:Int))=((min p q:Nat):Int):=by split<;>lia
 have b:(if (q:Int)>(p:Int) then(q:Int) else(p:Int))=((max p q:Nat):Int):=by split<;>lia
 rw[a,b]
def C2{w:W}(g:Good w)(h:2<=w.length):∃d,aR w d:=by
 cases g.con 1 () with
 |step _ a=>exact#[(_,1),a]
def Ss(c:Addr):D5:=λg P R=>∃(w:W)(a:List^List (Nat×Nat))(d:List (Nat×Nat))(e:List Nat)(f:Nat),g= [.gI w,aB e,ax f]/\Tk w a d/\(¬j4 w a->R^.err c ["counted"] [xY w a])/\(j4 w a->∃b:List Nat,b.length=a.length/\(∀x∈b,x<4)/\b.getD 0 0=f/\e=d.map^dW a b/\P^aB b)
def AK:Dx P w base 7 T.uj^iF Z^Ss T.ve:=by
 have O:=sA.nd;refine wQ T.uj.F sA [0,0,0,0,0,0,1,1,0,0,0,0] ∅ (λds R Rx h=>by obtain⟨_,_,_,_,_,rfl,_⟩:=h;rfl)^λaT A outer s H E ds R Rx Q h=>?_
 have hu:=Q.units
 refine#[_,(ar (MT T.u6 (yV T) Q^aa (U 0) ah)
   (ar (Pp^aH T.ui (Cs T) Q^aa (U 0)^aa (U 1) ah)
   (ar (bG false 3 O^aH T.ug (mQ T) Q^aa (U 0) ah)
   (ar (bG false 4 O^x9 hu rfl rfl T.u1 rfl T.B.zip^aa (gw T.W (U 0) T.v9.m (gE T) (Q.mono ∅) T.v9.b)^aa (U 1) ah)
   (ar (bG false 5 O^aH T.u3 (xB T) Q^aa (U 0) ah)
   (ar (wL 6 (NC:= ["land"]) (src:= [none]) rfl O (sQ^aq kA) trivial (bM^U 5) (λ_ _ _=>(bL 0 (show(["land"]:List fA).Nodup from by decide+kernel))) (λ_ _ _=>eX)^λ_ _ _=>ft)
   (ar (qQ false 6 aP^U 2)
   (ar (jA 7 O^jz^aa aP ah)
   (ar (qR aeM (lK^U 7)^ar (Lq 8 7 O)
   (aw^cu rfl aeM (bM^aH T.uf (uX T) Q^aa (fz (U 5)^U 8) ah) (dO 2 rfl^aJ (aI 9 O)^aJ (aI 10 O) bT)^ar (bG false 11 O^lJ hu (U 3)^bO^aa (U 10)^aa (U 9) ah)
   (aw^dB (bI xu (fz (U 6)^U 11) ft^aY _) (ar (qQ true 6 (U 11)^fP qZ (fz (U 6)^U 8)^lJ hu (U 4)^bO^aa (aU (Gn rfl) rfl T.B.min Lh^aa (U 9)^aa (U 10) ah)^aa (aU (Gm rfl) rfl T.B.max Lg^aa (U 9)^aa (U 10) ah) ah)
   (aw^nq false 7^U 11)) bx)))
   (h7 6
   (aw^aV^U 6))))))))))),?_]
 let⟨N,I,ts,ms,f,rfl,ok,q1,q2⟩:=h;have g:=ok.g;have L:=ok.rs.Dm g;have SA:=ok.few;refine#[_,rfl,N,I,rfl,g,ok.h1,ok.h14,ok.rs,λpl=>?_,λn=>q1 n];let⟨o,dl,d4,d0,rfl,q⟩:=q2 pl;refine#[_,rfl,_,rfl,N,ts,dW I o,rfl,g,ok.h14,ok.pm,ok.srt,λt=>(Py d4 I t).2,λp hp=>(Sm g ok.pm _ p).trans ?_,?_]
 .have:((row N p).map λq=>dW I o^nW p q)=(row N p).map λq=>dW I o (p,q):=D2 λq _=>Eo I o p q
  rw[this];exact GD g L o p
 refine#[_,rfl,N,rfl,g,ok.h1,ok.h14,λi fH=>?_];obtain rfl:=fH.uniq g ok.rs;exists trivial;refine#[_,rfl,N,rfl,N,rfl,g,ok.h14,λX xD qz=>?_];obtain rfl:=ok.uniq xD qz;refine#[_,rfl,X.map zz,X.map^λt=>FV.int (dW i o t:Int),by rw[cC,cC];unfold aB;rw[cC];rfl,D4 ok.nodup,by rw[aG,aG],by rw[aG];lia,trivial,?_]
 exists _,rfl;dsimp only[lH];refine Hm g ok.h1 ok.h14 ok.rs λM lm ll l3=>#[trivial,?_];have acI:=ok.rounds.2.2
 have lz:0<i.length:=by
  rcases fH with ⟨_,rfl⟩ | ⟨n2,R,_⟩
  .decide
  .obtain⟨d,dd⟩:=C2 g n2
   let⟨r,Q,K⟩:=k9.mp^((kI.of g R).dart d).mpr dd;exact sH Q
 refine#[_,rfl,nN (ρ:= [none]) aB (λ_=> .aQ) M _ (λy hy Y h=>h) rfl (small ()) λaK=>?_]
 refine#[_,rfl,trivial,_,rfl,_,0,rfl,zg (p:=0)^by rw[aG];lia,?_]
 refine#[by show 1<=sizeLine;decide,?_]
 refine oE (λm ρ=>∃(b:Nat->Bool)(C:List Nat)(o8 o9 JY JZ:Option D),ρ= [some^.gI N,some^aB^X.map^dW i o,some^ax f,some^.x^.dj (qg i)^iY 0 i,some^.x^.dj (X.map zz) (X.map λt=>FV.int (dW i o t:Int)),some^.lst^M.map aB,some^.lst^Bp o i.length b,some^aB C,o8,o9,JY,JZ]/\OI i b C none/\AI i.length b+C.length=m/\m<=i.length) i.length #[jE (λ_=>false) 0,[0],none,none,none,none,?_,#[rfl,λk hk=>by rw[eZ] at hk;subst hk;exact#[lz,rfl],λk _ J=>?_],?_,bg _] ?_
 .show[_,_,_,_,_,_,some^D.lst^(M.map λ_=>D.aQ).set 0^ax f,_,_,_,_,_]=_
  rw[Ot ll,<-d0,Ic];rfl
 .left
  have:k=0:=by simpa [jE] using J
  subst this;simp
 .have:=Ds (b:=λ_=>false) lz rfl
  have e:AI i.length (λ_=>false)=i.length:=(KM da^List.filter_eq_self.mpr^λ_ _=>rfl).trans jQ;show _+1=_;lia
 rintro m _ ⟨b,C,o8,o9,JY,JZ,rfl,S,hm,mn⟩;refine#[_,rfl,rfl,fu (λe=>?_)^λe=>?_]
 .have ne:C≠ []:=λz=>by rw[z] at e;cases e
  let⟨us,k,rfl⟩:=JQ ne;let⟨kn,kb⟩:=S.wt k^by simp
  rw[dg] at hm;have hm:AI i.length b+(us.length+1)=m:=hm;refine#[us.map ax,ax k,by show some^some^D.lst^(us++ [k]).map ax=_;rw[b9];rfl,?_]
  have kl:k<M.length:=()
  have gk:(M.map aB)[k]?\(aB^M.getD k []):=by rw[dh,cV,cz kl];rfl
  have es:rR^M.getD k []=i.getD k []:=by
   have:(M.map rR)[k]?\(rR^M.getD k []):=by rw[dh,cV,cz kl];rfl
   rw[lm] at this;exact(show i.getD k []=rR (M.getD k []) by rw[cV,this];rfl).symm
  refine#[_,rfl,_,rfl,_,hZ gk,M.getD k [],rfl,l3 _^by rw[cV,cz kl];exact lX kl,?_]
  rw[es];refine(?_:iC _ _ _ ((i.getD k []).map pairD) _);refine bN (λj ρ=>∃(b:Nat->Bool)(C:List Nat)(o9 JY JZ:Option D),ρ= [some^.gI N,some^aB^X.map^dW i o,some^ax f,some^.x^.dj (qg i)^iY 0 i,some^.x^.dj (X.map zz) (X.map λt=>FV.int (dW i o t:Int)),some^.lst^M.map aB,some^.lst^Bp o i.length b,some^aB C,some^ax k,o9,JY,JZ]/\OI i b C^some k/\b k=true/\(∀d∈(i.getD k []).take j,b^cF i (d.2,d.1)=true)/\AI i.length b+C.length+1=m) #[b,us,o9,JY,JZ,rfl,#[S.z,λx G=>S.wt x^by simp[G],λx G J=>?_],kb,λd v=>by simp at v,()] ?_ ?_
  .rcases S.cl x G J with h|h|h
   .rcases cP.mp h with h|h
    .exact .inl h
    .rw[eZ] at h;subst h;exact .inr^.inl rfl
   .cases h
   .exact .inr^.inr h
  .rintro j _ _ v ⟨b,C,o9,JY,JZ,rfl,S,bk,tk,hm⟩ A hA
   let⟨u,hu,rfl⟩:=cw v;let⟨du,ek⟩:=L.at_^cL hu;have GC:aR N (u.2,u.1):=g.sym _ _ du;let⟨j2,a2,b2⟩:=kT i 0^(L.dart _).mpr GC;have l2:=(L.num GC).1;rw[ja] at b2;have ou:(i.getD k []).take (j+1)=(i.getD k []).take j++ [u]:=by rw[wq,hu];rfl
   exists rfl,rfl;refine#[_,rfl,_,rfl,_,rfl,by show 2<=sizeLine;decide,zz (u.2,u.1),qg i,iY 0 i,j2,_,rfl,rfl,a2,b2,trivial,?_]
   exists _,rfl,_,rfl,_,hZ^mY l2
   by_cases c:b^cF i (u.2,u.1)=true
   .rw[ir c]
    refine#[_,rfl,cv^hA _ #[b,C,_,_,_,rfl,S,bk,λd v=>?_,hm]];rw[ou] at v
    rcases cP.mp v with v|v
    .exact tk d v
    .rw[eZ] at v;subst v;exact c
   .rw[tz c]
    have cf:b^cF i (u.2,u.1)=false:=BQ.mpr c;refine#[_,rfl,cZ ?_];let⟨j3,a3,b3⟩:=DS (ok.pm.mem_iff.mpr^Ax g (p:=u.1) (q:=u.2) du)^dW i o;have off:=Ds l2 cf
    have ev:Builtin.bitXor (o.getD k 0:Int) (dW i o^nW u.1 u.2:Int)=(o.getD (cF i (u.2,u.1)) 0:Int):=by
     rw[(zI (T5 d4 k) (Py d4 i _).2).1,Eo];unfold dW;rw[show cF i (u.1,u.2)=k from ek,<-oU,ae8,ae7]
    exists _,rfl,_,rfl,_,hZ^mY kn;rw[ir bk];refine#[_,rfl,_,rfl,_,rfl,_,_,rfl,_,rfl,_,rfl,_,_,rfl,by show 2<=sizeLine;decide,zz^nW u.1 u.2,_,_,j3,_,rfl,QZ u.1 u.2,a3,b3,?_]
    refine#[rfl,_,rfl,_,rfl,_,_,rfl,zg^by rw[mZ];exact l2,?_]
    have S':OI i (jE b^cF i (u.2,u.1)) (C++ [cF i (u.2,u.1)])^some k:=by
     refine#[by unfold jE;rw[S.z];rfl,λx G=>?_,λx G J=>?_]
     .rcases cP.mp G with G|G
      .exact#[(S.wt x G).1,by unfold jE;rw[(S.wt x G).2];rfl]
      .rw[eZ] at G;subst G;exact#[l2,by unfold jE;rw[FM rfl,afG]]
     .unfold jE at J
      rw[aek] at J
      rcases J with J|J
      .rcases S.cl x G J with h|h|h
       .exact .inl^j8 _ h
       .exact .inr^.inl h
       .exact .inr (.inr λd v=>by unfold jE;rw[h d v];rfl)
      .exact .inl^by rw[IR J];simp
    refine#[_,rfl,_,rfl,trivial,bA^by rw[aG];lia,hA _ #[jE b^cF i (u.2,u.1),C++ [cF i (u.2,u.1)],some^ax u.1,some^ax u.2,some^ax^cF i (u.2,u.1),?_,S',by unfold jE;rw[bk];rfl,λd v=>?_,by rw[dg];show _+(_+1)+1=_;lia]]
    .show[_,_,_,_,_,_,some^D.lst^(Bp o i.length b).set (cF i (u.2,u.1))^D.int^Builtin.bitXor (o.getD k 0:Int) (dW i o^nW u.1 u.2:Int),_,_,_,_,_]=_
     rw[ev,show D.int (o.getD (cF i (u.2,u.1)) 0:Int)=ax^o.getD (cF i (u.2,u.1)) 0 from rfl,Ic];unfold aB;rw[b9];rfl
    .rw[ou] at v
     unfold jE
     rcases cP.mp v with v|v
     .rw[tk d v];rfl
     .rw[eZ] at v;subst v;rw[FM rfl,afG]
  .rintro _ ⟨b,C,o9,JY,JZ,rfl,S,bk,tk,hm⟩
   rw[aG,qJ] at tk;refine#[m-1,(),b,C,_,_,_,_,rfl,#[S.z,S.wt,λx G J=>?_],(),()]
   rcases S.cl x G J with h|h|h
   .exact .inl h
   .cases h;exact .inr^.inr tk
   .exact .inr^.inr h
 .have:C= []:=by
   cases C with
   |nil=>rfl
   |cons a l=>cases e
  subst this;exists #[_,rfl],_,rfl;rw[SH dl^S.all g fH];exact q
def RS.mem{w:W}(g:Good w)(h:RS w a)(b:aR w d):d∈a.flatten:=((h.Dm g).dart d).mpr b
variable {P:Program} {w:World} {mg:Str->Option Value} {base:Heap} {Z:DC} (T:Txt Z mg)
def RS.few{w:W}(g:Good w)(h14:w.length<=14)(h:RS w rss):rss.length<=196:=by
 have e:=(h.facts g h14).2
 rcases h with ⟨_,rfl⟩ | ⟨_,R,_⟩
 .decide
 .have:=qN (w:=w) (rss:=rss) λr c=>let #[d,a,b,_]:=R.rnd r c;#[d,a,b]
  lia
def RS.dart{w:W}(h:RS w a)(b:d∈a.flatten):aR w d:=by
 rcases h with ⟨_,rfl⟩ | ⟨_,R,_⟩
 .exact absurd b^by simp
 .exact bh.mp^R.perm.mem_iff.mp b
def Vw:di:=λd P=>∃(w:W)(b:List Int),d= [bR w, .lst^nJ b]/\Good w/\1<=w.length/\w.length<=14/\b≠ []/\b.length<=2/\∀(a:List^List (Nat×Nat))(c:List Nat),RS w a->c.length=a.length->(∀x∈c,x<4)->P^aB c
def AJ:Dk P w base 5 T.uy^uT Z 0 Vw:=by
 have v:=si.nd;refine M0 0 T.uy.F si [0,1,0,1,0,0,0,1] ∅ rfl (λds R h=>by let⟨K,V,rfl,W⟩:=h;rfl)^λaT A outer s H E ds R n h=>?_
 have hu:=n.units
 refine#[_,(ar (bG false 2 v^aH T.uv (mP T) n^aa (U 0) ah)
   (ar (jA 3 v^jz ah)
   (ar (cu rfl FS (eW rfl T.B.enumerate^aa (aH T.uu (iH T) n^aa (U 0) ah) ah) (dO 2 rfl^aJ (aI 4 v)^aJ (aI 5 v) bT)^ar (bG false 6 v^sS (NC:= ["_law_p","_law_q","_law_by_side_here"]) (src:= [none,none,some 2]) rfl (sQ^aq iN) #[rfl,rfl,trivial] (bM^U 5) (λ_ _ _=>(qP 2 rfl^eS (bL 0 (show(["_law_p","_law_q","_law_by_side_here"]:List fA).Nodup from by decide+kernel))^eS (bL 1 (show(["_law_p","_law_q","_law_by_side_here"]:List fA).Nodup from by decide+kernel)) mB)) (λ_ _ _=>eX)^λ_ _ _=>(lJ hu (U 2)^bO^aa (U 1)^aa (U 0) ah))
   (ar (IY 7 (NC:= ["_law_dye","_law_dyes_here","_law_near","_law_number"]) (src:= [none,some 3,some 6,some 4]) rfl v (sQ^aq iN) #[rfl,rfl,rfl,rfl,rfl,rfl,trivial] (zS rfl T.B.range^aa aP ah) (λ_ _ _=>(bL 0 (show(["_law_dye","_law_dyes_here","_law_near","_law_number"]:List fA).Nodup from by decide+kernel))) (λ_ _ _=>(uE^bI Dr (U 0) (sS (NC:= ["_law_other","_law_dyes_here","_law_number"]) (src:= [none,some 1,some 3]) rfl aao #[rfl,rfl,rfl,rfl,trivial] (bM^U 2) (λ_ _ _=>(bL 0 (show(["_law_other","_law_dyes_here","_law_number"]:List fA).Nodup from by decide+kernel))) (λ_ _ _=>(uE^bI AE (U 0) (U 2)^aY _))^λ_ _ _=>(fz (U 1)^U 0))^by with_unfolding_all rfl))^λ_ _ _=>(U 0))
   (ar (IW 1 hu (t8.mR (Li T) T.un) (n.mono ∅) rfl T.un.m T.un.F.kp T.un.b (bI (jW hu) (U 7) (nk ah)^aY _) aP aP^aw^jA 7 v^jz^aa aP^aa aP^aa aP^aa aP ah)
   (aw^Gz 3 7 1 (t8.mR (Li T) T.un) (n.mono ∅) rfl T.un.m T.un.F.kp T.un.b^aU dM rfl T.B.len dJ^aa (U 7) ah))))
   (h7 3
   (aw^aV^U 3))))),?_]
 let⟨S,l,rfl,g,h1,h14,G,L,q⟩:=h;refine#[_,rfl,S,rfl,g,h1,h14,λrss I=>#[trivial,?_]];refine#[by show 0<=sizeLine;decide,?_]
 refine#[_,rfl,S,rfl,g,h1,h14,λa fH=>?_];obtain rfl:=fH.uniq g I;have fl:=(I.facts g h14).2;have rl:=I.few g h14;refine(?_:iC _ _ _ (eO^a.map lR) _);refine bN (λj z=>∃(l:List Int)(f:List Nat)(o4 o5 o6 o7:Option D),z= [some^bR S,some^.lst^nJ l,some^.x^.dj (qg a)^iY 0 a,some^aB f,o4,o5,o6,o7]/\l≠ []/\l.length<=2/\f.length=j/\∀x∈f,x<4) #[l,[],_,_,_,_,rfl,G,L,rfl,λx h=>nomatch h] ?_ ?_
 .clear G L l
  rintro j _ _ hd ⟨l,f,o4,o5,o6,o7,rfl,G,L,dl,d4⟩ A hA;let⟨x,k,rfl⟩:=jg hd;let⟨r,n,rfl⟩:=cw k;have jl:=(cR.mp n).1
  have rl2:r.length<=196:=by
   have:=(K8^cL n).length_le
   lia
  exists rfl,rfl;exists _,rfl;refine jB (λz=>∃o0 o1,z= [o0,o1,some^.x^.dj (qg a)^iY 0 a]) pairD (λ_=>true) (λt=>ax^cF a (t.2,t.1)) r _ [] _ (λt ht aK M Y Nn hY hN=>?_) #[_,_,rfl] (by rw[qK,ja];exact small ()) λaK M=>?_
  .obtain⟨o0,o1,rfl⟩:=M
   have m1:t∈a.flatten:=k9.mpr #[r,cL n,ht];have m2:(t.2,t.1)∈a.flatten:=I.mem g^g.sym _ _^I.dart m1;let⟨j2,a2,b2⟩:=kT a 0 m2;rw[ja] at b2;exact#[rfl,rfl,Mo #[_,rfl,_,rfl,_,rfl,by show 2<=sizeLine;decide,zz (t.2,t.1),qg a,iY 0 a,j2,_,rfl,rfl,a2,b2,hY _ #[_,_,rfl] rfl]]
  have ef:r.filter (λ_=>true)=r:=by simp
  rw[sM,ef];exists trivial;obtain⟨p,en⟩:∃p:List Nat,r.map (λt=>ax^cF a (t.2,t.1))=p.map ax:=#[r.map λt=>cF a (t.2,t.1),by rw[cC];rfl]
  have nl:p.length<=196:=by have:=KM da en;rw[aG,aG] at this;lia
  rw[en];clear en ef;obtain⟨J,N⟩:∃J:List Nat,J=(p.filter λo=>decide (o<j)).map λo=>f.getD o 0:=#[_,rfl];refine#[#[∅,∅],?_]
  refine(?_:lcW _ _ _ ((ak 4).map ax) _ _ _);refine jB (λz=>∃o,z= [o,some^aB f,some^aB p,some^ax j]) ax (λy=>!inD (ax y)^J.map ax) ax (ak 4) _ [] _ (λy hy aK M Y Nn hY hN=>?_) #[_,rfl] (by rw[qK,ja];exact small^by rw[jQ];decide) λaK M=>?_
  .obtain⟨o,rfl⟩:=M
   exists _,rfl,_,rfl;refine jB (λz=>∃o,z= [o,some^aB f,some^ax j]) ax (λo=>decide (o<j)) (λo=>ax^f.getD o 0) p _ [] _ (λo' ho wu O Y' N' hY' hN'=>?_) #[_,rfl] (by rw[qK,ja];exact small ()) λwu O=>?_
   .obtain⟨o2,rfl⟩:=O
    exists _,rfl,_,rfl,_,rfl;refine(?_:if decide ((o':Int)<(j:Int))=true then _ else _);refine fu (λc=>?_)^λc=>?_
    .have c:o'<j:=by have:=IR c;lia
     exact#[_,rfl,_,rfl,_,gb (),hY' _ #[_,rfl]^FM c]
    .have c:¬o'<j:=by have:=SB c;lia
     exact hN' _ #[_,rfl]^GE c
   have el:((p.filter λo=>decide (o<j)).map λo=>ax^f.getD o 0)=J.map ax:=by rw[N,cC];rfl
   rw[sM,el];exists rfl,h8 _,_,rfl;rw[ir rfl];exact fu (λe=>#[_,rfl,hY _ #[_,rfl] e])^λe=>hN _ #[_,rfl] e
  rw[sM];obtain⟨C,X⟩:∃C:List Nat,C=(ak 4).filter λy=>!inD (ax y)^J.map ax:=#[_,rfl];have s4:∀x∈C,x<4:=λx k=>by rw[X] at k;exact i9.mp (m7.mp k).1
  have sl:C.length<=4:=by rw[X];have:=F2 (λy=>!inD (ax y)^J.map ax)^ak 4;rw[jQ] at this;exact this
  rw[<-X];clear X N
  have fin:∀(E:fN)(Q:List Int)(i:List Nat),E.nx=A->Q≠ []->Q.length<=2->0<i.length->i.length<=4->(∀x∈i,x<4)->CH [0,1,0,1,0,0,0,1] 3 7 1 (sR zB^IL (zP 7) lH) E [some^bR S,some^.lst^nJ Q,some^.x^.dj (qg a)^iY 0 a,some^aB f,some^.int (j:Int),some^lR r,some^.lst^p.map ax,some^aB i]:=by
   intro E Q i hE n1 l1 p1 q1 a1;have ZH:(i.map ax).length=i.length:=aG _;refine#[f.map ax,i.map ax,Q,rfl,rfl,rfl,n1,(),bA^by rw[aG];lia,_,rfl,((i.map ax).length:Int),rfl,by rw[ZH];lia,by rw[ZH];lia,λd jV d0 dm u l'=>?_]
   rw[ZH] at dm;have dn:d=((d.toNat:Nat):Int):=()
   have XG:d.toNat<i.length:=()
   refine#[ax^i.getD d.toNat 0,by rw[dn];exact gb XG,?_]
   rw[hE];refine hA _ #[jV,f++ [i.getD d.toNat 0],some^.int (j:Int),some^lR r,some^.lst^p.map ax,some^aB i,by unfold aB;rw[b9];rfl,u,(),by rw[dg,dl];rfl,λx k=>?_]
   rcases cP.mp k with k|k
   .exact d4 x k
   .rw[eZ] at k
    rw[k,cV,cz XG];exact a1 _^lX XG
  have a4:∀x∈ [0,1,2,3],x<4:=∅
  exists h8 _;refine#[_,rfl,by show 0<=sizeLine;decide,?_]
  refine(?_:MK (aB C) (aB []) _);refine uC #[_,rfl,?_];refine fu (λe=>?_)^λe=>?_
  .exact#[by show 4<=sizeLine;decide,fin _ l [0,1,2,3] rfl G L ∅ ∅ a4]
  .have e:C≠ []:=SB e
   exact#[l,rfl,G,(),9,rfl,∅,∅,λd jV _ _ u l'=>#[λ_=>#[by show 4<=sizeLine;decide,fin _ jV [0,1,2,3] rfl u () ∅ ∅ a4],λ_=>fin _ jV C rfl u () (F4.mpr e) sl s4]]
 .rintro _ ⟨l,f,o4,o5,o6,o7,rfl,G,L,dl,d4⟩
  rw[jh,aG] at dl;exact#[#[_,rfl],_,rfl,q a f I dl d4]
end wy
namespace L2
open PySem PySem.Spec PyProof.Rows
section
variable {Z:DC} {X:Cx} {md:List Nat} {rn:Nat} {e1 e3:Expr} {t1:aX} {t3:t7} {pos apos aO p2:Pos}
def Xz(b:List Nat)(i:Nat)(c:di)(e:aX)(f:t7):cJ:=λE a=>e (cy b a) λg=>f (cy b a) λh=>c [g, .lst h] λd=>E.nx^a.set i^some d
def Pr(i:Nat)(P:X.N.Nodup)(F:FnOk X.prog X.w X.K X.mg X.base fe k f u z^uT Z 0 l)(Q:bP k X.A)(R:Gl X y)(T:X.mg y\(.ref f))(Y:am X.K^.ref f=true)(hb:Binds X.K u z [])
  (h1:DE Z X e t1) (h3:DF Z X 1 c t3) (dP:(y==("__debug__":fA))=false<|>zm) (C:d_ [e,c] X.env=(false,gi e X.env)::d_ [c] X.env<|>zn) (m:d_ [c] X.env=(false,gi c X.env)::d_ [] X.env<|>zn) (bX:(gM I^d_ [c] X.env).any (·.1)=false<|>zn)
  (hm:g.getD i 0=0<|>zn) (hi:X.N[i]?\x<|>zn) (hx:Loc X.env.scope x<|>xz) (hs:g_ (.Call (.Name y p) [e,c] [] I) (some^.Name x b) pos.line X.env=pure false<|>zn)
  (hf:X.fn x=true\/X.env.scope.names.lookup x\.local<|>xz):DSt Z X g rn (.Assign [.Name x b] (.Call (.Name y p) [e,c] [] I) pos)^Xz g i l t1 t3:=by
 refine(bU P hi hx (bq F Q R T Y hb .nil bY (ao h1 (ao h3 aA m) C) dP C bX) hs hf).imp ?_;intro D σ H aM;rfl';obtain⟨B,J,E,⟨G,fp,S⟩,h,M⟩:=aM;ac_rfl;refine#[G,cy g J,_,S.ex.sub,S.yc,h,λd1 Yt L Ga Ha j q=>#[Ga,cy g J,_,j.sub,S.yc.mono j.gg,Yt,λl3 Qf v3 f3 Gc Hc r o3 nd3 s=>?_]];rfl';let⟨a,xs,l',sW,rfl,el,ha,t,ol⟩:=o3.one;cases el;let⟨XO,rfl⟩:=ol.flat;let⟨n1,n2,n3⟩:=s a^by rw[t];simp
 have Yn:H a=none:=j.hh.free n1;ac_rfl;show uT Z 0 l ([L, .ref a]++ []) Hc _ E0;rw[e8];exists Gc,[L],a,xs,[d1],l3,_,rfl,r.sub, .cons (q.mono r.gg) .nil,ha,n3,XO,Qf;rintro d hd v f O H' x4 o nd nw;have x:Ext G H O H':=(j.trans r).give Yn x4;let⟨dv,rfl⟩:=o;exact M.nx _ hd _ _ #[O,_,(S.grow x).lS hm dv]
end
end L2
namespace wy
open PySem L2 Wb
variable {P:Program} {w:World} {mg:Str->Option Value} {base:Heap} {Z:DC} (T:Txt Z mg)
def Oi:di:=λb P=>∃(w:W)(a:List^List (Nat×Nat))(c:List (Nat×Nat)),b= [bR w]/\Tk w a c/\(j4 w a->P^.bl true)/\(¬j4 w a->P^.bl false)
def AL:Dk P w base 4 T.ux^aW Z Oi:=by
 have t:=qr.nd;refine bz T.ux.F qr [0] ∅ (λf R h=>by let⟨v,x,y,rfl,z⟩:=h;rfl)^λu A outer s H E f R d h=>?_
 have i:=d.units;exists _,(aw^aV^lI (jW i) (fP lP (aU dM rfl T.B.len dJ^aa (U 0) ah)^aU dM rfl T.B.len dJ^aa (aH T.uu (iH T) d^aa (U 0) ah) ah) (fP lP (aU dM rfl T.B.len dJ^aa (aH T.uw (jC T) d^aa (U 0) ah) ah) aP)^aY _);let⟨a,b,j,rfl,ok,k,l⟩:=h;have g:=ok.g;have m:(a.map aB).length=a.length:=aG _;have n:(b.map lR).length=b.length:=aG _;have lt:(j.map pairD).length=tc a:=by rw[aG,ok.pm.length_eq];rfl
 refine#[_,rfl,_,rfl,a,rfl,g,ok.h1,ok.h14,λe o=>?_];obtain rfl:=o.uniq g ok.rs;refine#[_,rfl,a,rfl,g,ok.h14,λp q r=>?_];obtain rfl:=ok.uniq q r;dsimp only[lH,zB];refine(?_:MK (.int (((a.map aB).length:Int)+((e.map lR).length:Int))) (.int (((p.map pairD).length:Int)+2)) _);rw[m,n,lt];refine uB ?_
 by_cases c:j4 a e
 .have:=k c
  unfold j4 at c;rw[FM c];exact this
 .have:=l c
  unfold j4 at c;rw[GE c];exact this
def ZI:di:=λd P=>∃(w:W)(a:List^List (Nat×Nat))(b:List (Nat×Nat))(c:List Nat),d= [bR w, .lst^b.map pairD,aB^b.map^dW a c]/\Tk w a b/\(∀x∈c,x<4)/\(∀t∈b,dW a c t≠0)/\P^.bl true
def Cr:Dk P w base 1 T.uz^aW Z ZI:=by
 have o:=sq.nd;refine bz T.uz.F sq [0,0,0,0,0,0,0,0,0] ∅ (λds R h=>by obtain⟨_,_,_,_,rfl,_⟩:=h;rfl)^λaT A outer s H E ds R hr h=>?_
 have r:=hr.units
 refine#[_,(ar (bG false 3 o^x9 r rfl rfl T.u1 rfl T.B.zip^aa (U 1)^aa (U 2) ah)
   (ar (cu rfl FS (eW rfl T.B.enumerate^aa (U 0) ah) (dO 2 rfl^aJ (aI 4 o)^aJ (aI 5 o) bT)^ar (wM 6 (NC:= ["_law_q","_law_by_tie","_law_p"]) (src:= [none,some 3,some 4]) rfl o (sQ^aq ku) #[rfl,rfl,rfl,rfl,trivial] (bM^U 5) (λ_ _ _=>(bL 0 (show(["_law_q","_law_by_tie","_law_p"]:List fA).Nodup from by decide+kernel))) (λ_ _ _=>eX)^λ_ _ _=>(lJ r (U 1)^bO^aa (aU (Gn rfl) rfl T.B.min Lh^aa (U 2)^aa (U 0) ah)^aa (aU (Gm rfl) rfl T.B.max Lg^aa (U 2)^aa (U 0) ah) ah))
   (ar (bG false 7 o aP)
   (ar (cu rfl FS (bM^U 6) (aI 8 o)^aw^bG false 7 o^fP qZ (U 7)^U 8)
   (aw^dB (DW.dt^IZ (bI (qb r) (U 7) aP^aY _)^En^DW.dt^TQ (bI (jW r) (aU dM rfl T.B.len dJ^aa (U 6) ah) aP^aY _)^Px^bI (qb r) (aU wD rfl T.B.sorted je^aa (U 6) ah) (nk^aa aP^aa aP^aa aP ah)^aY _) (aw^aV pK) bx))))
   (aw^aV pK))),?_]
 let⟨l,d,i,k,rfl,ok,d4,nz,q⟩:=h;have g:=ok.g;have L:=ok.rs.Dm g;have SA:=ok.few;have h14:=ok.h14;refine#[_,rfl,_,rfl,i.map zz,i.map^λt=>FV.int (dW d k t:Int),by rw[cC,cC];unfold aB;rw[cC];rfl,D4 ok.nodup,by rw[aG,aG],by rw[aG];lia,trivial,?_]
 exists _,rfl;refine(?_:iC _ _ _ (eO^l.map aB) _);refine bN (λj ρ=>∃C G I J m,ρ= [some^bR l,some^.lst^i.map pairD,some^aB^i.map^dW d k,some^.x^.dj (i.map zz) (i.map λt=>FV.int (dW d k t:Int)),C,G,I,J,m]) #[_,_,_,_,_,rfl] ?_ ?_
 .rintro p _ _ N ⟨C,G,I,J,m,rfl⟩ A z
  let⟨hp,rfl⟩:=yy N;exists rfl,rfl;have rl0:=fC g p;exists _,rfl;refine(?_:lcW _ _ _ ((row l p).map ax) _ _ _);refine nN (ρ:= [none,some^.x^.dj (i.map zz) (i.map λt=>FV.int (dW d k t:Int)),some^ax p]) ax (λq=>ax^dW d k (p,q)) (row l p) _ (λO hq Y hY=>?_) rfl (small ()) λaK=>#[trivial,trivial,?_]
  .obtain⟨j3,a3,b3⟩:=DS (ok.pm.mem_iff.mpr^Ax g (p:=p) (q:=O) hq)^dW d k
   rw[Eo] at b3;exact#[_,rfl,_,rfl,_,rfl,_,_,rfl,_,rfl,_,rfl,_,_,rfl,by show 2<=sizeLine;decide,zz^nW p O,_,_,j3,_,rfl,QZ p O,a3,b3,hY]
  obtain⟨f,u⟩:∃f:List Nat,f=(row l p).map λq=>dW d k (p,q):=#[_,rfl];have Q:((row l p).map λq=>ax^dW d k (p,q))=f.map ax:=by rw[u,cC];rfl
  have v:∀x∈f,x<4:=λx n=>by rw[u] at n;let⟨y,K,rfl⟩:=cE.mp n;exact(Py d4 d _).2
  have S:∀x∈f,x≠0:=λx n=>by
   rw[u] at n;let⟨y,X,rfl⟩:=cE.mp n;rw[<-Eo];exact nz _^ok.pm.mem_iff.mpr^Ax g X
  have h0:c8 f=0:=by rw[u];exact GD g L k p
  have hl:f.length=(row l p).length:=by rw[u,aG]
  rw[Q];exists _,rfl;refine(?_:iC _ _ _ (f.map ax) _);refine bN (λj ρ=>∃m,ρ= [some^bR l,some^.lst^i.map pairD,some^aB^i.map^dW d k,some^.x^.dj (i.map zz) (i.map λt=>FV.int (dW d k t:Int)),some^ax p,some^aB^row l p,some^aB f,some^ax^c8^f.take j,m]) #[m,rfl] ?_ ?_
  .rintro j _ _ N ⟨m,rfl⟩ A z
   let⟨x,n,rfl⟩:=cw N;have ou:f.take (j+1)=f.take j++ [x]:=by rw[wq,n];rfl
   have e:=(zI (Im λy X=>v y^F3 X) (v x^cL n) (a:=c8^f.take j)).1;refine#[_,rfl,_,rfl,trivial,z _ #[some^ax x,?_]];rw[ou,xQ];show[_,_,_,_,_,_,_,some^D.int^Builtin.bitXor (c8^f.take j:Int) (x:Int),_]=_;rw[e];unfold c8 c8;rw[afF];rfl
  .rintro _ ⟨m,rfl⟩
   rw[aG,qJ,h0];refine#[_,rfl,JU #[_,rfl,cv ?_]];exists _,rfl;dsimp only[lH,zB];refine TV #[_,rfl,fu (λe=>?_)^λ_=>cv^z _ #[_,_,_,_,_,rfl]];have e3:f.length=3:=by have:=IR e;rw[aG] at this;lia
   exists _,rfl;dsimp only[lH];refine xP () λM pm srt=>?_
   have eM:M= [1,2,3]:=by
    match f,e3 with
    | [a,b,c],_=>
     have p3:=pm.trans^KJ (v a^by simp) (v b^by simp) (v c^by simp) (S a^by simp) (S b^by simp) (S c^by simp) h0
     exact ac3 (λ_ _ _ _=>Nat.le_antisymm) srt ∅ p3
   subst eM;refine#[by show 3<=sizeLine;decide,?_]
   refine(?_:IQ (aB [1,2,3]) (aB [1,2,3]) _);exact O6 #[_,rfl,cv^z _ #[_,_,_,_,_,rfl]]
 .rintro _ ⟨C,G,I,J,m,rfl⟩
  exact q
def Sq:di:=λe P=>∃(w:W)(a:List^List (Nat×Nat))(c:List (Nat×Nat))(d:List Nat)(f:Nat),e= [.gI w,aB d,ax f]/\Tk w a c/\(¬j4 w a->P^.tup [.str "not plane",xY w a])/\(j4 w a->∃b:List Nat,b.length=a.length/\(∀x∈b,x<4)/\b.getD 0 0=f/\d=c.map^dW a b/\P^.tup [.str "told",aB b])
def l5:Dk P w base 8 T.v0^aW Z Sq:=by
 have a:=sh.nd;refine bz T.v0.F sh [0,0,0,0,0] ∅ (λd R h=>by let⟨v,x,y,z,B,rfl,C⟩:=h;rfl)^λt A outer s H E d R c h=>?_
 have u:=c.units
 refine#[_,(ar (bG false 3 a^bO^aa jy^aa ft ah)
   (ar (Lr (λ_ _=>by exact(aw^MV 3 (by decide+kernel) a T.uj (AK T) c^aa (U 0)^aa (U 1)^aa (U 2) ah)) bx^XB 4 a T.vf T.vi (λ_=>by exact(aw^bG false 3 a^bO^aa jy^aa (Pb T.iX^U 4) ah)) Lm)
   (aw^aV^U 3))),?_]
 let⟨e,b,g,i,f,rfl,ok,j,k⟩:=h;refine#[by show 2<=sizeLine;decide,trivial,?_]
 refine#[_,rfl,_,rfl,_,rfl,e,b,g,i,f,rfl,ok,λn=>?_,λpl=>?_]
 .exact#[T.vi.obj,true,(T.vm.m1 0 rfl),cZ #[_,rfl,T.vi.cls,T.vl,_,rfl,by show 2<=sizeLine;decide,trivial,_,rfl,j n]]
 .obtain⟨l,m,o,p,q,r⟩:=k pl
  exact#[l,m,o,p,q,_,rfl,r]
def ltC{P:D->Prop}(h:P^.bl (decide (i<j))):dC (.int j) a (λb=>dLt (.int i) b P):=h
def SJ(w:W):∃a:List (Nat×Nat),a.Perm^cM (row w) w.length/\a.Pairwise lexLe:=Sn (le:=lexLe) (λ_ _ _=>ET) ES _
def zX{x:PyData}{P:D->Prop}(c:d.py\x)(f:x.depth<=60)(e:PyData.eqv x x=true)(h:P^.bl (!b)):Gs b (.tup [.str a,d]) (.tup [.str a,d]) P:=by
 refine#[.tuple [.str a,x], .tuple [.str a,x],by rw[D.py,fR,D.py,fR,c];rfl,by rw[D.py,fR,D.py,fR,c];rfl,by rw[PyData.depth];simp only[PyData.depthAll,PyData.depth];lia,?_]
 have:PyData.eqv (.tuple [.str a,x])^.tuple [.str a,x]=true:=by simp[PyData.eqv,PyData.eqvAll,e]
 rw[this];cases b<;>exact h
def Br{P:D->Prop}(h:P^.bl (!b)):Gs b (.tup [.str a,aB r]) (.tup [.str a,aB r]) P:=zX (vz r) (iT (pL r) ∅) (by rw[zW,FM rfl]) h
def MF{P:D->Prop}(h:P^.bl (!b)):Gs b (.tup [.str a, .tup [.int i, .int j, .int k]]) (.tup [.str a, .tup [.int i, .int j, .int k]]) P:=zX (x:= .tuple [.int i, .int j, .int k]) rfl (by simp[PyData.depth,PyData.depthAll]) (by simp[PyData.eqv,PyData.eqvAll]) h
def RS.pos{w:W}(g:Good w){a:List^List (Nat×Nat)}(h:RS w a):1<=a.length:=by
 rcases h with ⟨_,rfl⟩ | ⟨b,R,_⟩
 .decide
 .obtain⟨d,c⟩:=C2 g b
  let⟨r,e,f⟩:=k9.mp^((kI.of g R).dart d).mpr c;exact sH e
def Pz{w:W}(g:Good w){a:List^List (Nat×Nat)}(L:kI w a){b:List Nat}(dl:b.length=a.length)(l:∀x∈b,x<4){u:Nat×Nat}(e:aR w u):∃c d:Nat,(qg a)[c]?\(zz u)/\(iY 0 a)[c]?\(FV.int (cF a u:Int))/\(qg a)[d]?\(zz (u.2,u.1))/\(iY 0 a)[d]?\(FV.int (cF a (u.2,u.1):Int))/\cF a u<b.length/\cF a (u.2,u.1)<b.length:=by
 have f:aR w (u.2,u.1):=g.sym _ _ e;let⟨c,j,h⟩:=kT a 0^(L.dart _).mpr e;let⟨d,k,i⟩:=kT a 0^(L.dart _).mpr f;rw[ja] at h i;exact#[c,d,j,h,k,i,by rw[dl];exact(L.num e).1,by rw[dl];exact(L.num f).1]
def Ft:di:=λb P=>∃(a:List Int),b= [.qy a]/\a.length<=63/\P^.bl true
def UR:Dk P w base 9 T.v1^aW Z Ft:=by
 have C:=L8.nd;refine bz T.v1.F L8 [0,0,0,0,0,0,0,0,0,0] ∅ (λds R h=>by let⟨K,rfl,V⟩:=h;rfl)^λaT A outer s H E ds R o h=>?_
 have G:=o.units
 refine#[_,(ar (bG false 1 C^aH T.ut (E7 T) o^aa (U 0)^aa aP^aa (lI AE (fP zi (aH T.uk (r6 T) o^aa (U 0)^aa aP ah) aP) aP^aY _) ah)
   (ar (Pr 2 C (AJ T) (o.mono ∅) rfl T.uy.m T.uy.F.kp T.uy.b (U 1)^MS T.um (xw T) o^aa (U 0)^aa aP ah)
   (ar (bG false 3 C^Pc T.v5 (xy T) (o.mono ∅) rfl T.mC T.v6^aa (sS (NC:= ["_law_turn"]) (src:= [none]) rfl (sQ^aq xN) trivial (bM^U 1) (λ_ _ _=>(bL 0 (show(["_law_turn"]:List fA).Nodup from by decide+kernel))) (λ_ _ _=>eX)^λ_ _ _=>(nh uA rfl T.B.list pI^aa (U 0) ah)) ah)
   (ar (bG false 4 C ft)
   (ar (Lr (λ_ _=>by exact(aw^Pt 4 C T.uh (rZ T) o^aa (U 3)^aa (nh uA rfl T.B.list pI^aa (U 2) ah) ah)) bx^Pk T.vh T.vj (λ_=>by exact(aw^bG false 4 C ft)) Lm)
   (ar (dB (bI xu (U 4) ft^aY _) (ar (bG false 5 C^aH T.uv (mP T) o^aa (U 1) ah)
   (aw^aV^lI J0 aP (sS (NC:= ["_law_a","_law_b","_law_dyes_here","_law_by_side_here"]) (src:= [none,none,some 2,some 5]) rfl (sQ^aq xN) #[rfl,rfl,rfl,rfl,trivial] (bM^aH T.uw (jC T) o^aa (U 1) ah) (λ_ _ _=>(qP 2 rfl^eS (bL 0 (show(["_law_a","_law_b","_law_dyes_here","_law_by_side_here"]:List fA).Nodup from by decide+kernel))^eS (bL 1 (show(["_law_a","_law_b","_law_dyes_here","_law_by_side_here"]:List fA).Nodup from by decide+kernel)) mB)) (λ_ _ _=>eX)^λ_ _ _=>(fP qZ (fz (U 2)^lJ G (U 3)^bO^aa (U 0)^aa (U 1) ah)^fz (U 2)^lJ G (U 3)^bO^aa (U 1)^aa (U 0) ah))^by with_unfolding_all rfl)) bx)
   (ar (dB (DW.dt^IZ (bI (qb G) (aU dM rfl T.B.len dJ^aa (U 4) ah) (aU dM rfl T.B.len dJ^aa (aH T.uw (jC T) o^aa (U 1) ah) ah)^aY _)^En^nu^lK^aH T.uz (Cr T) o^aa (U 1)^aa (aH T.uw (jC T) o^aa (U 1) ah)^aa (U 4) ah) (aw^aV pK) bx)
   (ar (bG false 6 C^nh uA rfl T.B.list pI^aa (U 4) ah)
   (ar (dB (nu^lK^aH T.ux (AL T) o^aa (U 1) ah) (ar (bG false 7 C^bO^aa (aU dM rfl T.B.len dJ^aa (U 1) ah)^aa (aU dM rfl T.B.len dJ^aa (U 4) ah)^aa (aU dM rfl T.B.len dJ^aa (aH T.uu (iH T) o^aa (U 1) ah) ah) ah)
   (aw^aV^za (lI (jW G) (aH T.v0 (l5 T) o^aa (U 3)^aa (U 6)^aa (fz (U 2) aP) ah) (bO^aa jy^aa (U 7) ah)^aY _)^Ei^lI (jW G) (U 6) (U 4)^aY _)) bx)
   (ar (bG false 8 C^fP zi (aH T.uk (r6 T) o^aa (U 0)^aa aP ah) aP)
   (ar (wM 9 (NC:= ["_law_dye","_law_first","_law_dyes_here"]) (src:= [none,some 8,some 2]) rfl C (sQ^aq xN) #[rfl,rfl,rfl,rfl,trivial] (bM^U 2) (λ_ _ _=>(bL 0 (show(["_law_dye","_law_first","_law_dyes_here"]:List fA).Nodup from by decide+kernel))) (λ_ _ _=>eX)^λ_ _ _=>(fP qZ (fP qZ (U 0)^fz (U 2) aP)^U 1))
   (ar (dB (DW.dt^IZ (bI (qb G) (aH T.v0 (l5 T) o^aa (U 3)^aa (U 6)^aa (fz (U 2) aP) ah) (bO^aa jy^aa (U 2) ah)^aY _)^En^bI (qb G) (aH T.v0 (l5 T) o^aa (U 3)^aa (U 6)^aa (U 8) ah) (bO^aa jy^aa (U 9) ah)^aY _) (aw^aV pK) bx)
   (aw^aV^za (lI (jW G) (aH T.uh (Fb T) o^aa (U 3)^aa (U 9) ah) (U 4)^aY _)^Ei^lI (jW G) (U 6) (U 4)^aY _))))))))))))),?_]
 let⟨ns,rfl,EF,q⟩:=h;refine#[_,rfl,_,rfl,ns,5,rfl,∅,λv=>?_]
 refine#[by show(0:Int)<4;decide,?_]
 refine ltC ?_;refine#[ns,14,_,rfl,∅,∅,λr g M S=>#[trivial,?_]]
 refine#[_,rfl,_,rfl,ns,6,rfl,∅,λxs ne l2=>#[_,rfl,r,xs,rfl,g,M,S,ne,l2,λj d rs dl J=>?_]]
 refine#[_,rfl,nN (ρ:= [none]) aB aB r _ (λy hy Y h=>#[_,rfl,h]) rfl (small ()) λaK=>#[r,rfl,g,M,S,trivial,?_]]
 let⟨N,pm,srt⟩:=SJ r;have ok:Tk r j N:=#[g,M,S,rs,pm,srt];have L:=rs.Dm g;have SA:=ok.few;have acK:=ok.rounds.2.2;have lt:(N.map pairD).length=N.length:=aG _;exists trivial;refine#[_,rfl,_,rfl,r,j,N,d,rfl,ok,dl,J,λt O=>?_,λhn=>?_]
 .refine#[T.vj.obj,true,(T.vq.m1 0 rfl),cZ #[trivial,?_]]
  refine#[_,rfl,_,rfl,cZ ?_];refine#[_,rfl,r,rfl,g,M,S,λz fH=>#[trivial,?_]];obtain rfl:=fH.uniq g rs;refine#[_,rfl,r,rfl,g,S,λdE xD qz=>?_];obtain rfl:=ok.uniq xD qz;refine(?_:lcW _ _ _ (dE.map pairD) _ _ _);refine jB (λρ=>∃o0 o1,ρ= [o0,o1,some^aB d,some^.x^.dj (qg z)^iY 0 z]) pairD (λ_=>true) (λt=> .int^Builtin.bitXor (d.getD (cF z t) 0:Int) (d.getD (cF z (t.2,t.1)) 0:Int)) dE _ [] _ (λu G aK hI Y Nn hY hN=>?_) #[_,_,rfl] (by rw[qK,ja];exact small ()) λaK hI=>?_
  .obtain⟨o0,o1,rfl⟩:=hI
   let⟨j1,j2,a1,b1,a2,b2,M,l2⟩:=Pz g L dl J^ot^pm.mem_iff.mp G;refine#[rfl,rfl,Mo ?_];refine#[_,rfl,_,rfl,_,rfl,_,rfl,by show 2<=sizeLine;decide,?_]
   exists zz u,_,_,j1,_,rfl,rfl,a1,b1,_,gb M;refine#[_,rfl,_,rfl,_,rfl,_,rfl,by show 2<=sizeLine;decide,?_]
   exact#[zz (u.2,u.1),_,_,j2,_,rfl,rfl,a2,b2,_,gb l2,hY _ #[_,_,rfl] rfl]
  have ef:dE.filter (λ_=>true)=dE:=by simp
  rw[sM,ef];refine#[rfl,by rw[List.all_map,adU];intro x _;rfl,?_]
  have t0:dW z d t=0:=by have:=aei O;exact IR this
  have tm:=FW O
  have e:inD (D.int 0) (dE.map λt=>D.int^Builtin.bitXor (d.getD (cF z t) 0:Int) (d.getD (cF z (t.2,t.1)) 0:Int))=true:=by
   unfold inD;rw[List.any_map,adY];exact#[t,tm,by show kN (D.int _)^D.int 0=true;rw[(Py J z t).1,t0];rfl]
  rw[tz eD,e];exact q
 .refine#[_,rfl,_,rfl,cv ?_]
  have nz:∀t∈N,dW j d t≠0:=λt O e=>by
   have:=F5.mp hn t O
   unfold iW at this;rw[e] at this;exact this rfl
  have lm':(N.map^dW j d).length=N.length:=aG _;have lmD:((N.map^dW j d).map ax).length=N.length:=by rw[aG,aG]
  have lz:0<d.length:=by rw[dl];exact rs.pos g
  refine#[_,rfl,_,rfl,r,rfl,g,S,λdE xD qz=>?_];obtain rfl:=ok.uniq xD qz;dsimp only[lH,zB];rw[lmD,lt];refine Gu #[_,rfl,?_];rw[FM rfl];refine cv ?_;refine#[_,rfl,_,rfl,r,rfl,g,S,λQ Vd Mc=>?_];obtain rfl:=ok.uniq Vd Mc;refine#[_,rfl,r,j,Q,d,rfl,ok,J,nz,rfl,cv ?_];exists _,rfl,trivial;refine#[_,rfl,r,j,Q,rfl,ok,λpl=>#[rfl,cv ?_],λn=>#[rfl,cZ ?_]]
  .refine#[_,rfl,ns,7,rfl,∅,λv7=>#[by show(0:Int)<4;decide,trivial,?_]]
   obtain⟨f,hf,f4⟩:∃f:Nat,v7%4=(f:Int)/\f<4:=#[(v7%4).toNat,(),()]
   dsimp only;rw[hf];have Xg:=T5 J 0
   have e9:∀x∈d,D.int^Builtin.bitXor (Builtin.bitXor (x:Int) (d.getD 0 0:Int)) (f:Int)=ax (x^^^d.getD 0 0^^^f):=λx X=>by
    rw[(zI (J x X) Xg).1,(zI (zI (J x X) Xg).2 f4).1];rfl
   refine#[_,rfl,nN (ρ:= [none,some^ax f,some^aB d]) ax (λx=>ax (x^^^d.getD 0 0^^^f)) d _ (λx X Y hY=>?_) rfl (small ()) λaK=>#[trivial,?_]]
   .rw[<-e9 x X] at hY
    exact#[_,rfl,_,rfl,_,gb (p:=0) lz,_,rfl,hY]
   obtain⟨I,em⟩:∃I:List Nat,I=d.map λx=>x^^^d.getD 0 0^^^f:=#[_,rfl];have emD:(d.map λx=>ax (x^^^d.getD 0 0^^^f))=I.map ax:=by rw[em,cC];rfl
   have ml:I.length=j.length:=by rw[em,aG,dl]
   have m4:∀x∈I,x<4:=λx X=>by
    rw[em] at X;let⟨y,hy,rfl⟩:=cE.mp X;exact(zI (zI (J y hy) Xg).2 f4).2
   have mg:∀k,k<d.length->I.getD k 0=d.getD k 0^^^d.getD 0 0^^^f:=λk hk=>by
    rw[em,cV,dh,cz hk,cV (l:=d) (i:=k),cz hk];rfl
   have m0:I.getD 0 0=f:=by rw[mg 0 lz,ae8,ae7]
   have me:Q.map^dW j d=Q.map^dW j I:=D2 λt O=>by
    obtain⟨_,_,_,_,_,_,M,l2⟩:=Pz g L dl J^ot^pm.mem_iff.mp O;unfold dW;rw[mg _ M,mg _ l2];generalize d.getD (cF j t) 0=a;generalize d.getD (cF j (t.2,t.1)) 0=b;generalize d.getD 0 0=c;rw[oU a c,oU b c];generalize c^^^f=x;rw[oU,ae6 b x,<-oU x,ae8,ae7]
   rw[emD];refine#[_,rfl,_,rfl,_,rfl,_,gb (p:=0) lz,r,j,Q,_,d.getD 0 0,rfl,ok,λn=>absurd pl n,λ_=>#[d,dl,J,rfl,rfl,?_]];refine#[_,rfl,by show 2<=sizeLine;decide,Br #[_,rfl,cv ?_]]
   refine#[_,rfl,_,rfl,_,rfl,r,j,Q,_,f,rfl,ok,λn=>absurd pl n,λ_=>#[I,ml,m4,m0,me,?_]];refine#[_,rfl,by show 2<=sizeLine;decide,Br #[_,rfl,cv ?_]]
   refine#[_,rfl,_,rfl,r,j,Q,I,rfl,ok,ml,m4,λt O=>?_,λ_=>#[_,rfl,?_]]
   .have t0:dW j I t=0:=by have:=aei O;exact IR this
    have tm:=FW O
    have:=List.map_inj_left.mp me t tm
    exact nz t tm^this.trans t0
   .rw[<-me]
    refine uC #[_,rfl,?_];rw[FM rfl];exact cZ #[_,rfl,_,rfl,uC^by rw[FM rfl];exact q]
  .refine#[_,rfl,_,rfl,_,rfl,r,rfl,g,M,S,λz fH=>?_]
   obtain rfl:=fH.uniq g rs;refine#[by show 3<=sizeLine;decide,trivial,?_]
   refine#[_,rfl,_,rfl,_,rfl,_,gb (p:=0) lz,r,z,Q,_,d.getD 0 0,rfl,ok,λ_=>?_,λpl=>absurd pl n];refine#[_,rfl,by show 2<=sizeLine;decide,?_]
   have ec:xY r z= .tup [.int ((r.map aB).length:Int), .int (((Q.map^dW z d).map ax).length:Int), .int ((z.map lR).length:Int)]:=by unfold xY tc;rw[aG,lmD,aG,pm.length_eq]
   rw[ec];exact MF #[_,rfl,cZ #[_,rfl,_,rfl,uC^by rw[FM rfl];exact q]]
set_option hygiene false in
local macro_rules| `(tactic|and_intros)=> `(tactic| (intro _ _ _ _ _ _ _ hl;first| (obtain⟨_,rfl⟩:=L2.Wu hl;rfl) | (obtain⟨_,_,rfl⟩:=L2.Wv hl;rfl) | (obtain⟨_,_,_,rfl⟩:=L2.abu hl;rfl) | (obtain⟨_,_,_,_,rfl⟩:=L2.acG hl;rfl) | (obtain⟨_,_,_,_,_,rfl⟩:=L2.mK hl;rfl)))
def all_mk{l:db}{w:f5}(X:K.In h)(G:h.Ns gt d)(k:d "law"\(.ref fa)) 
  
  
  
  
  
  (gC:ce K gt "Web"\(some^.ref C))
  (a0:fO K "round_from" mq)
  (a1:fO K "lands" ql)
  (a2:fO K "count" Ba)
  (a3:fO K "is_plane" qk)
  (a4:fO K "need_plane" mm)
  (a5:fO K "is_among" qj)
  (a6:fO K "alien_fault" kU)
  (a7:fO K "self_fault" mr)
  (a8:fO K "twice_fault" kY)
  (a9:fO K "lone_fault" mj)
  (J:fO K "reached_from_first" eG)
  (L:fO K "apart_fault" kW)
  (M:fO K "first_fault" kX)
  (N:fO K "sides_of" qm)
  (O:fO K "land_numbers" gX)
  (Q:fO K "tie_dyes" qo)
  (R:fO K "need_even" kB)
  (S:fO K "land_dyes" kA)
  (Y:fO K "_law_cell" vD)
  (a19:fO K "_law_mixed" se)
  (a20:fO K "_law_digits" qi)
  (a21:fO K "_law_take" vE)
  (a22:fO K "_law_tree" vG)
  (a23:fO K "_law_next" oh)
  (a24:fO K "_law_round" mh)
  (a25:fO K "_law_tie" yr)
  (a26:fO K "_law_renamed" oK)
  (a27:fO K "_law_web" yt)
  (a28:fO K "_law_lands" l8)
  (a29:fO K "_law_by_side" jX)
  (a30:fO K "_law_ties" kz)
  (a31:fO K "_law_plane" l9)
  (a32:fO K "_law_dyes" iN)
  (a33:fO K "_law_even" ku)
  (a34:fO K "_law_back" og)
  (j:Te K "law" m)
  (l35:BX K "law" "law" xN m n o p q r t u V5 x)
  (c35:bd K V5 "law"=true)
  (k35:am K^.ref m=true)
  (m0:aj K (.ref C) "__init__"\(some^.ref g))
  (f0:bu K^.ref g=true)
  (ml0:BX K "__init__" "Web.__init__" fL g y z A B E F H i I)
  (mc0:bd K i "Web.__init__"=true)
  (mk0:am K^.ref g=true)
  (m1:IA K C "many" "Web.many" qh)
  (m2:IA K C "turns" "Web.turns" vC)
  (m3:IA K C "ties" "Web.ties" lQ)
  (m4:IA K C "tied" "Web.tied" yq)
  (m5:IA K C "behind" "Web.behind" l7)
  (pgC:cr K C Str.empty=true)
  (Ua:cb K C=true)
  (poC:df K C=true)
  (saC:aj K (.ref C) "__setattr__"\(some^.builtin "object.__setattr__"))
  (mkC:d3 K C=true)
  (kpC:am K^.ref C=true)
  (nR:aj K (.ref C) "rows"\none)
  (xn:bj K (.builtin "object.__class__") "__get__"\(some^.builtin "getset_descriptor.__get__"))
  (xt:dG K^.builtin "object.__class__"\true)
  (uJ:ce K gt "MapError"\(some^.ref c))
  (Et:ce K gt "NotPlane"\(some^.ref b))
  (M4:ce K gt "Alike"\(some^.ref a))
  (vY:Xb K c b)
  (DY:Xb K c a)
  (sgM:bj K (.ref c) "__getattribute__"\(some^.builtin "type.__getattribute__"))
  (rdM:dV K c^.type "type"=true)
  (fcM:d5 K (.ref c) (.type "type") "__init__"\(.val^.builtin "ValueError.__init__"))
  (FN:Tc K b "NotPlane.__init__" gd)
  (rQ:aj K (.ref b) "counted"\none)
  (FO:KitX K b [] [a] [b])
  (OE:Tc K a "Alike.__init__" iM)
  (E5:aj K (.ref a) "one"\none)
  (Az:aj K (.ref a) "other"\none)
  (OF:KitX K a [] [b] [a])
  (aap:ce K gt "__name__"\(some^.str "law_mapdye_k72_whole_there_and_back" f))
  (cc1:ce K gt "MOST_POINTS"\(some^.int 14 Ou))
  (acf:pC K "len")
  (VX:pC K "range")
  (acg:pC K "max")
  (ach:pC K "min")
  (Iq:pC K "enumerate")
  (ack:pC K "zip")
  (S9:pC K "sorted")
  (acd:pC K "all")
  (FT:pC K "isinstance")
  (ace:pC K "int")
  (aab:pC K "bool")
  (aad:pC K "list")
  (VY:pC K "tuple")
  (acj:pC K "sum")
  (La:pC K "reversed")
  (aci:pC K "set")
  (aac:pC K "dict")
  :∃fd:hH,(∀(s:c_)(v:b_),BindsTo s fd #[[v],[]] [("_law_script",v)])/\∀base:Heap,K.In base->base.Ns gt d->FnOk l.prog w K d base fe 40 fa fd ["_law_script"]^L2.vS K:=by
 have e:=k.symm.trans^ac5 X G j;cases e;have E0:=nG (st:=fL) ml0 mc0 mk0;have e0:=E0.binds (ps:= ["self","turns"])^by and_intros
 let Z:DC:=#[K,C]
 let T:Txt Z d:=#[#[M2 X G acf,M2 X G VX,M2 X G acg,M2 X G ach,M2 X G Iq,M2 X G ack,M2 X G S9,M2 X G acd,M2 X G FT,M2 X G ace,M2 X G aab,M2 X G aad,M2 X G VY,M2 X G acj,M2 X G La],M2 X G aci,M2 X G aac, .ch X G a0^by and_intros, .ch X G a1^by and_intros, .ch X G a2^by and_intros, .ch X G a3^by and_intros, .ch X G a4^by and_intros, .ch X G a5^by and_intros, .ch X G a6^by and_intros, .ch X G a7^by and_intros, .ch X G a8^by and_intros, .ch X G a9^by and_intros, .ch X G J^by and_intros, .ch X G L^by and_intros, .ch X G M^by and_intros, .ch X G N^by and_intros, .ch X G O^by and_intros, .ch X G Q^by and_intros, .ch X G R^by and_intros, .ch X G S^by and_intros, .ch X G Y^by and_intros, .ch X G a19^by and_intros, .ch X G a20^by and_intros, .ch X G a21^by and_intros, .ch X G a22^by and_intros, .ch X G a23^by and_intros, .ch X G a24^by and_intros, .ch X G a25^by and_intros, .ch X G a26^by and_intros, .ch X G a27^by and_intros, .ch X G a28^by and_intros, .ch X G a29^by and_intros, .ch X G a30^by and_intros, .ch X G a31^by and_intros, .ch X G a32^by and_intros, .ch X G a33^by and_intros, .ch X G a34^by and_intros, .of X G j l35 c35 k35^by and_intros,#[#[pgC,Ua,poC,saC],nR],ac5 X G gC,g,_,E0,#[mkC,m0,f0,kpC],e0, .ch m1^by and_intros, .ch m2^by and_intros, .ch m3^by and_intros, .ch m4^by and_intros, .ch m5^by and_intros,#[xn,xt],c,ac5 X G uJ,b,ac5 X G Et,a,ac5 X G M4,vY.xe,DY.xe,#[ac5 X G uJ,sgM,rdM,fcM],IC.ch FN (XE.obj vY.xe)^by and_intros,rQ,FO,IC.ch OE (XE.obj DY.xe)^by and_intros,E5,Az,OF,#[f,ac5 X G aap],#[Ou,ac5 X G cc1]]
 exact#[_,λs v=> .of_eq rfl,λbase _ _=>(((UR (P:=l.prog) (w:=w) (base:=base) T).mono ∅).imp^L2.UB (Z:=Z))]
def walk{l:db}{q:fw}{a:List fA}{i:(fA->Option b_)->Heap->Prop}{c:f5->Heap->Prop}{d:DefRec}{K:Params->ad}(j:l.most\63)(k:d.params.defaults= [])
  (m:∀(w:f5)(h:Heap),c w h->(K w.params).In h)
  (F:∀(w:f5)(b:fA->Option b_)(e:Addr)(h:Heap),(K w.params).In h->h.Ns gt b->b d.name\(.ref e)->
   ∃g:hH,(∀(s:c_)(u:b_),BindsTo s g #[[u],[]] [("_law_script",u)])/\∀base:Heap,(K w.params).In base->base.Ns gt b->FnOk l.prog w (K w.params) b base fe 40 e g ["_law_script"]^vS^K w.params):
  eh q a i c l.row.toRowW d [] (λf n=>eg f n):=L2.Z1 40 ∅ j k m F
end wy
open Lean in
local macro_rules|`(universe $x*)=>do return mkNullNode (<-x.mapM λi=>`(theorem $(mkIdent (`PySem.W.Fast++i.getId)):ident:True:=⟨⟩))
universe tw7359909585172463125 tw11301550921001480407 tw4707593763783756171 tw9857960132340209027 tw15268072471512290818 tw10049863439035084541 tw5305072477148745614 tw6377790816741077347 tw985111672748310456 tw6029412662155874869 tw9282838723333571769 tw10315867656780632058 tw18394999382528017428 tw11728321447089427851 tw8558229725864825249 tw6823362286111469838 tw5305256912365627879 tw11390950907452547921 tw5852184021552190997 tw6946010146972873703 tw3609205692132843240 tw2474579515374908090 tw6374868659292034138 tw211828517793006493 tw7744811143088817353 tw11008373507272975433 tw13386009614774731042 tw13345143586756215147 tw6469047525517732371 tw4922338433386374333 tw12579766784886987254 tw12785059702054411824 tw9694833572614386401 tw9653765192597604824 tw498075705165708423 tw14601632959353391028 tw7622218951044787450 tw16832669663944983000 tw15576617473750554650 tw3329531044420973163 tw4234512227559272734 tw7737406399006994767 tw15856231409427447295 tw14094640523195672950 tw17827564344309277080 tw14234812615706973683 tw8616015227991200770 tw4453815253208050371 tw4458351028850807615 tw4030488134287197180 tw14089000874206967226 tw12803331844249180329 tw8856968157812825463 tw14117893716097405240 tw14389691727445440780 tw17809070904107224706 tw893791876146904726 tw8847612361223253915 tw8806955068796742260 tw4422852047975347407 tw7876174695669153455 tw12801935694151560841 tw6007343488741154555 tw11940074026610322746 tw5465427330449818185 tw15190301900327494518 tw5294173535453536154 tw4932665181466968405 tw9529375929487668273 tw6009142872345310544 tw7752984471381186526 tw9414029467996496860 tw13696175487734248482 tw1902409650353720697 tw7121395123906408715 tw12859791838243989713 tw13844772660433631388 tw9183915435876301234 tw2353156406152502960 tw16573549972214147263 tw6103549796031447156 tw7090835556449256523 tw17444137795175384346 tw6977402458957542520 tw14075253691870733166 tw4239879191901531216 tw691722676066392219 tw10201997250256711748 tw11711311187273164343 tw15017454670656364150 tw1472055860601443299 tw7680995211416233099 tw17648026987645355462 tw12655502825010379479 tw4374806021554896939 tw16640442705447466743 tw5733337048591191154 tw16331178275584844629 tw7694282738713165316 tw16836263045498054289 tw8569703729392450472 tw17038375940623534401 tw9407432001482806123 tw5127334423022782313 tw6612947896895569295 tw1981290800531792396 tw10026182090605184759 tw12740792643893027851 tw8055598864906745014 tw5888013511236571652 tw8628082604636776120 tw1469513797245924041 tw7921824628580506198 tw7208702849304229885 tw15623877177452353728 tw5654698431543234523 tw7550721855158220122 tw7150509958224930606 tw13961485061410279574 tw11220018179547241376 tw6255771866531435989 tw7554669357443775243 tw9329938617654073844 tw17555997593277571774 tw1444897850456467631 tw5284590370379825482 tw4153248658534078162 tw10521594523629235515 tw10265576299146010237 tw18136519890247306878 tw11766309619853581060 tw5181165077264884731 tw7777553015329505869 tw12344957637122742966 tw7924328552080095726 tw5262056683359081320 tw1018506627864060658 tw15668698943427207704 tw17500488970668598786 tw8980490997011526391 tw5039354480792077965 tw9700930274845281267 tw7820611042716605929 tw3548226891991838987 tw9247144580563528625 tw5178236211193091915 tw12175339606158737540 tw18380841189990472150 tw9004503876078257716 tw7113656653731587959 tw3221965102040206414 tw3488265430186424226 tw1138731722650986493 tw3127278314283373275 tw16000005656612557322 tw3067806912544238316 tw209188332994594679 tw6942666330203376580 tw14777831269509351736 tw11614144755215240324 tw10615517322381927187 tw17872095627772957188 tw18245961482992340406 tw14404882858813961997 tw14307833425404859171 tw5904024875706472866 tw12677108011411546557 tw10772111686793807354 tw13855173626768728117 tw13922936252727271622 tw1676493251208403661 tw8747560373745948656 tw4342462151542118679 tw7208368739477564705 tw3010828752004313773 tw214521063567644619 tw10630609994842466667 tw7732199412813029834 tw5942526662869290001 tw5367142281160353334 tw14660680891829135570 tw977475053984929310 tw11368652611006360785 tw4666906699117189038 tw1023059515252483010 tw6355442963529593553 tw4061109220454012998 tw10120191512948293066 tw18077793481972641335 tw817159497967456366 tw12759402305336072243 tw16063115865226850345 tw8266734998987532669 tw15238059362873751056 tw1292110114228059491 tw10674294698959159078 tw13777844618570167778 tw17275705123843436912 tw6337281401768443892 tw10901782386296969093 tw14984279254603620542 tw5653134703986343705 tw13441956045056680779 tw15687001713563495646 tw10162122510273211799 tw1932631868579192216 tw17394741004157167867 tw4686226973134185079 tw4219328406047677915 tw14844540268157322120 tw17252179269110867449 tw2657683967259355233 tw11805142078797443576 tw15741080125405287354 tw7509517576286249271 tw7791723481943701655 tw3139646382496717714 tw9474900637931338014 tw8612874855826016143 tw17277828769961058493 tw3004596505709751280 tw7498172468151035729 tw7224511420050759122 tw5783738910646121248 tw17761035712556827700 tw9558454433127868882 tw14187144735391661949 tw13807902335341075385 tw15795587291660652621 tw11455903326418198309 tw4544930615006119120 tw14566294304910013594 tw7608068996744717680 tw4915295692854835242 tw9908305097836548042 tw12536367106708492914 tw5960838937093015436 tw5723346794211564049 tw5674611368712475111 tw11286135085048810946 tw12490251158123606055 tw566718758677164103 tw15039919535275678702 tw16344191474479482231 tw10986785293376335933 tw10244877741654446904 tw15319126682166613926 tw736434328729346069 tw5191300559995253677 tw1613932361174978330 tw12291749920936872168 tw1336721239141151306 tw11585694293983018814 tw7654133666981074088 tw15723438977526275270 tw14965312831316831212 tw17992579855534198 tw8219417642306669784 tw8332282476728702463 tw13163131827576809191 tw2520666466017042422 tw10535705429825492458 tw9449621970724310195 tw12444468143843383939 tw9204216350291133247 tw1880876494530608449 tw6216898330171183544 tw10457117591449549692 tw12065249214118882386 tw10528353414734444588 tw9518853026032281104 tw12944654248782728898 tw1140997891131714523 tw15043374576686071994 tw1315793207289165719 tw2781594037486486116 tw17032905818052058418 tw13002754116636372107 tw1681082047607357373 tw2235421686883196242 tw16227302761832827027 tw1956462409528446242 tw1389703500373671123 tw8847959767064185843
open PySem PySem.W PyProof.Rows
set_option maxRecDepth 100000 in
set_option maxHeartbeats 0 in
theorem PySem.Challenge.cw_mapdye_k72_whole_there_and_back_holds : PySem.Challenge.rw_mapdye_k72_whole_there_and_back.Holds := by
 w_on;o_law;k_head;(case hw=>w_witness2)
 k_fill
 refine wy.walk (l:=PySem.Challenge.rw_mapdye_k72_whole_there_and_back) rfl rfl (λw h Y=>PySem.W.kIn_of Y) ?F
 case F=>
  intro w mg fa h KX G wW
  refine' wy.all_mk KX G wW ?_ ?_ ?_ ?_ ?_ ?_ ?_ ?_ ?_ ?_ ?_ ?_ ?_ ?_ ?_ ?_ ?_ ?_ ?_ ?_ ?_ ?_ ?_ ?_ ?_ ?_ ?_ ?_ ?_ ?_ ?_ ?_ ?_ ?_ ?_ ?_ ?_ ?_ ?_ ?_ ?_ ?_ ?_ ?_ ?_ ?_ ?_ ?_ ?_ ?_ ?_ ?_ ?_ ?_ ?_ ?_ ?_ ?_ ?_ ?_ ?_ ?_ ?_ ?_ ?_ ?_ ?_ ?_ ?_ ?_ ?_ ?_ ?_ ?_ ?_ ?_ ?_ ?_ ?_ ?_ ?_ ?_ ?_ ?_ ?_ ?_ ?_ ?_ ?_ ?_ ?_ ?_ ?_
  all_goals (try (first| (show _=_;k_is) | (refine' L2.dfH ?_ ?_ ?_ ?_<;>(try (show _=_;k_is))) | (refine' L2.mfH ?_ ?_ ?_ ?_ ?_<;>(try (show _=_;k_is))) | (refine' L2.KitX.mk ?_ ?_ ?_ ?_<;>repeat' (first|exact L2.Tj| (refine' L2.OT ?_ ?_) | (show _=_;k_is) |rfl)) | (refine' L2.VU ?_ ?_ ?_ ?_ ?_ ?_ ?_ ?_<;>(try (first| (show _=_;k_is) |rfl))) | (refine' L2.acn ?_ ?_ ?_ ?_ ?_ ?_ ?_ ?_<;>(try (first| (show _=_;k_is) |rfl))) | (refine' L2.jnH ?_ ?_ ?_ ?_ ?_ ?_ ?_ ?_<;>(try (show _=_;k_is))) | (refine' L2.Tg.mk ?_ ?_ ?_ ?_<;>(try (show _=_;k_is)))))



