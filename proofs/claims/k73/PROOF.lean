import PyProof.Rows.All
import Wide.All
import OpenK.AllK
import Wide.FinOn
import Lean
import PyProof.EqAt
import PyProof.EqKinds
import PyProof.TupleCall
import PyProof.RaisesMany
import KE.KSortTup
import PyProof.NeKinds
import PyProof.SetKind
import PyProof.SetRoads
import PyProof.SetNew
import PyProof.WalksS
import PyProof.CollectWalk
import PyProof.TupleKey
import PyProof.IsRules
import PyProof.InstEq
import KE.KRevIter
import PyProof.FitsBits
import PyProof.P3Eq
import PyProof.ListRange
import PyProof.RulesAs
import PyProof.NsDelKeeps
import PyProof.PassesOwn
import PyProof.FString
import PyProof.MeetsSeq
import PyProof.DictRoadsH
import PyProof.DictTruth
import PyProof.MinMaxWalk
import KE.KItemsList
import PyProof.DictCompW
import PyProof.AttrMissHeap
import KE.KDictOf
import PySem.Challenge.RW_mapdye_k73_whole_any_ties_dyes
set_option compiler.extract_closed false
local macro_rules|`(tactic|subst_eqs)=>`(tactic|first|exact Or.inl rfl|exact Or.inr rfl|exact Or.inr (Or.inl rfl)|exact Or.inr (Or.inr rfl)|assumption)
local macro_rules|`(tactic|bv_omega)=>`(tactic|exact ⟨rfl,rfl,rfl,by decide+kernel,rfl,by decide+kernel,by decide+kernel⟩)
local macro_rules|`(#[$x,$y,*])=>`(⟨$x,$y,*⟩)
local macro_rules|`(#[$x])=>`(⟨$x⟩)
local macro_rules|`(tactic|exists $x,*)=>`(tactic|refine⟨$x,* ,?_⟩)
local macro_rules|`(())=>`((by first|assumption|exact Nat.le_of_not_lt ‹_›|exact Nat.le_of_lt ‹_›|exact Nat.le_refl _|exact Nat.le_of_lt_succ ‹_›|lia))
local macro_rules|`(∅)=>`((by decide))
local macro_rules|`(~~~$x)=>`((by simpa using $x))
local macro_rules|`($a\$b)=>`($a=some $b)
local macro_rules|`($a<<<$b)=>`(rightact% HPow.hPow $a $b)
local macro_rules|`($f $x* ^$a)=>`($f $x* $a)|`($f^$a)=>`($f $a)
open Lean.Parser.Tactic in
local macro_rules|`(tactic|let#[$[$x],*]:=$e)=>do
 let p<-x.mapM λ x=>if x.raw.isIdent then `(rcasesPatLo|$(⟨x.raw⟩):ident) else `(rcasesPatLo|_)
 `(tactic|obtain⟨$[$p],*⟩:=$e)
set_option genInjectivity false
set_option genSizeOf false
section
open PySem
abbrev eT(x:Str):Prop:=(x==("__debug__":Str))=false
abbrev eR(x:Str):Prop:=(x==("__classdict__":Str))=false
abbrev eI(e:Expr)(s:List Expr)(v:Env):Prop:=starEach (e::s) v=(false,eval e v)::starEach s v
abbrev eE(o:Expr)(n:Str)(v:Env):Prop:=attributeBase o n v (eval o v)=eval o v
abbrev eB(p:Pos)(s:List Expr)(v:Env):Prop:=(backTo p (starEach s v)).any (·.1)=false
abbrev fX(p:Pos)(s:List Expr)(v:Env):Prop:=((backTo p (starEach s v)).all (λx=>!x.1)&&(backToKw p (keywordEach [] v)).all (λx=>x.1.isSome)&&decide (s.length+([]:List Keyword).length+(if ([]:List Keyword).isEmpty then 0 else 1)<30))=true
end
open PySem renaming wpAny_bind->a_,Value->b_,Shared->c_,starEach->d_,model->ei,wpAny->e_,Program->ff,Str->fC,intKind->fE,mainGlobals->f5,World->f8,foldedSetIterable->f_,Expr->gc,tupleKeyHash->gd,compareOp->gi,eval->gj,bootBuiltins->gl,wpAny_pure->gm,Around->gs,IsTupleKey->gH,backTo->gM,codeAny->g6,wpAny_loadPart'->g_,swapsWith->hB,attributeBase->hH,FuncData->hQ,assignEach->hX,wpAny_loadPart_at->h_,wpAny_isSubtype_exc->il,holding->im,wpAny_mono->io,keywordEach->ip,setSearchFrom->iq,tupleKind->ix,binaryOp->i_,excClassObj->jc,sysModules->jk,standAt->jo,ZipApart->jq,Pos->js,behindInMarks->jt,backToKw->jB,NameKind->jT,ExceptHandler->jX,letOwnedTupleGo->j4,Keyword->j_,sliceBounds->ka,unsupported->kg,wpAny_newObj_type->km,newFunctionEnv->kv,ofAClassStatement->kD,assign->k8,wpAny_call->k_,typeLookup->la,checkBuiltinCall->lc,swapsWithSole->lf,swappedStores->li,rawInt->lp,Sem->lD,codeAny_mono->lO,relabel->lR,ExcBaseFacts->lS,getMethod->l_,noteFrame->mN,setFlight->m_,pyNext->ni,Result->no,wpAny_standAt->nq,PassesOwn->nr,bindArgs->nt,SetTable->ny,entryOfKey->nz,IsPair->nC,atKey->nP,Env->nQ
open PyProof.Rows renaming arrOf->ey,pendingOf->fb,SortSt->ge,seqObj->hT,elem'->ii,failedOf->jd,SortKind->jg,setPending->jn,IntsAre->jp,reverseSlice'->ln,envOfC->lr,entry_list_sort->ls,AllBare->lv,slot_list_sort->nn,wpS->nL,setArr->nO
open PySem.W renaming Frag->ac,findIn->ad,keepIn->am,nsIn->aN,codeIn->bi,specialIn->bv,emptyDict->bx,kitOne->b5,isFn->cb,fnOf->ce,instObj->cm,hasDictIn->cq,mroIn->cr,plainGet->cI,OpenLaw->cP,lookIn->c4,kitAny->dc,plainOver->df,methodObj->dn,takesIn->dz,takerIn->dL,readsIn->dS,makesIn->dV,findCls->d3,instIn->d6,clsIn->eg,WalkO->eh
open List renaming range->aj,replicate->ak,lookup->bj,Nodup->cv,length->cO
open PySem renaming Spec->bd,Within->cE,SetTable->d7,call->ee
open Array renaming replicate->d5
abbrev mo:=@if_pos
abbrev tz:=@if_neg
abbrev FM:=@decide_eq_true
abbrev GE:=@decide_eq_false
abbrev KB:=@congrArg
abbrev KF:=@of_decide_eq_true
abbrev Pi:=@if_false
abbrev SB:=@of_decide_eq_false
abbrev Wp:=@beq_eq_false_iff_ne
abbrev adR:=@beq_iff_eq
abbrev adW:=@if_true
abbrev aed:=@getElem?_pos
abbrev aeI:=@or_false
abbrev aeO:=@decide_eq_decide
abbrev afq:=@decide_eq_true_iff
abbrev afE:=@bne_self_eq_false
abbrev afV:=@beq_self_eq_true
open PySem renaming wpAny_pure->ir,wpAny_holding->IR,wpAny_truthy_bool->SC,wpAny_Call_Name_kw->adv,wpAny_standAt->adI,wpAny_call_entry->adK,wpAny_field->adL,wpAny_newObj_type->adN,wpAny_loadPart_at->adO,wpAny_isSubtype_exc->adP,codeAny_mono->adQ,codeAny_builtin->adU,mem_of_lookup->adX,boot_len->adY,wpAny_rule->adZ,call_meets->ad0,wpAny_passesOwn->ad1,plainId_quiet->ad2,wpAny_setState_of->ad3,wpAny_call->ad4,wpAny_comprehension_free->ad5,sizeLine_eq->aec,wpAny_seqItems->aee,codeAny_call_builtin->aeg,wpAny_attempt->aeh,codeAny_of_tree->aek,wpAny_callSpecial?_slot->aeu,wpAny_nextOf_list_item->aeE,wpAny_newList->aeH,wpAny_pyIter_zip->aeJ,builtinLookup_eq_fast->aeU,plainObj_wpAny_Assign_Attribute->aeV,wpAny_execs_nil->aeY,wpAny_typeOf->ae0,wpAny_specialOf->ae7,wpAny_updateSeq->afb,wpAny_loadPart->afg,wpAny_of_eq->afm,wpAny_lookBehind->afN,pastItsLine_dict->afO,wpAny_askSetting->afT,wpAny_forIn_list->afX,typeLookup_type->agc,seqIndex_of->agf,wpAny_getItem_list_neg->agg,wpAny_Call_method_late->agh,codeAny_compStart_list->agi,fitsIndex_both->ago,wpAny_newTuple->agp,wpAny_setField->agq,wpAny_nsSet1->agt,codeAny_loop->agv
open PySem.Heap renaming get?_push_of_some->AC,lt_size->Da,get?_push_size->GM,get?_update_other->Os,get?_update_self->P3,get?_update_ne->ad8,size_update->aef,size_push->aes,get?_push_ne->aew
open Option.some renaming inj->Do
open PyProof.Rows renaming wpS_bind->Fk,wpS_pure->FB,callWith_type1->PP,wpS_mono->SZ,wpS_forRange->UF,wpS_get->aei,wpS_modify->aet,subscriptTail_builtinR->aeB,wpS_lift->aeL,slot_tuple_getitem->aeW,callWith_builtin1->aeZ,args_list_sort->afi,assignInOrder_cons->afn,listUpdate_at->afy,size_push'->afH,seqEpoch_at->agj,sortedAll_old->agr,sortedAll_at->agw,plain_sorted->agx,entry_sorted->agy,args_sorted1->agz,collect_list->agA
open Classical renaming byContradiction->FS
open PySem.PassesOwn renaming never->Gc,leaving->aeA
open PySem.F renaming plainAttrs_list->GT,plain_extend_loop->adT,slot_list_insert->ad6,type_list_insert->ad7,slot_list_index->ad9,type_list_index->aea,slot_list_append->aeq,type_list_append->aer,slot_zip_next->afa,excBase_ValueError->afz,entry_extend_loop->afK,args_tuple_add_2->afQ,slot_list_extend->afZ,type_list_extend->af0,entry_tuple_add->af4,slot_tuple_add->age
open PySem.W renaming mg_none_of->KM,mg_of->On,kia_one->UV,callWith_K->aeb,methodCall_KW->aeQ,plainGet_of->aff,any_some->afU,cellsFrom_some->agd
open PyProof.Rows.KeyOrd renaming kle_trans->M2,kle_of_klt->SL,kle_refl->adJ,klt_of_kle_of_klt->aeo
open List.Pairwise renaming imp_of_mem->W1
open PySem.Around renaming under_plainId->adM
open Prod renaming ext->adS
open List.Perm renaming eq_of_pairwise->adV
open Prod.mk renaming inj->aej
open PySem.Calls renaming call_function_entry->ael,callWith_builtin->aeC,spliced_cons->afp,Name_function_global->afu,spliced_nil->afD
open PySem.SeqAt.EqAt renaming int_int->aem
open PySem.Obj renaming data_mapFields->aen,isFreed_of_fields->aeR
open Array renaming size_setIfInBounds->aep,getElem?_setIfInBounds->afj,toList_inj->afS,toList_filterMap->agl
open List renaming reverse_cons->aev,findIdx_cons->aez,pairwise_lt_range->aeD,getElem_cons_drop->aeF,map_take->aeG,take_succ_eq_append_getElem->aeM,getElem_map->aeN,findIdx_lt_length_of_exists->aeP,pairwise_reverse->aeS,getElem?_toArray->aeT,eraseIdxIfInBounds_toArray->aeX,getElem?_append->ae1,range_succ->ae3,reverse_reverse->ae5,mem_of_mem_take->ae6,map_set->ae9,filterMap_cons->afe,countP_eq_length_filter->afk,count_set->afl,mem_filterMap->afo,find?_eq_none->afs,all_cons->afv,any_cons->afw,map_drop->afx,reverse_perm->afF,map_inj_left->afG,mem_of_find?_eq_some->afI,count_replicate_self->afJ,getElem?_zip_eq_some->afL,getElem_inj->afM,mem_flatMap->afR,any_eq_true->afY,length_eq_zero_iff->af6,of_mem_zip->af8,foldl_cons->af9,forIn_cons->aga,getElem_replicate->agm
open Nat renaming lt_succ_of_lt->aex,lt_trichotomy->aey,mod_self->ae2,le_total->afc,xor_zero->afd,lt_succ_self->afP,xor_comm->af3,add_sub_cancel_left->af7,le_of_eq->agu,lt_trans->agC
open Option renaming bind_some->aeK,getD_some->af2,bind_eq_some_iff->af5
open Bool renaming and_eq_true_iff->ae4,or_eq_true->ae8,and_false->afh,not_true->afB,false_and->agn,or_false->ags,or_true->agD
open PySem.Code renaming quiet_builtin->afr
open Int renaming emod_lt_of_pos->aft,natCast_emod->af1,emod_nonneg->agb
open PySem.MeetsSeq3 renaming plain_eq_loop->afA
open List.cons renaming inj->afC
open PySem.SetTable renaming toList_insertAt->afW,insertAt_perm->agk
open Nat.succ renaming inj->agB
local macro_rules|`($x<|>$y)=>`(autoParam $x $y)
theorem wp0(h:True:=by rfl):True:=h
def zn:Lean.Syntax:=wp0._auto_1
theorem wp1(h:True:=by decide):True:=h
def zm:Lean.Syntax:=wp1._auto_1
theorem wp2(h:True:=by subst_eqs):True:=h
def yy:Lean.Syntax:=wp2._auto_1
theorem wp3(h:True:=by intro _;rfl):True:=h
def xz:Lean.Syntax:=wp3._auto_1
theorem wp4(h:True:=by decide+kernel):True:=h
def xx:Lean.Syntax:=wp4._auto_1
theorem wp5(h:True:=by first|decide|lia):True:=h
def xa:Lean.Syntax:=wp5._auto_1
theorem wp6(h:True:=by intro _ _;rfl):True:=h
def ww:Lean.Syntax:=wp6._auto_1
theorem wp7(h:True:=by with_unfolding_all rfl):True:=h
def wv:Lean.Syntax:=wp7._auto_1
theorem wp8(h:True:=by exact λ_ _=>rfl):True:=h
def wu:Lean.Syntax:=wp8._auto_1
theorem wp9(h:True:=by intros;rfl):True:=h
def wr:Lean.Syntax:=wp9._auto_1
theorem af{g:Prop}(h:∀G:Prop,(g->G)->G):g:=h g id
set_option hygiene false in
local macro_rules|`(tactic|rfl')=>`(tactic|refine af fun G0 k0=>?_)
set_option hygiene false in
local macro_rules|`(tactic|ac_rfl)=>`(tactic|refine k0 ?_)
local macro_rules|`(tactic|nofun)=>`(tactic|decide+kernel)
local macro_rules|`(!$x)=>`(List $x)
local macro_rules|`(tactic|apply $e)=>`(tactic|refine $e)
local macro_rules|`(tactic|show $e)=>`(tactic|exact $e)
theorem Y{a:α}:a=a:=rfl
open Option renaming none->V,some->J
open Bool renaming true->L,false->At
open PySem renaming Addr->Ad
open Decidable renaming decide->AT
local macro_rules(kind:=Lean.Parser.Command.declaration)|s=>match s.getPos? with|none=>Lean.Macro.throwUnsupported|_=>do
 let m<-`(command|noncomputable def x:=0)
 pure ((if s[1].isOfKind ``Lean.Parser.Command.definition&&s[0].getArgs.all (·.isNone) then s.setArg 0 m.raw[0] else s).rewriteBottomUp (·.setInfo .none))
noncomputable section
set_option bootstrap.genMatcherCode false
set_option Elab.async false
set_option linter.all false
set_option maxRecDepth 100000
abbrev aG:= @List.length_map
abbrev bT:= @List.getElem?_eq_getElem
abbrev cy:= @List.getD_eq_getElem?_getD
abbrev cV:= @List.getElem?_eq_some_iff
abbrev cG:= @List.mem_of_getElem?
abbrev c5:= @List.mem_cons_self
abbrev bu:= @Nat.le_refl
abbrev dj:= @List.length_append
abbrev eS:= @List.mem_cons_of_mem
abbrev dF:= @List.getElem?_map
abbrev b8:= @List.size_toArray
abbrev eF:= @List.getElem?_eq_none
abbrev cZ:= @Nat.lt_of_lt_of_le
abbrev dE:= @Array.length_toList
abbrev c9:= @Bool.false_ne_true
abbrev cF:= @List.length_cons
abbrev cn:= @List.map_append
abbrev bQ:= @List.mem_cons
abbrev bP:= @Nat.ne_of_lt
abbrev cM:= @List.mem_append
abbrev bS:= @List.mem_map
abbrev b9:= @List.map_cons
abbrev eO:= @List.mem_singleton
abbrev fA:= @Bool.false_eq_true
abbrev gb:= @List.mem_append_right
abbrev gE:= @Array.getElem?_toList
abbrev cQ:= @List.map_map
abbrev jj:= @List.getElem?_append_left
abbrev fB:= @List.append_nil
abbrev ko:= @List.getElem?_append_right
abbrev fI:= @List.length_set
abbrev gX:= @List.pairwise_map
abbrev jm:= @List.getElem?_of_mem
abbrev eQ:= @Nat.zero_le
abbrev gf:= @List.mem_range
abbrev jb:= @List.length_range
abbrev je:= @List.nodup_append
abbrev kq:= @List.mem_append_left
abbrev kr:= @List.getElem?_set_ne
abbrev l9:= @List.getElem?_set_self
abbrev ku:= @Array.toList_append
abbrev mh:= @List.take_append_drop
abbrev jr:= @List.length_take
abbrev j5:= @List.getElem_mem
abbrev kz:= @List.append_assoc
abbrev kA:= @List.getElem?_set
abbrev lH:= @Int.toNat_natCast
abbrev ju:= @List.nodup_nil
abbrev tJ:= @Array.getElem?_eq_getElem
abbrev iN:= @Nat.zero_add
abbrev lI:= @Nat.le_of_not_lt
abbrev lJ:= @List.mem_flatten
abbrev kB:= @List.mem_filter
abbrev mj:= @List.flatten_cons
abbrev xk:= @List.perm_ext_iff_of_nodup
abbrev jf:= @Nat.le_trans
abbrev lK:= @List.length_nil
abbrev xl:= @List.drop_eq_getElem_cons
abbrev nN:= @List.ext_getElem?
abbrev tK:= @List.length_pos_of_mem
abbrev tL:= @List.take_of_length_le
abbrev kC:= @Nat.lt_irrefl
abbrev xp:= @Int.eq_ofNat_of_zero_le
abbrev j6:= @Nat.ne_of_gt
abbrev tM:= @List.pairwise_append
abbrev rq:= @Nat.lt_of_le_of_lt
abbrev pI:= @List.length_drop
abbrev zI:= @List.getElem?_replicate
abbrev zJ:= @List.getElem?_cons_succ
abbrev C1:= @Array.getElem?_eq_some_iff
abbrev pJ:= @List.nil_append
abbrev pK:= @List.nodup_cons
abbrev C2:= @List.pairwise_iff_getElem
abbrev xq:= @List.getElem?_range
abbrev xr:= @List.flatten_append
abbrev zK:= @List.length_replicate
abbrev C3:= @List.idxOf_lt_length_iff
abbrev pL:= @Nat.xor_assoc
abbrev C4:= @List.drop_of_length_le
abbrev C5:= @List.drop_eq_nil_of_le
abbrev zL:= @List.map_congr_left
abbrev tN:= @Nat.min_eq_left
abbrev xu:= @List.lookup_cons
abbrev xv:= @Nat.mod_eq_of_lt
abbrev xw:= @List.take_length
abbrev Fl:= @List.set_eq_of_length_le
abbrev zM:= @Bool.eq_false_iff
abbrev Kq:= @Array.getD_eq_getD_getElem?
abbrev C6:= @List.replicate_succ
abbrev C7:= @List.reverse_append
abbrev pM:= @Nat.le_succ
abbrev rz:= @Nat.le_of_lt
abbrev Fm:= @Option.map_eq_some_iff
abbrev Kr:= @List.nodup_iff_pairwise_ne
abbrev zN:= @List.not_mem_nil
abbrev zO:= @List.mem_reverse
abbrev zP:= @Nat.min_eq_right
abbrev xy:= @Nat.mul_le_mul
abbrev C8:= @List.getElem_idxOf
abbrev tO:= @Nat.sub_self
abbrev uV:= @Array.toList_push
abbrev rk:= @List.take_succ
abbrev uW:= @Nat.max_eq_right
abbrev yL:= @List.getElem?_drop
abbrev yM:= @Array.size_extract
abbrev CU:= @List.length_singleton
abbrev CV:= @List.mem_iff_getElem?
abbrev Hw:= @Array.perm_iff_toList_perm
abbrev yN:= @List.flatMap_cons
abbrev CW:= @Array.toList_reverse
abbrev uX:= @List.take_zero
abbrev yO:= @Bool.and_eq_true
abbrev yP:= @List.filter_cons
abbrev rm:= @List.nodup_range
abbrev Hx:= @List.getElem?_take_of_lt
abbrev yQ:= @List.all_eq_true
abbrev CY:= @List.length_pos_iff
abbrev Hy:= @List.pairwise_singleton
abbrev yR:= @Option.map_some
abbrev yS:= @Nat.max_eq_left
abbrev Hz:= @List.range_succ_eq_map
abbrev uY:= @Nat.zero_xor
abbrev HA:= @List.length_filter_le
abbrev M4:= @List.sublist_flatten_of_mem
abbrev M5:= @List.idxOf_lt_length_of_mem
abbrev rp:= @Nat.mod_lt
abbrev CZ:= @Bool.eq_iff_iff
abbrev M6:= @List.mem_or_eq_of_mem_set
abbrev yT:= @List.map_nil
abbrev yU:= @Nat.xor_self
abbrev HB:= @Array.forIn_toList
abbrev HC:= @List.getElem_range
namespace L2
open PySem PySem.Spec PyProof.Rows
abbrev Key:=Sum Int Str
def SN:Key->Value->Bool
 | .inl k,v=>Value.isInt k v
 | .inr x,v=>Value.isStrOf x v
def acg(w:World):Key->Int
 | .inl k=>hashInt k
 | .inr x=>hashStr w x
theorem d9:∀{k:Key}{v:Value},SN k v=L->(∃i t,k=Sum.inl i/\v=Value.int i t)\/(∃x t,k=Sum.inr x/\v=Value.str x t)
 | .inl i,v,h=>by
  let#[t,e]:=Value.isInt_shape (k:=i) (v:=v) h;show .inl #[i,t,Y,e]
 | .inr x,v,h=>by
  let#[t,e]:=Value.isStrOf_shape (x:=x) (v:=v) h;show .inr #[x,t,Y,e]
def Wf(a b:Int):AT ((Sum.inl a:Key)=Sum.inl b)=(a==b):=by
 by_cases e:a=b
 .subst e;simp
 .have h:¬(Sum.inl a:Key)=Sum.inl b:=λq=>e^Sum.inl.inj q
  rw[GE h];show(Wp.mpr e).symm
def Wj(a b:fC):AT ((Sum.inr a:Key)=Sum.inr b)=AT (a=b):=by
 by_cases e:a=b
 .subst e;simp
 .have h:¬(Sum.inr a:Key)=Sum.inr b:=λq=>e^Sum.inr.inj q
  rw[GE h,GE e]
def Wg(a:Int)(b:fC):AT ((Sum.inl a:Key)=Sum.inr b)=false:=GE^λq=>nomatch q
def Wi(a:fC)(b:Int):AT ((Sum.inr a:Key)=Sum.inl b)=false:=GE^λq=>nomatch q
def BH(prog:Program)(w:World):PySem.KeyKind prog w Key where
 is:=SN
 hash:=acg w
 inj:=λv a b g f=>by
  rcases d9 g with ⟨i,t,rfl,rfl⟩ | ⟨x,t,rfl,rfl⟩
  .rcases d9 f with ⟨j,u,rfl,e⟩ | ⟨y,u,rfl,e⟩
   .injection e with c _;rw[c]
   .show nomatch e
  .rcases d9 f with ⟨j,u,rfl,e⟩ | ⟨y,u,rfl,e⟩
   .show nomatch e
   .injection e with c _;rw[c]
 byValue:=λk v h=>by
  rcases d9 h with ⟨i,t,rfl,rfl⟩ | ⟨x,t,rfl,rfl⟩<;>rfl
 pyHash:=λd h=>by
  rcases d9 d with ⟨i,t,rfl,rfl⟩ | ⟨x,t,rfl,rfl⟩
  .show wpAny_pyHash_int h
  .show wpAny_pyHash_str h
 eqBool:=λl d h=>by
  rcases d9 l with ⟨i,t,rfl,rfl⟩ | ⟨x,t,rfl,rfl⟩
  .rcases d9 d with ⟨j,u,rfl,rfl⟩ | ⟨y,u,rfl,rfl⟩
   .rw[Wf] at h;show wpAny_eqBool_int h
   .rw[Wg] at h;show SeqAt.EqAt.int_str i t y u _ _ _ _ h
  .rcases d9 d with ⟨j,u,rfl,rfl⟩ | ⟨y,u,rfl,rfl⟩
   .rw[Wi] at h;show SeqAt.EqAt.str_int x t j u _ _ _ _ h
   .rw[Wj] at h;show wpAny_eqBool_str h
 «strs»:=λk x t v h=>by
  rcases d9 h with ⟨i,u,rfl,e⟩ | ⟨y,u,rfl,e⟩
  .show nomatch e
  .injection e with c _
   subst c;cases v<;>rfl
set_option genInjectivity true in
inductive V' where
 |aT|bl (b:Bool) |int (i:Int) |str (x:Str) |zT (b:Array UInt8) |K0 (b:UInt64) |ref (a:Ad) |ty (n:String)
 deriving DecidableEq
def RelV:V'->Value->Prop
 | .aT,u=>u=Value.none
 | .bl b,u=>u=Value.bool b
 | .int i,u=>∃t,u=Value.int i t
 | .str x,u=>∃t,u=Value.str x t
 | .zT b,u=>∃t,u=Value.bytes b t
 | .K0 b,u=>∃t,u=Value.float b t
 | .ref a,u=>u=Value.ref a
 | .ty n,u=>u=Value.type n
abbrev Vals:!V'->!Value->Prop:=Paired RelV
theorem Vals.length{xs:!V'}{a:!Value}(r:Vals xs a):xs.length=a.length:=Paired.length r
def Vals.get{a:!V'}{i:Nat}{x:V'}(r:Vals a b)(e:a[i]?\x):∃u,b[i]?\u/\RelV x u:=by
 induction r generalizing i with
 |nil=>cases(show V\_ from e)
 |cons q _ c=>
  cases i with
  |zero=>cases e;show#[_,Y,q]
  |succ i=>show c e
theorem Vals.set{x:V'}(r:RelV x u)(i:Nat)(q:Vals a b):Vals (a.set i x)^b.set i u:=by
 induction q generalizing i with
 |nil=>show .nil
 |cons q t c=>
  cases i with
  |zero=>show .cons r t
  |succ i=>show .cons q^c i
def Vals.append(r:Vals a c)(s:Vals b d):Vals (a++b) (c++d):=by
 induction r with
 |nil=>show s
 |cons q _ e=>show .cons q e
theorem Vals.take{xs:!V'}(n:Nat)(r:Vals xs a):Vals (xs.take n)^a.take n:=by
 induction r generalizing n with
 |nil=>cases n<;>show .nil
 |cons q _ b=>
  cases n with
  |zero=>show .nil
  |succ n=>show .cons q^b n
theorem Vals.drop{xs:!V'}(n:Nat)(r:Vals xs a):Vals (xs.drop n)^a.drop n:=by
 induction r generalizing n with
 |nil=>cases n<;>show .nil
 |cons q t b=>
  cases n with
  |zero=>show .cons q t
  |succ n=>show b n
def lT:Option V'->Option Value->Prop
 |some v,J u=>RelV v u
 |none,V=>True
 |_,_=>False
def KV{a:Type}:!(a×V')->!(a×Value)->Prop:=Paired λ(p:a×V')(q:a×Value)=>p.1=q.1/\RelV p.2 q.2
def kV:Key->V'
 | .inl i=> .int i
 | .inr x=> .str x
inductive HO where
  |lst (xs:!V')
  |tup (xs:!V')
  |dK (fR:!(Key×V')) |dT (fR:!(!Key×V'))
  |set (S:Int->Bool) (n:Nat)
  |ins (C dx:Ad) (fs:!(Str×V'))
  |own (x:Ad)
  |xd (fs:!(Str×V'))
  |met (f x:Ad)
  |rng (lo hi:Int)
  |tX (o:Obj) (u:HO)
  |J7 (ps:Array Value)
  |ext (φ:Heap->Prop)
abbrev Hp:=Ad->Option HO
def upd(H:Hp)(a:Ad)(o:HO):Hp:=λb=>if b=a then J o else H b
def ah{H:Hp}{a:Ad}{o:HO}:upd H a o a\o:=by unfold upd;rw[mo rfl]
def ao{H:Hp}{a b:Ad}{o:HO}(h:b≠a):upd H a o b=H b:=by unfold upd;rw[tz h]
def q0:upd (upd H a o) a u=upd H a u:=by
 funext b;unfold upd;split<;>rfl
def av{H:Hp}{a b:Ad}(h:H a\o)(h':H b=V):a≠b:=by
 intro e;subst e;rw[h] at h';cases h'
section
variable (P:Program) (w:World)
def bR(H:Hp)(h:Heap)(a:Ad):HO->Prop
 | .lst c=>c.length<=sizeLine/\∃(b:!b_)(n:Nat),Vals c b/\h.get? a\{cls:= .type "list",data:= .seq b.toArray n}
 | .tup c=>c.length<=sizeLine/\∃b:!b_,Vals c b/\IsTup h a b.toArray
 | .dK e=>e.length<=sizeLine/\(a==jk)=At/\∃j,KV e j/\h.DictOf (BH P w) a j
 | .dT e=>e.length<=sizeLine/\(a==jk)=At/\∃c:!(!Key×Ad×b_),
   Paired (λ(p:!Key×V')(q:!Key×Ad×b_)=>p.1=q.1/\H q.2.1\(.tup^p.1.map kV)/\RelV p.2 q.2.2) e c/\
   ∃o k r,h.get? a\o/\o.ExactDict/\o.data= .dict k r/\k.toList=c.map^nz^ix^BH P w/\(c.map (·.1)).Nodup
 | .set S n=>h.SetOf (fE P w) a S n
 | .ins C g fs=>H g\(.own a)/\fs.length<=1000/\g≠a/\h.get? a\(cm C g)/\
   ∃d,h.Ns1 g d/\(∀f,lT (fs.lookup f)^d f)/\cE d^fs.map (·.1)
 | .own _=>∃o,h.get? a\o
 | .xd fs=>∃d,h.Ns1 a d/\∀f,lT (fs.lookup f)^d f
 | .rng lo s=>∃t u v,h.get? a\{cls:= .type "range",data:= .fields [.int lo t, .int s u, .int 1 v].toArray}
 | .tX o u=>h.get? a\o/\bR H h a u
 | .J7 y=>h.get? a\{cls:= .none,data:= .fields y}
 | .met f x=>h.get? a\(dn (.ref f)^.ref x)
 | .ext i=>i h/\(∃o,h.get? a\o)/\∀l m:Heap,i l->(∀o,l.get? a\o->m.get? a\o)->i m
def iB(H:Hp)(h:Heap):Prop:=∀a o,H a\o->bR P w H h a o
end
section
theorem bR.lt(x:bR P w H h a o):a<h.objs.size:=by
 cases o with
 |lst b=>let#[_,_,_,_,e]:=x;show Da e
 |tup b=>let#[_,_,_,p]:=x;show p.lt
 |dK c=>let#[_,_,_,_,o,_,_,e,_]:=x;show Da e
 |dT c=>let#[_,_,_,_,o,_,_,e,_]:=x;show Da e
 |set S n=>let#[o,_,_,_,e,_]:=x;show Da e
 |ins C d fs=>let#[_,_,_,e,_]:=x;show Da e
 |own y=>let#[_,e]:=x;show Da e
 |xd fs=>obtain⟨_,⟨_,_,_,e,_⟩,_⟩:=x;show Da e
 |rng lo g=>let#[_,_,_,e]:=x;show Da e
 |tX i u=>let#[e,_]:=x;show Da e
 |J7 j=>show Da (show h.get? a\_ from x)
 |met f y=>show Da (show h.get? a\_ from x)
 |ext k=>obtain⟨_,⟨_,e⟩,_⟩:=x;show Da e
def Paired.ack(r:Paired F c d)(f:∀a b,F a b->G a b):Paired G c d:=by
 induction r with
 |nil=>show .nil
 |cons q _ i=>show .cons (f _ _ q) i
theorem bR.pG(x:bR P w H h a o)(k:∀b u,(b=a\/H b\(.own a))->h.get? b\u->h'.get? b\u)
  (E:∀b,H b\(.own a)->H' b\(.own a)) (F:∀b m,H b\(.tup m)->H' b\(.tup m)):bR P w H' h' a o:=by
 induction o with
 |lst m=>let#[z,l,n,r,e]:=x;show#[z,l,n,r,k _ _ (.inl rfl) e]
 |tup m=>let#[z,l,r,g,e,c]:=x;show#[z,l,r,g,k _ _ (.inl rfl) e,c]
 |dK G=>let#[z,y,I,r,g,i,j,e,c]:=x;show#[z,y,I,r,g,i,j,k _ _ (.inl rfl) e,c]
 |dT G=>
  let#[z,y,m,r,g,i,j,e,c]:=x;show#[z,y,m,Paired.ack r λp q z=>#[z.1,F _ _ z.2.1,z.2.2],g,i,j,k _ _ (.inl rfl) e,c]
 |set S n=>let#[g,i,j,t,e,c]:=x;show#[g,i,j,t,k _ _ (.inl rfl) e,c]
 |ins C N fs=>
  rfl';obtain⟨d,z,ne,e,s,⟨A,i,j,L',c⟩,r⟩:=x;ac_rfl;show#[E _ d,z,ne,k _ _ (.inl rfl) e,s,#[A,i,j,k _ _ (.inr d) L',c],r]
 |own y=>let#[g,e]:=x;show#[g,k _ _ (.inl rfl) e]
 |xd fs=>obtain⟨s,⟨A,i,j,e,c⟩,r⟩:=x;show#[s,#[A,i,j,k _ _ (.inl rfl) e,c],r]
 |rng lo Q=>let#[t,u,v,e]:=x;show#[t,u,v,k _ _ (.inl rfl) e]
 |tX g u M=>let#[e,q]:=x;show#[k _ _ (.inl rfl) e,M q]
 |J7 B=>
  have e:h.get? a\{cls:= .none,data:= .fields B}:=x;change h'.get? a\{cls:= .none,data:= .fields B};show k a _ (.inl rfl) e
 |met f y=>
  have e:h.get? a\(dn (.ref f)^.ref y):=x;change h'.get? a\(dn (.ref f)^.ref y);show k a _ (.inl rfl) e
 |ext R=>obtain⟨p,⟨o,e⟩,st⟩:=x;show#[st _ _ p λo q=>k _ _ (.inl rfl) q,#[o,k _ _ (.inl rfl) e],st]
theorem iB.lt(x:iB P w H h)(e:H a\o):a<h.objs.size:=(x a o e).lt
def iB.fresh(x:iB P w H h)(e:h.objs.size<=a):H a=none:=by
 cases q:H a with
 |none=>rfl
 |some u=>show absurd (cZ (x.lt q) e)^kC _
def iB.kept(x:iB P w H h)(k:∀b u,h.get? b\u->h'.get? b\u):iB P w H h':=λa o e=>
 (x a o e).pG (λb u _ q=>k b u q) (λ_ q=>q) λ_ _ q=>q
def iB.laid(x:iB P w H h)(k:∀b u,h.get? b\u->h'.get? b\u)(g:h.objs.size<=a)(new:bR P w (upd H a o) h' a o):iB P w (upd H a o) h':=λb u e=>by
 have d:=x.fresh g
 by_cases f:b=a
 .subst f;rw[ah] at e;cases e;show new
 .rw[ao f] at e
  show(x b u e).pG (λc v _ q=>k c v q) (λc q=>by rw[ao^av q d];show q) λc i q=>by rw[ao^av q d];show q
end
def Rd(H:Hp)(a:Ad)(u:HO):Prop:=H a\u\/∃o,H a\(.tX o u)
def Rd.ok{P:Program}{w:World}{H:Hp}{a:Ad}(r:Rd H a u)(x:iB P w H h):bR P w H h a u:=by
 rcases r with r| ⟨o,r⟩
 .show x a u r
 .obtain⟨_,q⟩:=x a _ r
  show q
def Kw:Option HO->Prop
 |some^.lst _=>True
 |some^.dK _=>True
 |some^.dT _=>True
 |some^.set _ _=>True
 |some^.ins _ _ _=>True
 |some^.ext _=>True
 |_=>False
section
def iB.write(ok:iB P w H h)(a:Kw^H x)(j:e=x\/H e\(.own x))(k:∀b u,b≠e->h.get? b\u->h'.get? b\u)(n:∃u,h'.get? e\u)
  (new:bR P w (upd H x o') h' x o'):iB P w (upd H x o') h':=λb u q=>by
 have l:∀c y,H c\(.own y)->c≠x:=λc y r z=>by subst z;rw[r] at a;show a
 have o:∀c d,H c\(.tup d)->c≠x:=λc d r z=>by subst z;rw[r] at a;show a
 by_cases f:b=x
 .subst f;rw[ah] at q;cases q;show new
 .rw[ao f] at q
  by_cases g:b=e
  .have m:H b\(.own x):=by
    rcases j with z|z
    .show absurd (g.trans z) f
    .rw[g];show z
   let#[v,p]:=n;rw[q] at m;cases m;show#[v,by rw[g];show p]
  .apply(ok b u q).pG (λc v i r=>k c v ?_ r) (λc r=>by rw[ao^l c b r];show r) λc d r=>by rw[ao^o c d r];show r
   rcases i with rfl|i
   .show g
   .rintro rfl
    rcases j with z|z
    .show l c b i z
    .rw[i] at z;cases z;show f rfl
end
structure Un (fs ex:!Ad) (H H':Hp) (h h':Heap):Prop where
 keep:∀b o,h.get? b\o->H b=V->b∉fs->b∉ex->h'.get? b\o
 slot:∀b o,h.get? b\o->H b=V->b∈fs->b∉ex->∃sl,h'.get? b\{o with slots:=sl}
 free:∀b o,h.get? b\o->H b=V->b∉ex->H' b=V
 there:∀b o,h.get? b\o->b∉ex->∃o',h'.get? b\o'
 tups:∀b xs,H b\(.tup xs)->H' b\(.tup xs)
 frzs:∀b o u,H b\(.tX o u)->H' b\(.tX o u)
 tbls:∀b ps,H b\(.J7 ps)->∃more,H' b\(.J7 (ps++more))
section
def Un.any(u:Un fs ex H H1 h h1)(q:h.get? b\c)(n:H b=V)(d:b∉ex):∃g,h1.get? b\{c with slots:=g}:=by
 by_cases f:b∈fs
 .show u.slot b c q n f d
 .show#[c.slots,u.keep b c q n f d]
def Un.trans(a:Un fs ex H H1 h h1)(b:Un fs ex H1 H2 h1 h2):Un fs ex H H2 h h2 where
 keep:=λc d q n i f=>b.keep c d (a.keep c d q n i f) (a.free c d q n f) i f
 slot:=λc d q n i f=>by
  let#[s,g]:=a.slot c d q n i f;let#[m,k]:=b.slot c _ g (a.free c d q n f) i f;show#[m,k]
 free:=λc d q n f=>by
  let#[l,g]:=a.there c d q f;show b.free c l g (a.free c d q n f) f
 there:=λc d q f=>by
  let#[l,g]:=a.there c d q f;show b.there c l g f
 tups:=λc j q=>b.tups c j (a.tups c j q)
 frzs:=λc d j q=>b.frzs c d j (a.frzs c d j q)
 tbls:=λc p q=>by
  let#[m1,g]:=a.tbls c p q;let#[r,k]:=b.tbls c _ g;show#[m1++r,by rw[k,Array.append_assoc]]
def Un.kept(k:∀b u,h.get? b\u->h'.get? b\u):Un fs ex H H h h':=
 #[λb c q _ _ _=>k b c q,λb c q _ _ _=>#[c.slots,k b c q],λ_ _ _ n _=>n,λb c q _=>#[c,k b c q],λ_ _ q=>q,λ_ _ _ q=>q,λ_ d q=>#[#[],by rw[q];simp]]
def Un.refl:Un fs ex H H h h:=Un.kept λ_ _ q=>q
def Un.laid(k:∀b u,h.get? b\u->h'.get? b\u)(d:h.objs.size<=a)(c:H a=V):Un fs ex H (upd H a o) h h' where
 keep:=λb u q _ _ _=>k b u q
 slot:=λb u q _ _ _=>#[u.slots,k b u q]
 free:=λb u q n _=>by rw[ao^bP^cZ (Da q) d];show n
 there:=λb u q _=>#[u,k b u q]
 tups:=λb f q=>by rw[ao^av q c];show q
 frzs:=λb u f q=>by rw[ao^av q c];show q
 tbls:=λb g q=>#[#[],by rw[ao^av q c,q];simp]
def Un.write(c:Kw^H x)(j:e=x\/H e\(.own x))(k:∀b u,b≠e->h.get? b\u->h'.get? b\u)(l:∃u,h'.get? e\u):Un fs ex H (upd H x o) h h':=by
 have f:∀b,H b=V->b≠x:=λb n z=>by subst z;rw[n] at c;show c
 have g:∀b,H b=V->b≠e:=λb n z=>by
  subst z
  rcases j with r|r
  .show f b n r
  .rw[n] at r;cases r
 have d:∀b u,H b\u->¬Kw^J u->b≠x:=λb u q m z=>by subst z;rw[q] at c;show m c
 apply#[λb u q n _ _=>k b u (g b n) q,λb u q n _ _=>#[u.slots,k b u (g b n) q],λb u q n _=>by rw[ao^f b n];show n,λb u q _=>?_,
  λb p q=>by rw[ao (d b _ q λz=>z)];show q,λb u p q=>by rw[ao (d b _ q λz=>z)];show q,λb s q=>#[#[],by rw[ao (d b _ q λz=>z),q];simp]]
 by_cases i:b=e
 .subst i;show l
 .show#[u,k b u i q]
end
def XO(h:Heap)(H:Hp):!Addr:=(aj h.objs.size).filter λa=>(H a).isSome
def vU(h:Heap)(H:Hp):Heap:=PySem.W.hideAll h^XO h H
def Lk(h:Heap)(H:Hp):(vU h H).objs.size=h.objs.size:=PySem.W.hideAll_size _ _
def Pa(e:h.get? b\o)(n:H b=V):(vU h H).get? b\o:=
 PySem.W.hideAll_get _ e λa=>by
  have q:(H b).isSome=true:=(kB.mp a).2;rw[n] at q;simp at q
def Tp(e:(vU h H).get? b\o):h.get? b\o/\H b=none:=by
 have a:h.get? b\o:=PySem.W.of_hideAll (XO h H) e;exists a;cases q:H b with
 |none=>rfl
 |some x=>
  have c:b∈XO h H:=kB.mpr #[gf.mpr^Da a,by simp[q]]
  have z:(vU h H).get? b=none:=PySem.W.hideAll_none (XO h H) c;rw[z] at e;cases e
structure Mod (K:ac) (mg:Str->Option Value) (base:Heap):Prop where
 kin:K.In base
 glob:base.Ns mainGlobals mg
 blt:∃mb,base.Ns builtinsNs mb/\∀x:Str,x≠"__name__"->mb x=bootBuiltins x
 nolimit:base.NoLimit
structure Cx where
 prog:Program
 w:World
 K:ac
 mg:Str->Option Value
 base:Heap
 A:Around
 N:!Str
 s₀:Shared
 H₀:Hp
 env:Env
 outer:!Env
 stack:!Env
 ex:!Ad
 fn:Str->Bool
 calm:Bool
 pn:!(Ad×Obj)
 xe:Value->Shared->Prop
def vP(l:!Env):!Addr:=l.filterMap (·.frame)
abbrev Cx.fs(X:Cx):!Addr:=vP X.outer
def vD(a:Scope)(x:Str):Prop:=a.names.lookup x\.local\/a.names.lookup x\.cell\/a.names.lookup x\.free
def Loc(a:Scope)(x:Str):Prop:=a.names.lookup x\.local\/a.names.lookup x\.cell
def Look(env:nQ)(h:Heap)(m:fC->Option b_)(x:fC)(u:b_):Prop:=
 (env.kindOf x\.local/\m x\u)\/((env.kindOf x\.cell\/env.kindOf x\.free)/\∃c,env.cells.lookup x\c/\h.IsCell c^J u)
structure Cx.Ok (X:Cx):Prop where
 mod:Mod X.K X.mg X.base
 kind:X.env.scope.kind= .function
 glob:X.env.globals=mainGlobals
 blt:X.env.builtins=builtinsNs
 above:X.s₀.heap.objs.size<=X.env.locals
 inj:∀x y c,X.env.cells.lookup x\c->X.env.cells.lookup y\c->x=y
 has:∀x,(X.env.kindOf x\.cell\/X.env.kindOf x\.free)->∃c,X.env.cells.lookup x\c
 cab:∀x c,X.fn x=L->X.env.cells.lookup x\c->X.s₀.heap.objs.size<=c
 hd:X.calm=L->X.A.handled=V
 frames:X.A.frames\X.stack
 stk:X.stack=X.outer\/(X.stack=X.env::X.outer/\X.env.frame\X.env.locals)
 exf:∀b∈X.ex,b≠X.env.locals/\∀x c,X.env.cells.lookup x\c->c≠b
 bs:∀b o,X.base.get? b\o->X.s₀.heap.get? b\o/\X.H₀ b=V
 bsz:X.base.objs.size<=X.s₀.heap.objs.size
 noex:∀b o,X.base.get? b\o->b∉X.ex
 exfs:∀b∈X.ex,b∉X.fs
 funs:X.s₀.heap.FunFrames X.base X.outer
 frf:∀b∈X.fs,X.H₀ b=V
structure Inv (X:Cx) (pins:!(Ad×Obj)) (σ:!Option V') (H:Hp) (s:c_):Prop where
 ok:X.Ok
 os:s.os=X.s₀.os
 bare:lv s.gens
 base:Un X.fs X.ex X.H₀ H X.s₀.heap s.heap
 loc:∃m,s.heap.Ns X.env.locals m/\∀(i:Nat)(x:fC)(v:V'),X.N[i]?\x->σ[i]?\(J v)->vD X.env.scope x->∃u,RelV v u/\Look X.env s.heap m x u
 cell:∀x c,X.env.cells.lookup x\c->∃v,s.heap.IsCell c v
 free:H X.env.locals=V
 freeC:∀x c,X.env.cells.lookup x\c->H c=V
 pin:∀p∈X.pn++pins,s.heap.get? p.1\p.2/\H p.1=V/\p.1≠X.env.locals/\p.1∉X.fs/\∀v,p.2.data≠ .cell v
 hok:iB X.prog X.w H s.heap
 len:σ.length=X.N.length
section
variable {X : Cx}
def Cx.Ok.acx(ok:X.Ok)(e:X.base.get? b\o):b∉X.fs:=λa=>by
 have:=(ok.funs.mem a).1
 rw[e] at this;cases this
theorem Inv.bs(I:Inv X pins σ H s):∀b o,X.base.get? b\o->s.heap.get? b\o/\H b=none:=λb o e=>
 #[I.base.keep b o (I.ok.bs b o e).1 (I.ok.bs b o e).2 (I.ok.acx e)^I.ok.noex b o e,I.base.free b o (I.ok.bs b o e).1 (I.ok.bs b o e).2^I.ok.noex b o e]
def Inv.bk(I:Inv X pins σ H s):∀b o,X.base.get? b\o->s.heap.get? b\o:=λb o e=>(I.bs b o e).1
theorem Inv.mod(I:Inv X pins σ H s):Mod X.K X.mg X.base:=I.ok.mod
def Inv.fi(I:Inv X pins σ H s):X.K.In s.heap:=I.ok.mod.kin.keeps I.bk
theorem Inv.lt(I:Inv X pins σ H s):X.env.locals<s.heap.objs.size:=let #[_,a,_]:=I.loc;a.lt
def Inv.sz(I:Inv X pins σ H s):X.s₀.heap.objs.size<=s.heap.objs.size:=jf I.ok.above^rz I.lt
def Inv.YM(I:Inv X pins σ H s)(h:s.heap.objs.size<=a):a∉X.fs:=λb=>by
 let#[d,o,c,e]:=I.ok.funs.mem b;show absurd (cZ (Da c)^jf I.sz h)^kC _
def Inv.AY(I:Inv X pins σ H s):∀x c,X.env.cells.lookup x\c->c≠X.env.locals:=λx c e z=>by
 let#[v,o,a,b]:=I.cell x c e;obtain⟨m,⟨g,h,i,d,f,_⟩,_⟩:=I.loc;rw[z,d] at a;cases a;rw[f] at b;cases b
theorem Inv.funs(I:Inv X pins σ H s):s.heap.FunFrames X.base X.outer:=by
 have all:∀(l:!nQ),(∀b∈vP l,b∈X.fs)->X.s₀.heap.FunFrames X.base l->s.heap.FunFrames X.base l:=by
  intro l
  induction l with
  |nil=>intro _ _;trivial
  |cons env r g=>
   intro f h;rfl';obtain⟨j,⟨L',o,a,k,m,n⟩,p⟩:=h;have c:L'∈X.fs:=f L'^by unfold vP;rw[afe,a];show c5
   let#[t,e]:=I.base.slot L' o m (I.ok.frf L' c) c λz=>I.ok.exfs L' z c;ac_rfl;show#[j,#[L',_,a,k,e,n],g (λb d=>f b^by unfold vP;rw[afe,a];show eS _ d) p]
 show all X.outer (λ_ d=>d) I.ok.funs
theorem Inv.stack(I:Inv X pins σ H s):s.heap.FunFrames X.base X.stack:=by
 rcases I.ok.stk with e| ⟨e,a⟩
 .rw[e];show I.funs
 .rw[e]
  let#[m,b,c]:=I.loc;apply .cons (by rw[I.ok.kind];decide) a b ?_ I.funs
  show Heap.get?_none_of_le^jf I.ok.bsz I.ok.above
def Inv.Hb(I:Inv X pins σ H s):∀b∈vP X.stack,b∈X.env.locals::X.fs:=λb a=>by
 rcases I.ok.stk with e| ⟨e,c⟩
 .rw[e] at a;show eS _ a
 .rw[e] at a
  unfold vP at a;rw[afe,c] at a;show a
def Inv.Cy(I:Inv X pins σ H s):∀b∈vP X.stack,H b=none:=λb a=>by
 rcases bQ.mp^I.Hb b a with e|a
 .rw[e];show I.free
 .obtain⟨_,o,c,_⟩:=I.ok.funs.mem a
  show I.base.free b o c (I.ok.frf b a) λz=>I.ok.exfs b z a
def Inv.step{g':Array GenState}{d':Drawn}{ch:!Ad}(I:Inv X pins σ H s)
  (t:∀b∈ch,(b∈X.ex\/X.s₀.heap.objs.size<=b)/\b≠X.env.locals/\(∀x c,X.env.cells.lookup x\c->c≠b)/\∀p∈X.pn++pins,p.1≠b)
  (keep:∀b o,b≠X.env.locals->b∉X.fs->b∉ch->s.heap.get? b\o->H b=V->h'.get? b\o)
  (slot:∀b o,b≠X.env.locals->b∈X.fs->b∉ch->s.heap.get? b\o->H b=V->∃F,h'.get? b\{o with slots:=F}) (free:∀b o,b∉ch->s.heap.get? b\o->H b=V->H' b=V)
  (there:∀b o,b∉ch->s.heap.get? b\o->∃y,h'.get? b\y)
  (tups:∀b xs,H b\(.tup xs)->H' b\(.tup xs)) (frzs:∀b o u,H b\(.tX o u)->H' b\(.tX o u)) (tbls:∀b E,H b\(.J7 E)->∃more,H' b\(.J7 (E++more)))
  (N:∀m,s.heap.Ns X.env.locals m->h'.Ns X.env.locals m) (hok:iB X.prog X.w H' h') (O:lv g'):
  Inv X pins σ H' {s with heap:=h',gens:=g',drawn:=d',toks:=t'}:=by
 have A:∀b o,X.s₀.heap.get? b\o->b≠X.env.locals:=λb o e=>bP^cZ (Da e) I.ok.above
 have LM:∀b o,X.s₀.heap.get? b\o->b∉X.ex->b∉ch:=λb o e a h=>by
  rcases(t b h).1 with z|z
  .show a z
  .show absurd (cZ (Da e) z)^kC _
 have f:∀x c,X.env.cells.lookup x\c->∀v,s.heap.IsCell c v->h'.IsCell c v:=λx c e v #[o,j,G]=>by
  have B:c∉ch:=λz=>(t c z).2.2.1 x c e rfl
  by_cases J':c∈X.fs
  .obtain⟨F,q⟩:=slot c o (I.AY x c e) J' B j^I.freeC x c e
   show#[_,q,G]
  .show#[o,keep c o (I.AY x c e) J' B j^I.freeC x c e,G]
 apply#[I.ok,I.os,O,#[λb o e n h a=>?_,λb o e n h a=>?_,λb o e n a=>?_,λb o e a=>?_,λb xs e=>tups b xs^I.base.tups b xs e,λb o xs e=>frzs b o xs^I.base.frzs b o xs e,λb E e=>?_],?_,λx c e=>?_,?_,λx c e=>?_,λp L'=>?_,hok,I.len]
 .show keep b o (A b o e) h (LM b o e a) (I.base.keep b o e n h a)^I.base.free b o e n a
 .obtain⟨F,g⟩:=I.base.slot b o e n h a
  let#[P,C]:=slot b _ (A b o e) h (LM b o e a) g^I.base.free b o e n a;show#[P,C]
 .obtain⟨y,g⟩:=I.base.there b o e a
  show free b y (LM b o e a) g^I.base.free b o e n a
 .obtain⟨y,g⟩:=I.base.there b o e a
  show there b y (LM b o e a) g
 .obtain⟨m1,g⟩:=I.base.tbls b E e
  let#[Q,C]:=tbls b _ g;show#[m1++Q,by rw[C,Array.append_assoc]]
 .obtain⟨m,R,S⟩:=I.loc
  apply#[m,N m R,λi x v g C T=>?_];let#[u,r,l]:=S i x v g C T;exists u,r
  rcases l with l| ⟨k,c,e,z⟩
  .show .inl l
  .show .inr #[k,c,e,f x c e _ z]
 .obtain⟨v,z⟩:=I.cell x c e
  show#[v,f x c e v z]
 .obtain⟨m,⟨o,_,_,j,_⟩,_⟩:=I.loc
  show free _ o (λz=>(t _ z).2.1 rfl) j I.free
 .obtain⟨v,o,j,G⟩:=I.cell x c e
  show free c o (λz=>(t c z).2.2.1 x c e rfl) j^I.freeC x c e
 .obtain⟨e,n,ne,M,d⟩:=I.pin p L'
  have B:p.1∉ch:=λz=>(t p.1 z).2.2.2 p L' rfl;show#[keep p.1 p.2 ne M B e n,free p.1 p.2 B e n,ne,M,d]
theorem Inv.un{t':Nat}(I:Inv X pins σ H s)(u:Un X.fs [] H H' s.heap h')(hok:iB X.prog X.w H' h'):Inv X pins σ H' {s with heap:=h',toks:=t'}:=by
 rfl';obtain⟨m,⟨o,p,q,d,r⟩,_⟩:=id I.loc;let#[t,h]:=u.any d I.free^by simp
 ac_rfl
 show I.step (g':=s.gens) (d':=s.drawn) (ch:= []) (λ_ z=>nomatch z) (λb o _ c _ e n=>u.keep b o e n c^by simp) (λb o _ c _ e n=>u.slot b o e n c^by simp) (λb o _ e n=>u.free b o e n^by simp) (λb o _ e=>u.there b o e^by simp) u.tups u.frzs u.tbls (λv i=>by
  rfl';let#[x,j,k,f,l]:=i;ac_rfl;rw[d] at f;cases f;show#[_,j,k,h,l]) hok I.bare
theorem Inv.call{g':Array GenState}{t':Nat}{d':Drawn}{ch:!Ad}(I:Inv X pins σ H s)(u:Un (vP X.stack) ch H H' s.heap h')(hok:iB X.prog X.w H' h')(j:lv g')
  (g:∀b∈ch,(b∈X.ex\/X.s₀.heap.objs.size<=b)/\b≠X.env.locals/\(∀x c,X.env.cells.lookup x\c->c≠b)/\∀p∈X.pn++pins,p.1≠b):
  Inv X pins σ H' {s with heap:=h',gens:=g',drawn:=d',toks:=t'}:=by
 rfl';obtain⟨m,⟨o,A,B,h,r⟩,_⟩:=id I.loc;let#[C,f]:=u.any h I.free λz=>(g _ z).2.1 rfl;ac_rfl
 show I.step (ch:=ch) g (λb o f l a e n=>u.keep b o e n (λz=>(bQ.mp^I.Hb b z).elim f l) a) (λb o _ _ a e n=>u.any e n a) (λb o a e n=>u.free b o e n a) (λb o a e=>u.there b o e a) u.tups u.frzs u.tbls (λE q=>by
  rfl';let#[F,t,v,i,y]:=q;ac_rfl;rw[h] at i;cases i;show#[_,t,v,f,y]) hok j
def Inv.turned{t':Nat}{it:Ad}(I:Inv X pins σ H s)(k:∀b o,b≠it->s.heap.get? b\o->h'.get? b\o)(g:H it=V)(f:it≠X.env.locals)
  (h:it∈X.ex\/X.s₀.heap.objs.size<=it) (i:∀x c,X.env.cells.lookup x\c->c≠it) (j:∀p∈X.pn++pins,p.1≠it):Inv X pins σ H {s with heap:=h',toks:=t'}:=by
 have d:∀b u,H b\u->b≠it:=λb u e z=>by rw[z,g] at e;cases e
 apply I.step (g':=s.gens) (d':=s.drawn) (ch:= [it]) (λb l=>?_) (λb o _ _ a e _=>k b o (λz=>a^by simp[z]) e) (λb o _ _ a e _=>#[o.slots,k b o (λz=>a^by simp[z]) e]) (λ_ _ _ _ n=>n)
  (λb o a e=>#[o,k b o (λz=>a^by simp[z]) e]) (λ_ _ e=>e) (λ_ _ _ e=>e) (λb B e=>#[#[],by rw[e];simp]) (λm t=>?_) (λb u e=>?_) I.bare
 .have e:b=it:=by simpa using l
  subst e;show#[h,f,i,j]
 .obtain⟨o,w,y,A,r⟩:=t
  show#[o,w,y,k _ o (Ne.symm f) A,r]
 .apply(I.hok b u e).pG (λc v a q=>k c v ?_ q) (λ_ q=>q) λ_ _ q=>q
  rcases a with z|z
  .rw[z];show d b u e
  .show d c _ z
def Inv.tok(I:Inv X pins σ H s)(t:Nat):Inv X pins σ H {s with toks:=t}:=I.un (h':=s.heap) (t':=t) Un.refl I.hok
theorem Inv.kept{t':Nat}(I:Inv X pins σ H s)(k:∀b u,s.heap.get? b\u->h'.get? b\u):Inv X pins σ H {s with heap:=h',toks:=t'}:=I.un (Un.kept k)^I.hok.kept k
theorem Inv.laid{a:Ad}{o:HO}{t':Nat}(I:Inv X pins σ H s)(k:∀b u,s.heap.get? b\u->h'.get? b\u)(c:s.heap.objs.size<=a)(new:bR X.prog X.w (upd H a o) h' a o):
  Inv X pins σ (upd H a o) {s with heap:=h',toks:=t'}:=I.un (Un.laid k c^I.hok.fresh c)^I.hok.laid k c new
theorem Inv.write{x e:Ad}{o:HO}{t':Nat}(I:Inv X pins σ H s)(a:Kw^H x)(c:e=x\/H e\(.own x))(k:∀b u,b≠e->s.heap.get? b\u->h'.get? b\u)(d:∃u,h'.get? e\u)
  (new:bR X.prog X.w (upd H x o) h' x o):Inv X pins σ (upd H x o) {s with heap:=h',toks:=t'}:=I.un (Un.write a c k d)^I.hok.write a c k d new
def Inv.wy(I:Inv X pins σ H s)(h:∀p∈a,s.heap.get? p.1\p.2/\H p.1=V/\p.1≠X.env.locals/\p.1∉X.fs/\∀v,p.2.data≠ .cell v):Inv X a σ H s:=
 #[I.ok,I.os,I.bare,I.base,I.loc,I.cell,I.free,I.freeC,λp b=>(cM.mp b).elim (λz=>I.pin p^kq _ z)^h p,I.hok,I.len]
def yr{N:!fC}(c:N.Nodup){i j:Nat}{x:fC}(a:N[i]?\x)(b:N[j]?\x):i=j:=by
 let#[f,d]:=cV.mp a;let#[g,e]:=cV.mp b;show(afM c).mp^d.trans e.symm
theorem store_ok2(I:Inv X pins σ H s)(hN:X.N.Nodup)(P:X.N[i]?\x)(B:Loc X.env.scope x)(r:RelV v u)
  (h:∀Y',Inv X pins (σ.set i^J v) H Y'->(∃a,Heap.SameBut a s.heap Y'.heap/\(a=X.env.locals\/X.env.cells.lookup x\a))->Q ⟨⟩ Y') (hf:X.fn x=L\/X.env.scope.names.lookup x\.local<|>yy):e_ M A (storeName X.env x u) Q E s:=by
 let#[m,Z,hl]:=id I.loc;have IJ:(X.env.scope.kind== .class|| (X.env.scope.kind== .module&&X.env.locals !=X.env.globals))=false:=by rw[I.ok.kind];rfl
 have NG:i<σ.length:=by rw[I.len];show(cV.mp P).1
 have AY:=I.AY
 have g:∀{a:Ad}{O:Heap},(∃o,s.heap.get? a\o/\H a=V)->Heap.SameBut a s.heap O->iB X.prog X.w H O:=λ {a O} ha f b ob e=>by
  let#[D,K,FZ]:=ha;apply(I.hok b ob e).pG (λc T t q=>(f.2 c ?_).trans q) (λ_ q=>q) λ_ _ q=>q;rintro rfl
  rcases t with rfl|t
  .rw[FZ] at e;cases e
  .rw[FZ] at t;cases t
 rcases B with F|F
 .apply wpAny_storeName_local F Z (λO F5 f=>?_) IJ
  let#[oL,D,K,Bp,V']:=id Z;apply h _ #[I.ok,I.os,I.bare,#[λb o e n G B=>?_,λb o e n G B=>?_,I.base.free,λb o e B=>?_,I.base.tups,I.base.frzs,I.base.tbls],#[_,F5,λj y v' l C e3=>?_],λy c e=>?_,I.free,I.freeC,λp hp=>?_,g #[oL,Bp,I.free] f,by simpa using I.len] #[_,f, .inl rfl]
  .show(f.2 b^bP^cZ (Da e) I.ok.above).trans^I.base.keep b o e n G B
  .obtain⟨sl,l⟩:=I.base.slot b o e n G B
   show#[sl,(f.2 b^bP^cZ (Da e) I.ok.above).trans l]
  .obtain⟨o',l⟩:=I.base.there b o e B
   show#[o',(f.2 b^bP^cZ (Da e) I.ok.above).trans l]
  .by_cases J':j=i
   .subst J'
    rw[P] at l;cases l;rw[l9 NG] at C;cases C;show#[u,r, .inl #[F,by simp]]
   .rw[kr^Ne.symm J'] at C
    let#[u',r',q]:=hl j y v' l C e3;exists u',r'
    rcases q with ⟨k,e⟩ | ⟨k,c,e,z⟩
    .apply .inl #[k,?_]
     have:y≠x:=λe=>J'^yr hN l (e▸P)
     simp[this,e]
    .show .inr #[k,c,e,z.sameBut f^AY y c e]
  .obtain⟨T,z⟩:=I.cell y c e
   show#[T,z.sameBut f^AY y c e]
  .obtain⟨e,n,ne,nf,d⟩:=I.pin p hp
   show#[(f.2 p.1 ne).trans e,n,ne,nf,d]
 .have L':X.fn x=true:=by
   rcases hf with z|z
   .show z
   .rw[z] at F;cases F
  let#[c,t]:=I.ok.has x^.inl F;let#[T,z]:=I.cell x c t;apply wpAny_storeName_cell I.ok.kind F t z^λO pS f=>?_;let#[oc,R,ab1]:=id z;apply h {s with heap:=O} #[I.ok,I.os,I.bare,#[λb o e n G B=>?_,λb o e n G B=>?_,I.base.free,λb o e B=>?_,I.base.tups,I.base.frzs,I.base.tbls],#[m,Z.sameBut f^Ne.symm^AY x c t,λj y v' l C e3=>?_],λy U e=>?_,I.free,I.freeC,λp hp=>?_,g #[oc,R,I.freeC x c t] f,by simpa using I.len] #[c,f, .inr t]
  .show(f.2 b^bP^cZ (Da e)^I.ok.cab x c L' t).trans^I.base.keep b o e n G B
  .obtain⟨sl,l⟩:=I.base.slot b o e n G B
   show#[sl,(f.2 b^bP^cZ (Da e)^I.ok.cab x c L' t).trans l]
  .obtain⟨o',l⟩:=I.base.there b o e B
   show#[o',(f.2 b^bP^cZ (Da e)^I.ok.cab x c L' t).trans l]
  .by_cases J':j=i
   .subst J'
    rw[P] at l;cases l;rw[l9 NG] at C;cases C;show#[u,r, .inr #[.inl F,c,t,pS]]
   .rw[kr^Ne.symm J'] at C
    let#[u',r',q]:=hl j y v' l C e3;exists u',r'
    rcases q with q| ⟨k,U,e,z'⟩
    .show .inl q
    .apply .inr #[k,U,e,z'.sameBut f ?_]
     rintro rfl;show J'^yr hN l (I.ok.inj _ _ _ e t▸P)
  .by_cases S:U=c
   .subst S;show#[_,pS]
   .obtain⟨w2,z2⟩:=I.cell y U e
    show#[w2,z2.sameBut f S]
  .obtain⟨e,n,ne,nf,d⟩:=I.pin p hp
   apply#[(f.2 p.1 ?_).trans e,n,ne,nf,d];intro q;rw[q,R] at e;have q':oc=p.2:=Do e;show d T^by rw[<-q'];show ab1
def kR{x:fC}{v:V'}(I:Inv X pins σ H s)(b:X.N.Nodup)(c:X.N[i]?\x)(d:Loc X.env.scope x)(r:RelV v u)
  (h:∀a,Inv X pins (σ.set i^J v) H a->Q ⟨⟩ a) (e:X.fn x=L\/X.env.scope.names.lookup x\.local<|>yy):e_ M A (storeName X.env x u) Q E s:=
 store_ok2 I b c d r (λa f _=>h a f) e
def Inv.KD{s':Shared}{ch:!Ad}(I:Inv X pins σ H s)(a:s'.os=s.os)(u:Un (vP X.stack) ch H H' s.heap s'.heap)(hok:iB X.prog X.w H' s'.heap)(d:AllBare s'.gens)
  (f:∀b∈ch,(b∈X.ex\/X.s₀.heap.objs.size<=b)/\b≠X.env.locals/\(∀x c,X.env.cells.lookup x\c->c≠b)/\∀p∈X.pn++pins,p.1≠b):Inv X pins σ H' s':=by
 let#[h,g',d',t',g]:=s';have e:g=s.os:=a;subst e;show I.call (g':=g') (t':=t') (d':=d') u hok d f
end
abbrev XK:=Value->Option Ad->Hp->Prop
abbrev St:=!Option V'
abbrev VK:=V'->Hp->Prop
abbrev TE:=St->Hp->VK->Prop
abbrev TT:=St->Hp->(Bool->Hp->Prop)->Prop
abbrev TA:=St->Hp->(!V'->Hp->Prop)->Prop
structure Ends where
 nx:St->Hp->Prop
 rt:VK
 bk:St->Hp->Prop:=λ_ _=>False
 ct:St->Hp->Prop:=λ_ _=>False
abbrev TS:=Ends->St->Hp->Prop
def EP(X:Cx)(a:!(Ad×Obj))(c:St)(Q:VK)(u:Value)(d:Shared):Prop:=∃v b,Inv X a c b d/\RelV v u/\Q v b
def TP(X:Cx)(a:!(Ad×Obj))(d:St)(Q:Bool->Hp->Prop)(b:Bool)(e:Shared):Prop:=∃c,Inv X a d c e/\Q b c
def AP(X:Cx)(a:!(Ad×Obj))(d:St)(Q:!V'->Hp->Prop)(e:!Value)(f:Shared):Prop:=∃b c,Inv X a d c f/\Vals b e/\Q b c
def SP(X:Cx)(a:!(Ad×Obj))(D:Ends)(f:Flow)(d:Shared):Prop:=
 match f with
 | .next=>∃c b,Inv X a c b d/\D.nx c b
 | .brk=>∃c b,Inv X a c b d/\D.bk c b
 | .cont=>∃c b,Inv X a c b d/\D.ct c b
 | .ret u=>∃v c b,Inv X a c b d/\RelV v u/\D.rt v b
def PE(X:Cx)(e:Expr)(t:TE):Prop:=
 ∀(a:!(Ad×Obj))(s:Shared)(b:St)(H:Hp)(Q:VK),Inv X a b H s->t b H Q->wpAny (model X.prog X.w) X.A (eval e X.env) (EP X a b Q) X.xe s
def PT(X:Cx)(e:gc)(t:TT):Prop:=
 ∀(a:!(Ad×Obj))(s:c_)(b:St)(H:Hp)(Q:Bool->Hp->Prop),Inv X a b H s->t b H Q->e_ (ei X.prog X.w) X.A (isTrue e X.env^gj e X.env) (TP X a b Q) X.xe s
def PW(X:Cx)(e:Expr)(t:TT):Prop:=
 ∀(b:Sem Value)(a:!(Ad×Obj))(s:Shared)(c:St)(H:Hp)(Q:Bool->Hp->Prop),Inv X a c H s->t c H Q->wpAny (model X.prog X.w) X.A (isTrue e X.env b) (TP X a c Q) X.xe s
def PW.pt(h:PW X e t):PT X e t:=h _
def PA(X:Cx)(d:!gc)(t:TA):Prop:=
 ∀(b:js)(a:!(Ad×Obj))(s:c_)(c:St)(H:Hp)(Q:!V'->Hp->Prop),Inv X a c H s->t c H Q->e_ (ei X.prog X.w) X.A (spliced^gM b^d_ d X.env) (AP X a c Q) X.xe s
def PS(X:Cx)(st:Stmt)(t:TS):Prop:=
 ∀(a:!(Ad×Obj))(s:Shared)(b:St)(H:Hp)(D:Ends),Inv X a b H s->t D b H->wpAny (model X.prog X.w) X.A (exec st X.env) (SP X a D) X.xe s
def kE(X:Cx)(st:!Stmt)(t:TS):Prop:=
 ∀(a:!(Ad×Obj))(s:Shared)(b:St)(H:Hp)(D:Ends),Inv X a b H s->t D b H->wpAny (model X.prog X.w) X.A (execs st X.env) (SP X a D) X.xe s
def thn{Q c:b->Shared->Prop}(h:wpAny M A t Q E s)(d:∀a s,Q a s->c a s):wpAny M A t c E s:=wpAny_mono h d λ_ _ x=>x
section
def zC(i:Nat):TE:=λa H Q=>∃v,a[i]?\(J v)/\Q v H
def tC(v:V'):TE:=λ_ H Q=>Q v H
def GK(k:X.N[i]?\x)(n:vD X.env.scope x)(f:eT x<|>zm)(o:eR x<|>zm):PE X (.Name x d)^zC i:=by
 intro b s p H Q I h;rfl';let#[v,e,h]:=h;let#[m,t,w]:=I.loc;let#[u,r,l]:=w i x v k e n;have fin:EP X b p Q u s:=#[v,H,I,r,h];ac_rfl
 rcases l with ⟨a,y⟩ | ⟨a,c,g,j⟩
 .show wpAny_Name (wpAny_loadName_local I.ok.kind a t y fin) f
 .rcases a with a|a
  .show wpAny_Name (wpAny_loadName_cell I.ok.kind a g j fin) f
  .show wpAny_Name (wpAny_loadName_free I.ok.kind a g j fin o) f
def bf{i j pos}:PE X (.Constant (.int i) j pos)^tC^.int i:=λ_ _ _ H _ I h=>wpAny_Constant_int #[.int i,H,I.tok _,#[_,Y],h]
def aaC{b j pos}:PE X (.Constant (.bool b) j pos)^tC^.bl b:=λ_ _ _ H _ I h=>Constant_bool #[.bl b,H,I,Y,h]
def WY{j pos}:PE X (.Constant .none j pos)^tC .aT:=λ_ _ _ H _ I h=>Constant_none #[.aT,H,I,Y,h]
def GJ{x j pos}:PE X (.Constant (.str x) j pos)^tC^.str x:=λ_ _ _ H _ I h=>Calls.Constant_str #[.str x,H,I.tok _,#[_,Y],h]
def Gl(X:Cx)(x:Str):Prop:=X.env.kindOf x\.globalImplicit
def lb(I:Inv X a c H s)(d:Gl X x)(e:X.mg x\u)(h:Q u s)
  (f:(x==("__debug__":Str))=At<|>zm):wpAny (model X.prog X.w) X.A (eval (.Name x b) X.env) Q E s:=
 afu I.ok.kind d (Calls.loadGlobal_global (by rw[I.ok.glob];show I.mod.glob.keeps I.bk) e h) f
def iu{u:Value}(I:Inv X a c H s)(d:Gl X x)(e:X.mg x=V)(f:bootBuiltins x\u)(h:Q u s)
  (g:x≠"__name__"<|>zm) (i:(x==("__debug__":Str))=At<|>zm):wpAny (model X.prog X.w) X.A (eval (.Name x b) X.env) Q E s:=by
 let#[l,j,k]:=I.mod.blt;show afu I.ok.kind d (Calls.loadGlobal_builtin (by rw[I.ok.glob];show I.mod.glob.keeps I.bk) e (by rw[I.ok.blt];show j.keeps I.bk) ((k x g).trans f) h) i
def JC{v:V'}(b:Gl X x)(c:X.mg x\u)(r:RelV v u)(d:eT x<|>zm):PE X (.Name x a)^tC v:=
 λ_ _ _ H _ I h=>lb I b c #[v,H,I,r,h] d
def Jz(b:Gl X x)(c:X.mg x=V)(d:gl x\u)(r:RelV v u)(e:x≠"__name__"<|>zm)(f:eT x<|>zm):PE X (.Name x a)^tC v:=
 λ_ _ _ H _ I h=>iu I b c d #[v,H,I,r,h] e f
def tB(t:TE):TT:=λd H Q=>t d H λx e=>∃c,x= .bl c/\Q c e
def W9(h:PE X e t)(g:(∀c,isTrue e X.env c=(do let v <-c;jo e.pos;im [v]^truthy v))<|>xz):PT X e^tB t:=by
 intro f s i H Q I hw;apply isTrue_plain (thn (h f s i H _ I hw) λv n hH=>?_)^g _;let#[x,j,k,l,m]:=hH;let#[d,rfl,q]:=m;cases l;show SC #[j,k,q]
def acZ(t u:TT):TT:=λd H Q=>t d H λc e=>if c=L then u d e Q else Q At e
def tOr(t u:TT):TT:=λd H Q=>t d H λc e=>if c=L then Q L e else u d e Q
def ac6(t:TT):TT:=λd H Q=>t d H λc e=>Q (not^c) e
def JK(f:PT X a tA):PW X (.BoolOp .And [a] pos) tA:=by
 intro i d s g H Q I h;apply isTrue_and (thn (f d s g H Q I h) λc j e=>?_);cases c with
 |true=>show isTrue_and_nil e
 |false=>show e
def Xa(f:PT X a tA):PW X (.BoolOp .Or [a] pos) tA:=by
 intro i d s g H Q I h;apply isTrue_or (thn (f d s g H Q I h) λc j e=>?_);cases c with
 |false=>show isTrue_or_nil e
 |true=>show e
def NZ(j:PT X a tA)(k:PW X (.BoolOp .And (b::rest) pos) ME):PW X (.BoolOp .And (a::b::rest) pos)^acZ tA ME:=by
 intro l d s e H Q I h;apply isTrue_and (thn (j d s e H _ I h) λc m hH=>?_);let#[f,g,i]:=hH;cases c with
 |true=>show k l d m e f Q g i
 |false=>show#[f,g,i]
def aaF(j:PT X a tA)(k:PW X (.BoolOp .Or (b::rest) pos) ME):PW X (.BoolOp .Or (a::b::rest) pos)^tOr tA ME:=by
 intro l d s e H Q I h;apply isTrue_or (thn (j d s e H _ I h) λc m hH=>?_);let#[f,g,i]:=hH;cases c with
 |true=>show#[f,g,i]
 |false=>show k l d m e f Q g i
def NX(e:PT X a tA):PT X (.UnaryOp .Not a pos)^ac6 tA:=by
 intro d s f H Q I h;show isTrue_not^e d s f H (λc g=>Q (not^c) g) I h
def aaK(f g:TE):TE:=λd H Q=>f d H λx e=>∃c,x= .bl c/\if c=L then g d e Q else Q (.bl At) e
def aaS(d:TE):TE:=λe H Q=>d e H λx f=>∃c,x= .bl c/\Q (.bl (not^c)) f
def W0{op}(h:PE X a t):PE X (.BoolOp op [a] pos) t:=λc s d H Q I hw=>BoolOp_one^h c s d H Q I hw
def WT(j:PE X a ta)(k:PE X (.BoolOp .And (b::rest) pos) tb):PE X (.BoolOp .And (a::b::rest) pos)^aaK ta tb:=by
 intro d s f H Q I h;apply BoolOp_and (thn (j d s f H _ I h) λv l m=>?_);rfl';let#[x,g,i,o,e]:=m;let#[c,rfl,e]:=e;ac_rfl;subst o;apply SC ?_;cases c with
 |true=>show k d l f g Q i e
 |false=>show#[.bl At,g,i,Y,e]
def WZ(f:PE X a ta):PE X (.UnaryOp .Not a pos)^aaS ta:=by
 intro d s g H Q I h;apply UnaryOp_ (thn (f d s g H _ I h) λv n i=>?_);rfl';let#[x,k,l,m,e]:=i;let#[c,rfl,e]:=e;ac_rfl;subst m;show not_of^SC #[.bl (not^c),k,l,Y,e]
def tIf(t:TT)(f g:TE):TE:=λd H Q=>t d H λc e=>if c=L then f d e Q else g d e Q
def Py(l:PT X c tA)(m:PE X a ta)(n:PE X b tb):PE X (.IfExp c a b pos)^tIf tA ta tb:=by
 intro e s f H Q I h;apply wpAny_IfExp (thn (l e s f H _ I h) λd g hH=>?_);let#[i,j,k]:=hH;cases d with
 |true=>show m e g f i Q j k
 |false=>show n e g f i Q j k
end
def aK(K:ac)(H:Hp)(a:Ad)(xs:!V'):Prop:=
 Rd H a^.lst xs\/
  ∃(o:Obj)(b:Array b_)(n:Nat),K.lookup a\o/\o.cls= .type "list"/\o.dict=V/\o.data= .seq b n/\b.size<=sizeLine/\Vals xs b.toList
def fN(K:ac)(H:Hp)(a:Ad)(c:!V'):Prop:=
 Rd H a^.tup c\/
  ∃(o:Obj)(b:Array b_)(n:Nat),K.lookup a\o/\o.cls= .type "tuple"/\o.data= .seq b n/\b.size<=sizeLine/\Vals c b.toList
def aa9:b_->Option V'
 | .none=>J .aT
 | .bool b=>J^.bl b
 | .int i _=>J^.int i
 | .str x _=>J^.str x
 | .bytes b _=>J^.zT b
 | .float b _=>J^.K0 b
 | .ref a=>J^.ref a
 | .type n=>J^.ty n
 |_=>V
def RelV.abs{x:V'}{u:Value}(r:RelV x u):aa9 u\x:=by
 cases x with
 |aT=>cases r;rfl
 |bl _=>cases r;rfl
 |int _=>let#[t,rfl]:=r;rfl
 |str _=>let#[t,rfl]:=r;rfl
 |zT _=>let#[t,rfl]:=r;rfl
 |K0 _=>let#[t,rfl]:=r;rfl
 |ref _=>cases r;rfl
 |ty _=>cases r;rfl
def RelV.inj{x y:V'}(r:RelV x u)(q:RelV y u):x=y:=Do^r.abs.symm.trans q.abs
theorem Vals.inj(r:Vals d e):Vals c e->d=c:=by
 induction r generalizing c with
 |nil=>intro q;cases q;rfl
 |cons a _ f=>
  intro q;cases q with
  |cons b t=>rw[a.inj b,f t]
section
def aK.of{K:ac}(h:H a\(.lst xs)):aK K H a xs:= .inl^.inl h
def fN.of{K:ac}(h:H a\(.tup xs)):fN K H a xs:= .inl^.inl h
def Inv.list(I:Inv X pins σ H s)(h:aK X.K H a xs):∃its:!Value,Vals xs its/\PlainL s.heap a its.toArray/\xs.length<=sizeLine:=by
 rcases h with h| ⟨o,its,n,b,c,d,f,g,r⟩
 .obtain⟨z,its,n,r,e⟩:=h.ok I.hok
  show#[its,r,#[_,n,e,Y,Y,Y],z]
 .apply#[its.toList,r,#[o,n,I.fi a o b,c,d,by simpa using f],?_]
  have e:=r.length;simp only[dE] at e;lia
def Inv.tuple(I:Inv X pins σ H s)(h:fN X.K H a xs):∃its:!Value,Vals xs its/\IsTup s.heap a its.toArray/\xs.length<=sizeLine:=by
 rcases h with h| ⟨o,its,n,b,c,d,f,r⟩
 .obtain⟨z,its,r,p⟩:=h.ok I.hok
  show#[its,r,p,z]
 .apply#[its.toList,r,#[o,I.fi a o b,c,n,by simpa using d],?_]
  have e:=r.length;simp only[dE] at e;lia
def Inv.EN(I:Inv X pins σ H s)(h:aK X.K H a xs)(h':aK X.K H a ys):xs=ys:=by
 rfl';obtain⟨c,r,⟨o,n,e,_,_,d⟩,_⟩:=I.list h;obtain⟨b,j,⟨m,p,f,_,_,g⟩,_⟩:=I.list h';ac_rfl;rw[e] at f;cases f;rw[d] at g
 injection g with k _
 have:c=b:=by simpa using KB Array.toList k
 subst this;show r.inj j
end
abbrev Cx.tH(X:Cx)(E:Value->Shared->Prop):Cx:={X with xe:=E}
abbrev Cx.mw(X:Cx):Cx:=X.tH λ_ _=>False
theorem Cx.Ok.tH{X:Cx}(ok:X.Ok)(E:Value->Shared->Prop):(X.tH E).Ok:=
 #[ok.mod,ok.kind,ok.glob,ok.blt,ok.above,ok.inj,ok.has,ok.cab,ok.hd,ok.frames,ok.stk,ok.exf,ok.bs,ok.bsz,ok.noex,ok.exfs,ok.funs,ok.frf]
def Cx.Ok.l7{X:Cx}(ok:(X.tH E).Ok):X.Ok:=
 #[ok.mod,ok.kind,ok.glob,ok.blt,ok.above,ok.inj,ok.has,ok.cab,ok.hd,ok.frames,ok.stk,ok.exf,ok.bs,ok.bsz,ok.noex,ok.exfs,ok.funs,ok.frf]
section
theorem Inv.tH(I:Inv X pins σ H s)(E:Value->Shared->Prop):Inv (X.tH E) pins σ H s:=#[I.ok.tH E,I.os,I.bare,I.base,I.loc,I.cell,I.free,I.freeC,I.pin,I.hok,I.len]
theorem Inv.l7(I:Inv (X.tH E) pins σ H s):Inv X pins σ H s:=#[I.ok.l7,I.os,I.bare,I.base,I.loc,I.cell,I.free,I.freeC,I.pin,I.hok,I.len]
theorem SP.l7{D:Ends}{f:Flow}{s':Shared}(h:SP (X.tH E) pins D f s'):SP X pins D f s':=by
 cases f with
 |next=>let#[aA,H',I,q]:=h;show#[aA,H',I.l7,q]
 |brk=>let#[aA,H',I,q]:=h;show#[aA,H',I.l7,q]
 |cont=>let#[aA,H',I,q]:=h;show#[aA,H',I.l7,q]
 |ret u=>let#[v,aA,H',I,r,q]:=h;show#[v,aA,H',I.l7,r,q]
theorem kE.mw{st:!Stmt}{t:TS}(h:kE X.mw st t):kE X st t:=λa s b H D I hw=>
 wpAny_mono (h a s b H D (I.tH _) hw) (λ_ _ q=>q.l7) λ_ _ z=>False.elim z
end
section
variable {st : Stmt}
def aaR:TS:=λD a H=>D.nx a H
def UO(t u:TS):TS:=λD a H=>t {D with nx:=u D} a H
def qD:kE X [] aaR:=λ_ _ a H _ I h=>aeY #[a,H,I,h]
def aI(h1:PS X st t)(h2:kE X rest u):kE X (st::rest)^UO t u:=by
 intro pins s σ H D I h;apply wpAny_execs_cons (thn (h1 pins s σ H {D with nx:=u D} I h) λf s1 q=>?_)
 cases f with
 |next=>
  let#[aA,H',I',q]:=q;show h2 pins s1 aA H' D I' q
 |ret v=>show q
 |brk=>show q
 |cont=>show q
def bH(h1:PS X st t):kE X [st] t:=by
 intro pins s σ H D I h;apply wpAny_execs_cons (thn (h1 pins s σ H D I h) λf s1 q=>?_);cases f with
 |next=>show wpAny_execs_nil q
 |ret v=>show q
 |brk=>show q
 |cont=>show q
def Inv.quiet(I:Inv X a b H s):interactive X.env=false:=by simp[interactive,I.ok.kind]
def aaO(b:TE):TS:=λD a H=>b a H λ_ c=>D.nx a c
def dD(c:PE X e te)(d:hB e V pos.line X.env=pure At<|>zn):PS X (.Expr e pos)^aaO te:=by
 intro a s b H D I h;apply wpAny_Expr_any (thn (c a s b H _ I h) λv j hH=>?_) I.quiet d;let#[x,f,g,k,i]:=hH;show #[b,f,g,i]
def Y5(a:TE):TS:=λD b H=>a b H D.rt
def iy(c:PE X e te):PS X (.Return (J e) pos)^Y5 te:=by
 intro a s b H D I h;apply wpAny_Return_some (thn (c a s b H _ I h) λv j hH=>?_);let#[x,d,f,g,i]:=hH;show #[x,b,d,f,g,i]
def ac4(c:TT)(t u:TS):TS:=λD a H=>c a H λb d=>if b=L then t D a d else u D a d
def B7(m:PT X c tc)(n:kE X a t)(o:kE X b u):PS X (.If c a b pos)^ac4 tc t u:=by
 intro f s g H D I h;apply wpAny_If (thn (m f s g H _ I h) λd i hH=>?_);let#[j,k,l]:=hH;cases d with
 |true=>show n f i g j D k l
 |false=>show o f i g j D k l
def XF:TS:=λ_ _ _=>False
def PK:PS X st XF:=λ_ _ _ _ _ _ h=>h.elim
end
abbrev TG:=V'->St->Hp->(St->Hp->Prop)->Prop
abbrev Dh:=!V'->St->Hp->(St->Hp->Prop)->Prop
def PG(X:Cx)(a:Expr)(t:TG):Prop:=
 ∀(b:!(Ad×Obj))(s:Shared)(c:St)(H:Hp)(v:V')(u:Value)(Q:St->Hp->Prop),Inv X b c H s->RelV v u->t v c H Q->
  wpAny (model X.prog X.w) X.A (assign a X.env u) (λ_ f=>∃d e,Inv X b d e f/\Q d e) X.xe s
def Ft(X:Cx)(g:!Expr)(t:Dh):Prop:=
 ∀(a:!(Ad×Obj))(s:Shared)(b:St)(H:Hp)(c:!V')(d:!Value)(Q:St->Hp->Prop),Inv X a b H s->Vals c d->t c b H Q->
  wpAny (model X.prog X.w) X.A (assignInOrder ((assignEach g X.env).map (·.2)) d) (λ_ h=>∃e f,Inv X a e f h/\Q e f) X.xe s
abbrev HG:=V'->V'->V'->Hp->(Hp->Prop)->Prop
def QC(X:Cx)(t:HG):Prop:=
 ∀(a:!(Ad×Obj))(s:Shared)(b:St)(H:Hp)(o i v:V')(c d u:Value)(Q:Hp->Prop),Inv X a b H s->RelV o c->RelV i d->RelV v u->t o i v H Q->
  wpAny (model X.prog X.w) X.A (setItem c d u) (λ_ f=>∃e,Inv X a b e f/\Q e) X.xe s
abbrev Vf:=V'->V'->Hp->VK->Prop
def Ze(X:Cx)(c:Operator)(t:Vf):Prop:=
 ∀(a:!(Ad×Obj))(s:Shared)(b:St)(H:Hp)(x y:V')(v u:Value)(Q:VK),Inv X a b H s->RelV x v->RelV y u->t x y H Q->
  wpAny (model X.prog X.w) X.A (inplaceOp c v u) (EP X a b Q) X.xe s
section
def Bh(i:Nat):TG:=λv a H Q=>Q (a.set i^J v) H
def cK{i:Nat}(b:X.N.Nodup)(c:X.N[i]?\x)(d:Loc X.env.scope x)(e:X.fn x=L\/X.env.scope.names.lookup x\.local<|>yy):PG X (.Name x f)^Bh i:=by
 intro a s j H v u Q I r h;show wpAny_assign_Name^kR I b c d r (λk g=>#[_,H,g,h]) e
def abF:Dh:=λa b H Q=>a= []/\Q b H
def Z9(t:TG)(u:Dh):Dh:=λa b H Q=>∃v r,a=v::r/\t v b H λc d=>u r c d Q
def nv:Ft X [] abF:=by
 intro a s b H c d Q I r h;let#[e,h]:=h;subst e;cases r;show assignInOrder_nil #[b,H,I,h]
theorem fU(c:PG X e t)(d:Ft X b u)
  (f:(hX (e::b) X.env).map (·.2)=k8 e X.env::(hX b X.env).map (·.2)<|>zn):Ft X (e::b)^Z9 t u:=by
 intro a s g H w x Q I r h;let#[v,y,i,h]:=h;subst i;cases r with
 |cons r j=>
  rw[f];apply afn (thn (c a s g H _ _ _ I r h) λ_ k l=>?_);rfl';let#[n,o,p,q]:=l;ac_rfl;show d a k n o _ _ Q p j q
def abG(K:ac)(n:Nat)(t:Dh):TG:=λv c H Q=>∃a b,v= .ref a/\fN K H a b/\b.length=n/\t b c H Q
def r6(i:X.calm=L)(h:Ft X d t)
  (j:(hX d X.env).length=n<|>zn) (l:(hX d X.env).findIdx? (·.1)=V<|>zn):PG X (.Tuple d k pos)^abG X.K n t:=by
 intro c s f H v u Q I r hw;rfl';let#[a,p,q,w,x,hw]:=hw;subst q;subst r;let#[y,g,A,G]:=I.tuple w;ac_rfl;apply assign_Tuple_tuple (I.ok.hd i) A (by simp[j,<-x,g.length]) l λB C=>?_
 have E:Inv X c f H {s with heap:=B}:=I.kept (t':=s.toks) λb o e=>C b o (bP^Da e) e
 show h c _ f H p _ Q E (g) hw
def Yr(b c:TE)(t:HG):TG:=λv a H Q=>b a H λo d=>c a d λi e=>t o i v e λf=>Q a f
def GL(l:PE X o g)(m:PE X i j)(n:QC X t)
  (p:(∀v,k8 (.Subscript o i pos) X.env v=(do
   let b <-im [v]^gj o X.env
   let c <-im [v,b] (gj i X.env)
   jo pos
   im [v,b,c] (setItem b c v)
   release [v,b,c] []))<|>xz):PG X (.Subscript o i pos)^Yr g j t:=by
 intro a s f H v u Q I r h;rw[p];apply a_^IR (thn (l a s f H _ I h) λb q d=>?_);rfl';let#[x,w,A,B,C]:=d;ac_rfl;apply a_^IR (thn (m a q f w _ A C) λc E d=>?_);rfl';let#[y,F,G,J',L']:=d;ac_rfl;apply a_^adI^a_^IR (thn (n a E f F x y v b c u _ G B J' r L') λ_ P d=>?_);rfl';let#[M,N,O]:=d;ac_rfl;show wpAny_release #[f,M,N,O]
def Od(b:TE)(g:TG):TS:=λD a H=>b a H λx c=>g x a c D.nx
def r9(f:PE X e c)(i:PG X b g)(j:lf [b] e pos.line X.env=pure At<|>zn)(hw:li [b] e X.env=pure V<|>zn)
  (k:(hX [b] X.env).map (·.2)= [k8 b X.env]<|>zn):PS X (.Assign [b] e pos)^Od c g:=by
 intro a s d H D I h;apply wpAny_Assign_stores (thn (f a s d H _ I h) λv l hH=>?_) j hw;let#[x,m,n,o,p]:=hH;rw[k];show thn (i a l d m x v _ n o p) λ_ r q=>q
def cc{i:Nat}(d:X.N.Nodup)(f:X.N[i]?\x)(g:Loc X.env.scope x)(j:PE X e c)(k:hB e (J^.Name x a) pos.line X.env=pure At<|>zn)(l:X.fn x=L\/X.env.scope.names.lookup x\.local<|>yy):
  PS X (.Assign [.Name x a] e pos)^Od c^Bh i:=by
 intro b s m H D I h;apply wpAny_Assign_Name (thn (j b s m H _ I h) λv t hH=>?_) k;let#[y,n,o,p,q]:=hH;show kR o d f g p (λu r=>#[_,n,r,q]) l
def ac7(i j:Nat)(b:TA):TS:=λD a H=>b a H λc d=>∃v w,c= [v,w]/\D.nx ((a.set i^J v).set j^J w) d
theorem W7{kt k2 Md}(E:X.calm=L)(n:X.N.Nodup)(F:X.N[i]?\x)(G:X.N[j]?\y)(J':i≠j)
  (r:X.env.scope.names.lookup x\.local) (t:X.env.scope.names.lookup y\.local) (L':PA X [a,b] m)
  (hw:li [.Tuple [.Name x k, .Name y py] kt pt] (.Tuple [a,b] k2 Md) X.env=pure^J [x,y])
  (M:lf [.Tuple [.Name x k, .Name y py] kt pt] (.Tuple [a,b] k2 Md) pos.line X.env=pure At<|>zn):
  PS X (.Assign [.Tuple [.Name x k, .Name y py] kt pt] (.Tuple [a,b] k2 Md) pos)^ac7 i j m:=by
 intro c s u H D I h;rw[exec_Assign_arm];apply a_^adI ?_;rw[M];apply a_^ir ?_;rw[tz ∅]
 apply a_^Tuple_ (thn (L' _ c s u H _ I h) λO d P=>?_);let#[vs,B,Q,R,l]:=P;let#[v,w,S,l]:=l;subst S
 obtain⟨f,g,rfl,T,U⟩:∃f g,O= [f,g]/\RelV v f/\RelV w g:=by
  cases R with
  |cons p q=>
   cases q with
   |cons Y' Z=>
    cases Z;show#[_,_,Y,p,Y']
 apply adN ?_^by change 2<=sizeLine;decide
 have I2:Inv X c u B {d with heap:=d.heap.push {cls:= .type "tuple",data:= .seq [f,g].toArray}}:=Q.kept (t':=d.toks) λb o e=>AC _ e
 rw[hw];apply a_^ir ?_;change e_ (ei X.prog X.w) X.A (do rule "assign.swapped-stores";let items <-unpackItems (.ref d.heap.objs.size) 2 V;assignInOrder [λv=>bindName X.env y v,λv=>bindName X.env x v] items.reverse;pure Flow.next) _ _ _
 apply a_^adZ^a_ (unpackItems_tuple (items:= [f,g].toArray) (I.ok.hd E) (IsTup.new d.heap _) λh' oi=>?_);have I3:=I2.kept (h':=h') (t':=d.toks) λb o e=>oi b o (bP^Da e) e;change e_ _ _ (assignInOrder [λv=>bindName X.env y v,λv=>bindName X.env x v] [g,f]>>=λ_=>pure Flow.next) _ _ _;apply a_^afn^wpAny_bindName^kR I3 n G (.inl t) U (λs2 I4=>?_)^.inr t;apply afn^wpAny_bindName^kR I4 n F (.inl r) T (λs3 C=>assignInOrder_nil^ir ?_)^.inr r;rw[List.set_comm _ _^Ne.symm J'] at C;show#[_,B,C,l]
def aaL(b c d:TE)(e:V'->V'->Hp->VK->Prop)(f:Vf)(g:HG):TS:=λD a H=>b a H λo h=>c a h λi j=>e o i j λx k=>d a k λy l=>f x y l λz m=>g o i z m λn=>D.nx a n
def X6(X:Cx)(t:V'->V'->Hp->VK->Prop):Prop:=
 ∀(a:!(Ad×Obj))(s:Shared)(b:St)(H:Hp)(o i:V')(c d:Value)(Q:VK),Inv X a b H s->RelV o c->RelV i d->t o i H Q->
  wpAny (model X.prog X.w) X.A (getItem c d) (EP X a b Q) X.xe s
def T4(B:PE X o l)(C:PE X i m)(E:X6 X p)(F:PE X e n)(G:Ze X t q)(J':QC X r)
  (L':(∀b c new,augStore i b c new=(do im [new,b,c]^setItem b c new;release [new,b,c] [];pure .next))<|>wr):PS X (.AugAssign (.Subscript o i A) t e pos)^aaL l m n p q r:=by
 intro a s d H D I h;apply wpAny_AugAssign_SubscriptAny (thn (B a s d H _ I h) λb M hH=>?_) L';let#[u,N,O,w,P]:=hH;apply thn (C a M d N _ O P) λc Q f=>?_;rfl';let#[x,R,S,y,T]:=f;ac_rfl;apply thn (E a Q d R u x b c _ S w y T) λk U f=>?_;rfl';let#[Y',Z,I3,r3,q3]:=f;ac_rfl;apply thn (F a U d Z _ I3 q3) λv s4 f=>?_;rfl';let#[x4,H4,I4,r4,q4]:=f;ac_rfl;apply thn (G a s4 d H4 Y' x4 k v _ I4 r3 r4 q4) λnew s5 f=>?_;rfl';let#[x5,H5,I5,r5,q5]:=f;ac_rfl;show thn (J' a s5 d H5 u x x5 b c new _ I5 w y r5 q5) λ_ s6 #[H6,I6,q6]=>#[d,H6,I6,q6]
def ipI(f:Int->Int->Int):Vf:=λx y H Q=>∃i j,x= .int i/\y= .int j/\Q (.int^f i j) H
end
section
def Of(c:TT)(h:TS):TS:=λD a H=>∃W:Nat->St->Hp->Prop,(∃m,W m a H)/\∀m a H,W m a H->
 c a H λb d=>if b=L then ∃N:St->Hp->Prop,(∀e f,N e f->∃g,g<m/\W g e f)/\h {D with nx:=N,ct:=N,bk:=D.nx} a d else D.nx a d
def E1{c:gc}{body:!Stmt}{tc:TT}{tb:TS}(hp:nr (ei X.prog X.w) X.A X.env X.xe)(hc:PT X c tc)(hb:kE X body tb):PS X (.While c body [] pos)^Of tc tb:=by
 intro pins s σ H D I h;obtain⟨W,⟨m0,w0⟩,turn⟩:=h;apply wpAny_While^codeAny_whileLoop (λn s'=>∃aA H',Inv X pins aA H' s'/\W n aA H') ?_ m0 #[σ,H,I,w0];intro n s1 z20;rfl';let#[M8,H1,I1,w1]:=z20;ac_rfl;apply wpAny_passesOwn hp (thn (hc pins s1 M8 H1 _ I1^turn n M8 H1 w1) λb s2 aW=>?_);rfl';let#[H2,I2,q2]:=aW;ac_rfl;cases b with
 |true=>
  rfl';let#[N,hN,q2]:=q2;ac_rfl;rw[if_pos rfl];apply wpAny_passesOwn hp (thn (hb pins s2 M8 H2 _ I2 q2) λf s3 q3=>?_);cases f with
  |next=>
   let#[Aj,H3,I3,n3]:=q3;let#[m',hm,w3]:=hN Aj H3 n3;show#[m',hm,Aj,H3,I3,w3]
  |cont=>
   let#[Aj,H3,I3,n3]:=q3;let#[m',hm,w3]:=hN Aj H3 n3;show#[m',hm,Aj,H3,I3,w3]
  |brk=>show q3
  |ret v=>show q3
 |false=>
  rw[if_neg c9];show wpAny_execs_nil #[M8,H2,I2,q2]
end
structure It where
 go:Nat->Hp->Prop
 yld:Nat->Hp->V'->Hp->Prop
 stop:Nat->Hp->Prop
def eX(X:Cx)(a:!(Ad×Obj))(H:Hp)(b:Ad):Prop:=
 H b=V/\b≠X.env.locals/\b∉X.fs/\(b∈X.ex\/X.s₀.heap.objs.size<=b)/\(∀x c,X.env.cells.lookup x\c->c≠b)/\∀p∈X.pn++a,p.1≠b
def Inv.IC(I:Inv X a g H s)(d:s.heap.objs.size<=b)(h:f b=V):eX X a f b:=by
 apply#[h,j6^cZ I.lt d,I.YM d, .inr^jf I.sz d,λx c e z=>?_,λp i z=>?_]
 .obtain⟨v,q⟩:=I.cell x c e
  show absurd (cZ q.lt^by rw[z];show d)^kC _
 .show absurd (cZ (Da (I.pin p i).1)^by rw[z];show d)^kC _
structure Turn (P:ff) (w:f8) (K:ac) (tg:gc) (J':It) (fp:!Ad) (it:Ad) (tn:Nat->Heap->Prop):Prop where
 mem:it∈fp
 obj:∀i h,tn i h->∀b∈fp,∃o,h.get? b\o/\∀v,o.data≠ .cell v
 keep:∀i h h',tn i h->(∀b∈fp,∀o,h.get? b\o->h'.get? b\o)->tn i h'
 item:∀(X:Cx),X.prog=P->X.w=w->X.K=K->X.calm=L->∀(i:Nat)(pins:!(Ad×Obj))(s:c_)(σ:St)(H:Hp)(E:b_->c_->Prop),Inv X pins σ H s->(∀b∈fp,eX X pins H b)->tn i s.heap->J'.go i H->
  e_ (ei P w) X.A (ni^.ref it) (λr s1=>∃u,r\u/\
   e_ (ei P w) X.A (j4 tg (.ref it) u) (λ_ s2=>∃x H',Inv X pins σ H' s2/\RelV x u/\J'.yld i H x H'/\tn (i+1) s2.heap/\∀b∈fp,H' b=V) E s1) E s
 done:∀(X:Cx),X.prog=P->X.w=w->X.K=K->X.calm=L->∀(i:Nat)(pins:!(Ad×Obj))(s:c_)(σ:St)(H:Hp)(E:b_->c_->Prop),Inv X pins σ H s->(∀b∈fp,eX X pins H b)->tn i s.heap->J'.stop i H->
  e_ (ei P w) X.A (ni^.ref it) (λr s1=>r=V/\Inv X pins σ H s1) E s
 self:∀(A:gs)(i:Nat)(s:c_)(Q:b_->c_->Prop)(E:b_->c_->Prop),tn i s.heap->Q (.ref it) s->e_ (ei P w) A (pyIter^.ref it) Q E s
abbrev TI:=St->Hp->(It->Hp->Prop)->Prop
def PIE(X:Cx)(a:!(Ad×Obj))(h:St)(i:Expr)(R:It->Hp->Prop)(j:Value)(d:Shared):Prop:=
 ∃(e:Ad)(f:!Ad)(g:Nat->Heap->Prop)(J':It)(c:Hp),j= .ref e/\Inv X a h c d/\Turn X.prog X.w X.K i J' f e g/\g 0 d.heap/\(∀b∈f,eX X a c b)/\R J' c
def PI(X:Cx)(c iter:Expr)(d:TI):Prop:=
 ∀(a:!(Ad×Obj))(s:Shared)(b:St)(H:Hp)(R:It->Hp->Prop),Inv X a b H s->d b H R->
  wpAny (model X.prog X.w) X.A (eval iter X.env) (λv e=>wpAny (model X.prog X.w) X.A (pyIter v) (PIE X a b c R) X.xe e) X.xe s
theorem RH{M:Model}{A:gs}{E:b_->c_->Prop}{s:c_}{b:gc}{c:Ad}{u:b_}{o:Obj}{n:String}{d:Array b_}{Q:Unit->c_->Prop}(e:s.heap.get? c\o)(f:o.cls= .type n)(g:o.data= .fields d)
  (i: ["enumerate","zip","dict_itemiterator","dict_reverseitemiterator","odict_iterator","itertools.zip_longest","itertools.pairwise"].contains n=At) (a:Q ⟨⟩ s):e_ M A (j4 b (.ref c) u) Q E s:=by
 unfold j4
 cases b<;>first
  |show gm a
  | (cases u<;>first
    |show gm a
    | (apply a_^wpAny_load e ?_
       rw[f,g];change e_ M A (if (["enumerate","zip","dict_itemiterator","dict_reverseitemiterator","odict_iterator","itertools.zip_longest","itertools.pairwise"].contains n&&d[0]? ==J^lp _)=L then _ else _) Q E s;rw[if_neg^by intro h;rw[i,Bool.false_and] at h;cases h]
       show gm a))
def OA(K:ac)(a:Ad):It:=
 #[λi H=>∃b x,aK K H a b/\b[i]?\x,λi H x c=>c=H/\∀b,aK K H a b->b[i]?\x,λi H=>∃b,aK K H a b/\b.length<=i]
def HF(lo:Int)(n:Nat):It:=#[λi _=>i<n,λi H x a=>a=H/\x= .int (lo+i),λi _=>n<=i]
theorem MN{P:ff}{w:f8}{K:ac}{R:gc}(a g:Ad):Turn P w K R (OA K a) [g] g (λi h=>h.IsListIter g a i) where
 mem:=by simp
 obj:=λi h st b j=>by
  have e:b=g:=by simpa using j
  subst e;let#[o,e,c,d]:=st;show#[o,e,λv z=>by rw[d] at z;cases z]
 keep:=λi h l st k=>st.at λo e=>k g (by simp) o e
 item:=by
  intro X q hw r N i f s O H E I m st t;rfl';subst q hw r;let#[T,x,n,A]:=t;let#[B,C,p,U]:=I.list n;let#[u,Y',Z]:=C.get A;let#[F,G,f2,J',L',M]:=m g^by simp
  ac_rfl;apply wpAny_pyNext_list_item st p.isList (x:=u) (~~~Y') λl Q sb=>?_
  have I1:Inv X f O H {s with heap:=l}:=I.turned (t':=s.toks) (λb o j e=>(sb.2 b j).trans e) F G J' L' M
  let#[o,e,c,d]:=id Q;show#[u,Y,RH (s:={s with heap:=l}) e c d ∅ #[x,H,I1,Z,#[Y,λys hy=>by rw[I.EN hy n];show A],Q,λb j=>(m b j).1]]
 done:=by
  intro X q hw r N i f s O H E I m st t;rfl';subst q hw r;let#[T,n,A]:=t;let#[B,C,p,U]:=I.list n;let#[F,G,f2,J',L',M]:=m g^by simp
  have hl:=C.length;ac_rfl;show wpAny_pyNext_list_end (I.ok.hd N) st p.isList (by simp;lia) λl eb=>#[Y,I.turned (t':=s.toks) (λb o j e=>eb b o j e) F G J' L' M]
 self:=λ_ _ _ _ _ st h=>wpAny_pyIter_listiter st h
def Kc{P:ff}{w:f8}{K:ac}{G:gc}(a:Ad)(lo:Int)(n:Nat):Turn P w K G (HF lo n) [a] a (λi h=>IsRangeIter h a (lo+(i:Nat)*1) ((n:Int)-(i:Nat)) 1) where
 mem:=by simp
 obj:=λi h st b d=>by
  have e:b=a:=by simpa using d
  subst e
  show#[_,st,λv z=>by
   have J':Data.fields _=Data.cell v:=z;cases J']
 keep:=λi h f st k=>k a (by simp) _ st
 item:=by
  intro X j hw l m i c s B H E I g st p;subst j hw l;rfl';let#[r,u,M,x,y,A]:=g a^by simp
  ac_rfl;have W:=Walks.range (prog:=X.prog) (w:=X.w) (I.ok.hd m) a lo 1 n;apply W.item i s _ _ p st λv f C N F O=>?_;let#[t,rfl]:=N;have Q:Inv X c B H {s with heap:=f,toks:=C}:=I.turned (λb o d e=>O b o (~~~d) e) r u x y A
  apply#[_,Y,RH (s:={s with heap:=f,toks:=C}) (n:="range_iterator") F rfl rfl ∅ #[.int (lo+i),H,Q,#[t,?_],#[Y,Y],F,λb d=>(g b d).1]]
  rw[Int.mul_one]
 done:=by
  intro X j hw l m i c s B H E I g st p;subst j hw l;rfl';let#[r,u,M,x,y,A]:=g a^by simp
  ac_rfl;show wpAny_pyNext_range_end (I.ok.hd m) st (by have:n<=i:=p;lia) λf R=>#[Y,I.turned (t':=s.toks) (λb o d e=>R b o d e) r u x y A]
 self:=λ_ _ _ _ _ st h=>wpAny_pyIter_rangeiter st h
section
def aao(K:ac)(c:TE):TI:=λd H R=>c d H λx b=>∃a,x= .ref a/\(∃e,aK K b a e)/\R (OA K a) b
def lu{i:TE}(j:PE X l i):PI X tg l^aao X.K i:=by
 intro c s k H R I h;apply thn (j c s k H _ I h) λv d m=>?_;rfl';let#[x,r,f,t,u]:=m;ac_rfl;rfl';obtain⟨a,e,⟨B,w⟩,q⟩:=u;subst e;subst t;let#[y,C,p,E]:=f.list w;ac_rfl;apply wpAny_pyIter_list p.isList ?_;apply#[d.heap.objs.size,[d.heap.objs.size],_,_,r,Y,f.kept (t':=d.toks) λb o e=>AC _ e,MN a _,#[_,GM _ rfl,Y,Y],λb A=>?_,q];have e:b=d.heap.objs.size:=by simpa using A
 subst e;show f.IC (bu _)^f.hok.fresh^bu _
def E2{c:!(Ad×Obj)}{d:St}{H:Hp}{s:c_}{R:It->Hp->Prop}{E:b_->c_->Prop}{lo a:Int}{t u v:Tok}{f:Nat}(I:Inv X c d H s)(h: -(2<<<62)<=lo)(i:lo<2<<<62)(j: -(2<<<62)<=a)(k:a<2<<<62)
  (q:R (HF lo (a-lo).toNat) H):e_ (ei X.prog X.w) X.A (pyIter^.ref s.heap.objs.size) (PIE X c d tg R) E {s with heap:=s.heap.push {cls:= .type "range",data:= .fields [.int lo t, .int a u, .int 1 v].toArray},toks:=f}:=by
 apply wpAny_pyIter_range (IsRange.new ..) (small_one h i j k) ?_;have g:Inv X c d H {s with heap:=s.heap.push {cls:= .type "range",data:= .fields [.int lo t, .int a u, .int 1 v].toArray},toks:=f}:=I.kept λb o e=>AC _ e
 apply#[(s.heap.push {cls:= .type "range",data:= .fields [.int lo t, .int a u, .int 1 v].toArray}).objs.size,[(s.heap.push {cls:= .type "range",data:= .fields [.int lo t, .int a u, .int 1 v].toArray}).objs.size],_,_,H,Y,
  g.kept (t':=f) λb o e=>AC _ e,Kc _ lo (a-lo).toNat,?_,λb l=>?_,q]
 .have m:lo+((0:Nat):Int)*1=lo:=by simp
  have n:(((a-lo).toNat:Nat):Int)-((0:Nat):Int)=Builtin.Range.rangeSize lo a 1:=by rw[rangeSize_one];split<;>lia
  change IsRangeIter _ _ (lo+((0:Nat):Int)*1) ((((a-lo).toNat:Nat):Int)-((0:Nat):Int)) 1;rw[m,n];show GM _ rfl
 .have e:b=(s.heap.push {cls:= .type "range",data:= .fields [.int lo t, .int a u, .int 1 v].toArray}).objs.size:=by simpa using l
  subst e;show g.IC (bu _)^g.hok.fresh^bu _
def aap(a:TA):TI:=λb H R=>a b H λc d=>∃j:Int,c= [.int j]/\-(2<<<62)<=j/\j<2<<<62/\R (HF 0 j.toNat) d
def aaq(a:TA):TI:=λb H R=>a b H λc d=>∃i j:Int,c= [.int i, .int j]/\(-(2<<<62)<=i/\i<2<<<62/\-(2<<<62)<=j/\j<2<<<62)/\R (HF i (j-i).toNat) d
def lA(g:Gl X "range")(i:X.mg "range"=V)(k:PA X [a] f)(l:d_ [a] X.env= [(At,gj a X.env)]<|>zn):PI X tg (.Call (.Name "range" p) [a] [] b)^aap f:=by
 intro c s m H R I h;apply Call_^iu I g i boot_range^PP (thn (k b c s m H _ I h) λw x hH=>?_) l rfl;let#[y,A,n,o,d]:=hH;let#[j,e,d,u,q]:=d;subst e;cases o with
 |cons r v=>
  cases v;let#[t,rfl]:=r;show call_range_1^E2 n () () d u^~~~q
def Ma(m:Gl X "range")(n:X.mg "range"=V)(o:PA X [a,b] k)(u:d_ [a,b] X.env= [(At,gj a X.env),(At,gj b X.env)]<|>zn)(l:d_ [b] X.env= [(At,gj b X.env)]<|>zn):
  PI X tg (.Call (.Name "range" p) [a,b] [] c)^aaq k:=by
 intro d s v H R I h;apply Call_^iu I m n boot_range^PP (thn (o c d s v H _ I h) λE F hH=>?_) (by rw[u,l])^by rw[l];rfl
 let#[G,J',w,x,f]:=hH;obtain⟨i,j,e,⟨f,y,A,B⟩,q⟩:=f;subst e;cases x with
 |cons r g=>
  cases g with
  |cons C g=>
   cases g;let#[t,rfl]:=r;let#[L',rfl]:=C;show call_range_2^E2 w f y A B q
def ac3(e:TI)(g:TG)(f:TS):TS:=λD a H=>e a H λJ' h=>∃W:Nat->Nat->St->Hp->Prop,(∃m,W 0 m a h)/\∀i m a H,W i m a H->
 (J'.stop i H/\D.nx a H)\/(J'.go i H/\∃N:St->Hp->Prop,(∀c b,N c b->∃d,d<m/\W (i+1) d c b)/\∀x b,J'.yld i H x b->g x a b λj k=>f {D with nx:=N,ct:=N,bk:=D.nx} j k)
def oM(a:!Ad)(h:Heap):!(Ad×Obj):=a.filterMap λb=>(h.get? b).map λo=>(b,o)
def fM(c:b∈a)(e:h.get? b\o):(b,o)∈oM a h:=afo.mpr #[b,c,by rw[e];rfl]
def LZ(c:p∈oM a h):p.1∈a/\h.get? p.1\p.2:=by
 let#[b,d,e]:=afo.mp c;cases q:h.get? b with
 |none=>rw[q] at e;cases e
 |some o=>
  rw[q] at e;have f:(b,o)=p:=Do e;subst f;show#[d,q]
def Inv.pinned(I:Inv X a f H s)(i:∀b∈c,eX X a H b)(j:∀b∈c,∃o,s.heap.get? b\o/\∀v,o.data≠ .cell v):Inv X (a++oM c s.heap) f H s:=
 I.wy λp k=>(cM.mp k).elim (λz=>I.pin p^gb _ z) λz=>by
  rfl';let#[g,e]:=LZ z;let#[m,n,q,l]:=i p.1 g;let#[o,h,d]:=j p.1 g;ac_rfl;rw[e] at h;cases h;show#[e,m,n,q,d]
def Inv.kS(I:Inv X (a++pl) b H s):Inv X a b H s:=I.wy λp c=>I.pin p^gb _^kq _ c
theorem jM(E:nr (ei X.prog X.w) X.A X.env X.xe)(hc:X.calm=L)(hi:PI X tg iter wi)(hg:PG X tg g)(c:kE X t tb)
  (hs:(∀x,f_ iter X.env x=pure x)<|>xz):PS X (.For tg iter t [] R)^ac3 wi g tb:=by
 intro a s σ H D I h;apply wpAny_For (thn (hi a s σ H _ I h) λv s1 h1=>thn h1 λGh s2 h2=>?_) hs;rfl';obtain⟨it,F,tn,J',H2,e,I2,T,i9,f2,W,⟨m0,w0⟩,G⟩:=h2;subst e;ac_rfl;have j:∀{q:Hp},(∀b∈F,q b=V)->∀b∈F,eX X a q b:=λhn b c=>#[hn b c,(f2 b c).2];apply codeAny_forLoop_any (λn s'=>∃i L' q,Inv X a L' q s'/\tn i s'.heap/\(∀b∈F,q b=V)/\W i n L' q) ?_ m0 #[0,σ,H2,I2,i9,λb c=>(f2 b c).1,w0];intro n s3 U;rfl';let#[i,M,Q,I3,Ae,O,w3]:=U;ac_rfl
 rcases G i n M Q w3 with ⟨stop,qn⟩ | ⟨go,N,hN,step⟩
 .apply ad1 E (thn (T.done X rfl rfl rfl hc i a s3 M Q X.xe I3 (j O) Ae stop) λr s4 C=>?_)
  let#[Y',I4]:=C;subst Y';show aeY #[M,Q,I4,qn]
 .apply ad1 E (thn (T.item X rfl rfl rfl hc i a s3 M Q X.xe I3 (j O) Ae go) λr s4 C=>?_)
  let#[u,Y',h4]:=C;subst Y';apply ad1 E (thn h4 λ_ s5 C=>?_);rfl';let#[x,H5,I5,r5,y5,Z,tW]:=C;ac_rfl;have Y9:=I5.pinned (j tW)^T.obj _ _ Z;apply ad1 E (thn (hg _ s5 M H5 x u _ Y9 r5^step x H5 y5) λ_ s6 C=>?_);rfl';let#[σ6,H6,I6,q6]:=C;ac_rfl;apply ad1 E (thn (c _ s6 σ6 H6 _ I6 q6) λf s7 y=>?_)
  have again:∀{k:St}{l:Hp},Inv X (a++oM F s5.heap) k l s7->N k l->∃m,m<n/\∃i L' q,Inv X a L' q s7/\tn i s7.heap/\(∀b∈F,q b=V)/\W i m L' q:=λ {k l} p P=>by
   let#[m',hm,w7]:=hN k l P;apply#[m',hm,i+1,k,l,p.kS,T.keep _ _ _ Z λb c o e=>(p.pin (b,o)^gb _^gb _^fM c e).1,λb c=>?_,w7];let#[o,e,d]:=T.obj _ _ Z b c;show(p.pin (b,o)^gb _^gb _^fM c e).2.1
  cases f with
  |next=>let#[k,l,p,P]:=y;show again p P
  |cont=>let#[k,l,p,P]:=y;show again p P
  |brk=>let#[k,l,p,y]:=y;show#[k,l,p.kS,y]
  |ret v=>let#[x7,k,l,p,r7,y]:=y;show#[x7,k,l,p.kS,r7,y]
end
def OT{K:ac}{a:Ad}{xs:!V'}{g:TG}{k:TS}{D:Ends}{b:St}{H:Hp}(c:Nat->St->Hp->Prop)(o:c 0 b H)(r:∀i b H,i<=xs.length->c i b H->aK K H a xs)
  (s:∀i x b H,xs[i]?\x->c i b H->g x b H λf h=>k {D with nx:=c (i+1),ct:=c (i+1),bk:=D.nx} f h) (t:∀b H,c xs.length b H->D.nx b H):
  ∃W:Nat->Nat->St->Hp->Prop,(∃m,W 0 m b H)/\∀i m b H,W i m b H->
   ((OA K a).stop i H/\D.nx b H)\/((OA K a).go i H/\∃N:St->Hp->Prop,(∀j d,N j d->∃l,l<m/\W (i+1) l j d)/\∀x d,(OA K a).yld i H x d->g x b d λf h=>k {D with nx:=N,ct:=N,bk:=D.nx} f h):=by
 apply#[λi m b H=>m=xs.length-i/\i<=xs.length/\c i b H,#[xs.length,by simp,eQ _,o],?_]
 rintro i m b H ⟨rfl,u,p⟩;have q:=r i b H u p
 by_cases n:i<xs.length
 .apply .inr #[#[xs,xs[i],q,by simp[n]],c (i+1),λj d v=>#[xs.length-(i+1),(),Y,n,v],λx d y=>?_]
  let#[e,y]:=y;subst e;show s i x b _ (y xs q) p
 .have e:i=xs.length:=()
  subst e;show .inl #[#[xs,q,bu _],t b H p]
def n6{lo:Int}{n:Nat}{g:TG}{k:TS}{D:Ends}{a:St}{H:Hp}(b:Nat->St->Hp->Prop)(o:b 0 a H)
  (q:∀i a H,i<n->b i a H->g (.int (lo+i)) a H λd f=>k {D with nx:=b (i+1),ct:=b (i+1),bk:=D.nx} d f) (r:∀a H,b n a H->D.nx a H):
  ∃W:Nat->Nat->St->Hp->Prop,(∃m,W 0 m a H)/\∀i m a H,W i m a H->
   ((HF lo n).stop i H/\D.nx a H)\/((HF lo n).go i H/\∃N:St->Hp->Prop,(∀h c,N h c->∃l,l<m/\W (i+1) l h c)/\∀x c,(HF lo n).yld i H x c->g x a c λd f=>k {D with nx:=N,ct:=N,bk:=D.nx} d f):=by
 apply#[λi m a H=>m=n-i/\i<=n/\b i a H,#[n,by simp,eQ _,o],?_]
 rintro i m a H ⟨rfl,t,p⟩
 by_cases j:i<n
 .apply .inr #[j,b (i+1),λh c s=>#[n-(i+1),(),Y,j,s],λx c y=>?_]
  let#[e,y]:=y;subst e y;show q i a _ j p
 .have e:i=n:=()
  subst e;show .inl #[bu _,r a H p]
theorem Qo(g:St->Hp->Prop)(h:St->Hp->Nat)(k:g a H)
  (n:∀a H,g a H->c a H λb d=>if b=L then i {D with nx:=λe f=>g e f/\h e f<h a H,ct:=λe f=>g e f/\h e f<h a H,bk:=D.nx} a d else D.nx a d)
  (mono:∀a H Q j,(∀b d,Q b d->j b d)->c a H Q->c a H j):Of c i D a H:=by
 apply#[λm a H=>m=h a H/\g a H,#[_,Y,k],?_];rintro m a H ⟨rfl,p⟩;apply mono a H _ _ (λb d q=>?_)^n a H p;cases b with
 |true=>show#[_,λe f #[o,l]=>#[_,l,Y,o],q]
 |false=>show q
abbrev R2:=V'->V'->Hp->VK->Prop
def OpR(X:Cx)(f:Value->Value->Sem Value)(r:R2):Prop:=
 ∀(a:!(Ad×Obj))(s:Shared)(b:St)(H:Hp)(x y:V')(v u:Value)(Q:VK),Inv X a b H s->RelV x v->RelV y u->r x y H Q->
  wpAny (model X.prog X.w) X.A (f v u) (EP X a b Q) X.xe s
def UnR(X:Cx)(f:Value->Sem Value)(r:V'->Hp->VK->Prop):Prop:=
 ∀(a:!(Ad×Obj))(s:Shared)(b:St)(H:Hp)(x:V')(v:Value)(Q:VK),Inv X a b H s->RelV x v->r x H Q->
  wpAny (model X.prog X.w) X.A (f v) (EP X a b Q) X.xe s
def CallR(X:Cx)(f:Value)(r:!V'->Hp->VK->Prop):Prop:=
 ∀(a:!(Ad×Obj))(s:Shared)(b:St)(H:Hp)(c:!V')(d:!Value)(Q:VK),Inv X a b H s->Vals c d->r c H Q->
  wpAny (model X.prog X.w) X.A (call f d) (EP X a b Q) X.xe s
def aa8(X:Cx)(r:V'->Hp->(Bool->Hp->Prop)->Prop):Prop:=
 ∀(a:!(Ad×Obj))(s:Shared)(b:St)(H:Hp)(x:V')(v:Value)(Q:Bool->Hp->Prop),Inv X a b H s->RelV x v->r x H Q->
  wpAny (model X.prog X.w) X.A (truthy v) (TP X a b Q) X.xe s
def Hf(r:R2)(b c:TE):TE:=λa H Q=>b a H λx d=>c a d λy e=>r x y e Q
def tUn(r:V'->Hp->VK->Prop)(a:TE):TE:=λb H Q=>a b H λx c=>r x c Q
def rI(C:Int->Int->Prop)(g:Int->Int->V'):R2:=λx y H Q=>∃i j,x= .int i/\y= .int j/\C i j/\Q (g i j) H
def GO(g:Int->Int->V'):R2:=λx y H Q=>∃i j,x= .int i/\y= .int j/\Q (g i j) H
def rU(g:Int->V'):V'->Hp->VK->Prop:=λx H Q=>∃i,x= .int i/\Q (g i) H
section
def QI(l:PE X a ta)(m:PE X b tb){d:!(Ad×Obj)}{s:Shared}{e:St}{H:Hp}{R:V'->V'->Hp->Prop}(I:Inv X d e H s)
  (h:ta e H λx k=>tb e k λy g=>R x y g) {Q:Value->Shared->Prop} {f:Value->Value->Sem Value}
  (n:∀v u j x y g,Inv X d e g j->RelV x v->RelV y u->R x y g->wpAny (model X.prog X.w) X.A (f v u) Q X.xe j):
  wpAny (model X.prog X.w) X.A (eval a X.env) (λv i=>wpAny (model X.prog X.w) X.A (eval b X.env) (λu o=>wpAny (model X.prog X.w) X.A (f v u) Q X.xe o) X.xe i) X.xe s:=by
 apply thn (l d s e H _ I h) λv p hH=>?_;let#[x,k,q,r,t]:=hH;apply thn (m d p e k _ q t) λu j hH=>?_;let#[y,g,B,C,E]:=hH;show n v u j x y g B r C E
def dB(f:OpR X (i_ e) r)(g:PE X a ta)(i:PE X b tb):PE X (.BinOp a e b pos)^Hf r ta tb:=by
 intro d s j H Q I h;show wpAny_BinOp (QI g i I h λv u k x y l m n o q=>f d k j l x y v u Q m n o q)
def aaD(g:UnR X (unaryOp e) r)(i:PE X a ta):PE X (.UnaryOp e a pos)^tUn r ta:=by
 intro d s f H Q I h;apply UnaryOp_ (thn (i d s f H _ I h) λv j hH=>?_);let#[x,k,l,m,n]:=hH;show g d j f k x v Q l m n
def WM{f:b_->b_->lD b_}{C:Int->Int->Prop}{g:Int->Int->Int}
  (rule:∀(i j:Int)(t u:Tok)(s:c_)(Q:b_->c_->Prop)(E:b_->c_->Prop),C i j->Q (.int (g i j) s.toks) {s with toks:=s.toks+1}->e_ (ei X.prog X.w) X.A (f (.int i t)^.int j u) Q E s):
  OpR X f (rI C λi j=> .int^g i j):=by
 intro d s n H x y v u Q I e k h;let#[i,j,rfl,rfl,l,q]:=h;let#[t,rfl]:=e;let#[m,rfl]:=k;show rule i j t m s _ _ l #[.int^g i j,H,I.tok _,#[_,Y],q]
def YT{f:b_->b_->lD b_}{g:Int->Int->Int}
  (rule:∀(i j:Int)(t u:Tok)(s:c_)(Q:b_->c_->Prop)(E:b_->c_->Prop),Q (.int (g i j) s.toks) {s with toks:=s.toks+1}->e_ (ei X.prog X.w) X.A (f (.int i t)^.int j u) Q E s):
  OpR X f (GO λi j=> .int^g i j):=by
 intro d s m H x y v u Q I e k h;let#[i,j,rfl,rfl,q]:=h;let#[t,rfl]:=e;let#[l,rfl]:=k;show rule i j t l s _ _ #[.int^g i j,H,I.tok _,#[_,Y],q]
def TC{f:b_->b_->lD b_}{g:Int->Int->Bool}
  (rule:∀(i j:Int)(t u:Tok)(s:c_)(Q:b_->c_->Prop)(E:b_->c_->Prop),Q (.bool^g i j) s->e_ (ei X.prog X.w) X.A (f (.int i t)^.int j u) Q E s):
  OpR X f (GO λi j=> .bl^g i j):=by
 intro d s m H x y v u Q I e k h;let#[i,j,rfl,rfl,q]:=h;let#[t,rfl]:=e;let#[l,rfl]:=k;show rule i j t l s _ _ #[.bl^g i j,H,I,Y,q]
def X5(i j:Int):Prop:=0<j/\j<1073741824
def aa3(i j:Int):Prop:=0<=j/\j<=1000000/\i.natAbs<2<<<64
def M9(i j:Int):Prop:=(-(2<<<64)<i/\i<2<<<64)\/(-(2<<<64)<j/\j<2<<<64)
def M9.ok(h:M9 i j):IntMulOk i j:=by
 rcases h with ⟨d,e⟩ | ⟨d,e⟩
 .show .of_left^intBits_le_64 d e
 .show .of_right^intBits_le_64 d e
def i4:OpR X (binaryOp .Add) (GO λi j=> .int (i+j)):=YT λ_ _ _ _ _ _ _ q=>add_int q
def oJ:OpR X (binaryOp .Mult) (rI M9 λi j=> .int (i*j)):=WM λ_ _ _ _ _ _ _ d q=>mul_int q d.ok
def TH:OpR X (i_ .FloorDiv) (rI X5 λi j=> .int (i / j)):=WM λi j _ _ _ _ _ d q=>by
 have e:(0:Int)<j:=d.1;have f:j<1073741824:=d.2;show floordiv_int () (by rw[Int.fdiv_eq_ediv_of_nonneg i ()];show q)^.inl^PyProof.noPylong_small ()
def rX:OpR X (i_ .Mod) (rI (λ_ j=>0<j) λi j=> .int (i%j)):=WM λi j _ _ _ _ _ d q=>by
 have e:(0:Int)<j:=d;show mod_int' ()^by rw[Int.fmod_eq_emod_of_nonneg i ()];show q
def WQ:OpR X (binaryOp .Pow) (rI aa3 λi j=> .int (i<<<j.toNat)):=WM λ_ _ _ _ _ _ _ d q=>pow_int_small d.1 d.2.1 d.2.2 q
def WS:OpR X (i_ .BitXor) (GO λi j=> .int^Builtin.bitXor i j):=YT λ_ _ _ _ _ _ _ q=>xor_int q
def unI{f:b_->lD b_}{g:Int->Int}
  (rule:∀(i:Int)(t:Tok)(s:c_)(Q:b_->c_->Prop)(E:b_->c_->Prop),Q (.int (g i) s.toks) {s with toks:=s.toks+1}->e_ (ei X.prog X.w) X.A (f^.int i t) Q E s):
  UnR X f (rU λi=> .int^g i):=by
 intro d s j H x v Q I e h;let#[i,rfl,q]:=h;let#[t,rfl]:=e;show rule i t s _ _ #[.int^g i,H,I.tok _,#[_,Y],q]
def XS:UnR X (unaryOp .USub) (rU λi=> .int (-i)):=unI λ_ _ _ _ _ q=>neg_int q
end
def acT:V'->V'->Bool
 | .aT, .aT=>L| .aT, .int _=>L| .int _, .aT=>L| .aT, .bl _=>L| .bl _, .aT=>L| .aT, .str _=>L| .str _, .aT=>L
 | .int _, .int _=>L| .bl _, .bl _=>L| .str _, .str _=>L| .zT _, .zT _=>L
 | .int _, .str _=>L| .str _, .int _=>L| .bl _, .str _=>L| .str _, .bl _=>L
 |_,_=>At
def rNe:R2:=λx y H Q=>acT x y=L/\Q (.bl (not^AT (x=y))) H
def QZ:AT (V'.int i=V'.int j)=(i==j):=by
 rw[CZ];simp
def VC:AT (V'.bl i=V'.bl j)=(i==j):=by
 rw[CZ];simp
def Q0:AT (V'.str i=V'.str j)=(i==j):=by
 rw[CZ];simp
def QY:AT (V'.zT i=V'.zT j)=(i.toList==j.toList):=by
 rw[CZ];cases i;cases j;simp
section
def fh(I:Inv X d f H s)(q:Q (.bl k) H)(e:k=g):EP X d f Q (.bool g) s:=by
 subst e;show#[.bl k,H,I,Y,q]
def aaz:OpR X (gi .NotEq) rNe:=by
 intro pins s σ H x y v u Q I rx ry h;let#[hs,q]:=h;cases x with
 |aT=>
  cases rx;cases y with
  |aT=>cases ry;show PySem.EqNone.ne_none_none^fh I q^by simp
  |bl j=>cases ry;show PySem.EqNone.ne_none_bool^fh I q^by simp
  |int j=>let#[t',rfl]:=ry;show PySem.EqNone.ne_none_int^fh I q^by simp
  |str j=>let#[t',rfl]:=ry;show PySem.EqNone.ne_none_str^fh I q^by simp
  |_=>show absurd (show At=L from hs) c9
 |bl i=>
  cases rx;cases y with
  |aT=>cases ry;show PySem.EqNone.ne_bool_none^fh I q^by simp
  |bl j=>cases ry;show ne_bool^fh I q^congrArg not VC
  |str j=>let#[t',rfl]:=ry;show PySem.EqMixed.ne_bool_str^fh I q^by simp
  |_=>show absurd (show At=L from hs) c9
 |int i=>
  let#[t,rfl]:=rx;cases y with
  |aT=>cases ry;show PySem.EqNone.ne_int_none^fh I q^by simp
  |int j=>let#[t',rfl]:=ry;show ne_int^fh I q^congrArg not QZ
  |str j=>let#[t',rfl]:=ry;show PySem.EqMixed.ne_int_str^fh I q^by simp
  |_=>show absurd (show At=L from hs) c9
 |str i=>
  let#[t,rfl]:=rx;cases y with
  |aT=>cases ry;show PySem.EqNone.ne_str_none^fh I q^by simp
  |bl j=>cases ry;show PySem.EqMixed.ne_str_bool^fh I q^by simp
  |int j=>let#[t',rfl]:=ry;show PySem.EqMixed.ne_str_int^fh I q^by simp
  |str j=>let#[t',rfl]:=ry;show ne_str^fh I q^congrArg not Q0
  |_=>show absurd (show At=L from hs) c9
 |zT i=>
  let#[t,rfl]:=rx;cases y with
  |zT j=>let#[t',rfl]:=ry;show PySem.W.ne_bytes^fh I q^congrArg not QY
  |_=>show absurd (show At=L from hs) c9
 |_=>cases y<;>show absurd (show At=L from hs) c9
def L6:OpR X (compareOp .Lt) (GO λi j=> .bl (AT (i<j))):=TC λ_ _ _ _ _ _ _ q=>lt_int q
def aay:OpR X (compareOp .LtE) (GO λi j=> .bl (AT (i<=j))):=TC λ_ _ _ _ _ _ _ q=>le_int q
def L4:OpR X (compareOp .Gt) (GO λi j=> .bl (AT (j<i))):=TC λ_ _ _ _ _ _ _ q=>gt_int q
def WO:OpR X (gi .Is) (λx y H Q=>y= .aT/\Q (.bl (AT (x= .aT))) H):=by
 intro d s g H x y v u Q I e f h;let#[rfl,q]:=h;subst f;apply is_none_gen^fh I q ?_
 cases x<;>first
  | (cases e;rfl)
  | (let#[t,rfl]:=e;rfl)
def TJ:OpR X (gi .IsNot) (λx y H Q=>y= .aT/\Q (.bl (not^AT (x= .aT))) H):=by
 intro d s g H x y v u Q I e f h;let#[rfl,q]:=h;subst f;apply isnot_none_gen^fh I q ?_
 cases x<;>first
  | (cases e;rfl)
  | (let#[t,rfl]:=e;rfl)
def OpR.or(h:OpR X f r)(k:OpR X f e):OpR X f (λx y H Q=>r x y H Q\/e x y H Q):=by
 intro d s g H x y v u Q I i j q
 rcases q with q|q
 .show h d s g H x y v u Q I i j q
 .show k d s g H x y v u Q I i j q
def aU(b:Expr)(h:d≠ .In<|>zm)(e:d≠ .NotIn<|>zm):behindInMarks d b=false:=by
 have f:(d==CmpOp.In)=false:=by cases d<;>first|rfl|exact absurd rfl h
 have g:(d==CmpOp.NotIn)=false:=by cases d<;>first|rfl|exact absurd rfl e
 cases b<;>simp[behindInMarks,f,g]
def JA(f:OpR X (gi e) r)(g:PE X a ta)(i:PE X b tb)(j:jt e b=At):PE X (.Compare a [e] [b] pos)^Hf r ta tb:=by
 intro d s k H Q I h;show wpAny_Compare1 (QI g i I h λv u l x y m n o p q=>f d l k m x y v u Q n o p q) j
def MG(t:TE):TT:=λd H Q=>t d H λx e=>∃k,x= .bl k/\Q k e
def jY(i:OpR X (gi f) r)(j:PE X a ta)(l:PE X b tb)(m:jt f b=At):PT X (.Compare a [f] [b] pos)^MG^Hf r ta tb:=by
 intro d s g H Q I h
 apply wpAny_isTrue_Compare1 (thn (j d s g H _ I h) λv n hH=>?_) m;let#[x,o,p,q,t]:=hH;apply thn (l d n g o _ p t) λu w hH=>?_;let#[y,A,B,C,E]:=hH
 apply thn (i d w g A x y v u _ B q C E) λc M hH=>?_;let#[z,F,G,J',k,e,L']:=hH
 subst e;subst J';show SC #[F,G,L']
def Hd(r f:R2)(g h tc:TE):TE:=λd H Q=>g d H λx i=>h d i λy j=>r x y j λz e=>∃k,z= .bl k/\
 (if k=L then tc d e λl m=>f y l m Q else Q (.bl At) e)
theorem Px(q:OpR X (gi i) r)(t:OpR X (gi j) l)(w:PE X a ta)(A:PE X b tb)(B:PE X c tc)
  (C:lastMarks [i,j] [b,c]=At<|>wv):PE X (.Compare a [i,j] [b,c] pos)^Hd r l ta tb tc:=by
 intro f s g H Q I h
 apply Compare_chain (thn (w f s g H _ I h) λv E hH=>?_) C;let#[x,F,G,J',L']:=hH;apply chain_link (thn (A f E g F _ G L') λu M hH=>?_);let#[y,N,O,m,P]:=hH
 apply thn (q f M g N x y v u _ O J' m P) λd R hH=>?_;let#[z,n,o,S,k,e,p]:=hH
 subst e;subst S;apply SC ?_;cases k with
 |false=>show ite_ff #[.bl At,n,o,Y,p]
 |true=>apply ite_tt^chain_last (thn (B f R g n _ o p) λT U hH=>?_);let#[Y',Z,I4,r4,q4]:=hH;show t f U g Z y Y' u T Q I4 m r4 q4
theorem PM(q:OpR X (gi i) r)(t:OpR X (gi j) l)(w:PE X a ta)(A:PE X b tb)(B:PE X c tc)
  (C:lastMarks [i,j] [b,c]=At<|>wv):PT X (.Compare a [i,j] [b,c] pos)^MG^Hd r l ta tb tc:=by
 intro f s g H Q I h
 apply isTrue_chain (thn (w f s g H _ I h) λv E hH=>?_) C;let#[x,F,G,J',L']:=hH;apply test_link (thn (A f E g F _ G L') λu M hH=>?_);let#[y,N,O,m,P]:=hH
 apply thn (q f M g N x y v u _ O J' m P) λd R hH=>?_;let#[z,n,o,S,k,e,p]:=hH
 subst e;subst S;apply SC ?_;cases k with
 |false=>
  rfl';let#[k',U,Y']:=p;cases U;ac_rfl;show ite_ff #[n,o,Y']
 |true=>
  apply ite_tt^test_last (thn (B f R g n _ o p) λZ s4 hH=>?_);let#[z',H4,I4,r4,q4]:=hH;apply thn (t f s4 g H4 y z' u Z _ I4 m r4 q4) λd' s5 hH=>?_;let#[z2,H5,I5,r5,k2,e2,q5]:=hH;subst e2;subst r5;show SC #[H5,I5,q5]
def X8(K:ac)(x:V')(H:Hp)(k:Bool):Prop:=
 match x with
 | .aT=>k=At
 | .bl b=>k=b
 | .int i=>k=(i !=0)
 | .str y=>y.length<=sizeLine/\k=((y.length:Int) !=0)
 | .zT y=>y.size<=sizeLine/\k=((y.size:Int) !=0)
 | .ref p=>(∃d,aK K H p d/\k= not^d.isEmpty)\/(∃d,fN K H p d/\k= not^d.isEmpty)\/∃e,H p\(.dK e)/\k= not^e.isEmpty
 |_=>False
def Jd(r:KV e f):(not^f.isEmpty)= not^e.isEmpty:=by
 cases r<;>rfl
def zk(r:Vals e d):(not^d.toArray.isEmpty)= not^e.isEmpty:=by
 cases r<;>simp
def l0:(sizeLine:Nat)<2<<<63:=by rw[aec];decide
def XQ:aa8 X (λx H Q=>∃k,X8 X.K x H k/\Q k H):=by
 intro pins s σ H x v Q I rx h;let#[k,e,q]:=h;have hl:=l0;have hs:sizeLine=16777216:=sizeLine_eq;cases x with
 |aT=>
  cases rx;have e':k=false:=e;subst e';show truthy_none #[H,I,q]
 |bl b=>
  cases rx;have e':k=b:=e;subst e';show wpAny_truthy_bool #[H,I,q]
 |int i=>
  let#[t,rfl]:=rx;have e':k=(i !=0):=e;subst e';show PySem.P.truthy_int #[H,I,q]
 |str y=>
  let#[t,rfl]:=rx;obtain⟨hy,e'⟩:y.length<=sizeLine/\k=((y.length:Int) !=0):=e;subst e';show PySem.P.truthy_str () #[H,I.tok _,q]
 |zT y=>
  let#[t,rfl]:=rx;obtain⟨hy,e'⟩:y.size<=sizeLine/\k=((y.size:Int) !=0):=e;subst e';show PySem.W.truthy_bytes () #[H,I.tok _,q]
 |ref p=>
  subst rx;have e':(∃xs,aK X.K H p xs/\k= not^xs.isEmpty)\/(∃xs,fN X.K H p xs/\k= not^xs.isEmpty)\/∃fR,H p\(.dK fR)/\k= not^fR.isEmpty:=e
  rcases e' with ⟨xs,hx,e'⟩ | ⟨xs,hx,e'⟩ | ⟨fR,hx,e'⟩
  .subst e'
   let#[its,r,pl,hz]:=I.list hx;have hlen:=r.length;show wpAny_truthy_list pl.isList (by simp only[b8];lia) #[H,I.tok _,by rw[zk r];show q]
  .subst e'
   let#[its,r,pl,hz]:=I.tuple hx;have hlen:=r.length;show truthy_tuple pl (by simp only[b8];lia) #[H,I.tok _,by rw[zk r];show q]
  .subst e'
   obtain⟨hz,hS,vs,r,m⟩:fR.length<=sizeLine/\(p==sysModules)=At/\∃vs,KV fR vs/\s.heap.DictOf (BH X.prog X.w) p vs:=I.hok p _ hx;have hlen:fR.length=vs.length:=Paired.length r;show wpAny_truthy_dict hS m () #[H,I.tok _,by rw[Jd r];show q]
 |_=>show(show False from e).elim
def PN(i:PE X a ta)(j:∀d,isTrue a X.env d=(do let v <-d;jo a.pos;im [v]^truthy v)):
  PT X a (λf H Q=>ta f H λx g=>∃k,X8 X.K x g k/\Q k g):=by
 intro e s f H Q I h;apply isTrue_plain (thn (i e s f H _ I h) λv l hH=>?_)^j _;let#[x,m,n,o,p]:=hH;show XQ e l f m x v Q n o p
def vals1(r:Vals [x] d):∃u,d= [u]/\RelV x u:=by
 cases r with
 |cons e f=>cases f;show#[_,Y,e]
def vals2(r:Vals [x,y] d):∃u e,d= [u,e]/\RelV x u/\RelV y e:=by
 cases r with
 |cons f g=>
  cases g with
  |cons h i=>cases i;show#[_,_,Y,f,h]
def AR(g:X.calm=L):CallR X (.builtin "max") (λe H Q=>∃i j,e= [.int i, .int j]/\Q (.int^if j>i then j else i) H):=by
 intro f s m H e n Q I r h;rfl';let#[i,j,rfl,q]:=h;obtain⟨u,p,rfl,⟨t,rfl⟩,⟨v,rfl⟩⟩:=vals2 r;ac_rfl;apply max_two_ints (I.ok.hd g) λw x k=>#[_,H,I.kept k,?_,q]
 by_cases d:j>i
 .rw[mo d,mo d];show#[_,Y]
 .rw[tz d,tz d];show#[_,Y]
def AS(g:X.calm=L):CallR X (.builtin "min") (λe H Q=>∃i j,e= [.int i, .int j]/\Q (.int^if j<i then j else i) H):=by
 intro f s m H e n Q I r h;rfl';let#[i,j,rfl,q]:=h;obtain⟨u,p,rfl,⟨t,rfl⟩,⟨v,rfl⟩⟩:=vals2 r;ac_rfl;apply min_two_ints (I.ok.hd g) λw x k=>#[_,H,I.kept k,?_,q]
 by_cases d:j<i
 .rw[mo d,mo d];show#[_,Y]
 .rw[tz d,tz d];show#[_,Y]
def AO:CallR X (.type "int") (λd H Q=>(∃i,d= [.int i]/\Q (.int i) H)\/∃k,d= [.bl k]/\Q (.int^if k then 1 else 0) H):=by
 intro e s g H d j Q I r h
 rcases h with ⟨i,rfl,q⟩ | ⟨k,rfl,q⟩
 .obtain⟨u,rfl,t,rfl⟩:=vals1 r
  show call_int_int #[.int i,H,I,#[_,Y],q]
 .obtain⟨u,rfl,f⟩:=vals1 r
  cases f;show call_int_bool #[.int^if k then 1 else 0,H,I.tok _,#[_,Y],q]
end
structure AF (h:Heap) (x dx C:Ad) (mA:Str->Option Value):Prop where
 obj:h.get? x\(cm C dx)
 ns:h.Ns1 dx mA
 ne:dx≠x
def uC{h:Heap}(n:h.Ns1 d f):∃od,h.get? d\od/\∀b,c4 b od\(f b):=by
 rfl';let#[o,g,u,j,k,l,i,m]:=n;ac_rfl;apply#[o,j,λb=>?_];have e:=m b;unfold nsFind findBy at e;rw[<-Array.find?_toList] at e;unfold c4;rw[k];dsimp only
 split
 .rename_i y q
  rw[q] at e;show KB J e
 .rename_i q
  rw[q] at e
  have a:g.toList.any (·.refKey)=false:=by
   rw[List.any_eq_false];intro y p;let#[z,t,c]:=l y^Array.mem_toList_iff.mp p;simp[DictEntry.refKey,c]
  have r:¬g.toList.any (·.refKey)=true:=by rw[a];show c9
  rw[tz r];show KB J e
def AF.look(I:AF h x c C d):∃b,PySem.W.InstAt h x (cm C c) C^J b/\∀a,c4 a b\(d a):=
 let #[b,e,f]:=uC I.ns
 #[b,#[I.obj,Y,Y,e],f]
section
variable {K : ac}
def get_map(X:K.In s.heap)(I:AF s.heap x dx C mA)(b:cI K C name=L)(c:cq K C=L)
  (d:ad K (.ref C) name\V) (e:mA name\v) (g:PySem.W.handedIn v=L) (h:Q v {s with toks:=s.toks+1}):
  e_ (ei prog w) A (getAttr (.ref x) name a) Q E s:=by
 let#[j,J',i]:=I.look;show PySem.W.get_value X J' (aff b).1 (PySem.W.findObj_own c d rfl^by rw[i,e]) g h
def OX(X:K.In s.heap)(I:AF s.heap x dx C mA)(a:cI K C name=L)
  (b:ad K (.ref C) name\(J^.ref f)) (c:cb K^.ref f=L) (d:mA name=V) (h:Q (.ref f,[.ref x]) s):
  e_ (ei prog w) A (l_ (.ref x) name pl) Q E s:=by
 let#[e,J',g]:=I.look;show PySem.W.method_fn X J' (aff a).1 (aff a).2 b (adR.mp c) (by change(c4 name e).map (·.isSome)\At;rw[g,d];rfl) h
def Ut{e:!fC}(X:K.In s.heap)(I:AF s.heap x dx C mA)
  (j:ad K (.ref C) "__setattr__"\(J^.builtin "object.__setattr__")) (k:df K C=L) (l:dL K C name\V) (m:cq K C=L)
  (hw:cE mA e) (H:e.length<=sizeLine)
  (h:∀c,AF c x dx C (λy=>if y=name then J v else mA y)->Heap.SameBut dx s.heap c->Q ⟨⟩ {s with heap:=c,toks:=s.toks+2}):
  e_ (ei prog w) A (setAttr (.ref x) name v) Q E s:=by
 rfl';let#[L',J',M]:=I.look;let#[N,o,p]:=PySem.W.any_some m;ac_rfl;apply PySem.W.set_plain X J' j (PySem.W.osa_open (s:={s with toks:=s.toks+1}) (r:=V) X J' k l λb=>?_)
 have q:s.heap.get? x\#[.ref C,J dx, .plain, #[]]:=I.obj;apply a_^ir^a_^a_^afg q^a_^PySem.W.Looks.here (s:={s with toks:=s.toks+1}) (PySem.W.looks_clsIn X o) ?_
 rw[p];apply ir (a:=J dx)^a_^ir^a_ ?_;apply agt (s:={s with toks:=s.toks+1}) I.ns λc g i=>?_
 rfl';let#[O,t,u,B,F,G]:=g.count^PySem.Within.cons name v hw;ac_rfl;apply a_^afN B (by rw[F];show afO^jf G^by rw[cF];lia) ?_
 show ir^h _ #[(i.2 _^Ne.symm I.ne).trans I.obj,g,I.ne] i
def Pl(X:K.In s.heap)(c:dV K C=L)
  (e:ad K (.ref C) "__init__"\(J^.ref f)) (i:PySem.W.typeIn K^.ref f\(.type "function"))
  (h:g6 (ei prog w) (A.under^.builtin "type.__call__" #[.ref C::a,b]) (.call (.ref f) #[.ref (s.heap.objs.size+1)::a,b]) (PySem.W.InitBack (s.heap.objs.size+1) R)
   {s with heap:=(s.heap.push bx).push^cm C s.heap.objs.size}):
  g6 (ei prog w) A (.call (.ref C) #[a,b]) R s:=by
 let#[j,g,d,t,os]:=s;show PySem.W.make_core (PySem.W.makes_of X c) (PySem.W.looks_findIn X e) (λself=>PySem.W.bind_fn X self i) (.inl rfl) h
end
def jZ(f:Str)(v:V'):!(Str×V')->!(Str×V')
 | []=> [(f,v)]
 | (g,x)::r=>if g=f then(g,v)::r else(g,x)::jZ f v r
theorem ou(f g:fC)(v:V'):∀fs:!(fC×V'),(jZ f v fs).lookup g=if g=f then J v else fs.lookup g
 | []=>by
  change bj g [(f,v)]=_
  by_cases h:g=f
  .have a:(g==f)=true:=adR.mpr h
   simp only[bj,a,mo h]
  .have a:(g==f)=false:=Wp.mpr h
   simp only[bj,a,tz h]
 | (k,x)::r=>by
  have c:=ou f g v r;rw[show jZ f v ((k,x)::r)=(if k=f then(k,v)::r else(k,x)::jZ f v r) from rfl]
  by_cases b:k=f
  .rw[mo b]
   by_cases h:g=k
   .have a:(g==k)=true:=adR.mpr h
    simp only[bj,a,mo^h.trans b]
   .have a:(g==k)=false:=Wp.mpr h
    simp only[bj,a,tz^λe:g=f=>h^e.trans b.symm]
  .rw[tz b]
   by_cases h:g=k
   .have a:(g==k)=true:=adR.mpr h
    simp only[bj,a,tz^λe:g=f=>b^h.symm.trans e]
   .have a:(g==k)=false:=Wp.mpr h
    simp only[bj,a];show c
theorem k9(f:fC)(v:V'):∀fs:!(fC×V'),f∈(jZ f v fs).map (·.1)/\∀g,g∈fs.map (·.1)->g∈(jZ f v fs).map (·.1)
 | []=>#[by simp[jZ],λg h=>by simp at h]
 | (k,x)::r=>by
  let#[b,c]:=k9 f v r;rw[show jZ f v ((k,x)::r)=(if k=f then(k,v)::r else(k,x)::jZ f v r) from rfl]
  by_cases a:k=f
  .rw[mo a]
   subst a;show#[by simp,λg h=>h]
  .rw[tz a]
   apply#[?_,λg h=>?_]
   .rw[b9]
    show eS _ b
   .rw[b9] at h ⊢
    rcases bQ.mp h with e|e
    .show bQ.mpr^.inl e
    .show eS _^c g e
theorem oq(f:Str)(v:V'):∀fs:!(Str×V'),(jZ f v fs).length<=fs.length+1
 | []=>by simp[jZ]
 | (k,x)::r=>by
  have b:=oq f v r;rw[show jZ f v ((k,x)::r)=(if k=f then(k,v)::r else(k,x)::jZ f v r) from rfl]
  by_cases a:k=f
  .rw[mo a,cF,cF];lia
  .rw[tz a,cF,cF];lia
def lT.some_of{v:V'}{o:Option Value}(r:lT (J v) o):∃u,o\u/\RelV v u:=by
 cases o with
 |none=>show(show False from r).elim
 |some u=>show#[u,Y,r]
def lT.none_of(r:lT V o):o=none:=by
 cases o with
 |none=>rfl
 |some u=>show(show False from r).elim
def Bk{v:V'}{u:Value}(r:RelV v u):PySem.W.handedIn u=true:=by
 cases v with
 |aT=>cases(show u=Value.none from r);rfl
 |bl b=>cases(show u=Value.bool b from r);rfl
 |int i=>let#[t,e]:=(show ∃t,u=Value.int i t from r);cases e;rfl
 |str x=>let#[t,e]:=(show ∃t,u=Value.str x t from r);cases e;rfl
 |zT b=>let#[t,e]:=(show ∃t,u=Value.bytes b t from r);cases e;rfl
 |K0 b=>let#[t,e]:=(show ∃t,u=Value.float b t from r);cases e;rfl
 |ref a=>cases(show u=Value.ref a from r);rfl
 |ty n=>cases(show u=Value.type n from r);rfl
section
def wa(hok:iB P w H h)(e:H a\(.ins C dx fs)):∃b,AF h a dx C b/\(∀f,lT (fs.lookup f)^b f)/\cE b^fs.map (·.1)/\fs.length<=1000/\H dx\(.own a):=by
 let#[d,z,ne,c,b,n,r,q]:=(show bR P w H h a^.ins C dx fs from hok a _ e);show#[b,#[c,n,ne],r,q,z,d]
end
structure AA (K:ac) (C:Ad):Prop where
 pg:cI K C Str.empty=L
 hd:cq K C=L
 po:df K C=L
 sa:ad K (.ref C) "__setattr__"\(J^.builtin "object.__setattr__")
def AA.get{K:ac}{C:Ad}(c:AA K C)(f:Str):cI K C f=true:=c.pg
def gG(K:ac)(C:Ad)(f:Str):Prop:=ad K (.ref C) f\V
def gG.MH{K:ac}{C:Ad}{f:Str}(n:gG K C f):dL K C f\none:=by
 unfold dL;rw[show ad K (.ref C) f\V from n];rfl
structure Meth (K:ac) (C:Ad) (m:fC) (f:Ad):Prop where
 at_:ad K (.ref C) m\(J^.ref f)
 fn:cb K^.ref f=L
 kp:am K^.ref f=L
section
def IH(I:Inv X pins σ H s)(e:H a\(.ins C dx fs))(c:AA X.K C)(n:gG X.K C f)(l:fs.lookup f\v)
  (h:∀u d,Inv X pins σ H d->RelV v u->Q u d):e_ (ei X.prog X.w) A (getAttr (.ref a) f b) Q E s:=by
 let#[i,O,r,k,m,p]:=wa I.hok e;let#[u,j,g]:=lT.some_of (v:=v) (o:=i f)^by rw[<-l];show r f
 show get_map I.fi O (c.get f) c.hd n j (Bk g)^h u _ (I.tok _) g
def zg{pl:lD Bool}(I:Inv X pins σ H s)(e:H a\(.ins C dx fs))(c:AA X.K C)(k:Meth X.K C m g)(l:fs.lookup m=V)
  (h:Q (.ref g,[.ref a]) s):e_ (ei X.prog X.w) A (l_ (.ref a) m pl) Q E s:=by
 let#[b,O,r,f,i,j]:=wa I.hok e;have d:b m=none:=lT.none_of^by rw[<-l];show r m
 show OX I.fi O (c.get m) k.at_ k.fn d h
def JU(I:Inv X pins σ H s)(e:H a\(.ins C dx fs))(c:AA X.K C)(n:gG X.K C f)(N:fs.length<1000)(m:RelV y u)
  (h:∀i,Inv X pins σ (upd H a^.ins C dx^jZ f y fs) i->Q ⟨⟩ i):e_ (ei X.prog X.w) A (setAttr (.ref a) f u) Q E s:=by
 rfl';let#[j,O,r,k,_,l]:=wa I.hok e;have t:(fs.map (·.1)).length<=sizeLine:=by rw[aG,aec];lia
 ac_rfl;apply Ut I.fi O c.sa c.po n.MH c.hd k t λB d F=>h _ ?_;have G:∃o,B.get? dx\o:=let #[o,_,_,J',_]:=d.ns;#[o,J'];apply I.write (x:=a) (e:=dx) (by rw[e];show True.intro) (.inr l) (λb q L' z=>(F.2 b L').trans z) G ?_
 apply#[by rw[ao O.ne];show l,?_,O.ne,d.obj,_,d.ns,λg=>?_,λg M=>?_]
 .have:=oq f y fs;lia
 .change lT ((jZ f y fs).lookup g)^if g=f then J u else j g
  rw[ou]
  by_cases q:g=f
  .rw[mo q,mo q];show m
  .rw[tz q,tz q];show r g
 .by_cases q:g=f
  .rw[q];show(k9 f y fs).1
  .apply(k9 f y fs).2 g (k g λz=>M ?_)
   change(if g=f then J u else j g)=V;rw[tz q];show z
def Inv.made(I:Inv X pins σ H s):Inv X pins σ (upd (upd H s.heap.objs.size^.own (s.heap.objs.size+1)) (s.heap.objs.size+1)^.ins C s.heap.objs.size [])
  {s with heap:=(s.heap.push bx).push^cm C s.heap.objs.size}:=by
 have c:(s.heap.push bx).get? s.heap.objs.size\bx:=GM s.heap rfl
 have d:((s.heap.push bx).push^cm C s.heap.objs.size).get? (s.heap.objs.size+1)\(cm C s.heap.objs.size):=by
  have:=GM (s.heap.push bx) (o:=cm C s.heap.objs.size) rfl
  rwa [aes] at this
 have g:(s.heap.push bx).Ns s.heap.objs.size (λ_=>V):=#[bx, #[],_,c,Y,(λe h=>absurd h^by simp),λ_=>rfl]
 have i:=I.laid (a:=s.heap.objs.size) (o:= .own (s.heap.objs.size+1)) (h':=s.heap.push bx) (t':=s.toks) (λb u q=>AC _ q) (bu _) #[_,c];apply i.laid (a:=s.heap.objs.size+1) (o:= .ins C s.heap.objs.size []) (t':=s.toks) (λb u q=>AC _ q) (agu^aes _ _) ?_;have ne:s.heap.objs.size≠s.heap.objs.size+1:=bP^afP _;apply#[by rw[ao ne,ah],eQ _,ne,d,λ_=>V,(Heap.Ns1.of_empty g).at λo q=>AC _ q,λ_=>True.intro,λy j=>absurd rfl j]
def HM{f:fC}{s:c_}(d:hH e f env^gj e env=gj e env)
  (h:e_ (ei prog w) A (gj e env) (λo b=>e_ (ei prog w) A (getAttr o f L) Q E b) E s):e_ (ei prog w) A (gj (.Attribute e f c) env) Q E s:=
 Attribute_any_ h^by rw[arm_eval_Attribute,d]
end
def ac2(K:ac)(c:TE)(f:Str):TE:=λd H Q=>c d H λx b=>∃a C e fs v,x= .ref a/\b a\(.ins C e fs)/\AA K C/\gG K C f/\fs.lookup f\v/\Q v b
def acS(K:ac)(e g:TE)(f:fC):TS:=λD b H=>g b H λy h=>e b h λx c=>∃a C d fs,x= .ref a/\c a\(.ins C d fs)/\AA K C/\gG K C f/\fs.length<1000/\
 D.nx b^upd c a^.ins C d^jZ f y fs
section
def WW(d:PE X e ta)(g:hH e f X.env^gj e X.env=gj e X.env):PE X (.Attribute e f pos)^ac2 X.K ta f:=by
 intro b s i H Q I h;apply HM g (thn (d b s i H _ I h) λu B j=>?_);rfl';let#[x,m,p,r,a,C,F,fs,v,t,w,c,n,l,q]:=j;ac_rfl;subst t;obtain rfl:u=Value.ref a:=r;show IH p w c n l λG J' y A=>#[v,m,y,A,q]
def W6(g:PE X o ta)(i:PE X value tv)(j:hB value (J^.Attribute o f pos') pos.line X.env=pure At):PS X (.Assign [.Attribute o f pos'] value pos)^acS X.K ta tv f:=by
 intro b s d H D I h;apply aeV (thn (i b s d H _ I h) λu k hH=>?_) j;let#[y,m,p,r,q]:=hH;apply thn (g b k d m _ p q) λt G hH=>?_;let#[x,J',v,w,a,C,L',fs,A,B,c,n,l,E]:=hH;subst A;obtain rfl:t=Value.ref a:=w;show JU v B c n l r λM F=>#[d,_,F,E]
end
section
variable {X:Cx} {pins:!(Ad×Obj)} {σ:St} {H:Hp} {s:Shared} {A:Around} {E:Value->Shared->Prop} {Q:Value->Shared->Prop} {c:Value} {b:Bool}
inductive lU (K:ac) (H:Hp):V'->b_->Prop where
 |aT:lU K H .aT^.type "NoneType"
 |bl (x:Bool):lU K H (.bl x)^.type "bool"
 |int (i:Int):lU K H (.int i)^.type "int"
 |str (x:fC):lU K H (.str x)^.type "str"
 |K0 (x:UInt64):lU K H (.K0 x)^.type "float"
 |lst {a:Ad} {xs:!V'} (e:H a\(.lst xs)):lU K H (.ref a)^.type "list"
 |tX {a:Ad} {o:Obj} {xs:!V'} (e:H a\(.tX o^.lst xs)):lU K H (.ref a)^.type "list"
 |tup {a:Ad} {xs:!V'} (e:H a\(.tup xs)):lU K H (.ref a)^.type "tuple"
 |dK {a:Ad} {fR:!(Key×V')} (e:H a\(.dK fR)):lU K H (.ref a)^.type "dict"
 |dT {a:Ad} {fR:!(!Key×V')} (e:H a\(.dT fR)):lU K H (.ref a)^.type "dict"
 |ins {a C dx:Ad} {fs:!(fC×V')} (e:H a\(.ins C dx fs)) (cl:AA K C) (ha:ad K (.ref C) "__class__"\(J^.builtin "object.__class__"))
   (hn:bv K (.builtin "object.__class__") "__get__"\(J^.builtin "getset_descriptor.__get__")) (htk:dz K^.builtin "object.__class__"\L)
   (hm:cr K C^.type "object"\L):lU K H (.ref a)^.ref C
def LB{x:V'}{u t:b_}(I:Inv X pins σ H s)(rx:RelV x u)(ty:lU X.K H x t)(e:b5 X.K t c\b)(h:∀tk,Q (.bool b) {s with toks:=tk}):
  e_ (ei X.prog X.w) A (call (.builtin "isinstance") [u,c]) Q E s:=by
 cases ty with
 |aT=>cases(show u=Value.none from rx);show PySem.W.kia_one PySem.W.kitx_none I.fi True.intro e (λz=>nomatch z) h
 |bl y=>cases(show u=Value.bool y from rx);show PySem.W.kia_one PySem.W.kitx_bool I.fi True.intro e (λz=>nomatch z) h
 |int i=>let#[t,q]:=(show ∃t,u=Value.int i t from rx);cases q;show PySem.W.kia_one PySem.W.kitx_int I.fi True.intro e (λz=>nomatch z) h
 |str y=>let#[t,q]:=(show ∃t,u=Value.str y t from rx);cases q;show PySem.W.kia_one PySem.W.kitx_str I.fi True.intro e (λz=>nomatch z) h
 |K0 y=>let#[t,q]:=(show ∃t,u=Value.float y t from rx);cases q;show PySem.W.kia_one PySem.W.kitx_float I.fi True.intro e (λz=>nomatch z) h
 | @lst a xs ea=>
  cases(show u=Value.ref a from rx);let#[d,f,n,g,h1]:=(show bR X.prog X.w H s.heap a^.lst xs from I.hok a _ ea);show PySem.W.kia_one PySem.W.kitx_list I.fi #[_,h1,Y] e (λz=>nomatch z) h
 | @tX a ob xs ea=>
  cases(show u=Value.ref a from rx);let#[d,f,g,n,j,h1]:=(show bR X.prog X.w H s.heap a^.tX ob^.lst xs from I.hok a _ ea);show PySem.W.kia_one PySem.W.kitx_list I.fi #[_,h1,Y] e (λz=>nomatch z) h
 | @tup a xs ea=>
  cases(show u=Value.ref a from rx);let#[d,f,g,p]:=(show bR X.prog X.w H s.heap a^.tup xs from I.hok a _ ea);let#[o,h1,h2,d]:=p;show PySem.W.kia_one PySem.W.kitx_tuple I.fi #[o,h1,h2] e (λz=>nomatch z) h
 | @dK a fR ea=>
  cases(show u=Value.ref a from rx);let#[d,f,vs,g,p]:=(show bR X.prog X.w H s.heap a^.dK fR from I.hok a _ ea);let#[o,es,ep,h1,h2,d]:=p;show PySem.W.kia_one PySem.W.kitx_dict I.fi #[o,h1,h2.1] e (λz=>nomatch z) h
 | @dT a fR ea=>
  cases(show u=Value.ref a from rx);let#[d,f,xs,g,o,es,ep,h1,h2,j]:=(show bR X.prog X.w H s.heap a^.dT fR from I.hok a _ ea);show PySem.W.kia_one PySem.W.kitx_dict I.fi #[o,h1,h2.1] e (λz=>nomatch z) h
 | @ins a C dx fs ea cl ha hn htk hm=>
  rfl';cases(show u=Value.ref a from rx);let#[mA,O,d]:=wa I.hok ea;let#[od,J',d]:=O.look;ac_rfl;show PySem.W.kia_one (PySem.W.kitx_own (cl.get _) cl.hd ha hn htk hm) I.fi J' e (λz=>nomatch z) h
end
structure cw (k:Nat) (A:Around):Prop where
 hd:A.handled=V
 dp:A.depth+3*k+5<recursionLimit
 un:A.units+16*k+200<cLine
def cw.mono(r:cw k A)(h:j<=k):cw j A:=#[r.hd,by have:=r.dp;lia,by have:=r.un;lia]
theorem cw.deeper(r:cw (k+1) A)(env:nQ):cw k^A.deeper env:=
 #[r.hd,by have:=r.dp;change A.depth+1+3*k+5<_;lia,by have:=r.un;change A.units+3+16*k+200<_;lia]
def Jo{A:gs}:(A.under^.builtin "type.__call__" #[.ref C::a,b]).depth=A.depth+1:=by
 first|rfl|simp[Around.under,Code.weight,Code.isCreation,Code.isGuard,Code.isCaller,Code.frames,Code.isFrame,guardIds]
def Jp{A:gs}:(A.under^.builtin "type.__call__" #[.ref C::a,b]).units=A.units+1:=by
 first|rfl|simp[Around.under,Code.cUnits,Code.frames,Code.isFrame]
def cw.make(r:cw (k+1) A)(C:Ad)(a:!b_)(b:!(fC×b_)):cw k^A.under^.builtin "type.__call__" #[.ref C::a,b]:=
 #[r.hd,by have:=r.dp;rw[Jo];lia,by have:=r.un;rw[Jp];lia]
theorem cw.depth{k:Nat}(r:cw k A):A.depth<recursionLimit:=by have:=r.dp;lia
theorem cw.units{k:Nat}(r:cw k A):A.units+64<cLine:=by have:=r.un;lia
def Y3:TA:=λ_ H Q=>Q [] H
def aaN(b:TE)(tr:TA):TA:=λa H Q=>b a H λx c=>tr a c λd e=>Q (x::d) e
section
def aC:PA X [] Y3:=λ_ _ _ _ H Q I h=>afD #[[],H,I, .nil,h]
def ar(d:PE X e te)(f:PA X es t)(g:eI e es X.env<|>zn):PA X (e::es)^aaN te t:=by
 intro b a s c H Q I h;rw[g];change e_ _ _ (spliced ((At,gj e X.env)::gM b^d_ es X.env)) _ _ s;apply afp (thn (d a s c H _ I h) λu i j=>?_);rfl';let#[x,l,m,n,o]:=j;ac_rfl;apply thn (f b a i c l _ m o) λA B hH=>?_;let#[p,q,r,v,w]:=hH;show #[x::p,q,r, .cons n v,w]
def ac9(t:TA):TE:=λc H Q=>t c H λa b=>a.length<=sizeLine/\∀p,b p=V->Q (.ref p)^upd b p^.tup a
def ac5(t:TA):TE:=λc H Q=>t c H λa b=>a.length<=sizeLine/\∀p,b p=V->Q (.ref p)^upd b p^.lst a
def wx{x1}(h:PA X es t):PE X (.Tuple es x1 pos)^ac9 t:=by
 intro a s g H Q I i;apply wpAny_Tuple_spliced (thn (h pos a s g H _ I i) λj c hH=>?_);let#[k,d,f,r,z,q]:=hH;apply #[r.length▸z,?_];have l:d c.heap.objs.size=none:=f.hok.fresh^bu _;apply#[.ref c.heap.objs.size,upd d c.heap.objs.size^.tup k,f.laid (t':=c.toks) (λb u e=>AC _ e) (bu _) ?_,Y,q _ l];show#[z,j,r,#[_,GM _ rfl,Y,_,Y]]
def fZ(h:PA X es t):PE X (.List es pos)^ac5 t:=by
 intro a s g H Q I i;apply wpAny_List_spliced (thn (h pos a s g H _ I i) λj c hH=>?_);let#[k,d,f,r,z,q]:=hH;apply #[r.length▸z,?_];have l:d c.heap.objs.size=none:=f.hok.fresh^bu _;apply#[.ref c.heap.objs.size,upd d c.heap.objs.size^.lst k,f.laid (t':=c.toks) (λb u e=>AC _ e) (bu _) ?_,Y,q _ l];show#[z,j,0,r,GM _ rfl]
end
abbrev Sp:=!V'->Hp->VK->XK->Prop
abbrev sA:=!Env->Hp->Shared->XK->Value->Shared->Prop
structure Env0 (P:Program) (w:World) (K:ac) (mg:Str->Option Value) (base:Heap) (A:Around) (outer:!Env) (s:Shared) (H:Hp):Prop where
 frames:A.frames\outer
 mod:Mod K mg base
 bs:∀b o,base.get? b\o->s.heap.get? b\o/\H b=V
 bsz:base.objs.size<=s.heap.objs.size
 funs:s.heap.FunFrames base outer
 frf:∀b∈vP outer,H b=V
 hok:iB P w H s.heap
 bare:AllBare s.gens
def CE(outer:!Env)(P:Program)(w:World)(H:Hp)(s:Shared)(Q:VK)(u:Value)(a:Shared):Prop:=
 ∃v b,a.os=s.os/\AllBare a.gens/\Un (vP outer) [] H b s.heap a.heap/\iB P w b a.heap/\RelV v u/\Q v b
def CR(b:sA)(outer:!nQ)(P:ff)(w:f8)(H:Hp)(s:c_)(Q:VK)(E:XK)(r:no)(a:c_):Prop:=
 match r with
 | .ok^.ret u=>CE outer P w H s Q u a
 | .ok _=>False
 | .error e=>b outer H s E e a
structure FnOk (P:ff) (w:f8) (K:ac) (mg:fC->Option b_) (base:Heap) (CX:sA) (k:Nat) (f:Ad) (fd:hQ) (ps:!fC) (sp:Sp):Prop where
 len:∀vs H Q E,sp vs H Q E->vs.length=ps.length
 run:∀(A:gs)(outer:!nQ)(s:c_)(H:Hp)(args:Args)(us:!b_)(vs:!V')(Q:VK)(E:XK),cw k A->Env0 P w K mg base A outer s H->BindsTo s fd args^ps.zip us->Vals vs us->sp vs H Q E->
  g6 (ei P w) A (.call (.ref f) args) (CR CX outer P w H s Q E) s
theorem FnOk.mono{P:ff}{w:f8}{K:ac}{b:fC->Option b_}{base:Heap}(F:FnOk P w K b base c j f d ps e)(h:j<=k):
  FnOk P w K b base c k f d ps e:=#[F.len,λA outer s H a g i Q E l=>F.run A outer s H a g i Q E^l.mono h]
def FnOk.imp{P:ff}{w:f8}{K:ac}{d:fC->Option b_}{base:Heap}{f:Ad}{i b:Sp}(F:FnOk P w K d base e k f g ps i)
  (h:∀a H Q E,b a H Q E->i a H Q E):FnOk P w K d base e k f g ps b:=
 #[λa H Q E q=>F.len a H Q E^h _ _ _ _ q,λA outer s H c j a Q E l m n o p=>F.run A outer s H c j a Q E l m n o^h _ _ _ _ p]
def Env0.make{P:ff}{w:f8}{K:ac}{a:fC->Option b_}{base:Heap}{A:gs}{outer:!nQ}{s:c_}{H:Hp}(e:Env0 P w K a base A outer s H)(C:Ad)(b:!b_)(c:!(fC×b_)):
  Env0 P w K a base (A.under^.builtin "type.__call__" #[.ref C::b,c]) outer s H:=#[by first|exact e.frames| (simpa [Around.under,Code.envs,Code.isFrame,pushEnvs] using e.frames),e.mod,e.bs,e.bsz,e.funs,e.frf,e.hok,e.bare]
section
def Inv.Nw(I:Inv X pins σ H s):Env0 X.prog X.w X.K X.mg X.base X.A X.stack s H:=
 #[I.ok.frames,I.ok.mod,I.bs,jf I.ok.bsz I.sz,I.stack,I.Cy,I.hok,I.bare]
def Inv.after(I:Inv X pins σ H s)(h:CE X.stack X.prog X.w H s Q u s'):EP X pins σ Q u s':=by
 let#[v,c,os,bare,un,hok,r,q]:=h;let#[e,g,d,t,a]:=s';obtain rfl:a=s.os:=os;show#[v,c,I.call (h':=e) (g':=g) (d':=d) (t':=t) (ch:= []) un hok bare^λb z=>absurd z^by simp,r,q]
end
def aaM(a:Sp)(b:!V')(E:XK)(t:TA):TE:=λc H Q=>t c H λd e=>a (d++b) e Q E
def MF(C:Ad)(m:Str)(d:Sp)(e:!V')(E:XK)(f:TE)(t:TA):TE:=λb H Q=>f b H λx c=>∃a g fs,x= .ref a/\c a\(.ins C g fs)/\fs.lookup m=V/\
 t b c λh i=>d (x::(h++e)) i Q E
def aaQ(C:Ad)(c:Sp)(d:!V')(E:XK)(t:TA):TE:=λe H Q=>t e H λf b=>∀x a,b x=V->b a=V->a≠x->
 c (.ref x::(f++d)) (upd (upd b a^.own x) x^.ins C a []) (λv g=>v= .aT/\Q (.ref x) g) E
def Binds(K:ac)(d:hQ)(b:!fC)(c:!b_):Prop:=
 ∀(s:c_)(a:!b_),K.In s.heap->(a++c).length=b.length->BindsTo s d #[a,[]]^b.zip (a++c)
def Binds.all{K:ac}{c:hQ}{b:!fC}(h:∀a:!b_,a.length=b.length->nt c #[a,[]]=pure^b.zip a):Binds K c b []:=λs a _ d=>by
 rw[fB] at d ⊢;show .of_eq^h a d
def Passes(c:sA)(X:Cx)(E:XK):Prop:=∀(a:!(Ad×Obj))(d:St)(H:Hp)(s:Shared)(e:Value)(b:Shared),Inv X a d H s->c X.stack H s E e b->X.xe e b
section
variable {X:Cx} {CX:sA} {k:Nat} {f C:Ad} {fd:FuncData} {ps:!Str} {sp:Sp} {bI:!V'} {ds:!Value} {E:XK} {x m:Str} {p pos apos:Pos} {e o:Expr} {es:!Expr} {ta:TE} {t:TA}
theorem GP{pins:!(Ad×Obj)}{σ:St}{H:Hp}{s:Shared}{Q:VK}{us:!Value}{vs:!V'}(F:FnOk X.prog X.w X.K X.mg X.base CX k f fd ps sp)(hr:cw k X.A)(hb:Binds X.K fd ps ds)(hd:Vals bI ds)(hx:Passes CX X E)
  (I:Inv X pins σ H s) (r:Vals vs us) (h:sp (vs++bI) H Q E):wpAny (model X.prog X.w) X.A (call (.ref f) us) (EP X pins σ Q) X.xe s:=by
 have r2:Vals (vs++bI) (us++ds):=r.append hd;have hl:(us++ds).length=ps.length:=by rw[<-r2.length];show F.len _ _ _ _ h
 apply wpAny_call (codeAny_mono (F.run X.A X.stack s H #[us,[]] (us++ds) (vs++bI) Q E hr I.Nw (hb s us I.fi hl) r2 h) λr s' hq=>?_);cases r with
 |error e=>show hx pins σ H s e s' I hq
 |ok fl=>
  cases fl with
  |ret u=>show I.after hq
  |next=>show False.elim hq
  |brk=>show False.elim hq
  |cont=>show False.elim hq
def bL(F:FnOk X.prog X.w X.K X.mg X.base CX k f fd ps sp)(c:cw k X.A)(d:Gl X x)(g:X.mg x\(.ref f))(i:am X.K^.ref f=L)(j:Binds X.K fd ps ds)(l:Vals bI ds)(n:Passes CX X E)
  (u:PA X (e::es) t) (v:eT x<|>zm) (y:eI e es X.env<|>zn) (B:eB pos es X.env<|>zn):
  PE X (.Call (.Name x p) (e::es) [] pos)^aaM sp bI E t:=by
 intro a s G H Q I h;apply adv^lb I d g ?_ v;apply aeb (h₀:=X.base) I.ok.mod.kin i (thn (u pos a s G H _ I h) λJ' L' hH=>?_) y B;let#[M,N,b,r,q]:=hH;apply #[b.fi,?_];show GP F c j l n b r q
def TV{pl:lD Bool}(v:PE X o ta)(c:AA X.K C)(d:Meth X.K C m f)(F:FnOk X.prog X.w X.K X.mg X.base CX k f fd ps sp)(y:cw k X.A)(B:Binds X.K fd ps ds)(G:Vals bI ds)(J':Passes CX X E)(L':PA X (e::es) t)
  (M:eI e es X.env<|>zn) (N:eB pos es X.env<|>zn)
  (O:gj (.Call (.Attribute o m apos) (e::es) [] pos) X.env=(do
   let g <-gj o X.env
   jo apos.atName
   let (f,first) <-im [g] (l_ g m pl)
   callWith pos f first (gM pos^d_ (e::es) X.env)^jB pos^ip [] X.env)<|>zn):
  PE X (.Call (.Attribute o m apos) (e::es) [] pos)^MF C m sp bI E ta t:=by
 intro b s i H Q I h;refine aeQ (pl:=pl) (thn (v b s i H _ I h) λu P hH=>?_) O;let#[x,R,j,S,a,Z,fs,T,U,l,q]:=hH;subst T;obtain rfl:u=Value.ref a:=S;refine zg j U c d l ?_;refine aeb (first:= [.ref a]) (h₀:=X.base) I.ok.mod.kin d.kp (thn (L' pos b P i R _ j q) λus p hH=>?_) M N;let#[vs,H2,n,r,Y']:=hH;refine #[n.fi,?_];exact GP (us:= .ref a::us) (vs:= .ref a::vs) F y B G J' n (.cons rfl r) Y'
def Pz{pl:lD Bool}(j:PE X o ta)(c:AA X.K C)(g:Meth X.K C m f)(F:FnOk X.prog X.w X.K X.mg X.base CX k f fd ps sp)(n:cw k X.A)(r:Binds X.K fd ps ds)(v:Vals bI ds)(y:Passes CX X E)
  (B:gj (.Call (.Attribute o m apos) [] [] pos) X.env=(do
   let i <-gj o X.env
   jo apos.atName
   let (f,first) <-im [i] (l_ i m pl)
   callWith pos f first (gM pos^d_ [] X.env)^jB pos^ip [] X.env)<|>zn):
  PE X (.Call (.Attribute o m apos) [] [] pos)^MF C m sp bI E ta Y3:=by
 intro b s G H Q I h;refine aeQ (pl:=pl) (thn (j b s G H _ I h) λu N hH=>?_) B;let#[x,O,d,J',a,P,fs,L',M,l,q]:=hH;subst L';obtain rfl:u=Value.ref a:=J';refine zg d M c g l ?_;exact PySem.W.callWith_K0 (first:= [.ref a]) d.fi g.kp^GP (us:= [.ref a]) (vs:= [.ref a]) F n r v y d (.cons rfl .nil) q
structure Mk (K:ac) (C f:Ad):Prop where
 makes:dV K C=L
 init:ad K (.ref C) "__init__"\(J^.ref f)
 fn:cb K^.ref f=L
 kp:am K^.ref C=L
theorem PZ{pins:!(Ad×Obj)}{σ:St}{H:Hp}{s:c_}{Q:VK}{us:!b_}{vs:!V'}(M:Mk X.K C f)(F:FnOk X.prog X.w X.K X.mg X.base CX k f fd ps sp)(hr:cw (k+1) X.A)(hb:Binds X.K fd ps ds)(hd:Vals bI ds)
  (hx:Passes CX X E) (I:Inv X pins σ H s) (r:Vals vs us)
  (h:∀x dx,H x=V->H dx=V->dx≠x->sp (.ref x::(vs++bI)) (upd (upd H dx^.own x) x^.ins C dx []) (λv H2=>v= .aT/\Q (.ref x) H2) E):
  e_ (ei X.prog X.w) X.A (call (.ref C) us) (EP X pins σ Q) X.xe s:=by
 have hq:=h (s.heap.objs.size+1) s.heap.objs.size (I.hok.fresh^pM _) (I.hok.fresh^bu _)^bP^Nat.lt_succ_self _;have I2:=Inv.made (C:=C) I;have r2:Vals (V'.ref (s.heap.objs.size+1)::(vs++bI)) (Value.ref (s.heap.objs.size+1)::(us++ds)):= .cons rfl^r.append hd
 have hl:(Value.ref (s.heap.objs.size+1)::us++ds).length=ps.length:=by
  have e:=r2.length;rw[F.len _ _ _ _ hq] at e;show e.symm
 apply k_^Pl (f:=f) I.fi M.makes M.init (beq_iff_eq.mp M.fn) (lO (F.run _ X.stack _ _ #[Value.ref (s.heap.objs.size+1)::us,[]] (Value.ref (s.heap.objs.size+1)::(us++ds)) _ _ E (hr.make C us [])
  (I2.Nw.make C us []) (hb _ (Value.ref (s.heap.objs.size+1)::us) I2.fi hl) r2 hq) λr s' vW=>?_)
 cases r with
 |error e=>show hx pins σ _ _ e s' I2 vW
 |ok fl=>
  cases fl with
  |ret u=>
   rfl';let#[v,H',I3,rv,ev,q3]:=I2.after vW;subst ev;ac_rfl;show#[rv,#[V'.ref (s.heap.objs.size+1),H',I3,Y,q3]]
  |next=>show False.elim vW
  |brk=>show False.elim vW
  |cont=>show False.elim vW
def TU(M:Mk X.K C f)(F:FnOk X.prog X.w X.K X.mg X.base CX k f fd ps sp)(c:cw (k+1) X.A)(d:Gl X x)(g:X.mg x\(.ref C))(i:Binds X.K fd ps ds)(j:Vals bI ds)(l:Passes CX X E)
  (n:PA X (e::es) t) (u:eT x<|>zm) (v:eI e es X.env<|>zn) (y:eB pos es X.env<|>zn):
  PE X (.Call (.Name x p) (e::es) [] pos)^aaQ C sp bI E t:=by
 intro a s B H Q I h;apply adv^lb I d g ?_ u;apply aeb (h₀:=X.base) I.ok.mod.kin M.kp (thn (n pos a s B H _ I h) λG J' hH=>?_) v y;let#[L',N,b,r,q]:=hH;apply #[b.fi,?_];show PZ M F c i j l b r q
end
section
variable {X:Cx} {CX:sA} {k:Nat} {f C:Ad} {fd:FuncData} {ps ks:!Str} {sp:Sp} {E:XK} {x m:Str} {p pos apos adB:Pos} {e o:Expr} {es:!Expr} {kws:!Keyword} {te ta:TE} {t tk:TA} {nm:Option Str}
variable {g:!Value->!Value->!Value} {gV:!V'->!V'->!V'}
end
structure aF (N P:!Str) (sc:Scope):Prop where
 kind:sc.kind= .function
 co:sc.isCoroutine=At
 gen:sc.isGenerator=At
 nd:N.Nodup
 pre:N.take P.length=P
 par:∀x∈P,sc.names.lookup x\.local\/sc.names.lookup x\.cell
 nofree:∀y∈sc.names,y.2≠ .free
theorem AN{kindOf:fC->Option jT}{x:fC}:∀{binds:!(fC×b_)}{m:fC->Option b_},(∀v,(x,v)∉binds)->bindL kindOf binds m x=m x
 | [],_,_=>rfl
 | (n,v)::r,m,h=>by
  unfold bindL;rw[AN λw hw=>h w^eS _ hw]
  split
  .have:x≠n:=by rintro rfl;show h v c5
   simp[this]
  .rfl
theorem AL{kindOf:fC->Option jT}{x:fC}:∀{binds:!(fC×b_)}{m:fC->Option b_},(∀v,(x,v)∉binds)->bindC kindOf binds m x=m x
 | [],_,_=>rfl
 | (n,v)::r,m,h=>by
  unfold bindC;rw[AL λw hw=>h w^eS _ hw]
  split
  .rfl
  .have:x≠n:=by rintro rfl;show h v c5
   simp[this]
theorem AM{kindOf:Str->Option NameKind}{x:Str}{v:Value}:∀{P:!Str}{a:!Value}{i:Nat}{m:Str->Option Value},P.Nodup->P[i]?\x->a[i]?\v->kindOf x\.local->
  bindL kindOf (P.zip a) m x\v
 | [],_,_,_,_,h,_,_=>by simp at h
 |_::_,[],_,_,_,_,h,_=>by simp at h
 |p::P,w::a,0,m,d,b,c,e=>by
  simp at b c;subst b;subst c;change bindL kindOf ((p,w)::P.zip a) m p=_;unfold bindL;rw[AN λv f=>(pK.mp d).1 (af8 f).1,mo e];simp
 |p::P,w::a,i+1,m,d,b,c,e=>by
  change bindL kindOf ((p,w)::P.zip a) m x=_;unfold bindL;show AM (i:=i) (pK.mp d).2 (~~~b) (~~~c) e
theorem AK{kindOf:Str->Option NameKind}{x:Str}{v:Value}:∀{P:!Str}{a:!Value}{i:Nat}{m:Str->Option Value},P.Nodup->P[i]?\x->a[i]?\v->kindOf x≠J .local->
  bindC kindOf (P.zip a) m x\v
 | [],_,_,_,_,h,_,_=>by simp at h
 |_::_,[],_,_,_,_,h,_=>by simp at h
 |p::P,w::a,0,m,d,b,c,e=>by
  simp at b c;subst b;subst c;change bindC kindOf ((p,w)::P.zip a) m p=_;unfold bindC;rw[AL λv f=>(pK.mp d).1 (af8 f).1,tz e];simp
 |p::P,w::a,i+1,m,d,b,c,e=>by
  change bindC kindOf ((p,w)::P.zip a) m x=_;unfold bindC;show AK (i:=i) (pK.mp d).2 (~~~b) (~~~c) e
def start(N:!Str)(a:!V'):St:=a.map J++ak (N.length-a.length) V
def kZ(g:sA)(P:ff)(w:f8)(K:ac)(mg:fC->Option b_)(base:Heap)(N:!fC)(b:fC)(a:Scope)(f:Ad)(d:b_)(A:gs)(outer:!nQ)(s:c_)(H:Hp)(E:XK):Cx where
 prog:=P
 w:=w
 K:=K
 mg:=mg
 base:=base
 A:=A.deeper (lr b a s.heap.objs.size f d)
 N:=N
 s₀:=s
 H₀:=H
 env:=lr b a s.heap.objs.size f d
 outer:=outer
 stack:=lr b a s.heap.objs.size f d::outer
 ex:= []
 calm:=L
 fn:=λ_=>L
 pn:= []
 xe:=λe h=>e_ (ei P w) (A.deeper^lr b a s.heap.objs.size f d) (leaving (lr b a s.heap.objs.size f d) e) (λ_ c=>g outer H s E e c) (λi c=>g outer H s E i c) h
def Ec{a:Scope}{n:Nat}(h:a.names.lookup x\.cell):∃c,(cellsFrom n a.names []).lookup x\c:=by
 have q:=agd a.names n []^.inl h;show Option.isSome_iff_exists.mp q
theorem Lz{O:sA}{P:ff}{w:f8}{K:ac}{J':fC->Option b_}{base:Heap}{N m:!fC}{g:fC}{d:Scope}{f:Ad}{F:b_}{A:gs}{outer:!nQ}{s Q:c_}{H:Hp}{E:XK}{L':!b_}{o:!V'}
  (S:aF N m d) (U:A.handled=V) (l:Env0 P w K J' base A outer s H) (Z:o.length=m.length) (r:Vals o L')
  (x:InCallC s s.heap.objs.size (bindL (lr g d s.heap.objs.size f F).kindOf (m.zip L') λ_=>V) (cellsFrom (s.heap.objs.size+1) d.names []) (bindC (lr g d s.heap.objs.size f F).kindOf (m.zip L') λ_=>V) Q):
  Inv (kZ O P w K J' base N g d f F A outer s H E) [] (start N o) H Q:=by
 have cC:m.length<=N.length:=by have:=KB cO S.pre;rw[jr] at this;lia
 let#[G,tk,rfl,R]:=x.done;have M:∀b:Ad,b∉(kZ O P w K J' base N g d f F A outer s H E).ex:=λb z=>absurd (show b∈([]:!Ad) from z)^by simp
 apply#[#[l.mod,S.kind,Y,Y,bu _,λy z c G j=>?_,λy t=>?_,λy c _ h=>?_,λ_=>U,Around.frames_deeper l.frames, .inr #[Y,Y],λb z=>absurd z^M b,l.bs,l.bsz,λb _ _=>M b,λb z=>absurd z^M b,l.funs,l.frf],
  rfl,l.bare,Un.kept R,#[_,x.toInCall.ns,λi y v G j h3=>?_],λy c h=>#[_,x.cell y c h],l.hok.fresh^bu _,λy c h=>?_,λp B=>absurd (show p∈([]:!(Ad×Obj)) from B)^by simp,l.hok.kept R,?_]
 .show name_of_addr x.apart (adX G)^adX j
 .have t:d.names.lookup y\.cell\/d.names.lookup y\.free:=t
  rcases t with t|t
  .show Ec t
  .show absurd rfl^S.nofree _^adX t
 .show rz^x.above y c^adX h
 .have I:i<o.length:=by
   unfold start at j
   by_cases I:i<o.length
   .show I
   .rw[ko^~~~I] at j
    rw[zI] at j
    split at j<;>cases j
  have X:o[i]?\v:=by
   unfold start at j;rw[jj^~~~I,dF] at j
   cases e:o[i]? with
   |none=>rw[e] at j;cases j
   |some a=>rw[e] at j;cases j;rfl
  let#[u,T,Y']:=r.get X
  have B:m[i]?\y:=by
   rw[<-S.pre,Hx ()];show G
  have C:m.Nodup:=by rw[<-S.pre];show S.nd.sublist^List.take_sublist _ _
  exists u,Y'
  rcases S.par y^cG B with k|k
  .show .inl #[k,AM C B T k]
  .obtain⟨c,e⟩:=Ec (n:=s.heap.objs.size+1) k
   apply .inr #[.inl k,c,e,?_];have q:=x.cell y c e;rw[AK C B T^by change d.names.lookup y≠_;rw[k];decide] at q
   show q
 .show l.hok.fresh^rz^x.above y c^adX h
 .unfold start
  change _=N.length;rw[dj,aG,zK];lia
theorem Rw{C:sA}{P:ff}{w:f8}{K:ac}{F:fC->Option b_}{base:Heap}{k:Nat}{f:Ad}{i c:fC}{d:Arguments}{g:!Stmt}{a:Scope}{Y' kV p Z l ct oc:b_}{an od:Option Ad}
  {GH:Array^Option b_} {N G:!fC} {M:Sp} (lk:K.lookup f\#[oc,od, .func^ce i c d g a Y' kV p Z an l ct,GH]) (gw:bi K l c=L) (S:aF N G a)
  (len:∀h H Q E,M h H Q E->h.length=G.length)
  (k7:∀(A:gs)(outer:!nQ)(s:c_)(H:Hp)(h:!V')(Q:VK)(E:XK),cw k^A.deeper^lr c a s.heap.objs.size f l->M h H Q E->
   ∃t,kE (kZ C P w K F base N c a f l A outer s H E) g t/\t {nx:=λ_ j=>Q .aT j,rt:=Q} (start N h) H):
  FnOk P w K F base C (k+1) f (ce i c d g a Y' kV p Z an l ct) G M:=by
 apply#[len,λA outer s H args us h Q E O B hb r DL=>?_];have hl:=len _ _ _ _ DL;have KX:K.In s.heap:=B.mod.kin.keeps λb o e=>(B.bs b o e).1;have R:s.heap.NoLimit:=B.mod.nolimit.keeps λb o e=>(B.bs b o e).1
 have T:∀y∈G.zip us,a.names.lookup y.1\.local\/(a.names.lookup y.1\.cell/\((cellsFrom (s.heap.objs.size+1) a.names []).lookup y.1).isSome=L):=λ#[n,v] hy=>by
  rcases S.par n (af8 hy).1 with q|q
  .show .inl q
  .show .inr #[q,agd _ _ _^.inl q]
 apply codeAny_call_function O.depth (KX _ _ lk) rfl S.co S.gen rfl (PySem.W.codeRec_of KX gw)^hb _ _ _ _ ?_;apply wpAny_newFunctionEnv_cells S.kind T λenv he s1 x=>?_;subst he;let#[t,ht,hq]:=k7 A outer s H h Q E (O.deeper _) DL;apply#[R.keeps x.toInCall.keep,codeAny_func ?_];have I:Inv (kZ C P w K F base N c a f l A outer s H E) [] (start N h) H s1:=Lz S O.hd B hl r x;apply io (ht [] s1 (start N h) H _ I hq) (λfl U m=>?_) λe U m=>m
 have fin:∀{L':St}{j:Hp}{v:V'}{u:b_},Inv (kZ C P w K F base N c a f l A outer s H E) [] L' j U->RelV v u->Q v j->CE outer P w H s Q u U:=
  λ {L' j v u} J' X q=>#[v,j,J'.os,J'.bare,J'.base,J'.hok,X,q]
 cases fl with
 |ret u=>
  let#[v,L',j,J',X,q]:=m;show fin J' X q
 |next=>
  let#[L',j,J',q]:=m;show fin (v:=V'.aT) (u:=Value.none) J' rfl q
 |brk=>
  let#[_,_,_,q]:=m;show False.elim q
 |cont=>
  let#[_,_,_,q]:=m;show False.elim q
section
variable {id : String}
def tCB(r:!V'->Hp->VK->Prop)(t:TA):TE:=λa H Q=>t a H λb c=>r b c Q
theorem dJ(c:CallR X (.builtin id) r)(d:Gl X x)(f:X.mg x=V)(g:gl x\(.builtin id))(i:PA X (e::es) t)(j:x≠"__name__"<|>zm)(k:eT x<|>zm)
  (l:eI e es X.env<|>zn) (m:eB pos es X.env<|>zn):PE X (.Call (.Name x p) (e::es) [] pos)^tCB r t:=by
 intro a s b H Q I h;apply adv^iu I d f g ?_ j k;apply aeZ (thn (i pos a s b H _ I h) λn o hH=>?_) l m;let#[q,u,v,w,y]:=hH;show c a o b u q n Q v w y
def uJ(c:CallR X (.type T) r)(d:Gl X x)(f:X.mg x=V)(g:gl x\(.type T))(i:PA X (e::es) t)(j:x≠"__name__"<|>zm)(k:eT x<|>zm)
  (l:eI e es X.env<|>zn) (m:eB pos es X.env<|>zn):PE X (.Call (.Name x p) (e::es) [] pos)^tCB r t:=by
 intro a s b H Q I h;apply adv^iu I d f g ?_ j k;apply PP (thn (i pos a s b H _ I h) λn o hH=>?_) l m;let#[q,u,v,w,y]:=hH;show c a o b u q n Q v w y
end
end L2
namespace HT
open PySem PyProof.Rows
def lexLt:!Int->!Int->Bool
 | [],[]=>At
 | [],_::_=>L
 |_::_,[]=>At
 |x::a,y::b=>if x=y then lexLt a b else AT (x<y)
def iJ(x y:Int)(a b:!Int):lexLt (x::a) (y::b)=if x=y then lexLt a b else AT (x<y):=rfl
def BC:lexLt [] []=false:=rfl
def z7(y:Int)(a:!Int):lexLt [] (y::a)=true:=rfl
def z6(x:Int)(a:!Int):lexLt (x::a) []=false:=rfl
def OR(A:Around)(s:Shared)(a:Int)(t:Tok)(c:Int)(u:Tok):∃e,SeqAt.EqAt A s (.int a t) (.int c u) e/\(e=L↔a=c):=
 #[(a==c),aem a t c u,by simp]
def PR(A:gs)(s:c_)(a:Int)(t:Tok)(c:Int)(u:Tok)(prog:ff)(w:f8)(E:b_->c_->Prop)(Q:b_->c_->Prop)(h:Q (.bool (AT (a<c))) s):
  e_ (ei prog w) A (richCompare .Lt (.int a t)^.int c u) Q E s:=
 (PyProof.Rows.lt_int h:e_ (ei prog w) A (gi .Lt (.int a t)^.int c u) Q E s)
section
open PySem.SeqAt
open PySem.AutoSeq1 (wpAny_loadPart')
open PySem.MeetsSeq PySem.MeetsSeq2 PySem.MeetsSeq3
end
section
theorem QM(r:IsTup s.heap t c.toArray)(u:IsTup s.heap b a.toArray)(h:c≠ [])
  (v:a= []->Q (.ref t) s) (x:a≠ []->Q (.ref s.heap.objs.size) {s with heap:=s.heap.push {cls:= .type "tuple",data:= .seq (c++a).toArray}})
  (y:c.length+a.length<=sizeLine):e_ (ei prog w) A (i_ .Add (.ref t)^.ref b) Q E s:=by
 rfl';obtain⟨⟨cls,i,data,j⟩,f,k,n,l⟩:=id r;obtain⟨⟨C,m,data2,o⟩,g,p,q,d⟩:=id u;ac_rfl;simp only at k l p d;subst k l p d;have e:c.toArray++a.toArray=(c++a).toArray:=by simp
 by_cases hw:a= []
 .show concat_meets #[_,f,Y] #[_,g,Y] noFill_tuple_add seq_tuple_add age af4 (afQ _ _)
   (tuple_addW1 t b c.toArray a.toArray n q i m j o (~~~h)^by simp[hw]) #[f,g,v hw]
 .apply concat_meets #[_,f,Y] #[_,g,Y] noFill_tuple_add seq_tuple_add age af4 (afQ _ _)
   (tuple_addW2 t b c.toArray a.toArray n q i m j o (~~~h) (~~~hw)^by rw[b8,b8];show y) #[f,g,?_]
  rw[e];show x hw
def cg(n d:Nat):Option Int->Nat
 |none=>d
 |some v=>if v<0 then(v+(n:Int)).toNat else min v.toNat n
def E7(n d:Nat):cg n d V=d:=rfl
def JP(n d k:Nat):cg n d^J (k:Int)=min k n:=by
 change(if (k:Int)<0 then((k:Int)+(n:Int)).toNat else min (k:Int).toNat n)=min k n;rw[tz (),lH]
def Xj(n d:Nat)(b:d<=n)(o:Option Int):cg n d o<=n:=by
 cases o with
 |none=>show b
 |some v=>
  change(if v<0 then(v+(n:Int)).toNat else min v.toNat n)<=n
  by_cases a:v<0
  .rw[mo a];lia
  .rw[tz a];show Nat.min_le_right _ _
def HY(v:Int)(n d:Nat):(if v<0 then max (v+(n:Int)) 0 else min v (n:Int))=((cg n d^J v:Nat):Int):=by
 change(if v<0 then max (v+(n:Int)) 0 else min v (n:Int))=(((if v<0 then(v+(n:Int)).toNat else min v.toNat n):Nat):Int)
 by_cases a:v<0
 .simp only[mo a];lia
 .simp only[tz a];lia
def HK(lo a:Option Int)(n:Nat):Builtin.Slice.sliceAdjust lo a 1 (n:Int)=(((cg n 0 lo:Nat):Int),((cg n n a:Nat):Int)):=by
 have b:¬((1:Int)<0):=()
 unfold Builtin.Slice.sliceAdjust;simp only[b,Pi];apply adS ?_ ?_
 .cases lo with
  |none=>rfl
  |some v=>show HY v n 0
 .cases a with
  |none=>rfl
  |some v=>show HY v n n
def JE(i j:Nat):Builtin.Slice.slicePlaces (i:Int) (j:Int) 1=j-i:=by
 unfold Builtin.Slice.slicePlaces;have a:(1:Int)>0:=()
 simp only[a,adW,Int.ediv_one]
 split<;>lia
def zA(p:IsPart v o)(h:Q o s):wpAny (model prog w) A (Builtin.Slice.slicePartIndex v) Q E s:=by
 cases p with
 |none=>show slicePart_none h
 |int i t=>show slicePart_int h
theorem wW{f:Ad}{b c:b_}{lo a:Option Int}{n:Nat}{Q:Int×Int×Nat->c_->Prop}(g:s.heap.IsSliceOf f b c .none)(pl:IsPart b lo)(i:IsPart c a)
  (h:Q (((cg n 0 lo:Nat):Int),1,cg n n a-cg n 0 lo) s):e_ (ei prog w) A (Builtin.Slice.sliceApplied (.ref f)^pure (n:Int)) Q E s:=by
 rfl';let#[os,d,k,e]:=id g;ac_rfl;unfold Builtin.Slice.sliceApplied Builtin.Slice.sliceFields;apply a_^a_^adL d e (x:=b) rfl^a_^adL d e (x:=c) rfl^a_^adL d e (x:= .none) rfl^ir ?_;apply a_^slicePart_none ?_;rw[tz ∅]
 apply a_^zA pl^a_^zA i^a_^ir ?_;change e_ _ _ (match Builtin.Slice.sliceAdjust lo a 1 (n:Int) with| (lo,a)=>pure (lo,(1:Int),Builtin.Slice.slicePlaces lo a 1)) _ _ s
 rw[HK lo a n];change e_ _ _ (pure (((cg n 0 lo:Nat):Int),(1:Int),Builtin.Slice.slicePlaces ((cg n 0 lo:Nat):Int) ((cg n n a:Nat):Int) 1)) _ _ s;rw[JE];show ir h
def PF(a:Array Value)(i k:Nat):((aj k).filterMap λ(m:Nat)=>a[((i:Int)+(m:Int)*1).toNat]?).toArray=((a.toList.drop i).take k).toArray:=by
 have e:(λ(m:Nat)=>a[((i:Int)+(m:Int)*1).toNat]?)=λm=>a[i+m]? :=by
  funext m
  have:((i:Int)+(m:Int)*1).toNat=i+m:=()
  rw[this]
 rw[e]
 have:=pick_run a i k
 rw[List.filterMap_map] at this;have b:((λx=>a[x]?)∘λx=>i+x)=λm=>a[i+m]? :=rfl;rw[b] at this;rw[this]
theorem tY{t e:Ad}{a:Array b_}{i j:b_}{lo b:Option Int}{Q:b_->c_->Prop}(c:IsTup s.heap t a)(k:s.heap.IsSliceOf e i j .none)(pl:IsPart i lo)(l:IsPart j b)
  (hw:¬(cg a.size 0 lo=0/\cg a.size a.size b=a.size))
  (h:Q (.ref s.heap.objs.size) {s with heap:=s.heap.push {cls:= .type "tuple",data:= .seq ((a.toList.drop^cg a.size 0 lo).take (cg a.size a.size b-cg a.size 0 lo)).toArray}})
  (p:a.size<=sizeLine):e_ (ei prog w) A (getItem (.ref t)^.ref e) Q E s:=by
 have d:sizeOk^.seq ((a.toList.drop^cg a.size 0 lo).take (cg a.size a.size b-cg a.size 0 lo)).toArray:=by
  change((a.toList.drop^cg a.size 0 lo).take (cg a.size a.size b-cg a.size 0 lo)).toArray.size<=sizeLine;rw[b8,jr,pI,dE];lia
 have r:cg a.size a.size b<=a.size:=Xj _ _ (bu _) b;let#[os,n,f,u]:=id k;have g:s.TypeIs (.ref e) "slice":=#[os,n,f];unfold getItem
 try with_reducible refine wpAny_holding ?_
 first|refine a_^gm ?_ |skip
 apply a_^wpAny_sequenceKey c.typeIs ∅ ?_
 apply a_^wpAny_callSpecial?_slot (name:=Str.ofString "__getitem__") c.typeIs PyProof.Rows.slot_tuple_getitem
  (wpAny_call_entry PyProof.Rows.slot_tuple_getitem c.typeIs entry_tuple_getitem ?_^args_tuple_getitem _ _)
 change e_ _ _ (Builtin.Tuple.tupleItemsOf^.ref t>>=_) _ _ s;apply a_^tupleItemsOf_ c ?_;apply a_^wpAny_typeOf g ?_;rw[if_pos ∅]
 apply a_^wW k pl l ?_
 have o:¬((((cg a.size 0 lo:Nat):Int)==0&&(1:Int)==1&&(cg a.size a.size b-cg a.size 0 lo)==a.size)=L):=by
  intro q;rw[yO,yO] at q;have v:((cg a.size 0 lo:Nat):Int)=0:=eq_of_beq q.1.1;have x:cg a.size a.size b-cg a.size 0 lo=a.size:=eq_of_beq q.2;show hw #[(),()]
 change e_ _ _ (if (((cg a.size 0 lo:Nat):Int)==0&&(1:Int)==1&&(cg a.size a.size b-cg a.size 0 lo)==a.size)=L then _ else _) _ _ s;rw[if_neg o,PF]
 first
  |show a_ (m:=Builtin.Tuple.tupleExact _)^km (gm #[_,Y,gm h]) d
  |show a_ (m:=Builtin.Tuple.tupleExact _)^km (a_^gm^gm #[_,Y,gm h]) d
  |show a_^a_ (m:=Builtin.Tuple.tupleExact _)^km (gm^gm #[_,Y,gm h]) d
  |show a_^a_ (m:=Builtin.Tuple.tupleExact _)^km (gm #[_,Y,gm h]) d
end
end HT
namespace L2
open PySem PySem.Spec PyProof.Rows
abbrev TO:=St->Hp->(Option Int->Hp->Prop)->Prop
def PO(X:Cx)(e:Option Expr)(t:TO):Prop:=
 ∀(a:!(Ad×Obj))(s:Shared)(b:St)(H:Hp)(Q:Option Int->Hp->Prop),Inv X a b H s->t b H Q->
  wpAny (model X.prog X.w) X.A (evalPart e X.env) (λu d=>∃o c,Inv X a b c d/\IsPart u o/\Q o c) X.xe s
def UM:TO:=λ_ H Q=>Q V H
def aaT(t:TE):TO:=λa H Q=>t a H λx b=>∃i,x= .int i/\Q (J i) b
def intsAre_of:∀{b:!b_},Vals (a.map V'.int) b->jp b a:=by
 induction a with
 |nil=>intro b r;rw[yT] at r;cases r;show .nil
 |cons n a c=>
  intro b r;rw[b9] at r;cases r with
  |cons d f=>
   let#[t,e]:=d;subst e;show .cons n t^c f
section
variable {lo : Option Expr}
def B5:PO X V UM:=by
 intro a s b H Q I h;rw[evalPart_none];show ir #[V,H,I, .none,h]
def qC(h:PE X e te):PO X (J e)^aaT te:=by
 intro a s b H Q I hw;rw[evalPart_some];apply thn (h a s b H _ I hw) λu l c=>?_;rfl';let#[x,f,g,j,k]:=c;let#[i,rfl,q]:=k;let#[t,rfl]:=j;ac_rfl;show#[J i,f,g, .int i t,q]
def Kx(X:Cx)(r:V'->Option Int->Option Int->Hp->VK->Prop):Prop:=
 ∀(a:!(Ad×Obj))(s:c_)(b:St)(H:Hp)(x:V')(v c d:b_)(lo f:Option Int)(g:Ad)(Q:VK),Inv X a b H s->RelV x v->s.heap.IsSliceOf g c d .none->IsPart c lo->IsPart d f->r x lo f H Q->
  ∃T id,la (.type T) "__getitem__"=pure^J^.builtin id/\s.TypeIs v T/\e_ (ei X.prog X.w) X.A (getItem v^.ref g) (EP X a b Q) X.xe s
def Kx.or(h:Kx X r)(m:Kx X c):Kx X (λx lo b H Q=>r x lo b H Q\/c x lo b H Q):=by
 intro a s d H x v f g lo b i Q I j k pl l q
 rcases q with q|q
 .show h a s d H x v f g lo b i Q I j k pl l q
 .show m a s d H x v f g lo b i Q I j k pl l q
def tSl(r:V'->Option Int->Option Int->Hp->VK->Prop)(b:TE)(c d:TO):TE:=λa H Q=>b a H λx f=>c a f λl g=>d a g λu h=>r x l u h Q
theorem rZ(m:Kx X r)(n:PE X e te)(o:PO X lo tl)(p:PO X hi th):PE X (.Subscript e (.Slice lo hi V p2) pos)^tSl r te tl th:=by
 intro a s d H Q I h;apply Subscript_ (thn (n a s d H _ I h) λv t f=>?_);rfl';let#[x,y,A,B,C]:=f;ac_rfl;apply wpAny_Slice (thn (o a t d y _ A C) λi E hH=>?_);let#[l,F,G,pl,J']:=hH;apply thn (p a E d F _ G J') λj c f=>?_;rfl';let#[u,k,L',M,N]:=f;ac_rfl;rw[evalPart_none];apply ir ?_;have O:Inv X a d k {c with heap:=c.heap.push {cls:= .type "slice",data:= .fields [i,j, .none].toArray}}:=L'.kept (t':=c.toks) λb U q=>AC _ q
 let#[T,id,P,R,S]:=m a {c with heap:=c.heap.push {cls:= .type "slice",data:= .fields [i,j, .none].toArray}} d k x v i j l u c.heap.objs.size Q O B (Heap.IsSliceOf.new ..) pl M N
 show tail_any (ops:= [.ref c.heap.objs.size,v]) R P S^by with_unfolding_all rfl
def jh(a:!V')(lo b:Option Int):!V':=(a.drop^HT.cg a.length 0 lo).take (HT.cg a.length a.length b-HT.cg a.length 0 lo)
def nW(a:!V')(lo b:Option Int):(jh a lo b).length<=a.length:=by
 unfold jh;rw[jr,pI];lia
def acO(K:ac):V'->Option Int->Option Int->Hp->VK->Prop:=λx lo c H Q=>∃a b,x= .ref a/\fN K H a b/\
 ¬(HT.cg b.length 0 lo=0/\HT.cg b.length b.length c=b.length)/\∀p,H p=V->Q (.ref p)^upd H p^.tup^jh b lo c
def Xl:Kx X^acO X.K:=by
 intro i s u H x v w y lo f A Q I l m pl n h;rfl';let#[a,d,rfl,t,hw,q]:=h;subst l;let#[g,r,j,k]:=I.tuple t;have c:g.toArray.size=d.length:=by rw[b8];show r.length.symm
 ac_rfl;exists "tuple",_,aeW.lookup,j.typeIs;apply HT.tY j m pl n (by rw[c];show hw) ?_^by rw[c];show k
 rw[c];apply#[.ref s.heap.objs.size,_,I.laid (t':=s.toks) (o:= .tup^jh d lo f) (λb C q=>AC _ q) (bu _) ?_,Y,q _^I.hok.fresh^bu _];show#[jf (nW d lo f) k,_,(r.drop^HT.cg d.length 0 lo).take (HT.cg d.length d.length f-HT.cg d.length 0 lo),IsTup.new _ _]
def aaG(K:ac):R2:=λx y H Q=>∃a b d c,x= .ref a/\y= .ref b/\fN K H a d/\fN K H b c/\d≠ []/\d.length+c.length<=sizeLine/\
 (c= []->Q (.ref a) H)/\(c≠ []->∀p,H p=V->Q (.ref p)^upd H p^.tup (d++c))
def Vals.BL(r:Vals a b):b= []↔a= []:=by
 cases r with
 |nil=>simp
 |cons _ _=>simp
def TF:OpR X (i_ .Add)^aaG X.K:=by
 intro f s F H x y v u Q I i j h;rfl';let#[a,b,l,m,rfl,rfl,n,p,r,g,t,A]:=h;subst i;subst j;let#[B,d,C,e]:=I.tuple n;let#[J',c,E,e]:=I.tuple p;ac_rfl;apply HT.QM C E (λz=>r^d.BL.mp z) (λz=>#[.ref a,H,I,Y,t^c.BL.mp z]) (λz=>?_)^by rw[<-d.length,<-c.length];show g
 apply#[.ref s.heap.objs.size,_,I.laid (t':=s.toks) (o:= .tup (l++m)) (λb L' q=>AC _ q) (bu _) ?_,Y,A (λw=>z^c.BL.mpr w) _^I.hok.fresh^bu _];show#[by rw[dj];show g,_,d.append c,IsTup.new _ _]
end
def lQ(n:Nat)(i:Int):Option Nat:=if 0<=i then(if i<n then J i.toNat else V) else if-(n:Int)<=i then J (i+n).toNat else V
def gZ{a:Type}(b:!a)(i:Int):Option a:=(lQ b.length i).bind λj=>b[j]?
def Jh(h:lQ n i\j):seqIndex? i n\j/\j<n/\-(n:Int)<=i/\i<n:=by
 unfold lQ at h
 by_cases b:0<=i
 .rw[mo b] at h
  by_cases a:i<n
  .rw[mo a] at h
   have e:i.toNat=j:=Do h;show#[by rw[agf b a,e],(),(),a]
  .rw[tz a] at h;cases h
 .rw[tz b] at h
  by_cases a: -(n:Int)<=i
  .rw[mo a] at h
   have e:(i+n).toNat=j:=Do h;show#[by rw[seqIndex_neg () a,e],(),a,()]
  .rw[tz a] at h;cases h
def AJ(h:gZ a i\v):∃j,seqIndex? i a.length\j/\a[j]?\v/\j<a.length/\-(a.length:Int)<=i/\i<a.length:=by
 unfold gZ at h;cases e:lQ a.length i with
 |none=>rw[e] at h;cases h
 |some j=>
  rw[e] at h;let#[c,d,f,g]:=Jh e;show#[j,c,h,d,f,g]
def dm{j:Nat}(h:a[j]?\v):gZ a (j:Int)\v:=by
 have c:j<a.length:=(cV.mp h).1
 have e:lQ a.length (j:Int)\j:=by
  unfold lQ;rw[mo (),mo ()];simp
 unfold gZ;rw[e];show h
def OC(a:!b)(v:b):gZ (a++ [v]) (-1)\v:=by
 have c:(a++ [v]).length=a.length+1:=by simp
 have e:lQ (a++ [v]).length (-1)\a.length:=by
  unfold lQ;rw[c,tz ∅,mo ()]
  congr 1
  lia
 unfold gZ;rw[e];change(a++ [v])[a.length]?\v;simp
def vC(b:gc):Prop:=∀o i,subscripted b At o i=operate [o,i]^getItem o i
def AE(X:Cx)(r:R2):Prop:=
 ∀(c a:gc)(b:!(Ad×Obj))(s:c_)(d:St)(H:Hp)(x y:V')(v u:b_)(Q:VK),Inv X b d H s->RelV x v->RelV y u->r x y H Q->
  subscripted a At v u=operate [v,u]^getItem v u->e_ (ei X.prog X.w) X.A (subscriptTail c a v u) (EP X b d Q) X.xe s
def Vd(X:Cx)(id:String)(r:V'->!V'->Hp->VK->Prop):Prop:=
 ∀(a:!(Ad×Obj))(s:Shared)(b:St)(H:Hp)(x:V')(c:!V')(v:Value)(d:!Value)(Q:VK),Inv X a b H s->RelV x v->Vals c d->r x c H Q->
  wpAny (model X.prog X.w) X.A (call (.builtin id) (v::d)) (EP X a b Q) X.xe s
section
def AE.or(h:AE X r)(l:AE X f):AE X (λx y H Q=>r x y H Q\/f x y H Q):=by
 intro c d e s g H x y v u Q I i j q k
 rcases q with q|q
 .show h c d e s g H x y v u Q I i j q k
 .show l c d e s g H x y v u Q I i j q k
def dA(d:AE X r)(e:PE X a ta)(f:PE X b tb)(g:vC b):PE X (.Subscript a b pos)^Hf r ta tb:=by
 intro c s i H Q I h;show Subscript_ (QI e f I h λv u j x y k l m n q=>d a b c j i k x y v u Q l m n q^g _ _)
def JL(K:ac):R2:=λx y H Q=>∃p c i v,x= .ref p/\y= .int i/\aK K H p c/\gZ c i\v/\Q v H
def YX(K:ac):R2:=λx y H Q=>∃p c i v,x= .ref p/\y= .int i/\fN K H p c/\gZ c i\v/\Q v H
def bV:AE X^JL X.K:=by
 intro e f c s l H x y v u Q I A B h m;rfl';let#[p,R,i,z,rfl,rfl,E,F,q]:=h;subst A;let#[t,rfl]:=B;let#[g,r,pl,S]:=I.list E;let#[j,d,G,T,J',L']:=AJ F;let#[w,n,M]:=r.get G;have N:=r.length;have U:=l0;have fin:EP X c l Q w s:=#[z,H,I,M,q];ac_rfl
 by_cases o:0<=i
 .have k:i.toNat=j:=by
   rw[agf o L'] at d;show Do d
  show item_listR pl.isList o () (by rw[k];simpa using n) fin m
 .have k:(i+(g.toArray.size:Int)).toNat=j:=by
   rw[seqIndex_neg () J'] at d
   rw[b8,<-N];show Do d
  show aeB (x:=w) pl.isList.typeIs slot_list_getitem.lookup
   (agg (Q:=λr O=>r=w/\EP X c l Q r O) pl.isList () (by rw[b8]<;>lia) () (by rw[k];simpa using n) #[Y,fin]) m
def NM:AE X^YX X.K:=by
 intro d e c s f H x y v u Q I g k h l;rfl';let#[p,M,i,z,rfl,rfl,n,o,q]:=h;subst g;let#[t,rfl]:=k;let#[A,r,pl,N]:=I.tuple n;let#[j,B,C,O,P,R]:=AJ o;let#[w,E,F]:=r.get C;have G:=r.length;have S:=l0;have fin:EP X c f Q w s:=#[z,H,I,F,q];ac_rfl
 show aeB (x:=w) pl.typeIs slot_tuple_getitem.lookup
  (getItem_tuple (j:=j) (Q:=λr J'=>r=w/\EP X c f Q r J') pl () () (by rw[b8,<-G];show B) (~~~E) #[Y,fin]) l
def Jq(c:!Value)(n j:Nat)(u:Value):Obj.mapSeq (·.setIfInBounds j u) {cls:= .type "list",data:= .seq c.toArray n}={cls:= .type "list",data:= .seq (c.set j u).toArray n}:=by
 simp[Obj.mapSeq]
theorem Inv.lst{c:!(Ad×Obj)}{d:St}{H:Hp}{s:Shared}{p:Ad}{xs:!V'}(I:Inv X c d H s)(h:H p\(.lst xs)):
  ∃(its:!Value)(n:Nat),Vals xs its/\s.heap.get? p\{cls:= .type "list",data:= .seq its.toArray n}/\xs.length<=sizeLine:=by
 let#[z,its,n,r,e]:=I.hok p _ h;show#[its,n,r,e,z]
def Inv.Wv{its c:!b_}(I:Inv X d j H s)(h:H p\(.lst xs))
  (l:s.heap.get? p\{cls:= .type "list",data:= .seq its.toArray n}) (k:f {cls:= .type "list",data:= .seq its.toArray n}={cls:= .type "list",data:= .seq c.toArray i}) (r:Vals g c) (m:g.length<=sizeLine) (t:Nat):
  Inv X d j (upd H p^.lst g) {s with heap:=s.heap.update p f,toks:=t}:=by
 have e:(s.heap.update p f).get? p\{cls:= .type "list",data:= .seq c.toArray i}:=by
  rw[P3 f l^by rw[k]<;>rfl,k]
 apply I.write (x:=p) (e:=p) (by rw[h];trivial) (.inl rfl) (λb u o q=>(Os _ _^Ne.symm o).trans q) #[_,e] ?_
 show#[m,c,i,r,e]
def Ue:V'->V'->V'->Hp->(Hp->Prop)->Prop:=λo i v H Q=>∃p c k j,o= .ref p/\i= .int k/\H p\(.lst c)/\lQ c.length k\j/\Q^upd H p^.lst^c.set j v
def set_list:QC X Ue:=by
 intro c s B H o i v N O u Q I C E F h;rfl';let#[p,J',k,j,rfl,rfl,m,L',q]:=h;subst C;let#[t,rfl]:=E;let#[d,n,r,f,M]:=I.lst m;let#[e,R,w,x]:=Jh L';have g:=r.length;have S:=l0;ac_rfl
 have y:Inv X c B (upd H p^.lst^J'.set j v) {s with heap:=s.heap.update p^Obj.mapSeq (·.setIfInBounds j u)}:=
  I.Wv m f (Jq d n j u) (r.set F j) (by rw[fI];show M) s.toks
 by_cases A:0<=k
 .have l:k.toNat=j:=by
   rw[agf A x] at e;show Do e
  show PySem.W.ki_setAt f A () (by rw[b8,<-g];show x)^by rw[l];show#[_,y,q]
 .have l:(k+(d.toArray.size:Int)).toNat=j:=by
   rw[seqIndex_neg () w] at e
   rw[b8,<-g];show Do e
  show PySem.W.ki_setBack f () (by rw[b8,<-g];show w) ()^by rw[l];show#[_,y,q]
def D1(lo c:Option Int)(n:Nat):(sliceBounds lo c V n).1=((HT.cg n 0 lo:Nat):Int)/\(sliceBounds lo c V n).2.1=((HT.cg n n c:Nat):Int)/\(sliceBounds lo c V n).2.2=1:=by
 apply#[?_,?_,Y]
 .cases lo with
  |none=>simp[sliceBounds,HT.cg]
  |some i=>
   simp only[sliceBounds,HT.cg,Option.getD_none,show(1:Int)>0 by decide,adW]
   by_cases h:i<0
   .simp only[h,adW]<;>lia
   .simp only[h,Pi]<;>lia
 .cases c with
  |none=>simp[sliceBounds,HT.cg]
  |some i=>
   simp only[sliceBounds,HT.cg,Option.getD_none,show(1:Int)>0 by decide,adW]
   by_cases h:i<0
   .simp only[h,adW]<;>lia
   .simp only[h,Pi]<;>lia
def Ck(c:!b_)(lo d:Option Int):slicePick c.toArray lo d V=((c.drop^HT.cg c.length 0 lo).take (HT.cg c.length c.length d-HT.cg c.length 0 lo)).toArray:=by
 let#[e,f,g]:=D1 lo d c.toArray.size;unfold slicePick;rw[e,f,g];simp only[sliceRange_one,pick_run,b8]<;>rfl
def acN(K:ac):V'->Option Int->Option Int->Hp->VK->Prop:=λx lo d H Q=>∃a c,x= .ref a/\aK K H a c/\∀p,H p=V->Q (.ref p)^upd H p^.lst^jh c lo d
def wV:Kx X^acN X.K:=by
 intro f s t H x v u w lo e y Q I i j pl k h;rfl';let#[a,c,rfl,m,q]:=h;subst i;let#[n,r,g,p]:=I.list m;have d:=r.length;ac_rfl;exists "list",_,slot_list_getitem.lookup,g.isList.typeIs;apply wpAny_getItem_list_slice g.isList j pl k .none (by simp) ?_^by rw[b8]<;>lia
 rw[Ck,<-d];apply#[.ref s.heap.objs.size,_,I.laid (t':=s.toks) (o:= .lst^jh c lo e) (λb B q=>AC _ q) (bu _) ?_,Y,q _^I.hok.fresh^bu _];show#[jf (nW c lo e) p,_,0,(r.drop^HT.cg c.length 0 lo).take (HT.cg c.length c.length e-HT.cg c.length 0 lo),GM _ rfl]
def gu:V'->Bool
 | .aT=>L
 | .bl _=>L
 | .int _=>L
 | .str _=>L
 |_=>At
def qc:V'->V'->Bool
 | .aT, .aT=>L
 | .bl a, .bl b=>a==b
 | .bl a, .int b=>(if a then 1 else 0)==b
 | .int a, .bl b=>a==(if b then 1 else 0)
 | .int a, .int b=>a==b
 | .str a, .str b=>a==b
 |_,_=>At
def VI{A:gs}{s:c_}{y x:V'}{u v:b_}(ry:RelV y u)(rx:RelV x v)(fy:gu y=L)(fx:gu x=L):SeqAt.EqAt A s u v^qc y x:=by
 cases y with
 |aT=>
  cases ry;cases x with
  |aT=>cases rx;show SeqAt.EqAt.same _
  |bl b=>cases rx;show SeqAt.EqAt.none_bool b
  |int b=>let#[t,rfl]:=rx;show SeqAt.EqAt.none_int b t
  |str b=>let#[t,rfl]:=rx;show SeqAt.EqAt.none_str b t
  |_=>show absurd (show At=L from fx) c9
 |bl a=>
  subst ry;cases x with
  |aT=>cases rx;show SeqAt.EqAt.bool_none a
  |bl b=>cases rx;show SeqAt.EqAt.bool_bool a b
  |int b=>let#[t,rfl]:=rx;show SeqAt.EqAt.bool_int a b t
  |str b=>let#[t,rfl]:=rx;show SeqAt.EqAt.bool_str a b t
  |_=>show absurd (show At=L from fx) c9
 |int a=>
  let#[t',rfl]:=ry;cases x with
  |aT=>cases rx;show SeqAt.EqAt.int_none a t'
  |bl b=>cases rx;show SeqAt.EqAt.int_bool a t' b
  |int b=>let#[t,rfl]:=rx;show SeqAt.EqAt.int_int a t' b t
  |str b=>let#[t,rfl]:=rx;show SeqAt.EqAt.int_str a t' b t
  |_=>show absurd (show At=L from fx) c9
 |str a=>
  let#[t',rfl]:=ry;cases x with
  |aT=>cases rx;show SeqAt.EqAt.str_none a t'
  |bl b=>cases rx;show SeqAt.EqAt.str_bool a t' b
  |int b=>let#[t,rfl]:=rx;show SeqAt.EqAt.str_int a t' b t
  |str b=>let#[t,rfl]:=rx;show SeqAt.EqAt.str_str a t' b t
  |_=>show absurd (show At=L from fx) c9
 |_=>show absurd (show At=L from fy) c9
def sH(x:V')(u:Value):Bool:=match u with
 | .none=>qc .aT x
 | .bool b=>qc (.bl b) x
 | .int i _=>qc (.int i) x
 | .str z _=>qc (.str z) x
 |_=>At
def Am{x y:V'}{u:Value}(r:RelV y u)(f:gu y=L):sH x u=qc y x:=by
 cases y with
 |aT=>cases r;rfl
 |bl b=>cases r;rfl
 |int i=>let#[t,rfl]:=r;rfl
 |str z=>let#[t,rfl]:=r;rfl
 |_=>show absurd (show At=L from f) c9
def vE(r:Vals c d):c.all gu=L->d.any^sH x=c.any λy=>qc y x:=by
 induction r with
 |nil=>show λ_=>rfl
 |cons r _ e=>
  intro f;rw[afv,yO] at f;rw[afw,afw,Am r f.1,e f.2]
def ng(g:RelV x v)(h:gu x=L)(r:Vals d e):d.all gu=L->∀u∈e,SeqAt.EqAt A s u v^sH x u:=by
 induction r with
 |nil=>show λ_ u c=>by cases c
 |cons r _ i=>
  intro f j c;rw[afv,yO] at f
  rcases bQ.mp c with rfl|c
  .rw[Am r f.1];show VI r g f.1 h
  .show i f.2 j c
def Ja(x:V')(c:!V'):Bool:=c.any λy=>qc y x
def Xb(K:ac)(d:Bool):R2:=λx y H Q=>∃p c,y= .ref p/\(aK K H p c\/fN K H p c)/\gu x=L/\c.all gu=L/\Q (.bl^if d then not^Ja x c else Ja x c) H
def L5:OpR X (gi .In)^Xb X.K false:=by
 intro e s l H x y v u Q I f i h;rfl';let#[p,n,rfl,d,g,fs,q]:=h;subst i;ac_rfl
 rcases d with d|d
 .obtain⟨c,r,pl,k⟩:=I.list d
  apply SeqAt.in_listAt (sH x) pl.isList (λw hw=>ng f g r fs w^~~~hw) #[.bl _,H,I,Y,?_]
  rw[show c.toArray.any^sH x=c.any (sH x) by simp,vE r fs]
  show q
 .obtain⟨c,r,pl,k⟩:=I.tuple d
  apply SeqAt.in_tupleAt (sH x) pl (λw hw=>ng f g r fs w^~~~hw) #[.bl _,H,I,Y,?_]
  rw[show c.toArray.any^sH x=c.any (sH x) by simp,vE r fs]
  show q
def tj:OpR X (gi .NotIn)^Xb X.K true:=by
 intro e s l H x y v u Q I f i h;rfl';let#[p,n,rfl,d,g,fs,q]:=h;subst i;ac_rfl
 rcases d with d|d
 .obtain⟨c,r,pl,k⟩:=I.list d
  apply SeqAt.notIn_listAt (sH x) pl.isList (λw hw=>ng f g r fs w^~~~hw) #[.bl _,H,I,Y,?_]
  rw[show c.toArray.any^sH x=c.any (sH x) by simp,vE r fs]
  show q
 .obtain⟨c,r,pl,k⟩:=I.tuple d
  apply SeqAt.notIn_tupleAt (sH x) pl (λw hw=>ng f g r fs w^~~~hw) #[.bl _,H,I,Y,?_]
  rw[show c.toArray.any^sH x=c.any (sH x) by simp,vE r fs]
  show q
def dg:CallR X (.builtin "len") (λi H Q=>∃p d,i= [.ref p]/\(aK X.K H p d\/fN X.K H p d)/\Q (.int d.length) H):=by
 intro j s n H i o Q I r h;rfl';let#[p,d,rfl,e,q]:=h;let#[u,rfl,l]:=vals1 r;subst l;have v:=l0;ac_rfl
 rcases e with e|e
 .obtain⟨f,g,pl,m⟩:=I.list e
  have c:=g.length;show Calls.call_len_list pl.isList (by simp only[b8]<;>lia) #[.int d.length,H,I.tok _,#[s.toks+1,by rw[b8,c]],q]
 .obtain⟨f,g,pl,m⟩:=I.tuple e
  have c:=g.length;show len_tuple pl (by simp only[b8]<;>lia) #[.int d.length,H,I.tok _,#[s.toks+1,by rw[b8,c]],q]
def sV:CallR X (.type "list") (λB H Q=>∃p f,B= [.ref p]/\(aK X.K H p f\/fN X.K H p f)/\∀l,H l=V->Q (.ref l)^upd H l^.lst f):=by
 intro j s E H B G Q I r h;let#[p,f,rfl,k,q]:=h;let#[u,rfl,F]:=vals1 r;subst F
 have fin:∀(c:!b_),Vals f c->f.length<=sizeLine->∀(d:Heap)(g:Nat),(∀b C,s.heap.get? b\C->d.get? b\C)->
   d.get? s.heap.objs.size\{cls:= .type "list",dict:=V,data:= .seq c.toArray g,slots:= #[]}->EP X j E Q (.ref s.heap.objs.size) {s with heap:=d}:=λc i m d g t e=>
  #[.ref s.heap.objs.size,_,I.laid (t':=s.toks) t (bu _) (show bR X.prog X.w _ d _^.lst f from#[m,c,g,i,e]),Y,q _^I.hok.fresh^bu _]
 rcases k with k|k
 .obtain⟨c,i,pl,m⟩:=I.list k
  have v:=i.length;let#[o,x,y,n,A]:=pl.isList;show call_list_seq p (.inl rfl) x y A (λd g t e=>fin c i m d g t e)^by simp only[b8]<;>lia
 .obtain⟨c,i,pl,m⟩:=I.tuple k
  have v:=i.length;let#[o,x,y,n,A]:=pl;show call_list_seq p (.inr rfl) x y A (λd g t e=>fin c i m d g t e)^by simp only[b8]<;>lia
def XR(K:ac)(T:String)(x:V')(H:Hp):Prop:=match x with
 | .str _=>T="str"
 | .int _=>T="int"
 | .ref p=>(T="list"/\∃d,aK K H p d)\/(T="tuple"/\∃o,K.lookup p\o/\o.cls= .type "tuple"/\o.dict=V)\/
   (T="dict"/\((∃c,H p\(.dK c))\/∃c,H p\(.dT c)))\/(T="set"/\∃S n,H p\(.set S n))
 |_=>False
theorem Ol(I:Inv X g m H s)(r:RelV x v)(h:XR X.K T x H):
  s.TypeIs v T/\∀a,v= .ref a->∃l,s.heap.get? a\l/\l.dict=none:=by
 cases x with
 |str z=>
  let#[t,rfl]:=r;cases(show T="str" from h);show#[typeIs_str s z t,λ_ e=>nomatch e]
 |int i=>
  let#[t,rfl]:=r;cases(show T="int" from h);show#[typeIs_int s i t,λ_ e=>nomatch e]
 |ref p=>
  subst r
  rcases h with ⟨rfl,A,q⟩ | ⟨rfl,o,d,u,j⟩ | ⟨rfl,d⟩ | ⟨rfl,S,n,d⟩
  .obtain⟨w,_,pl,_⟩:=I.list q
   apply#[pl.isList.typeIs,λa e=>?_];cases e;let#[o,n,e,c,j,_]:=pl;show#[o,e,j]
  .apply#[#[o,I.fi p o d,u],λa e=>?_]
   cases e;show#[o,I.fi _ o d,j]
  .have z:∃o,s.heap.get? p\o/\o.ExactDict:=by
    rcases d with ⟨y,d⟩ | ⟨y,d⟩
    .obtain⟨_,_,_,_,o,_,_,e,f,_⟩:=I.hok p _ d
     show#[o,e,f]
    .obtain⟨_,_,_,_,o,_,_,e,f,_⟩:=I.hok p _ d
     show#[o,e,f]
   let#[o,e,f]:=z;apply#[#[o,e,f.1],λa k=>?_];cases k;show#[o,e,f.2.1]
  .obtain⟨o,_,_,_,e,f,_⟩:=I.hok p _ d
   apply#[#[o,e,f.1],λa k=>?_];cases k;show#[o,e,f.2.1]
 |_=>show False.elim h
def ac0(K:ac)(T:String)(r:V'->!V'->Hp->VK->Prop)(d:TE):TE:=λe H Q=>d e H λx c=>XR K T x c/\r x [] c Q
def tBM(K:ac)(T:String)(r:V'->!V'->Hp->VK->Prop)(e:TE)(t:TA):TE:=λc H Q=>e c H λx d=>XR K T x d/\t c d λf g=>r x f g Q
variable {id : String}
theorem NV(i:PlainAttrs T)(slot:Slot T name id)(j:typeOf^.builtin id=pure^.type "method_descriptor")(k:Vd X id r)(l:PE X o to)
  (m:eE o name X.env<|>zn) (n:(apos.endLine==bp.line)=L<|>zn):PE X (.Call (.Attribute o name apos) [] [] bp)^ac0 X.K T r to:=by
 intro c s d H Q I h;apply wpAny_Call_method0_late m n (thn (l c s d H _ I h) λv p q=>?_);rfl';let#[x,w,f,g,y,A]:=q;let#[B,C]:=Ol f g y;ac_rfl;show#[T,id,i,slot,j,B,C,aeC rfl^PySem.evalArgs_none^k c p d w x [] v [] Q f g .nil A]
theorem i5(l:PlainAttrs T)(slot:Slot T name id)(m:typeOf^.builtin id=pure^.type "method_descriptor")(n:Vd X id r)(p:PE X o to)(q:PA X (e::d) t)
  (u:eE o name X.env<|>zn)
  (w:((gM f^d_ (e::d) X.env).all (λx=>not^x.1)&&(jB f^ip [] X.env).all (λx=>x.1.isSome)
   &&AT ((e::d).length+([]:!j_).length+(if ([]:!j_).isEmpty then 0 else 1)<30))=L<|>zn)
  (y:(apos.endLine==f.line)=L<|>zn) (A:eI e d X.env<|>zn) (B:eB f d X.env<|>zn):
  PE X (.Call (.Attribute o name apos) (e::d) [] f)^tBM X.K T r to t:=by
 intro c s g H Q I h;apply agh u w y rfl (thn (p c s g H _ I h) λv C E=>?_);rfl';let#[x,G,i,j,J',L']:=E;let#[M,N]:=Ol i j J';ac_rfl;exists T,id,l,slot,m,M,N;have k:=q f c C g G _ i L';rw[A] at k ⊢;apply aeC (by change(At|| (gM f^d_ d X.env).any (·.1))=At;rw[B]<;>rfl)^Calls.evalArgs_plain ?_
 apply thn k λO P hH=>?_;let#[R,S,U,Y',Z]:=hH;show n c P g S x R v O Q U j Y' Z
end
def Kv(X:Cx)(id:String)(r:V'->!V'->Hp->VK->Prop):Prop:=
 ∀(a:!(Ad×Obj))(s:Shared)(b:St)(H:Hp)(x:V')(c:!V')(v:Value)(d:!Value)(Q:VK),Inv X a b H s->RelV x v->Vals c d->r x c H Q->
  wpAny (model X.prog X.w) X.A (call (.builtin id) (v::d)) (EP X a b Q) X.xe s
def Vals.one(h:Vals [x] a):∃u,a= [u]/\RelV x u:=by
 cases h with|cons r t=>cases t;show#[_,Y,r]
def Vals.two{x y:V'}(h:Vals [x,y] a):∃u v,a= [u,v]/\RelV x u/\RelV y v:=by
 cases h with
 |cons r t=>
  let#[v,rfl,q]:=Vals.one t;show#[_,v,Y,r,q]
theorem Vals.zero:∀{a:!Value},Vals [] a->a= []
 |_, .nil=>rfl
theorem Vals.dropLast(h:Vals a b):Vals a.dropLast b.dropLast:=by
 induction h with
 |nil=>show .nil
 |cons r t c=>
  cases t with
  |nil=>show .nil
  |cons q d=>show .cons r c
theorem Vals.eraseIdx(i:Nat)(r:Vals a b):Vals (a.eraseIdx i)^b.eraseIdx i:=by
 induction r generalizing i with
 |nil=>cases i<;>show .nil
 |cons q t c=>
  cases i with
  |zero=>show t
  |succ i=>show .cons q^c i
theorem Vals.reverse(h:Vals a b):Vals a.reverse b.reverse:=by
 induction h with
 |nil=>show .nil
 |cons r t c=>rw[aev,aev];show Vals.append c^.cons r .nil
theorem Vals.rep(h:Vals a b):∀k:Nat,Vals (ak k a).flatten (ak k b).flatten
 |0=> .nil
 |k+1=>by
  rw[C6,C6,mj,mj];show Vals.append h^Vals.rep h k
def Iy(l:!c):l.eraseIdx (l.length-1)=l.dropLast:=by
 induction l with
 |nil=>rfl
 |cons a r d=>
  cases r with
  |nil=>rfl
  |cons b r=>
   have e:(a::b::r).length-1=((b::r).length-1)+1:=by
    have f:(a::b::r).length=r.length+2:=rfl;have g:(b::r).length=r.length+1:=rfl;lia
   rw[e,List.eraseIdx_cons_succ,d]
   all_goals rfl
theorem BA:∀(l:!a)(i:Nat),(l.eraseIdx i).length<=l.length
 | [],_=>bu _
 |_::_,0=>pM _
 |_::r,i+1=>Nat.succ_le_succ^BA r i
theorem foldl_rep(a:!b_):∀(k:Nat)(acc:!b_),
  List.foldl (λb c=>b++c) acc.toArray^ak k a.toArray=(acc++(ak k a).flatten).toArray
 |0,acc=>by simp
 |k+1,acc=>by
  have e:acc.toArray++a.toArray=(acc++a).toArray:=by simp
  have d:(acc++a)++(ak k a).flatten=acc++(ak (k+1) a).flatten:=by
   rw[C6,mj,kz]
  rw[<-d,<-foldl_rep a k (acc++a),<-e,C6,af9]
section
def Inv.ER{its its':!b_}(I:Inv X pins σ H s)(a:H l\(.lst xs))
  (e:s.heap.get? l\{cls:= .type "list",data:= .seq its.toArray n}) (c:f its.toArray=its'.toArray) (d:Vals ys its') (g:ys.length<=sizeLine):
  Inv X pins σ (upd H l^.lst ys) {s with heap:=s.heap.update l^Obj.mapSeq f,toks:=t'}:=by
 have q:=PySem.IsL.update e f;rw[c] at q;apply I.write (x:=l) (e:=l) (by rw[a];show trivial) (.inl rfl) (λj u h i=>(Os s.heap (Obj.mapSeq f)^Ne.symm h).trans i) #[_,q] ?_
 show#[g,its',_,d,q]
def Inv.NQ{its:!b_}{t':Nat}(I:Inv X pins σ H s)(a:Vals ys its)(c:ys.length<=sizeLine):
  Inv X pins σ (upd H s.heap.objs.size^.lst ys) {s with heap:=s.heap.push {cls:= .type "list",data:= .seq its.toArray},toks:=t'}:=
 I.laid (λ_ _ q=>AC _ q) (bu _) #[c,its,0,a,GM _ rfl]
theorem Inv.fresh(I:Inv X pins σ H s):H s.heap.objs.size=none:=I.hok.fresh^bu _
def Inv.ph(I:Inv X pins σ H s)(a:H l\(.lst xs)):xs.length<=sizeLine/\∃(its:!Value)(n:Nat),Vals xs its/\xs.length=its.length/\s.heap.get? l\{cls:= .type "list",data:= .seq its.toArray n}:=by
 let#[z,its,n,r,e]:=I.hok l _ a;show#[z,its,n,r,r.length,e]
def ET(h:n<=sizeLine):Builtin.List.listTooLong n=false:=by
 unfold Builtin.List.listTooLong;show GE ()
end
section
def Ub:V'->!V'->Hp->VK->Prop:=λx b H Q=>∃l a y,x= .ref l/\b= [y]/\H l\(.lst a)/\a.length<sizeLine/\Q .aT^upd H l^.lst (a++ [y])
def lq:Kv X "list.append" Ub:=by
 intro b s j H x k v m Q I d f h;rfl';let#[l,p,y,rfl,rfl,c,t,q]:=h;subst d;let#[u,rfl,i]:=f.one;let#[z,a,n,r,w,e]:=I.ph c;ac_rfl;apply ad0 F.slot_list_append #[_,e,Y] F.entry_list_append (F.args_list_append_2 _ _) (PySem.list_append l a.toArray n u^by rw[b8];lia) #[e,?_]
 apply#[.aT,_,I.ER (its':=a++ [u]) c e (by simp) (r.append^.cons i .nil) ?_,Y,q]
 rw[dj,CU];lia
def Uc:V'->!V'->Hp->VK->Prop:=λx d H Q=>∃l b a c,x= .ref l/\d= [.ref b]/\H l\(.lst a)/\H b\(.lst c)/\a.length+c.length<=sizeLine/\Q .aT^upd H l^.lst (a++c)
def BJ:Kv X "list.extend" Uc:=by
 intro d s y H x A v B Q I g i h;let#[l,b,C,E,rfl,rfl,f,j,G,q]:=h;cases g;let#[u,rfl,k]:=i.one;cases k;let#[z,a,n,r,J',e]:=I.ph f;let#[L',c,m,o,M,p]:=I.ph j;have t:a.toArray.size+c.toArray.size<=sizeLine:=by rw[b8,b8];lia
 have w:¬(not^a.toArray.isEmpty&&Builtin.List.listTooLong (a.toArray.size+c.toArray.size))=true:=by
  rw[ET t,afh];show c9
 apply ad0 F.slot_list_extend #[_,e,Y] F.entry_list_extend (F.args_list_extend_2 _ _)
  (AutoSeq1.list_extend_list_list_0 l a.toArray n b c.toArray m w (by rw[b8];lia) ()) #[e,p,?_]
 apply#[.aT,_,I.ER (its':=a++c) f e (by simp) (r.append o) ?_,Y,q]
 rw[dj];lia
def acK:V'->!V'->Hp->VK->Prop:=λx b H Q=>∃l a y,x= .ref l/\b= []/\H l\(.lst a)/\a[a.length-1]?\y/\Q y^upd H l^.lst a.dropLast
def Wz:Kv X "list.pop" acK:=by
 intro c s t H x w v A Q I f g h;rfl';let#[l,C,y,rfl,rfl,d,j,q]:=h;subst f;have b:=g.zero;subst b;let#[z,a,n,r,k,e]:=I.ph d;let#[u,m,o]:=r.get j;ac_rfl
 have p:a.toArray[a.toArray.size-1]?\u:=by
  change a.toArray[a.length-1]?\u;rw[<-gE,<-k];show m
 apply ad0 F.slot_list_pop #[_,e,Y] F.entry_list_pop (F.args_list_pop_1 _) (MeetsSeq.list_pop_last l a.toArray n u p^by rw[b8];lia) #[e,?_]
 apply#[y,_,I.ER (its':=a.dropLast) d e ?_ r.dropLast ?_,o,q]
 .change a.toArray.eraseIdxIfInBounds (a.toArray.size-1)=a.dropLast.toArray
  rw[b8,aeX,Iy]
 .rw[List.length_dropLast]
  lia
def Xd:V'->!V'->Hp->VK->Prop:=λx b H Q=>∃l a i k y,x= .ref l/\b= [.int i]/\H l\(.lst a)/\-(2<<<63)<=i/\i<2<<<63/\seqIndex? i a.length\k/\a[k]?\y/\Q y^upd H l^.lst^a.eraseIdx k
def Pm:Kv X "list.pop" Xd:=by
 intro b s E H x G v J' Q I d f h;let#[l,g,i,k,y,rfl,rfl,c,j,m,o,p,q]:=h;cases d;let#[u,rfl,A]:=f.one;let#[t,rfl]:=A;let#[z,a,n,r,B,e]:=I.ph c;let#[w,hw,C]:=r.get p
 apply ad0 F.slot_list_pop #[_,e,Y] F.entry_list_pop (F.args_list_pop_2 _ _)
  (MeetsSeq.list_pop_at l a.toArray n i t k w (ago j m) (by rw[b8,<-B];show o) (by rw[<-gE];show hw)^by rw[b8];lia) #[e,?_]
 apply#[y,_,I.ER (its':=a.eraseIdx k) c e ?_ (r.eraseIdx k) ?_,C,q]
 .change a.toArray.eraseIdxIfInBounds k=(a.eraseIdx k).toArray
  rw[aeX]
 .have:=BA g k
  lia
def PQ:V'->!V'->Hp->VK->Prop:=λx b H Q=>∃l a,x= .ref l/\b= []/\H l\(.lst a)/\Q .aT^upd H l^.lst a.reverse
def Js:Kv X "list.reverse" PQ:=by
 intro c s i H x j v k Q I f g h;let#[l,m,rfl,rfl,d,q]:=h;cases f;have b:=g.zero;subst b;let#[z,a,n,r,o,e]:=I.ph d;apply ad0 F.slot_list_reverse #[_,e,Y] F.entry_list_reverse (F.args_list_reverse_1 _) (AutoSeq1.list_reverse_list_0 l a.toArray n^by rw[b8];lia) #[e,?_]
 apply#[.aT,_,I.ER (its':=a.reverse) d e (by simp) r.reverse ?_,Y,q]
 rw[List.length_reverse];lia
def acH:R2:=λx y H Q=>∃l b a c,x= .ref l/\y= .ref b/\H l\(.lst a)/\H b\(.lst c)/\a.length+c.length<=sizeLine/\∀p,H p=V->Q (.ref p)^upd H p^.lst (a++c)
def GF:OpR X (i_ .Add) acH:=by
 intro c s t H x y v u Q I f g h;rfl';let#[l,b,A,B,rfl,rfl,j,k,C,q]:=h;subst f;subst g;let#[z,a,n,r,E,e]:=I.ph j;let#[F,d,G,m,J',o]:=I.ph k;ac_rfl;apply PySem.P.add_list e o ?_^by rw[b8,b8];lia
 have p:a.toArray++d.toArray=(a++d).toArray:=by simp
 rw[p];show#[.ref _,_,I.NQ (t':=s.toks) (r.append m)^by rw[dj];lia,Y,q _ I.fresh]
def acM:R2:=λx y H Q=>∃l k a,x= .ref l/\y= .int k/\H l\(.lst a)/\-(2<<<63)<=k/\k<2<<<63/\a.length*k.toNat<=sizeLine/\
 ∀p,H p=V->Q (.ref p)^upd H p^.lst (ak k.toNat a).flatten
def len_rep(a:!b)(k:Nat):(ak k a).flatten.length=k*a.length:=by
 induction k with
 |zero=>simp
 |succ k c=>rw[C6,mj,dj,c,Nat.succ_mul,Nat.add_comm]
def WR:OpR X (i_ .Mult) acM:=by
 intro j s O H x y v u Q I p w h;rfl';let#[l,k,R,rfl,rfl,B,C,E,o,q]:=h;subst p;let#[t,rfl]:=w;let#[z,b,n,r,G,e]:=I.ph B;have c:b.toArray.size*k.toNat<=sizeLine:=by rw[b8,<-G];show o
 ac_rfl
 have d:¬b.toArray.size*k.toNat>(2<<<63-1) / 8:=by
  have:(sizeLine:Nat)<=(2<<<63-1) / 8:=∅
  lia
 have J':¬(not^Builtin.List.listFitsIndex k)=true:=by
  rw[ago C E];show c9
 have L':¬Builtin.List.listTooLong (b.toArray.size*k.toNat)=true:=by
  rw[ET c];show c9
 have f:List.foldl (λg i=>g++i) #[]^ak (if b.toArray.isEmpty=L then 0 else k.toNat) b.toArray=(ak k.toNat b).flatten.toArray:=by
  have M:∀m:Nat,List.foldl (λg i=>g++i) #[]^ak m b.toArray=(ak m b).flatten.toArray:=λm=>by
   have:=foldl_rep b m []
   rw[pJ] at this;show this
  rw[M];cases b with
  |nil=>simp
  |cons a S=>rw[tz^by simp]
 apply wpAny_binaryOp_repeat_ref (T:="list") (U:="int") ∅ #[_,e,Y] (λN=>typeIs_int N k t) noFill_list_mul F.fills_int_mul F.slot_int_rmul repeat_list F.slot_int_index.lookup
  (ad0 F.slot_int_rmul (typeIs_int s k t) F.entry_int_rmul (F.args_int_rmul_2 _ _) (int___rmul___int_list k t l b.toArray n)
   #[e,Y,#[_,e,Y],ad0 F.slot_list_mul #[_,e,Y] F.entry_list_mul (F.args_list_mul_2 _ _) (AutoListH.list___mul___list_int_3 l b.toArray n k t J' d L') #[e,?_]])
 rw[f];show#[.ref _,_,I.NQ (t':=s.toks) (r.rep k.toNat)^by rw[len_rep,Nat.mul_comm];show o,Y,q _ I.fresh]
end
section
variable {prog:Program} {w:World} {A:Around} {E:Value->Shared->Prop} {s:Shared}
end
section
variable {X:Cx}
end
end L2
namespace Att
open PySem PySem.W PySem.Calls PyProof.Rows
def xZ:∀(c:!Int)(d:!b_),WellAll P h d^c.map WData.int->jp d c:=by
 intro c
 induction c with
 |nil=>
  intro d w;rw[yT] at w;cases w;show .nil
 |cons n c e=>
  intro d w;rw[b9] at w;cases w with
  |cons a b=>
   cases a;show .cons _ _^e _ b
theorem Mu{l:OpenLaw}(o:l.most\n) 
  (j:l.row.toRowW.claim.pre args=L) (g:WellAll P h vals args):
  ∃a k b,vals= [Value.ref a]/\args= [WData.list^b.map WData.int]/\h.get? a\{cls:= .type "list",data:= .seq k.toArray}/\jp k b/\b.length<=n:=by
 have i:WShape.hasAll [] args [.list .int]=true:=(pre_splitW j).1;have m:l.pre.holds [] {args:=args}=true:=(pre_splitW j).2;let#[d,r,rfl,p,s]:=hasAllW_cons i;obtain rfl:=hasAllW_nil s;let#[A,rfl,t]:=hasW_list p;let#[b,rfl]:=items_int t
 have c:b.length<=n:=by
  unfold OpenLaw.pre at m
  have e:(WTm.not^.lt (.lit^.int (n:Int))^.len^.arg 0).holds [] {args:= [.list^b.map .int]}=true:=by
   have e:=(holds_andW m).1;rw[o] at e;show e
  have f:=condW_of e^w_not^w_lt w_lit^w_len_list^w_arg rfl;rw[aG] at f;apply lI λq=>?_;have u:(n:Int)<((b.length:Nat):Int):=()
  first
   | (rw[B u] at f;show absurd f ∅)
   | (simp at f;lia)
 cases g with
 |cons v w=>
  cases w;cases v with
  |list x y=>show#[_,_,b,Y,Y,x,xZ b _ y,c]
def Mc(l:OpenLaw)(args:!WData):l.row.toRowW.claim.post args (.bool L) args=true:=
 postW_of (r:=l.row.toRowW) (X:=(L==L))
  (show WShape.has [] (.bool L) .bool=L by first|rfl|decide|simp[WShape.has,WShape.arms,WShape.armsAll])
  (show(WTm.eq .res^.lit^.bool L).value [] {args:=args,res:=J^.bool L,after:=args}\(.bool (L==L)) from w_eq_bool (w_res rfl) w_lit) rfl
def Fv{l:OpenLaw} 
  (E:l.most\n) (F:d.params.defaults= [])
  (call:∀(w:f8)(e b:c_)(m u:fC->Option b_)(j:Ad)(o:Obj)(v p g:b_)(a:Ad)(i:!b_)(s:!Int),
   Ground q c [] y w e m u b.heap->A w b.heap->
   b.heap.get? j\o->o.data= .func^docDef d.name d.params d.body d.scope v p g->b.heap.CodeRec p d.name->m d.name\(.ref j)->
   b.heap.get? a\{cls:= .type "list",data:= .seq i.toArray}->jp i s->s.length<=n->b.gens= #[]->
   g6 (ei l.prog w) callerA (.call (.ref j) #[[.ref a],[]]) (λr t=>r= .ok^.ret^.bool L/\OldK b.heap t.heap/\t.os=b.os/\lv t.gens) b):
  WalkO q c y A l.row.toRowW d [] (λf i=>ee f i):=by
 intro w e b m u G Y' j o v p g H kV I J' L' B M N C vals as O P Q x xU;obtain rfl:H= .none:=Dflts.none B F;obtain rfl:kV= .none:=Dflts.noKw B;rfl';let#[a,i,s,rfl,rfl,S,h,k]:=Mu E O x;ac_rfl;apply enter_call (adQ (call w e b m u j o v p g a i s G Y' I (fd_plain J') L' M S h k N) λr t T=>?_);let#[rfl,U,X,Z]:=T;show#[.inl #[.bool L, .bool L,[],Y,λ_=>rfl, .bool L,Mc l _,λ_=>#[List.Pairwise.nil,λ_ hm=>(nomatch hm)]],U,X,Z]
section
variable {prog:Program} {w:World} {A:Around} {E:Value->Shared->Prop} {s:Shared} {K:Frag}
end
end Att
namespace L2
open PySem PySem.Spec PyProof.Rows
theorem uQ:∀{a:!b_}{b:!Int},jp a b->Vals (b.map V'.int) a
 |_,_, .nil=> .nil
 |_,_, .cons n t h=> .cons #[t,Y]^uQ h
def Qz(H:Hp):Prop:=∀b,H b=V\/∃o a,H b\(.tX o^.lst a)
theorem Ph{P:ff}{w:f8}{K:ac}{l G:fC->Option b_}{S:sA}{k:Nat}{I a:Ad}{T:hQ}{x:fC}{U:Sp}{c:c_}{j:!b_}{p:!Int}
  (X:K.In c.heap) (Y':c.heap.Ns f5 l) (f:c.heap.Ns builtinsNs G) (Lc:∀x:fC,x≠"__name__"->G x=gl x) (J':c.heap.NoLimit) (hg:c.gens= #[])
  (C:c.heap.get? a\{cls:= .type "list",data:= .seq j.toArray}) (Z:jp j p) (hl:p.length<=sizeLine) (hr:cw k callerA)
  (F:∀base:Heap,K.In base->base.Ns f5 l->FnOk P w K l base S k I T [x] U) (L':∀(s:c_)(u:b_),BindsTo s T #[[u],[]] [(x,u)])
  (DL:∀H:Hp,Qz H->aK K H a^p.map V'.int->U [.ref a] H (λv _=>v= .bl L) λ_ _ _=>False)
  (M:∀H e g,S [] H c (λ_ _ _=>False) e g->False):
  g6 (ei P w) callerA (.call (.ref I) #[[.ref a],[]]) (λr g=>r= .ok^.ret^.bool L/\OldK c.heap g.heap/\g.os=c.os/\lv g.gens) c:=by
 have rv:=uQ Z;have N:=Z.length
 have i:∀H:Hp,Qz H->aK K H a^p.map V'.int->iB P w H c.heap->(∀b,H b≠V->b=a)->(H a≠V->K.lookup a=V)->
   g6 (ei P w) callerA (.call (.ref I) #[[.ref a],[]]) (λr g=>r= .ok^.ret^.bool L/\OldK c.heap g.heap/\g.os=c.os/\lv g.gens) c:=by
  intro H hO hS hok hA hK;have HP:∀{b:Ad}{o:Obj},c.heap.get? b\o->H b=V->(vU c.heap H).get? b\o:=λe n=>Pa e n
  have Te:∀{b:Ad}{o:Obj}{t:Array DictEntry}{y:Nat},c.heap.get? b\o->o.data= .dict t y->H b=none:=λ {b o t y} e d=>by
   cases q:H b with
   |none=>rfl
   |some u=>
    have O:b=a:=hA b^by rw[q];simp
    subst O;rw[C] at e;cases e;have d':Data.seq j.toArray _=Data.dict t y:=d;cases d'
  have E:∀{b:Ad}{m:fC->Option b_},c.heap.Ns b m->(vU c.heap H).Ns b m:=λ {b m} #[o,t,y,e,d,r]=>#[o,t,y,HP e^Te e d,d,r]
  have A:K.In^vU c.heap H:=λb o e=>HP (X b o e) (by
   cases q:H b with
   |none=>rfl
   |some u=>
    have O:b=a:=hA b^by rw[q];simp
    subst O;rw[hK^by rw[q];simp] at e;cases e)
  have hM:Mod K l^vU c.heap H:=#[A,E Y',#[G,E f,Lc],let #[mc,h1,h2]:=J';#[mc,E h1,h2]];have e0:Env0 P w K l (vU c.heap H) callerA [] c H:=#[Y,hM,λb o e=>Tp e,agu^Lk _ _,trivial,λb f=>absurd (show b∈([]:!Ad) from f)^by simp,hok, .of_eq hg]
  apply adQ ((F _ A^E Y').run callerA [] c H #[[.ref a],[]] [.ref a] [.ref a] _ _ hr e0 (L' c^.ref a) (.cons rfl .nil)^DL H hO hS) λr g h=>?_;cases r with
  |error e=>show(M H e g h).elim
  |ok fl=>
   cases fl with
   |next=>show False.elim h
   |brk=>show False.elim h
   |cont=>show False.elim h
   |ret u=>
    rfl';let#[v,H',os,bare,un,Q,r',q]:=h;have q':v= .bl true:=q;subst q';ac_rfl;obtain rfl:u=Value.bool true:=r';apply#[Y,OldK.of_keep λb o e=>?_,os,bare];cases q:H b with
    |none=>show un.keep b o e q (by intro z;show absurd (show b∈([]:!Ad) from z)^by simp) (by simp)
    |some u=>
     rcases hO b with z| ⟨ob,xs,z⟩
     .rw[q] at z;cases z
     .have z2:=un.frzs b ob _ z
      let#[e1,_]:=hok b _ z;let#[e2,_]:=Q b _ z2;rw[e] at e1;cases e1;show e2
 cases R:K.lookup a with
 |some o=>
  have e:=X a o R;rw[C] at e;cases Do e;apply i (λ_=>V) (λ_=> .inl rfl) (.inr #[_,j.toArray,_,R,Y,Y,Y,by rw[b8,N];show hl,by simpa using rv]) (λb u z=>by have B:(V:Option HO)\u:=z;cases B) (λb z=>absurd rfl z) λz=>absurd rfl z
 |none=>
  apply i (λb=>if b=a then J^.tX {cls:= .type "list",data:= .seq j.toArray}^.lst^p.map V'.int else V) (λb=>?_) (.inl^.inr #[{cls:= .type "list",data:= .seq j.toArray},mo rfl]) (λb u z=>?_) (λb z=>?_) λ_=>R
  .by_cases f:b=a
   .show .inr #[_,_,mo f]
   .show .inl^tz f
  .by_cases f:b=a
   .have B:=(mo f).symm.trans z
    obtain rfl:=Do B;subst f;show#[C,by rw[aG];show hl,j,_,rv,C]
   .have B:=(tz f).symm.trans z
    cases B
  .by_cases f:b=a
   .show f
   .show absurd (tz f) z
def UW{l:cP}{n k:Nat}{q:ff}{i:!fC}{L':(fC->Option b_)->Heap->Prop}{C:f8->Heap->Prop}{d:DefRec}{K:Params->ac}{CX:f8->sA}{sp:f8->Sp}{x:fC}
  (M:l.most\n) (N:n<=sizeLine) (O:d.params.defaults= []) (P:cw k callerA)
  (Q:∀(w:f8)(h:Heap),C w h->(K w.params).In h)
  (F:∀(w:f8)(m:fC->Option b_)(r:Ad)(h:Heap),(K w.params).In h->h.Ns f5 m->m d.name\(.ref r)->
   ∃y:hQ,(∀(s:c_)(u:b_),BindsTo s y #[[u],[]] [(x,u)])/\
    ∀base:Heap,(K w.params).In base->base.Ns f5 m->FnOk l.prog w (K w.params) m base (CX w) k r y [x]^sp w)
  (R:∀(w:f8)(H:Hp)(a:Ad)(t:!Int),t.length<=n->Qz H->aK (K w.params) H a^t.map V'.int->sp w [.ref a] H (λv _=>v= .bl L) λ_ _ _=>False)
  (A:∀(w:f8)(H:Hp)(s:c_)(e:b_)(B:c_),CX w [] H s (λ_ _ _=>False) e B->False):
  eh q i L' C l.row.toRowW d [] (λf E=>ee f E):=by
 apply Att.Fv M O λw I p m mb r o pm cd S a E t G Y' ho hd gw U X j c Z=>?_;have J':=Q w _ Y';let#[y,hb,hF]:=F w m r _ J' G.T.g U;show Ph J' G.T.g G.T.b G.T.builtins G.T.nolimit Z X j (jf c N) P hF hb (λH hO hS=>R w H a t c hO hS) λH e B=>A w H p e B
def inClass(s:Stmt)(j:Nat):Stmt:=match s with
 | .ClassDef _ _ _ body _ _ _ _ _ _ _=>body.getD j^.Pass #[0,0,0,0]
 |_=> .Pass #[0,0,0,0]
def hU(s:Stmt):Arguments:=match s with
 | .FunctionDef _ a _ _ _ _ _ _ _ _=>a
 |_=>{posonlyargs:= [],args:= [],vararg:=V,kwonlyargs:= [],kw_defaults:= [],kwarg:=V,defaults:= []}
def dP(s:Stmt):!Stmt:=match s with
 | .FunctionDef _ _ b _ _ _ _ _ _ _=>b
 |_=> []
def au(s:Stmt):Scope:=match s with
 | .FunctionDef _ _ _ _ _ _ sc _ _ _=>sc
 |_=>{kind:= .function,names:= [],isGenerator:=At,isCoroutine:=At}
abbrev fJ:sA:=λ_ _ _ _ _ _=>False
abbrev E0:XK:=λ_ _ _=>False
def cJ:Passes fJ X E0:=λ_ _ _ _ _ _ _ h=>h.elim
structure vB (K:ac) (x qual:fC) (st:Stmt) (f:Ad) (fd:hQ):Prop where
 ex:∃(oc:b_)(od:Option Ad)(kV doc pm:b_)(an:Option Ad)(aZ ct:b_)(GH:Array^Option b_),
  fd=ce x qual (hU st) (dP st) (au st) .none kV doc pm an aZ ct/\K.lookup f\#[oc,od, .func fd,GH]/\bi K aZ qual=L
 kp:am K^.ref f=L
section
variable {K : ac}
def vB.ok{x a:fC}{st:Stmt}{f:Ad}{e:hQ}{N c:!fC}{k:Nat}{d:Sp}(F:vB K x a st f e)(S:aF N c^au st)(len:∀vs H Q E,d vs H Q E->vs.length=c.length)
  (g:∀(b:b_)(A:gs)(outer:!nQ)(s:c_)(H:Hp)(vs:!V')(Q:VK)(E:XK),cw k^A.deeper^lr a (au st) s.heap.objs.size f b->d vs H Q E->
   ∃t,kE (kZ fJ P w K mg base N a (au st) f b A outer s H E).mw (dP st) t/\t {nx:=λ_ i=>Q .aT i,rt:=Q} (start N vs) H):FnOk P w K mg base fJ (k+1) f e c d:=by
 rfl';let#[u,v,kV,l,y,B,b,C,G,rfl,m,n]:=F.ex;ac_rfl;apply Rw m n S len λA outer s H vs Q E o p=>?_;let#[t,h,q]:=g b A outer s H vs Q E o p;show#[t,h.mw,q]
def vB.binds{st:Stmt}{ps:!fC}(F:vB K x a st f j)
  (h:∀(kV b c:b_)(d:Option Ad)(e g:b_)(i:!b_),i.length=ps.length->nt (ce x a (hU st) (dP st) (au st) .none kV b c d e g) #[i,[]]=pure^ps.zip i):Binds K j ps []:=by
 rfl';let#[m,n,kV,b,c,d,e,g,o,rfl,p,q]:=F.ex;ac_rfl;show .all^h kV b c d e g
def n9{x a:fC}{st:Stmt}{f:Ad}{i:b_}{j e:Option Ad}{m:Array^Option b_}{kV b g d h:b_}(l:K.lookup f\#[i,j, .func^ce x a (hU st) (dP st) (au st) .none kV b g e d h,m])
  (c:bi K d a=L) (k:am K^.ref f=L):vB K x a st f^ce x a (hU st) (dP st) (au st) .none kV b g e d h:=#[#[i,j,kV,b,g,e,d,h,m,Y,l,c],k]
end
def bE(h:n<=1000):n<sizeLine:=rq h ∅
section
def pv(i:Nat){a:js}(b:X.N[i]?\x<|>zn)(c:vD X.env.scope x<|>yy)(d:eT x<|>zm)
  (e:eR x<|>zm):PE X (.Name x a)^zC i:=GK b c d e
end
def c8{A B:Prop}(h:B):if At=L then A else B:=by
 rw[tz c9];show h
def cX{A B:Prop}(h:A):if L=L then A else B:=by
 rw[mo rfl];show h
def zo{c A B:Prop} [Decidable c] (a:c->A) (b:¬c->B):if c then A else B:=by
 by_cases h:c
 .rw[mo h]
  show a h
 .rw[tz h]
  show b h
def aE(H a:Hp):Prop:=∀b o,H b\o->a b\o
def aE.refl(H:Hp):aE H H:=λ_ _ h=>h
def aE.trans{H d e:Hp}(a:aE H d)(b:aE d e):aE H e:=λc o h=>b c o^a c o h
def aE.free{H a:Hp}(e:aE H a)(h:a l=Option.none):H l=Option.none:=by
 cases q:H l with
 |none=>rfl
 |some o=>
  rw[e l o q] at h;cases h
def aE.seq{K:ac}{H b:Hp}{a:Ad}{xs:!V'}(e:aE H b)(h:aK K H a xs):aK K b a xs:=by
 rcases h with (h| ⟨o,h⟩) |h
 .show .inl^.inl^e _ _ h
 .show .inl^.inr #[o,e _ _ h]
 .show .inr h
def jR(env:Env):!(Str×NameKind)->!(Str×Ad)->!(Str×Ad)
 | [],a=>a
 | (n,k)::r,a=>if k==NameKind.free then jR env r ((n,(env.cells.lookup n).getD 0)::a) else jR env r a
def gJ(h:∀x∈b.names,x.2= .free->∃c,env.cells.lookup x.1\c):closureFor b env=pure^jR env b.names []:=by
 simp only[closureFor]
 have j:∀(names:!(fC×jT))(d:!(fC×Ad)),(∀x∈names,x.2= .free->∃c,env.cells.lookup x.1\c)->
   (forIn names d λx e=>if (x.snd==NameKind.free)=L then(do let a <-cellOf env x.fst;pure^ForInStep.yield ((x.fst,a)::e)) else pure^ForInStep.yield e)=(pure^jR env names d:lD _):=by
  intro names
  induction names with
  |nil=>intro d _;rfl
  |cons x r l=>
   let#[n,k]:=x;intro d h;rw[aga,jR];have f:=λd=>l d λy m=>h y^eS _ m;cases g:k==NameKind.free with
   |false=>
    simp only[g,fA,Pi];show f d
   |true=>
    have o:k= .free:=by simpa using g
    let#[c,i]:=h (n,k) c5 o;simp only at i;simp only[adW,cellOf,i];show f _
 rw[j _ _ h];rfl
theorem gI:∀(names:!(fC×jT))(a:!(fC×Ad)),(∀x∈names,x.2= .free->∃c,env.cells.lookup x.1\c)->(∀x c,a.lookup x\c->env.cells.lookup x\c)->
  ∀x c,(jR env names a).lookup x\c->env.cells.lookup x\c
 | [],a,_,b=>b
 | (n,k)::r,a,h,b=>by
  rw[jR]
  split
  .rename_i g
   apply gI r _ (λy d=>h y^eS _ d) λx c e=>?_;let#[l,f]:=h (n,k) c5^~~~g
   rw[xu] at e
   split at e
   .rename_i i
    have j:x=n:=by simpa using i
    subst j;simp only at f;rw[f] at e ⊢;show e
   .show b x c e
  .show gI r a (λy d=>h y^eS _ d) b
theorem rK{env:Env}:∀(names:!(Str×NameKind))(a:!(Str×Ad))(x:Str),((x,NameKind.free)∈names\/∃c,a.lookup x\c)->∃c,(jR env names a).lookup x\c
 | [],a,x,h=>by
  rcases h with h|h
  .cases h
  .show h
 | (n,k)::r,a,x,h=>by
  rw[jR]
  split
  .rename_i b
   apply rK r _ x ?_
   by_cases e:x=n
   .subst e;show .inr #[(env.cells.lookup x).getD 0,by simp[xu]]
   .have ne:(x==n)=false:=by simpa using e
    rcases h with h| ⟨c,h⟩
    .rcases bQ.mp h with z|z
     .cases z;show absurd rfl e
     .show .inl z
    .show .inr #[c,by rw[xu,ne];show h]
  .rename_i b
   apply rK r a x ?_
   rcases h with h|h
   .rcases bQ.mp h with z|z
    .cases z;show absurd rfl b
    .show .inl z
   .show .inr h
def lG(src:!Option Nat)(a:St):St:=src.map λo=>o.bind λi=>(a[i]?).bind id
def dM(a:Scope)(b:!fC):!Option Nat->!fC->Prop
 | [],[]=>True
 |none::r,_::n=>dM a b r n
 |some i::r,x::n=>b[i]?\x/\a.names.lookup x\.free/\dM a b r n
 |_,_=>False
theorem dM.len:∀{src:!Option Nat}{NC:!fC},dM a b src NC->src.length=NC.length
 | [],[],_=>rfl
 |none::r,_::n,h=>by have:=dM.len (src:=r) (NC:=n) h;simp[this]
 |some i::r,_::n,h=>by have:=dM.len (src:=r) (NC:=n) h.2.2;simp[this]
 | [],_::_,h=>h.elim
 |none::_,[],h=>h.elim
 |some _::_,[],h=>h.elim
theorem dM.at{a:Scope}:∀{src:!Option Nat}{NC:!fC}{j i:Nat}{x:fC},dM a d src NC->src[j]?\(J i)->NC[j]?\x->d[i]?\x/\a.names.lookup x\.free
 | [],[],_,_,_,_,h,_=>by simp at h
 |none::r,_::n,0,_,_,_,h,_=>by simp at h
 |none::r,_::n,j+1,i,x,h,b,c=>dM.at (src:=r) (NC:=n) (j:=j) h (~~~b)^~~~c
 |some k::r,y::n,0,i,x,h,b,c=>by
  have e:k=i:=by simpa using b
  have f:y=x:=by simpa using c
  subst e f;show#[h.1,h.2.1]
 |some k::r,_::n,j+1,i,x,h,b,c=>dM.at (src:=r) (NC:=n) (j:=j) h.2.2 (~~~b)^~~~c
 | [],_::_,_,_,_,h,_,_=>h.elim
 |none::_,[],_,_,_,h,_,_=>h.elim
 |some _::_,[],_,_,_,h,_,_=>h.elim
structure bG (X:Cx) (scope:Scope):Prop where
 kind:scope.kind= .function
 names:∀x∈scope.names,x.2= .local->scope.names.lookup x.1\.local
 nocell:∀x∈scope.names,x.2≠ .cell
 free:∀x∈scope.names,x.2= .free->X.env.kindOf x.1\.cell\/X.env.kindOf x.1\.free
theorem iz{env:Env}:∀(names:!(Str×NameKind))(x:Str),
  (names.map λ(n,k)=>if (k==NameKind.free&&env.scope.kind== .function&&env.kindOf n==J .cell) then(n,NameKind.cell) else(n,k)).lookup x=
   (names.lookup x).map λk=>if (k==NameKind.free&&env.scope.kind== .function&&env.kindOf x==J .cell) then NameKind.cell else k
 | [],_=>rfl
 | (n,k)::r,x=>by
  have c:=iz (env:=env) r x;change bj x ((if (k==NameKind.free&&env.scope.kind== .function&&env.kindOf n==J .cell)=L then(n,NameKind.cell) else(n,k))::_)=_;cases b:x==n with
  |true=>
   have e:x=n:=by simpa using b
   subst e
   by_cases a:(k==NameKind.free&&env.scope.kind== .function&&env.kindOf x==J .cell)=L
   .rw[mo a,xu,xu]
    simp only[b];change J NameKind.cell\(if _ then _ else _);rw[mo a]
   .rw[tz a,xu,xu]
    simp only[b];change J k\(if _ then _ else _);rw[tz a]
  |false=>
   by_cases a:(k==NameKind.free&&env.scope.kind== .function&&env.kindOf n==J .cell)=L
   .rw[mo a];simp only[xu,b];show c
   .rw[tz a];simp only[xu,b];show c
def mem_lookup{names:!(Str×NameKind)}{x:Str}{k:NameKind}(h:names.lookup x\k):(x,k)∈names:=adX h
def bJ(X:Cx)(a:Scope)(NC:!Str)(ex:!Ad)(s:Shared)(H:Hp):Cx:=
 {X with N:=NC,s₀:=s,H₀:=H,env:=compEnvC a (jR X.env a.names []) s.heap.objs.size X.env,outer:=X.stack,stack:=X.stack,ex:=ex,fn:=λ_=>At,pn:= [],xe:=λ_ _=>False}
section
theorem bG.cells(c:bG X scope)(ok:X.Ok):∀x∈scope.names,x.2= .free->∃c,X.env.cells.lookup x.1\c:=λx a e=>ok.has x.1^c.free x a e
def bG.aat(c:bG X scope)(h:(compEnvC scope (jR X.env scope.names []) C X.env).kindOf x\k)(i:k= .cell\/k= .free):scope.names.lookup x\.free:=by
 have a:(lR scope X.env).names.lookup x\k:=h;unfold lR at a;rw[iz] at a;cases e:scope.names.lookup x with
 |none=>rw[e] at a;cases a
 |some b=>
  have g:=c.nocell _^mem_lookup e;rw[e] at a;have f:(if (b==NameKind.free&&X.env.scope.kind== .function&&X.env.kindOf x==J .cell) then NameKind.cell else b)=k:=Do a
  by_cases d:b= .free
  .rw[d]
  .have j:(b==NameKind.free)=false:=by simpa using d
   rw[j,agn,agn,tz c9] at f
   rcases i with z|z
   .rw[f] at g;show absurd z g
   .rw[f] at d;show absurd z d
def QN(I:Inv X pins σ H s)(c:bG X scope)(f:∀b∈ex,eX X pins H b)(g:∀b∈ex,b<s.heap.objs.size):(bJ X scope NC ex s H).Ok where
 mod:=I.ok.mod
 kind:=c.kind
 glob:=I.ok.glob
 blt:=I.ok.blt
 above:=bu _
 inj:=λx y d i j=>I.ok.inj x y d (gI _ _ (c.cells I.ok) (λ_ _ z=>by cases z) x d i) (gI _ _ (c.cells I.ok) (λ_ _ z=>by cases z) y d j)
 has:=λx k=>rK _ _ x (.inl^mem_lookup^by rcases k with h|h<;>show c.aat h^by simp)
 cab:=λ_ _ z=>by cases z
 hd:=I.ok.hd
 frames:=I.ok.frames
 stk:= .inl rfl
 exf:=λb a=>#[bP^g b a,λx d e=>(f b a).2.2.2.2.1 x d^gI _ _ (c.cells I.ok) (λ_ _ z=>by cases z) x d e]
 bs:=I.bs
 bsz:=jf I.ok.bsz I.sz
 noex:=λb o e a=>by
  rcases(f b a).2.2.2.1 with z|z
  .show I.ok.noex b o e z
  .show absurd (cZ (Da e)^jf I.ok.bsz z) (kC _)
 exfs:=λb a z=>(bQ.mp^I.Hb b z).elim (f b a).2.1 (f b a).2.2.1
 funs:=I.stack
 frf:=I.Cy
theorem Ed{tk:Nat}(I:Inv X pins σ H s)(c:bG X scope)(A:dM scope X.N src NC)(E:∀b∈ex,eX X pins H b)(F:∀b∈ex,b<s.heap.objs.size)
  (G:h.Ns s.heap.objs.size^λ_=>V) (J':Heap.SameBut s.heap.objs.size (s.heap.push C) h):
  Inv (bJ X scope NC ex s H) [] (lG src σ) H {s with heap:=h,toks:=tk}:=by
 have f:∀b o,s.heap.get? b\o->h.get? b\o:=λb o e=>J'.extBut b o (bP^Da e)^AC _ e;have t:∀x d,(jR X.env scope.names []).lookup x\d->X.env.cells.lookup x\d:=λx d=>gI _ _ (c.cells I.ok) (λ_ _ z=>by cases z) x d
 have a:∀d v,s.heap.IsCell d v->h.IsCell d v:=λd v #[o,L',k]=>#[o,f d o L',k];apply#[QN I c E F,Y,I.bare,Un.kept f,#[_,G,λj x v M O U=>?_],λx d e=>?_,I.hok.fresh^bu _,λx d e=>I.freeC x d^t x d e,λp P=>absurd (show p∈([]:!(Ad×Obj)) from P)^by simp,I.hok.kept f,?_]
 .have g:(lG src σ)[j]?\(J v):=O
  unfold lG at g;rw[dF] at g;cases w:src[j]? with
  |none=>rw[w] at g;cases g
  |some o=>
   rw[w] at g;cases o with
   |none=>cases g
   |some i=>
    have n:(σ[i]?).bind id\v:=Do g
    have Q:σ[i]?\(J v):=by
     cases q:σ[i]? with
     |none=>rw[q] at n;cases n
     |some z=>rw[q] at n;show KB J n
    rfl';let#[S,y]:=A.at w M;have B:=c.free _ (mem_lookup y) rfl;let#[m,Z,T]:=I.loc;let#[u,r,l]:=T i x v S Q^B.elim (λz=> .inr^.inl z)^λz=> .inr^.inr z;ac_rfl;apply#[u,r, .inr #[?_,?_]]
    .change(lR scope X.env).names.lookup x=_\/(lR scope X.env).names.lookup x=_
     unfold lR;rw[iz,y]
     by_cases z:(NameKind.free==NameKind.free&&X.env.scope.kind== .function&&X.env.kindOf x==J .cell)=L
     .left;simp only[yR,z,adW]
     .right;simp only[yR,z];rfl
    .obtain⟨d,k⟩:=rK (env:=X.env) scope.names [] x^.inl^mem_lookup y
     exists d,k
     rcases l with ⟨l,_⟩ | ⟨_,d',e,z⟩
     .exfalso;rcases B with z|z<;>(rw[l] at z;cases z)
     .rw[t x d k] at e;cases e;show a d _ z
 .obtain⟨v,z⟩:=I.cell x d^t x d e
  show#[v,a d v z]
 .change(lG src σ).length=NC.length
  unfold lG;rw[aG];show A.len
def comp_back(I:Inv X pins σ H s)(p:∀b∈ex,eX X pins H b)(J':Inv (bJ X scope NC ex s H) m l g c)
  (r:Heap.SameBut s.heap.objs.size c.heap i):Inv X pins σ g {c with heap:=i}:=by
 have h:∀b o,b≠s.heap.objs.size->c.heap.get? b\o->i.get? b\o:=λb o a e=>r.extBut b o a e;have ne:∀b o,s.heap.get? b\o->b≠s.heap.objs.size:=λb o e=>bP^Da e;have u:=J'.base;apply I.KD (ch:=ex) (show c.os=s.os from J'.os) #[λb o e n a f=>h b o (ne b o e)^u.keep b o e n a f,λb o e n a f=>?_,u.free,λb o e f=>?_,u.tups,u.frzs,u.tbls] ?_ J'.bare λb a=>?_
 .obtain⟨t,q⟩:=u.slot b o e n a f
  show#[t,h b _ (ne b o e) q]
 .obtain⟨j,q⟩:=u.there b o e f
  show#[j,h b j (ne b o e) q]
 .intro b o e
  have k:∀b o,g b\o->b≠s.heap.objs.size:=λb o e z=>by
   have:=J'.free
   rw[z] at e;have w:g s.heap.objs.size=none:=this;rw[w] at e;cases e
  apply(J'.hok b o e).pG (λd v x q=>h d v ?_ q) (λ_ q=>q) λ_ _ q=>q
  rcases x with z|z
  .rw[z];show k b o e
  .show k d _ z
 .obtain⟨_,y,_,A,B,C⟩:=p b a
  show#[A,y,B,C]
end
def kU(X:Cx)(b:!gc)(t:TT):Prop:=
 ∀(a:!(Ad×Obj))(s:c_)(d:St)(H:Hp)(Q:Bool->Hp->Prop),Inv X a d H s->t d H Q->
  e_ (ei X.prog X.w) X.A (forIn b L λc r=>if r=L then do let ok <-isTrue c X.env^gj c X.env;pure^ForInStep.yield ok else pure^ForInStep.yield r) (TP X a d Q) X.xe s
def Y6:TT:=λ_ H Q=>Q L H
def wB:kU X [] Y6:=λ_ _ _ H _ I h=>wpAny_tests_nil #[H,I,h]
def JG(h:PT X c t):kU X [c] t:=λa s b H Q I q=>wpAny_tests_one^h a s b H Q I q
def LCW(J':It)(g:TG)(o:TT)(p:TE)(D:Ad)(Q:VK)(q:St)(H:Hp):Prop:=
 ∃W:Nat->Nat->St->Hp->Prop,(∃m,W 0 m q H)/\∀i m e a,W i m e a->
  (J'.stop i a/\Q (.ref D) a)\/
  (J'.go i a/\∃N:St->Hp->Prop,(∀f h,N f h->∃j,j<m/\W (i+1) j f h)/\∀x k,J'.yld i a x k->g x e k λc r=>o c r λb l=>
   if b=L then p c l λv n=>∃d,n D\(.lst d)/\d.length<sizeLine/\N c^upd n D^.lst (d++ [v]) else N c l)
def XB(c:TI)(g:TG)(d:TT)(e:TE)(src:!Option Nat):TE:=λa H Q=>c a H λJ' b=>∀D,b D=V->LCW J' g d e D Q (lG src a)^upd b D^.lst []
section
theorem yY{RR:b_->Ad->no->c_->Prop}{Q:VK}
  (hc:X.calm=L) (c:bG X scope) (eY:dM scope X.N src NC) (I2:Inv X j σ I B) (T:Turn X.prog X.w X.K tg J' F it tn) (i9:tn 0 B.heap) (f2:∀b∈F,eX X j I b)
  (hg:∀s H,PG (bJ X scope NC F s H) tg g) (ht:∀s H,kU (bJ X scope NC F s H) ifs tt) (he:∀s H,PE (bJ X scope NC F s H) elt te)
  (hW:∀D,I D=V->∃W:Nat->Nat->St->Hp->Prop,(∃m,W 0 m (lG src σ)^upd I D^.lst [])/\∀i m eD I,W i m eD I->
   (J'.stop i I/\Q (.ref D) I)\/
   (J'.go i I/\∃N:St->Hp->Prop,(∀G a,N G a->∃m',m'<m/\W (i+1) m' G a)/\∀x U,J'.yld i I x U->g x eD U λfj H4=>tt fj H4 λb H5=>
    if b=L then te fj H5 λv H6=>∃ys,H6 D\(.lst ys)/\ys.length<sizeLine/\N fj^upd H6 D^.lst (ys++ [v]) else N fj H5))
  (Lb:∀D C U G a M,Inv X j σ U C->(∀b∈F,eX X j U b)->Inv (bJ X scope NC F C U) [] G a M->Q (.ref D) a->RR (.ref D) C.heap.objs.size (.ok .next) M):
  e_ (ei X.prog X.w) X.A (newList []) (λacc wZ=>e_ (ei X.prog X.w) X.A (kv scope X.env.globals (jR X.env scope.names []) [] X.env.qual V .none^J X.env) (λlX w4=>
   g6 (ei X.prog X.w) X.A (.compStart (.ListComp elt [#[tg,iter,ifs,0]] scope pos) 0 (.ref it) acc {lX with scope:=lR scope X.env}) (RR acc lX.locals) w4) E wZ) E B:=by
 rfl';obtain⟨W,⟨m0,w0⟩,turn⟩:=hW B.heap.objs.size I2.fresh;have I3:Inv X j σ (upd I B.heap.objs.size^.lst []) {B with heap:=B.heap.push {cls:= .type "list",data:= .seq ([]:!b_).toArray}}:=I2.NQ (its:= []) (t':=B.toks) .nil^eQ _
 ac_rfl
 have BG:∀b∈F,b<B.heap.objs.size:=λb l=>by
  let#[o,e,P]:=T.obj _ _ i9 b l;show Da e
 have f3:∀b∈F,eX X j (upd I B.heap.objs.size^.lst []) b:=λb l=>#[by rw[ao^bP^BG b l];show(f2 b l).1,(f2 b l).2]
 apply adN ?_
 suffices key:∀C:c_,Inv X j σ (upd I B.heap.objs.size^.lst []) C->(∀b o,B.heap.get? b\o->C.heap.get? b\o)->
   e_ (ei X.prog X.w) X.A (kv scope X.env.globals (jR X.env scope.names []) [] X.env.qual V .none^J X.env) (λlX w4=>
    g6 (ei X.prog X.w) X.A (.compStart (.ListComp elt [#[tg,iter,ifs,0]] scope pos) 0 (.ref it) (.ref B.heap.objs.size) {lX with scope:=lR scope X.env}) (RR (.ref B.heap.objs.size) lX.locals) w4) E C from
  key _ I3 λb o e=>AC _ e
 intro C I3 up3;have Ae:tn 0 C.heap:=T.keep _ _ _ i9 λb _ o e=>up3 b o e
 have LL:∀b∈F,b<C.heap.objs.size:=λb l=>by
  let#[o,e,P]:=T.obj _ _ Ae b l;show Da e
 generalize hH3:upd I B.heap.objs.size^.lst []=U at I3 f3 w0;apply wpAny_newFunctionEnv c.nocell (by intro y hy;simp at hy) (λh1 F7 Gd=>?_) c.kind
 have I4:=Ed (src:=src) (NC:=NC) (ex:=F) (tk:=C.toks+([]:!(fC×b_)).length) I3 c eY f3 LL F7 Gd;have UG:tn 0 h1:=T.keep _ _ _ Ae λb l o e=>Gd.extBut b o (bP^LL b l)^AC _ e;generalize L':bJ X scope NC F C U=k at I4
 have R:∀{a:Hp},(∀b∈F,a b=V)->∀b∈F,eX k [] a b:=λ {a} hn b l=>by
  subst L';apply#[hn b l,bP^LL b l,λz=>?_, .inl l,λx d e=>?_,λp hp=>absurd (show p∈([]:!(Ad×Obj)) from hp)^by simp]
  .show(I4.ok.exfs b l) z
  .show(I4.ok.exf b l).2 x d e
 have Y':g6 (ei X.prog X.w) X.A (.compLoop (.ListComp elt [#[tg,iter,ifs,0]] scope pos) 0 (.ref it) (.ref B.heap.objs.size) k.env) (RR (.ref B.heap.objs.size) C.heap.objs.size)
   {C with heap:=h1,toks:=C.toks+([]:!(fC×b_)).length}:=by
  apply agv rfl (λn M=>∃i G a,Inv k [] G a M/\tn i M.heap/\(∀b∈F,a b=V)/\W i n G a) (λn M hI=>?_) m0 #[0,_,_,I4,UG,λb l=>(f3 b l).1,w0];let#[i,G,a,I5,Af,tW,w5]:=hI;change e_ _ X.A ((compTurn (.ListComp elt [#[tg,iter,ifs,0]] scope pos) 0 (.ref it) (.ref B.heap.objs.size) k.env).onRaise^λx=>do mN x k.env;theTreesLotGoes x) _ _ M
  apply wpAny_noted ?_;rw[compTurn_list]
  have mw:∀{α:Type}{t:lD α}{Q:α->c_->Prop}{E:b_->c_->Prop}{s:c_},e_ (ei k.prog k.w) k.A t Q k.xe s->e_ (ei X.prog X.w) X.A t Q E s:=λ {α t Q E s} h=>by
   subst L';show io h (λ_ _ q=>q) λ_ _ f=>f.elim
  have O8:k.calm=true:=by subst L';show hc
  have eP:k.prog=X.prog:=by subst L';rfl
  have ew:k.w=X.w:=by subst L';rfl
  have eK:k.K=X.K:=by subst L';rfl
  have eA:k.A=X.A:=by subst L';rfl
  have hgC:PG k tg g:=by subst L';show hg _ _
  have htC:kU k ifs tt:=L'▸ht _ _;have heC:PE k elt te:=L'▸he _ _;apply a_^adI^a_ ?_
  rcases turn i n G a w5 with ⟨stop,qn⟩ | ⟨go,N,hN,step⟩
  .have hd:=T.done k eP ew eK O8 i [] M G a (notedBy (ei X.prog X.w) X.A k.env λe M=>RR (.ref B.heap.objs.size) C.heap.objs.size (.error e) M) I5 (R tW) Af stop
   rw[eA] at hd;apply thn hd λr s6 O=>?_;let#[hr,I6]:=O;subst hr;apply ir ?_;subst L';show Lb _ C U G a s6 I3 f3 I6 qn
  .have hd:=T.item k eP ew eK O8 i [] M G a (notedBy (ei X.prog X.w) X.A k.env λe M=>RR (.ref B.heap.objs.size) C.heap.objs.size (.error e) M) I5 (R tW) Af go
   rw[eA] at hd;apply thn hd λr s6 O=>?_;rfl';let#[u,hr,h6]:=O;ac_rfl;subst hr;apply a_ (thn h6 λ_ s7 O=>?_);rfl';let#[x,H7,I7,r7,y7,Cu,RA]:=O;ac_rfl;have Qx:=I7.pinned (R RA)^T.obj _ _ Cu
   have again:∀{S:St}{Z:Hp}{s8:c_},Inv k ([]++oM F s7.heap) S Z s8->N S Z->∃m,m<n/\∃i G a,Inv k [] G a s8/\tn i s8.heap/\(∀b∈F,a b=V)/\W i m G a:=λ {S Z s8} I8 n8=>by
    let#[m',hm,w8]:=hN S Z n8;apply#[m',hm,i+1,S,Z,I8.kS,T.keep _ _ _ Cu λb l o e=>(I8.pin (b,o)^gb _^gb _^fM l e).1,λb l=>?_,w8];let#[o,e,d]:=T.obj _ _ Cu b l;show(I8.pin (b,o)^gb _^gb _^fM l e).2.1
   apply a_^mw (thn (hgC _ s7 G H7 x u _ Qx r7^step x H7 y7) λ_ s8 O=>?_);rfl';let#[S,Z,I8,q8]:=O;ac_rfl;apply a_^mw (thn (htC _ s8 S Z _ I8 q8) λb s9 O=>?_);let#[H9,I9,q9]:=O;cases b with
   |false=>
    rw[tz c9] at q9;show ir #[L'▸rfl,again I9 q9]
   |true=>
    rw[mo rfl] at q9;apply a_^a_^mw (thn (heC _ s9 S H9 _ I9 q9) λy Cb O=>?_);rfl';let#[v,zR,Qw,Ua,ys,hD,hz,T9]:=O;ac_rfl;apply a_^mw (thn (lq _ Cb S zR (.ref B.heap.objs.size) [v] _ [y] (λ_ a=>N S a) Qw rfl (.cons Ua .nil) #[_,ys,v,Y,Y,hD,hz,T9]) λ_ GU O=>?_);rfl';let#[P,Df,Fq,V',Mg]:=O;ac_rfl;show ir^ir #[L'▸rfl,again Fq Mg]
 subst L';show agi Y'^T.self _ 0 _ _ _ UG Y'
def TR(i:X.calm=L)(c:bG X scope)(j:dM scope X.N src NC)(k:PI X tg iter wi)
  (l:∀b s H,PG (bJ X scope NC b s H) tg g) (n:∀b s H,kU (bJ X scope NC b s H) ifs tt) (o:∀b s H,PE (bJ X scope NC b s H) elt te)
  (p:(∀x,f_ iter X.env x=pure x)<|>xz):PE X (.ListComp elt [#[tg,iter,ifs,0]] scope pos)^XB wi g tt te src:=by
 intro a s e H Q I h;rw[eval_ListComp];apply ad5 (use:=V) rfl p (gJ^c.cells I.ok) c.kind c.names (thn (k a s e H _ I h) λv R r=>thn r λS U t=>?_);rfl';let#[Z,d,tn,J',H2,rfl,y,T,B,E,F]:=t;ac_rfl;apply yY (RR:=λacc C=>compPost (ei X.prog X.w) X.A X.xe V (EP X a e Q) acc C) (Q:=Q) i c j y T B E (l d) (n d) (o d) F ?_;intro D s3 H3 aA G s' L' M f q;let#[m,O,u]:=f.loc;show#[m,O,λh' P=>#[.ref D,G,comp_back L' M f P,Y,q]]
def XA(b:TI)(g:TG)(c:TT)(d:TE)(src:!Option Nat)(i:Nat):TS:=λD a H=>XB b g c d src a H λv e=>D.nx (a.set i^J v) e
theorem kQ{i:Nat}(hc:X.calm=L)(hN:X.N.Nodup)(fW:X.N[i]?\x)(hx:Loc X.env.scope x)(c:bG X scope)(eY:dM scope X.N src NC)(hi:PI X tg iter wi)
  (hg:∀t s H,PG (bJ X scope NC t s H) tg g) (ht:∀t s H,kU (bJ X scope NC t s H) ifs tt) (he:∀t s H,PE (bJ X scope NC t s H) elt te)
  (t7:hB (.ListComp elt [#[tg,iter,ifs,0]] scope pos) (J^.Name x r) S.line X.env=pure L)
  (hf:X.fn x=L\/X.env.scope.names.lookup x\.local<|>yy)
  (hs:(∀x,f_ iter X.env x=pure x)<|>xz):PS X (.Assign [.Name x r] (.ListComp elt [#[tg,iter,ifs,0]] scope pos) S)^XA wi g tt te src i:=by
 intro f s u H D I h;rw[exec_Assign_Name_used _ _ _ _ t7];apply a_^adI^a_ ?_;change e_ _ X.A (do let _ <-comprehension (.ListComp elt [#[tg,iter,ifs,0]] scope pos) scope X.env _ (newList []) At (gj iter X.env)^J^k8 (.Name x r) X.env) _ _ s
 apply a_ (io (ad5 (use:=J^k8 (.Name x r) X.env) (Q:=λ_ j=>SP X f D .next j) rfl hs (gJ^c.cells I.ok) c.kind c.names
  (thn (hi f s u H _ I h) λv s1 h1=>thn h1 λGh s2 h2=>?_)) (λ_ j hq=>ir^ir hq) λ_ _ e=>e)
 rfl';let#[it,G,tn,J',H2,rfl,I2,T,i9,f2,hW]:=h2;ac_rfl;apply yY (RR:=λacc C=>compPost (ei X.prog X.w) X.A X.xe (J^k8 (.Name x r) X.env) (λ_ j=>SP X f D .next j) acc C) (Q:=λv k=>D.nx (u.set i^J v) k) hc c eY I2 T i9 f2 (hg G) (ht G) (he G) hW ?_;intro a l H3 aA k j n f3 L' q;let#[m,hn,_]:=L'.loc;have U:Inv X f u k j:=comp_back n f3 L' (.refl ..);have Y':l.heap.objs.size≠X.env.locals:=j6 n.lt
 have nc:∀y d,X.env.cells.lookup y\d->d≠l.heap.objs.size:=λy d e z=>by
  let#[v,hv]:=n.cell y d e
  have:=hv.lt
  rw[z] at this;show absurd this^kC _
 have np:∀p∈X.pn++f,p.1≠l.heap.objs.size:=λp B z=>by
  have:=Da (n.pin p B).1
  rw[z] at this;show absurd this^kC _
 rfl';let#[M,es,ep,O,Z,rC]:=id hn;have E:k l.heap.objs.size=none:=L'.free;ac_rfl
 have IP:Inv X ((l.heap.objs.size,M)::f) u k j:=U.wy λp B=>by
  rcases bQ.mp B with z|z
  .rw[z]
   show#[O,E,Y',n.YM^bu _,λv w=>by rw[Z] at w;cases w]
  .show U.pin p^gb _ z
 apply wpAny_assign_Name^kR (x:=x) IP hN fW hx (v:= .ref a) rfl (λs5 P=>?_) hf;have R:=(P.pin (l.heap.objs.size,M)^gb _ c5).1;apply#[m,#[M,es,ep,R,Z,rC],λh6 sb=>?_];have Y9:Inv X f (u.set i^J^.ref a) k s5:=P.wy λp B=>P.pin p^gb _^eS _ B;show#[_,k,Y9.turned (t':=s5.toks) (it:=l.heap.objs.size) (λb o hb e=>sb.extBut b o hb e) E Y' (.inr n.sz) nc np,q]
end
def Gk(n:Nat)(c:Nat->St->Hp->Prop)(t:c 0 a H)
  (h:∀i a H,i<n->c i a H->J'.go i H) (j:∀i a H,n<=i->c i a H->J'.stop i H)
  (u:∀i x a H d,i<n->c i a H->J'.yld i H x d->g x a d λf w=>o f w λb r=>
   if b=L then q f r λv s=>∃k,s D\(.lst k)/\k.length<sizeLine/\c (i+1) f^upd s D^.lst (k++ [v]) else c (i+1) f r)
  (A:∀a H,c n a H->Q (.ref D) H):LCW J' g o q D Q a H:=by
 apply#[λi m a H=>m=n-i/\i<=n/\c i a H,#[n,by simp,eQ _,t],?_]
 rintro i m a H ⟨rfl,C,p⟩
 by_cases l:i<n
 .show .inr #[h i a H l p,c (i+1),λE F B=>#[n-(i+1),(),Y,l,B],λx d y=>u i x a H d l p y]
 .have e:i=n:=()
  subst e;show .inl #[j _ a H (bu _) p,A a H p]
section
variable {fp : !Ad}
def Inv.nM{t':Nat}(I:Inv X pins σ H s)(d:∀b∈fp,eX X pins H b)(k:∀b o,b∉fp->s.heap.get? b\o->h'.get? b\o):Inv X pins σ H {s with heap:=h',toks:=t'}:=by
 apply I.step (g':=s.gens) (d':=s.drawn) (ch:=fp) (λb g=>?_) (λb o _ _ a e _=>k b o a e) (λb o _ _ a e _=>#[o.slots,k b o a e]) (λ_ _ _ _ n=>n)
  (λb o a e=>#[o,k b o a e]) (λ_ _ e=>e) (λ_ _ _ e=>e) (λb y e=>#[#[],by rw[e];simp]) (λm h=>?_) (λb u e=>?_) I.bare
 .obtain⟨_,i,_,j,l,p⟩:=d b g
  show#[j,i,l,p]
 .obtain⟨o,t,w,x,r⟩:=h
  show#[o,t,w,k _ o (λz=>(d _ z).2.1 rfl) x,r]
 .have f:∀b u,H b\u->b∉fp:=λb u e z=>by rw[(d b z).1] at e;cases e
  apply(I.hok b u e).pG (λc v a q=>k c v ?_ q) (λ_ q=>q) λ_ _ q=>q
  rcases a with z|z
  .rw[z];show f b u e
  .show f c _ z
def Inv.Kb(I:Inv X pins σ H s)(g:∀b∈fp,eX X pins H b)(k:∀b o,b∉fp->s.heap.get? b\o->h'.get? b\o)(i:s.heap.objs.size<=t)
  (new:bR X.prog X.w (upd H t o) h' t o):Inv X pins σ (upd H t o) {s with heap:=h',toks:=t'}:=by
 have l:H t=none:=I.hok.fresh i;have d:∀b u,H b\u->upd H t o b\u:=λb u e=>by rw[ao^av e l];show e
 apply I.step (g':=s.gens) (d':=s.drawn) (ch:=fp) (λb f=>?_) (λb o _ _ a e _=>k b o a e) (λb o _ _ a e _=>#[o.slots,k b o a e]) (λb o _ e n=>?_)
  (λb o a e=>#[o,k b o a e]) (λb G e=>d b _ e) (λb _ _ e=>d b _ e) (λb J' e=>#[#[],by rw[d b _ e];simp]) (λm p=>?_) (λb u e=>?_) I.bare
 .obtain⟨_,x,_,y,A,B⟩:=g b f
  show#[y,x,A,B]
 .rw[ao^bP^cZ (Da e) i];show n
 .obtain⟨o,C,E,F,r⟩:=p
  show#[o,C,E,k _ o (λz=>(g _ z).2.1 rfl) F,r]
 .by_cases f:b=t
  .subst f
   rw[ah] at e;cases Do e;show new
  .rw[ao f] at e
   have j:∀b u,H b\u->b∉fp:=λb u e z=>by rw[(g b z).1] at e;cases e
   apply(I.hok b u e).pG (λc v a q=>k c v ?_ q) (λh q=>d h _ q) λh _ q=>d h _ q
   rcases a with z|z
   .rw[z];show j b u e
   .show j c _ z
end
def Oz(K:ac)(a:Ad):It:=
 #[λi H=>∃b x,aK K H a b/\b[i]?\x,λi H y c=>∃t x,y= .ref t/\H t=V/\c=upd H t^.tup [.int i,x]/\∀b,aK K H a b->b[i]?\x,λi H=>∃b,aK K H a b/\b.length<=i]
def qo(e:h.get? t\{cls:= .type "tuple",data:= .seq [u,v].toArray}):IsTup h t [u,v].toArray:=#[_,e,Y,_,Y]
def MM{P:ff}{w:f8}{K:ac}{Z:!gc}{k1}{tp:js}(a e l:Ad)(ne:e≠l):
  Turn P w K (.Tuple Z k1 tp) (Oz K a) [e,l] e (λi h=>(∃g,IsEnum h e l i g)/\h.IsListIter l a i) where
 mem:=by simp
 obj:=λi h st b f=>by
  obtain⟨⟨g,m⟩,o,A,c,d⟩:=st
  rcases bQ.mp f with z|z
  .subst z
   show#[_,m,λv w=>by cases w]
  .have B:b=l:=by simpa using z
   subst B;show#[o,A,λv z=>by rw[d] at z;cases z]
 keep:=λi h t st k=>by
  obtain⟨⟨g,m⟩,i9⟩:=st;show#[#[g,k e (by simp) _ m],i9.at λo q=>k l (by simp) o q]
 item:=by
  intro X C hw F S i j s T H E I r st G;rfl';subst C hw F;let#[xs,x,y,L']:=G;let#[M,N,p,hz]:=I.list y;let#[u,hu,ru]:=N.get L';obtain⟨⟨g,m⟩,n⟩:=st;ac_rfl;apply wpAny_pyNext_enum_item m n p.isList (x:=u) (~~~hu) ne λt t5 O Q ab9 kk=>?_
  have k2:∀b o,b∉ [e,l]->s.heap.get? b\o->t.get? b\o:=λb o f q=>kk b o (λz=>f^by simp[z]) (λz=>f^by simp[z]) q
  have I1:Inv X j T (upd H s.heap.objs.size^.tup [.int i,x]) {s with heap:=t,toks:=s.toks+1}:=
   I.Kb r k2 (bu _) #[by change 2<=sizeLine;decide,[.int i s.toks,u], .cons #[_,Y]^.cons ru .nil,qo Q]
  apply#[_,Y,wpAny_letOwnedTupleGo_enum t5 λh2 R U=>?_]
  have lt:∀b∈ [e,l],b<s.heap.objs.size:=λb f=>by
   rcases bQ.mp f with z|z
   .rw[z];show Da m
   .obtain⟨o,A,_⟩:=n
    have B:b=l:=by simpa using z
    rw[B];show Da A
  have Y':∀b∈ [e,l],eX X j (upd H s.heap.objs.size^.tup [.int i,x]) b:=λb f=>#[by rw[ao^bP^lt b f];show(r b f).1,(r b f).2]
  apply#[.ref s.heap.objs.size,_,I1.nM (t':=s.toks+1) Y'^λb o f q=>U.extBut b o (λz=>f^by simp[z]) q,Y,#[_,x,Y,I.hok.fresh^bu _,Y,λys hy=>by rw[I.EN hy y];show L'],#[#[u,?_],O.extBut U.extBut^Ne.symm ne],λb f=>(Y' b f).1]
  have z:((i+1:Nat):Int)=(i:Int)+1:=()
  rw[z];show R
 done:=by
  intro X C hw F S i j s T H E I r st G;rfl';subst C hw F;let#[xs,y,L']:=G;let#[M,N,p,hz]:=I.list y;have hl:=N.length;obtain⟨⟨g,m⟩,n⟩:=st;ac_rfl;show wpAny_pyNext_enum_end (I.ok.hd S) m n p.isList (by simp;lia) λt eb=>#[Y,I.nM (t':=s.toks) r λb o f q=>eb b o (λz=>f^by simp[z]) q]
 self:=λ_ _ _ _ _ st h=>by
  obtain⟨⟨g,m⟩,_⟩:=st;show wpAny_pyIter_enum m h
section
def aan(K:ac)(c:TA):TI:=λd H R=>c d H λe b=>∃a,e= [.ref a]/\(∃f,b a\(.lst f))/\R (Oz K a) b
def B4{k1}(v:Gl X "enumerate")(w:X.mg "enumerate"=V)(x:PA X [a] j)(y:d_ [a] X.env= [(At,gj a X.env)]<|>zn):
  PI X (.Tuple r k1 t) (.Call (.Name "enumerate" p) [a] [] d)^aan X.K j:=by
 intro f s A H R I h;apply Call_^iu I v w boot_enumerate^PP (thn (x d f s A H _ I h) λQ c hH=>?_) y rfl;let#[S,B,g,C,E]:=hH;rfl';obtain⟨l,e,⟨U,G⟩,q⟩:=E;subst e;let#[u,rfl,J']:=C.one;subst J';let#[z,L',n,Y',k,e]:=g.ph G;ac_rfl;apply call_enumerate_1 e λZ m i dZ M=>?_;apply wpAny_pyIter_enum m ?_;have N:c.heap.objs.size+1≠c.heap.objs.size:=Nat.succ_ne_self _;apply#[c.heap.objs.size+1,[c.heap.objs.size+1,c.heap.objs.size],_,_,B,Y,g.kept (t':=c.toks) M,MM l _ _ N,#[#[_,m],i],λb O=>?_,q]
 have o:c.heap.objs.size<=b:=by
  rcases bQ.mp O with z|z
  .rw[z];show pM _
  .have P:b=c.heap.objs.size:=by simpa using z
   rw[P];show bu _
 show g.IC o^g.hok.fresh o
end
def Za(a b:Ad):It:=
 #[λi H=>∃c d x y,H a\(.lst c)/\H b\(.lst d)/\c[i]?\x/\d[i]?\y,
  λi H v e=>∃t x y,v= .ref t/\H t=V/\e=upd H t^.tup [x,y]/\(∀c,H a\(.lst c)->c[i]?\x)/\∀d,H b\(.lst d)->d[i]?\y,
  λi H=>∃c d,H a\(.lst c)/\H b\(.lst d)/\(c.length<=i\/d.length<=i)]
structure ZN (z TI TO i1 i2:Ad):Prop where
 TIz:TI≠z
 TOz:TO≠z
 i1z:i1≠z
 i2z:i2≠z
 TITO:TI≠TO
 TIi1:TI≠i1
 TIi2:TI≠i2
 TOi1:TO≠i1
 TOi2:TO≠i2
 i12:i1≠i2
def Qj{P:ff}{w:f8}{K:ac}{es:!gc}{k1}{tp:js}(O Q z TI TO f g:Ad)(N:ZN z TI TO f g):
  Turn P w K (.Tuple es k1 tp) (Za O Q) [z,TO,f,g,TI] z (λi h=>IsZip h z TI TO .none/\nC h TI (.ref f)^.ref g/\(∃a b,nC h TO a b)/\h.IsListIter f O i/\h.IsListIter g Q i) where
 mem:=by simp
 obj:=λi h st b d=>by
  obtain⟨t,r,⟨a,c,A⟩,⟨o1,e1,_,d1⟩,⟨o2,e2,_,d2⟩⟩:=st;simp only[bQ,zN,aeI] at d
  rcases d with rfl|rfl|rfl|rfl|rfl
  .show#[_,t,λv w=>by cases w]
  .show#[_,A,λv w=>by cases w]
  .show#[o1,e1,λv z=>by rw[d1] at z;cases z]
  .show#[o2,e2,λv z=>by rw[d2] at z;cases z]
  .show#[_,r,λv w=>by cases w]
 keep:=λi h L' st k=>by
  obtain⟨t,r,⟨a,c,A⟩,G,C⟩:=st;show#[k z (by simp) _ t,k TI (by simp) _ r,#[a,c,k TO (by simp) _ A],G.at λo q=>k f (by simp) o q,C.at λo q=>k g (by simp) o q]
 item:=by
  intro X S hw T hc i p s σ H E I F st U;rfl';subst S hw T;let#[xs,Z,x,y,m,n,J',B]:=U;let#[NL,GQ,p1,vX]:=I.list^aK.of m;let#[mZ,GR,p2,xY]:=I.list^aK.of n;let#[u1,hu1,Mp]:=GQ.get J';let#[u2,hu2,Mq]:=GR.get B;obtain⟨t,r,⟨a,c,A⟩,G,C⟩:=st;have zU:=C;have hyy:=B;have j:∀l u,H l\u->∀b∈ [z,TO,f,g,TI],l≠b:=λl u e b d q=>by rw[q,(F b d).1] at e;cases e
  ac_rfl
  have D:jq z TI TO f g O Q:=#[N.TIz,N.TOz,N.i1z,N.i2z,N.TITO,N.TIi1,N.TIi2,N.TOi1,N.TOi2,N.i12,j _ _ m z^by simp,j _ _ m TO^by simp,j _ _ m f^by simp,j _ _ m g^by simp,
   j _ _ n z^by simp,j _ _ n TO^by simp,j _ _ n f^by simp,j _ _ n g^by simp]
  apply wpAny_pyNext_zip_item D t r A G C p1.isList p2.isList (x:=u1) (y:=u2) (~~~hu1) (~~~hu2) λL' Gg abJ VR h2' ht' ab9 R=>?_
  have k2:∀b o,b∉ [z,TO,f,g,TI]->s.heap.get? b\o->L'.get? b\o:=λb o d q=>R b o (λz=>d^by simp[z]) (λz=>d^by simp[z]) (λz=>d^by simp[z]) (λz=>d^by simp[z]) q
  have I1:Inv X p σ (upd H s.heap.objs.size^.tup [x,y]) {s with heap:=L',toks:=s.toks}:=
   I.Kb F k2 (bu _) #[by change 2<=sizeLine;decide,[u1,u2], .cons Mp^.cons Mq .nil,qo ht']
  apply#[_,Y,wpAny_letOwnedTupleGo_zip Gg λC xY M=>?_]
  have lt:∀b∈ [z,TO,f,g,TI],b<s.heap.objs.size:=λb d=>by
   simp only[bQ,zN,aeI] at d
   rcases d with rfl|rfl|rfl|rfl|rfl
   .show Da t
   .show Da A
   .obtain⟨o,e,_⟩:=G;show Da e
   .obtain⟨o,e,_⟩:=zU;show Da e
   .show Da r
  have Se:∀b∈ [z,TO,f,g,TI],eX X p (upd H s.heap.objs.size^.tup [x,y]) b:=λb d=>#[by rw[ao^bP^lt b d];show(F b d).1,(F b d).2]
  have abI:nC L' TI (.ref f)^.ref g:=R TI _ N.TIz N.TITO N.TIi1 N.TIi2 r
  apply#[.ref s.heap.objs.size,_,I1.nM (t':=s.toks) Se^λb o d q=>M.extBut b o (λz=>d^by simp[z]) q,Y,#[_,x,y,Y,I.hok.fresh^bu _,Y,λZ B=>?_,λZ B=>?_],
   #[xY,M.extBut _ _ N.TIz abI,#[_,_,M.extBut _ _ N.TOz abJ],VR.extBut M.extBut N.i1z,h2'.extBut M.extBut N.i2z],λb d=>(Se b d).1]
  .rw[m] at B;cases B;show J'
  .rw[n] at B;cases B;show hyy
 done:=by
  intro X S hw T hc i p s σ H E I F st U;rfl';subst S hw T;let#[xs,Z,m,n,J']:=U;let#[NL,GQ,p1,vX]:=I.list^aK.of m;let#[mZ,GR,p2,xY]:=I.list^aK.of n;have pU:=GQ.length;have oh:=GR.length;obtain⟨t,r,⟨a,c,A⟩,G,C⟩:=st;have j:∀l u,H l\u->∀b∈ [z,TO,f,g,TI],l≠b:=λl u e b d q=>by rw[q,(F b d).1] at e;cases e
  ac_rfl
  have D:jq z TI TO f g O Q:=#[N.TIz,N.TOz,N.i1z,N.i2z,N.TITO,N.TIi1,N.TIi2,N.TOi1,N.TOi2,N.i12,j _ _ m z^by simp,j _ _ m TO^by simp,j _ _ m f^by simp,j _ _ m g^by simp,
   j _ _ n z^by simp,j _ _ n TO^by simp,j _ _ n f^by simp,j _ _ n g^by simp]
  apply wpAny_pyNext_zip_end (I.ok.hd hc) D t r A G C p1.isList p2.isList ?_ λL' R=>#[Y,I.nM (t':=s.toks) F λb o d q=>R b o (λz=>d^by simp[z]) (λz=>d^by simp[z]) (λz=>d^by simp[z]) (λz=>d^by simp[z]) q]
  rcases J' with J'|J'
  .left;simp;lia
  .right;simp;lia
 self:=λ_ _ _ _ _ st h=>aeJ st.1 h
section
def acb(d:TA):TI:=λe H R=>d e H λf c=>∃a b g h,f= [.ref a, .ref b]/\c a\(.lst g)/\c b\(.lst h)/\R (Za a b) c
def W4{k1}(t:Gl X "zip")(u:X.mg "zip"=V)(v:PA X [a,b] j)(w:d_ [a,b] X.env= [(At,gj a X.env),(At,gj b X.env)]<|>zn)(k:d_ [b] X.env= [(At,gj b X.env)]<|>zn):
  PI X (.Tuple o k1 r) (.Call (.Name "zip" p) [a,b] [] d)^acb j:=by
 intro f s x H R I h;apply Call_^iu I t u (show gl "zip"\(.type "zip") by nofun)^PP (thn (v d f s x H _ I h) λY' c hH=>?_) (by rw[w,k])^by rw[k];rfl
 let#[Z,y,g,A,B]:=hH
 rfl';let#[E,F,xs,ys,e,G,J',q]:=B;subst e;let#[u1,u2,rfl,L',M]:=A.two;subst L';subst M;let#[NL,GQ,N,vX]:=g.list^aK.of G;let#[mZ,GR,O,xY]:=g.list^aK.of J';ac_rfl;apply call_zip_2 N.isList O.isList λh' l P Q S T dZ U=>?_;apply aeJ l ?_;apply#[_,_,_,_,y,Y,g.kept (t':=c.toks) U,Qj E F (c.heap.objs.size+4) (c.heap.objs.size+2) (c.heap.objs.size+3) c.heap.objs.size (c.heap.objs.size+1) ?_,#[l,P,#[_,_,Q],S,T],λb i=>?_,q]
 .generalize c.heap.objs.size=n
  show#[show n+2≠n+4 by lia,show n+3≠n+4 by lia,show n≠n+4 by lia,show n+1≠n+4 by lia,show n+2≠n+3 by lia,show n+2≠n by lia,show n+2≠n+1 by lia,show n+3≠n by lia,show n+3≠n+1 by lia,show n≠n+1 by lia]
 .have m:c.heap.objs.size<=b:=by
   generalize c.heap.objs.size=n at i;simp only[bQ,zN,aeI] at i
   rcases i with z|z|z|z|z<;>(rw[z];change n<=_;lia)
  show g.IC m^g.hok.fresh m
end
end L2
namespace Wb
abbrev W:=!!Nat
def row(w:W)(p:Nat):!Nat:=w.getD p []
inductive Reach (w:W):Nat->Nat->Prop
 |refl (p):Reach w p p
 |step {p q r}:Reach w p q->r∈row w q->Reach w p r
structure Good (w:W):Prop where
 rng:∀p q,q∈row w p->q<w.length
 irr:∀p,p∉row w p
 nod:∀p,(row w p).Nodup
 sym:∀p q,q∈row w p->p∈row w q
 con:∀p,p<w.length->Reach w 0 p
def f7(h:q∈row w p):p<w.length:=by
 apply FS ?_;intro a;unfold row at h;rw[cy,eF ()] at h
 simp at h
def JN(h:p<w.length):w[p]?\(row w p):=by
 unfold row;rw[cy,bT h];rfl
def Xi(h:w[p]?\r):row w p=r:=by
 unfold row;rw[cy,h];rfl
def Uk(h:w.length<=p):row w p= []:=by
 unfold row;rw[cy,eF h];rfl
def Reach.trans{p q r:Nat}(h:Reach w p q)(a:Reach w q r):Reach w p r:=by
 induction a with
 |refl=>show h
 |step _ b c=>show .step c b
def Reach.symm(a:∀p q,q∈row w p->p∈row w q){p q:Nat}(h:Reach w p q):Reach w q p:=by
 induction h with
 |refl=>show .refl _
 |step _ b c=>show(Reach.step (.refl _)^a _ _ b).trans c
def Reach.mono{w a:W}(b:∀p q,q∈row w p->q∈row a p){p q:Nat}(h:Reach w p q):Reach a p q:=by
 induction h with
 |refl=>show .refl _
 |step _ c d=>show .step d^b _ _ c
def ins{a:Type}(b:!a)(i:Nat)(x:a):!a:=b.take i++x::b.drop i
def rQ(a:!b)(i:Nat)(x:b):(ins a i x).Perm (x::a):=by
 unfold ins;have h:= @List.perm_middle _ x (a.take i)^a.drop i;rw[mh] at h;show h
def dR:a∈ins b i x↔a=x\/a∈b:=by
 rw[(rQ b i x).mem_iff,bQ]
def uF(h:a.Nodup)(c:x∉a):(ins a i x).Nodup:=by
 rw[(rQ a i x).nodup_iff,pK];show#[c,h]
def Bu(a:!b)(i:Nat)(x:b):(ins a i x).length=a.length+1:=by
 rw[(rQ a i x).length_eq];rfl
def ins_map(f:a->c)(b:!a)(i:Nat)(x:a):(ins b i x).map f=ins (b.map f) i^f x:=by
 unfold ins;simp[aeG,afx]
def j0(h:p<w.length):row (w.set p r) x=if p=x then r else row w x:=by
 unfold row;rw[cy,kA]
 by_cases e:p=x
 .rw[mo e,mo e,mo h];rfl
 .rw[tz e,tz e,cy]
def E5:row (w++ [r]) x=if x=w.length then r else row w x:=by
 unfold row;rw[cy,ae1]
 split
 .rw[tz (),cy]
 .split
  .rename_i h e;subst e;simp
  .rename_i h e
   rw[cy,eF^by simp;lia,eF ()]
def OY:Good [[]]:=by
 have a:∀p,row [[]] p= []:=λp=>by
  unfold row;cases p with
  |zero=>rfl
  |succ n=>simp
 apply#[λp q h=>?_,λp h=>?_,λp=>?_,λp q h=>?_,λp h=>?_]
 .rw[a] at h;cases h
 .rw[a] at h;cases h
 .rw[a];show ju
 .rw[a] at h;cases h
 .have:p=0:=by simp at h;show h
  subst this;show .refl _
def leaf(w:W)(p i:Nat):W:=(w.set p^ins (row w p) i w.length)++ [[p]]
def ym(w:W)(p i:Nat):(leaf w p i).length=w.length+1:=by unfold leaf;simp
def PY{p i x:Nat}(h:p<w.length):row (leaf w p i) x=if x=w.length then[p] else if p=x then ins (row w p) i w.length else row w x:=by
 unfold leaf;rw[E5,fI,j0 h]
def K8{p i:Nat}(g:Good w)(h:p<w.length):Good^leaf w p i:=by
 have b:=λx=>PY (i:=i) (x:=x) h;have d:∀x,w.length∉row w x:=λx a=>kC _^g.rng _ _ a
 have mono:∀x q,q∈row w x->q∈row (leaf w p i) x:=λx q c=>by
  have:=f7 c
  rw[b,tz ()]
  split
  .rename_i e;subst e;show dR.mpr^.inr c
  .show c
 apply#[λx q a=>?_,λx a=>?_,λx=>?_,λx q a=>?_,λx a=>?_]
 .rw[b] at a;rw[ym]
  split at a
  .simp at a;lia
  .split at a
   .rcases dR.mp a with e|e
    .lia
    .have:=g.rng _ _ e;lia
   .have:=g.rng _ _ a;lia
 .rw[b] at a
  split at a
  .simp at a;lia
  .split at a
   .rcases dR.mp a with e|e
    .lia
    .rename_i f;subst f;show g.irr _ e
   .show g.irr _ a
 .rw[b];split
  .simp
  .split
   .show uF (g.nod _)^d _
   .show g.nod _
 .rw[b] at a
  split at a
  .have e:q=p:=by simpa using a
   subst e
   rename_i e
   rw[b,tz (),mo rfl,e]
   show dR.mpr^.inl rfl
  .split at a
   .rename_i e;subst e
    rcases dR.mp a with e|e
    .rw[b,mo e];simp
    .show mono _ _^g.sym _ _ e
   .show mono _ _^g.sym _ _ a
 .rw[ym] at a
  by_cases e:x=w.length
  .apply Reach.step ((g.con p h).mono mono) ?_
   rw[b,tz (),mo rfl,e]
   show dR.mpr^.inl rfl
  .show(g.con x ()).mono mono
def Ag(w:W)(p i u j:Nat):W:=(w.set p^ins (row w p) i u).set u^ins (row w u) j p
def CF(w:W)(p i u j:Nat):(Ag w p i u j).length=w.length:=by unfold Ag;simp
def Ul{p i u j x:Nat}(a:p<w.length)(b:u<w.length):row (Ag w p i u j) x=if u=x then ins (row w u) j p else if p=x then ins (row w p) i u else row w x:=by
 unfold Ag;rw[j0^~~~b,j0 a]
def O0{p i u j:Nat}(g:Good w)(l:p<w.length)(m:u<w.length)(ne:u≠p)(k:u∉row w p):Good^Ag w p i u j:=by
 have b:=λx=>Ul (i:=i) (j:=j) (x:=x) l m;have d:p∉row w u:=λh=>k^g.sym _ _ h
 have mono:∀x q,q∈row w x->q∈row (Ag w p i u j) x:=λx q f=>by
  rw[b]
  split
  .rename_i e;subst e;show dR.mpr^.inr f
  .split
   .rename_i e;subst e;show dR.mpr^.inr f
   .show f
 apply#[λx q a=>?_,λx a=>?_,λx=>?_,λx q a=>?_,λx a=>?_]
 .rw[b] at a;rw[CF]
  split at a
  .rcases dR.mp a with e|e
   .lia
   .show g.rng _ _ e
  .split at a
   .rcases dR.mp a with e|e
    .lia
    .show g.rng _ _ e
   .show g.rng _ _ a
 .rw[b] at a
  split at a
  .rename_i c;subst c
   rcases dR.mp a with e|e
   .show ne e
   .show g.irr _ e
  .split at a
   .rename_i c;subst c
    rcases dR.mp a with e|e
    .show ne e.symm
    .show g.irr _ e
   .show g.irr _ a
 .rw[b];split
  .show uF (g.nod _) d
  .split
   .show uF (g.nod _) k
   .show g.nod _
 .rw[b] at a
  split at a
  .rename_i c;subst c
   rcases dR.mp a with e|e
   .subst e;rw[b,tz ne,mo rfl];show dR.mpr^.inl rfl
   .show mono _ _^g.sym _ _ e
  .split at a
   .rename_i c;subst c
    rcases dR.mp a with e|e
    .subst e;rw[b,mo rfl];show dR.mpr^.inl rfl
    .show mono _ _^g.sym _ _ e
   .show mono _ _^g.sym _ _ a
 .rw[CF] at a;show(g.con x a).mono mono
theorem OZ(g:Good w)(j:i.length=w.length)(into:∀p,p<w.length->ord p<w.length)
  (inj:∀p q,p<w.length->q<w.length->ord p=ord q->p=q) (J6:∀y,y<w.length->∃p,p<w.length/\ord p=y)
  (k:∀p,p<w.length->(row i^ord p).Perm^(row w p).map ord):Good i:=by
 have mem:∀p q,p<w.length->(q∈row i^ord p↔∃a,a∈row w p/\ord a=q):=λp q d=>by
  rw[(k p d).mem_iff,bS]
 have reach:∀{p q},Reach w p q->Reach i (ord p)^ord q:=λ {p q} h=>by
  induction h with
  |refl=>show .refl _
  |step _ l n=>show .step n^(mem _ _^f7 l).mpr #[_,l,Y]
 apply#[λy q c=>?_,λy c=>?_,λy=>?_,λy q c=>?_,λy c=>?_]
 .obtain⟨p,d,rfl⟩:=J6 y^by have:=f7 c;lia
  let#[a,f,rfl]:=(mem p q d).mp c;rw[j];show into a^g.rng _ _ f
 .obtain⟨p,d,rfl⟩:=J6 y^by have:=f7 c;lia
  let#[a,f,e]:=(mem p _ d).mp c
  have:=inj a p (g.rng _ _ f) d e
  subst this;show g.irr _ f
 .by_cases c:y<w.length
  .obtain⟨p,d,rfl⟩:=J6 y c
   rw[(k p d).nodup_iff];unfold cv;rw[gX];apply W1 ?_^g.nod p;intro a b f o ne e;show ne^inj a b (g.rng _ _ f) (g.rng _ _ o) e
  .rw[Uk ()];show ju
 .obtain⟨p,d,rfl⟩:=J6 y^by have:=f7 c;lia
  let#[a,f,rfl]:=(mem p q d).mp c;show(mem a _^g.rng _ _ f).mpr #[p,g.sym _ _ f,Y]
 .rw[j] at c
  let#[p,d,rfl]:=J6 y c;let#[z,r,s]:=J6 0 ()
  have m:=reach^((g.con z r).symm g.sym).trans^g.con p d;rw[s] at m;show m
def e8(l:!Nat)(x:Nat):Nat:=l.getD ((l.idxOf x+1)%l.length) 0
def qs(w:W)(d:Nat×Nat):Nat×Nat:=(d.2,e8 (row w d.2) d.1)
def aP(w:W)(d:Nat×Nat):Prop:=d.2∈row w d.1
def oS(h:x∈l):l[(l.idxOf x+1)%l.length]?\(e8 l x):=by
 have a:0<l.length:=tK h;unfold e8;rw[cy,bT^rp _ a];rfl
def CB(h:x∈l):e8 l x∈l:=cG^oS h
def Ta(f:a<n)(g:b<n)(e:(a+1)%n=(b+1)%n):a=b:=by
 by_cases d:a+1=n
 .by_cases c:b+1=n
  .lia
  .rw[d,ae2,xv ()] at e;lia
 .by_cases c:b+1=n
  .rw[c,ae2,xv ()] at e;lia
  .rw[xv (),xv ()] at e;lia
def CA(g:l.Nodup)(a:x∈l)(b:y∈l)(e:e8 l x=e8 l y):x=y:=by
 have o:0<l.length:=tK a;have c:=oS a;have h:=oS b;rw[e] at c;have d:=C3.mpr a;have f:=C3.mpr b;let#[p,i]:=cV.mp c;let#[r,j]:=cV.mp h;have q:=(afM g).mp^i.trans j.symm;have k:=Ta d f q;have m:=C8 d;have n:=C8 f;rw[<-m,<-n];simp only[k]
def Po(g:Good w)(h:aP w d):aP w^qs w d:=CB^g.sym _ _ h
def Th(g:Good w)(h:aP w d)(c:aP w e)(q:qs w d=qs w e):d=e:=by
 have a:d.2=e.2:=KB Prod.fst q;have b:e8 (row w d.2) d.1=e8 (row w e.2) e.1:=KB Prod.snd q;rw[<-a] at b;have f:d.1∈row w d.2:=g.sym _ _ h;have i:e.1∈row w d.2:=by rw[a];show g.sym _ _ c
 show adS (CA (g.nod _) f i b) a
def bh(w:W):!(Nat×Nat):=(aj w.length).flatMap λp=>(row w p).map λq=>(p,q)
def ba:d∈bh w↔aP w d:=by
 unfold bh aP;rw[afR]
 constructor
 .rintro⟨p,_,h⟩
  let#[q,a,rfl]:=bS.mp h;show a
 .intro h
  show#[d.1,gf.mpr^f7 h,bS.mpr #[d.2,h,Y]]
theorem aY [DecidableEq b]:∀{l m:!b},l.Nodup->(∀x∈l,x∈m)->l.length<=m.length
 | [],_,_,_=>eQ _
 |a::r,m,g,h=>by
  have c:=pK.mp g;have d:=h a c5;have i:=aY (l:=r) (m:=m.erase a) c.2 λx f=>(List.mem_erase_of_ne^λ(e:x=a)=>c.1^by rw[<-e];show f).mpr^h x^eS _ f
  rw[List.length_erase_of_mem d] at i
  have:=tK d
  simp only[cF];lia
def fG(g:Good w)(p:Nat):(row w p).length<=w.length:=by
 have:=aY (m:=aj w.length) (g.nod p) λx a=>gf.mpr^g.rng _ _ a
 simpa using this
theorem Er{f:b->!c}{k:Nat}:∀{l:!b},(∀x∈l,(f x).length<=k)->(l.flatMap f).length<=l.length*k
 | [],_=>by simp
 |a::r,h=>by
  have e:=Er (f:=f) (k:=k) (l:=r) λx d=>h x^eS _ d
  have:=h a c5
  rw[yN,dj,cF,Nat.succ_mul];lia
def gq(g:Good w):(bh w).length<=w.length*w.length:=by
 have:=Er (f:=λp=>(row w p).map λq=>(p,q)) (k:=w.length) (l:=aj w.length) λx _=>by rw[aG];show fG g x
 rw[jb] at this;show this
def cU(w:W):Nat->Nat×Nat->Nat×Nat
 |0,d=>d
 |n+1,d=>qs w^cU w n d
theorem iI(g:Good w)(h:aP w d):∀n,aP w^cU w n d
 |0=>h
 |n+1=>Po g^iI g h n
theorem Bw(m:Nat):∀n,cU w (n+m) d=cU w n^cU w m d
 |0=>by rw[iN];rfl
 |n+1=>by rw[Nat.succ_add];change qs w^cU w (n+m) d=qs w^cU w n^cU w m d;rw[Bw m n]
theorem Jg(g:Good w)(h:aP w d)(a:aP w e):∀n,cU w n d=cU w n e->d=e
 |0,q=>q
 |n+1,q=>Jg g h a n^Th g (iI g h n) (iI g a n) q
def walk(w:W)(d:Nat×Nat)(k:Nat):!(Nat×Nat):=(aj k).map λi=>cU w i d
def uS(w:W)(d:Nat×Nat)(k:Nat):walk w d (k+1)=walk w d k++ [cU w k d]:=by
 unfold walk;rw[ae3,cn];rfl
def jJ(w:W)(d:Nat×Nat)(k:Nat):(walk w d k).length=k:=by unfold walk;simp
def oU(g:Good w)(h:aP w d){k:Nat}:∀e∈walk w d k,aP w e:=λe a=>by
 let#[i,_,rfl]:=bS.mp a;show iI g h i
def rg(g:Good w)(h:aP w d)(a:∀j,0<j->j<k->cU w j d≠d):(walk w d k).Nodup:=by
 unfold walk cv;rw[gX];apply W1 ?_ aeD;intro i j f b lt e;have l:=gf.mp b;have c:cU w i d=cU w i^cU w (j-i) d:=by rw[<-Bw (j-i) i,show i+(j-i)=j by lia];show e
 show a (j-i) () () (Jg g h (iI g h _) i c).symm
def rf(g:Good w)(h:aP w d){k:Nat}(a:∀j,0<j->j<k->cU w j d≠d):k<=(bh w).length:=by
 have:=aY (m:=bh w) (rg g h a) λe b=>ba.mpr^oU g h e b
 rwa [jJ] at this
def HZ(g:Good w){S:Nat->Prop}(c:S 0)(d:∀p q,S p->q∈row w p->S q):∀p,p<w.length->S p:=λp e=>by
 have:∀{a b},Reach w a b->S a->S b:=λ {a b} h f=>by
  induction h with
  |refl=>show f
  |step _ i j=>show d _ _ j i
 show this (g.con p e) c
def lexLe(a b:Nat×Nat):Prop:=a.1<b.1\/(a.1=b.1/\a.2<=b.2)
def kP(h:lexLe a b)(c:lexLe b a):a=b:=by
 unfold lexLe at h c;show adS () ()
def cL(a:Nat->!Nat)(n:Nat):!(Nat×Nat):=(aj n).flatMap λp=>((a p).filter λq=>AT (p<q)).map λq=>(p,q)
theorem qB{e c:Type}{R:c->c->Prop}{f:e->!c}:∀{l:!e},(∀x∈l,(f x).Pairwise R)->l.Pairwise (λa b=>∀x∈f a,∀y∈f b,R x y)->(l.flatMap f).Pairwise R
 | [],_,_=>List.Pairwise.nil
 |a::r,h,p=>by
  have g:=List.pairwise_cons.mp p;rw[yN,tM];apply#[h a c5,qB (λx d=>h x^eS _ d) g.2,λx d y i=>?_];let#[b,j,k]:=afR.mp i;show g.1 b j x d y k
end Wb
namespace L2
open PySem PySem.Spec PyProof.Rows
section
theorem Vals.ins{x:V'}{u:b_}(r:RelV x u){a:!V'}{b:!b_}(i:Nat)(h:Vals a b):Vals (Wb.ins a i x)^Wb.ins b i u:=(h.take i).append^.cons r^h.drop i
def Ud:V'->!V'->Hp->VK->Prop:=λx b H Q=>∃l a i y,x= .ref l/\b= [.int i,y]/\H l\(.lst a)/\0<=i/\i<=a.length/\a.length<sizeLine/\Q .aT^upd H l^.lst^Wb.ins a i.toNat y
def oF:Kv X "list.insert" Ud:=by
 intro b s u H x w v A Q I f g h;rfl';let#[l,C,i,y,rfl,rfl,c,E,G,J',q]:=h;subst f;obtain⟨L',d,rfl,⟨t,rfl⟩,k⟩:=g.two;let#[z,a,n,r,M,e]:=I.ph c;have N:=l0;ac_rfl
 have m:¬(not^Builtin.List.listFitsIndex i)=true:=by
  rw[ago () ()]
  show c9
 apply ad0 F.slot_list_insert #[_,e,Y] F.entry_list_insert (F.args_list_insert_3 _ _ _) (AutoSeq1.list_insert_list_int_val_1 l a.toArray n i t d m^by rw[b8];lia) #[e,?_]
 apply#[.aT,_,I.ER (its':=Wb.ins a i.toNat d) c e ?_ (r.ins k i.toNat) ?_,Y,q]
 .have o:¬i<0:=()
  have p:min i.toNat a.length=i.toNat:=()
  simp only[o,Pi,b8,p];apply afS.mp ?_;unfold Wb.ins;simp;show tL^by rw[pI];lia
 .rw[Wb.Bu];lia
def Xc(K:ac):V'->!V'->Hp->VK->Prop:=λx b H Q=>∃(l:Ad)(a:!V')(y:V')(j:Nat)(z:V'),x= .ref l/\b= [y]/\H l\(.lst a)/\gu y=L/\a.all gu=L/\a[j]?\z/\qc z y=L/\
 (∀(m:Nat) z,m<j->a[m]?\z->qc z y=At)/\Q (.int j) H
def rV:Kv X "list.index"^Xc X.K:=by
 intro B s U H x Y' v Z Q I C E h;rfl';let#[l,f,y,j,z,rfl,rfl,J',L',fs,g,M,N,q]:=h;subst C;let#[u,rfl,O]:=E.one;let#[dZ,a,n,r,hl,e]:=I.ph J';let#[w,hw,P]:=r.get g;ac_rfl
 have R:j<a.toArray.size:=by
  let#[c,D]:=cV.mp hw;simpa using c
 have flat:∀(m:Nat) z,f[m]?\z->gu z=true:=λm z h=>(yQ.mp fs) z^cG h
 have i:a.toArray[j]=w:=by
  let#[c,k]:=cV.mp hw;simpa using k
 have bX:=l0
 have F4:j<f.length:=by
  let#[c,D]:=cV.mp g;show c
 apply ad0 F.slot_list_index #[_,e,Y] F.entry_list_index (F.args_list_index_2 _ _) (SeqAt.list_indexAt l a.toArray n V #[] u (sH y) j R () ?_ ?_) #[e,λw hw=>ng O L' r fs w^~~~hw,?_]
 .rw[i,Am P^flat j z g];show M
 .intro m S o
  have t6:m<a.length:=by simpa using S
  obtain⟨d,b⟩:∃d,f[m]?\d:=#[_,bT ()]
  let#[T,p,t]:=r.get b
  have A:a.toArray[m]=T:=by
   let#[c,k]:=cV.mp p;simpa using k
  rw[A,Am t^flat m d b];show N m d o b
 .show#[.int j,H,I.tok _,#[_,Y],q]
end
mutual
inductive Dp (K:ac) (H:Hp):V'->PyData->Prop
 |aT:Dp K H .aT .none
 |bl (b:Bool):Dp K H (.bl b)^.bool b
 |int (i:Int):Dp K H (.int i)^.int i
 |str (x:fC) (h:PyData.strOk x=L):Dp K H (.str x)^.str x
 |lst {a:Ad} {xs:!V'} {ds:!PyData}:aK K H a xs->pV K H xs ds->Dp K H (.ref a)^.list ds
 |tup {a:Ad} {xs:!V'} {ds:!PyData}:fN K H a xs->pV K H xs ds->Dp K H (.ref a)^.tuple ds
inductive pV (K:ac) (H:Hp):!V'->!PyData->Prop
 |nil:pV K H [] []
 |cons {v:V'} {vs:!V'} {d:PyData} {ds:!PyData}:Dp K H v d->pV K H vs ds->pV K H (v::vs) (d::ds)
end
section
def Dp.reads(I:Inv X pins σ H s)(h:Dp X.K H v d):RelV v u->(∃a,Reads s.heap u d a)/\d.canLay0=true:=by
 revert u
 apply Dp.rec (motive_1:=λv d _=>∀{u:b_},RelV v u->(∃a,Reads s.heap u d a)/\d.canLay0=L) (motive_2:=λB w _=>∀{A:!b_},Vals B A->(∃a,ReadsAll s.heap A w a)/\PyData.canLayAll0 w=L) ?_ ?_ ?_ ?_ (λh _ j u r=>?_) (λh _ j u r=>?_) ?_ (λ_ _ j k u r=>?_) h
 .rintro _ rfl;show#[#[_, .none],Y]
 .rintro b _ rfl;show#[#[_, .bool b],Y]
 .rintro i _ ⟨t,rfl⟩;show#[#[_, .int i t],Y]
 .rintro x h _ ⟨t,rfl⟩;show#[#[_, .str x t],h]
 .cases r
  let#[e,f,pl,C]:=I.list h;obtain⟨⟨a,g⟩,c⟩:=j f;let#[o,l,m,n,p]:=pl.isList;show#[#[_, .list l m p^~~~g],c]
 .cases r
  let#[e,f,pl,C]:=I.tuple h;obtain⟨⟨a,g⟩,c⟩:=j f;let#[o,l,m,n,p]:=pl;show#[#[_, .tuple l m p^~~~g],c]
 .intro u r;cases r;show#[#[_, .nil],Y]
 .cases r with
  |cons r q=>
   obtain⟨⟨x,E⟩,F⟩:=j r;obtain⟨⟨y,G⟩,J'⟩:=k q;show#[#[_, .cons E G],ae4.mpr #[F,J']]
end
section
def acI(K:ac):R2:=λx y H Q=>∃d e,Dp K H x d/\Dp K H y e/\d.depth<=64/\Q (.bl^PyData.eqv d e) H
def acJ(K:ac):R2:=λx y H Q=>∃d e,Dp K H x d/\Dp K H y e/\d.depth<=64/\Q (.bl (not^PyData.eqv d e)) H
def WN(n:X.A.units+64<cLine):OpR X (gi .Eq)^acI X.K:=by
 intro a s o H x y v u Q I b c h;rfl';let#[d,e,g,i,r,q]:=h;obtain⟨⟨t,j⟩,k⟩:=g.reads I b;obtain⟨⟨bs,l⟩,m⟩:=i.reads I c;ac_rfl;show SeqAt.compareEq_reads j l k m (by have:=Nat.min_le_left d.depth e.depth;lia) #[.bl _,H,I,Y,q]
def GG(n:X.A.units+64<cLine):OpR X (gi .NotEq)^acJ X.K:=by
 intro a s o H x y v u Q I b c h;rfl';let#[d,e,g,i,r,q]:=h;obtain⟨⟨t,j⟩,k⟩:=g.reads I b;obtain⟨⟨bs,l⟩,m⟩:=i.reads I c;ac_rfl;show SeqAt.compareNe_reads j l k m (by have:=Nat.min_le_left d.depth e.depth;lia) #[.bl _,H,I,Y,q]
end
def nD(n:Nat):PyData:= .int n
def wC(r:!Nat):PyData:= .list^r.map nD
def pH(d:Nat×Nat):PyData:= .tuple [.int d.1, .int d.2]
theorem zc{e:Type}{f:e->PyData}(g:∀a b,PyData.eqv (f a)^f b=L↔a=b):∀c d:!e,PyData.eqvAll (c.map f)^d.map f=L↔c=d
 | [],[]=>by simp[PyData.eqvAll]
 | [],_::_=>by simp[PyData.eqvAll]
 |_::_,[]=>by simp[PyData.eqvAll]
 |a::c,b::d=>by
  have h:=zc g c d;simp[PyData.eqvAll,g,h]
def VL(a b:Nat):PyData.eqv (nD a)^nD b=L↔a=b:=by
 simp[nD,PyData.eqv];lia
def En(a b:!Nat):PyData.eqv (wC a)^wC b=L↔a=b:=by
 unfold wC;rw[PyData.eqv];show zc VL a b
def Eo(a b:Nat×Nat):PyData.eqv (pH a)^pH b=L↔a=b:=by
 unfold pH;let#[c,d]:=a;let#[e,f]:=b;simp[PyData.eqv,PyData.eqvAll];lia
theorem mr{f:c->PyData}{k:Nat}(d:∀a,(f a).depth<=k):∀b:!c,PyData.depthAll^b.map f<=k
 | []=>by simp[PyData.depthAll]
 |a::b=>by
  have:=d a
  have e:=mr d b;simp[PyData.depthAll];lia
def yZ(a:!Nat):(wC a).depth<=2:=by
 unfold wC;rw[PyData.depth]
 have:=mr (f:=nD) (k:=1) (λn=>by simp[nD,PyData.depth]) a
 lia
def za(a:Nat×Nat):(pH a).depth<=2:=by simp[pH,PyData.depth,PyData.depthAll]
end L2
namespace L2
open PySem PySem.Spec PyProof.Rows
theorem Vals.of_get:∀{a:!V'}{b:!b_},a.length=b.length->(∀(k:Nat) x u,a[k]?\x->b[k]?\u->RelV x u)->Vals a b
 | [],[],_,_=> .nil
 | [],_::_,h,_=>by simp at h
 |_::_,[],h,_=>by simp at h
 |x::a,u::b,h,r=> .cons (r 0 x u rfl rfl) (Vals.of_get (~~~h) λk y w c d=>r (k+1) y w (~~~c)^~~~d)
section
theorem OE(t:X.calm=L):CallR X (.builtin "all") (λj H Q=>∃(p:Ad)(bs:!Bool),j= [.ref p]/\H p\(.lst^bs.map V'.bl)/\Q (.bl^bs.all id) H):=by
 intro k s U H j Y' Q I y h;rfl';let#[p,bs,rfl,C,q]:=h;let#[u,rfl,F]:=y.one;subst F;let#[a,r,pl,Z]:=I.list^aK.of C;have l:=r.length;rw[aG] at l;ac_rfl;apply call_all_walk^wpAny_pyIter_list pl.isList ?_
 have G:p≠s.heap.objs.size:=by
  let#[o,J',f]:=pl.isList;show bP^Da J'
 have L':∀i:Nat,i<a.length->∃b,bs[i]?\b/\a[i]?\(.bool b):=λi c=>by
  rfl';obtain⟨b,d⟩:∃b,bs[i]?\b:=#[_,bT ()]
  let#[w,hw,M]:=r.get (i:=i) (x:= .bl b)^by rw[dF,d];rfl
  subst M;ac_rfl;show#[b,d,hw]
 apply#[_,_,_,a.toArray.size,_,_,λi=>bs.getD i At,Y,Walks.list (show X.A.in1.handled=V from I.ok.hd t) s.heap.objs.size p G a.toArray,#[#[_,GM _ rfl,Y,Y],pl.isList.push _],?_,λN tk O=>?_]
 .intro i v s Q E P R
  have g:a[i]?\v:=by simpa using P
  have c:i<a.length:=by
   let#[S,f]:=cV.mp g;show S
  let#[b,d,hw]:=L' i c;rw[hw] at g;cases Do g;apply SC ?_;have m:Q (bs.getD i At) s:=R;rw[cy,d] at m;show m
 .have kept:∀b o,s.heap.get? b\o->N.get? b\o:=λb o e=>O b o (by simp;show bP^Da e)^AC _ e
  have e:(aj a.toArray.size).all (λi=>bs.getD i At)=bs.all id:=by
   rw[b8,<-l];rw[CZ,yQ,yQ]
   constructor
   .intro h x T
    let#[i,c,rfl]:=List.mem_iff_getElem.mp T
    have:=h i^gf.mpr c
    rw[cy,bT c] at this;show this
   .intro h i c
    have n:=gf.mp c;rw[cy,bT n];show h _^j5 n
  rw[e];show#[.bl _,H,I.kept kept,Y,q]
def Fz:CallR X (.builtin "isinstance") (λa H Q=>∃(x:V')(n:String)(t:b_)(b:Bool),a= [x, .ty n]/\lU X.K H x t/\b5 X.K t^.type n\b/\Q (.bl b) H):=by
 intro c s k H a l Q I d h;rfl';let#[x,n,t,b,rfl,g,e,q]:=h;let#[o,p,rfl,i,j]:=d.two;subst j;ac_rfl;show LB I i g e λr=>#[.bl b,H,I.tok _,Y,q]
def Dm:CallR X (.builtin "sorted") (λf H Q=>∃(p:Ad)(c:!Int),f= [.ref p]/\aK X.K H p^c.map V'.int/\c.length<64/\∀(q:Ad)(a:!Int),H q=V->a.Perm c->a.Pairwise (·<=·)->Q (.ref q)^upd H q^.lst^a.map V'.int):=by
 intro g s A H f B Q I j h;rfl';let#[p,c,rfl,l,E,q]:=h;let#[u,rfl,m]:=j.one;subst m;let#[d,r,pl,k]:=I.list l;have n:=r.length;rw[aG] at n;ac_rfl;apply sorted_ints pl.isList (intsAre_of r) () λout a t i v=>?_
 let#[e,w]:=agw s.heap d out;have x:H (s.heap.objs.size+1)=none:=I.hok.fresh^pM _;have F:=i.length_eq;have G:64<=sizeLine:=∅
 apply#[.ref (s.heap.objs.size+1),_,I.laid (t':=s.toks) (λb o y=>agr y) (pM _) (o:= .lst^a.map V'.int) #[by rw[aG];lia,out.toList,e,uQ t,by simpa using w],Y,q _ a x i v]
end
structure kW (C:gc) (t0 i0 t1 i1:gc) (f0 f1:!gc) (el:Ad->nQ->lD Unit):Prop where
 u:∀(A:gs)(k:Nat)(it:b_)(D:Ad)(env:nQ),A.under^.compLoop C k it (.ref D) env=A
 z0:∀(P:ff)(w:f8)(it:b_)(D:Ad)(env:nQ),(ei P w).den^.compLoop C 0 it (.ref D) env=Sem.onRaise (do
   jo i0.pos
   match <-ni it with
   |none=>pure^.done .next
   |some v=>
    j4 t0 it v
    k8 t0 env v
    let ok <-forIn f0 L λc r=>if r=L then do let ok <-isTrue c env^gj c env;pure^ForInStep.yield ok else pure (ForInStep.yield r)
    if ok=L then
     let x <-gj i1 env
     jo i1.pos
     let x <-f_ i1 env x
     let Je <-im [x]^pyIter x
     let _ <-runOwn (.compStart C 1 Je (.ref D) env) env
     again (.compLoop C 0 it (.ref D) env)
    else again^.compLoop C 0 it (.ref D) env) (λx=>do mN x env;theTreesLotGoes x)
 z1:∀(P:ff)(w:f8)(it:b_)(D:Ad)(env:nQ),(ei P w).den^.compLoop C 1 it (.ref D) env=Sem.onRaise (do
   jo i1.pos
   match <-ni it with
   |none=>pure^.done .next
   |some v=>
    j4 t1 it v
    k8 t1 env v
    let ok <-forIn f1 L λc r=>if r=L then do let ok <-isTrue c env^gj c env;pure^ForInStep.yield ok else pure (ForInStep.yield r)
    if ok=L then
     el D env
     again (.compLoop C 1 it (.ref D) env)
    else again^.compLoop C 1 it (.ref D) env) (λx=>do mN x env;theTreesLotGoes x)
 b0:∀{P:ff}{w:f8}{A:gs}{R:no->c_->Prop}{s:c_}{it:b_}{D:Ad}{env:nQ},g6 (ei P w) A (.compLoop C 0 it (.ref D) env) R s->
  (∀(Q:b_->c_->Prop)(E:b_->c_->Prop),Q it s->e_ (ei P w) A (pyIter it) Q E s)->g6 (ei P w) A (.compStart C 0 it (.ref D) env) R s
 b1:∀{P:ff}{w:f8}{A:gs}{R:no->c_->Prop}{s:c_}{it:b_}{D:Ad}{env:nQ},g6 (ei P w) A (.compLoop C 1 it (.ref D) env) R s->
  (∀(Q:b_->c_->Prop)(E:b_->c_->Prop),Q it s->e_ (ei P w) A (pyIter it) Q E s)->g6 (ei P w) A (.compStart C 1 it (.ref D) env) R s
abbrev OB:=Ad->St->Hp->(Hp->Prop)->Prop
def QA(X:Cx)(d:Ad->Env->Sem Unit)(e:OB):Prop:=∀(D:Ad)(a:!(Ad×Obj))(s:Shared)(b:St)(H:Hp)(N:Hp->Prop),Inv X a b H s->e D b H N->wpAny (model X.prog X.w) X.A (d D X.env) (λ_ f=>∃c,Inv X a b c f/\N c) X.xe s
section
theorem MO{a:!(Ad×Obj)}{s:c_}{σ:St}{H:Hp}{it D:Ad}{B:!Ad}{Y':Nat->Heap->Prop}{J':It}{R:no->c_->Prop}{N:St->Hp->Prop}
  (V6:XC.xe=λ_ _=>False) (hc:XC.calm=L) (I:Inv XC a σ H s) (T:Turn XC.prog XC.w XC.K t1 J' B it Y') (st:Y' 0 s.heap) (f2:∀b∈B,eX XC a H b)
  (Tw:kW C t0 i0 t1 i1 f0 f1 el) (hg:PG XC t1 g1) (ht:kU XC f1 bY) (he:QA XC el ta)
  (hW:∃W:Nat->Nat->St->Hp->Prop,(∃m,W 0 m σ H)/\∀i m eD M,W i m eD M->(J'.stop i M/\N eD M)\/
   (J'.go i M/\∃O:St->Hp->Prop,(∀j c,O j c->∃Z,Z<m/\W (i+1) Z j c)/\∀x H3,J'.yld i M x H3->g1 x eD H3 λg H4=>bY g H4 λb H5=>
    if b=L then ta D g H5^O g else O g H5))
  (hR:∀j c v,Inv XC a j c v->N j c->R (.ok .next) v):
  g6 (ei XC.prog XC.w) XC.A (.compStart C 1 (.ref it) (.ref D) XC.env) R s:=by
 obtain⟨W,⟨m0,w0⟩,P⟩:=hW
 have mw:∀{α:Type}{t:lD α}{Q:α->c_->Prop}{E:b_->c_->Prop}{s:c_},e_ (ei XC.prog XC.w) XC.A t Q XC.xe s->e_ (ei XC.prog XC.w) XC.A t Q E s:=λ {α t Q E s} h=>
  io h (λ_ _ q=>q) λ_ _ f=>by rw[V6] at f;show f.elim
 have k:∀{c:Hp},(∀b∈B,c b=V)->∀b∈B,eX XC a c b:=λhn b p=>#[hn b p,(f2 b p).2]
 have S:g6 (ei XC.prog XC.w) XC.A (.compLoop C 1 (.ref it) (.ref D) XC.env) R s:=by
  apply agv rfl (λn v=>∃i j c,Inv XC a j c v/\Y' i v.heap/\(∀b∈B,c b=V)/\W i n j c) (λn v hI=>?_) m0 #[0,σ,H,I,st,λb p=>(f2 b p).1,w0];rfl';let#[i,j,c,I5,Af,tW,w5]:=hI;ac_rfl;rw[Tw.u,Tw.z1];apply wpAny_noted ?_;apply a_^adI^a_ ?_
  rcases P i n j c w5 with ⟨stop,qn⟩ | ⟨go,O,hN,step⟩
  .apply thn (T.done XC rfl rfl rfl hc i a v j c _ I5 (k tW) Af stop) λr s6 l=>?_
   let#[hr,I6]:=l;subst hr;show ir^hR j c s6 I6 qn
  .apply thn (T.item XC rfl rfl rfl hc i a v j c _ I5 (k tW) Af go) λr s6 l=>?_
   rfl';let#[u,hr,h6]:=l;ac_rfl;subst hr;apply a_ (thn h6 λ_ s7 l=>?_);rfl';let#[x,H7,I7,r7,y7,Cu,RA]:=l;ac_rfl;have Qx:=I7.pinned (k RA)^T.obj _ _ Cu
   have nextT:∀{y:St}{G:Hp}{L':c_},Inv XC (a++oM B s7.heap) y G L'->O y G->∃m,m<n/\∃i j c,Inv XC a j c L'/\Y' i L'.heap/\(∀b∈B,c b=V)/\W i m j c:=λ {y G L'} U n8=>by
    let#[Z,hm,w8]:=hN y G n8;apply#[Z,hm,i+1,y,G,U.kS,T.keep _ _ _ Cu λb p o e=>(U.pin (b,o)^gb _^gb _^fM p e).1,λb p=>?_,w8];let#[o,e,d]:=T.obj _ _ Cu b p;show(U.pin (b,o)^gb _^gb _^fM p e).2.1
   apply a_^mw (thn (hg _ s7 j H7 x u _ Qx r7^step x H7 y7) λ_ L' l=>?_);rfl';let#[y,G,U,q8]:=l;ac_rfl;apply a_^mw (thn (ht _ L' y G _ U q8) λb s9 l=>?_);let#[H9,I9,X]:=l;cases b with
   |false=>
    rw[tz c9] at X;show ir #[Y,nextT I9 X]
   |true=>
    rw[mo rfl] at X;apply a_^mw (thn (he D _ s9 y H9 _ I9 X) λ_ GU l=>?_);let#[Df,Fq,Mg]:=l;show ir #[Y,nextT Fq Mg]
 show Tw.b1 S λQ E q=>T.self _ 0 _ _ _ st q
def gIn(n:TG)(o:TT)(p:OB)(D:Ad)(J':It)(N:St->Hp->Prop):St->Hp->Prop:=λq H=>
 ∃W:Nat->Nat->St->Hp->Prop,(∃m,W 0 m q H)/\∀i m d a,W i m d a->(J'.stop i a/\N d a)\/
  (J'.go i a/\∃e:St->Hp->Prop,(∀f h,e f h->∃j,j<m/\W (i+1) j f h)/\∀x k,J'.yld i a x k->n x d k λc r=>o c r λb l=>
   if b=L then p D c l^e c else e c l)
def RC(g:TG)(l:TT)(n:TI)(o:TG)(p:TT)(q:OB)(D:Ad)(J':It)(Q:VK)(r:St)(H:Hp):Prop:=
 ∃W:Nat->Nat->St->Hp->Prop,(∃m,W 0 m r H)/\∀i m d a,W i m d a->
  (J'.stop i a/\Q (.ref D) a)\/
  (J'.go i a/\∃N:St->Hp->Prop,(∀e f,N e f->∃h,h<m/\W (i+1) h e f)/\∀x j,J'.yld i a x j->g x d j λc s=>l c s λb k=>
   if b=L then n c k λt u=>gIn o p q D t N c u else N c k)
theorem CG{k:!(Ad×Obj)}{σ:St}{v:c_}{U:Hp}{it:Ad}{G:!Ad}{Z:Nat->Heap->Prop}{J':It}{RR:b_->Ad->no->c_->Prop}{E:b_->c_->Prop}{Q:VK}{o0:Ad->HO}{new:lD b_}
  (Tw:kW C t0 i0 t1 i1 f0 f1 el)
  (hc:X.calm=L) (c:bG X scope) (eY:dM scope X.N src NC) (I2:Inv X k σ U v) (T:Turn X.prog X.w X.K t0 J' G it Z) (i9:Z 0 v.heap) (f2:∀b∈G,eX X k U b)
  (hg:∀ex s H,PG (bJ X scope NC ex s H) t0 g) (ht:∀ex s H,kU (bJ X scope NC ex s H) f0 tt) (pT:∀ex s H,PI (bJ X scope NC ex s H) t1 i1 cR) (xS:∀ex s H,PG (bJ X scope NC ex s H) t1 g1)
  (xX:∀ex s H,kU (bJ X scope NC ex s H) f1 bY) (he:∀ex s H,QA (bJ X scope NC ex s H) el ta) (sN:∀env x,f_ i1 env x=pure x)
  (hn:∀(Q':b_->c_->Prop)(E':b_->c_->Prop),(∀B:c_,Inv X k σ (upd U v.heap.objs.size^o0 v.heap.objs.size) B->(∀b o,v.heap.get? b\o->B.heap.get? b\o)->Q' (.ref v.heap.objs.size) B)->e_ (ei X.prog X.w) X.A new Q' E' v)
  (hW:∀D,U D=V->RC g tt cR g1 bY ta D J' Q (lG src σ)^upd U D^o0 D)
  (Lb:∀D B H3 I l L',Inv X k σ H3 B->(∀b∈G,eX X k H3 b)->Inv (bJ X scope NC G B H3) [] I l L'->Q (.ref D) l->RR (.ref D) B.heap.objs.size (.ok .next) L'):
  e_ (ei X.prog X.w) X.A new (λacc wZ=>e_ (ei X.prog X.w) X.A (kv scope X.env.globals (jR X.env scope.names []) [] X.env.qual V .none^J X.env) (λlX w4=>
   g6 (ei X.prog X.w) X.A (.compStart C 0 (.ref it) acc {lX with scope:=lR scope X.env}) (RR acc lX.locals) w4) E wZ) E v:=by
 rfl';obtain⟨W,⟨m0,w0⟩,turn⟩:=hW v.heap.objs.size I2.fresh;ac_rfl
 have BG:∀b∈G,b<v.heap.objs.size:=λb j=>by
  let#[o,e,O]:=T.obj _ _ i9 b j;show Da e
 have f3:∀b∈G,eX X k (upd U v.heap.objs.size^o0 v.heap.objs.size) b:=λb j=>#[by rw[ao^bP^BG b j];show(f2 b j).1,(f2 b j).2]
 apply hn _ _ λB I3 up3=>?_;have Ae:Z 0 B.heap:=T.keep _ _ _ i9 λb _ o e=>up3 b o e
 have LL:∀b∈G,b<B.heap.objs.size:=λb j=>by
  let#[o,e,O]:=T.obj _ _ Ae b j;show Da e
 generalize hH3:upd U v.heap.objs.size^o0 v.heap.objs.size=H3 at I3 f3 w0;apply wpAny_newFunctionEnv c.nocell (by intro y hy;simp at hy) (λh1 F7 Gd=>?_) c.kind
 have I4:=Ed (src:=src) (NC:=NC) (ex:=G) (tk:=B.toks+([]:!(fC×b_)).length) I3 c eY f3 LL F7 Gd;have UG:Z 0 h1:=T.keep _ _ _ Ae λb j o e=>Gd.extBut b o (bP^LL b j)^AC _ e;generalize F:bJ X scope NC G B H3=a at I4
 have M:∀{l:Hp},(∀b∈G,l b=V)->∀b∈G,eX a [] l b:=λ {l} hn b j=>by
  subst F;apply#[hn b j,bP^LL b j,λz=>?_, .inl j,λx d e=>?_,λp hp=>absurd (show p∈([]:!(Ad×Obj)) from hp)^by simp]
  .show(I4.ok.exfs b j) z
  .show(I4.ok.exf b j).2 x d e
 have O8:a.calm=true:=by subst F;show hc
 have eP:a.prog=X.prog:=by subst F;rfl
 have ew:a.w=X.w:=by subst F;rfl
 have eK:a.K=X.K:=by subst F;rfl
 have eA:a.A=X.A:=by subst F;rfl
 have V6:a.xe=λ_ _=>False:=by subst F;rfl
 have hgC:PG a t0 g:=by subst F;show hg _ _ _
 have htC:kU a f0 tt:=F▸ht _ _ _;have hiC:PI a t1 i1 cR:=F▸pT _ _ _;have abO:PG a t1 g1:=F▸xS _ _ _;have aca:kU a f1 bY:=F▸xX _ _ _;have heC:QA a el ta:=F▸he _ _ _
 have mw:∀{α:Type}{t:lD α}{Q:α->c_->Prop}{E:b_->c_->Prop}{s:c_},e_ (ei a.prog a.w) a.A t Q a.xe s->e_ (ei X.prog X.w) X.A t Q E s:=λ {α t Q E s} h=>by
  rw[<-eP,<-ew,<-eA];show io h (λ_ _ q=>q) λ_ _ f=>by rw[V6] at f;show f.elim
 have loop:g6 (ei X.prog X.w) X.A (.compLoop C 0 (.ref it) (.ref v.heap.objs.size) a.env) (RR (.ref v.heap.objs.size) B.heap.objs.size)
   {B with heap:=h1,toks:=B.toks+([]:!(fC×b_)).length}:=by
  apply agv rfl (λn L'=>∃i I l,Inv a [] I l L'/\Z i L'.heap/\(∀b∈G,l b=V)/\W i n I l) (λn L' hI=>?_) m0 #[0,_,_,I4,UG,λb j=>(f3 b j).1,w0];rfl';let#[i,I,l,I5,Af,tW,w5]:=hI;ac_rfl;rw[Tw.u,Tw.z0];apply wpAny_noted ?_;apply a_^adI^a_ ?_
  rcases turn i n I l w5 with ⟨stop,qn⟩ | ⟨go,N,hN,step⟩
  .have hd:=T.done a eP ew eK O8 i [] L' I l (notedBy (ei X.prog X.w) X.A a.env λe L'=>RR (.ref v.heap.objs.size) B.heap.objs.size (.error e) L') I5 (M tW) Af stop
   rw[eA] at hd;apply thn hd λr s6 P=>?_;let#[hr,I6]:=P;subst hr;apply ir ?_;subst F;show Lb _ B _ I l s6 I3 f3 I6 qn
  .have hd:=T.item a eP ew eK O8 i [] L' I l (notedBy (ei X.prog X.w) X.A a.env λe L'=>RR (.ref v.heap.objs.size) B.heap.objs.size (.error e) L') I5 (M tW) Af go
   rw[eA] at hd;apply thn hd λr s6 P=>?_;let#[u,hr,h6]:=P;subst hr;apply a_ (thn h6 λ_ s7 P=>?_);rfl';let#[x,H7,I7,r7,y7,Cu,RA]:=P;ac_rfl;have Qx:=I7.pinned (M RA)^T.obj _ _ Cu
   have nextT:∀{S:St}{Y':Hp}{s8:c_},Inv a ([]++oM G s7.heap) S Y' s8->N S Y'->∃m,m<n/\∃i I l,Inv a [] I l s8/\Z i s8.heap/\(∀b∈G,l b=V)/\W i m I l:=λ {S Y' s8} I8 n8=>by
    let#[m',hm,w8]:=hN S Y' n8;apply#[m',hm,i+1,S,Y',I8.kS,T.keep _ _ _ Cu λb j o e=>(I8.pin (b,o)^gb _^gb _^fM j e).1,λb j=>?_,w8];let#[o,e,d]:=T.obj _ _ Cu b j;show(I8.pin (b,o)^gb _^gb _^fM j e).2.1
   apply a_^mw (thn (hgC _ s7 I H7 x u _ Qx r7^step x H7 y7) λ_ s8 P=>?_);rfl';let#[S,Y',I8,q8]:=P;ac_rfl;apply a_^mw (thn (htC _ s8 S Y' _ I8 q8) λb s9 P=>?_);let#[H9,I9,q9]:=P;cases b with
   |false=>
    rw[tz c9] at q9;show ir #[F▸rfl,nextT I9 q9]
   |true=>
    rw[mo rfl] at q9;apply a_^mw (thn (hiC _ s9 S H9 _ I9 q9) λv1 Cb h10=>?_);apply a_^adI^a_^afm (sN _ v1)^a_^IR^mw (thn h10 λGh GU h11=>?_);rfl';let#[Je,fp1,tn1,J1,Df,rfl,Fq,T1,acY,f11,hin]:=h11;ac_rfl;apply a_^wpAny_runOwn ?_;have tr:∀(cd:Code)(R:no->c_->Prop),g6 (ei a.prog a.w) a.A cd R GU->g6 (ei X.prog X.w) X.A cd R GU:=λcd R h=>by rw[eP,ew,eA] at h;show h
    show tr _ _ (MO V6 O8 Fq T1 acY f11 Tw abO aca heC hin λI l L' Y8 n12=>ir #[F▸rfl,nextT Y8 n12])
 subst F;show Tw.b0 loop λQ E q=>T.self _ 0 _ _ _ UG q
def acL(c:TE):OB:=λD d H N=>c d H λv b=>∃a,b D\(.lst a)/\a.length<sizeLine/\N^upd b D^.lst (a++ [v])
theorem Ql:kW (.ListComp elt [#[t0,i0,f0,0],#[t1,i1,f1,0]] scope pos) t0 i0 t1 i1 f0 f1 (λD env=>do let _ <-call (.builtin "list.append") [.ref D,<-gj elt env]) where
 u:=λ_ _ _ _ _=>rfl
 z0:=λ_ _ _ _ _=>rfl
 z1:=λ_ _ _ _ _=>rfl
 b0:=λa b=>codeAny_compStart_list a (b _ _ a)
 b1:=λa b=>by
  apply codeAny_of_tree ?_;apply wpAny_notedAt ?_;unfold compStart;apply a_^wpAny_askSetting^wpAny_ite ?_
  split
  .first
    |show a_^gm^gm #[Y,a]
    |show gm #[Y,a]
  .apply a_^wpAny_rule ?_
   show a_^nq^a_^b _ _^gm #[Y,a]
def Pt(e:PE X elt te):QA X (λD env=>do let _ <-call (.builtin "list.append") [.ref D,<-gj elt env])^acL te:=λD a s d H N I h=>
 a_ (thn (e a s d H _ I h) λy f b=>by
  rfl';let#[v,j,k,l,m,n,o,p]:=b;ac_rfl;apply a_ (thn (lq _ f d j (.ref D) [v] _ [y] (λ_ q=>N q) k rfl (.cons l .nil) #[_,m,v,Y,Y,n,o,p]) λ_ w b=>?_);rfl';let#[_,r,t,_,u]:=b;ac_rfl;show ir #[r,t,u])
def Y4(g:TG)(a:TT)(b:TI)(c:TG)(d:TT)(e:TE)(D:Ad)(J':It)(Q:VK)(f:St)(H:Hp):Prop:=RC g a b c d (acL e) D J' Q f H
def Y2(c:TI)(g:TG)(d:TT)(e:TI)(f:TG)(h:TT)(i:TE)(src:!Option Nat):TE:=λa H Q=>c a H λJ' b=>∀D,b D=V->Y4 g d e f h i D J' Q (lG src a)^upd b D^.lst []
def FD{a:!(Ad×Obj)}{j:St}{f:c_}{h:Hp}{m:Ad}{i:!Ad}{n:Nat->Heap->Prop}{J':It}{p:b_->Ad->no->c_->Prop}{E:b_->c_->Prop}{Q:VK}
  (y:X.calm=L) (c:bG X scope) (B:dM scope X.N src NC) (r:Inv X a j h f) (T:Turn X.prog X.w X.K t0 J' i m n) (F:n 0 f.heap) (G:∀b∈i,eX X a h b)
  (I:∀d s H,PG (bJ X scope NC d s H) t0 g) (L':∀d s H,kU (bJ X scope NC d s H) f0 tt) (M:∀d s H,PI (bJ X scope NC d s H) t1 i1 cR) (O:∀d s H,PG (bJ X scope NC d s H) t1 g1)
  (P:∀d s H,kU (bJ X scope NC d s H) f1 bY) (R:∀d s H,PE (bJ X scope NC d s H) elt te) (S:∀env x,f_ i1 env x=pure x)
  (U:∀D,h D=V->Y4 g tt cR g1 bY te D J' Q (lG src j)^upd h D^.lst [])
  (Y':∀D k l Z t u,Inv X a j l k->(∀b∈i,eX X a l b)->Inv (bJ X scope NC i k l) [] Z t u->Q (.ref D) t->p (.ref D) k.heap.objs.size (.ok .next) u):
  e_ (ei X.prog X.w) X.A (newList []) (λacc C=>e_ (ei X.prog X.w) X.A (kv scope X.env.globals (jR X.env scope.names []) [] X.env.qual V .none^J X.env) (λv w4=>
   g6 (ei X.prog X.w) X.A (.compStart (.ListComp elt [#[t0,i0,f0,0],#[t1,i1,f1,0]] scope pos) 0 (.ref m) acc {v with scope:=lR scope X.env}) (p acc v.locals) w4) E C) E f:=by
 apply CG (o0:=λ_=> .lst []) Ql y c B r T F G I L' M O P (λd s H=>Pt^R d s H) S (λQ' E' q=>?_) U Y';show adN (q _ (r.NQ (its:= []) (t':=f.toks) .nil^eQ _) λb o e=>AC _ e)
def WX(e:X.calm=L)(c:bG X scope)(f:dM scope X.N src NC)(i:PI X t0 i0 wi)
  (j:∀a s H,PG (bJ X scope NC a s H) t0 g) (k:∀a s H,kU (bJ X scope NC a s H) f0 tt) (l:∀a s H,PI (bJ X scope NC a s H) t1 i1 cR) (n:∀a s H,PG (bJ X scope NC a s H) t1 g1)
  (o:∀a s H,kU (bJ X scope NC a s H) f1 bY) (p:∀a s H,PE (bJ X scope NC a s H) elt te)
  (q:(∀x,f_ i0 X.env x=pure x)<|>xz) (r:(∀env x,f_ i1 env x=pure x)<|>ww):
  PE X (.ListComp elt [#[t0,i0,f0,0],#[t1,i1,f1,0]] scope pos)^Y2 wi g tt cR g1 bY te src:=by
 intro b s t H Q I h;rw[eval_ListComp];apply ad5 (use:=V) rfl q (gJ^c.cells I.ok) c.kind c.names (thn (i b s t H _ I h) λv S u=>thn u λU Y' w=>?_);rfl';let#[C,fp,tn,J',H2,rfl,A,T,B,E,F]:=w;ac_rfl
 show FD e c f A T B E j k l n o p r F λD s3 H3 aA G s' L' M d O=>by
  let#[m,P,y]:=d.loc;show#[m,P,λh' R=>#[.ref D,G,comp_back L' M d R,Y,O]]
end
end L2
namespace KS
open PySem PySem.W PyProof.Rows
section
def zB(c:s.heap.get? a\(hT "list" b.toArray n))(j:b.length<2)
  (h:G (.done^.ret .none) {s with heap:=sortedHeap s.heap a b b.toArray}):e_ (ei prog w) A (Builtin.«list.sort» #[[.ref a],[]]) G E s:=by
 rw[list_sort_plain];have m:a<s.heap.objs.size:=Da c;apply a_^listItems_at c rfl^a_^afy c rfl ?_;obtain⟨l,d⟩:∃k,(s.heap.update a (Obj.mapSeq λ_=> #[])).get? a\(hT "list" #[] k):=#[_,get?_update_seq c^λ_=> #[]];apply a_^agj d rfl^a_^agp^a_^aeH^IR ?_;have e:(((s.heap.update a (Obj.mapSeq λ_=> #[])).push^hT "tuple" b.toArray 0).push^hT "list" #[] 0).get? a\(hT "list" #[] l):=AC _^AC _ d;change e_ (ei prog w) A _ G E {s with heap:=((s.heap.update a (Obj.mapSeq λ_=> #[])).push^hT "tuple" b.toArray 0).push^hT "list" #[] 0}
 dsimp only;have f:b.toArray.size<2:=j;rw[mo f,mo f];apply a_^ir ?_;rw[StateT.run_pure];apply a_^ir ?_;dsimp only
 have g:(ey^SortSt.mk' general' (b.toArray.zip b.toArray) #[] 7 V).map (·.2)=b.toArray:=by
  change(b.toArray.zip b.toArray).map (·.2)=b.toArray;apply afS.mp ?_;simp[List.map_snd_zip]
 apply a_^agj e rfl^a_^afy e rfl ?_ (hsz2:=by rw[g];rw[aec];lia)
 simp only[afE,fA,Pi];have i:=h;unfold sortedHeap at i;rw[g];show ir i
def D3(e:s.heap.IsList l a.toArray)(f:a.length<2)(h:G (.ref (s.heap.objs.size+1)) {s with heap:=sortedAll s.heap a a.toArray}):
  e_ (ei prog w) A (call (.builtin "sorted") [.ref l]) G E s:=by
 apply ael kind_sorted agx agy (agz^.ref l) ?_;unfold Builtin.«sorted»;have b:a.length<=sizeLine:=by rw[aec];lia
 apply a_ (m:=checkCount "sorted" 1 1 _)^ir^a_^agA e (a_^aeH ?_ b) b;have c:((s.heap.push^hT "list" #[] 0).update s.heap.objs.size^Obj.mapSeq (·++a.toArray)).objs.size=s.heap.objs.size+1:=by rw[aef,afH]
 have d:(((s.heap.push^hT "list" #[] 0).update s.heap.objs.size^Obj.mapSeq (·++a.toArray)).push^hT "list" a.toArray 0).get? (s.heap.objs.size+1)\(hT "list" a.toArray 0):=by
  rw[<-c];show GM _ rfl
 change e_ (ei prog w) _ _ _ E {s with heap:=((s.heap.push^hT "list" #[] 0).update s.heap.objs.size^Obj.mapSeq (·++a.toArray)).push^hT "list" a.toArray 0}
 rw[c];show a_^IR^adK nn #[_,d,Y] ls (zB d f #[_,Y,ir #[_,Y,h]])^afi _
end
end KS
namespace L2
open PySem PySem.Spec PyProof.Rows
section
variable {X:Cx} {pins:!(Ad×Obj)} {σ:St} {H:Hp} {s:Shared} {h':Heap}
end
def jF(k:Nat×Nat):!V':= [.int (k.1:Nat), .int (k.2:Nat)]
def sE(H:Hp)(L':!(Ad×(Nat×Nat))):Prop:=∀p∈L',H p.1\(.tup^jF p.2)
def lg(a b:Nat×Nat):Bool:=if a.1=b.1 then AT (a.2<b.2) else AT (a.1<b.1)
def yo(x y:Nat×Nat):lg x y=L↔x.1<y.1\/(x.1=y.1/\x.2<y.2):=by
 unfold lg
 by_cases e:x.1=y.1
 .rw[mo e,afq]
  lia
 .rw[tz e,afq]
  lia
def Pj(x y z:Nat×Nat)(h:lg x z=L):lg x y=L\/lg y z=true:=by
 rw[yo] at*;rw[yo];lia
def SS(x y z:Nat×Nat)(h:lg x y=L)(a:lg y z=L):lg x z=true:=by
 rw[yo] at*;lia
def BB(h:lg b a=At):Wb.lexLe a b:=by
 unfold lg at h;unfold Wb.lexLe
 by_cases e:b.1=a.1
 .rw[mo e] at h
  have:=SB h
  right;lia
 .rw[tz e] at h
  have:=SB h
  left;lia
def Wh 
  (n:IsTup s.heap x [.int a i, .int b j].toArray) (o:IsTup s.heap y [.int c k, .int d l].toArray)
  (h:C (if a=c then AT (b<d) else AT (a<c)) s):e_ (ei prog w) A (keyLt' (tuples' L) (.ref x)^.ref y) C E s:=by
 rfl';let#[u,f,p,v,q]:=n;let#[B,g,p,F,r]:=o;ac_rfl;apply PySem.W.kat_lt f q g r ?_;apply PySem.W.kat_cons^aem a i c k prog w _ _ ?_
 by_cases e:a=c
 .rw[mo e] at h
  rw[show(a==c)=L by simpa using e]
  apply PySem.W.kat_yes^PySem.W.kat_cons^aem b j d l prog w _ _ ?_
  by_cases m:b=d
  .rw[show(b==d)=L by simpa using m]
   apply PySem.W.kat_yes^PySem.W.kat_nil ?_;rw[show AT (b<d)=At by simp;lia] at h
   simpa using h
  .rw[show(b==d)=At by simpa using m]
   apply PySem.W.kat_no^PySem.W.kat_one _ _ ?_;show lt_int h
 .rw[tz e] at h
  rw[show(a==c)=At by simpa using e]
  show PySem.W.kat_no^oneLt_int h
section
theorem uR:∀{as:!Ad}{us:!Value},Vals (as.map V'.ref) us->us=as.map Value.ref
 | [],_, .nil=>rfl
 |a::as,_, .cons r t=>by cases r;rw[uR t];rfl
theorem uL:∀b:!Ad,Vals (b.map V'.ref)^b.map Value.ref
 | []=> .nil
 |a::b=> .cons rfl^uL b
def Pu(I:Inv X b c H s)(h:H a\(.tup^jF k)):
  ∃t u,IsTup s.heap a [.int (k.1:Nat) t, .int (k.2:Nat) u].toArray:=by
 rfl';let#[e,r,p,d]:=I.tuple^fN.of h;obtain⟨g,i,rfl,⟨t,rfl⟩,⟨u,rfl⟩⟩:=Vals.two r;ac_rfl;show#[t,u,p]
end
end L2
set_option maxHeartbeats 4000000
namespace L2
open PySem PySem.Spec PySem.Calls PyProof.Rows PySem.W Builtin Builtin.ObjectAttr
def DP(s:String):Value->Bool
 | .type a=>a==s
 |_=>At
def NK(l:!Value):Bool:=match l with
 |a::b::c::d::r=>DP "ValueError" a&&DP "Exception" b&&DP "BaseException" c&&DP "object" d&&r.isEmpty
 |_=>At
def isRef:Value->Bool
 | .ref _=>L
 |_=>At
def rY:!Value->Bool
 | []=>At
 |v::r=>if isRef v then rY r else NK (v::r)
def Ao(h:DP s v=L):v= .type s:=by
 unfold DP at h
 split at h
 .rw[adR.mp h]
 .cases h
def Bv(h:NK l=L):l= [.type "ValueError", .type "Exception", .type "BaseException", .type "object"]:=by
 cases l with
 |nil=>cases h
 |cons a l=>cases l with
  |nil=>cases h
  |cons b l=>cases l with
   |nil=>cases h
   |cons c l=>cases l with
    |nil=>cases h
    |cons d r=>
     have h:(DP "ValueError" a&&DP "Exception" b&&DP "BaseException" c&&DP "object" d&&r.isEmpty)=true:=h;simp only[yO] at h;rw[Ao h.1.1.1.1,Ao h.1.1.1.2,Ao h.1.1.2,Ao h.1.2,List.isEmpty_iff.mp h.2]
def GI(K:Frag)(C:Ad):Bool:=(clsIn K C).any λa=>rY a.mro
structure kj (K:Frag) (C:Ad):Prop where
 hd:hasDictIn K C=L
 ga:findIn K (.ref C) "__getattribute__"\(J^.builtin "BaseException.__getattribute__")
 gh:findIn K (.ref C) "__getattr__"\V
 sa:findIn K (.ref C) "__setattr__"\(J^.builtin "object.__setattr__")
 ov:GI K C=L
 cl:findIn K (.ref C) "__class__"\(J^.builtin "object.__class__")
 be:mroIn K C^.type "BaseException"\L
 ob:mroIn K C^.type "object"\L
section
variable {prog:Program} {w:World} {A:Around} {E:Value->Shared->Prop} {s:Shared} {K:Frag} {x C:Ad} {ox:Obj} {od:Option Obj} {name:Str}
def Fi{fill a:Bool}{b:Tok}{Q:b_->c_->Prop}(X:K.In s.heap)(I:InstAt s.heap x ox C od)(c:kj K C)
  (h:e_ (ei prog w) A.in1 (Builtin.«object.__getattribute__» #[[.ref x, .str name b],[]]) (λfin d=>match fin with| .done^.ret v=>e_ (ei prog w) A (handedOut v) Q E d|_=>False) (λ_ _=>False) s):
  e_ (ei prog w) A (getAttrBy (.ref x) (.str name b) fill a) Q E s:=by
 unfold getAttrBy;apply IR^a_^I.type _ _ _ _ (λ_ _ e=>e)^a_^looks_findIn X c.ga _ _ _ _ (λ_ _ e=>e) ?_;dsimp only;rw[show(onTheHeap^.ref C&&Value.builtin "BaseException.__getattribute__"==Value.builtin "object.__getattribute__")=At from by rw[show(Value.builtin "BaseException.__getattribute__"==Value.builtin "object.__getattribute__")=At from by nofun,afh],tz ∅]
 unfold getAttrByItsOwn;apply a_^looks_hook (mc:= .ref C) (r:=V) X c.gh _ _ _ _ (λ_ _ e=>e)^a_^aeh^IR ?_;unfold callGetattribute;rw[show(a&&onTheHeap^Value.builtin "BaseException.__getattribute__")=At from afh _,tz ∅]
 unfold boundAndCalled;rw[F.excAttr_ValueError.ga.bind];apply a_^ir ?_;change e_ _ _ (call (.builtin "BaseException.__getattribute__") [.ref x, .str name b]) _ _ _;apply ad4 ?_;apply aeg F.excAttr_ValueError.ga.plain F.entry_bexc_ga ?_;apply @check_slot (ei prog w) _ _ s "BaseException.__getattribute__" "BaseException" "__getattribute__" (.ref x) [.str name b] [] _ (by nofun) (by nofun) (I.type.andThen^looks_mroIn X c.be) (F.args_bexc_ga (.ref x)^.str name b) ?_
 apply io h (λfin d z=>?_) λ_ _ z=>z.elim
 rcases fin with (_|_|_|_) |_<;>first|exact z|exact z.elim
def MZ(X:K.In s.heap)(I:InstAt s.heap x ox C od)(b:findObj K C od name\(.value v))(h:Q (.done^.ret v) s):
  e_ (ei prog w) A (Builtin.«object.__getattribute__» #[[.ref x, .str name a],[]]) Q E s:=by
 let#[c,g,d,t,os]:=s;have e:=I.type (M:=ei prog w);have f:=looks_find (M:=ei prog w) X I b;delta Builtin.«object.__getattribute__»;apply a_^ir^a_^ir^a_^e.at^a_^f.at ?_;show ir h
def Qr{P:b_->c_->Prop}(X:K.In s.heap)(I:InstAt s.heap x ox C od)(e:findObj K C od name\(.bind g a))
  (h:e_ (ei prog w) A (call g [a, .ref x, .ref C]) P E s):
  e_ (ei prog w) A (Builtin.«object.__getattribute__» #[[.ref x, .str name c],[]]) (λfin b=>match fin with| .done^.ret v=>P v b|_=>False) E s:=by
 let#[f,k,d,t,os]:=s;have i:=I.type (M:=ei prog w);have j:=looks_find (M:=ei prog w) X I e;delta Builtin.«object.__getattribute__»;apply a_^ir^a_^ir^a_^i.at^a_^j.at ?_;show a_^IR (io h (λv b z=>ir z) λ_ _ z=>z)
def Ki(X:K.In s.heap)(I:InstAt s.heap x ox C od)(c:kj K C)(b:findObj K C od name\(.value v))(d:handedIn v=L)(h:Q v {s with toks:=s.toks+1}):
  e_ (ei prog w) A (getAttr (.ref x) name a) Q E s:=by
 unfold getAttr;apply a_^wpAny_mkText ?_;apply Fi (s:={s with toks:=s.toks+1}) X I c^MZ (s:={s with toks:=s.toks+1}) X I b ?_
 change e_ _ _ (handedOut v) _ _ _;rw[handedOut_of d];show ir h
def Kj(X:K.In s.heap)(I:InstAt s.heap x ox C od)(c:kj K C)(b:specialIn K (.builtin "object.__class__") "__get__"\(J^.builtin "getset_descriptor.__get__"))(htk:takesIn K^.builtin "object.__class__"\L)
  (h:Q (J^.ref C) {s with toks:=s.toks+1}):e_ (ei prog w) A (getAttr? (.ref x) "__class__") Q E s:=by
 have d:findObj K C od "__class__"\(.bind (.builtin "getset_descriptor.__get__")^.builtin "object.__class__"):=by
  let#[f,e,g]:=afU c.hd;unfold findObj;rw[e,aeK,c.cl,aeK];dsimp only;rw[b,aeK];dsimp only;rw[htk];rfl
 unfold getAttr? getAttrBy?;apply a_^wpAny_mkText^a_^aeh ?_
 have key:e_ (ei prog w) A.in1 (Builtin.«object.__getattribute__» #[[.ref x, .str "__class__" s.toks],[]]) (λfin a=>match fin with| .done^.ret v=>v= .ref C/\a={s with toks:=s.toks+1} |_=>False) (λ_ _=>False) {s with toks:=s.toks+1}:=by
  apply Qr (P:=λv a=>v= .ref C/\a={s with toks:=s.toks+1}) (s:={s with toks:=s.toks+1}) X I d^ad4^class_get (s:={s with toks:=s.toks+1}) (ox:=ox) (od:=od) X I c.ob ?_
  show#[Y,Y]
 apply Fi (s:={s with toks:=s.toks+1}) X I c (io key (λfin a z=>?_) λ_ _ z=>z.elim)
 rcases fin with (_|_|_|_) |_<;>first|exact z.elim|skip
 let#[rfl,rfl]:=z;show ir^ir h
def EG(c:kj K C)(i:specialIn K (.builtin "object.__class__") "__get__"\(J^.builtin "getset_descriptor.__get__"))(htk:takesIn K^.builtin "object.__class__"\L):
  KitX K (.ref x) (.ref C) (λh=>InstAt h x ox C od) where
 ty:=λ_ _ _ I=>I.type
 it:=λ_ _ X _=>by
  let#[b,a,s]:=afU c.hd;unfold clsIn at a
  split at a
  .rename_i j l d m f
   intro r t u v k q;unfold isType loadHead;show a_^afg (k _ _^X _ _ f)^ir q
  .cases a
 ne:=λh o y p n B X g=>by
  let#[b,a,s]:=afU c.hd;apply zM.mpr λq=>?_;have e:C=o:=Value.ref.inj^adR.mp q;subst e;unfold clsIn at a
  split at a
  .rename_i j l d m f
   have z:=(X _ _ f).symm.trans g;cases z
  .cases a
 ca:=λX I k=>Kj X I c i htk k
end
def Mj(self:b_)(e:rY l=L):refuseLoop self "__setattr__" l=pure ⟨⟩:=by
 induction l with
 |nil=>cases e
 |cons v r b=>
  rw[rY] at e;cases a:isRef v with
  |true=>
   rw[mo a] at e;cases v with
   |ref c=>rw[refuseLoop_ref];show b e
   |_=>cases a
  |false=>
   rw[tz^by rw[a];show c9] at e
   rw[Bv e];show F.store_ValueError.passes self
abbrev di(C t:Ad)(d:Option Ad):Obj:={cls:= .ref C,dict:=d,data:= .fields [.ref t, .none, .none, .none, .bool At, .none].toArray}
section
variable {K : Frag}
theorem CQ(X:K.In s.heap)(I:InstAt s.heap x ox C od)(c:kj K C)(l:takerIn K C name\V)
  (h:∀b,e_ (ei prog w) A.in1 (storeInOwnDict (.ref x) (.ref C) (.str name i) name v b)
   (λfin j=>match fin with| .done f=>R (.ok f) j| .again k=>k.quiet=L/\g6 (ei prog w) A k R j) (λe j=>R (.error e) j) s):
  g6 (ei prog w) A (.call (.builtin "object.__setattr__") #[[.ref x, .str name i,v],[]]) R s:=by
 rfl';have g:=PySem.F.store_object;let#[n,o,p]:=afU c.ov;have sub:Looks (ei prog w) s.heap (isInstance (.ref x)^.type "object") true:=I.type.andThen^looks_mroIn X c.ob;let#[d,r,t]:=af5.mp l;ac_rfl;apply aeg g.slot.plain g.entry^@check_slot (ei prog w) _ _ s "object.__setattr__" "object" "__setattr__" (.ref x) [.str name i,v] [] _ g.kind g.split sub (g.args (.ref x) (.str name i) v) ?_;have u:Looks (ei prog w) s.heap (mroOf^.ref C) n.mro:=(looks_clsIn X o).andThen .now
 have y:Looks (ei prog w) s.heap (storeTaker? d) none:=by
  cases d with
  |none=>show .now
  |some a=>
   let#[b,B,q]:=Fm.mp t;apply(looks_takesIn X B).andThen ?_;cases b with
   |true=>cases q
   |false=>show .now
 rw[osa_eq,refuse_eq];apply a_^a_^I.type.here^a_^u.here ?_;rw[Mj _ p];apply ir^a_^I.type.here^a_^(looks_findIn X r).here^a_^y.here ?_;show h _
def aaX(X:K.In s.heap)(c:kj K C)(j:s.heap.get? x\(di C t^J d))(k:s.heap.Ns1 d f)(ne:d≠x)(m:takerIn K C name\V)
  (hw:cE f i) (L':i.length<=sizeLine)
  (h:∀e,e.Ns1 d (λy=>if y=name then J v else f y)->Heap.SameBut d s.heap e->Q ⟨⟩ {s with heap:=e,toks:=s.toks+2}):
  e_ (ei prog w) A (setAttr (.ref x) name v) Q E s:=by
 rfl';let#[o,p,g]:=uC k;have J':InstAt s.heap x (di C t^J d) C^J o:=#[j,Y,Y,p];let#[M,q,r]:=afU c.hd;ac_rfl;apply set_plain X J' c.sa (CQ (s:={s with toks:=s.toks+1}) X J' c m λb=>?_)
 apply a_^ir^a_^a_^afg j^a_^Looks.here (s:={s with toks:=s.toks+1}) (looks_clsIn X q) ?_
 rw[r];apply ir (a:=J d)^a_^ir^a_ ?_;apply agt (s:={s with toks:=s.toks+1}) k λe l u=>?_
 rfl';let#[N,B,F,G,H,I]:=l.count^PySem.Within.cons name v hw;ac_rfl;apply a_^afN G (by rw[H];show afO^jf I^by rw[cF];lia) ?_
 show ir^h _ l u
def aaW(X:K.In s.heap)(c:kj K C)(i:s.heap.get? x\(di C t V))(u:takerIn K C name\V)
  (h:∀f,f.Ns1 s.heap.objs.size (λy=>if y=name then J v else V)->f.get? x\(di C t^J s.heap.objs.size)->(∀b o,b≠x->s.heap.get? b\o->f.get? b\o)->Q ⟨⟩ {s with heap:=f,toks:=s.toks+2}):
  e_ (ei prog w) A (setAttr (.ref x) name v) Q E s:=by
 have J':InstAt s.heap x (di C t V) C none:=#[i,Y,Y,trivial];let#[P,B,F]:=afU c.hd;apply set_plain X J' c.sa (CQ (s:={s with toks:=s.toks+1}) X J' c u λb=>?_)
 let#[a,g,d,l,os]:=s;dsimp only at*;have m:(a.push {cls:= .type "dict",data:= .dict #[]}).get? x\(di C t V):=AC _ i;have n:x≠a.objs.size:=bP^Da i;apply a_^ir^a_^a_^afg i^a_^Looks.here (s:=#[a,g,d,l+1,os]) (looks_clsIn X B) ?_;rw[F];apply a_^wpAny_alloc' ?_;apply a_^wpAny_update' m ?_;apply ir ?_
 have j:((a.push {cls:= .type "dict",data:= .dict #[]}).update x λo=>{cls:=o.cls,dict:=J a.objs.size,data:=o.data,slots:=o.slots}).get? a.objs.size\{cls:= .type "dict",data:= .dict #[]}:=
  (ad8 _ _ _ _ n.symm).trans^Heap.get?_push_at rfl rfl
 have vV:((a.push {cls:= .type "dict",data:= .dict #[]}).update x λo=>{cls:=o.cls,dict:=J a.objs.size,data:=o.data,slots:=o.slots}).Ns a.objs.size (λ_=>V):=
  #[_, #[],_,j,Y,λe G=>absurd G^by simp,λ_=>rfl]
 change e_ _ _ (storeInDict a.objs.size (.str name l) name v) _ _ _;unfold storeInDict newKeyGuard;apply a_^ir^a_ (agt (Heap.Ns1.of_empty vV) λf p q=>?_);rfl';let#[T,I,L',M,N,O]:=p.count^Within.cons name v Within.nil;ac_rfl;apply a_^afN M (by rw[N];show afO^jf O^by rw[cF,lK,aec];lia) ?_
 apply ir (h f p ?_ λb U k r=>?_)
 .show(q.2 x n).trans^P3 _ m rfl
 .show(q.2 b^bP^Da r).trans^(ad8 _ _ _ _ k).trans^AC _ r
end
section
variable {os : OsState}
variable {sub : !Value}
def FC(F:lS B newId lY OD)(aae:(Value.ref C::bm).contains^.type B=L){rest:!b_}{Q:Unit->c_->Prop}(hC:h.get? C\(jc nm q C N bs bm gW sn sub ab col dd k0 k1 k2 k3 k5 newId))
  (hq:Q ⟨⟩ #[h,g,d,t,os]):e_ M A (lc newId #[.ref C::rest,[]]) Q E #[h,g,d,t,os]:=by
 have adp:=F.noStar;simp only[lc,F.newKind,F.newSplit,F.newRow]
 repeat (first|refine h_ hC ?_| (refine il hC ?_;rw[aae]) |refine wpAny_staticBase_exc hC ?_|refine wpAny_madeBy_exc hC ?_|simp only[bne_self_eq_false,fA,if_false]|wp_step)
 show hq
def Dr(F:lS B newId lY OD)(DD:(Value.ref C::bm).contains^.type B=L){e:Ad}{oe:Obj}{rest:!b_}{Q:Unit->c_->Prop}
  (hC:h.get? C\(jc nm q C N bs bm gW sn sub ab col dd k0 k1 k2 k3 k5 newId)) (he:h.get? e\oe) (IJ:oe.cls= .ref C) (hq:Q ⟨⟩ #[h,g,d,t,os]):
  e_ M A (lc lY #[.ref e::rest,[]]) Q E #[h,g,d,t,os]:=by
 have adk:=F.noStar;simp only[lc,F.initKind,F.initSplit,F.initRow]
 repeat (first| (with_reducible refine h_ he ?_;rw[IJ]) |with_reducible refine h_ hC ?_| (with_reducible refine il hC ?_;rw[DD]) |wp_step)
 apply wpAny_onRaise ?_
 rw[show ∀(a b:String)(n:Nat),Bind.check #[.positional,"*",B, .self,[#["args", .varPos,At]]] a b n^List.map (λx=>x.fst) ({pos:=Value.ref e::rest}:Args).kw=pure ⟨⟩ from
  λa b n=>check_star_args _ _ _ _ _ _]
 show gm hq
end
section
variable {os : OsState}
variable {sub : !Value}
def KZ(F:lS B newId lY OD)(DD:(Value.ref C::bm).contains^.type B=L)(hcA:(Value.ref C::bm).contains^.type "AttributeError"=At)(hcN:(Value.ref C::bm).contains^.type "NameError"=At)
  {rest:!b_} (hC:h.get? C\(jc nm q C N bs bm gW sn sub ab col dd k0 k1 k2 k3 k5 newId))
  (hq:R (.ok^.ret^.ref (h.objs.size+1)) #[(h.push {cls:= .type "tuple",data:= .seq rest.toArray}).push^di C h.objs.size V,g,d,t,os]) (Ls:rest.length<=sizeLine):
  g6 (ei prog w) A (.builtin newId #[.ref C::rest,[]]) R #[h,g,d,t,os]:=by
 have adm:=F.ends;apply codeAny_builtinAt F.entry ?_;unfold Builtin.«BaseException.__new__»;apply PySem.wpAt_bind ?_;change PySem.wpAt _ _ _ (stack>>=_) _ _ _;apply PySem.wpAt_bind (PySem.wpAt_stack λp below=>PySem.wpAt_of_wpAny ?_)
 wp_walk
 apply PySem.wpAt_of_wpAny ?_;rw[F.owner]
 repeat (first|with_reducible refine wpAny_madeHere_exc F.canon hC ?_|with_reducible refine h_ hC ?_| (with_reducible refine il hC ?_;first|rw[DD]|rw[hcA]|rw[hcN]) |wp_step)
 change R _ _;rw[Heap.size_push];show hq
def IA(F:lS B newId lY OD)(DD:(Value.ref C::bm).contains^.type B=L){e t0:Ad}{od:Option Ad}{rest:!b_}(hC:h.get? C\(jc nm q C N bs bm gW sn sub ab col dd k0 k1 k2 k3 k5 newId))(he:h.get? e\(di C t0 od))
  (hq:∀h' t',h'.get? e\(di C t' od)->(∀b o,b≠e->h.get? b\o->h'.get? b\o)->R (.ok^.ret .none) #[h',g,d,t,os]) (Ls:rest.length<=sizeLine):
  g6 (ei prog w) A (.call (.builtin lY) #[.ref e::rest,[]]) R #[h,g,d,t,os]:=by
 apply codeAny_call_builtin F.init.plain F.initEntry^Dr F DD hC he rfl ?_
 wp_walk
 have jU:e≠h.objs.size:=bP^Heap.lt_size he;apply hq _ h.objs.size ?_ λb o hb ho=>?_
 .rw[Heap.get?_update_self _ (Heap.get?_push_of_some _ he) rfl]
  rfl
 .rw[Heap.get?_update_other _ _^Ne.symm hb]
  show Heap.get?_push_of_some _ ho
def Kk(F:lS B newId lY OD)(DD:(Value.ref C::bm).contains^.type B=L)(hcA:(Value.ref C::bm).contains^.type "AttributeError"=At)(hcN:(Value.ref C::bm).contains^.type "NameError"=At)
  {rest:!b_} {init:b_} (hC:h.get? C\(jc nm q C N bs bm gW sn sub ab col dd k0 k1 k2 k3 k5 newId)) (call:Looks (ei prog w) h (specialOf (.ref C) "__call__")^J^.builtin "type.__call__") (typ:Looks (ei prog w) h (isInstance (.ref C)^.type "type") L)
  (hi:Looks (ei prog w) h (la (.ref C) "__init__")^J init) (hb:∀self,Looks (ei prog w) h (bindSpecial init self) (init,[self])) (Ls:rest.length<=sizeLine)
  (hq:g6 (ei prog w) (A.under^.builtin "type.__call__" #[.ref C::rest,[]]) (.call init #[.ref (h.objs.size+1)::rest,[]]) (InitBack (h.objs.size+1) R) #[(h.push {cls:= .type "tuple",data:= .seq rest.toArray}).push^di C h.objs.size V,g,d,t,os]):
  g6 (ei prog w) A (.call (.ref C) #[rest,[]]) R #[h,g,d,t,os]:=by
 apply codeAny_of_tree ?_;change e_ _ _ (callAny (.ref C) _) _ _ _;apply nd_load hC ?_;change e_ _ _ (callAny.viaDunder (.ref C) _) _ _ _;unfold callAny.viaDunder;apply a_^call.at ?_;dsimp only;rw[tc_bind];apply a_^gm^a_^gm ?_;apply gm (a:=Fin.again^.call (.builtin "type.__call__") #[.ref C::rest,[]])^And.intro rfl ?_;apply codeAny_call_builtin_at (Code.quiet_builtin _^by nofun) entry_typeCall^check_slot tc_kind tc_split typ (tc_args _ _ _) ?_
 have hm:Looks (ei prog w) h (mroOf^.ref C) (.ref C::bm):=((Looks.ld (part:=V) hC).andThen .now).andThen .now
 have made:Looks (ei prog w) h (Bind.madeBy^.ref C)^J newId:=by
  intro A Q E s k q;let#[h2,g2,d2,t2,os2]:=s;show wpAny_madeBy_exc (k _ _ hC) q
 unfold Builtin.«type.__call__»
 repeat (first|simp only[List.isEmpty_cons,fA,if_false]|with_reducible refine k_ ?_|lk)
 apply codeAny_call_builtin_code (Code.quiet_builtin _ F.quiet)^FC F DD hC ?_;apply KZ F DD hcA hcN hC ?_ Ls;have k:∀b o,h.get? b\o->((h.push {cls:= .type "tuple",data:= .seq rest.toArray}).push^di C h.objs.size V).get? b\o:=λb o e=>Heap.get?_push_of_some _^Heap.get?_push_of_some _ e;have hx:((h.push {cls:= .type "tuple",data:= .seq rest.toArray}).push^di C h.objs.size V).get? (h.objs.size+1)\(di C h.objs.size V):=by heap_get
 have t1:Looks (ei prog w) ((h.push {cls:= .type "tuple",data:= .seq rest.toArray}).push^di C h.objs.size V) (typeOf^.ref (h.objs.size+1))^.ref C:=(Looks.ld hx).andThen .now
 have s0:Looks (ei prog w) h (isSubtype (.ref C)^.ref C) true:=by
  intro A Q E s k q;let#[h2,g2,d2,t2,os2]:=s;apply il (k _ _ hC) ?_;rw[show(Value.ref C::bm).contains^.ref C=L by simp]
  show q
 have s1:=s0.keeps k;have i1:=hi.keeps k;have b1:=(hb^.ref (h.objs.size+1)).keeps k;unfold isInstance callSpecial? specialOf
 repeat (first|with_reducible refine k_ ?_|lk)
 apply lO hq λr s' z=>?_
 rcases r with e| (v|_|_|_)<;>first|exact z|exact z.elim|skip
 let#[rfl,z]:=z;show gm^gm z
end
def xD(C a:Ad)(d:Option Ad):HO:= .ext λh=>∃t,h.get? a\(di C t d)
def Dj(a:Ad)(fs:!(fC×V')):HO:= .ext λh=>fs.length<=1000/\∃mA,h.Ns1 a mA/\(∀f,lT (fs.lookup f)^mA f)/\cE mA^fs.map (·.1)
section
def MY{t:Ad}(e:h.get? a\(di C t d)):bR P w H h a^xD C a d:=#[#[t,e],#[_,e],λh1 h2 #[t,p] k=>#[t,k _ p]]
def UZ{mA:fC->Option b_}(hl:fs.length<=1000)(n:h.Ns1 a mA)(r:∀f,lT (fs.lookup f)^mA f)(q:cE mA^fs.map (·.1)):bR P w H h a^Dj a fs:=
 #[#[hl,mA,n,r,q],let #[o,_,_,e,_]:=n;#[o,e],λh1 h2 #[hl,mA,#[o,es,ep,e,c],r,q] k=>#[hl,mA,#[o,es,ep,k _ e,c],r,q]]
def Ax(hok:iB P w H h)(e:H a\(xD C a d)):∃t,h.get? a\(di C t d):=(hok a _ e).1
def Hn(hok:iB P w H h)(e:H a\(Dj a fs)):fs.length<=1000/\∃mA,h.Ns1 a mA/\(∀f,lT (fs.lookup f)^mA f)/\cE mA^fs.map (·.1):=(hok a _ e).1
end
section
theorem Inv.XU{a dx:Ad}{o1 o2:HO}{h':Heap}{t':Nat}(I:Inv X pins σ H s)(mu:Kw^H a)(vS:s.heap.objs.size<=dx)(k:∀b u,b≠a->s.heap.get? b\u->h'.get? b\u)(IL:∃u,h'.get? a\u)
  (acr:bR X.prog X.w (upd (upd H a o1) dx o2) h' a o1) (acs:bR X.prog X.w (upd (upd H a o1) dx o2) h' dx o2):Inv X pins σ (upd (upd H a o1) dx o2) {s with heap:=h',toks:=t'}:=by
 have nd:H dx=none:=I.hok.fresh vS
 obtain⟨oa,ha⟩:∃o,H a\o:=by
  cases q:H a with
  |none=>rw[q] at mu;show mu.elim
  |some o=>show#[o,Y]
 have WB:a≠dx:=av ha nd;have Ju:∀c y,H c\(.own y)->c≠a:=λc y r z=>by subst z;rw[r] at mu;show mu
 have NU:∀c xs,H c\(.tup xs)->c≠a:=λc xs r z=>by subst z;rw[r] at mu;show mu
 have acu:∀c o u,H c\(.tX o u)->c≠a:=λc o u r z=>by subst z;rw[r] at mu;show mu
 have acy:∀c ps,H c\(.J7 ps)->c≠a:=λc ps r z=>by subst z;rw[r] at mu;show mu
 have up:∀b u,b≠a->H b\u->upd (upd H a o1) dx o2 b\u:=λb u hb e=>by rw[ao^av e nd,ao hb];show e
 apply I.un (h':=h') (t':=t') #[λb o e n _ _=>?_,λb o e n _ _=>#[o.slots,?_],λb o e n _=>?_,λb o e _=>?_,λb xs e=>up b _ (NU b xs e) e,λb o u e=>up b _ (acu b o u e) e,λb ps e=>#[#[],by rw[up b _ (acy b ps e) e];simp]] λb u e=>?_
 .show k b o (λz=>by rw[z,ha] at n;cases n) e
 .show k b o (λz=>by rw[z,ha] at n;cases n) e
 .rw[ao^λz=>by rw[z] at e;show absurd (Heap.lt_size e)^Nat.not_lt.mpr vS,ao^λz=>by rw[z,ha] at n;cases n];show n
 .by_cases z:b=a
  .rw[z];show IL
  .show#[o,k b o z e]
 .by_cases z:b=dx
  .subst z;rw[ah] at e;cases e;show acs
  .rw[ao z] at e
   by_cases z2:b=a
   .subst z2;rw[ah] at e;cases e;show acr
   .rw[ao z2] at e
    apply(I.hok b u e).pG (λc v hc q=>k c v ?_ q) (λc q=>up c _ (Ju c b q) q) λc xs q=>up c _ (NU c xs q) q
    rcases hc with y|y
    .rw[y];show z2
    .show Ju c b y
def X9(H:Hp)(C a:Ad)(f:fC)(y:V')(fs:!(fC×V'))(Q:Hp->Prop):Prop:=
 (fs= []/\H a\(xD C a V)/\∀dx,H dx=V->Q^upd (upd H a^xD C a^J dx) dx^Dj dx [(f,y)])\/
 (∃dx,H a\(xD C a^J dx)/\H dx\(Dj dx fs)/\fs.length<1000/\Q^upd H dx^Dj dx^jZ f y fs)
def Hs{y:V'}{u:b_}{Q:Unit->c_->Prop}{R:Hp->Prop}(I:Inv X pins σ H s)(c:kj X.K C)(n:gG X.K C f)(ry:RelV y u)(p:X9 H C a f y fs R)
  (h:∀H' s',Inv X pins σ H' s'->R H'->Q ⟨⟩ s'):e_ (ei X.prog X.w) A (setAttr (.ref a) f u) Q E s:=by
 rcases p with ⟨rfl,e,q⟩ | ⟨dx,e,ed,hl,q⟩
 .obtain⟨t,et⟩:=Ax I.hok e
  apply aaW I.fi c et n.MH λh' hn hx k=>?_;apply h _ _ (I.XU (by rw[e];show True.intro) (bu _) k #[_,hx] (MY hx) ?_)^q s.heap.objs.size I.fresh
  apply UZ (by simp) hn (λg=>?_)^λg hg=>?_
  .by_cases z:g=f
   .rw[if_pos z,z];simp only[bj,beq_self_eq_true];show ry
   .rw[if_neg z]
    have hb:(g==f)=false:=beq_eq_false_iff_ne.mpr z;simp only[bj,hb];show True.intro
  .by_cases z:g=f
   .rw[z];simp
   .rw[if_neg z] at hg;show absurd rfl hg
 .obtain⟨t,et⟩:=Ax I.hok e
  let#[_,mA,hn,r,wi]:=Hn I.hok ed
  have ne:dx≠a:=by
   rintro rfl;let#[o,es,ep,eo,hd,_]:=hn;rw[et] at eo;cases eo;cases hd
  have hz:(fs.map (·.1)).length<=sizeLine:=by rw[aG,sizeLine_eq];lia
  apply aaX I.fi c et hn ne n.MH wi hz λh' F5 sb=>h _ _ (I.write (x:=dx) (e:=dx) (by rw[ed];show True.intro) (.inl rfl) (λb q hb z=>(sb.2 b hb).trans z) (let #[o,_,_,e',_]:=F5;#[o,e']) ?_) q
  apply UZ (by have:=oq f y fs;lia) F5 (λg=>?_)^λg hg=>?_
  .rw[ou]
   by_cases q:g=f
   .rw[if_pos q,if_pos q];show ry
   .rw[if_neg q,if_neg q];show r g
  .by_cases q:g=f
   .rw[q];show(k9 f y fs).1
   .apply(k9 f y fs).2 g (wi g λz=>hg ?_)
    change(if g=f then J u else mA g)=V;rw[if_neg q];show z
end
def aaH(K:ac)(ta tv:TE)(f:Str):TS:=λD σ H=>tv σ H λy H1=>ta σ H1 λx H2=>∃a C fs,x= .ref a/\kj K C/\gG K C f/\X9 H2 C a f y fs λH3=>D.nx σ H3
section
variable {X:Cx} {o e value:Expr} {f:Str} {pos pos' Oh:Pos} {ta tv:TE}
def JF(ha:PE X o ta)(hv:PE X value tv)(hs:hB value (J^.Attribute o f pos') pos.line X.env=pure At):PS X (.Assign [.Attribute o f pos'] value pos)^aaH X.K ta tv f:=by
 intro pins s σ H D I h;apply plainObj_wpAny_Assign_Attribute (thn (hv pins s σ H _ I h) λu s1 hH=>?_) hs;let#[y,H1,I1,ry,q]:=hH;apply thn (ha pins s1 σ H1 _ I1 q) λov s2 hH=>?_;let#[x,H2,I2,rx,a,C,fs,ex,c,n,p]:=hH;subst ex;obtain rfl:ov=Value.ref a:=rx;show Hs I2 c n ry p λH3 s3 I3 q=>#[σ,_,I3,q]
inductive HD:V'->b_->Prop where
 |own (D:Ad):HD (.ref D)^.ref D
 |blt (n:String):HD (.ty n)^.type n
end
structure oY (K:ac) (C:Ad):Prop where
 obj:∃nm q N bs bm gW sn sub ab col dd k0 k1 k2 k3 k5,K.lookup C\(jc nm q C N bs bm gW sn sub ab col dd k0 k1 k2 k3 k5 "ValueError.__new__")/\(Value.ref C::bm).contains^.type "ValueError"=L/\
  (Value.ref C::bm).contains^.type "AttributeError"=At/\(Value.ref C::bm).contains^.type "NameError"=At
structure Vh (K:ac) (C:Ad) (init:b_):Prop extends oY K C where
 call:bv K (.ref C) "__call__"\(J^.builtin "type.__call__")
 typ:d6 K (.ref C)^.type "type"\L
 ini:ad K (.ref C) "__init__"\(J init)
 kp:am K^.ref C=L
def XT{H:Hp}{a:Ad}{o:HO}(e:H a\o):upd H a o=H:=by
 funext b
 by_cases h:b=a
 .rw[h,ah,e]
 .rw[ao h]
def XI(C:Ad)(sp:Sp)(E:XK)(t:TA):TE:=λσ H Q=>t σ H λvs H1=>∀e,H1 e=V->sp (.ref e::vs) (upd H1 e^xD C e V) (λv H2=>v= .aT/\Q (.ref e) H2) E
def XH(K:ac)(t:TA):TE:=λσ H Q=>t σ H λvs H1=>∃a C d y,vs= [.ref a,y]/\H1 a\(xD C a d)/\oY K C/\Q .aT H1
section
theorem Mr{pins:!(Ad×Obj)}{σ:St}{H:Hp}{s:c_}{Q:VK}{us:!b_}{vs:!V'}(M:Vh X.K C^.ref f)(hf:cb X.K^.ref f=L)(F:FnOk X.prog X.w X.K X.mg X.base CX k f fd ps sp)(hr:cw (k+1) X.A)(hb:Binds X.K fd ps [])
  (Sv:ps.length<=1000) (hx:Passes CX X E) (I:Inv X pins σ H s) (r:Vals vs us)
  (h:∀e,H e=V->sp (.ref e::vs) (upd H e^xD C e V) (λv H2=>v= .aT/\Q (.ref e) H2) E):
  e_ (ei X.prog X.w) X.A (call (.ref C) us) (EP X pins σ Q) X.xe s:=by
 let#[nm,q,N,bs,bm,gW,sn,sub,ab,col,dd,k0,k1,k2,k3,k5,hC,cB,cA,cN]:=M.obj;have hq:=h (s.heap.objs.size+1)^I.hok.fresh^pM _
 have hx1:((s.heap.push {cls:= .type "tuple",data:= .seq us.toArray}).push^di C s.heap.objs.size V).get? (s.heap.objs.size+1)\(di C s.heap.objs.size V):=by
  have:=Heap.get?_push_size (s.heap.push {cls:= .type "tuple",data:= .seq us.toArray}) (o:=di C s.heap.objs.size V) rfl
  rwa [Heap.size_push] at this
 have I2:Inv X pins σ (upd H (s.heap.objs.size+1)^xD C (s.heap.objs.size+1) V) {s with heap:=(s.heap.push {cls:= .type "tuple",data:= .seq us.toArray}).push^di C s.heap.objs.size V}:=
  I.laid (t':=s.toks) (λb u q=>Heap.get?_push_of_some _^Heap.get?_push_of_some _ q) (pM _)^MY hx1
 have r2:Vals (V'.ref (s.heap.objs.size+1)::vs) (Value.ref (s.heap.objs.size+1)::us):= .cons rfl r
 have hl:((Value.ref (s.heap.objs.size+1)::us)++ []).length=ps.length:=by
  have e:=r2.length;rw[F.len _ _ _ _ hq] at e;rw[fB];show e.symm
 have hlen:us.length<=sizeLine:=by
  rw[fB,cF] at hl;show rz^bE ()
 have Lc:=hb _ (Value.ref (s.heap.objs.size+1)::us) I2.fi hl;rw[fB] at Lc;let#[hh,g,d,tk,os]:=s
 apply k_^Kk (init:= .ref f) PySem.F.excBase_ValueError cB cA cN (I.fi _ _ hC) (PySem.W.looks_specialIn I.fi M.call) (PySem.W.looks_instIn I.fi M.typ) (PySem.W.looks_findIn I.fi M.ini) (λself=>PySem.W.bind_fn I.fi self^beq_iff_eq.mp hf) hlen
  (lO (F.run _ X.stack _ _ #[Value.ref (hh.objs.size+1)::us,[]] (Value.ref (hh.objs.size+1)::us) _ _ E (hr.make C us []) (I2.Nw.make C us []) Lc r2 hq) λr s' vW=>?_)
 cases r with
 |error e=>show hx pins σ _ _ e s' I2 vW
 |ok fl=>
  cases fl with
  |ret u=>
   apply af λG0 k0=>?_;let#[v,H',I3,rv,ev,q3]:=I2.after vW;subst ev;apply k0 ?_;show#[rv,#[V'.ref (hh.objs.size+1),H',I3,Y,q3]]
  |next=>show False.elim vW
  |brk=>show False.elim vW
  |cont=>show False.elim vW
def PC(M:Vh X.K C^.ref f)(hf:cb X.K^.ref f=L)(F:FnOk X.prog X.w X.K X.mg X.base CX k f fd ps sp)(hr:cw (k+1) X.A)(hg:Gl X x)(hm:X.mg x\(.ref C))(hb:Binds X.K fd ps [])(Sv:ps.length<=1000)(hx:Passes CX X E)
  (ha:PA X (e::es) t) (fV:eT x<|>zm) (he:eI e es X.env<|>zn) (cC:eB pos es X.env<|>zn):
  PE X (.Call (.Name x p) (e::es) [] pos)^XI C sp E t:=by
 intro pins s σ H Q I h;apply wpAny_Call_Name_kw^lb I hg hm ?_ fV;apply PySem.W.callWith_K (h₀:=X.base) I.ok.mod.kin M.kp (thn (ha pos pins s σ H _ I h) λus s1 hH=>?_) he cC;let#[vs,H1,I1,r,q]:=hH;apply #[I1.fi,?_];show Mr M hf F hr hb Sv hx I1 r q
def EY{C0:Ad}{pl:lD Bool}(hg:Gl X x)(hm:X.mg x\(.ref C0))(sg:bv X.K (.ref C0) "__getattribute__"\(J^.builtin "type.__getattribute__"))(rd:dS X.K C0^.type "type"=L)
  (fc:d3 X.K (.ref C0) (.type "type") "__init__"\(.val^.builtin "ValueError.__init__")) (ha:PA X (e::es) t) (fV:eT x<|>zm)
  (he:eI e es X.env<|>zn) (cC:eB pos es X.env<|>zn)
  (ht:gj (.Call (.Attribute (.Name x p) "__init__" apos) (e::es) [] pos) X.env=(do
   let ov <-gj (.Name x p) X.env
   jo apos.atName
   let (f,first) <-im [ov] (l_ ov "__init__" pl)
   callWith pos f first (gM pos^d_ (e::es) X.env)^jB pos^ip [] X.env)<|>zn):
  PE X (.Call (.Attribute (.Name x p) "__init__" apos) (e::es) [] pos)^XH X.K t:=by
 intro pins s σ H Q I h;apply PySem.W.methodCall_KW (pl:=pl) (lb I hg hm ?_ fV) ht;apply PySem.W.method_cls I.fi sg^PySem.W.cls_value I.fi rd fc (by nofun) ?_
 apply PyProof.Rows.callWith_builtin1 (thn (ha pos pins _ σ H _ (I.tok _) h) λus s1 hH=>?_) he cC;let#[vs,H1,I1,r1,a,C,d,y,ev,ea,xo,q1]:=hH;apply af λG0 k0=>?_;subst ev;let#[u1,u2,rfl,ra,ry]:=r1.two;subst ra;let#[nm,q,N,bs,bm,gW,sn,sub,ab,col,dd,k0,k1,k2,k3,k5,hC,cB,cA,cN]:=xo.obj;let#[t0,et]:=Ax I1.hok ea;let#[hh,g,dr,tk,os]:=s1;apply k0 ?_;apply k_^IA PySem.F.excBase_ValueError cB (I1.fi _ _ hC) et (λh' t' hx2 kk=>?_)^by change 1<=sizeLine;decide
 have I2:=I1.write (x:=a) (e:=a) (o:=xD C a d) (t':=tk) (by rw[ea];show True.intro) (.inl rfl) (λb u hb q=>kk b u hb q) #[_,hx2]^MY hx2
 rw[XT ea] at I2;show#[.aT,H1,I2,Y,q1]
end
section
variable {X:Cx} {pins:!(Ad×Obj)} {σ:St} {H:Hp} {s:Shared} {A:Around} {E:Value->Shared->Prop} {Q:Value->Shared->Prop} {b:Bool}
end
def bG.of(f:Scope)(e:X.env.scope=f)(k:d.kind= .function)(a:∀x∈d.names,x.2= .local->d.names.lookup x.1\.local)(b:∀x∈d.names,x.2≠ .cell)
  (c:∀x∈d.names,x.2= .free->f.names.lookup x.1\.cell\/f.names.lookup x.1\.free):bG X d:=#[k,a,b,λx g h=>by rw[<-e] at c;show c x g h]
def Eu{K:ac}{a:Ad}{xs:!V'}{g:TG}{k:TS}{D:Ends}{b:St}{H:Hp}(c:Nat->St->Hp->Prop)(o:c 0 b H)(r:∀i b H,i<=xs.length->c i b H->aK K H a xs)
  (s:∀(i:Nat) x t b H,xs[i]?\x->H t=V->c i b H->g (.ref t) b (upd H t^.tup [.int (i:Int),x]) λf h=>k {D with nx:=c (i+1),ct:=c (i+1),bk:=D.nx} f h) (u:∀b H,c xs.length b H->D.nx b H):
  ∃W:Nat->Nat->St->Hp->Prop,(∃m,W 0 m b H)/\∀i m b H,W i m b H->
   ((Oz K a).stop i H/\D.nx b H)\/((Oz K a).go i H/\∃N:St->Hp->Prop,(∀j d,N j d->∃l,l<m/\W (i+1) l j d)/\∀x d,(Oz K a).yld i H x d->g x b d λf h=>k {D with nx:=N,ct:=N,bk:=D.nx} f h):=by
 apply#[λi m b H=>m=xs.length-i/\i<=xs.length/\c i b H,#[xs.length,by simp,eQ _,o],?_]
 rintro i m b H ⟨rfl,w,p⟩;have q:=r i b H w p
 by_cases n:i<xs.length
 .apply .inr #[#[xs,xs[i],q,by simp[n]],c (i+1),λj d A=>#[xs.length-(i+1),(),Y,n,A],λx d y=>?_]
  let#[t,v,rfl,B,rfl,C]:=y;show s i v t b H (C xs q) B p
 .have e:i=xs.length:=()
  subst e;show .inl #[#[xs,q,bu _],u b H p]
def EE{K:ac}(e:X.K=K<|>zn):AE X^JL K:=by rw[<-e];show bV
def Ji{K:ac}(e:X.K=K<|>zn):AE X^YX K:=by rw[<-e];show NM
def L7{K:ac}(e:X.K=K<|>zn):OpR X (gi .NotIn)^Xb K true:=by rw[<-e];show tj
structure bO (K:ac) (mg:Str->Option Value) (x:Str) (st:Stmt) (ps:!Str) where
 f:Ad
 fd:FuncData
 F:vB K x x st f fd
 b:Binds K fd ps []
 m:mg x\(.ref f)
def az(h:H p=V)(o:HO):aE H^upd H p o:=λb u q=>by rw[ao^av q h];show q
def small(h:n<=1000):n<=sizeLine:=rz^bE h
abbrev jS(C t:Ad)(a:Value)(d:Option Ad):Obj:={cls:= .ref C,dict:=d,data:= .fields [.ref t,a, .none, .none, .bool At, .none].toArray}
def mQ(C a:Ad)(d:Option Ad):HO:= .ext λh=>∃t b,h.get? a\(jS C t b d)
section
def Ru{tb:b_}(e:h.get? a\(jS C t tb d)):bR P w H h a^mQ C a d:=#[#[t,tb,e],#[_,e],λb c #[t,tb,p] k=>#[t,tb,k _ p]]
def NB(hok:iB P w H h)(e:H a\(mQ C a d)):∃t b,h.get? a\(jS C t b d):=(hok a _ e).1
end
def HH(h:Heap)(T:Ad):Prop:=∃o a,h.get? T\o/\o.data= .fields a/\a[3]?\.none
section
def BK 
  (P:A.frames\(env::outer)) (w:s.heap.FunFrames base (env::outer)) (R:env.frame\L')
  (y:s.heap.get? e\(jS C t j d))
  (h:∀k T,s.heap.objs.size<=T->k.get? e\(jS C t (.ref T) d)->HH k T->(∀b o,s.heap.get? b\o->b≠e->∃p,k.get? b\{o with slots:=p})->
   (∀b o,s.heap.get? b\o->b≠e->b∉vP (env::outer)->k.get? b\o)->Q ⟨⟩ {s with heap:=k}):
  e_ M A (do let a <-frameOf env;let pl <-entryPlaceOf L' O;let b <-EntryCells.newEntry g a .none (lp L') .none pl;setField (.ref e) 1 b) (λ_ S=>e_ M A (m_ (.ref e) V) Q E S) E s:=by
 have q:(jS C t j d).data= .fields [.ref t,j, .none, .none, .bool At, .none].toArray:=rfl;have U:1<([.ref t,j, .none, .none, .bool At, .none].toArray:Array b_).size:=by simp
 have r:e∉(env::outer).filterMap (·.frame):=λX=>by
  let#[_,o,m,Y']:=w.mem X;rw[y] at m;injection m with m;subst m;show Y' _ q
 apply a_ (wpAny_frameOf_fun P w R λc n=>?_);apply a_ (wpAny_entryPlaceOf λpl B=>?_);unfold EntryCells.newEntry newFields;apply a_^adN ?_^B.sizeOk5 _ _ _ _ _;have F:c.get? e\(jS C t j d):=(n.2.1 e r).trans y;have G:=AC (h:=c) {cls:= .type "traceback",dict:=V,data:= .fields ([g, .ref L', .none,lp L', .none]++(if pl.isEmpty then ak 6 Value.none else pl)).toArray} F;apply agq G q U ?_;have H:c.objs.size≠e:=j6^Da F;have I:=aen q (·.setIfInBounds 1^Value.ref c.objs.size);have J':=P3 (Obj.mapFields (·.setIfInBounds 1^Value.ref c.objs.size)) G^aeR I
 have N:=(Os (c.push {cls:= .type "traceback",dict:=V,data:= .fields ([g, .ref L', .none,lp L', .none]++(if pl.isEmpty then ak 6 Value.none else pl)).toArray})
  (Obj.mapFields (·.setIfInBounds 1^Value.ref c.objs.size))^Ne.symm H).trans^GM c rfl
 unfold m_;apply a_^adL J' I (x:= .ref c.objs.size) (by simp) ?_
 rw[mo (show(Value.ref c.objs.size !=Value.none)=L from by simp)]
 apply agq N rfl (by simp only[b8,dj,cF,lK]<;>lia) ?_
 have keep:∀b o,b≠e->c.get? b\o->
   (((c.push {cls:= .type "traceback",dict:=V,data:= .fields ([g, .ref L', .none,lp L', .none]++(if pl.isEmpty then ak 6 Value.none else pl)).toArray}).update e^Obj.mapFields (·.setIfInBounds 1^Value.ref c.objs.size)).update c.objs.size
     (Obj.mapFields (·.setIfInBounds 3 ((V:Option Ad).elim Value.none λf=>lp f)))).get? b\o:=λb o l i=>by
  have u:c.objs.size≠b:=j6^Da i;rw[Os _ _ u,Os _ _^Ne.symm l];show AC _ i
 refine h _ c.objs.size (by rw[n.1];exact bu _) ?_ #[_,_,P3 _ N^aeR^aen rfl _,aen rfl _,by first| (simp;done) | (rcases B with rfl| ⟨_,_,_,_,_,_,_,rfl⟩<;>simp)] (λb o i l=>?_)^λb o i l v=>?_
 .rw[Os _ _ H];show J'
 .obtain⟨p,Z⟩:=n.2.2 b o i
  show#[p,keep b _ l Z]
 .show keep b o l^(n.2.1 b v).trans i
def LG{base:Heap} 
  (G:A.frames\(env::outer)) (H:s.heap.FunFrames base (env::outer)) (r:env.frame\L')
  (u:s.heap.get? e\(jS C t g d)) (I:g= .none\/∃T,g= .ref T/\T≠e/\HH s.heap T)
  (h:∀c T,s.heap.objs.size<=T->c.get? e\(jS C t (.ref T) d)->HH c T->(∀b o,s.heap.get? b\o->b≠e->∃J',c.get? b\J')->(∀b o,s.heap.get? b\o->b≠e->g≠ .ref b->∃k,c.get? b\{o with slots:=k})->
   (∀b o,s.heap.get? b\o->b≠e->g≠ .ref b->b∉vP (env::outer)->c.get? b\o)->Q ⟨⟩ {s with heap:=c}):
  e_ M A (mN (.ref e) env) (λ_ N=>e_ M A (m_ (.ref e) V) Q E N) E s:=by
 have O:(jS C t g d).data= .fields [.ref t,g, .none, .none, .bool At, .none].toArray:=rfl;unfold mN;simp only[r];apply a_^adL (x:=g) u O rfl ?_
 rcases I with rfl| ⟨T,rfl,P,Y',R,l,m,i⟩
 .rw[tz ∅]
  show BK G H r u λc T p v i j y=>h c T p v i (λb o q n=>let #[k,z]:=j b o q n;#[_,z]) (λb o q n _=>j b o q n) λb o q n _=>y b o q n
 .rw[mo (show(Value.ref T !=Value.none)=L from by simp)]
  apply a_^adL l m i ?_;rw[tz (show ¬((Value.none==lp L')=L) from by simp[lp])]
  apply a_^agq l m (C1.mp i).1 ?_;have a:∀b,b≠T->(s.heap.update T^Obj.mapFields (·.setIfInBounds 3 Value.none)).get? b=s.heap.get? b:=λb f=>Os _ _^Ne.symm f
  have S:∀b o,s.heap.get? b\o->(∀U,o.data≠ .fields U)->b≠T:=λb o f B q=>by
   rw[q,l] at f;injection f with f;subst f;show B R m
  have F:=P3 (Obj.mapFields (·.setIfInBounds 3 Value.none)) l^aeR^aen m _;apply BK (s:={s with heap:=s.heap.update T^Obj.mapFields (·.setIfInBounds 3 Value.none)}) G (H.of_keeps λb o f B=>#[o,(a b^S b o f B).trans f,Y]) r ((a e^Ne.symm P).trans u) λc X p v i j y=>?_
  apply h c X (by rw[Heap.size_after_update] at p;show p) v i (λb o q n=>?_) (λb o q n z=>j b o ((a b λw=>z^by rw[w]).trans q) n) λb o q n z=>y b o ((a b λw=>z^by rw[w]).trans q) n
  by_cases z:b=T
  .subst z
   let#[k,z]:=j b _ F n;show#[_,z]
  .obtain⟨k,z⟩:=j b o ((a b z).trans q) n
   show#[_,z]
end
def aa7(X:Cx)(H:Hp)(h:Heap)(a:Value):Prop:=a= .none\/∃T,a= .ref T/\X.s₀.heap.objs.size<=T/\T≠X.env.locals/\(∀x c,X.env.cells.lookup x\c->c≠T)/\(∀p∈X.pn,p.1≠T)/\H T=V/\HH h T
def AB(X:Cx)(H:Hp)(s:Shared)(a:Ad):Prop:=∃C t b d,H a\(mQ C a d)/\s.heap.get? a\(jS C t b d)/\aa7 X H s.heap b
structure Fly (P:Program) (w:World) (outer:!Env) (H:Hp) (s:Shared) (a:Ad) (H':Hp) (s':Shared):Prop where
 os:s'.os=s.os
 bare:AllBare s'.gens
 un:Un (vP outer) [] H H' s.heap s'.heap
 hok:iB P w H' s'.heap
 obj:∃C t tb d,H' a\(mQ C a d)/\s'.heap.get? a\(jS C t tb d)/\(tb= .none\/∃T,tb= .ref T/\s.heap.objs.size<=T/\H' T=V/\HH s'.heap T)
def Az(P:Program)(w:World):sA:=λouter H s E e c=>∃a b,e= .ref a/\Fly P w outer H s a b c/\E e V b
section
def Inv.QH(I:Inv X pins σ H s):Inv X [] σ H s:=#[I.ok,I.os,I.bare,I.base,I.loc,I.cell,I.free,I.freeC,λp b=>I.pin p^by rw[fB] at b;show kq _ b,I.hok,I.len]
theorem VO(I:Inv X pins σ H s)(f:Fly X.prog X.w X.stack H s a H' s'):Inv X [] σ H' s'/\AB X H' s' a:=by
 rfl';let#[os,bare,un,hok,C,t,h,d,i,j,k]:=f;have l:Inv X pins σ H' s':=I.KD (ch:= []) os un hok bare^λb z=>absurd z^by simp
 ac_rfl;apply #[l.QH,C,t,h,d,i,j,k.imp id λhH=>?_];let#[T,m,e,n,q]:=hH;apply #[T,m,jf I.sz e,?_,λx c r z=>?_,λp u z=>?_,n,q]
 .show λz=>absurd (cZ I.lt e)^by rw[z];show kC _
 .obtain⟨v,o,y,_⟩:=I.cell x c r
  show absurd (cZ (Da y) e)^by rw[z];show kC _
 .have:=(I.pin p^kq _ u).1
  show absurd (cZ (Da this) e)^by rw[z];show kC _
theorem EK(r:X.stack=X.env::X.outer)(Y':X.env.frame\X.env.locals)(I:Inv X [] σ H s)(f:AB X H s a)
  (h:∀s',Inv X [] σ H s'->AB X H s' a->Q ⟨⟩ s'):
  e_ M X.A (mN (.ref a) X.env) (λ_ s'=>e_ M X.A (m_ (.ref a) V) Q E s') E s:=by
 let#[C,t,Z,d,j,h2,B]:=f;have fr:s.heap.FunFrames X.base (X.env::X.outer):=by rw[<-r];show I.stack
 apply LG (base:=X.base) (by rw[I.ok.frames,r]) fr Y' h2 (B.imp id λhH=>by
  let#[T,e1,_,_,_,_,P,e7]:=hH;show#[T,e1,(λz=>by rw[z,j] at P;cases P),e7]) λk T F G J' k0 k1 R=>?_
 have tr:∀b u,H b\u->b≠a->∀o,s.heap.get? b\o->k.get? b\o:=λb u i jU o l=>by
  apply R b o l jU (λz=>?_) λz=>?_
  .rcases B with q| ⟨T,q,_,_,_,_,L',_⟩
   .rw[q] at z;cases z
   .rw[q] at z;cases z;rw[i] at L';cases L'
  .have:=I.Cy b^by rw[r];show z
   rw[i] at this;cases this
 have hok:iB X.prog X.w H k:=λb u i=>by
  by_cases z:b=a
  .subst z;rw[j] at i;cases i;show Ru G
  .apply(I.hok b u i).pG (λc v g q=>?_) (λ_ q=>q) λ_ _ q=>q
   rcases g with rfl|g
   .show tr c u i z v q
   .show tr c _ g (λw=>by rw[w,j] at g;cases g) v q
 have N:H T=none:=I.hok.fresh F;have O:∀c o,s.heap.get? c\o->c≠T:=λc o g z=>absurd (cZ (Da g) F)^by rw[z];show kC _
 have fin:∀ch:!Ad,(∀b,Z= .ref b->b∈ch)->(∀b∈ch,(b∈X.ex\/X.s₀.heap.objs.size<=b)/\b≠X.env.locals/\(∀x c,X.env.cells.lookup x\c->c≠b)/\∀p∈X.pn++ [],p.1≠b)->Inv X [] σ H {s with heap:=k}:=λch S h6=>by
  apply I.KD (s':={s with heap:=k}) (ch:=ch) rfl #[λb o e n i g=>?_,λb o e n _ g=>?_,λb o _ n _=>n,λb o e _=>?_,λ_ _ q=>q,λ_ _ _ q=>q,λ_ ps q=>#[#[],by rw[q];simp]] hok I.bare h6
  .show R b o e (λz=>by rw[z,j] at n;cases n) (λz=>g^S b z)^by rw[<-r];show i
  .show k1 b o e (λz=>by rw[z,j] at n;cases n)^λz=>g^S b z
  .by_cases z:b=a
   .show#[_,by rw[z];show G]
   .show k0 b o e z
 have I':Inv X [] σ H {s with heap:=k}:=by
  rcases B with q| ⟨U,q,q2,q3,q4,q5,L',q7⟩
  .show fin [] (λb z=>by rw[q] at z;cases z) λb z=>absurd z^by simp
  .apply fin [U] (λb z=>by rw[q] at z;cases z;show c5 ..) λb z=>?_
   have:b=U:=by simpa using z
   subst this;show#[.inr q2,q3,q4,λp y=>q5 p^by rw[fB] at y;show y]
 apply h _ I' #[C,t, .ref T,d,j,G, .inr #[T,Y,jf I.sz F,?_,λx c g=>?_,λp y=>?_,N,J']]
 .obtain⟨m,⟨o,_,_,l,_⟩,_⟩:=I.loc
  show(O _ _ l).symm
 .obtain⟨v,o,l,_⟩:=I.cell x c g
  show O _ _ l
 .show O _ _ (I.pin p^kq _ y).1
end
def Nc(X:Cx)(b:St)(H:Hp)(a:Ad):Prop:=∀s,Inv X [] b H s->AB X H s a->X.xe (.ref a) s
theorem Rv{P:Program}{w:World}{K:ac}{e:Str->Option Value}{base:Heap}{N:!Str}{c:Str}{b:Scope}{f:Ad}{g:Value}{A:Around}{outer:!Env}{s k:Shared}{H i:Hp}{E:XK}{l:St}{a:Ad}
  (I:Inv (kZ (Az P w) P w K e base N c b f g A outer s H E) [] l i k) (m:AB (kZ (Az P w) P w K e base N c b f g A outer s H E) i k a) (h:E (.ref a) V i):(kZ (Az P w) P w K e base N c b f g A outer s H E).xe (.ref a) k:=by
 change wpAny _ _ (leaving _ _) _ _ _;unfold leaving;apply wpAny_bind (EK (X:=kZ (Az P w) P w K e base N c b f g A outer s H E) rfl rfl I m λF j n=>?_);rfl';let#[C,t,p,d,q,r,u]:=n;ac_rfl;apply #[a,i,Y,#[j.os,j.bare,j.base,j.hok,C,t,p,d,q,r,u.imp id λhH=>?_],h];let#[T,v,x,_,_,_,y,B]:=hH;show #[T,v,x,y,B]
end L2
namespace TS
open PySem PyProof.Rows
def fQ:Bool->Keyed->Array Keyed->Nat->Nat->Nat->StateT ge lD^Option Nat:=sortPriv%PySem.Builtin.gallop
def rT:Array Keyed->Array Keyed->StateT ge lD^Array Keyed:=sortPriv%PySem.Builtin.mergeLo
def rS:Array Keyed->Array Keyed->StateT ge lD^Array Keyed:=sortPriv%PySem.Builtin.mergeHi
def setMinGallop':Nat->StateT SortSt Sem Unit:=sortPriv%PySem.Builtin.setMinGallop
def kY(left:Bool)(key:Keyed)(arr:Array Keyed)(base i:Nat):StateT ge lD^Option Bool:=do
 let x <-ii arr (base+i)
 if left then lt' x key else return (<-lt' key x).map not
def ID(left:Bool)(key:Keyed)(arr:Array Keyed)(base n a:Nat):fQ left key arr base n a=(do
 let mut lastofs:=0
 let mut ofs:=1
 let mut lo:=0
 let mut hi:=0
 let J right <-kY left key arr base a|return V
 if right then
  let b:=n-a
  for _ in [0:n] do
   if ofs>=b then break
   let J more <-kY left key arr base (a+ofs) |return V
   if not^more then break
   lastofs:=ofs
   ofs:=2*ofs+1
  lo:=a+lastofs+1
  hi:=a+min ofs b
 else
  let b:=a+1
  for _ in [0:n] do
   if ofs>=b then break
   let J found <-kY left key arr base (a-ofs) |return V
   if found then break
   lastofs:=ofs
   ofs:=2*ofs+1
  lo:=a+1-min ofs b
  hi:=a-lastofs
 for _ in [0:n] do
  if lo>=hi then break
  let m:=lo+(hi-lo) / 2
  let J more <-kY left key arr base m|return V
  if more then lo:=m+1 else hi:=m
 return J hi):=rfl
def iO(O:KeyOrd)(key:Keyed->O.α)(S:Keyed->Prop)(a:jg)(M:Model)(A:gs)(E:b_->c_->Prop)(s:c_):Prop:=
 ∀(x y:Keyed)(st:ge)(Q:Option Bool->ge->Prop),S x->S y->kindOf st=a->Q (J^O.blt (key x)^key y) st->nL M A E s (lt' x y) Q st
section
variable {O:KeyOrd} {key:Keyed->O.α} {S:Keyed->Prop} {k0:SortKind} {M:Model} {A:Around} {E:Value->Shared->Prop} {s:Shared} {st:SortSt}
def fk(O:KeyOrd)(key:Keyed->O.α)(left:Bool)(k x:Keyed):Bool:=if left then O.blt (key x)^key k else not^O.blt (key k)^key x
def bF{i:Nat}(h:arr[i]?\x)(q:Q x st):wpS M A E s (elem' arr i) Q st:=by
 rw[elem'_eq,h];show FB q
theorem l8(C:iO O key S k0 M A E s)(d:arr[base+i]?\x)(a:S k)(b:S x)(c:kindOf st=k0)
  (q:Q (J (fk O key left k x)) st):nL M A E s (kY left k arr base i) Q st:=by
 unfold kY;apply Fk^bF d ?_;unfold fk at q;cases left with
 |true=>show C _ _ _ _ b a c q
 |false=>show Fk^C _ _ _ _ a b c^FB q
structure Seg (S:Keyed->Prop) (arr:Array Keyed) (base n:Nat) (g:Nat->Keyed):Prop where
 at_:∀i,i<n->arr[base+i]?\(g i)
 mem:∀i,i<n->S^g i
theorem iM(C:iO O key S k0 M A E s){base n a:Nat}(G:Seg S arr base n g)(J':S k)(L':kindOf st=k0)(Y':a<n)
  (mono:∀i j,i<=j->j<n->fk O key left k^g j=L->fk O key left k^g i=L)
  (q:∀p,p<=n->(∀i,i<p->fk O key left k^g i=L)->(∀i,p<=i->i<n->fk O key left k^g i=At)->Q (J p) st):nL M A E s (fQ left k arr base n a) Q st:=by
 rw[ID];apply Fk^l8 C (G.at_ _ Y') J' (G.mem _ Y') L' ?_
 have R:∀i j,i<=j->j<n->fk O key left k^g i=At->fk O key left k^g j=false:=λi j fo hj h=>by
  cases e:fk O key left k^g j with
  |false=>rfl
  |true=>rw[mono i j fo hj e] at h;cases h
 have fin:∀lo b,lo<=b->b<=n->(∀i,i<lo->fk O key left k^g i=L)->(∀i,b<=i->i<n->fk O key left k^g i=At)->
   nL M A E s (do
    let mut lo:=lo
    let mut b:=b
    for _ in [0:n] do
     if lo>=b then break
     let m:=lo+(b-lo) / 2
     let J more <-kY left k arr base m|return V
     if more then lo:=m+1 else b:=m
    return J b) Q st:=by
  intro lo b T hn F y;dsimp only
  apply Fk (SZ (UF (I:=λx c f=>f=st/\∃lo b,c=(V,lo,b)/\lo<=b/\b<=n/\b-lo<=n-x/\(∀i,i<lo->fk O key left k^g i=L)/\(∀i,b<=i->i<n->fk O key left k^g i=At))
   (Q:=λc f=>f=st/\∃b,c=(V,b,b)/\b<=n/\(∀i,i<b->fk O key left k^g i=L)/\(∀i,b<=i->i<n->fk O key left k^g i=At)) ?step ?fin #[Y,lo,b,Y,T,hn,(),F,y]) ?post)
  case fin=>
   rintro c f ⟨rfl,lo,b,rfl,r,w,t,l,N⟩
   have:lo=b:=()
   subst this;show#[Y,lo,Y,w,l,N]
  case step=>
   rintro x c f _ Z ⟨rfl,lo,b,rfl,r,w,t,l,N⟩;dsimp only
   by_cases v:lo>=b
   .rw[mo v]
    have:lo=b:=()
    subst this;show FB #[Y,lo,Y,w,l,N]
   .rw[tz v]
    have u:lo+(b-lo) / 2<n:=()
    apply Fk^l8 C (G.at_ _ u) J' (G.mem _ u) L' ?_;cases e:fk O key left k^g (lo+(b-lo) / 2) with
    |true=>
     dsimp only;rw[mo rfl];show FB #[Y,_,_,Y,(),w,(),λi b=>mono _ _ () u e,N]
    |false=>
     dsimp only;rw[tz ∅]
     show FB #[Y,_,_,Y,(),(),(),l,λi F y=>R _ _ F y e]
  case post=>
   rintro c f ⟨rfl,b,rfl,U,P,H⟩;show FB^q _ U P H
 dsimp only;cases e0:fk O key left k^g a with
 |true=>
  rw[mo rfl]
  apply Fk (SZ (UF (I:=λx c f=>f=st/\∃d o,c=(V,d,o)/\d<o/\x<o/\a+d<n/\fk O key left k^g (a+d)=L)
   (Q:=λc f=>f=st/\∃d o,c=(V,d,o)/\d<o/\a+d<n/\fk O key left k^g (a+d)=L/\(n-a<=o\/(a+o<n/\fk O key left k^g (a+o)=At))) ?step ?fin2 #[Y,0,1,Y,(),(),(),e0]) ?post)
  case fin2=>
   rintro c f ⟨rfl,d,o,rfl,r,w,t,l⟩;show#[Y,d,o,Y,r,t,l, .inl ()]
  case step=>
   rintro x c f _ Z ⟨rfl,d,o,rfl,r,w,t,l⟩;dsimp only
   by_cases v:o>=n-a
   .rw[mo v]
    show FB #[Y,d,o,Y,r,t,l, .inl v]
   .rw[tz v]
    have u:a+o<n:=()
    apply Fk^l8 C (G.at_ _ u) J' (G.mem _ u) L' ?_;cases e:fk O key left k^g (a+o) with
    |true=>
     dsimp only;rw[tz ∅]
     show FB #[Y,_,_,Y,(),(),u,e]
    |false=>
     dsimp only;rw[mo ∅]
     show FB #[Y,d,o,Y,r,t,l, .inr #[u,e]]
  case post=>
   rintro c f ⟨rfl,d,o,rfl,U,P,H,B⟩;apply fin (a+d+1) (a+min o (n-a)) () () (λi b=>mono _ _ () P H)^λi F y=>?_
   rcases B with B| ⟨B,X⟩
   .lia
   .show R _ _ () y X
 |false=>
  rw[tz ∅]
  apply Fk (SZ (UF (I:=λx c f=>f=st/\∃d o,c=(V,d,o)/\d<o/\x<o/\d<=a/\fk O key left k^g (a-d)=At)
   (Q:=λc f=>f=st/\∃d o,c=(V,d,o)/\d<o/\d<=a/\fk O key left k^g (a-d)=At/\(a+1<=o\/(o<=a/\fk O key left k^g (a-o)=L))) ?step ?fin2 #[Y,0,1,Y,(),(),(),e0]) ?post)
  case fin2=>
   rintro c f ⟨rfl,d,o,rfl,r,w,t,l⟩;show#[Y,d,o,Y,r,t,l, .inl ()]
  case step=>
   rintro x c f _ Z ⟨rfl,d,o,rfl,r,w,t,l⟩;dsimp only
   by_cases v:o>=a+1
   .rw[mo v]
    show FB #[Y,d,o,Y,r,t,l, .inl v]
   .rw[tz v]
    have u:a-o<n:=()
    apply Fk^l8 C (G.at_ _ u) J' (G.mem _ u) L' ?_;cases e:fk O key left k^g (a-o) with
    |true=>
     dsimp only;rw[mo rfl];show FB #[Y,d,o,Y,r,t,l, .inr #[(),e]]
    |false=>
     dsimp only;rw[tz ∅]
     show FB #[Y,_,_,Y,(),(),(),e]
  case post=>
   rintro c f ⟨rfl,d,o,rfl,U,P,H,B⟩;apply fin (a+1-min o (a+1)) (a-d) () () (λi b=>?_)^λi F y=>R _ _ F y H
   rcases B with B| ⟨B,X⟩
   .lia
   .show mono _ _ () () X
end
section
variable {O:KeyOrd} {key:Keyed->O.α} {S:Keyed->Prop} {k0:SortKind} {M:Model} {A:Around} {E:Value->Shared->Prop} {s:Shared} {st bW:SortSt}
def ky(O:KeyOrd)(key:Keyed->O.α)(a:Array Keyed)(i:Nat):O.α:=key (a[i]?.getD (.none, .none))
def jC(h:a[i]? =b[j]?):ky O key a i=ky O key b j:=by unfold ky;rw[h]
def kF(O:KeyOrd)(key:Keyed->O.α)(xs:Array Keyed)(a b:Nat):Prop:=∀i j,a<=i->i<=j->j<b->O.kle (ky O key xs i)^ky O key xs j
def Ow(O:KeyOrd)(key:Keyed->O.α)(c:Array Keyed)(a b:Nat):Prop:=∀i j,a<=i->i<=j->j<b->O.kle (ky O key c j)^ky O key c i
structure iP (bW st:SortSt) (lo hi:Nat):Prop where
 perm:(arrOf st).Perm (arrOf bW)
 kind:kindOf st=kindOf bW
 failed:failedOf st=failedOf bW
 pend:pendingOf st=pendingOf bW
 out:∀i,i<lo\/hi<=i->(arrOf st)[i]? =(arrOf bW)[i]?
theorem iP.refl(st:SortSt)(lo a:Nat):iP st st lo a:=#[.refl _,Y,Y,Y,λ_ _=>rfl]
theorem iP.trans{d e:ge}{lo c:Nat}(a:iP bW d lo c)(b:iP d e lo c):iP bW e lo c:=
 #[b.perm.trans a.perm,b.kind.trans a.kind,b.failed.trans a.failed,b.pend.trans a.pend,λi h=>(b.out i h).trans^a.out i h]
theorem iP.size{lo b:Nat}(a:iP bW st lo b):(arrOf st).size=(arrOf bW).size:=a.perm.size_eq
theorem iP.mirror{lo a i j:Nat}(c:lo<=i)(d:j<=a)(b:j<=(ey st).size):iP st (nO st^mirror (ey st) i j ((j-i) / 2)) lo a:=
 #[mirror_perm _ _ _ _,Y,Y,Y,λk h=>by
  change(PyProof.Rows.mirror (ey st) i j ((j-i) / 2))[k]? =_;rw[getElem?_mirror_all b,tz ()]]
theorem iP.bubble{lo a src d:Nat}(b:d<=src)(e:lo<=src-d)(f:src<a)(c:src<(ey st).size):iP st (nO st^bubble (ey st) src d) lo a:=
 #[bubble_perm _ _ _,Y,Y,Y,λk h=>by
  change(PyProof.Rows.bubble (ey st) src d)[k]? =_;rw[getElem?_bubble c d b,tz (),tz ()]]
def t9{i j:Nat}(c:j<=a.size)(k:Nat):ky O key (mirror a i j ((j-i) / 2)) k=if i<=k/\k<j then ky O key a (i+j-1-k) else ky O key a k:=by
 have e:=getElem?_mirror_all (i:=i) c k
 by_cases b:i<=k/\k<j
 .rw[mo b] at e ⊢;show jC e
 .rw[tz b] at e ⊢;show jC e
def h8(c:j<=a.size)(b:∀k,i<=k->k<j->ky O key a k=ky O key a (j-1))(k:Nat):ky O key (mirror a i j ((j-i) / 2)) k=ky O key a k:=by
 rw[t9 c]
 split
 .rw[b _ () (),b k () ()]
 .rfl
def Bx(f:src<a.size)(g:d<=src)(k:Nat):
  ky O key (bubble a src d) k=if k=src-d then ky O key a src else if src-d<k/\k<=src then ky O key a (k-1) else ky O key a k:=by
 have e:=getElem?_bubble f d g k
 by_cases b:k=src-d
 .rw[mo b] at e ⊢;show jC e
 .rw[tz b] at e ⊢
  by_cases c:src-d<k/\k<=src
  .rw[mo c] at e ⊢;show jC e
  .rw[tz c] at e ⊢;show jC e
structure Ok (S:Keyed->Prop) (k0:SortKind) (st:SortSt):Prop where
 mem:∀p,p∈(arrOf st).toList->S p
 kind:kindOf st=k0
def Ok.step{lo b:Nat}(o:Ok S k0 bW)(a:iP bW st lo b):Ok S k0 st:=
 #[λp c=>o.mem p^(Hw.mp a.perm).mem_iff.mp c,a.kind.trans o.kind]
def Ok.at{i:Nat}(o:Ok S k0 st)(a:i<(ey st).size):(ey st)[i]?\((ey st)[i]?.getD (.none, .none))/\S ((ey st)[i]?.getD (.none, .none)):=by
 have e:(ey st)[i]? =J (ey st)[i]:=aed _ i a;rw[e];show#[Y,o.mem _^by simp]
def rj(C:iO O key S k0 M A E s)(o:Ok S k0 st)(a:i<(ey st).size)(b:j<(ey st).size)
  (q:Q (J^O.blt (ky O key (ey st) i)^ky O key (ey st) j) st):nL M A E s (ltAt' i j) Q st:=by
 rw[ltAt'_eq];let#[c,d]:=o.at a;let#[e,f]:=o.at b;apply Fk^aei^Fk^bF c^Fk^bF e^C _ _ _ _ d f o.kind q
theorem wpS_binarySort(C:iO O key S k0 M A E s){lo n ok:Nat}{Q:Bool->ge->Prop}(o:Ok S k0 st)(Z:lo+n<=(ey st).size)(hok:ok<=n)(J':kF O key (ey st) lo (lo+ok))
  (h:∀b,iP st b lo (lo+n)->kF O key (ey b) lo (lo+n)->Q L b):nL M A E s (binarySort' lo n ok) Q st:=by
 rw[binarySort'_eq]
 apply wpS_bind (wpS_mono (wpS_forRange (I:=λk c b=>c=(V,⟨⟩)/\iP st b lo (lo+n)/\kF O key (ey b) lo (lo+min k n))
  (Q:=λc b=>c=(V,⟨⟩)/\iP st b lo (lo+n)/\kF O key (ey b) lo (lo+n)) ?step ?fin ?init) ?post)
 case post=>
  rintro c b ⟨rfl,f,e⟩;show wpS_pure^h b f e
 case init=>
  apply#[Y, .refl _ _ _,λi j u F L'=>?_]
  by_cases q:ok=0
  .have:i=j:=()
   subst this;show KeyOrd.kle_refl _
  .show J' i j u F ()
 case fin=>
  rintro c b ⟨N,f,e⟩;exists N,f
  rwa [show min (max (max ok 1) n) n=n by lia] at e
 case step=>
  rintro k c b P R ⟨rfl,f,e⟩;rw[show min k n=k by lia] at e
  have T:=o.step f;have dZ:=f.size;have t:lo+k<(ey b).size:=()
  apply wpS_bind (wpS_mono (wpS_forRange (I:=λx c d=>d=b/\∃l r,c=(V,l,r)/\l<=r/\r<=k/\r-l<=k-x/\
    (∀i,i<l->O.kle (ky O key (ey b) (lo+i))^ky O key (ey b) (lo+k))/\(∀i,r<=i->i<k->O.klt (ky O key (ey b) (lo+k))^ky O key (ey b) (lo+i)))
   (Q:=λc d=>d=b/\∃l r,c=(V,l,r)/\l<=k/\
    (∀i,i<l->O.kle (ky O key (ey b) (lo+i))^ky O key (ey b) (lo+k))/\(∀i,l<=i->i<k->O.klt (ky O key (ey b) (lo+k))^ky O key (ey b) (lo+i))) ?istep ?ifin ?iinit) ?ipost)
  case iinit=>show#[Y,0,k,Y,(),(),(),λi u=>by lia,λi q v=>by lia]
  case ifin=>
   rintro c d ⟨rfl,l,r,rfl,w,g,U,m,p⟩
   have:l=r:=()
   subst this;show#[Y,l,l,Y,g,m,p]
  case istep=>
   rintro x c d _ X ⟨rfl,l,r,rfl,w,g,U,m,p⟩;dsimp only
   by_cases G:l>=r
   .rw[if_pos G]
    have:l=r:=()
    subst this;show wpS_pure #[Y,l,l,Y,g,m,p]
   .rw[if_neg G]
    apply wpS_bind^rj C T t () ?_
    cases H:O.blt (ky O key (ey d) (lo+k))^ky O key (ey d) (lo+(l+r) / 2)
    case true=>
     simp only[if_true];apply wpS_pure #[Y,l,(l+r) / 2,Y,(),(),(),m,λi q v=>?_]
     show KeyOrd.klt_of_klt_of_kle H^e _ _ () () ()
    case false=>
     simp only[fA,if_false];apply wpS_pure #[Y,(l+r) / 2+1,r,Y,(),(),(),λi q=>?_,p]
     show KeyOrd.kle_trans (e (lo+i) (lo+(l+r) / 2) () () ()) (show O.kle _ _ from H)
  case ipost=>
   rintro c d ⟨rfl,l,r,rfl,Y',m,p⟩;change nL _ _ _ _ (do moveDown' (lo+k) (lo+l);pure^ForInStep.yield (V,Unit.unit)) _ _
   rw[moveDown'_eq];have ed:lo+k-(lo+l)=k-l:=()
   apply wpS_bind^wpS_modify^wpS_pure #[Y,f.trans^iP.bubble () () () t,?_]
   rw[show min (k+1) n=k+1 by lia]
   intro i j u F L';change O.kle (ky O key (bubble (ey d) (lo+k) (lo+k-(lo+l))) i)^ky O key (bubble (ey d) (lo+k) (lo+k-(lo+l))) j;rw[Bx t (),Bx t (),show lo+k-(lo+k-(lo+l))=lo+l by lia]
   have y:∀a,lo<=a->a<lo+l->O.kle (ky O key (ey d) a)^ky O key (ey d) (lo+k):=λa q v=>by
    have:=m (a-lo) ();rwa [show lo+(a-lo)=a by lia] at this
   have B:∀a,lo+l<=a->a<lo+k->O.klt (ky O key (ey d) (lo+k))^ky O key (ey d) a:=λa q v=>by
    have:=p (a-lo) () ();rwa [show lo+(a-lo)=a by lia] at this
   repeat' split
   all_goals first
    | (exfalso;lia)
    |show KeyOrd.kle_refl _
    |show y _ () ()
    |show KeyOrd.kle_of_klt^B _ () ()
    |show e _ _ () () ()
end
def HL(lo a d:Nat):StateT ge lD AscSt:=
 forIn [a:d] ((V,a):AscSt) λ_ b=>do
  let c <-ltAt' (lo+b.snd) (lo+b.snd-1)
  match c with
  |some e=>if e=L then pure^ForInStep.done (V,b.snd) else pure^ForInStep.yield (V,b.snd+1)
  |_=>pure^ForInStep.done (J V,b.snd)
def tailL(lo n b:Nat):StateT ge lD^Option Nat:=do
 ln lo (lo+n)
 let a <-HL lo n b
 match a.fst with
 |some r=>pure r
 |none=>pure^J a.snd
def FH(lo n c:Nat):StateT ge lD DescSt:=
 forIn [n:c] ((V,n,0):DescSt) λ_ a=>do
  let b <-ltAt' (lo+a.snd.fst) (lo+a.snd.fst-1)
  match b with
  |some d=>
   if d=L then
    if a.snd.snd>0 then do
     ln (lo+a.snd.fst-(a.snd.snd+1)) (lo+a.snd.fst)
     pure (ForInStep.yield (V,a.snd.fst+1,0))
    else pure (ForInStep.yield (V,a.snd.fst+1,0))
   else do
    let b <-ltAt' (lo+a.snd.fst-1) (lo+a.snd.fst)
    match b with
    |some e=>
     if e=L then pure (ForInStep.done (V,a.snd.fst,a.snd.snd))
     else pure^ForInStep.yield (V,a.snd.fst+1,a.snd.snd+1)
    |_=>pure^ForInStep.done (J V,a.snd.fst,a.snd.snd)
  |_=>pure^ForInStep.done (J V,a.snd.fst,a.snd.snd)
def descP(lo n b:Nat):StateT ge lD^Option Nat:=do
 liftM^rule "list.sort.descending-run"
 let a <-FH lo (n+1) b
 match a.fst with
 |some r=>pure r
 |none=>
  if a.snd.snd>0 then do
   ln (lo+a.snd.fst-(a.snd.snd+1)) (lo+a.snd.fst)
   tailL lo a.snd.fst b
  else tailL lo a.snd.fst b
theorem Du(lo c:Nat):countRun' lo c=(do
  let a <-HL lo 1 c
  match a.fst with
  |some r=>pure r
  |none=>
   if (a.snd==c)=L then pure (J a.snd)
   else if a.snd>1 then do
    let e <-ltAt' lo (lo+a.snd-1)
    match e with
    |some g=>if g=L then pure^J a.snd else do
      ln lo (lo+a.snd)
      descP lo a.snd c
    |_=>pure V
   else descP lo a.snd c):=by
 rw[countRun'_eq];dsimp only;unfold descP tailL FH HL
 congr 1
 funext a
 let#[r,n]:=a;cases r with
 |some r=>rfl
 |none=>
  dsimp only
  split
  .rfl
  .split
   .congr 1
    funext x
    cases x with
    |none=>rfl
    |some g=>
     dsimp only
     split
     .rfl
     .congr 1
      funext _r
      (congr 1;funext _u;congr 1;congr 1;funext s2;let#[d,h,i]:=s2;cases d with
 |some d=>rfl
 |none=>(dsimp only;split;(congr 1;funext _v;(congr 1;funext _w;congr 1;(funext s3;let#[b,f]:=s3;cases b<;>rfl)));(congr 1;funext _w;congr 1;(funext s3;let#[b,f]:=s3;cases b<;>rfl))))
   ·(congr 1;funext _u;congr 1;congr 1;funext s2;let#[d,h,i]:=s2;cases d with
 |some d=>rfl
 |none=>(dsimp only;split;(congr 1;funext _v;(congr 1;funext _w;congr 1;(funext s3;let#[b,f]:=s3;cases b<;>rfl)));(congr 1;funext _w;congr 1;(funext s3;let#[b,f]:=s3;cases b<;>rfl))))
section
variable {st : SortSt}
def Fh(C:iO O key S k0 (ei prog w) A E s){lo a b:Nat}{Q:AscSt->ge->Prop}(o:Ok S k0 st)(v:lo+b<=(ey st).size)(y:1<=a)(f:a<=b)(m:kF O key (ey st) lo (lo+a))
  (h:∀n,a<=n->n<=b->kF O key (ey st) lo (lo+n)->(n=b\/O.klt (ky O key (ey st) (lo+n))^ky O key (ey st) (lo+n-1))->Q (V,n) st):
  nL (ei prog w) A E s (HL lo a b) Q st:=by
 unfold HL;apply UF (I:=λx c e=>e=st/\c=(V,x)/\kF O key (ey st) lo (lo+x)) ?step ?fin #[Y,Y,m]
 case fin=>
  rintro c e ⟨rfl,rfl,d⟩;rw[show max a b=b by lia] at d ⊢
  show h b f (bu _) d^.inl rfl
 case step=>
  rintro x c e g p ⟨rfl,rfl,d⟩;dsimp only;apply Fk^rj C o () () ?_
  cases k:O.blt (ky O key (ey e) (lo+x))^ky O key (ey e) (lo+x-1)
  case true=>
   simp only[adW];show FB^h x g () d^.inr k
  case false=>
   simp only[fA,Pi];apply FB #[Y,Y,λi j l q B=>?_]
   by_cases r:j<lo+x
   .show d i j l q r
   .have t:j=lo+x:=()
    subst t
    by_cases u:i=lo+x
    .subst u;show adJ _
    .show M2 (d i (lo+x-1) l () ()) k
def w9(h:Q ⟨⟩^nO st^mirror (ey st) i j ((j-i) / 2)):nL (ei prog w) A E s (ln i j) Q st:=by
 rw[reverseSlice'_eq];show aet h
def CP(C:iO O key S k0 (ei prog w) A E s){lo n a:Nat}{Q:Option Nat->ge->Prop}(o:Ok S k0 st)(f:lo+a<=(ey st).size)(g:1<=n)(k:n<=a)(l:Ow O key (ey st) lo (lo+n))
  (h:∀m b,iP st b lo (lo+a)->1<=m->m<=a->kF O key (ey b) lo (lo+m)->Q (J m) b):nL (ei prog w) A E s (tailL lo n a) Q st:=by
 unfold tailL;have c:lo+n<=(ey st).size:=()
 apply Fk^w9 ?_;have d:iP st (nO st^mirror (ey st) lo (lo+n) ((lo+n-lo) / 2)) lo (lo+a):=iP.mirror (bu _) () c
 apply Fk (Fh C (o.step d) (by rw[d.size];show f) g k ?_ λm p q e _=>FB^h m _ d () q e)
 intro i j r t u;change O.kle (ky O key (mirror (ey st) lo (lo+n) ((lo+n-lo) / 2)) i)^ky O key (mirror (ey st) lo (lo+n) ((lo+n-lo) / 2)) j;rw[t9 c,t9 c,mo (),mo ()]
 show l _ _ () () ()
def MQ(C:iO O key S r (ei prog w) A E s){lo n d:Nat}{Q:DescSt->ge->Prop}(o:Ok S r st)(hn:lo+d<=(ey st).size)(p:1<=n)(T:n<=d)(U:Ow O key (ey st) lo (lo+n))
  (h:∀m b a,iP st a lo (lo+d)->n<=m->m<=d->Ow O key (ey a) lo (lo+m)->b+1<=m->(∀i,lo+m-(b+1)<=i->i<lo+m->ky O key (ey a) i=ky O key (ey a) (lo+m-1))->Q (V,m,b) a):
  nL (ei prog w) A E s (FH lo n d) Q st:=by
 unfold FH
 apply UF (I:=λx c a=>∃b,c=(V,x,b)/\iP st a lo (lo+d)/\Ow O key (ey a) lo (lo+x)/\b+1<=x/\
   (∀i,lo+x-(b+1)<=i->i<lo+x->ky O key (ey a) i=ky O key (ey a) (lo+x-1))) ?step ?fin #[0,Y, .refl _ _ _,U,(),λi p t=>by congr 1;lia]
 case fin=>
  rintro c a ⟨b,rfl,e,f,q,g⟩;rw[show max n d=d by lia] at f q g ⊢
  show h d b a e T (bu _) f q g
 case step=>
  intro x c a X Y' u;apply af λG0 r=>?_;let#[b,rfl,e,f,q,g]:=u;apply r ?_;dsimp only;have H:=o.step e;have hz:=e.size;have J':lo+x<=(ey a).size:=()
  apply Fk^rj C H () () ?_
  cases L':O.blt (ky O key (ey a) (lo+x))^ky O key (ey a) (lo+x-1)
  case true=>
   simp only[adW]
   have M:∀v:Array Keyed,(∀k,ky O key v k=ky O key (ey a) k)->Ow O key v lo (lo+(x+1)):=by
    intro v N i j l y Z;rw[N,N]
    by_cases B:j<lo+x
    .show f i j l y B
    .have F:j=lo+x:=()
     subst F
     by_cases G:i=lo+x
     .subst G;show adJ _
     .show M2 (SL L')^f i (lo+x-1) l () ()
   by_cases P:b>0
   .rw[mo P]
    apply Fk^w9^FB #[0,Y,e.trans^iP.mirror () () J',M _^h8 J' g,(),λi p t=>by congr 1;lia]
   .rw[tz P]
    show FB #[0,Y,e,M _^λ_=>rfl,(),λi p t=>by congr 1;lia]
  case false=>
   simp only[fA,Pi];apply Fk^rj C H () () ?_
   cases Sj:O.blt (ky O key (ey a) (lo+x-1))^ky O key (ey a) (lo+x)
   case true=>
    simp only[adW];show FB^h x b a e () () f q g
   case false=>
    simp only[fA,Pi];have R:ky O key (ey a) (lo+x)=ky O key (ey a) (lo+x-1):=O.total _ _ L' Sj;apply FB #[b+1,Y,e,λi j l y Z=>?_,(),λi p t=>?_]
    .by_cases B:j<lo+x
     .show f i j l y B
     .have F:j=lo+x:=()
      subst F
      by_cases G:i=lo+x
      .subst G;show adJ _
      .rw[R];show f i (lo+x-1) l () ()
    .rw[show lo+(x+1)-1=lo+x by lia]
     by_cases VZ:i=lo+x
     .subst VZ;rfl
     .rw[R];show g i () ()
def CI(C:iO O key S k0 (ei prog w) A E s){lo n c:Nat}{Q:Option Nat->ge->Prop}(o:Ok S k0 st)(u:lo+c<=(ey st).size)(v:n+1<=c)(x:Ow O key (ey st) lo (lo+(n+1)))
  (h:∀m a,iP st a lo (lo+c)->1<=m->m<=c->kF O key (ey a) lo (lo+m)->Q (J m) a):nL (ei prog w) A E s (descP lo n c) Q st:=by
 unfold descP;apply Fk^aeL^adZ #[Y,?_];apply Fk (MQ C o u () v x λm e a d y p q H r=>?_)
 dsimp only;have I:=d.size;have f:lo+m<=(ey a).size:=()
 by_cases t:e>0
 .rw[mo t]
  have b:iP a (nO a^mirror (ey a) (lo+m-(e+1)) (lo+m) ((lo+m-(lo+m-(e+1))) / 2)) lo (lo+c):=iP.mirror () () f
  apply Fk^w9 (CP C (o.step^d.trans b) (by rw[b.size];lia) () p ?_ λg k l=>h g k^(d.trans b).trans l)
  intro i j B F G;change O.kle (ky O key (mirror (ey a) _ _ _) j)^ky O key (mirror (ey a) _ _ _) i;rw[h8 f r,h8 f r];show q i j B F G
 .rw[tz t]
  show CP C (o.step d) () () p q λg k l=>h g k^d.trans l
def wpS_countRun(C:iO O key S k0 (ei prog w) A E s){lo a:Nat}{Q:Option Nat->ge->Prop}(o:Ok S k0 st)(B:lo+a<=(ey st).size)(M:1<=a)
  (h:∀m f,iP st f lo (lo+a)->1<=m->m<=a->kF O key (ey f) lo (lo+m)->Q (J m) f):nL (ei prog w) A E s (countRun' lo a) Q st:=by
 rw[Du];apply Fk (Fh C o B (bu 1) M (λi j d F G=>by have:i=j:=();subst this;show adJ _) λn H I e g=>?_)
 dsimp only
 by_cases l:n=a
 .rw[mo^~~~l]
  show FB^h n st (.refl _ _ _) H I e
 .rw[tz^~~~l]
  have J':O.klt (ky O key (ey st) (lo+n))^ky O key (ey st) (lo+n-1):=g.resolve_left l
  by_cases b:n>1
  .rw[mo b]
   apply Fk^rj C o () () ?_
   cases p:O.blt (ky O key (ey st) lo)^ky O key (ey st) (lo+n-1)
   case true=>
    simp only[adW];show FB^h n st (.refl _ _ _) H I e
   case false=>
    simp only[fA,Pi];have q:lo+n<=(ey st).size:=()
    have c:∀k,lo<=k->k<lo+n->ky O key (ey st) k=ky O key (ey st) (lo+n-1):=by
     intro k L' N;have P:=e lo k () L' N
     have R:=e k (lo+n-1) L' () ()
     show KeyOrd.kle_antisymm R^M2 p P
    have r:iP st (nO st^mirror (ey st) lo (lo+n) ((lo+n-lo) / 2)) lo (lo+a):=iP.mirror (bu _) () q
    apply Fk^w9 (CI C (o.step r) (by rw[r.size];lia) () ?_ λT U X=>h T U^r.trans X)
    intro i j d F G;change O.kle (ky O key (mirror (ey st) _ _ _) j)^ky O key (mirror (ey st) _ _ _) i;rw[h8 q c,h8 q c]
    by_cases t:j<lo+n
    .rw[c i d (),c j () t];show adJ _
    .have Y':j=lo+n:=()
     subst Y'
     by_cases u:i=lo+n
     .subst u;show adJ _
     .rw[c i d ()];show SL J'
  .rw[tz b]
   have v:n=1:=()
   subst v;apply CI C o B () ?_ h
   intro i j d F G
   by_cases u:i=j
   .subst u;show adJ _
   .have x:i=lo:=()
    have y:j=lo+1:=()
    subst x;subst y;show SL J'
end
section lists
variable (O:KeyOrd) (key:Keyed->O.α)
def LE(x y:Keyed):Prop:=O.kle (key x)^key y
structure MI (l o ra rb:!Keyed):Prop where
 perm:(o++(ra++rb)).Perm l
 so:o.Pairwise (LE O key)
 sa:ra.Pairwise (LE O key)
 sb:rb.Pairwise (LE O key)
 le:∀x∈o,∀y∈ra++rb,LE O key x y
def Res(l r:!Keyed):Prop:=r.Perm l/\r.Pairwise^LE O key
variable {O key}
def MI.oz{l o xs e b:!Keyed}(m:MI O key l o (xs++e) b)(h:∀x∈xs,∀y∈b,LE O key x y):MI O key l (o++xs) e b:=by
 let#[f,g,c]:=tM.mp m.sa;apply#[by simpa [kz] using m.perm,tM.mpr #[m.so,f,λx d y a=>m.le x d y^by simp[a]],g,m.sb,λx d y a=>?_]
 rcases cM.mp d with z|z
 .apply m.le x z y ?_
  rcases cM.mp a with u|u<;>simp[u]
 .rcases cM.mp a with u|u
  .show c x z y u
  .show h x z y u
def MI.swap(m:MI O key l o a b):MI O key l o b a:=
 #[(List.Perm.append_left o List.perm_append_comm).trans m.perm,m.so,m.sb,m.sa,λx c y d=>m.le x c y^by rcases cM.mp d with u|u<;>simp[u]]
def MI.oE{l o xs a b:!Keyed}(m:MI O key l o a (xs++b))(h:∀x∈xs,∀y∈a,LE O key x y):MI O key l (o++xs) a b:=(m.swap.oz h).swap
def MI.Ip(m:MI O key l o a []):Res O key l (o++a):=
 #[by simpa using m.perm,tM.mpr #[m.so,m.sa,λx b y c=>m.le x b y^by simp[c]]]
def MI.Gi(m:MI O key l o a b)(h:∀y∈b,∀x∈a,LE O key y x):Res O key l (o++b++a):=by
 have c:MI O key l o a (b++ []):=by rw[fB];show m
 show(c.oE h).Ip
end lists
def Gr(a b:Array Keyed)(h e f d:Nat)(out:Array Keyed)(g:Nat):StateT ge lD^ForInStep (Option^Array Keyed×Array Keyed×Nat×Nat×Nat×Nat×Nat):=do
 let c <-ii a d
 let out:Array Keyed:=out.push c
 let d:Nat:=d+1
 if (d+1==a.size)=L then pure (ForInStep.done (J (out++b.extract g b.size++a.extract d a.size),out,d,g,h,e,f))
 else if (AT (e<7)&&AT (f<7))=L then pure (ForInStep.done (V,out,d,g,h,e,f))
 else pure^ForInStep.yield (V,out,d,g,h,e,f)
def yq(a b:Array Keyed)(f g i d:Nat)(out:Array Keyed)(e:Nat):StateT ge lD^ForInStep (Option^Array Keyed×Array Keyed×Nat×Nat×Nat×Nat×Nat):=do
 let c <-ii b d
 let out:Array Keyed:=out.push c
 let d:Nat:=d+1
 if (d==b.size)=L then pure (ForInStep.done (J (out++a.extract e a.size++b.extract d b.size),out,e,d,f,g,i))
 else do
  let c <-ii a e
  let h <-fQ L c b d (b.size-d) 0
  match h with
  |some k=>
   if k>0 then
    if (d+k==b.size)=L then pure (ForInStep.done (J (out++b.extract d (d+k)++a.extract e a.size++b.extract (d+k) b.size),out++b.extract d (d+k),e,d+k,f,g,k))
    else Gr a b f g k e (out++b.extract d (d+k)) (d+k)
   else Gr a b f g k e out d
  |_=>pure^ForInStep.done (J (out++a.extract e a.size++b.extract d b.size),out,e,d,f,g,i)
def uB(a b:Array Keyed)(g i c e:Nat)(out:Array Keyed)(f:Nat):StateT ge lD^ForInStep (Option^Array Keyed×Array Keyed×Nat×Nat×Nat×Nat×Nat):=do
 setMinGallop' f
 let d <-ii b e
 let h <-fQ At d a c (a.size-c) 0
 match h with
 |some k=>
  if k>0 then
   if (c+k+1==a.size)=L then pure (ForInStep.done (J (out++a.extract c (c+k)++b.extract e b.size++a.extract (c+k) a.size),out++a.extract c (c+k),c+k,e,f,k,g))
   else if (c+k==a.size)=L then pure (ForInStep.done (J (out++a.extract c (c+k)++a.extract (c+k) a.size++b.extract e b.size),out++a.extract c (c+k),c+k,e,f,k,g))
   else yq a b f k g e (out++a.extract c (c+k)) (c+k)
  else yq a b f k g e out c
 |_=>pure^ForInStep.done (J (out++a.extract c a.size++b.extract e b.size),out,c,e,f,i,g)
def Gu(a b:Array Keyed)(c:Option^Array Keyed×Array Keyed×Nat×Nat×Nat×Nat×Nat):StateT ge lD^ForInStep (Option^Array Keyed×Array Keyed×Nat×Nat×Nat×Nat×Nat):=
 if c.2.2.2.2.1>1 then uB a b c.2.2.2.2.2.2 c.2.2.2.2.2.1 c.2.2.1 c.2.2.2.1 c.2.1 (c.2.2.2.2.1-1) else uB a b c.2.2.2.2.2.2 c.2.2.2.2.2.1 c.2.2.1 c.2.2.2.1 c.2.1 c.2.2.2.2.1
def Gs(a b:Array Keyed)(e:Nat)(c:Option^Array Keyed×Array Keyed×Nat×Nat×Nat×Nat):StateT ge lD^ForInStep (Option^Array Keyed×Array Keyed×Nat×Nat×Nat×Nat):=do
 let y <-ii b c.2.2.2.1
 let x <-ii a c.2.2.1
 let d <-lt' y x
 match d with
 |some f=>
  if f=L then do
   let y <-ii b c.2.2.2.1
   if (c.2.2.2.1+1==b.size)=L then pure (ForInStep.done (J (c.2.1.push y++a.extract c.2.2.1 a.size++b.extract (c.2.2.2.1+1) b.size),c.2.1.push y,c.2.2.1,c.2.2.2.1+1,0,c.2.2.2.2.2+1))
   else if c.2.2.2.2.2+1>=e then pure (ForInStep.done (V,c.2.1.push y,c.2.2.1,c.2.2.2.1+1,0,c.2.2.2.2.2+1))
   else pure (ForInStep.yield (V,c.2.1.push y,c.2.2.1,c.2.2.2.1+1,0,c.2.2.2.2.2+1))
  else do
   let x <-ii a c.2.2.1
   if (c.2.2.1+1+1==a.size)=L then pure (ForInStep.done (J (c.2.1.push x++b.extract c.2.2.2.1 b.size++a.extract (c.2.2.1+1) a.size),c.2.1.push x,c.2.2.1+1,c.2.2.2.1,c.2.2.2.2.1+1,0))
   else if c.2.2.2.2.1+1>=e then pure (ForInStep.done (V,c.2.1.push x,c.2.2.1+1,c.2.2.2.1,c.2.2.2.2.1+1,0))
   else pure^ForInStep.yield (V,c.2.1.push x,c.2.2.1+1,c.2.2.2.1,c.2.2.2.2.1+1,0)
 |_=>pure^ForInStep.done (J (c.2.1++a.extract c.2.2.1 a.size++b.extract c.2.2.2.1 b.size),c.2.1,c.2.2.1,c.2.2.2.1,c.2.2.2.2.1,c.2.2.2.2.2)
def wg(a b:Array Keyed)(f:Option^Array Keyed×Array Keyed×Nat×Nat×Nat):StateT ge lD^ForInStep (Option^Array Keyed×Array Keyed×Nat×Nat×Nat):=do
 let e <-forIn [0:a.size+b.size] (V,f.2.1,f.2.2.1,f.2.2.2.1,0,0) λ_ c=>Gs a b f.2.2.2.2 c
 match e.1 with
 |some r=>pure^ForInStep.done (J r,e.2.1,e.2.2.1,e.2.2.2.1,f.2.2.2.2)
 |none=>do
  liftM^rule "list.sort.gallop"
  let d <-forIn [0:a.size+b.size] (V,e.2.1,e.2.2.1,e.2.2.2.1,f.2.2.2.2+1,e.2.2.2.2.1,e.2.2.2.2.2) λ_ c=>Gu a b c
  match d.1 with
  |some r=>pure^ForInStep.done (J r,d.2.1,d.2.2.1,d.2.2.2.1,d.2.2.2.2.1)
  |none=>do
   setMinGallop' (d.2.2.2.2.1+1)
   pure^ForInStep.yield (V,d.2.1,d.2.2.1,d.2.2.2.1,d.2.2.2.2.1+1)
def eH{b d:Type}{m c:StateT SortSt Sem b}{f a:b->StateT SortSt Sem d}(h:m=c)(g:∀x,f x=a x):m>>=f=c>>=a:=by rw[h,show f=a from funext g]
def FP{a:Type}{n:Nat}{d:a}{f b:Nat->a->StateT ge lD^ForInStep a}(h:∀i c,f i c=b i c):forIn [0:n] d f=forIn [0:n] d b:=by rw[show f=b from funext λi=>funext (h i)]
def fY [Decidable c] (h:c->x=a) (g:¬c->y=b):(if c then x else y)=if c then a else b:=by
 by_cases e:c
 .rw[mo e,mo e];show h e
 .rw[tz e,tz e];show g e
def DS(a b:Array Keyed):rT a b=(do
 rule "list.sort.merge-lo"
 let total:=a.size+b.size
 let done (out:Array Keyed) (c d:Nat):=out++a.extract c a.size++b.extract d b.size
 let e (out:Array Keyed) (c d:Nat):=out++b.extract d b.size++a.extract c a.size
 let mut out:Array Keyed:= [<-elem' b 0].toArray
 let mut c:=0
 let mut d:=1
 if d==b.size then return done out c d
 if c+1==a.size then return e out c d
 let mut minGallop:=gallopOf (<-get)
 for _ in [0:total] do
  let mut acount:=0
  let mut bcount:=0
  for _ in [0:total] do
   let J KA <-lt' (<-elem' b d) (<-elem' a c) |return done out c d
   if KA then
    out:=out.push (<-elem' b d);d:=d+1;bcount:=bcount+1;acount:=0
    if d==b.size then return done out c d
    if bcount>=minGallop then break
   else
    out:=out.push (<-elem' a c);c:=c+1;acount:=acount+1;bcount:=0
    if c+1==a.size then return e out c d
    if acount>=minGallop then break
  rule "list.sort.gallop"
  minGallop:=minGallop+1
  for _ in [0:total] do
   if minGallop>1 then minGallop:=minGallop-1
   setMinGallop' minGallop
   let J k <-fQ At (<-elem' b d) a c (a.size-c) 0|return done out c d
   acount:=k
   if k>0 then
    out:=out++a.extract c (c+k);c:=c+k
    if c+1==a.size then return e out c d
    if c==a.size then return done out c d
   out:=out.push (<-elem' b d);d:=d+1
   if d==b.size then return done out c d
   let J k <-fQ L (<-elem' a c) b d (b.size-d) 0|return done out c d
   bcount:=k
   if k>0 then
    out:=out++b.extract d (d+k);d:=d+k
    if d==b.size then return done out c d
   out:=out.push (<-elem' a c);c:=c+1
   if c+1==a.size then return e out c d
   if acount<7&&bcount<7 then break
  minGallop:=minGallop+1
  setMinGallop' minGallop
 unsupported "internal:list.sort.merge-bound"):=rfl
theorem Gy(a b:Array Keyed):rT a b=(do
 liftM^rule "list.sort.merge-lo"
 let y <-ii b 0
 if (1==b.size)=L then pure ([y].toArray++a.extract 0 a.size++b.extract 1 b.size)
 else if (0+1==a.size)=L then pure ([y].toArray++b.extract 1 b.size++a.extract 0 a.size)
 else do
  let d <-get
  let e <-forIn [0:a.size+b.size] (V, [y].toArray,0,1,gallopOf d) λ_ c=>wg a b c
  match e.1 with
  |some r=>pure r
  |none=>liftM^kg (α:=Array Keyed) "internal:list.sort.merge-bound"):=by
 rw[DS];dsimp only;apply eH rfl λ_=>eH rfl λy=>?_;apply KB (ite _ _)^KB (ite _ _) ?_;apply eH rfl λg=>eH (FP λ_ c=>?_) λu=>?_
 .unfold wg
  apply eH (FP λ_ t=>?_) λt=>?_
  .unfold Gs
   apply eH rfl λ_=>eH rfl λ_=>eH rfl λz=>?_;cases z<;>rfl
  .obtain⟨i,l⟩:=t
   cases i with
   |some r=>rfl
   |none=>
    dsimp only;apply eH rfl λ_=>eH (FP λ_ u=>?_) λu=>?_
    .unfold Gu
     have m:∀h,uB a b u.2.2.2.2.2.2 u.2.2.2.2.2.1 u.2.2.1 u.2.2.2.1 u.2.1 h=uB a b u.2.2.2.2.2.2 u.2.2.2.2.2.1 u.2.2.1 u.2.2.2.1 u.2.1 h:=λ_=>rfl;apply fY (λ_=>?_)^λ_=>?_
     all_goals
      unfold uB;apply eH rfl λ_=>eH rfl λ_=>eH rfl λz=>?_;cases z with
      |none=>rfl
      |some k=>
       dsimp only;apply fY (λ_=>?_)^λ_=>?_
       .apply fY (λ_=>rfl)^λ_=>fY (λ_=>rfl)^λ_=>?_
        unfold yq;apply eH rfl λ_=>fY (λ_=>rfl)^λ_=>eH rfl λ_=>eH rfl λz=>?_;cases z with
        |none=>rfl
        |some k=>rfl
       .unfold yq
        apply eH rfl λ_=>fY (λ_=>rfl)^λ_=>eH rfl λ_=>eH rfl λz=>?_;cases z with
        |none=>rfl
        |some k=>rfl
    .obtain⟨f,j⟩:=u
     cases f<;>rfl
 .obtain⟨f,j⟩:=u
  cases f<;>rfl
structure GS (st ay:SortSt):Prop where
 arr:arrOf ay=arrOf st
 kind:kindOf ay=kindOf st
 failed:failedOf ay=failedOf st
 pend:pendingOf ay=pendingOf st
def GS.refl(st:SortSt):GS st st:=#[Y,Y,Y,Y]
theorem GS.trans(x:GS a b)(y:GS b c):GS a c:=#[y.arr.trans x.arr,y.kind.trans x.kind,y.failed.trans x.failed,y.pend.trans x.pend]
def wR(g:Nat):setMinGallop' g=modify λs=>SortSt.mk' (kindOf s) (ey s) (fb s) g^jd s:=rfl
def ext_toList(a:Array Keyed)(i j:Nat):(a.extract i j).toList=(a.toList.drop i).take (j-i):=by
 rw[Array.toList_extract]
def mX(a:Array Keyed)(i:Nat):(a.extract i a.size).toList=a.toList.drop i:=by
 rw[ext_toList,tL^by simp]
def drop_cons{xs:Array Keyed}(h:xs[i]?\x):xs.toList.drop i=x::xs.toList.drop (i+1):=by
 have a:xs.toList[i]?\x:=by rw[<-h];simp
 let#[b,e]:=cV.mp a;rw[xl b,e]
def p8(l:!Keyed)(i k:Nat):l.drop i=(l.drop i).take k++l.drop (i+k):=by
 rw[<-List.drop_drop,mh]
def fF{l:!Keyed}{i k:Nat}{x:Keyed}(h:x∈(l.drop i).take k):∃j,j<k/\i+j<l.length/\l[i+j]?\x:=by
 let#[j,a]:=jm h;rw[List.getElem?_take] at a
 split at a
 .rename_i c
  rw[yL] at a;show#[j,c,(cV.mp a).1,a]
 .cases a
def iD{l:!Keyed}{i:Nat}{x:Keyed}(h:x∈l.drop i):∃j,i+j<l.length/\l[i+j]?\x:=by
 let#[j,a]:=jm h;rw[yL] at a;show#[j,(cV.mp a).1,a]
section
variable {O:KeyOrd} {key:Keyed->O.α} {S:Keyed->Prop} {k0:SortKind} {M:Model} {A:Around} {E:Value->Shared->Prop} {s:Shared} {st bW:SortSt}
def sq(h:∀a,GS st a->Q ⟨⟩ a):nL M A E s (setMinGallop' g) Q st:=by
 rw[wR];show aet^h _ #[Y,Y,Y,Y]
structure kW (O:KeyOrd) (key:Keyed->O.α) (S:Keyed->Prop) (a b:Array Keyed):Prop where
 ma:∀x∈a.toList,S x
 mb:∀x∈b.toList,S x
 sa:a.toList.Pairwise (LE O key)
 sb:b.toList.Pairwise (LE O key)
 na:1<=a.size
 nb:1<=b.size
 first:∀y,b[0]?\y->∀x∈a.toList,LE O key y x
 last:∀x,a[a.size-1]?\x->∀y∈b.toList,LE O key y x
def kW.Gi(T:kW O key S a b)(h:c+1=a.size):∀y∈b.toList.drop d,∀x∈a.toList.drop c,LE O key y x:=λy f x g=>by
 let#[j,i,e]:=iD g;rw[dE] at i
 have:c+j=a.size-1:=()
 rw[this] at e;show T.last x (by rw[<-e];simp) y^List.mem_of_mem_drop f
def gS{l:!Keyed}(h:l.Pairwise^LE O key){i j:Nat}{x y:Keyed}(k:i<=j)(b:l[i]?\x)(a:l[j]?\y):LE O key x y:=by
 by_cases e:i=j
 .subst e
  rw[b] at a;cases a;show adJ _
 .obtain⟨c,d⟩:=cV.mp b
  let#[f,g]:=cV.mp a;rw[<-d,<-g];show C2.mp h i j c f ()
def sj{xs:Array Keyed}(m:∀x∈xs.toList,S x){i n:Nat}(h:i+n<=xs.size):Seg S xs i n (λj=>xs[i+j]?.getD (.none, .none)):=
 #[λj a=>by
  have:i+j<xs.size:=()
  rw[aed xs (i+j) this];rfl,λj a=>by
  have:i+j<xs.size:=()
  rw[aed xs (i+j) this];show m _^by simp]
def bN{xs:Array Keyed}{i:Nat}(h:i<xs.size):∃x,xs[i]?\x/\x∈xs.toList/\xs.toList[i]?\x:=by
 apply#[xs[i],aed xs i h,by simp,?_]
 rw[gE];show aed xs i h
def m8{a:Array Keyed}{i:Nat}{x:Keyed}(h:a[i]?\x):a.toList[i]?\x:=by rw[gE];show h
def lV{a:Array Keyed}{i:Nat}{x:Keyed}(h:a.toList[i]?\x):a[i]?\x:=by rw[<-gE];show h
structure IV (O:KeyOrd) (key:Keyed->O.α) (a b out:Array Keyed) (ia ib:Nat):Prop where
 mi:MI O key (a.toList++b.toList) out.toList (a.toList.drop ia) (b.toList.drop ib)
 ha:ia<a.size
 hb:ib<b.size
def IV.yA{a b out:Array Keyed}(v:MI O key (a.toList++b.toList) out.toList (a.toList.drop c)^b.toList.drop d)(e:b[d]?\y)(h:∀x∈a.toList.drop c,LE O key y x):
  MI O key (a.toList++b.toList) (out.push y).toList (a.toList.drop c)^b.toList.drop (d+1):=by
 rw[drop_cons e] at v;rw[uV];show MI.oE (xs:= [y]) v λx f=>by rw[eO.mp f];show h
def IV.yz{a b out:Array Keyed}(v:MI O key (a.toList++b.toList) out.toList (a.toList.drop c)^b.toList.drop d)(e:a[c]?\x)(h:∀y∈b.toList.drop d,LE O key x y):
  MI O key (a.toList++b.toList) (out.push x).toList (a.toList.drop (c+1))^b.toList.drop d:=by
 rw[drop_cons e] at v;rw[uV];show MI.oz (xs:= [x]) v λx e=>by rw[eO.mp e];show h
theorem IV.oE{a b out:Array Keyed}(v:MI O key (a.toList++b.toList) out.toList (a.toList.drop d)^b.toList.drop c)(h:∀y∈(b.toList.drop c).take k,∀x∈a.toList.drop d,LE O key y x):
  MI O key (a.toList++b.toList) (out++b.extract c (c+k)).toList (a.toList.drop d)^b.toList.drop (c+k):=by
 rw[p8 b.toList c k] at v;rw[ku,ext_toList,show c+k-c=k by lia]
 show MI.oE v h
theorem IV.oz{a b out:Array Keyed}(v:MI O key (a.toList++b.toList) out.toList (a.toList.drop c)^b.toList.drop d)(h:∀x∈(a.toList.drop c).take k,∀y∈b.toList.drop d,LE O key x y):
  MI O key (a.toList++b.toList) (out++a.extract c (c+k)).toList (a.toList.drop (c+k))^b.toList.drop d:=by
 rw[p8 a.toList c k] at v;rw[ku,ext_toList,show c+k-c=k by lia]
 show MI.oz v h
def IV.xM{a b out:Array Keyed}(v:MI O key (a.toList++b.toList) out.toList (a.toList.drop d)^b.toList.drop c)(h:c=b.size):Res O key (a.toList++b.toList) (out++a.extract d a.size++b.extract c b.size).toList:=by
 have e:b.toList.drop c= []:=C4^by rw[dE];lia
 rw[ku,ku,mX,mX,e,fB];rw[e] at v;show v.Ip
def IV.xK{a b out:Array Keyed}(v:MI O key (a.toList++b.toList) out.toList (a.toList.drop c)^b.toList.drop d)(h:c=a.size):Res O key (a.toList++b.toList) (out++a.extract c a.size++b.extract d b.size).toList:=by
 have e:a.toList.drop c= []:=C4^by rw[dE];lia
 rw[ku,ku,mX,mX,e,fB];rw[e] at v;show v.swap.Ip
def IV.last(T:kW O key S a b)(v:MI O key (a.toList++b.toList) out.toList (a.toList.drop c)^b.toList.drop d)(h:c+1=a.size):Res O key (a.toList++b.toList) (out++b.extract d b.size++a.extract c a.size).toList:=by
 rw[ku,ku,mX,mX];show v.Gi^T.Gi h
end
section
variable {st : SortSt}
def Inv(O:KeyOrd)(key:Keyed->O.α)(a b:Array Keyed)(n:Nat)(out:Array Keyed)(c d:Nat):Prop:=MI O key (a.toList++b.toList) out.toList (a.toList.drop c)^b.toList.drop d/\c+1<a.size/\d<b.size/\n<=c+d
def Fin{d:Type}(O:KeyOrd)(key:Keyed->O.α)(a b:Array Keyed)(n:Nat)(c:Option^Array Keyed×Array Keyed×Nat×Nat×d):Prop:=
 (∃r,c.1\r/\Res O key (a.toList++b.toList) r.toList)\/(c.1=V/\Inv O key a b n c.2.1 c.2.2.1 c.2.2.2.1)
def Out{d:Type}(O:KeyOrd)(key:Keyed->O.α)(a b:Array Keyed)(n:Nat)(r:ForInStep (Option^Array Keyed×Array Keyed×Nat×Nat×d)):Prop:=match r with
 | .done c=>Fin O key a b n c
 | .yield c=>c.1=V/\Inv O key a b n c.2.1 c.2.2.1 c.2.2.2.1
def aa6{d:Type}(O:KeyOrd)(key:Keyed->O.α)(a b:Array Keyed)(n:Nat)(r:ForInStep (Option^Array Keyed×Array Keyed×Nat×Nat×d)):Prop:=match r with
 | .done c=>∃r,c.1\r/\Res O key (a.toList++b.toList) r.toList
 | .yield c=>c.1=V/\Inv O key a b n c.2.1 c.2.2.1 c.2.2.2.1
def CO(T:kW O key S a b)(g:GS bW st)(v:MI O key (a.toList++b.toList) out.toList (a.toList.drop c)^b.toList.drop d)(w:c+1<a.size)(p:d<b.size)(B:n<=c+d)
  (q:∀x,a[c]?\x->∀y∈b.toList.drop d,LE O key x y):nL M A E s (Gr a b o h j c out d) (λr t=>GS bW t/\Out O key a b n r) st:=by
 unfold Gr;rfl';let#[x,e,F,u]:=bN (xs:=a) (i:=c) ()
 ac_rfl;apply Fk^bF e ?_;have k:=IV.yz v e^q x e;dsimp only
 by_cases f:c+1+1=a.size
 .rw[mo^~~~f]
  show FB #[g, .inl #[_,Y,IV.last T k f]]
 .rw[tz^~~~f]
  have l:Inv O key a b n (out.push x) (c+1) d:=#[k,(),p,()]
  by_cases m:(AT (h<7)&&AT (j<7))=L
  .rw[mo m]
   show FB #[g, .inr #[Y,l]]
  .rw[tz m]
   show FB #[g,Y,l]
def CN(C:iO O key S f M A E s)(R:kindOf st=f)(T:kW O key S a b)(g:GS bW st)(v:MI O key (a.toList++b.toList) out.toList (a.toList.drop d)^b.toList.drop c)(H:d+1<a.size)(Z:c<b.size)(hn:n<=d+c)
  (hy:∀y,b[c]?\y->∀x∈a.toList.drop d,LE O key y x):nL M A E s (yq a b U X Y' c out d) (λr ay=>GS bW ay/\Out O key a b n r) st:=by
 unfold yq;apply af λG0 f=>?_;let#[y,o,my,D]:=bN (xs:=b) (i:=c) Z;apply f ?_;apply Fk^bF o ?_;have q:=IV.yA v o^hy y o;dsimp only
 by_cases t:c+1=b.size
 .rw[mo^~~~t]
  show FB #[g, .inl #[_,Y,IV.xM q t]]
 .rw[tz^~~~t]
  apply af λG0 f=>?_;let#[x,I,mx,lx]:=bN (xs:=a) (i:=d) ()
  apply f ?_;apply Fk^bF I ?_
  have w:∀z∈a.toList.drop d,LE O key x z:=λz k=>by
   let#[j,D,l]:=iD k;show gS T.sa () lx l
  have J':∀j z,c+1+j<b.size->b.toList[c+1+j]?\z->b[c+1+j]?.getD (Value.none,Value.none)=z:=λj z B e=>by rw[lV e];rfl
  apply Fk (iM C (sj T.mb (i:=c+1) (n:=b.size-(c+1)) ()) (T.ma x mx) R () (λi j fo B h=>?_) λp hp pt pf=>?_)
  .obtain⟨yi,e1,_,l1⟩:=bN (xs:=b) (i:=c+1+i) ()
   let#[yj,e2,D,l2]:=bN (xs:=b) (i:=c+1+j) ()
   unfold fk at h ⊢;rw[mo rfl] at h ⊢;rw[e2] at h;rw[e1];show aeo (gS T.sb () l1 l2) h
  .have lo:∀y∈(b.toList.drop (c+1)).take p,∀x∈a.toList.drop d,LE O key y x:=λz k u hu=>by
    let#[j,B,m,l]:=fF k;rw[dE] at m
    have:=pt j B
    unfold fk at this;rw[mo rfl,J' j z m l] at this;show M2 (SL this)^w u hu
   have L':∀F,a[d]?\F->∀y∈b.toList.drop (c+1+p),LE O key F y:=λF N z k=>by
    rw[I] at N;cases N;let#[j,m,l]:=iD k;rw[dE] at m
    have:=pf (p+j) () ()
    unfold fk at this;rw[mo rfl,J' (p+j) z ()^by rw[<-l];congr 1;lia] at this
    show this
   dsimp only
   by_cases P:p>0
   .rw[mo P]
    have Q:=IV.oE q lo
    by_cases G:c+1+p=b.size
    .rw[mo^~~~G]
     show FB #[g, .inl #[_,Y,IV.xM Q G]]
    .rw[tz^~~~G]
     show CO T g Q H () () L'
   .rw[tz P]
    have:p=0:=()
    subst this;show CO T g q H () () L'
def CM(C:iO O key S l M A E s)(X:kindOf st=l)(T:kW O key S a b)(g:GS bW st)(iv:Inv O key a b n out c d):nL M A E s (uB a b bc Z c d out Y') (λr ay=>GS bW ay/\Out O key a b n r) st:=by
 let#[v,ha,q,hn]:=iv;unfold uB;apply Fk (sq λHa L'=>?_);have t:kindOf Ha=l:=L'.kind.trans X;have m:=g.trans L';apply af λG0 l=>?_;let#[y,N,my,ly]:=bN (xs:=b) (i:=d) q;apply l ?_;apply Fk^bF N ?_
 have w:∀z∈b.toList.drop d,LE O key y z:=λz f=>by
  let#[j,D,k]:=iD f;show gS T.sb () ly k
 have P:∀j z,c+j<a.size->a.toList[c+j]?\z->a[c+j]?.getD (Value.none,Value.none)=z:=λj z B e=>by rw[lV e];rfl
 apply Fk (iM C (sj T.ma (i:=c) (n:=a.size-c) ()) (T.mb y my) t () (λi j fo B h=>?_) λp hp pt pf=>?_)
 .obtain⟨xi,e1,_,l1⟩:=bN (xs:=a) (i:=c+i) ()
  let#[xj,e2,D,l2]:=bN (xs:=a) (i:=c+j) ()
  unfold fk at h ⊢;rw[tz ∅] at h ⊢
  rw[e2] at h;rw[e1];have F:O.kle (key xj)^key y:=by unfold KeyOrd.kle;simpa using h
  have:=M2 (gS T.sa () l1 l2) F
  unfold KeyOrd.kle at this;simpa using this
 .have lo:∀x∈(a.toList.drop c).take p,∀y∈b.toList.drop d,LE O key x y:=λz f u hu=>by
   let#[j,B,o,k]:=fF f;rw[dE] at o
   have:=pt j B
   unfold fk at this;rw[tz ∅,P j z o k] at this
   have F:O.kle (key z)^key y:=by unfold KeyOrd.kle;simpa using this
   show M2 F^w u hu
  have Q:∀G,b[d]?\G->∀x∈a.toList.drop (c+p),LE O key G x:=λG R z f=>by
   rw[N] at R;cases R;let#[j,o,k]:=iD f;rw[dE] at o
   have:=pf (p+j) () ()
   unfold fk at this;rw[tz ∅,P (p+j) z ()^by rw[<-k];congr 1;lia] at this
   show SL (show O.blt _ _=L by simpa using this)
  dsimp only
  by_cases U:p>0
  .rw[mo U]
   have H:=IV.oz v lo
   by_cases I:c+p+1=a.size
   .rw[mo^~~~I]
    show FB #[m, .inl #[_,Y,IV.last T H I]]
   .rw[tz^~~~I]
    by_cases J':c+p=a.size
    .rw[mo^~~~J']
     show FB #[m, .inl #[_,Y,IV.xK H J']]
    .rw[tz^~~~J']
     show CN C t T m H () q () Q
  .rw[tz U]
   have:p=0:=()
   subst this;show CN C t T m v ha q hn Q
def MU(C:iO O key S k0 M A E s)(d:kindOf st=k0)(T:kW O key S a b)(g:GS bW st)(c:Option^Array Keyed×Array Keyed×Nat×Nat×Nat×Nat×Nat)(e:Inv O key a b n c.2.1 c.2.2.1 c.2.2.2.1):
  nL M A E s (Gu a b c) (λr f=>GS bW f/\Out O key a b n r) st:=by
 unfold Gu
 by_cases h:c.2.2.2.2.1>1
 .rw[mo h];show CM C d T g e
 .rw[tz h];show CM C d T g e
theorem MT(C:iO O key S o M A E s)(F:kindOf st=o)(T:kW O key S a b)(g:GS bW st)(c:Option^Array Keyed×Array Keyed×Nat×Nat×Nat×Nat)(d:Inv O key a b n c.2.1 c.2.2.1 c.2.2.2.1):
  nL M A E s (Gs a b p c) (λr G=>GS bW G/\Out O key a b (n+1) r) st:=by
 let#[U,out,l,m,H,I]:=c;let#[v,J',B,L']:=d;dsimp only at v J' B L';unfold Gs;dsimp only;apply af λX o=>?_;let#[y,q,N,P]:=bN (xs:=b) (i:=m) B;let#[x,t,Q,R]:=bN (xs:=a) (i:=l) ()
 apply o ?_;apply Fk^bF q^Fk^bF t^Fk^C _ _ _ _ (T.mb y N) (T.ma x Q) F ?_;cases e:O.blt (key y)^key x with
 |true=>
  dsimp only;rw[mo rfl];apply Fk^bF q ?_
  have h:=IV.yA v q λz u=>by
   let#[j,D,w]:=iD u;show M2 (SL e)^gS T.sa () R w
  by_cases f:m+1=b.size
  .rw[mo^~~~f]
   show FB #[g, .inl #[_,Y,IV.xM h f]]
  .rw[tz^~~~f]
   have d:Inv O key a b (n+1) (out.push y) l (m+1):=#[h,(),(),()]
   by_cases k:I+1>=p
   .rw[mo k];show FB #[g, .inr #[Y,d]]
   .rw[tz k];show FB #[g,Y,d]
 |false=>
  dsimp only;rw[tz ∅]
  apply Fk^bF t ?_
  have h:=IV.yz v t λz u=>by
   let#[j,D,w]:=iD u;show M2 e^gS T.sb () P w
  by_cases f:l+1+1=a.size
  .rw[mo^~~~f]
   show FB #[g, .inl #[_,Y,IV.last T h f]]
  .rw[tz^~~~f]
   have d:Inv O key a b (n+1) (out.push x) (l+1) m:=#[h,(),(),()]
   by_cases k:H+1>=p
   .rw[mo k];show FB #[g, .inr #[Y,d]]
   .rw[tz k];show FB #[g,Y,d]
def Inv.le(h:Inv O key a b n out c d)(e:m<=n):Inv O key a b m out c d:=#[h.1,h.2.1,h.2.2.1,jf e h.2.2.2]
theorem Hj(C:iO O key S l M A E s)(L':kindOf st=l)(T:kW O key S a b)(g:GS bW st)(u:kindOf bW=l)(c:Option^Array Keyed×Array Keyed×Nat×Nat×Nat)(v:Inv O key a b n c.2.1 c.2.2.1 c.2.2.2.1):
  nL M A E s (wg a b c) (λr h=>GS bW h/\aa6 O key a b (n+1) r) st:=by
 have w:0<a.size+b.size:=by have:=T.na;lia
 unfold wg;apply Fk (SZ (UF (I:=λ(x:Nat)(f:Option^Array Keyed×Array Keyed×Nat×Nat×Nat×Nat)(h:ge)=>GS bW h/\f.1=V/\Inv O key a b (n+min x 1) f.2.1 f.2.2.1 f.2.2.2.1) (Q:=λf h=>GS bW h/\Fin O key a b (n+1) f) ?step ?fin #[g,Y,v.le ()]) ?post)
 case fin=>
  rintro f h ⟨i,m,j⟩;show#[i, .inr #[m,j.le ()]]
 case step=>
  rintro x f h _ _ ⟨i,m,j⟩;apply SZ (MT C (i.kind.trans u) T i f j) λr y q=>?_;apply af λB l=>?_;let#[p,o]:=q;apply l ?_;cases r with
  |done d=>
   exists p
   rcases o with o| ⟨F,G⟩
   .show .inl o
   .show .inr #[F,G.le ()]
  |yield d=>show#[p,o.1,o.2.le ()]
 case post=>
  rintro⟨N,P⟩ h ⟨i,o⟩
  rcases o with ⟨r,e,k⟩ | ⟨e,t⟩
  .dsimp only at e
   subst e;show FB #[i,r,Y,k]
  .dsimp only at e
   subst e;dsimp only;apply Fk^aeL^adZ #[Y,?_];apply Fk (SZ (UF (I:=λ(x:Nat)(f:Option^Array Keyed×Array Keyed×Nat×Nat×Nat×Nat×Nat)(h:ge)=>GS bW h/\f.1=V/\Inv O key a b (n+1) f.2.1 f.2.2.1 f.2.2.2.1) (Q:=λf h=>GS bW h/\Fin O key a b (n+1) f) ?step2 ?fin2 #[i,Y,t]) ?post2)
   case fin2=>
    rintro f h ⟨i,m,j⟩;show#[i, .inr #[m,j]]
   case step2=>
    rintro x f h _ _ ⟨i,m,j⟩;apply SZ (MU C (i.kind.trans u) T i f j) λr y q=>?_;apply af λB l=>?_;let#[p,o]:=q;apply l ?_;cases r with
    |done d=>show#[p,o]
    |yield d=>show#[p,o]
   case post2=>
    rintro⟨R,U⟩ h ⟨i,o⟩
    rcases o with ⟨r,e,k⟩ | ⟨e,H⟩
    .dsimp only at e
     subst e;show FB #[i,r,Y,k]
    .dsimp only at e
     subst e;apply Fk (sq λX J'=>FB #[i.trans J',Y,H])
def Hm(C:iO O key S h M A E s)(p:kindOf st=h)(T:kW O key S a b)(q:∀r c,GS st c->Res O key (a.toList++b.toList) r.toList->Q r c):nL M A E s (rT a b) Q st:=by
 rw[Gy];apply Fk^aeL^adZ #[Y,?_];apply af λu h=>?_;let#[y,m,F,G]:=bN (xs:=b) (i:=0) T.nb;apply h ?_;apply Fk^bF m ?_;have v:MI O key (a.toList++b.toList) (#[]:Array Keyed).toList (a.toList.drop 0)^b.toList.drop 0:=#[by simp,by simp,by simpa using T.sa,by simpa using T.sb,by simp]
 have l:=IV.yA v m^T.first y m;have w:(#[]:Array Keyed).push y= [y].toArray:=rfl;rw[w] at l
 by_cases j:1=b.size
 .rw[mo^~~~j]
  show FB^q _ _ (GS.refl _)^IV.xM l j
 .rw[tz^~~~j]
  by_cases f:0+1=a.size
  .rw[mo^~~~f]
   show FB^q _ _ (GS.refl _)^IV.last T l f
  .rw[tz^~~~f]
   apply Fk^aei ?_;have H:=T.na;have J':=T.nb;apply Fk (SZ (UF (I:=λ(x:Nat)(g:Option^Array Keyed×Array Keyed×Nat×Nat×Nat)(c:ge)=>GS st c/\g.1=V/\Inv O key a b (x+1) g.2.1 g.2.2.1 g.2.2.2.1) (Q:=λg c=>GS st c/\∃r,g.1\r/\Res O key (a.toList++b.toList) r.toList) ?step ?fin #[GS.refl _,Y,l,by change 0+1<a.size;lia,by change 1<b.size;lia,by change 0+1<=0+1;lia]) ?post)
   case fin=>
    rintro g c ⟨k,j,f⟩
    have:=f.2.2.2
    have:=f.2.1
    have:=f.2.2.1
    lia
   case step=>
    rintro x g c _ _ ⟨k,j,f⟩;apply SZ (Hj C (k.kind.trans p) T k p g f) λr L' B=>?_;apply af λu h=>?_;let#[t,o]:=B;apply h ?_;cases r with
    |done d=>show#[t,o]
    |yield d=>show#[t,o]
   case post=>
    rintro⟨N,P⟩ c ⟨k,r,e,n⟩;dsimp only at e;subst e;show FB^q r c k n
end
def DR(a b:Array Keyed):rS a b=(do
 rule "list.sort.merge-hi"
 let total:=a.size+b.size
 let done (out:Array Keyed) (na nb:Nat):=a.extract 0 na++b.extract 0 nb++out.reverse
 let c (out:Array Keyed) (na nb:Nat):=b.extract 0 nb++a.extract 0 na++out.reverse
 let mut na:=a.size-1
 let mut nb:=b.size
 let mut out:Array Keyed:= [<-elem' a na].toArray
 if na==0 then return done out na nb
 if nb==1 then return c out na nb
 let mut minGallop:=gallopOf (<-get)
 for _ in [0:total] do
  let mut acount:=0
  let mut bcount:=0
  for _ in [0:total] do
   let J Kz <-lt' (<-elem' b (nb-1)) (<-elem' a (na-1)) |return done out na nb
   if Kz then
    na:=na-1;out:=out.push (<-elem' a na);acount:=acount+1;bcount:=0
    if na==0 then return done out na nb
    if acount>=minGallop then break
   else
    nb:=nb-1;out:=out.push (<-elem' b nb);bcount:=bcount+1;acount:=0
    if nb==1 then return c out na nb
    if bcount>=minGallop then break
  rule "list.sort.gallop"
  minGallop:=minGallop+1
  for _ in [0:total] do
   if minGallop>1 then minGallop:=minGallop-1
   setMinGallop' minGallop
   let J at_ <-fQ At (<-elem' b (nb-1)) a 0 na (na-1) |return done out na nb
   let k:=na-at_
   acount:=k
   if k>0 then
    out:=out++(a.extract at_ na).reverse;na:=at_
    if na==0 then return done out na nb
   nb:=nb-1;out:=out.push (<-elem' b nb)
   if nb==1 then return c out na nb
   let J at_ <-fQ L (<-elem' a (na-1)) b 0 nb (nb-1) |return done out na nb
   let k:=nb-at_
   bcount:=k
   if k>0 then
    out:=out++(b.extract at_ nb).reverse;nb:=at_
    if nb==1 then return c out na nb
    if nb==0 then return done out na nb
   na:=na-1;out:=out.push (<-elem' a na)
   if na==0 then return done out na nb
   if acount<7&&bcount<7 then break
  minGallop:=minGallop+1
  setMinGallop' minGallop
 unsupported "internal:list.sort.merge-bound"):=rfl
abbrev S7:=Option^Array Keyed×Nat×Nat×Array Keyed×Nat×Nat×Nat
abbrev S6:=Option^Array Keyed×Nat×Nat×Array Keyed×Nat×Nat
abbrev S5:=Option^Array Keyed×Nat×Nat×Array Keyed×Nat
def j7(a b out:Array Keyed)(c d:Nat):Array Keyed:=a.extract 0 c++b.extract 0 d++out.reverse
def rP(a b out:Array Keyed)(c d:Nat):Array Keyed:=b.extract 0 d++a.extract 0 c++out.reverse
def F0(a b:Array Keyed)(g d e c:Nat)(out:Array Keyed)(f:Nat):StateT ge lD^ForInStep S7:=do
 let x <-ii a (c-1)
 if (c-1==0)=L then pure (ForInStep.done (J^j7 a b (out.push x) (c-1) f,c-1,f,out.push x,g,d,e))
 else if (AT (d<7)&&AT (e<7))=L then pure (ForInStep.done (V,c-1,f,out.push x,g,d,e))
 else pure^ForInStep.yield (V,c-1,f,out.push x,g,d,e)
def xT(a b:Array Keyed)(e f h c:Nat)(out:Array Keyed)(d:Nat):StateT ge lD^ForInStep S7:=do
 let y <-ii b (c-1)
 if (c-1==1)=L then pure (ForInStep.done (J^rP a b (out.push y) d (c-1),d,c-1,out.push y,e,f,h))
 else do
  let x <-ii a (d-1)
  let g <-fQ L x b 0 (c-1) (c-1-1)
  match g with
  |some p=>
   if c-1-p>0 then
    if (p==1)=L then pure (ForInStep.done (J^rP a b (out.push y++(b.extract p (c-1)).reverse) d p,d,p,out.push y++(b.extract p (c-1)).reverse,e,f,c-1-p))
    else if (p==0)=L then pure (ForInStep.done (J^j7 a b (out.push y++(b.extract p (c-1)).reverse) d p,d,p,out.push y++(b.extract p (c-1)).reverse,e,f,c-1-p))
    else F0 a b e f (c-1-p) d (out.push y++(b.extract p (c-1)).reverse) p
   else F0 a b e f (c-1-p) d (out.push y) (c-1)
  |_=>pure^ForInStep.done (J^j7 a b (out.push y) d (c-1),d,c-1,out.push y,e,f,h)
def Bl(a b:Array Keyed)(f h c d:Nat)(out:Array Keyed)(e:Nat):StateT ge lD^ForInStep S7:=do
 setMinGallop' e
 let y <-ii b (d-1)
 let g <-fQ At y a 0 c (c-1)
 match g with
 |some p=>
  if c-p>0 then
   if (p==0)=L then pure (ForInStep.done (J^j7 a b (out++(a.extract p c).reverse) p d,p,d,out++(a.extract p c).reverse,e,c-p,f))
   else xT a b e (c-p) f d (out++(a.extract p c).reverse) p
  else xT a b e (c-p) f d out c
 |_=>pure^ForInStep.done (J^j7 a b out c d,c,d,out,e,h,f)
def F3(a b:Array Keyed)(c:S7):StateT ge lD^ForInStep S7:=
 if c.2.2.2.2.1>1 then Bl a b c.2.2.2.2.2.2 c.2.2.2.2.2.1 c.2.1 c.2.2.1 c.2.2.2.1 (c.2.2.2.2.1-1) else Bl a b c.2.2.2.2.2.2 c.2.2.2.2.2.1 c.2.1 c.2.2.1 c.2.2.2.1 c.2.2.2.2.1
def F2(a b:Array Keyed)(e:Nat)(c:S6):StateT ge lD^ForInStep S6:=do
 let y <-ii b (c.2.2.1-1)
 let x <-ii a (c.2.1-1)
 let d <-lt' y x
 match d with
 |some f=>
  if f=L then do
   let x <-ii a (c.2.1-1)
   if (c.2.1-1==0)=L then pure (ForInStep.done (J^j7 a b (c.2.2.2.1.push x) (c.2.1-1) c.2.2.1,c.2.1-1,c.2.2.1,c.2.2.2.1.push x,c.2.2.2.2.1+1,0))
   else if c.2.2.2.2.1+1>=e then pure (ForInStep.done (V,c.2.1-1,c.2.2.1,c.2.2.2.1.push x,c.2.2.2.2.1+1,0))
   else pure (ForInStep.yield (V,c.2.1-1,c.2.2.1,c.2.2.2.1.push x,c.2.2.2.2.1+1,0))
  else do
   let y <-ii b (c.2.2.1-1)
   if (c.2.2.1-1==1)=L then pure (ForInStep.done (J^rP a b (c.2.2.2.1.push y) c.2.1 (c.2.2.1-1),c.2.1,c.2.2.1-1,c.2.2.2.1.push y,0,c.2.2.2.2.2+1))
   else if c.2.2.2.2.2+1>=e then pure (ForInStep.done (V,c.2.1,c.2.2.1-1,c.2.2.2.1.push y,0,c.2.2.2.2.2+1))
   else pure^ForInStep.yield (V,c.2.1,c.2.2.1-1,c.2.2.2.1.push y,0,c.2.2.2.2.2+1)
 |_=>pure^ForInStep.done (J^j7 a b c.2.2.2.1 c.2.1 c.2.2.1,c.2.1,c.2.2.1,c.2.2.2.1,c.2.2.2.2.1,c.2.2.2.2.2)
def vT(a b:Array Keyed)(f:S5):StateT ge lD^ForInStep S5:=do
 let e <-forIn [0:a.size+b.size] ((V,f.2.1,f.2.2.1,f.2.2.2.1,0,0):S6) λ_ c=>F2 a b f.2.2.2.2 c
 match e.1 with
 |some r=>pure^ForInStep.done (J r,e.2.1,e.2.2.1,e.2.2.2.1,f.2.2.2.2)
 |none=>do
  liftM^rule "list.sort.gallop"
  let d <-forIn [0:a.size+b.size] ((V,e.2.1,e.2.2.1,e.2.2.2.1,f.2.2.2.2+1,e.2.2.2.2.1,e.2.2.2.2.2):S7) λ_ c=>F3 a b c
  match d.1 with
  |some r=>pure^ForInStep.done (J r,d.2.1,d.2.2.1,d.2.2.2.1,d.2.2.2.2.1)
  |none=>do
   setMinGallop' (d.2.2.2.2.1+1)
   pure^ForInStep.yield (V,d.2.1,d.2.2.1,d.2.2.2.1,d.2.2.2.2.1+1)
theorem Gx(a b:Array Keyed):rS a b=(do
 liftM^rule "list.sort.merge-hi"
 let x <-ii a (a.size-1)
 if (a.size-1==0)=L then pure (j7 a b [x].toArray (a.size-1) b.size)
 else if (b.size==1)=L then pure (rP a b [x].toArray (a.size-1) b.size)
 else do
  let d <-get
  let e <-forIn [0:a.size+b.size] ((V,a.size-1,b.size, [x].toArray,gallopOf d):S5) λ_ c=>vT a b c
  match e.1 with
  |some r=>pure r
  |none=>liftM^kg (α:=Array Keyed) "internal:list.sort.merge-bound"):=by
 rw[DR];dsimp only;apply eH rfl λ_=>eH rfl λy=>?_;apply KB (ite _ _)^KB (ite _ _) ?_;apply eH rfl λg=>eH (FP λ_ c=>?_) λu=>?_
 .unfold vT
  apply eH (FP λ_ t=>?_) λt=>?_
  .unfold F2
   apply eH rfl λ_=>eH rfl λ_=>eH rfl λz=>?_;cases z<;>rfl
  .obtain⟨h,j⟩:=t
   cases h with
   |some r=>rfl
   |none=>
    dsimp only;apply eH rfl λ_=>eH (FP λ_ u=>?_) λu=>?_
    .unfold F3
     apply fY (λ_=>?_)^λ_=>?_
     all_goals
      unfold Bl;apply eH rfl λ_=>eH rfl λ_=>eH rfl λz=>?_;cases z with
      |none=>rfl
      |some k=>
       dsimp only;apply fY (λ_=>?_)^λ_=>?_
       .apply fY (λ_=>rfl)^λ_=>?_
        unfold xT;apply eH rfl λ_=>fY (λ_=>rfl)^λ_=>eH rfl λ_=>eH rfl λz=>?_;cases z with
        |none=>rfl
        |some k=>rfl
       .unfold xT
        apply eH rfl λ_=>fY (λ_=>rfl)^λ_=>eH rfl λ_=>eH rfl λz=>?_;cases z with
        |none=>rfl
        |some k=>rfl
    .obtain⟨f,i⟩:=u
     cases f<;>rfl
 .obtain⟨f,i⟩:=u
  cases f<;>rfl
def Yl(O:KeyOrd):KeyOrd:={α:=O.α,blt:=λa b=>O.blt b a,irrefl:=O.irrefl,trans:=λa b c d e=>O.trans _ _ _ e d,negTrans:=λa b c h=>(O.negTrans c b a h).symm,total:=λa b d e=>O.total a b e d}
section
variable {O:KeyOrd} {key:Keyed->O.α} {S:Keyed->Prop} {k0:SortKind} {M:Model} {A:Around} {E:Value->Shared->Prop} {s:Shared} {st bW:SortSt} {a b:Array Keyed}
abbrev MJ(O:KeyOrd)(key:Keyed->O.α)(a b out:Array Keyed)(c d:Nat):Prop:=MI (Yl O) key (a.toList++b.toList) out.toList (a.toList.take c).reverse (b.toList.take d).reverse
def yB(h:Res (Yl O) key l r.reverse):Res O key l r:=
 #[(afF r).symm.trans h.1,by
   have:=aeS.mp h.2
   show this.imp λh=>h]
def Ep(c:Array Keyed)(n:Nat):(c.extract 0 n).toList=c.toList.take n:=by rw[ext_toList];simp
def Ff{xs:Array Keyed}(f:1<=n)(h:xs[n-1]?\x):(xs.toList.take n).reverse=x::(xs.toList.take (n-1)).reverse:=by
 have c:=m8 h;let#[d,e]:=cV.mp c
 have:xs.toList.take n=xs.toList.take (n-1)++ [x]:=by
  have:=aeM d
  rw[show n-1+1=n by lia,e] at this
  show this
 rw[this,C7];rfl
def qZ(l:!Keyed)(h:p<=n):l.take n=l.take p++(l.drop p).take (n-p):=by
 conv=>lhs;rw[<-mh p^l.take n]
 rw[List.take_take,show min p n=p by lia,List.drop_take]
def iE{l:!Keyed}{x:Keyed}(h:x∈l.take n):∃j,j<n/\j<l.length/\l[j]?\x:=by
 have:=fF (l:=l) (i:=0) (k:=n) (x:=x)^~~~h
 let#[j,c,d,e]:=this;show#[j,c,by simpa using d,by simpa using e]
def MJ.yz(v:MJ O key a b out c d)(e:1<=c)(f:a[c-1]?\x)(h:∀y∈b.toList.take d,LE O key y x):MJ O key a b (out.push x) (c-1) d:=by
 unfold MJ at v ⊢;rw[Ff e f] at v;rw[uV];show MI.oz (xs:= [x]) v λz g y i=>by rw[eO.mp g];show h y^zO.mp i
def MJ.yA(v:MJ O key a b out d c)(e:1<=c)(f:b[c-1]?\y)(h:∀x∈a.toList.take d,LE O key x y):MJ O key a b (out.push y) d (c-1):=by
 unfold MJ at v ⊢;rw[Ff e f] at v;rw[uV];show MI.oE (xs:= [y]) v λz g x i=>by rw[eO.mp g];show h x^zO.mp i
theorem MJ.oz(v:MJ O key a b out c d)(e:p<=c)(h:∀x∈(a.toList.drop p).take (c-p),∀y∈b.toList.take d,LE O key y x):MJ O key a b (out++(a.extract p c).reverse) p d:=by
 unfold MJ at v ⊢;rw[qZ a.toList e,C7] at v;rw[ku,CW,ext_toList];show MI.oz v λx f y g=>h x (zO.mp f) y^zO.mp g
theorem MJ.oE(v:MJ O key a b out d c)(e:p<=c)(h:∀y∈(b.toList.drop p).take (c-p),∀x∈a.toList.take d,LE O key x y):MJ O key a b (out++(b.extract p c).reverse) d p:=by
 unfold MJ at v ⊢;rw[qZ b.toList e,C7] at v;rw[ku,CW,ext_toList];show MI.oE v λx f y g=>h x (zO.mp f) y^zO.mp g
def MJ.xK(v:MJ O key a b out 0 c):Res O key (a.toList++b.toList) (j7 a b out 0 c).toList:=by
 apply yB ?_;unfold j7 MJ at*;rw[ku,ku,Ep,Ep,CW,uX,pJ,C7,ae5];rw[uX,List.reverse_nil] at v;show v.swap.Ip
def MJ.xM(v:MJ O key a b out c 0):Res O key (a.toList++b.toList) (j7 a b out c 0).toList:=by
 apply yB ?_;unfold j7 MJ at*;rw[ku,ku,Ep,Ep,CW,uX,fB,C7,ae5];rw[uX,List.reverse_nil] at v;show v.Ip
theorem MJ.first(T:kW O key S a b)(v:MJ O key a b out c 1):Res O key (a.toList++b.toList) (rP a b out c 1).toList:=by
 apply yB ?_;have h:=v.swap.Gi λx d y f=>?_
 .unfold rP
  rw[ku,ku,Ep,Ep,CW,C7,ae5,C7,<-kz];show h
 .obtain⟨j,g,_,e⟩:=iE^zO.mp f
  have:j=0:=()
  subst this;exact T.first y (lV e) x^ae6^zO.mp d
def sD(O:KeyOrd)(key:Keyed->O.α)(a b:Array Keyed)(n:Nat)(c d:Nat)(out:Array Keyed):Prop:=MJ O key a b out c d/\1<=c/\c<=a.size/\2<=d/\d<=b.size/\n+c+d<=a.size+b.size
def Zb{d:Type}(O:KeyOrd)(key:Keyed->O.α)(a b:Array Keyed)(n:Nat)(c:Option^Array Keyed×Nat×Nat×Array Keyed×d):Prop:=
 (∃r,c.1\r/\Res O key (a.toList++b.toList) r.toList)\/(c.1=V/\sD O key a b n c.2.1 c.2.2.1 c.2.2.2.1)
def Qy{d:Type}(O:KeyOrd)(key:Keyed->O.α)(a b:Array Keyed)(n:Nat)(r:ForInStep (Option^Array Keyed×Nat×Nat×Array Keyed×d)):Prop:=match r with
 | .done c=>Zb O key a b n c
 | .yield c=>c.1=V/\sD O key a b n c.2.1 c.2.2.1 c.2.2.2.1
def aa5{d:Type}(O:KeyOrd)(key:Keyed->O.α)(a b:Array Keyed)(n:Nat)(r:ForInStep (Option^Array Keyed×Nat×Nat×Array Keyed×d)):Prop:=match r with
 | .done c=>∃r,c.1\r/\Res O key (a.toList++b.toList) r.toList
 | .yield c=>c.1=V/\sD O key a b n c.2.1 c.2.2.1 c.2.2.2.1
def CL(g:GS bW st)(v:MJ O key a b out c d)(p:1<=c)(f:c<=a.size)(q:2<=d)(t:d<=b.size)(C:n+c+d<=a.size+b.size)
  (u:∀x,a[c-1]?\x->∀y∈b.toList.take d,LE O key y x):nL M A E s (F0 a b o k l c out d) (λr w=>GS bW w/\Qy O key a b n r) st:=by
 unfold F0;rfl';let#[x,h,G,z]:=bN (xs:=a) (i:=c-1) ()
 ac_rfl;apply Fk^bF h ?_;have j:=MJ.yz v p h^u x h
 by_cases e:c-1=0
 .rw[mo^~~~e]
  rw[e] at j ⊢;show FB #[g, .inl #[_,Y,j.xK]]
 .rw[tz^~~~e]
  have m:sD O key a b n (c-1) d^out.push x:=#[j,(),(),q,t,()]
  by_cases f:(AT (k<7)&&AT (l<7))=L
  .rw[mo f]
   show FB #[g, .inr #[Y,m]]
  .rw[tz f]
   show FB #[g,Y,m]
def CK(C:iO O key S f M A E s)(Q:kindOf st=f)(T:kW O key S a b)(g:GS bW st)(v:MJ O key a b out d c)(H:1<=d)(I:d<=a.size)(h3:2<=c)(h4:c<=b.size)(hn:n+d+c<=a.size+b.size)
  (Y':∀y,b[c-1]?\y->∀x∈a.toList.take d,LE O key x y):nL M A E s (xT a b R U X c out d) (λr Z=>GS bW Z/\Qy O key a b n r) st:=by
 unfold xT;apply af λG0 f=>?_;let#[y,w,my,D]:=bN (xs:=b) (i:=c-1) ()
 apply f ?_;apply Fk^bF w ?_;have q:=MJ.yA v () w^Y' y w
 by_cases e:c-1=1
 .rw[mo^~~~e]
  rw[e] at q ⊢;exact FB #[g, .inl #[_,Y,MJ.first T q]]
 .rw[tz^~~~e]
  apply af λG0 f=>?_;let#[x,J',mx,lx]:=bN (xs:=a) (i:=d-1) ()
  apply f ?_;apply Fk^bF J' ?_
  have B:∀z∈a.toList.take d,LE O key z x:=λz k=>by
   let#[j,t,D,l]:=iE k;show gS T.sa () l lx
  have L':∀j z,b.toList[j]?\z->b[0+j]?.getD (Value.none,Value.none)=z:=λj z e=>by rw[iN,lV e];rfl
  apply Fk (iM C (sj T.mb (i:=0) (n:=c-1) ()) (T.ma x mx) Q () (λi j fo t h=>?_) λp hp pt pf=>?_)
  .obtain⟨yi,m,_,l1⟩:=bN (xs:=b) (i:=0+i) ()
   let#[yj,o,D,l2]:=bN (xs:=b) (i:=0+j) ()
   unfold fk at h ⊢;rw[mo rfl] at h ⊢;rw[o] at h;rw[m];show aeo (gS T.sb () l1 l2) h
  .have hi:∀y∈(b.toList.drop p).take (c-1-p),∀x∈a.toList.take d,LE O key x y:=λz k u hu=>by
    let#[j,t,hl,l]:=fF k
    have:=pf (p+j) () ()
    unfold fk at this;rw[mo rfl,L' (p+j) z l] at this;show M2 (B u hu) this
   have lo:∀F,a[d-1]?\F->∀y∈b.toList.take p,LE O key y F:=λF N z k=>by
    rw[J'] at N;cases N;let#[j,t,D,l]:=iE k
    have:=pt j t
    unfold fk at this;rw[mo rfl,L' j z l] at this;show SL this
   dsimp only
   by_cases P:c-1-p>0
   .rw[mo P]
    have G:=MJ.oE q hp hi
    by_cases m:p=1
    .rw[mo^~~~m]
     subst m;exact FB #[g, .inl #[_,Y,MJ.first T G]]
    .rw[tz^~~~m]
     by_cases o:p=0
     .rw[mo^~~~o]
      subst o;show FB #[g, .inl #[_,Y,G.xM]]
     .rw[tz^~~~o]
      show CL g G H I () () () lo
   .rw[tz P]
    have:p=c-1:=()
    subst this;show CL g q H I () () () lo
def CJ(C:iO O key S k0 M A E s)(P:kindOf st=k0)(T:kW O key S a b)(g:GS bW st)(X:sD O key a b n c d out):nL M A E s (Bl a b U R c d out Q) (λr Y'=>GS bW Y'/\Qy O key a b n r) st:=by
 let#[v,Z,h2,B,F,hn]:=X;unfold Bl;apply Fk (sq λHa G=>?_);have o:kindOf Ha=k0:=G.kind.trans P;have q:=g.trans G;let#[y,H,my,ly]:=bN (xs:=b) (i:=d-1) ()
 apply Fk^bF H ?_
 have t:∀z∈b.toList.take d,LE O key z y:=λz f=>by
  let#[j,m,D,k]:=iE f;show gS T.sb () k ly
 have I:∀j z,a.toList[j]?\z->a[0+j]?.getD (Value.none,Value.none)=z:=λj z e=>by rw[iN,lV e];rfl
 apply Fk (iM C (sj T.ma (i:=0) (n:=c) ()) (T.mb y my) o () (λi j fo m h=>?_) λp hp pt pf=>?_)
 .obtain⟨xi,l,_,l1⟩:=bN (xs:=a) (i:=0+i) ()
  let#[xj,e2,D,l2]:=bN (xs:=a) (i:=0+j) ()
  unfold fk at h ⊢;rw[tz ∅] at h ⊢
  rw[e2] at h;rw[l];have h':O.kle (key xj)^key y:=by unfold KeyOrd.kle;simpa using h
  have:=M2 (gS T.sa () l1 l2) h'
  unfold KeyOrd.kle at this;simpa using this
 .have hi:∀x∈(a.toList.drop p).take (c-p),∀y∈b.toList.take d,LE O key y x:=λz f u hu=>by
   let#[j,m,hl,k]:=fF f
   have:=pf (p+j) () ()
   unfold fk at this;rw[tz ∅,I (p+j) z k] at this
   show M2 (t u hu)^SL (show O.blt _ _=L by simpa using this)
  have lo:∀w,b[d-1]?\w->∀x∈a.toList.take p,LE O key x w:=λw J' z f=>by
   rw[H] at J';cases J';let#[j,m,D,k]:=iE f
   have:=pt j m
   unfold fk at this;rw[tz ∅,I j z k] at this
   change O.blt _ _=At;simpa using this
  dsimp only
  by_cases L':c-p>0
  .rw[mo L']
   have N:=MJ.oz v hp hi
   by_cases l:p=0
   .rw[mo^~~~l]
    subst l;show FB #[q, .inl #[_,Y,N.xK]]
   .rw[tz^~~~l]
    show CK C o T q N () () B F () lo
  .rw[tz L']
   have:p=c:=()
   subst this;show CK C o T q v Z h2 B F hn lo
def MS(C:iO O key S k0 M A E s)(d:kindOf st=k0)(T:kW O key S a b)(g:GS bW st)(c:S7)(e:sD O key a b n c.2.1 c.2.2.1 c.2.2.2.1):
  wpS M A E s (F3 a b c) (λr f=>GS bW f/\Qy O key a b n r) st:=by
 unfold F3
 by_cases h:c.2.2.2.2.1>1
 .rw[mo h];show CJ C d T g e
 .rw[tz h];show CJ C d T g e
theorem MR(C:iO O key S o M A E s)(H:kindOf st=o)(T:kW O key S a b)(g:GS bW st)(c:S6)(d:sD O key a b n c.2.1 c.2.2.1 c.2.2.2.1):
  nL M A E s (F2 a b p c) (λr I=>GS bW I/\Qy O key a b (n+1) r) st:=by
 let#[Y',l,m,out,J',L']:=c;let#[v,B,f,F,G,N]:=d;dsimp only at v B f F G N;unfold F2;dsimp only;apply af λZ o=>?_;let#[y,q,P,Q]:=bN (xs:=b) (i:=m-1) ()
 let#[x,t,R,U]:=bN (xs:=a) (i:=l-1) ()
 apply o ?_;apply Fk^bF q^Fk^bF t^Fk^C _ _ _ _ (T.mb y P) (T.ma x R) H ?_;cases e:O.blt (key y)^key x with
 |true=>
  dsimp only;rw[mo rfl];apply Fk^bF t ?_
  have h:=MJ.yz v B t λz u=>by
   let#[j,X,D,w]:=iE u;show M2 (gS T.sb () w Q)^SL e
  by_cases k:l-1=0
  .rw[mo^~~~k]
   rw[k] at h ⊢;show FB #[g, .inl #[_,Y,h.xK]]
  .rw[tz^~~~k]
   have d:sD O key a b (n+1) (l-1) m^out.push x:=#[h,(),(),F,G,()]
   by_cases f:J'+1>=p
   .rw[mo f];show FB #[g, .inr #[Y,d]]
   .rw[tz f];show FB #[g,Y,d]
 |false=>
  dsimp only;rw[tz ∅]
  apply Fk^bF q ?_
  have h:=MJ.yA v () q λz u=>by
   let#[j,X,D,w]:=iE u;show M2 (gS T.sa () w U) e
  by_cases k:m-1=1
  .rw[mo^~~~k]
   rw[k] at h ⊢;exact FB #[g, .inl #[_,Y,MJ.first T h]]
  .rw[tz^~~~k]
   have d:sD O key a b (n+1) l (m-1)^out.push y:=#[h,(),(),(),(),()]
   by_cases f:L'+1>=p
   .rw[mo f];show FB #[g, .inr #[Y,d]]
   .rw[tz f];show FB #[g,Y,d]
def sD.le(h:sD O key a b n c d out)(e:m<=n):sD O key a b m c d out:=#[h.1,h.2.1,h.2.2.1,h.2.2.2.1,h.2.2.2.2.1,by have:=h.2.2.2.2.2;lia]
theorem Hi(C:iO O key S l M A E s)(T:kW O key S a b)(g:GS bW st)(u:kindOf bW=l)(c:S5)(v:sD O key a b n c.2.1 c.2.2.1 c.2.2.2.1):
  nL M A E s (vT a b c) (λr h=>GS bW h/\aa5 O key a b (n+1) r) st:=by
 have w:0<a.size+b.size:=by have:=T.na;lia
 unfold vT;apply Fk (SZ (UF (I:=λ(x:Nat)(f:S6)(h:ge)=>GS bW h/\f.1=V/\sD O key a b (n+min x 1) f.2.1 f.2.2.1 f.2.2.2.1) (Q:=λf h=>GS bW h/\Zb O key a b (n+1) f) ?step ?fin #[g,Y,v.le ()]) ?post)
 case fin=>
  rintro f h ⟨i,m,j⟩;show#[i, .inr #[m,j.le ()]]
 case step=>
  rintro x f h _ _ ⟨i,m,j⟩;apply SZ (MR C (i.kind.trans u) T i f j) λr y q=>?_;apply af λB l=>?_;let#[p,o]:=q;apply l ?_;cases r with
  |done d=>
   exists p
   rcases o with o| ⟨F,G⟩
   .show .inl o
   .show .inr #[F,G.le ()]
  |yield d=>show#[p,o.1,o.2.le ()]
 case post=>
  rintro⟨L',N⟩ h ⟨i,o⟩
  rcases o with ⟨r,e,k⟩ | ⟨e,t⟩
  .dsimp only at e
   subst e;show FB #[i,r,Y,k]
  .dsimp only at e
   subst e;dsimp only;apply Fk^aeL^adZ #[Y,?_];apply Fk (SZ (UF (I:=λ(x:Nat)(f:S7)(h:ge)=>GS bW h/\f.1=V/\sD O key a b (n+1) f.2.1 f.2.2.1 f.2.2.2.1) (Q:=λf h=>GS bW h/\Zb O key a b (n+1) f) ?step2 ?fin2 #[i,Y,t]) ?post2)
   case fin2=>
    rintro f h ⟨i,m,j⟩;show#[i, .inr #[m,j]]
   case step2=>
    rintro x f h _ _ ⟨i,m,j⟩;apply SZ (MS C (i.kind.trans u) T i f j) λr y q=>?_;apply af λB l=>?_;let#[p,o]:=q;apply l ?_;cases r with
    |done d=>show#[p,o]
    |yield d=>show#[p,o]
   case post2=>
    rintro⟨P,R⟩ h ⟨i,o⟩
    rcases o with ⟨r,e,k⟩ | ⟨e,H⟩
    .dsimp only at e
     subst e;show FB #[i,r,Y,k]
    .dsimp only at e
     subst e;apply Fk (sq λU J'=>FB #[i.trans J',Y,H])
def Hl(C:iO O key S k M A E s)(u:kindOf st=k)(T:kW O key S a b)(q:∀r c,GS st c->Res O key (a.toList++b.toList) r.toList->Q r c):nL M A E s (rS a b) Q st:=by
 rw[Gx];apply Fk^aeL^adZ #[Y,?_];apply af λv k=>?_;have w:=T.na;have J':=T.nb;let#[x,n,L',N]:=bN (xs:=a) (i:=a.size-1) ()
 apply k ?_;apply Fk^bF n ?_
 have B:MJ O key a b #[] a.size b.size:=by
  apply#[?_,by simp,?_,?_,by simp]
  .rw[tL^by simp,tL^by simp]
   simpa using(afF a.toList).append^afF b.toList
  .rw[tL^by simp]
   show aeS.mpr (T.sa.imp λh=>h)
  .rw[tL^by simp]
   show aeS.mpr (T.sb.imp λh=>h)
 have j:=MJ.yz B w n λy F=>T.last x n y^ae6 F;have G:(#[]:Array Keyed).push x= [x].toArray:=rfl;rw[G] at j
 by_cases l:a.size-1=0
 .rw[mo^~~~l]
  rw[l] at j ⊢;show FB^q _ _ (GS.refl _) j.xK
 .rw[tz^~~~l]
  by_cases g:b.size=1
  .rw[mo^~~~g]
   rw[g] at j ⊢;exact FB^q _ _ (GS.refl _)^MJ.first T j
  .rw[tz^~~~g]
   apply Fk^aei ?_;apply Fk (SZ (UF (I:=λ(x:Nat)(f:S5)(c:ge)=>GS st c/\f.1=V/\sD O key a b (x+1) f.2.1 f.2.2.1 f.2.2.2.1) (Q:=λf c=>GS st c/\∃r,f.1\r/\Res O key (a.toList++b.toList) r.toList) ?step ?fin #[GS.refl _,Y,j,by change 1<=a.size-1;lia,by change a.size-1<=a.size;lia,by change 2<=b.size;lia,bu _,by change 0+1+(a.size-1)+b.size<=a.size+b.size;lia]) ?post)
   case fin=>
    rintro f c ⟨m,l,g⟩
    have:=g.2.2.2.2.2
    have:=g.2.1
    lia
   case step=>
    rintro x f c _ _ ⟨m,l,g⟩;apply SZ (Hi C T m u f g) λr P H=>?_;apply af λv k=>?_;let#[t,o]:=H;apply k ?_;cases r with
    |done d=>show#[t,o]
    |yield d=>show#[t,o]
   case post=>
    rintro⟨R,U⟩ c ⟨m,r,e,p⟩;dsimp only at e;subst e;show FB^q r c m p
end
def Gw(i:Nat):mergeAt' i=(do
 let s <-get
 let (J (sa,na,power),J (sb,nb,_)):=((fb s)[i]?,(fb s)[i+1]?) |kg "internal:list.sort.pending"
 set^jn s^((fb s).setIfInBounds i (sa,na+nb,power)).eraseIdxIfInBounds (i+1)
 let J k <-fQ At (<-ii (ey s) sb) (ey s) sa na 0|return At
 let (sa,na):=(sa+k,na-k)
 if na==0 then return L
 let J nb <-fQ L (<-ii (ey s) (sa+na-1)) (ey s) sb nb (nb-1) |return At
 if nb==0 then return L
 let x:=(ey s).extract sa sb
 let y:=(ey s).extract sb (sb+nb)
 let merged <-if na<=nb then rT x y else rS x y
 modify λs=>nO s (merged.toList.zipIdx.foldl (λa (p,j)=>a.setIfInBounds (sa+j) p)^ey s)
 return (jd (<-get)).isNone):=rfl
theorem tU:∀(m:!Keyed)(off b:Nat)(c:Array Keyed),b+off+m.length<=c.size->
  ((m.zipIdx off).foldl (λa (p:Keyed×Nat)=>a.setIfInBounds (b+p.2) p.1) c).size=c.size/\∀i,((m.zipIdx off).foldl (λa (p:Keyed×Nat)=>a.setIfInBounds (b+p.2) p.1) c)[i]? =if b+off<=i/\i<b+off+m.length then m[i-(b+off)]? else c[i]?
 | [],off,b,c,_=>#[Y,λi=>by rw[tz^by simp];rfl]
 |x::m,off,b,c,h=>by
  rw[cF] at h;have e:=tU m (off+1) b (c.setIfInBounds (b+off) x)^by rw[aep];lia
  rw[List.zipIdx_cons,af9];apply#[by rw[e.1,aep],λi=>?_]
  rw[e.2 i]
  by_cases f:b+(off+1)<=i/\i<b+(off+1)+m.length
  .rw[mo f,mo^by rw[cF];lia,show i-(b+off)=(i-(b+(off+1)))+1 by lia,zJ]
  .rw[tz f,afj]
   by_cases d:b+off=i
   .rw[mo d,mo (),mo^by rw[cF];lia,<-d,tO];rfl
   .rw[tz d,tz^by rw[cF];lia]
def putAt(c m:Array Keyed)(b:Nat):Array Keyed:=m.toList.zipIdx.foldl (λa (p:Keyed×Nat)=>a.setIfInBounds (b+p.2) p.1) c
def B8(h:b+m.size<=a.size)(i:Nat):(putAt a m b)[i]? =if b<=i/\i<b+m.size then m[i-b]? else a[i]? :=by
 have:=(tU m.toList 0 b a^~~~h).2 i
 unfold putAt;rw[this];simp
def JJ(h:b+m.size<=a.size):(putAt a m b).size=a.size:=(tU m.toList 0 b a^~~~h).1
def JH(h:b+m.size<=a.size)(p:m.toList.Perm^(a.toList.drop b).take m.size):(putAt a m b).Perm a:=by
 rw[Hw]
 have e:(putAt a m b).toList=a.toList.take b++(m.toList++a.toList.drop (b+m.size)):=by
  apply nN ?_;intro i;rw[gE,B8 h,ae1,ae1,jr,dE,dE,List.getElem?_take,yL,gE,gE,gE]
  repeat' split
  all_goals first|rfl| (exfalso;lia) | (congr 1;lia)
 have c:a.toList=a.toList.take b++((a.toList.drop b).take m.size++a.toList.drop (b+m.size)):=by
  conv=>lhs;rw[<-mh b a.toList,p8 a.toList b m.size]
 rw[e]
 conv=>rhs;rw[c]
 show List.Perm.append_left _^p.append_right _
section
variable {st : SortSt}
def UX(h:Q ⟨⟩ a):wpS M A E s (set a:StateT SortSt Sem PUnit) Q st:=by
 unfold wpS;rw[StateT.run_set];show ir #[Y,h]
def f9{xs:Array Keyed}{a b:Nat}(h:kF O key xs a b){i j:Nat}(c:a<=i)(d:i<=j)(e:j<b)(f:xs[i]?\x)(g:xs[j]?\y):LE O key x y:=by
 have:=h i j c d e
 unfold ky at this;rw[f,g] at this;show this
def G9{xs:Array Keyed}(k:b<=xs.size)(h:∀i j x y,a<=i->i<=j->j<b->xs[i]?\x->xs[j]?\y->LE O key x y):kF O key xs a b:=λi j e f g=>by
 let#[x,c,_,_]:=bN (xs:=xs) (i:=i) ()
 let#[y,d,_,_]:=bN (xs:=xs) (i:=j) ()
 unfold ky;rw[c,d];show h i j x y e f g c d
def ext_get{xs:Array Keyed}{a b i:Nat}(c:b<=xs.size)(d:i<b-a):(xs.extract a b)[i]? =xs[a+i]? :=by
 rw[Array.getElem?_extract,mo ()]
def ext_mem{c:Array Keyed}{a b:Nat}{x:Keyed}(h:x∈(c.extract a b).toList):∃i,a<=i/\i<b/\i<c.size/\c[i]?\x:=by
 rw[ext_toList] at h;let#[j,f,d,e]:=fF h;rw[dE] at d;show#[a+j,(),(),d,lV e]
def NA(h:kF O key xs a b)(c:b<=xs.size):(xs.extract a b).toList.Pairwise^LE O key:=by
 rw[C2];intro i j d e l;have f:(xs.extract a b).toList.length=b-a:=by rw[dE,yM];lia
 rw[f] at d e;have g:=ext_get (xs:=xs) (a:=a) c d;have k:=ext_get (xs:=xs) (a:=a) c e;apply f9 h (i:=a+i) (j:=a+j) () () () ?_ ?_
 .rw[<-g,<-gE];show bT _
 .rw[<-k,<-gE];show bT _
def Hk(C:iO O key S k0 (ei prog w) A E s)(o:Ok S k0 st)(hf:jd st=V)(p1:(fb st)[i]?\(b,d,pw))(p2:(fb st)[i+1]?\(b+d,v,pw2))(hna:1<=d)(V2:1<=v)(dZ:b+d+v<=(ey st).size)
  (N:kF O key (ey st) b (b+d)) (P:kF O key (ey st) (b+d) (b+d+v))
  (q:∀l,(ey l).Perm^ey st->kindOf l=kindOf st->jd l=V->fb l=((fb st).setIfInBounds i (b,d+v,pw)).eraseIdxIfInBounds (i+1)->(∀j,j<b\/b+d+v<=j->(ey l)[j]? =(ey st)[j]?)->kF O key (ey l) b (b+(d+v))->Q L l):
  nL (ei prog w) A E s (mergeAt' i) Q st:=by
 rw[Gw];apply Fk^aei ?_;rw[p1,p2];dsimp only;apply Fk^UX ?_;generalize ((fb st).setIfInBounds i (b,d+v,pw)).eraseIdxIfInBounds (i+1)=pn at q;have o':Ok S k0^jn st pn:=#[o.mem,o.kind];have mem:∀x∈(ey st).toList,S x:=o.mem;let#[X,Z0,mb0,lb0]:=bN (xs:=ey st) (i:=b+d) ()
 apply Fk^bF Z0 ?_;have sT:∀(j:Nat)(z:Keyed),(ey st)[j]?\z->(ey st)[j]?.getD (Value.none,Value.none)=z:=λj z e=>by rw[e];rfl
 apply Fk (iM C (sj mem (i:=b) (n:=d) ()) (mem X mb0) o'.kind () (λi j G Y' h=>?_) λk hk kt kf=>?_)
 .obtain⟨xi,M,_,_⟩:=bN (xs:=ey st) (i:=b+i) ()
  let#[xj,Z,D,K]:=bN (xs:=ey st) (i:=b+j) ()
  unfold fk at h ⊢;rw[tz ∅] at h ⊢
  rw[Z] at h;rw[M];have h':O.kle (key xj)^key X:=by unfold KeyOrd.kle;simpa using h
  have:=M2 (f9 N () () () M Z) h'
  unfold KeyOrd.kle at this;simpa using this
 have klo:∀j x,b<=j->j<b+k->(ey st)[j]?\x->LE O key x X:=λj x f B e=>by
  have:=kt (j-b) ()
  unfold fk at this;rw[tz ∅,show b+(j-b)=j by lia,sT j x e] at this
  change O.blt _ _=At;simpa using this
 have khi:∀j x,b+k<=j->j<b+d->(ey st)[j]?\x->LE O key X x:=λj x f B e=>by
  have:=kf (j-b) () ()
  unfold fk at this;rw[tz ∅,show b+(j-b)=j by lia,sT j x e] at this
  show SL (show O.blt _ _=L by simpa using this)
 dsimp only;have Ya:∀j y,b+d<=j->j<b+d+v->(ey st)[j]?\y->LE O key X y:=λj y f B e=>f9 P () f B Z0 e
 by_cases e0:d-k=0
 .rw[mo^~~~e0]
  apply FB^q _ (.refl _) rfl hf rfl (λ_ _=>rfl) ?_;apply G9 (by change b+(d+v)<=(ey st).size;lia) λi j x y f G Y' H I=>?_
  by_cases c1:j<b+d
  .show f9 N f G c1 H I
  .by_cases c2:i<b+d
   .show M2 (klo i x f () H)^Ya j y () () I
   .show f9 P () G () H I
 rw[tz^~~~e0]
 have abC:b+k+(d-k)-1=b+d-1:=()
 let#[al,VH,mal,lal]:=bN (xs:=ey st) (i:=b+k+(d-k)-1) ()
 apply Fk^bF VH ?_;rw[abC] at VH;apply Fk (iM C (sj mem (i:=b+d) (n:=v) ()) (mem al mal) o'.kind () (λi j G Y' h=>?_) λm hm mt mf=>?_)
 .obtain⟨yi,M,_,_⟩:=bN (xs:=ey st) (i:=b+d+i) ()
  let#[yj,Z,D,K]:=bN (xs:=ey st) (i:=b+d+j) ()
  unfold fk at h ⊢;rw[mo rfl] at h ⊢;rw[Z] at h;rw[M];show aeo (f9 P () () () M Z) h
 have mlo:∀j y,b+d<=j->j<b+d+m->(ey st)[j]?\y->LE O key y al:=λj y f B e=>by
  have:=mt (j-(b+d)) ()
  unfold fk at this;rw[mo rfl,show b+d+(j-(b+d))=j by lia,sT j y e] at this
  show SL this
 have mhi:∀j y,b+d+m<=j->j<b+d+v->(ey st)[j]?\y->LE O key al y:=λj y f B e=>by
  have:=mf (j-(b+d)) () ()
  unfold fk at this;rw[mo rfl,show b+d+(j-(b+d))=j by lia,sT j y e] at this
  show this
 have xal:∀j x,b<=j->j<b+d->(ey st)[j]?\x->LE O key x al:=λj x f B e=>f9 N f () () e VH
 dsimp only
 by_cases M:m=0
 .rw[mo^~~~M]
  apply FB^q _ (.refl _) rfl hf rfl (λ_ _=>rfl) ?_;apply G9 (by change b+(d+v)<=(ey st).size;lia) λi j x y f G Y' H I=>?_
  by_cases c1:j<b+d
  .show f9 N f G c1 H I
  .by_cases c2:i<b+d
   .show M2 (xal i x f c2 H)^mhi j y () () I
   .show f9 P () G () H I
 rw[tz^~~~M]
 have T:kW O key S ((ey st).extract (b+k) (b+d))^(ey st).extract (b+d) (b+d+m):=by
  apply#[λx J'=>?_,λx J'=>?_,NA (λi j f B h3=>N i j () B h3) (),NA (λi j f B h3=>P i j f B ()) (),by rw[yM];lia,by rw[yM];lia,λy hy x J'=>?_,λx J' y hy=>?_]
  .obtain⟨i,_,_,_,e⟩:=ext_mem J'
   show mem x^cG^m8 e
  .obtain⟨i,_,_,_,e⟩:=ext_mem J'
   show mem x^cG^m8 e
  .rw[ext_get () ()] at hy
   have Pe:(ey st)[b+d]?\y:=hy;rw[Z0] at Pe;cases Pe;let#[i,f,B,D,e]:=ext_mem J';show khi i x f B e
  .have hsz2:((ey st).extract (b+k) (b+d)).size=d-k:=by rw[yM];lia
   rw[hsz2,ext_get () ()] at J'
   rw[show b+k+(d-k-1)=b+d-1 by lia,VH] at J';cases J'
   let#[i,f,B,D,e]:=ext_mem hy;show mlo i y f B e
 have szx:((ey st).extract (b+k) (b+d)).size=d-k:=by rw[yM];lia
 have szy:((ey st).extract (b+d) (b+d+m)).size=m:=by rw[yM];lia
 have fin:∀(r:Array Keyed)(l:ge),GS (jn st pn) l->Res O key (((ey st).extract (b+k) (b+d)).toList++((ey st).extract (b+d) (b+d+m)).toList) r.toList->
   nL (ei prog w) A E s (do
    modify λs=>nO s (r.toList.zipIdx.foldl (λa (p,j)=>a.setIfInBounds (b+k+j) p)^ey s)
    return (jd (<-get)).isNone) Q l:=by
  intro r l g u;apply Fk^aet^Fk^aei ?_;have O9:jd l=none:=g.failed.trans hf
  have hr:r.size=d-k+m:=by
   have:=u.1.length_eq
   rw[dj,dE,dE,dE,szx,szy] at this;show this
  have hb:b+k+r.size<=(ey l).size:=by rw[g.arr];change _<=(ey st).size;lia
  have adw:(r.toList.zipIdx.foldl (λa (x:Keyed×Nat)=>match x with| (p,j)=>a.setIfInBounds (b+k+j) p)^ey l)=putAt (ey l) r (b+k):=rfl
  change nL _ _ _ _ (pure (jd l).isNone) Q^nO l^putAt (ey l) r (b+k);rw[O9];have ga:ey l=ey st:=g.arr;rw[ga] at hb ⊢;have NF:=λi=>B8 hb i;rw[hr] at NF
  have YG:∀j x,b+k<=j->j<b+d+m->(putAt (ey st) r (b+k))[j]?\x->∃i,b+k<=i/\i<b+d+m/\(ey st)[i]?\x:=λj x f B e=>by
   rw[NF,mo ()] at e
   have hm:=u.1.mem_iff.mp^cG^m8 e
   rcases cM.mp hm with z|z
   .obtain⟨i,R,a2,_,U⟩:=ext_mem z
    show#[i,R,(),U]
   .obtain⟨i,R,a2,_,U⟩:=ext_mem z
    show#[i,(),a2,U]
  have t:∀j,j<b+k\/b+d+m<=j->(putAt (ey st) r (b+k))[j]? =(ey st)[j]? :=λj h=>by rw[NF,tz ()]
  have SY:∀i x j y,b<=i->i<b+k->(ey st)[i]?\x->b+k<=j->j<b+d+v->(ey st)[j]?\y->LE O key x y:=λi x j y R a2 a3 U a5 a6=>by
   by_cases c:j<b+d
   .show f9 N R () c a3 a6
   .show M2 (klo i x R a2 a3)^Ya j y () a5 a6
  have VY:∀i x j y,b<=i->i<b+d+m->(ey st)[i]?\x->b+d+m<=j->j<b+d+v->(ey st)[j]?\y->LE O key x y:=λi x j y R a2 a3 U a5 a6=>by
   by_cases c:i<b+d
   .show M2 (xal i x R c a3)^mhi j y U a5 a6
   .show f9 P () () a5 a3 a6
  apply FB^q _ ?_ g.kind O9 g.pend (λj Y'=>t j ()) ?_
  .apply JH hb ?_
   rw[hr];apply u.1.trans ?_;rw[ext_toList,ext_toList,show b+d-(b+k)=d-k by lia,show b+d+m-(b+d)=m by lia]
   have:((ey st).toList.drop (b+k)).take (d-k+m)=((ey st).toList.drop (b+k)).take (d-k)++((ey st).toList.drop (b+d)).take m:=by
    rw[qZ _ (show d-k<=d-k+m by lia),List.drop_drop,show b+k+(d-k)=b+d by lia,show d-k+m-(d-k)=m by lia]
   rw[this]
  .apply G9 (by change b+(d+v)<=(putAt (ey st) r (b+k)).size;rw[JJ hb];lia) λi j x y f G Y' H I=>?_
   have L':(putAt (ey st) r (b+k))[i]?\x:=H;have F:(putAt (ey st) r (b+k))[j]?\y:=I
   by_cases ci:i<b+k
   .rw[t i^.inl ci] at L'
    by_cases cj:j<b+k
    .rw[t j^.inl cj] at F
     show f9 N f G () L' F
    .by_cases cj2:j<b+d+m
     .obtain⟨j',b1,b2,b3⟩:=YG j y () cj2 F
      show SY i x j' y f ci L' b1 () b3
     .rw[t j^.inr ()] at F
      show SY i x j y f ci L' () () F
   .by_cases ci2:i<b+d+m
    .by_cases cj2:j<b+d+m
     .rw[NF,mo ()] at L' F
      show gS u.2 () (m8 L')^m8 F
     .obtain⟨i',b1,b2,b3⟩:=YG i x () ci2 L'
      rw[t j^.inr ()] at F
      show VY i' x j y () b2 b3 () () F
    .rw[t i^.inr ()] at L'
     rw[t j^.inr ()] at F
     show f9 P () G () L' F
 by_cases c:d-k<=m
 .rw[mo c]
  show Fk (Hm C o'.kind T λr l g u=>fin r l g u)
 .rw[tz c]
  show Fk (Hl C o'.kind T λr l g u=>fin r l g u)
end
abbrev U1:=Option Unit×Unit
def Oc(b:Nat):StateT ge lD^ForInStep U1:=do
 let st <-get
 match (if (fb st).size>1 then(fb st)[(fb st).size-2]? else V) with
 |some (_,_,a)=>
  if a<=b then pure (ForInStep.done (V,Unit.unit))
  else do
   let ok <-mergeAt' ((fb st).size-2)
   if (not^ok)=L then pure^ForInStep.done (J ⟨⟩,Unit.unit) else pure^ForInStep.yield (V,Unit.unit)
 |_=>pure^ForInStep.done (V,Unit.unit)
def oP(size lo n:Nat):StateT ge lD^ForInStep (Option Unit×Nat):=do
 let st <-get
 match (fb st).back? with
 |some (b,a,_)=>do
  let t <-forIn [0:size] ((V,⟨⟩):U1) λ_ _=>Oc^power' size (2*b+a) (2*b+a+a+n) size
  match t.1 with
  |some r=>pure^ForInStep.done (J r,lo)
  |none=>do
   modify λs=>jn s ((fb s).modify ((fb s).size-1) λx=>(x.1,x.2.1,power' size (2*b+a) (2*b+a+a+n) size))
   modify λs=>jn s ((fb s).push (lo,n,0))
   pure^ForInStep.yield (V,lo+n)
 |_=>do
  modify λs=>jn s ((fb s).push (lo,n,0))
  pure^ForInStep.yield (V,lo+n)
def GZ(size lo:Nat):StateT ge lD^ForInStep (Option Unit×Nat):=
 if lo>=size then pure (ForInStep.done (V,lo))
 else do
  let x <-countRun' lo (size-lo)
  match x with
  |some a=>
   if a<minRun' size size 0 then do
    liftM^rule "list.sort.binary-insertion"
    let ok <-binarySort' lo (min (size-lo)^minRun' size size 0) a
    if (not^ok)=L then pure^ForInStep.done (J ⟨⟩,lo) else oP size lo (min (size-lo)^minRun' size size 0)
   else oP size lo a
  |_=>pure^ForInStep.done (J ⟨⟩,lo)
def MB:StateT ge lD^ForInStep U1:=do
 let st <-get
 if (fb st).size<=1 then pure (ForInStep.done (V,Unit.unit))
 else do
  let ok <-mergeAt' (if (if (fb st).size-2>0 then(fb st)[(fb st).size-2-1]?.map (·.2.1) else V).any (·<((fb st)[(fb st).size-2+1]?.elim 0 (·.2.1))) then(fb st).size-2-1 else(fb st).size-2)
  if (not^ok)=L then pure^ForInStep.done (J ⟨⟩,Unit.unit) else pure^ForInStep.yield (V,Unit.unit)
theorem Cp:sortRuns'=(do
 let st <-get
 let c <-forIn [0:(ey st).size] ((V,0):Option Unit×Nat) λ_ c=>GZ (ey st).size c.2
 match c.1 with
 |some r=>pure r
 |none=>do
  let t <-forIn [0:(ey st).size] ((V,⟨⟩):U1) λ_ _=>MB
  match t.1 with
  |some r=>pure r
  |none=>pure ⟨⟩):=by
 rw[sortRuns'_eq];dsimp only;apply eH rfl λst=>eH (FP λ_ c=>?_) λc=>?_
 .unfold GZ
  apply fY (λ_=>rfl)^λ_=>eH rfl λx=>?_;cases x with
  |none=>rfl
  |some f=>
   dsimp only;have i:∀n:Nat,oP (ey st).size c.2 n=oP (ey st).size c.2 n:=λ_=>rfl;apply fY (λ_=>eH rfl λ_=>eH rfl λok=>fY (λ_=>rfl)^λ_=>?_)^λ_=>?_
   all_goals
    unfold oP;apply eH rfl λd=>?_;cases(fb d).back? with
    |none=>rfl
    |some e=>
     let#[j,k,l]:=e;dsimp only;apply eH (FP λ_ c=>?_) λt=>?_
     .unfold Oc
      apply eH rfl λa=>?_;cases(if (fb a).size>1 then(fb a)[(fb a).size-2]? else V) with
      |none=>rfl
      |some e=>rfl
     .obtain⟨b,g⟩:=t
      cases b<;>rfl
 .obtain⟨h,m⟩:=c
  cases h with
  |some r=>rfl
  |none=>
   dsimp only;apply eH (FP λ_ c=>?_) λt=>?_
   .rfl
   .obtain⟨b,g⟩:=t
    cases b<;>rfl
section
variable {O:KeyOrd} {key:Keyed->O.α} {S:Keyed->Prop} {k0:SortKind} {prog:Program} {w:World} {A:Around} {E:Value->Shared->Prop} {s:Shared} {st bW:SortSt}
def kT(O:KeyOrd)(key:Keyed->O.α)(c:Array Keyed):Nat->!(Nat×Nat)->Nat->Prop
 |a,[],b=>a=b
 |a,e::r,b=>e.1=a/\1<=e.2/\kF O key c a (a+e.2)/\kT O key c (a+e.2) r b
theorem kT.app:∀{j g:!(Nat×Nat)}{a b:Nat},kT O key i a (j++g) b↔∃c,kT O key i a j c/\kT O key i c g b
 | [],g,a,b=>#[λh=>#[a,Y,h],λ#[c,d,f]=>by cases d;show f]
 |e::j,g,a,b=>by
  constructor
  .rintro⟨d,f,k,n⟩
   let#[c,l,m]:=kT.app.mp n;show#[c,#[d,f,k,l],m]
  .rintro⟨c,⟨d,f,k,l⟩,m⟩
   show#[d,f,k,kT.app.mpr #[c,l,m]]
theorem kT.le:∀{l:!(Nat×Nat)}{a b:Nat},kT O key c a l b->a+l.length<=b
 | [],a,b,h=>by cases h;simp
 |e::l,a,b,#[_,f,_,d]=>by
  have:=kT.le d
  rw[cF];lia
def Ct(h:∀i,a<=i->i<b->d[i]? =c[i]?)(g:kF O key c a b):kF O key d a b:=λi j e k f=>by
 rw[jC^h i e (),jC^h j () f];show g i j e k f
theorem kT.congr:∀{l:!(Nat×Nat)}{a b:Nat},(∀i,a<=i->i<b->d[i]? =c[i]?)->kT O key c a l b->kT O key d a l b
 | [],a,b,_,h=>h
 |e::l,a,b,f,#[m,n,o,g]=>by
  have:=kT.le g
  show#[m,n,Ct (λi j k=>f i j ()) o,kT.congr (λi j k=>f i () k) g]
def pl(st:SortSt):!(Nat×Nat):=(pendingOf st).toList.map λe=>(e.1,e.2.1)
structure SI (O:KeyOrd) (key:Keyed->O.α) (S:Keyed->Prop) (k0:SortKind) (a0:Array Keyed) (st:SortSt) (lo:Nat):Prop where
 ok:Ok S k0 st
 failed:failedOf st=V
 perm:(arrOf st).Perm a0
 cov:kT O key (arrOf st) 0 (pl st) lo
 le:lo<=a0.size
theorem SI.size{a:Array Keyed}{lo:Nat}(h:SI O key S k0 a st lo):(arrOf st).size=a.size:=h.perm.size_eq
def Kg(C:iO O key S d (ei prog w) A E s){n:Array Keyed}{lo i:Nat}{Q:Bool->ge->Prop}(h:SI O key S d n st lo)(L':i+1<(fb st).size)
  (q:∀a,SI O key S d n a lo->(fb a).size=(fb st).size-1->(∀j,lo<=j->(ey a)[j]? =(ey st)[j]?)->Q L a):nL (ei prog w) A E s (mergeAt' i) Q st:=by
 have M:(fb st)[i]? =J (fb st)[i]:=aed _ i ()
 have N:(fb st)[i+1]? =J (fb st)[i+1]:=aed _ (i+1) L'
 have o:(fb st).toList=(fb st).toList.take i++((fb st)[i]::(fb st)[i+1]::(fb st).toList.drop (i+2)):=by
  conv=>lhs;rw[<-mh i (fb st).toList]
  congr 1
  rw[xl^by rw[dE];lia,xl^by rw[dE];lia]
  rfl
 generalize hx:(fb st)[i]=x at*;generalize hy:(fb st)[i+1]=y at*;let#[e,f,P]:=x;let#[sb,g,R]:=y;have k:=h.cov;unfold pl at k;apply af λG0 d=>?_;rw[o,cn,b9,b9] at k;let#[c,T,U]:=kT.app.mp k;let#[r,t,u,v,B,F,l]:=U;apply d ?_;dsimp only at r t u v B F l;subst r;subst v;have X:=l.le;have dZ:=h.size;have xU:=h.le;apply Hk C h.ok h.failed M N t B () u F λa G Y' Z b4 m b6=>?_
 have H:(fb a).toList=(fb st).toList.take i++((e,f+g,P)::(fb st).toList.drop (i+2)):=by
  rw[b4,Array.toList_eraseIdxIfInBounds,Array.toList_setIfInBounds]
  conv=>lhs;rw[o]
  have b:((fb st).toList.take i).length=i:=by rw[jr,dE];lia
  rw[List.set_append_right _ _ (),List.eraseIdx_append_of_length_le (),b,tO,show i+1-i=1 by lia]
  rfl
 apply q a #[#[λp hp=>h.ok.mem p^(Hw.mp G).mem_iff.mp hp,Y'.trans h.ok.kind],Z,G.trans h.perm,?_,h.le] ?_ λj hj=>m j^.inr ()
 .unfold pl
  rw[H,cn,b9];apply kT.app.mpr #[e,kT.congr (λj I J'=>m j^.inl J') T,Y,?_,b6,?_]
  .change 1<=f+g;lia
  .change kT O key (ey a) (e+(f+g)) _ lo
   rw[<-Nat.add_assoc];show kT.congr (λj I J'=>m j^.inr I) l
 .rw[<-dE,H,dj,cF,jr,pI,dE];lia
def Kp(bW st:SortSt)(lo:Nat):Prop:=∀j,lo<=j->(arrOf st)[j]? =(arrOf bW)[j]?
def Qq(C:iO O key S k0 (ei prog w) A E s){f:Array Keyed}{lo g:Nat}(h:SI O key S k0 f st lo)(d:Kp bW st lo):nL (ei prog w) A E s (Oc g) (λr a=>match r with| .done c=>c=(V,⟨⟩)/\SI O key S k0 f a lo/\Kp bW a lo| .yield c=>c=(V,⟨⟩)/\SI O key S k0 f a lo/\Kp bW a lo) st:=by
 unfold Oc;apply Fk^aei ?_
 by_cases i:(fb st).size>1
 .rw[mo i]
  cases e:(fb st)[(fb st).size-2]? with
  |none=>show FB #[Y,h,d]
  |some x=>
   let#[o,p,l]:=x;dsimp only
   by_cases b:l<=g
   .rw[mo b];show FB #[Y,h,d]
   .rw[tz b]
    apply Fk (Kg C h () λa m _ n=>?_)
    show FB #[Y,m,λj k=>(n j k).trans^d j k]
 .rw[tz i]
  show FB #[Y,h,d]
def TY{lo n:Nat}:pl^jn st^(fb st).push (lo,n,0)=pl st++ [(lo,n)]:=by
 unfold pl;change((fb st).push (lo,n,0)).toList.map _=_;rw[uV,cn];rfl
def Mb:pl^jn st ((fb st).modify i λx=>(x.1,x.2.1,a))=pl st:=by
 unfold pl;change((fb st).modify i λx=>(x.1,x.2.1,a)).toList.map _=_;apply nN ?_;intro j;rw[dF,dF,gE,gE,Array.getElem?_modify]
 by_cases e:i=j
 .rw[mo e]
  cases(fb st)[j]? <;>rfl
 .rw[tz e]
def SI.NY{a:Array Keyed}{lo n:Nat}(h:SI O key S k0 a st lo)(b:1<=n)(c:lo+n<=a.size)(d:kF O key (ey st) lo (lo+n)):SI O key S k0 a (jn st^(fb st).push (lo,n,0)) (lo+n):=by
 apply#[#[h.ok.mem,h.ok.kind],h.failed,h.perm,?_,c];rw[TY];show kT.app.mpr #[lo,h.cov,Y,b,d,Y]
theorem zF(C:iO O key S k0 (ei prog w) A E s){b:Array Keyed}{lo n:Nat}(h:SI O key S k0 b st lo)(k:1<=n)(l:lo+n<=b.size)(m:kF O key (ey st) lo (lo+n)):
  nL (ei prog w) A E s (oP b.size lo n) (λr a=>match r with| .done c=>False| .yield c=>c=(V,lo+n)/\SI O key S k0 b a (lo+n)) st:=by
 unfold oP;apply Fk^aei ?_;cases(fb st).back? with
 |none=>show Fk^aet^FB #[Y,h.NY k l m]
 |some e=>
  let#[p,j,v]:=e;dsimp only;apply Fk^SZ (UF (I:=λ(x:Nat)(c:U1)(a:ge)=>c=(V,⟨⟩)/\SI O key S k0 b a lo/\Kp st a lo) (Q:=λc a=>c=(V,⟨⟩)/\SI O key S k0 b a lo/\Kp st a lo) (λx c a _ _ g=>?_) (λc a g=>g) #[Y,h,λ_ _=>rfl]) ?_
  .apply SZ (Qq C g.2.1 g.2.2) λr y o=>?_
   cases r with
   |done d=>show o
   |yield d=>show o
  .rintro c a ⟨rfl,f,q⟩
   dsimp only;apply Fk^aet^Fk^aet^FB #[Y,?_]
   have t:SI O key S k0 b (jn a ((fb a).modify ((fb a).size-1) λx=>(x.1,x.2.1,power' b.size (2*p+j) (2*p+j+j+n) b.size))) lo:=
    #[#[f.ok.mem,f.ok.kind],f.failed,f.perm,by rw[Mb];show f.cov,f.le]
   show t.NY k l^Ct (λi u B=>q i u) m
def SI.stp{b:Array Keyed}{lo c:Nat}{a:ge}(h:SI O key S k0 b st lo)(t:iP st a lo c):SI O key S k0 b a lo:=
 #[h.ok.step t,t.failed.trans h.failed,t.perm.trans h.perm,by
  have:pl a=pl st:=by unfold pl;rw[t.pend]
  rw[this];show kT.congr (λi _ d=>t.out i^.inl d) h.cov,h.le]
theorem MW(C:iO O key S k0 (ei prog w) A E s){a:Array Keyed}{lo:Nat}(h:SI O key S k0 a st lo):
  nL (ei prog w) A E s (GZ a.size lo) (λr b=>match r with| .done c=>c=(V,lo)/\a.size<=lo/\SI O key S k0 a b lo| .yield c=>∃n,1<=n/\c=(V,lo+n)/\SI O key S k0 a b (lo+n)) st:=by
 unfold GZ;have t:=h.size;have j:=h.le
 by_cases f:lo>=a.size
 .rw[mo f];show FB #[Y,f,h]
 .rw[tz f]
  apply Fk (wpS_countRun C h.ok () () λm u k m1 v g=>?_)
  dsimp only;have e:=h.stp k;have l:=e.size
  by_cases i:m<minRun' a.size a.size 0
  .rw[mo i]
   apply Fk^aeL^adZ #[Y,?_];apply Fk (wpS_binarySort C e.ok () () g λx p q=>?_)
   rw[tz ∅]
   apply SZ (zF C (e.stp p) () () q) λr b o=>?_
   cases r with
   |done d=>show o.elim
   |yield d=>show#[_,(),o.1,o.2]
  .rw[tz i]
   apply SZ (zF C e m1 () g) λr b o=>?_
   cases r with
   |done d=>show o.elim
   |yield d=>show#[_,m1,o.1,o.2]
def ite_le [Decidable c]:(if c then p-1 else p)<=p:=by split<;>lia
def MV(C:iO O key S k0 (ei prog w) A E s)(h:SI O key S k0 a st a.size)(g:(fb st).size<=max 1 (a.size-x)):
  nL (ei prog w) A E s MB (λr b=>match r with| .done c=>c=(V,⟨⟩)/\SI O key S k0 a b a.size/\(fb b).size<=1| .yield c=>c=(V,⟨⟩)/\SI O key S k0 a b a.size/\(fb b).size<=max 1 (a.size-(x+1))) st:=by
 unfold MB;apply Fk^aei ?_
 by_cases d:(fb st).size<=1
 .rw[mo d];show FB #[Y,h,d]
 .rw[tz d]
  apply Fk (Kg C h (rq (Nat.succ_le_succ ite_le) ()) λb f e _=>?_)
  show FB #[Y,f,()]
theorem wpS_sortRuns(C:iO O key S k0 (ei prog w) A E s){Q:Unit->ge->Prop}(o:Ok S k0 st)(t:jd st=V)(u:fb st= #[])(G:1<=(ey st).size)
  (q:∀a,(ey a).Perm^ey st->jd a=V->kF O key (ey a) 0 (ey st).size->Q ⟨⟩ a):nL (ei prog w) A E s sortRuns' Q st:=by
 rw[Cp];apply Fk^aei ?_;have v:SI O key S k0 (ey st) st 0:=#[o,t, .refl _,by unfold pl;rw[u];rfl,eQ _]
 apply Fk^SZ (UF (I:=λ(x:Nat)(c:Option Unit×Nat)(a:ge)=>∃lo,c=(V,lo)/\min x (ey st).size<=lo/\SI O key S k0 (ey st) a lo) (Q:=λc a=>c=(V,(ey st).size)/\SI O key S k0 (ey st) a (ey st).size) (λx c a _ _ b=>?_) (λc a b=>?_) #[0,Y,(),v]) ?_
 .obtain⟨lo,rfl,y,f⟩:=b
  apply SZ (MW C f) λr g o=>?_;cases r with
  |done d=>
   let#[e,H,h]:=o
   have:=h.le
   have j:lo=(ey st).size:=()
   rw[j] at e h;show#[e,h]
  |yield d=>
   let#[n,J',e,h]:=o;show#[lo+n,e,(),h]
 .obtain⟨lo,rfl,y,f⟩:=b
  have:=f.le
  have j:lo=(ey st).size:=()
  rw[j] at f ⊢;show#[Y,f]
 .rintro c a ⟨rfl,f⟩
  dsimp only
  have p:(fb a).size<=(ey st).size:=by
   have:=f.cov.le
   unfold pl at this;rw[aG,dE] at this;lia
  apply Fk^SZ (UF (I:=λ(x:Nat)(c:U1)(a:ge)=>c=(V,⟨⟩)/\SI O key S k0 (ey st) a (ey st).size/\(fb a).size<=max 1 ((ey st).size-x)) (Q:=λc a=>c=(V,⟨⟩)/\SI O key S k0 (ey st) a (ey st).size/\(fb a).size<=1) (λx c a _ _ b=>?_) (λc a b=>?_) #[Y,f,()]) ?_
  .apply SZ (MV C b.2.1 b.2.2) λr g o=>?_
   cases r with
   |done d=>show o
   |yield d=>show o
  .show#[b.1,b.2.1,by have:=b.2.2;lia]
  .rintro c g ⟨rfl,k,l⟩
   apply FB^q g k.perm k.failed ?_;have i:=k.cov;have m:(pl g).length<=1:=by unfold pl;rw[aG,dE];show l
   match cC:pl g,m with
   | [],_=>rw[cC] at i;show absurd i (by change ¬(0=(ey st).size);lia)
   | [e],_=>
    rw[cC] at i;let#[L',M,B,F]:=i
    have:0+e.2=(ey st).size:=F
    rw[<-this];show B
end
section
def Keeps(s a:Shared):Prop:=∀b o,s.heap.get? b\o->a.heap.get? b\o
def yK(a:!Value):(a.toArray.zip a.toArray).toList=a.map λv=>(v,v):=by
 rw[Array.toList_zip];change List.zip a a=_
 induction a with
 |nil=>rfl
 |cons v r b=>rw[List.zip_cons_cons,b9,b]
def Xy(h:kF O key a 0 a.size):a.toList.Pairwise^LE O key:=by
 rw[C2];intro i j c b d;rw[dE] at c b;show f9 h (eQ _) (rz d) b (lV^bT _)^lV^bT _
def qq(j:s.heap.get? a\(hT "list" c.toArray n))(R:2<=c.length)(T:c.length<=1000)(ne:∀b o,s.heap.get? b\o->b≠a->True)
  {s0:c_} (k:∀b o,s0.heap.get? b\o->b≠a/\s.heap.get? b\o)
  (B:∀(E:b_->c_->Prop)(d:c_)(m:jg->c_->Prop),Keeps s0 d->m k0 d->e_ (ei prog w) A (keyKind' c.toArray) m E d)
  (C:∀(E:b_->c_->Prop)(d:c_),Keeps s0 d->iO O key S k0 (ei prog w) A E d) (mem:∀v∈c,S (v,v))
  (h:∀out:Array Keyed,out.toList.Perm (c.map λv=>(v,v))->out.toList.Pairwise^LE O key->P (.done^.ret .none) {s with heap:=sortedHeap s.heap a c^out.map (·.2)}):
  e_ (ei prog w) A (Builtin.«list.sort» #[[.ref a],[]]) P E s:=by
 rw[list_sort_plain];have q:a<s.heap.objs.size:=Da j;have U:1000<sizeLine:=∅
 apply a_^listItems_at j rfl ?_;apply a_^afy j rfl ?_ (by rw[b8];lia)^eQ _
 obtain⟨l,r⟩:∃l,(s.heap.update a (Obj.mapSeq λ_=> #[])).get? a\(hT "list" #[] l):=#[_,get?_update_seq j^λ_=> #[]];apply a_^agj r rfl ?_;apply a_^agp ?_^by change c.length<=_;lia
 apply a_^aeH ?_^eQ _;apply IR ?_
 have t:(((s.heap.update a (Obj.mapSeq λ_=> #[])).push^hT "tuple" c.toArray 0).push^hT "list" #[] 0).get? a\(hT "list" #[] l):=by
  rw[aew _ _ _^by rw[afH,aef];show bP^aex q,aew _ _ _^by rw[aef];show bP q]
  show r
 change e_ (ei prog w) A _ P E {s with heap:=((s.heap.update a (Obj.mapSeq λ_=> #[])).push^hT "tuple" c.toArray 0).push^hT "list" #[] 0}
 have u:Keeps s0 {s with heap:=((s.heap.update a (Obj.mapSeq λ_=> #[])).push^hT "tuple" c.toArray 0).push^hT "list" #[] 0}:=λb o e=>by
  let#[F,G]:=k b o e;apply AC _^AC _ ?_;rw[ad8 _ _ _ _ F];show G
 dsimp only;have X:c.toArray.size=c.length:=by simp
 have x:¬c.toArray.size<2:=()
 rw[tz x,tz x];apply a_^B _ _ _ u ?_;have g:(c.toArray.zip c.toArray).size=c.length:=by rw[<-dE,yK,aG]
 apply a_ (io (wpS_sortRuns (C _ _ u) (st:=SortSt.mk' k0 (c.toArray.zip c.toArray) #[] 7 V)
   (Q:=λ_ f=>(ey f).Perm^c.toArray.zip c.toArray/\jd f=V/\kF O key (ey f) 0 (c.toArray.zip c.toArray).size)
   #[λp i=>?_,Y] rfl rfl (by change 1<=(c.toArray.zip c.toArray).size;lia) λf H I J'=>#[H,I,J']) ?_ λ_ _ e=>e)
 .have y:p∈(c.toArray.zip c.toArray).toList:=i
  rw[yK] at y;let#[v,L',rfl]:=bS.mp y;show mem v L'
 rintro⟨⟨⟩,f⟩ d ⟨rfl,i,M,N⟩;dsimp only;have Y':(ey f).size=c.length:=by rw[i.size_eq,g]
 apply a_^agj t rfl ?_;apply a_^afy t rfl ?_ (eQ _)^by rw[Array.size_map];lia
 rw[M];simp only[afE,fA,Pi];apply ir^h (ey f) ?_ ?_
 .rw[<-yK];show Hw.mp i
 .apply Xy ?_
  rw[i.size_eq];show N
def JY(j:s.heap.IsList l a.toArray)(k:2<=a.length)(n:a.length<=1000)
  (p:∀(E:b_->c_->Prop)(c:c_)(g:jg->c_->Prop),Keeps s c->g k0 c->e_ (ei prog w) A.in1.in1 (keyKind' a.toArray) g E c)
  (C:∀(E:b_->c_->Prop)(c:c_),Keeps s c->iO O key S k0 (ei prog w) A.in1.in1 E c) (mem:∀v∈a,S (v,v))
  (h:∀out:Array Keyed,out.toList.Perm (a.map λv=>(v,v))->out.toList.Pairwise^LE O key->Q (.ref (s.heap.objs.size+1)) {s with heap:=sortedAll s.heap a^out.map (·.2)}):
  e_ (ei prog w) A (call (.builtin "sorted") [.ref l]) Q E s:=by
 have u:1000<sizeLine:=∅
 apply ael kind_sorted agx agy (agz _) ?_;unfold Builtin.«sorted»;apply a_ (m:=checkCount "sorted" 1 1 _)^ir ?_;apply a_^agA j ?_ ()
 apply a_^aeH ?_^by change a.length<=_;lia
 have d:((s.heap.push^hT "list" #[] 0).update s.heap.objs.size^Obj.mapSeq (·++a.toArray)).objs.size=s.heap.objs.size+1:=by
  rw[aef,afH]
 have i:(((s.heap.push^hT "list" #[] 0).update s.heap.objs.size^Obj.mapSeq (·++a.toArray)).push^hT "list" a.toArray 0).get? (s.heap.objs.size+1)\(hT "list" a.toArray 0):=by
  rw[<-d];show GM _ rfl
 have keep:∀b o,s.heap.get? b\o->(((s.heap.push^hT "list" #[] 0).update s.heap.objs.size^Obj.mapSeq (·++a.toArray)).push^hT "list" a.toArray 0).get? b\o:=λb o q=>by
  have f:b<s.heap.objs.size:=Da q;rw[aew _ _ _^by rw[d];show bP^aex f,ad8 _ _ _ _^bP f,aew _ _ _^bP f]
  show q
 change e_ _ _ _ _ _ {s with heap:=((s.heap.push^hT "list" #[] 0).update s.heap.objs.size^Obj.mapSeq (·++a.toArray)).push^hT "list" a.toArray 0}
 rw[d];apply a_^IR^adK nn #[_,i,Y] ls (qq (s0:=s) i k n (λ_ _ _ _=>trivial) (λb o e=>#[bP^aex^Da e,keep b o e]) p C mem λout r t=>#[_,Y,?_])^afi _;show ir #[_,Y,h out r t]
end
end TS
namespace L2
open PySem PySem.Spec PyProof.Rows
def lexOrd:KeyOrd where
 α:=Nat×Nat
 blt:=lg
 irrefl:=λa=>by unfold lg;rw[mo rfl];simp
 trans:=λa b c d e=>SS _ _ _ d e
 negTrans:=λa b c h=>Pj _ _ _ h
 total:=λa b d e=>Wb.kP (BB e)^BB d
def keyOf(L':!(Ad×(Nat×Nat)))(v:Keyed):Nat×Nat:=match v.1 with
 | .ref a=>((L'.find? λe=>e.1==a).map (·.2)).getD (0,0)
 |_=>(0,0)
def L9(h:jF k=jF b):k=b:=by
 unfold jF at h
 injection h with c a
 injection a with a _
 injection c with c
 injection a with a
 show adS () ()
def om(c:sE H L')(d:e∈L')(v:Value):keyOf L' (.ref e.1,v)=e.2:=by
 unfold keyOf;dsimp only;cases b:L'.find? λx=>x.1==e.1 with
 |none=>show absurd (afs.mp b e d) (by simp)
 |some x=>
  have f:=afI b;have g:=List.find?_some b;have h:x.1=e.1:=by simpa using g
  have a:=c x f;have i:=c e d;rw[h,i] at a
  injection a with a
  injection a with a
  show(L9 a).symm
theorem kK [DecidableEq a] (f:a->b):∀(l:!b)(L':!a),l.Perm^L'.map f->∃M:!a,M.Perm L'/\l=M.map f
 | [],L',h=>by
  have:=h.length_eq
  rw[aG] at this
  have:L'= []:=af6.mp this.symm
  subst this;show#[[], .refl _,Y]
 |x::r,L',h=>by
  let#[e,d,rfl]:=bS.mp^h.mem_iff.mp c5;have c:=List.perm_cons_erase d;have g:(f e::r).Perm (f e::(L'.erase e).map f):=h.trans^c.map f;let#[M,m1,rfl]:=kK f r (L'.erase e)^(List.perm_cons _).mp g;show#[e::M,(m1.cons e).trans c.symm,Y]
section
theorem JZ(I:Inv X d U H s)(E:sE H L')(hz:L'.length<=1000)
  (Y':∀(P:!b_->c_->Prop),(∀Z tk,s.heap.objs.size<=Z.objs.size->(∀b o,s.heap.get? b\o->Z.get? b\o)->P (L'.map λe=>Value.ref e.1) {s with heap:=Z,toks:=tk})->e_ (ei X.prog X.w) X.A.in1 (collect v) P X.xe s)
  (q:∀(q:Ad)(M:!(Ad×(Nat×Nat))),H q=V->M.Perm L'->(M.map (·.2)).Pairwise Wb.lexLe->Q (.ref q)^upd H q^.lst (M.map λe=>V'.ref e.1)):
  e_ (ei X.prog X.w) X.A (call (.builtin "sorted") [v]) (EP X d U Q) X.xe s:=by
 have eL:1000<sizeLine:=∅
 apply ael kind_sorted agx agy (agz _) ?_;unfold Builtin.«sorted»;apply a_ (m:=checkCount "sorted" 1 1 _)^ir^a_ (Y' _ λk Qh F TB=>a_^aeH ?_^by rw[aG];lia)
 have G:(k.push^hT "list" (L'.map λe=>Value.ref e.1).toArray 0).get? k.objs.size\(hT "list" (L'.map λe=>Value.ref e.1).toArray 0):=GM _ rfl;have uD:∀b o,s.heap.get? b\o->b<k.objs.size:=λb o e=>Da^TB b o e
 have fin:∀(M:!(Ad×(Nat×Nat)))(out:Array b_),M.Perm L'->(M.map (·.2)).Pairwise Wb.lexLe->out.toList=M.map (λe=>Value.ref e.1)->EP X d U Q (.ref k.objs.size) {s with heap:=sortedHeap (k.push^hT "list" (L'.map λe=>Value.ref e.1).toArray 0) k.objs.size (L'.map λe=>Value.ref e.1) out,toks:=Qh}:=λM out B ms J'=>by
  let#[c,N]:=sortedHeap_at (out:=out) G;apply#[.ref k.objs.size,_,I.laid (t':=Qh) (λb o e=>?_) F (o:= .lst (M.map λe=>V'.ref e.1)) #[by rw[aG,B.length_eq];lia,out.toList,c,?_,by rw[Array.toArray_toList];show N],Y,q _ M (I.hok.fresh F) B ms]
  .rw[sortedHeap_old (bP^uD b o e)^by rw[afH];show aex^uD b o e]
   show AC _^TB b o e
  .rw[J',show(λe:Ad×(Nat×Nat)=>V'.ref e.1)=V'.ref∘(·.1) from rfl,show(λe:Ad×(Nat×Nat)=>Value.ref e.1)=Value.ref∘(·.1) from rfl,<-cQ,<-cQ]
   show uL _
 by_cases h2:L'.length<2
 .apply a_^IR^adK nn #[_,G,Y] ls (KS.zB G (by rw[aG];show h2) #[_,Y,ir #[_,Y,fin L' _ (.refl _) ?_ rfl]])^afi _
  match L',h2 with
  | [],_=>show .nil
  | [_],_=>show Hy _ _
 .have l:∀e∈L',∀j:c_,TS.Keeps s j->∃t u,IsTup j.heap e.1 [.int (e.2.1:Nat) t, .int (e.2.2:Nat) u].toArray:=λe he j C=>by
   apply af λG0 k0=>?_;let#[t,u,o,J',N,n,hd]:=Pu I^E e he;apply k0 ?_;show#[t,u,o,C _ _ J',N,n,hd]
  apply a_^IR^adK nn #[_,G,Y] ls (TS.qq (s0:=s) (O:=lexOrd) (key:=keyOf L') (S:=λp=>∃e∈L',p=(Value.ref e.1,Value.ref e.1)) (k0:=tuples' L) G (by rw[aG];lia) (by rw[aG];lia) (λ_ _ _ _=>trivial) (λb o e=>#[bP^uD b o e,AC _^TB b o e]) (λE' j P C hq=>?_) (λE' j C x y st P sx sy hk hq=>?_) (λv r=>?_) λout ql Lq=>#[_,Y,ir #[_,Y,?_]])^afi _
  .have go:∀(M:!(Ad×(Nat×Nat))),(∀e∈M,e∈L')->∃fs:!b_,PySem.W.KatTups j.heap (M.map λe=>Value.ref e.1) fs/\fs.length=M.length/\∀v∈fs,∃i t,v= .int i t:=by
    intro M
    induction M with
    |nil=>show λ_=>#[[],PySem.W.KatTups.nil,Y,λv r=>by cases r]
    |cons e M ih=>
     intro hM;apply af λG0 k0=>?_;let#[fs,a,b,c]:=ih λx hx=>hM x^eS _ hx;let#[t,u,o,J',N,n,hd]:=l e (hM e c5) j C;apply k0 ?_;apply#[.int (e.2.1:Nat) t::fs,PySem.W.KatTups.cons J' N hd rfl a,by simp[b],λv r=>?_]
     rcases bQ.mp r with z|z
     .show#[_,_,z]
     .show c v z
   let#[fs,kt,kl,ki]:=go L' λ_ h=>h;apply PySem.W.kat_kind (T:= .type "int") kt () (λv r=>by let#[i,t,rfl]:=ki v r;show .now) ∅ ?_
   have hb:(Value.type "int" !=Value.type "tuple")=true:=∅
   rw[hb];show hq
  .obtain⟨f,m1,rfl⟩:=sx
   let#[g,R,rfl]:=sy;rw[lt'_eq];apply Fk^aei ?_;rw[hk];apply af λG0 k0=>?_;let#[t1,t2,k1]:=l f m1 j C;let#[u1,u2,k2]:=l g R j C;apply k0 ?_;apply Fk^aeL^aeh^Wh k1 k2 #[Y,?_]
   have eb:(if ((f.2.1:Nat):Int)=((g.2.1:Nat):Int) then AT (((f.2.2:Nat):Int)<((g.2.2:Nat):Int)) else AT (((f.2.1:Nat):Int)<((g.2.1:Nat):Int)))=lexOrd.blt (keyOf L' (.ref f.1, .ref f.1))^keyOf L' (.ref g.1, .ref g.1):=by
    rw[om E m1,om E R];change _=lg f.2 g.2;unfold lg;simp only[Int.ofNat_inj,Int.ofNat_lt]
   rw[eb];show FB hq
  .obtain⟨e,he,rfl⟩:=bS.mp r
   show#[e,he,Y]
  .rw[cQ] at ql
   let#[M,B,em]:=kK (λe:Ad×(Nat×Nat)=>((Value.ref e.1,Value.ref e.1):Keyed)) out.toList L' ql;apply fin M _ B ?_^by rw[Array.toList_map,em,cQ];rfl
   rw[em,gX] at Lq;rw[gX];apply W1 ?_ Lq;intro f g m1 R hle;have IT:lg (keyOf L' (.ref g.1, .ref g.1))^keyOf L' (.ref f.1, .ref f.1)=false:=hle;rw[om E^B.mem_iff.mp m1,om E^B.mem_iff.mp R] at IT;show BB IT
def Dq:CallR X (.builtin "sorted") (λc H Q=>∃(p:Ad)(L':!(Ad×(Nat×Nat))),c= [.ref p]/\aK X.K H p (L'.map λe=>V'.ref e.1)/\sE H L'/\L'.length<=1000/\
  ∀(q:Ad)(M:!(Ad×(Nat×Nat))),H q=V->M.Perm L'->(M.map (·.2)).Pairwise Wb.lexLe->Q (.ref q)^upd H q^.lst (M.map λe=>V'.ref e.1)):=by
 intro d s n H c us Q I f h;rfl';let#[p,L',rfl,i,j,k,q]:=h;let#[u,rfl,l]:=f.one;subst l;let#[a,r,pl,g]:=I.list i
 have m:a=L'.map λe=>Value.ref e.1:=by
  have:=uR (as:=L'.map (·.1)) (us:=a)^by rw[cQ];show r
  rw[this,cQ];rfl
 have v:1000<sizeLine:=∅
 ac_rfl;subst m;apply JZ I j k (λw h=>agA pl.isList (h _ _ ?_ λb o e=>?_)^by rw[aG];lia) q
 .rw[aef,afH];show pM _
 .rw[ad8 _ _ _ _^bP^Da e];show AC _ e
end
section
open PySem.SeqAt
open PySem.AutoSeq1 (wpAny_loadPart')
open PySem.MeetsSeq PySem.MeetsSeq2 PySem.MeetsSeq3
def Jc{c:!Value}{d:!Int}(h:IntsAre c d){i:Nat}{a:Int}(e:d[i]?\a):∃t,c[i]?\(.int a t):=by
 induction h generalizing i with
 |nil=>simp at e
 |cons b t _ f=>
  cases i with
  |zero=>simp at e;subst e;show#[t,Y]
  |succ i=>simp at e;let#[u,g]:=f e;show#[u,by simpa using g]
theorem S0(l b:Ad)(a j:Array b_)(n H:Nat)(I J':Option Ad)(L' M:Array^Option b_)(m f:!Int)(E:jp a.toList m)(F:jp j.toList f)(k:Nat):
  ∀i:Nat,a.size-i=k->i<=a.size->i<=j.size->Meets (Builtin.«list.__eq__.loop» #[[.ref l, .ref b,lp i,lp 0],[]])
   (λA R s=>s.heap.get? l\{cls:= .type "list",dict:=I,data:= .seq a n,slots:=L'}/\s.heap.get? b\{cls:= .type "list",dict:=J',data:= .seq j H,slots:=M}/\
    R (.ok^.ret^.bool^HT.lexLt (m.drop i)^f.drop i) s):=by
 have z1:a.size=m.length:=by rw[<-E.length];simp
 have z2:j.size=f.length:=by rw[<-F.length];simp
 induction k with
 |zero=>
  intro i N O P prog w A R s h;let#[x,g,d,y,os]:=s;let#[o,p,h]:=h
  wp_walk using g_ o,g_ p
  have r:a[((i:Nat):Int).toNat]? =none:=by simp;lia
  rw[r];have Q:m.drop i= []:=C4 ()
  rw[Q] at h
  have S:HT.lexLt []^f.drop i=AT (a.size<j.size):=by
   by_cases c:i<f.length
   .rw[xl c,HT.z7]
    show(FM ()).symm
   .rw[C4 (),HT.BC]
    show(GE ()).symm
  rw[S] at h
  wp_walk using g_ o,g_ p
  show h
 |succ k T=>
  intro i N O P prog w A R s h;let#[x,g,d,y,os]:=s;let#[o,p,h]:=h
  wp_walk using g_ o,g_ p
  have B:i<m.length:=()
  let#[t,U]:=Jc E^bT B;have r:a[((i:Nat):Int).toNat]?\(.int m[i] t):=by rw[lH,<-gE];show U
  have X:((i:Int)+1)=((i+1:Nat):Int):=by push_cast;rfl
  rw[r]
  by_cases c:i<f.length
  .obtain⟨u,Y'⟩:=Jc F^bT c
   have v:j[((i:Nat):Int).toNat]?\(.int f[i] u):=by rw[lH,<-gE];show Y'
   rw[v];rw[xl B,xl c,HT.iJ] at h;let#[e,Z,G]:=HT.OR A.in1 #[x,g,d,y,os] m[i] t f[i] u;apply a_^Z prog w _ _ ?_;cases e with
   |true=>
    rw[mo^G.mp rfl] at h
    wp_walk
    rw[X]
    show#[ad2 afA _,adU entry_eq_loop (by
     rw[adM afA _];show T (i+1) () () () prog w A R _ #[o,p,h])]
   |false=>
    rw[tz^λq=>absurd (G.mpr q) c9] at h
    wp_walk using g_ o,g_ p
    rw[r,v];have C:=HT.PR A.in1 #[x,g,d,y,os] m[i] t f[i] u prog w
    wp_walk using C
    show h
  .have v:j[((i:Nat):Int).toNat]? =none:=by simp;lia
   rw[v];rw[xl B,C4 (show f.length<=i by lia),HT.z6] at h
   wp_walk using g_ o,g_ p
   change R (.ok^.ret^.bool (AT (a.size<j.size))) _;rw[GE ()]
   show h
end
section
open PySem.SeqAt
open PySem.AutoSeq1 (wpAny_loadPart')
open PySem.MeetsSeq PySem.MeetsSeq2 PySem.MeetsSeq3
def DQ(l b:Ad)(a c:Array b_)(n i:Nat)(j k:Option Ad)(m o:Array^Option b_)(e f:!Int)(r:jp a.toList e)(t:jp c.toList f):
  Meets (Builtin.«list.__lt__» #[[.ref l, .ref b],[]])
   (λ_ R s=>s.heap.get? l\{cls:= .type "list",dict:=j,data:= .seq a n,slots:=m}/\s.heap.get? b\{cls:= .type "list",dict:=k,data:= .seq c i,slots:=o}/\
    R (.ok^.ret^.bool^HT.lexLt e f) s):=by
 intro prog w A R s h;let#[u,g,d,v,os]:=s;let#[p,q,h]:=h;have x:=AutoSeq1.sub_list_list
 wp_walk using g_ p,g_ q
 show#[ad2 afA _,adU entry_eq_loop (by
  rw[adM afA _];show S0 l b a c n i j k m o e f r t _ 0 rfl (eQ _) (eQ _) prog w A R _ #[p,q,h])]
end
section
theorem Jw(o:s.heap.IsList l a)(p:s.heap.IsList b d)(q:jp a.toList e)(r:jp d.toList f)(t:A.units<cLine)
  (h:Q (HT.lexLt e f) s):e_ (ei prog w) A (oneLt' L (.ref l)^.ref b) Q E s:=by
 rfl';obtain⟨⟨cls,v,i,x⟩,g,j,n,k⟩:=id o;obtain⟨⟨y,B,data2,C⟩,G,m,H,c⟩:=id p;ac_rfl;simp only at j k m c;subst j k m c;rw[oneLt'_eq];simp only[adW];apply a_^wpAny_cRoomFor t ?_;apply a_^wpAny_callSpecialIfBound?_slot #[_,g,Y] PySem.F.slot_list_lt^ad0 PySem.F.slot_list_lt #[_,g,Y] PySem.F.entry_list_lt (PySem.F.args_list_lt_2 _ _) (DQ l b a d n H v B x C e f q r) #[g,G,?_];show SC h
end
theorem wd:∀a:!Int,HT.lexLt a a=At
 | []=>rfl
 |x::b=>by rw[HT.iJ,mo rfl];show wd b
theorem Aq:∀a b c:!Int,HT.lexLt a b=L->HT.lexLt b c=L->HT.lexLt a c=L
 | [],[],_,h,_=>by cases h
 | [],_::_,[],_,h=>by cases h
 | [],_::_,_::_,_,_=>rfl
 |_::_,[],_,h,_=>by cases h
 |_::_,_::_,[],_,h=>by cases h
 |x::i,y::j,z::k,g,e=>by
  rw[HT.iJ] at*
  by_cases f:x=y
  .rw[mo f] at g
   by_cases d:y=z
   .rw[mo d] at e
    rw[mo^f.trans d];show Aq i j k g e
   .rw[tz d] at e
    rw[tz^by rw[f];show d,f];show e
  .rw[tz f] at g
   have l:=KF g
   by_cases d:y=z
   .rw[tz^by rw[<-d];show f,<-d];show g
   .rw[tz d] at e
    have m:=KF e;rw[tz ()]
    show FM ()
theorem we:∀a b:!Int,HT.lexLt a b=At->HT.lexLt b a=At->a=b
 | [],[],_,_=>rfl
 | [],_::_,h,_=>by cases h
 |_::_,[],_,h=>by cases h
 |x::f,y::g,c,d=>by
  rw[HT.iJ] at*
  by_cases e:x=y
  .rw[mo e] at c
   rw[mo e.symm] at d;rw[e,we f g c d]
  .rw[tz e] at c
   rw[tz^λz=>e z.symm] at d
   have:=SB c
   have:=SB d
   lia
def Jk(a b c:!Int)(h:HT.lexLt a c=L):HT.lexLt a b=L\/HT.lexLt b c=true:=by
 cases e:HT.lexLt a b with
 |true=>show .inl rfl
 |false=>
  right
  cases d:HT.lexLt b a with
  |true=>show Aq _ _ _ d h
  |false=>rw[<-we a b e d];show h
def SX:KeyOrd where
 α:=!Int
 blt:=HT.lexLt
 irrefl:=wd
 trans:=Aq
 negTrans:=Jk
 total:=we
def ie(r:!Nat):!Int:=r.map λ(n:Nat)=>(n:Int)
def iK(a b:!Nat):Prop:=HT.lexLt (ie b)^ie a=At
def Kt(H:Hp)(L':!(Ad×!Nat)):Prop:=∀p∈L',H p.1\(.lst^(ie p.2).map V'.int)
def J9(h:(ie a).map V'.int=(ie b).map V'.int):a=b:=by
 unfold ie at h;rw[cQ,cQ] at h
 induction a generalizing b with
 |nil=>cases b with
  |nil=>rfl
  |cons y b=>simp at h
 |cons x a d=>
  cases b with
  |nil=>simp at h
  |cons y b=>
   rw[b9,b9] at h
   injection h with e f
   have c:V'.int (x:Int)=V'.int (y:Int):=e
   injection c with c
   rw[d f,show x=y by lia]
def t8(L':!(Ad×!Nat))(v:Keyed):!Int:=match v.1 with
 | .ref a=>((L'.find? λe=>e.1==a).map λe=>ie e.2).getD []
 |_=> []
def oj(c:Kt H L')(d:e∈L')(v:Value):t8 L' (.ref e.1,v)=ie e.2:=by
 unfold t8;dsimp only;cases b:L'.find? λx=>x.1==e.1 with
 |none=>show absurd (afs.mp b e d) (by simp)
 |some x=>
  have f:=afI b;have g:=List.find?_some b;have h:x.1=e.1:=by simpa using g
  have a:=c x f;have i:=c e d;rw[h,i] at a
  injection a with a
  injection a with a
  change ie x.2=ie e.2;rw[J9 a]
section
theorem AU(hu:X.A.units+64<cLine):CallR X (.builtin "sorted") (λU H Q=>∃(p:Ad)(L':!(Ad×!Nat)),U= [.ref p]/\aK X.K H p (L'.map λe=>V'.ref e.1)/\Kt H L'/\L'.length<=1000/\
  ∀(q:Ad)(M:!(Ad×!Nat)),H q=V->M.Perm L'->(M.map (·.2)).Pairwise iK->Q (.ref q)^upd H q^.lst (M.map λe=>V'.ref e.1)):=by
 intro Y' s σ H U us Q I rv h;apply af λZ k0=>?_;let#[p,L',rfl,hp,l,hz,q]:=h;let#[u,rfl,ru]:=rv.one;subst ru;let#[d,r,pl,z]:=I.list hp;have hl:=r.length;rw[aG] at hl;have eL:1000<sizeLine:=∅
 apply k0 ?_
 have C:d=L'.map λe=>Value.ref e.1:=by
  have:=uR (as:=L'.map (·.1)) (us:=d)^by rw[cQ];show r
  rw[this,cQ];rfl
 by_cases h2:L'.length<2
 .apply KS.D3 pl.isList () ?_
  let#[e,g]:=agw s.heap d d.toArray;have E:H (s.heap.objs.size+1)=none:=I.hok.fresh^pM _;apply#[.ref (s.heap.objs.size+1),_,I.laid (t':=s.toks) (λb o F=>agr F) (pM _) (o:= .lst (L'.map λe=>V'.ref e.1)) #[by rw[aG];lia,d,e,r,g],Y,q _ L' E (.refl _) ?_]
  match L',h2 with
  | [],_=>show .nil
  | [_],_=>show Hy _ _
 .have lst:∀e∈L',∀f:c_,TS.Keeps s f->∃a:Array b_,f.heap.IsList e.1 a/\jp a.toList^ie e.2:=λe g f k=>by
   apply af λZ k0=>?_;let#[G,r2,p2,z]:=I.list^aK.of^l e g;let#[o,J',m,n,hd]:=p2.isList;apply k0 ?_;show#[G.toArray,#[o,k _ _ J',m,n,hd],by simpa using intsAre_of r2]
  apply TS.JY (O:=SX) (key:=t8 L') (S:=λp=>∃e∈L',p=(Value.ref e.1,Value.ref e.1)) (k0:=oneType') pl.isList () () (λE' f Q' k N=>?_) (λE' f k x y st Q' sx sy hk N=>?_) (λv t=>?_) λout ql Lq=>?_
  .apply PySem.W.kas_kind (T:= .type "list") () (λv t=>?_) ∅ ∅ N
   rw[C] at t;let#[e,g,rfl]:=bS.mp t;obtain⟨a,⟨o,J',m,_⟩,_⟩:=lst e g f k;rw[<-m];show(PySem.W.Looks.ld J').andThen .now
  .obtain⟨i,m1,rfl⟩:=sx
   let#[j,w,rfl]:=sy;rw[lt'_eq];apply Fk^aei ?_;rw[hk,keyLt'_oneType];apply af λZ k0=>?_;let#[i1,l1,n1]:=lst i m1 f k;let#[i2,l2,n2]:=lst j w f k;apply k0 ?_;apply Fk^aeL^aeh^Jw l1 l2 n1 n2 ?_ #[Y,?_]
   .rw[Around.in1_units,Around.in1_units];lia
   .have eb:HT.lexLt (ie i.2)^ie j.2=SX.blt (t8 L' (.ref i.1, .ref i.1))^t8 L' (.ref j.1, .ref j.1):=by
     rw[oj l m1,oj l w];rfl
    rw[eb];show FB N
  .rw[C] at t
   let#[e,g,rfl]:=bS.mp t;show#[e,g,Y]
  .rw[C,cQ] at ql
   let#[M,B,em]:=kK (λe:Ad×!Nat=>((Value.ref e.1,Value.ref e.1):Keyed)) out.toList L' ql
   have P:(out.map (·.2)).toList=M.map λe=>Value.ref e.1:=by
    rw[Array.toList_map,em,cQ];rfl
   let#[c,m]:=agw s.heap d^out.map (·.2);have E:H (s.heap.objs.size+1)=none:=I.hok.fresh^pM _;have Bn:=B.length_eq;apply#[.ref (s.heap.objs.size+1),_,I.laid (t':=s.toks) (λb o F=>agr F) (pM _) (o:= .lst (M.map λe=>V'.ref e.1)) #[by rw[aG];lia,(out.map (·.2)).toList,c,?_,by rw[Array.toArray_toList];show m],Y,q _ M E B ?_]
   .rw[P,show(λe:Ad×!Nat=>V'.ref e.1)=V'.ref∘(·.1) from rfl,show(λe:Ad×!Nat=>Value.ref e.1)=Value.ref∘(·.1) from rfl,<-cQ,<-cQ]
    show uL _
   .rw[em,gX] at Lq
    rw[gX];apply W1 ?_ Lq;intro i j m1 w R;have IT:HT.lexLt (t8 L' (.ref j.1, .ref j.1))^t8 L' (.ref i.1, .ref i.1)=false:=R;rw[oj l^B.mem_iff.mp m1,oj l^B.mem_iff.mp w] at IT;show IT
end
end L2
namespace PySem.SetTable
def pX(xs:Array Nat):Prop:=∀i j (a:j<xs.size),i<j->xs[i]! <xs[j]!
def RG{a:Array Nat}{i d:Nat}(h:i<a.size):a.getD i d=a[i]! :=by
 simp[Array.getD,h]
theorem Bj(R:pX h)(j:Nat):∀(f lo g:Nat),g-lo<=f->lo<=g->g<=h.size->(∀i,i<lo->h[i]! <j)->(∀i,g<=i->i<h.size->j<=h[i]!)->
  lo<=below.go h j f lo g/\below.go h j f lo g<=g/\(∀i,i<below.go h j f lo g->h[i]! <j)/\∀i,below.go h j f lo g<=i->i<h.size->j<=h[i]!
 |0,lo,g,m,n,k,a,b=>by
  have:lo=g:=()
  subst this;rw[below.go];show#[bu _,bu _,a,b]
 |f+1,lo,g,m,n,k,a,b=>by
  rw[below.go]
  by_cases c:lo<g
  .rw[mo c]
   have l:(lo+g) / 2<h.size:=()
   dsimp only;rw[RG l]
   by_cases d:h[(lo+g) / 2]! <j
   .rw[mo d]
    have:=Bj R j f ((lo+g) / 2+1) g () () k (λi p=>by
     by_cases e:i=(lo+g) / 2
     .rw[e];show d
     .have:=R i ((lo+g) / 2) l ();lia) b
    show#[(),this.2.1,this.2.2]
   .rw[tz d]
    have:=Bj R j f lo ((lo+g) / 2) () () () a (λi q o=>by
     by_cases e:i=(lo+g) / 2
     .rw[e];lia
     .have:=R ((lo+g) / 2) i o ();lia)
    show#[this.1,(),this.2.2]
  .rw[tz c]
   have:lo=g:=()
   subst this;show#[bu _,bu _,a,b]
def lW{xs:Array Nat}(R:pX xs)(j:Nat):below xs j<=xs.size/\(∀i,i<below xs j->xs[i]! <j)/\∀i,below xs j<=i->i<xs.size->j<=xs[i]! :=by
 have:=Bj R j xs.size 0 xs.size () (eQ _) (bu _) (λi h=>by lia)^λi a b=>by lia
 show#[this.2.1,this.2.2]
def below_at(R:pX a)(h:a[i]?\j):below a j=i:=by
 let#[b,e]:=C1.mp h;have g:a[i]! =j:=by simp[b,e]
 let#[k,d,f]:=lW R j;apply Nat.le_antisymm ?_ ?_
 .apply FS ?_
  intro c
  have:=d i ()
  lia
 .apply FS ?_
  intro c;have l:=f (below a j) (bu _) ()
  have m:=R (below a j) i b ()
  lia
def uM{t:SetTable}(R:pX t.place)(h:t.place[i]?\j):t.slot j= .live i:=by
 unfold slot;rw[below_at R h];simp[h]
def JW{t:ny}(R:pX t.place)(a:t.dummies= #[])(h:∀i:Nat,t.place[i]? ≠J j):t.slot j= .empty:=by
 unfold slot
 have b:(t.place[below t.place j]? ==J j)=false:=by
  rw[Wp];show h _
 dsimp only;rw[tz^by rw[b];show c9]
 unfold has;rw[a];rfl
def pN(mask:Nat)(p:Probe):Probe:=
 if p.more>0 then {p with j:=p.j+1,more:=p.more-1} else
 let (i,perturb):=leap mask p.i p.perturb
 {p with j:=i,more:=runEnd mask i-i,i,perturb}
def bW(mask:Nat)(h:Int):Probe:={j:=bits h%(mask+1),more:=runEnd mask (bits h%(mask+1))-bits h%(mask+1),i:=bits h%(mask+1),perturb:=bits h,dummy:=V}
def uO(mask:Nat)(h:Int):Nat->Probe
 |0=>bW mask h
 |k+1=>pN mask^uO mask h k
def ck(mask:Nat)(h:Int)(k:Nat):Nat:=(uO mask h k).j
def QJ(h:Int):bits h<2<<<64:=by
 unfold bits;have a:0<=h%(2<<<64:Int):=agb _ ∅
 have b:h%(2<<<64:Int)<2<<<64:=aft _ ∅
 lia
def fz(mask:Nat)(i p:Nat):Nat->Nat×Nat
 |0=>(i,p)
 |r+1=>leap mask (fz mask i p r).1 (fz mask i p r).2
theorem mB(mask i p:Nat):∀r,(fz mask i p r).2=p / 32<<<r
 |0=>by simp[fz]
 |r+1=>by
  change(fz mask i p r).2 / 32=_;rw[mB mask i p r,Nat.div_div_eq_div_mul,Nat.pow_succ]
def Wq(mask:Nat)(i:Nat):Nat:=(i*5+1)%(mask+1)
def lZ(mask:Nat)(i:Nat):Nat->Nat
 |0=>i
 |r+1=>Wq mask^lZ mask i r
theorem m6(mask i:Nat)(a:Nat):∀b,lZ mask i (a+b)=lZ mask (lZ mask i a) b
 |0=>rfl
 |b+1=>by
  change Wq mask^lZ mask i (a+b)=_;rw[m6 mask i a b];rfl
theorem yD{mask i p a:Nat}(h:(fz mask i p a).2=0):∀r,fz mask i p (a+r)=(lZ mask (fz mask i p a).1 r,0)
 |0=>by rw[Nat.add_zero,lZ];show adS rfl h
 |r+1=>by
  change leap mask (fz mask i p (a+r)).1 (fz mask i p (a+r)).2=_;rw[yD h r];unfold leap;simp[lZ,Wq]
def zQ(mask:Nat):Prop:=mask=7\/mask=31\/mask=127\/mask=511
def orb(mask:Nat):Nat->Nat->!Nat
 |_,0=> []
 |i,n+1=>i::orb mask (Wq mask i) n
theorem Jr{mask s:Nat}:∀{i n:Nat},s∈orb mask i n->∃r,r<n/\lZ mask i r=s
 |i,0,h=>by cases h
 |i,n+1,h=>by
  rcases bQ.mp h with rfl|h
  .show#[0,(),Y]
  .obtain⟨r,a,e⟩:=Jr h
   apply#[r+1,(),?_]
   have:=m6 mask i 1 r
   rw[show 1+r=r+1 by lia] at this
   rw[this];show e
def aaA{mask:Nat}(h:zQ mask):(∀s,s<=mask->∃r,r<=mask/\lZ mask 0 r=s)/\lZ mask 0 (mask+1)=0:=by
 have key:∀m,(aj (m+1)).all (λs=>(orb m 0 (m+1)).contains s)=L->∀s,s<=m->∃r,r<=m/\lZ m 0 r=s:=λm a s b=>by
  have:=yQ.mp a s^gf.mpr ()
  let#[r,c,e]:=Jr^List.contains_iff_mem.mp this;show#[r,(),e]
 rcases h with rfl|rfl|rfl|rfl
 .show#[key 7^by nofun,by nofun]
 .show#[key 31^by nofun,by nofun]
 .show#[key 127^by nofun,by nofun]
 .show#[key 511^by nofun,by nofun]
def cover{mask:Nat}(h:zQ mask){i s:Nat}(d:i<=mask)(e:s<=mask):∃r,r<=mask/\lZ mask i r=s:=by
 let#[o,per]:=aaA h;let#[a,f,rfl]:=o i d;let#[b,g,rfl]:=o s e
 by_cases c:a<=b
 .apply#[b-a,(),?_]
  rw[<-m6,show a+(b-a)=b by lia]
 .apply#[mask+1-a+b,(),?_]
  rw[<-m6,show a+(mask+1-a+b)=mask+1+b by lia,m6,per]
def dk(mask:Nat)(p:Probe):Nat->Probe
 |0=>p
 |k+1=>pN mask^dk mask p k
theorem mR(mask:Nat)(p:Probe)(a:Nat):∀b,dk mask p (a+b)=dk mask (dk mask p a) b
 |0=>rfl
 |b+1=>by
  change pN mask^dk mask p (a+b)=_;rw[mR mask p a b];rfl
theorem oQ(mask:Nat)(h:Int):∀k,uO mask h k=dk mask (bW mask h) k
 |0=>rfl
 |k+1=>by
  change pN mask _=pN mask _;rw[oQ mask h k]
theorem xE(mask:Nat)(p:Probe):∀c,c<=p.more->dk mask p c={p with j:=p.j+c,more:=p.more-c}
 |0,_=>rfl
 |c+1,a=>by
  change pN mask^dk mask p c=_;rw[xE mask p c ()]
  unfold pN;rw[mo^by change p.more-c>0;lia]
  change({p with j:=p.j+c+1,more:=p.more-c-1}:Probe)={p with j:=p.j+(c+1),more:=p.more-(c+1)}
  rw[show p.more-c-1=p.more-(c+1) by lia,show p.j+c+1=p.j+(c+1) by lia]
def Xz(mask:Nat)(p:Probe)(a:Nat×Nat):Probe:={p with j:=a.1,more:=runEnd mask a.1-a.1,i:=a.1,perturb:=a.2}
def more_le(mask i:Nat):runEnd mask i-i<=9:=by
 unfold runEnd
 split<;>lia
def tR(mask:Nat)(p:Probe):dk mask p (p.more+1)=Xz mask p^leap mask p.i p.perturb:=by
 change pN mask^dk mask p p.more=_;rw[xE mask p p.more^bu _];unfold pN;rw[tz^by change ¬p.more-p.more>0;lia]
 rfl
theorem AH(mask:Nat)(p:Probe):∀r,∃k,k<=p.more+1+10*r/\dk mask p k=Xz mask p^fz mask p.i p.perturb (r+1)
 |0=>#[p.more+1,(),tR mask p]
 |r+1=>by
  let#[k,a,e]:=AH mask p r;have b:=more_le mask (fz mask p.i p.perturb (r+1)).1;apply#[k+((runEnd mask (fz mask p.i p.perturb (r+1)).1-(fz mask p.i p.perturb (r+1)).1)+1),(),?_]
  rw[mR,e];show tR mask^Xz mask p^fz mask p.i p.perturb (r+1)
def JO(mask i p:Nat)(r:Nat):(fz mask i p (r+1)).1<=mask:=by
 change(((fz mask i p r).1*5+1+(fz mask i p r).2 / 32)%(mask+1))<=mask
 have:=rp ((fz mask i p r).1*5+1+(fz mask i p r).2 / 32) (show 0<mask+1 by lia)
 lia
def N4{mask i:Nat}(h:i<=mask):i+(runEnd mask i-i)<=mask:=by
 unfold runEnd
 split<;>lia
structure xC (mask:Nat) (p:Probe):Prop where
 le:p.j+p.more<=mask
 more:p.more<=9
 per:p.perturb<2<<<64
 dum:p.dummy=V
theorem xC.pN{mask:Nat}{p:Probe}(o:xC mask p):xC mask^pN mask p:=by
 unfold SetTable.pN
 split
 .next h=>show#[by change p.j+1+(p.more-1)<=mask;have:=o.le;lia,by change p.more-1<=9;have:=o.more;lia,o.per,o.dum]
 .apply#[N4^by have:=rp (p.i*5+1+p.perturb / 32) (show 0<mask+1 by lia);change(p.i*5+1+p.perturb / 32)%(mask+1)<=mask;lia,more_le _ _,?_,o.dum]
  change p.perturb / 32<2<<<64
  have:=o.per
  lia
def xC.start(mask:Nat)(h:Int):xC mask^bW mask h:=#[N4 (mask:=mask) (i:=bits h%(mask+1))^by have:=rp (bits h) (show 0<mask+1 by lia);lia,more_le _ _,QJ h,Y]
theorem xC.dk{mask:Nat}{p:Probe}(o:xC mask p):∀k,xC mask^dk mask p k
 |0=>o
 |k+1=>(o.dk k).pN
def meets{mask:Nat}(f:zQ mask){p:Probe}(o:xC mask p){s:Nat}(a:s<=mask):∃k,k<10*turns mask/\(dk mask p k).j=s:=by
 have z:(fz mask p.i p.perturb 13).2=0:=by
  rw[mB];show Nat.div_eq_of_lt^cZ o.per ∅
 let#[r,c,e]:=cover f (JO mask p.i p.perturb 12) a;let#[k,d,b]:=AH mask p (12+r);apply#[k,?_,?_]
 .have:=o.more
  unfold turns;lia
 .rw[b]
  change(fz mask p.i p.perturb (12+r+1)).1=s;rw[show 12+r+1=13+r by lia,yD z]
  show e
theorem EZ(R:pX t.place)(o:t.dummies= #[])(hashAt:Nat->Int)(h:Int):∀(K d:Nat)(p:Probe),p.dummy=V->K<d->(∀i:Nat,t.place[i]? ≠J (dk t.mask p K).j)->
  ∃e,e<=K/\(∀f,f<e->∃i:Nat,t.place[i]?\(dk t.mask p f).j/\hashAt i≠h)/\
   (((∀i:Nat,t.place[i]? ≠J (dk t.mask p e).j)/\probe.go t hashAt h d p\(.empty (dk t.mask p e).j V))\/
    (∃i:Nat,t.place[i]?\(dk t.mask p e).j/\hashAt i=h/\probe.go t hashAt h d p\(.candidate (dk t.mask p e).j i^dk t.mask p (e+1))))
 |K,0,p,_,v,_=>by lia
 |K,d+1,p,q,v,r=>by
  by_cases c:∃i:Nat,t.place[i]?\p.j
  .obtain⟨i,g⟩:=c
   have s:=uM R g
   by_cases l:hashAt i=h
   .apply#[0,eQ _,λf u=>by lia, .inr #[i,g,l,?_]]
    rw[probe.go,s];dsimp only;rw[mo^~~~l]
    rfl
   .cases K with
    |zero=>show absurd g^r i
    |succ K=>
     have n:(pN t.mask p).dummy=none:=by
      unfold pN
      split<;>show q
     have m:∀k,dk t.mask (pN t.mask p) k=dk t.mask p (k+1):=λk=>by
      have:=mR t.mask p 1 k
      rw[show 1+k=k+1 by lia] at this
      show this.symm
     let#[e,x,a,b]:=EZ R o hashAt h K d (pN t.mask p) n ()^by rw[m];show r
     have w:probe.go t hashAt h (d+1) p=probe.go t hashAt h d^pN t.mask p:=by
      rw[probe.go,s];dsimp only;rw[tz^~~~l]
      rfl
     apply#[e+1,(),λf u=>?_,?_]
     .cases f with
      |zero=>show#[i,g,l]
      |succ f=>
       have:=a f ()
       rw[m] at this;show this
     .rw[m,m] at b
      rw[w];show b
  .have c:∀i:Nat,t.place[i]? ≠J p.j:=λi g=>c #[i,g]
   apply#[0,eQ _,λf u=>by lia, .inl #[c,?_]]
   rw[probe.go,JW R o c];dsimp only;rw[q];rfl
structure TOk (t:SetTable) (hs:!Int):Prop where
 few:zQ t.mask
 dum:t.dummies= #[]
 rise:pX t.place
 size:t.place.size=hs.length
 le:∀(i j:Nat),t.place[i]?\j->j<=t.mask
 room:t.place.size<=t.mask
 path:∀(i:Nat)(h:Int),hs[i]?\h->∃k,t.place[i]?\(ck t.mask h k)/\∀k',k'<k->∃i':Nat,t.place[i']?\(ck t.mask h k')
def GW(mask:Nat)(h:Int)(k:Nat):ck mask h k<=mask:=by
 unfold ck;rw[oQ]
 have:=((xC.start mask h).dk k).le
 lia
def TOk.empty(T:TOk t a):∃s,s<=t.mask/\∀i:Nat,t.place[i]? ≠J s:=by
 apply FS ?_;intro c
 have all:∀s∈aj (t.mask+1),s∈t.place.toList:=λs a=>by
  apply FS ?_;intro n;apply c #[s,by have:=gf.mp a;lia,λi b=>n ?_]
  rw[<-gE] at b;show cG b
 have:=Wb.aY rm all
 rw[jb,dE] at this
 have:=T.room
 lia
theorem TOk.probe(T:TOk t g)(hashAt:Nat->Int)(h:Int)(k:Nat):
  ∃d,k<=d/\(∀e,k<=e->e<d->∃i:Nat,t.place[i]?\(ck t.mask h e)/\hashAt i≠h)/\
   (((∀i:Nat,t.place[i]? ≠J^ck t.mask h d)/\t.probe hashAt h^uO t.mask h k\(.empty (ck t.mask h d) V))\/
    (∃i:Nat,t.place[i]?\(ck t.mask h d)/\hashAt i=h/\t.probe hashAt h^uO t.mask h k\(.candidate (ck t.mask h d) i^uO t.mask h (d+1)))):=by
 let#[s,j,l]:=T.empty;have o:=(xC.start t.mask h).dk k;rw[<-oQ] at o;let#[K,m,n]:=meets T.few o j;have f:∀c,dk t.mask (uO t.mask h k) c=uO t.mask h (k+c):=λc=>by rw[oQ,oQ,<-mR]
 let#[d,p,a,b]:=EZ T.rise T.dum hashAt h K (10*turns t.mask) (uO t.mask h k) o.dum m^by rw[n];show l
 apply#[k+d,(),λe q r=>?_,?_]
 .have:=a (e-k) ()
  rw[f,show k+(e-k)=e by lia] at this
  show this
 .rw[f,f] at b
  show b
def mv{xs:Array a}(x:a)(e:p<=xs.size)(i:Nat):(insertAt xs p x)[i]? =if i<p then xs[i]? else if i=p then J x else xs[i-1]? :=by
 rw[<-gE,afW];have lt:(xs.toList.take p).length=p:=by rw[jr,dE];lia
 by_cases c:i<p
 .rw[mo c,jj (),Hx c,gE]
 .rw[tz c]
  by_cases d:i=p
  .subst d
   rw[mo rfl,ko (),lt,tO];rfl
  .rw[tz d,ko (),lt]
   obtain⟨m,b⟩:∃m,i-p=m+1:=#[i-p-1,()]
   rw[b,zJ,yL,gE]
   congr 1;lia
def iV(xs:Array a)(p:Nat)(x:a):(insertAt xs p x).size=xs.size+1:=by
 rw[<-dE,(agk xs p x).length_eq];simp
def kO{a:Array Nat}{i j:Nat}(h:a[i]?\j):a[i]! =j:=by
 let#[b,e]:=C1.mp h;simp[b,e]
def PU{xs:Array Nat}(R:pX xs){j:Nat}(h:∀i:Nat,xs[i]? ≠J j):pX^insertAt xs (below xs j) j:=by
 let#[t,w,x]:=lW R j;have g:=mv (xs:=xs) j t;intro a b y A;rw[iV] at y
 have m:∀i,i<xs.size+1->∃v,(insertAt xs (below xs j) j)[i]?\v/\((i<below xs j/\xs[i]?\v)\/(i=below xs j/\v=j)\/(below xs j<i/\xs[i-1]?\v)):=λi r=>by
  rw[g i]
  by_cases c:i<below xs j
  .rw[mo c,tJ ()]
   show#[_,Y, .inl #[c,Y]]
  .rw[tz c]
   by_cases d:i=below xs j
   .rw[mo d];show#[j,Y, .inr^.inl #[d,Y]]
   .rw[tz d,tJ ()]
    show#[_,Y, .inr^.inr #[(),Y]]
 let#[G,B,C]:=m a ()
 let#[H,E,s]:=m b ()
 rw[kO B,kO E];have lo:∀i v,i<below xs j->xs[i]?\v->v<j:=λi v n f=>by have:=w i n;rw[kO f] at this;show this
 have r:∀i v,below xs j<=i->xs[i]?\v->j<v:=λi v n f=>by
  have:=x i n (C1.mp f).1
  rw[kO f] at this
  have:v≠j:=λz=>h i^by rw[f,z]
  lia
 have o:∀i k v u,xs[i]?\v->xs[k]?\u->i<k->v<u:=λi k v u n f F=>by
  have:=R i k (C1.mp f).1 F
  rw[kO n,kO f] at this;show this
 rcases C with ⟨q,p⟩ | ⟨q,rfl⟩ | ⟨q,p⟩
 .rcases s with ⟨l,e⟩ | ⟨l,rfl⟩ | ⟨l,e⟩
  .show o _ _ _ _ p e A
  .show lo _ _ q p
  .have:=lo _ _ q p;have:=r (b-1) _ () e;lia
 .rcases s with ⟨l,e⟩ | ⟨l,rfl⟩ | ⟨l,e⟩
  .lia
  .lia
  .show r (b-1) _ () e
 .rcases s with ⟨l,e⟩ | ⟨l,rfl⟩ | ⟨l,e⟩
  .lia
  .lia
  .show o _ _ _ _ p e ()
def T7{xs:Array Nat}(R:pX xs){j s:Nat}:(∃i:Nat,(insertAt xs (below xs j) j)[i]?\s)↔s=j\/∃i:Nat,xs[i]?\s:=by
 let#[a,_,_]:=lW R j;have g:=mv (xs:=xs) j a
 constructor
 .rintro⟨i,h⟩
  rw[g i] at h
  split at h
  .show .inr #[i,h]
  .split at h
   .show .inl (Do h).symm
   .show .inr #[_,h]
 .rintro(rfl| ⟨i,h⟩)
  .show#[below xs s,by rw[g,tz (),mo rfl]]
  .by_cases c:i<below xs j
   .show#[i,by rw[g,mo c];show h]
   .show#[i+1,by rw[g,tz (),tz ()];show h]
theorem TOk.put(T:TOk t l)(v:∀i:Nat,t.place[i]? ≠J^ck t.mask h k)(w:∀a,a<k->∃i:Nat,t.place[i]?\(ck t.mask h a))(room:t.place.size+1<=t.mask):
  (t.put^ck t.mask h k).2=below t.place^ck t.mask h k/\below t.place^ck t.mask h k<=l.length/\
  TOk (t.put^ck t.mask h k).1 (l.take^below t.place^ck t.mask h k++h::l.drop^below t.place^ck t.mask h k):=by
 let#[x,A,B]:=lW T.rise^ck t.mask h k;have g:=mv (xs:=t.place) (ck t.mask h k) x;have sz:=T.size;have o:=λs=>T7 (s:=s) (j:=ck t.mask h k) T.rise;apply#[Y,(),T.few,?_,PU T.rise v,?_,?_,?_,?_]
 .change(if has t.dummies _=L then _ else t.dummies)= #[]
  rw[T.dum];rfl
 .change(insertAt t.place _ _).size=_
  rw[iV,dj,jr,cF,pI];lia
 .intro i j p
  have p:(insertAt t.place (below t.place^ck t.mask h k)^ck t.mask h k)[i]?\j:=p
  rcases(o j).mp #[i,p] with rfl| ⟨u,e⟩
  .show GW _ _ _
  .show T.le _ _ e
 .change(insertAt t.place _ _).size<=_
  rw[iV];show room
 .intro i e b
  change ∃f,(insertAt t.place (below t.place^ck t.mask h k)^ck t.mask h k)[i]?\(ck t.mask e f)/\∀a,a<f->∃u:Nat,(insertAt t.place (below t.place^ck t.mask h k)^ck t.mask h k)[u]?\(ck t.mask e a);have lt:(l.take^below t.place^ck t.mask h k).length=below t.place^ck t.mask h k:=by rw[jr];lia
  by_cases c:i<below t.place^ck t.mask h k
  .rw[jj (),Hx c] at b
   let#[f,q,r]:=T.path i e b;show#[f,by rw[g,mo c];show q,λa n=>(o _).mpr^.inr^r a n]
  .rw[ko (),lt] at b
   by_cases d:i=below t.place^ck t.mask h k
   .rw[d,tO] at b
    cases(Do b);show#[k,by rw[d,g,tz (),mo rfl],λa n=>(o _).mpr^.inr^w a n]
   .obtain⟨m,y⟩:∃m,i-below t.place^ck t.mask h k=m+1:=#[i-below t.place^ck t.mask h k-1,()]
    rw[y,zJ,yL] at b;let#[f,q,r]:=T.path _ e b;apply#[f,?_,λa n=>(o _).mpr^.inr^r a n];rw[g,tz c,tz d,show i-1=below t.place^ck t.mask h k+m by lia]
    show q
theorem zu(mask i p:Nat):∀r,fz mask i p (r+1)=fz mask (leap mask i p).1 (leap mask i p).2 r
 |0=>rfl
 |r+1=>by
  change leap mask (fz mask i p (r+1)).1 (fz mask i p (r+1)).2=_;rw[zu mask i p r];rfl
def Own(o:Array^Option Nat)(s:Nat):Prop:=(o.getD s^J 0).isNone=At
theorem Bg{mask:Nat}(e:Array^Option Nat):∀(f:Nat)(p:Probe),p.j=p.i->p.more=runEnd mask p.i-p.i->p.i<=runEnd mask p.i->(∃r,r<f/\¬Own e (fz mask p.i p.perturb r).1)->
  ∃h,layClean.free mask e f p.i p.perturb\(dk mask p h).j/\¬Own e (dk mask p h).j/\∀g,g<h->Own e (dk mask p g).j
 |0,p,_,_,_,#[r,v,_]=>by lia
 |f+1,p,w,F,G,#[r,v,q]=>by
  have run:∀c,c<=p.more->(dk mask p c).j=p.i+c:=λc t=>by rw[xE mask p c t];change p.j+c=_;rw[w]
  cases l:(aj (runEnd mask p.i+1-p.i)).find? λk=>(e.getD (p.i+k)^J 0).isNone with
  |some k=>
   let#[x,m,bs,o,y]:=List.find?_eq_some_iff_append.mp l;have H:k<runEnd mask p.i+1-p.i:=gf.mp^by rw[o];simp
   have A:m.length=k:=by
    have B:m.length<(aj (runEnd mask p.i+1-p.i)).length:=by rw[o];simp
    have:=xq (n:=runEnd mask p.i+1-p.i) (i:=m.length)^~~~B
    rw[o,ko^bu _,tO] at this;show(Do this).symm
   apply#[k,?_,?_,λg C=>?_]
   .rw[layClean.free,l,run k ()]
   .rw[run k ()]
    unfold Own;rw[x];show Bool.noConfusion
   .rw[run g ()]
    have E:g∈m:=by
     have:=xq (n:=runEnd mask p.i+1-p.i) (i:=g) ()
     rw[o,jj ()] at this
     show cG this
    have:=y g E
    unfold Own;show Bool.not_eq_true' _▸this
  |none=>
   have all:=afs.mp l
   have own:∀c,c<=p.more->Own e (p.i+c):=λc t=>by
    have:=all c^gf.mpr ()
    unfold Own;show zM.mpr this
   cases r with
   |zero=>show absurd (own 0^eQ _) q
   |succ r=>
    have u:=tR mask p
    let#[h,a,b,c]:=Bg e f (Xz mask p^leap mask p.i p.perturb) rfl rfl (by
     change(leap mask p.i p.perturb).1<=runEnd mask (leap mask p.i p.perturb).1;unfold runEnd;split<;>lia) #[r,(),by rw[zu] at q;show q]
    rw[<-u] at a b c;have s:∀k,dk mask (dk mask p (p.more+1)) k=dk mask p (p.more+1+k):=λk=>(mR mask p (p.more+1) k).symm;apply#[p.more+1+h,?_,?_,λg C=>?_]
    .rw[layClean.free,l,<-s,<-a,u];rfl
    .rw[<-s];show b
    .by_cases d:g<=p.more
     .rw[run g d];show own g d
     .have:=c (g-(p.more+1)) ()
      rw[s,show p.more+1+(g-(p.more+1))=g by lia] at this
      show this
structure Laid (mask:Nat) (hs:!Int) (owner:Array^Option Nat) (ss:!Nat):Prop where
 size:owner.size=mask+1
 len:ss.length=hs.length
 nd:ss.Nodup
 le:∀s∈ss,s<=mask
 get:∀s,s<=mask->∀k,owner.getD s^J 0\k↔ss[k]?\s
 path:∀(k:Nat)(h:Int),hs[k]?\h->∃c,ss[k]?\(ck mask h c)/\∀c',c'<c->ck mask h c'∈ss
def Laid.own{mask:Nat}{c:!Int}{a:Array^Option Nat}{b:!Nat}(L':Laid mask c a b){s:Nat}(h:s<=mask):Own a s↔s∈b:=by
 unfold Own
 constructor
 .intro e
  cases o:a.getD s^J 0 with
  |none=>rw[o] at e;cases e
  |some k=>show cG^(L'.get s h k).mp o
 .intro e
  let#[k,d]:=jm e;rw[(L'.get s h k).mpr d];rfl
def LD{mask:Nat}(f:zQ mask){l:!Int}{g:Array^Option Nat}{m:!Nat}(L':Laid mask l g m)(room:l.length<=mask)(h:Int):
  ∃j,layClean.free mask g (turns mask) (bits h%(mask+1))^bits h\j/\Laid mask (l++ [h]) (g.setIfInBounds j^J l.length) (m++ [j]):=by
 have o:=xC.start mask h
 obtain⟨s,C,F⟩:∃s,s<=mask/\s∉m:=by
  apply FS ?_;intro c
  have all:∀s∈aj (mask+1),s∈m:=λs l=>by
   apply FS ?_;intro n;show c #[s,by have:=gf.mp l;lia,n]
  have:=Wb.aY rm all
  rw[jb,L'.len] at this;lia
 have z:(fz mask (bW mask h).i (bW mask h).perturb 13).2=0:=by
  rw[mB];show Nat.div_eq_of_lt^cZ o.per ∅
 let#[r,N,e]:=cover f (JO mask (bW mask h).i (bW mask h).perturb 12) C
 have O:(bW mask h).i<=mask:=by
  have:=rp (bits h) (show 0<mask+1 by lia)
  change bits h%(mask+1)<=mask;lia
 let#[p,a,b,c]:=Bg g (turns mask) (bW mask h) rfl rfl (by unfold runEnd;split<;>lia) #[13+r,by unfold turns;lia,by
  rw[yD z];change ¬Own g^lZ mask _ r;rw[e,L'.own C];show F]
 have E:∀k,(dk mask (bW mask h) k).j=ck mask h k:=λk=>by unfold ck;rw[oQ]
 rw[E] at a b;have u:=GW mask h p;rw[L'.own u] at b;apply#[ck mask h p,a,?_,?_,?_,?_,?_,?_]
 .rw[aep];show L'.size
 .rw[dj,dj,L'.len];rfl
 .show je.mpr #[L'.nd,by simp,λx t y G z=>b^by rw[<-eO.mp G,<-z];show t]
 .intro x t
  rcases cM.mp t with t|t
  .show L'.le x t
  .rw[eO.mp t];show u
 .intro x t k
  have w:(g.setIfInBounds (ck mask h p)^J l.length).getD x^J 0=if ck mask h p=x then J l.length else g.getD x^J 0:=by
   rw[Kq,Kq,afj]
   by_cases d:ck mask h p=x
   .rw[mo d,mo d,mo^by rw[L'.size];lia];rfl
   .rw[tz d,tz d]
  rw[w]
  by_cases d:ck mask h p=x
  .rw[mo d]
   constructor
   .intro e
    cases(Do e);rw[<-L'.len,ko^bu _,tO,<-d];rfl
   .intro e
    by_cases q:k<m.length
    .rw[jj q] at e
     show absurd (by rw[d];show cG e) b
    .have:k<(m++ [ck mask h p]).length:=(cV.mp e).1
     rw[dj] at this
     have:k<m.length+1:=this
     rw[show k=m.length by lia,L'.len]
  .rw[tz d,L'.get x t k]
   constructor
   .intro e
    rw[jj (cV.mp e).1];show e
   .intro e
    by_cases q:k<m.length
    .rw[jj q] at e;show e
    .have:k<(m++ [ck mask h p]).length:=(cV.mp e).1
     rw[dj] at this
     have:k<m.length+1:=this
     rw[show k=m.length by lia,ko^bu _,tO] at e
     show absurd (Do e) d
 .intro k H v
  by_cases q:k<l.length
  .rw[jj q] at v
   let#[I,w,J']:=L'.path k H v;show#[I,by rw[jj^by rw[L'.len];show q];show w,λA B=>kq _^J' A B]
  .have:k<(l++ [h]).length:=(cV.mp v).1
   rw[dj] at this
   have:k<l.length+1:=this
   have M:k=l.length:=()
   subst M;rw[ko^bu _,tO] at v;cases(Do v);apply#[p,by rw[<-L'.len,ko^bu _,tO];rfl,λA B=>kq _ ?_]
   have:=c A B
   rw[E] at this;show(L'.own^GW _ _ _).mp this
def LF(mask:Nat):Laid mask [] (d5 (mask+1) V) [] where
 size:=by simp
 len:=rfl
 nd:=ju
 le:=λs h=>by cases h
 get:=λs a k=>by
  rw[Kq,Array.getElem?_replicate,mo ()]
  simp
 path:=λk h e=>by cases e
def EH(mask:Nat)(acc:Option (Array^Option Nat×Nat))(h:Int):Option (Array^Option Nat×Nat):=do
 let (owner,k) <-acc
 let j <-layClean.free mask owner (turns mask) (bits h%(mask+1)) (bits h)
 pure (owner.setIfInBounds j^J k,k+1)
theorem EI{mask:Nat}(f:zQ mask):∀(b done:!Int)(a:Array^Option Nat)(g:!Nat),Laid mask done a g->done.length+b.length<=mask+1->
  ∃d c,b.foldl (EH mask)^J (a,done.length)\(d,done.length+b.length)/\Laid mask (done++b) d c
 | [],done,a,g,L',_=>#[a,g,Y,by rw[fB];show L']
 |h::b,done,a,g,L',l=>by
  rw[cF] at l;let#[j,e,m]:=LD f L' () h
  have n:EH mask (J (a,done.length)) h\(a.setIfInBounds j^J done.length,done.length+1):=by
   unfold EH;simp[e]
  let#[d,c,i,k]:=EI f b (done++ [h]) _ _ m^by rw[dj];change done.length+1+b.length<=_;lia
  apply#[d,c,?_,by rw[kz] at k;show k]
  rw[af9,n];rw[dj] at i;have i:b.foldl (EH mask)^J (a.setIfInBounds j^J done.length,done.length+1)\(d,done.length+1+b.length):=i;rw[i,cF]
  congr 2;lia
def Gj{mask:Nat}(f:zQ mask)(b:!Int)(room:b.length<=mask+1):∃a c,layClean mask b.toArray\a/\Laid mask b a c:=by
 rfl';let#[a,c,e,L']:=EI f b [] _ _ (LF mask)^~~~room
 ac_rfl;apply#[a,c,?_,by simpa using L']
 have:layClean mask b.toArray=(b.foldl (EH mask)^J (d5 (mask+1) V,0)).map (·.1):=by
  unfold layClean;rw[List.foldl_toArray];rfl
 have e:b.foldl (EH mask)^J (d5 (mask+1) V,0)\(a,[].length+b.length):=e;rw[this,e];rfl
def fq(mask:Nat)(a:Array^Option Nat):!(Nat×Nat):=(aj (mask+1)).filterMap λj=>(a.getD j V).map (j,·)
def Pk{mask:Nat}{b:!Int}{a:Array^Option Nat}{c:!Nat}(L':Laid mask b a c){j k:Nat}:(j,k)∈fq mask a↔c[k]?\j:=by
 unfold fq;rw[afo]
 have dflt:∀s,s<=mask->a.getD s V=a.getD s^J 0:=λs b=>by
  rw[Kq,Kq,tJ^by rw[L'.size];lia];rfl
 constructor
 .rintro⟨s,d,e⟩
  have d:=gf.mp d;rw[dflt s ()] at e
  cases o:a.getD s^J 0 with
  |none=>rw[o] at e;cases e
  |some f=>
   rw[o] at e;have e:=Do e;have h:s=j:=(aej e).1;have i:f=k:=(aej e).2;rw[<-h,<-i];show(L'.get s () f).mp o
 .intro e
  have g:=L'.le j^cG e;apply#[j,gf.mpr (),?_]
  rw[dflt j g,(L'.get j g k).mpr e];rfl
def LJ(mask:Nat)(c:Array^Option Nat):((fq mask c).map (·.1)).Pairwise (·<·):=by
 unfold fq;rw[gX,List.pairwise_filterMap];apply aeD.imp λ {a b} h x d y e=>?_;cases f:c.getD a V with
 |none=>rw[f] at d;cases d
 |some i=>
  cases g:c.getD b V with
  |none=>rw[g] at e;cases e
  |some j=>
   rw[f] at d;rw[g] at e;cases(Do d);cases(Do e);show h
theorem SQ{mask:Nat}(f:zQ mask)(l:!Int)(room:l.length<=mask)(finger moves:Nat)(led plain:Bool):
  ∃t g,laid mask finger moves led plain l.toArray\(t,g)/\t.mask=mask/\t.led=led/\t.plain=plain/\t.moves=moves/\g.toList.Perm^aj l.length/\TOk t (g.toList.map λk=>l.getD k 0):=by
 rfl';let#[d,u,e,L']:=Gj f l ()
 have m:=λ {j k:Nat}=>Pk (j:=j) (k:=k) L';have v:=LJ mask d;ac_rfl
 have G:((fq mask d).map (·.2)).Nodup:=by
  rw[Kr,gX];rw[gX] at v;apply v.imp_of_mem λ {a b} H q r z=>?_;let#[I,J']:=a;let#[M,bk]:=b;have A:=m.mp H;have N:=m.mp q;have z:J'=bk:=z;rw[z,N] at A
  have:=Do A
  have r:I<M:=r;lia
 have perm:((fq mask d).map (·.2)).Perm^aj l.length:=by
  apply(xk G rm).mpr λk=>?_;rw[bS,gf]
  constructor
  .rintro⟨⟨j,Z⟩,h,rfl⟩
   have:=(cV.mp^m.mp h).1
   rw[L'.len] at this;show this
  .intro n
   have O:k<u.length:=by rw[L'.len];show n
   show#[(u[k],k),m.mpr^bT O,Y]
 have P:(fq mask d).length=l.length:=by
  have:=perm.length_eq
  simpa using this
 apply#[{mask,place:=((fq mask d).map (·.1)).toArray,dummies:= #[],finger,led,moves,plain},((fq mask d).map (·.2)).toArray,?_,Y,Y,Y,Y,by simpa using perm,?_]
 .unfold laid
  rw[e];rfl
 have w:∀(i j:Nat),((fq mask d).map (·.1)).toArray[i]?\j↔∃k,(fq mask d)[i]?\(j,k):=λi j=>by
  rw[aeT,dF];cases o:(fq mask d)[i]? with
  |none=>simp
  |some x=>
   let#[a,b]:=x;simp
 have y:∀s,s∈u->∃i:Nat,((fq mask d).map (·.1)).toArray[i]?\s:=λs Q=>by
  let#[k,n]:=jm Q;let#[i,p]:=jm^m.mpr n;show#[i,(w i s).mpr #[k,p]]
 apply#[f,Y,?_,?_,?_,?_,?_]
 .intro a b q r
  have q:b<((fq mask d).map (·.1)).length:=q
  have:=C2.mp v a b () q r
  simp[show a<(fq mask d).length by simpa using(show a<((fq mask d).map (·.1)).length by lia),show b<(fq mask d).length by simpa using q]
  simpa using this
 .simp
 .intro i j h
  let#[k,n]:=(w i j).mp h;show L'.le j^cG^m.mp^cG n
 .change((fq mask d).map (·.1)).toArray.size<=mask
  simp[P];show room
 .intro i B p
  rw[dF] at p;cases o:(fq mask d)[i]? with
  |none=>
   have:(((fq mask d).map (·.2)).toArray.toList)[i]? =none:=by simp[o]
   rw[this] at p;cases p
  |some x=>
   let#[j,k]:=x;have R:(((fq mask d).map (·.2)).toArray.toList)[i]?\k:=by simp[o]
   rw[R] at p;have C:=m.mp^cG o;have n:k<l.length:=by rw[<-L'.len];show(cV.mp C).1
   have S:l[k]?\B:=by
    rw[<-Do p];change _\(l.getD k 0);rw[cy,bT n];rfl
   let#[c,E,T]:=L'.path k B S;rw[C] at E;apply#[c,(w i _).mpr #[k,by rw[o,Do E]],λU X=>y _^T U X]
end PySem.SetTable
namespace PySem
open SetTable PyProof.Rows
def iC(w:World):Bool:=w.params.followText "set-order"
structure oX (bt:Bool) (o:Obj) (es:Array (Int×Value)) (ep:Nat) (t:SetTable):Prop where
 ex:o.ExactSet
 dat:o.data= .set es ep t
 tok:TOk t (es.toList.map (·.1))
 pl:t.plain=L
 ld:t.led= not^bt
 few:5*es.size<3*t.mask
theorem TOk.fits(T:TOk t a):t.fits a.length=true:=by
 simp only[SetTable.fits,SetTable.fill,T.dum,T.size,yO,adR,decide_eq_true_eq,true_and]
 have:=T.room
 rw[T.size] at this;simpa using this
theorem oX.fits(S:oX w o a b t):t.fits a.size=true:=by
 have:=TOk.fits S.tok
 simpa using this
def OS{mask n:Nat}(f:zQ mask)(h:5*n<3*mask):n+1<=mask:=by
 rcases f with rfl|rfl|rfl|rfl<;>lia
def K9{mask n:Nat}(f:zQ mask)(a:3*mask<=5*n)(b:5*(n-1)<3*mask)(c:n<=306):zQ (sizeAbove^grown n-1)/\5*n<3*(sizeAbove^grown n-1)/\n<=sizeAbove^grown n-1/\sizeAbove^grown n<=512:=by
 rcases f with rfl|rfl|rfl|rfl
 .have:n=5:=()
  subst this;show#[.inr^.inl rfl,∅,∅,∅]
 .have:n=19:=()
  subst this;show#[.inr^.inr^.inl rfl,∅,∅,∅]
 .have:n=77:=()
  subst this;show#[.inr^.inr^.inr rfl,∅,∅,∅]
 .lia
theorem Ml{t:ny}{c:Array (Int×b_)}(T:TOk t^c.toList.map (·.1))(d:t.tooFull=L)(near:5*(c.size-1)<3*t.mask)(small:c.size<=306):
  ∃f a,t.relaid (c.map (·.1))^grown c.size\(f,a)/\a.toList.Perm^aj c.size/\(a.filterMap (c[·]?)).toList.Perm c.toList/\(a.filterMap (c[·]?)).size=c.size/\
   TOk f^(a.filterMap (c[·]?)).toList.map (·.1)/\f.plain=t.plain/\f.led=t.led/\5*c.size<3*f.mask/\sizeAbove^grown c.size<=512:=by
 have sz:t.place.size=c.size:=by rw[T.size];simp
 have m:3*t.mask<=5*c.size:=by
  unfold SetTable.tooFull SetTable.fill at d;rw[T.dum,sz] at d;simp at d;lia
 rfl';let#[o,p,q,r]:=K9 T.few m near small;let#[f,a,e,em,s,u,n,g,v]:=SQ o (c.toList.map (·.1)) (~~~q) t.finger (t.movedTo (sizeAbove^grown c.size-1)) t.led t.plain
 rw[aG,dE] at g;ac_rfl
 have i:(a.filterMap (c[·]?)).toList.Perm c.toList:=by
  rw[agl];show(g.filterMap _).trans^by rw[filterMap_getElem?_range]
 have w:(a.filterMap (c[·]?)).size=c.size:=by rw[<-dE,i.length_eq,dE]
 apply#[f,a,?_,g,i,w,?_,u,s,by rw[em];show p,r]
 .unfold SetTable.relaid
  rw[show c.map (·.1)=(c.toList.map (·.1)).toArray by apply afS.mp ?_;simp]
  show e
 .have:(a.filterMap (c[·]?)).toList.map (·.1)=a.toList.map λk=>(c.toList.map (·.1)).getD k 0:=by
   rw[agl];have lt:∀k∈a.toList,k<c.size:=λk h=>gf.mp^g.mem_iff.mp h;generalize a.toList=l at lt
   induction l with
   |nil=>rfl
   |cons k l x=>
    have h:=lt k (c5 ..);rw[List.filterMap_cons_some (b:=c[k])^by simp[h],b9,b9,x λj y=>lt j^eS _ y]
    simp[h]
  rw[this];show v
end PySem
set_option maxHeartbeats 1000000
namespace PySem
open SetTable PyProof.Rows
section
def zy{h:Heap}(g:h.get? a\o)(e:o.data= .set f d t)(b:Array (Int×b_))(c:ny):
  (h.update a^Obj.putSet b c).get? a\{o with data:= .set b (d+1) c}:=by
 have:=P3 (Obj.putSet b c) g^by rw[putSet_of b c e];rfl
 rw[putSet_of b c e] at this;show this
def AZ{Q₁:b_->c_->Prop}
  (h:Q₁ (.ref s.heap.objs.size) {s with heap:=s.heap.push {cls:= .type "set",dict:=V,data:= .set #[] 0^.fresh 0 0 (not^iC w)}}):
  g6 (ei prog w) A (.call (.builtin "set.__new__") #[[.type "set"],[]]) (wants Q₁ E) s:=by
 apply aek ?_;apply a_^afm F.newCall_set_0^ir #[ad2 F.plain_set_new _,adU F.entry_set_new ?_];rw[adM F.plain_set_new _];unfold Builtin.«set.__new__» Builtin.Frozenset.newClass;have a:=sub_set_self;let#[b,g,d,c,os]:=s;dsimp only
 wp_walk
 apply afT^ir ?_;dsimp only;simp only[newObj];apply a_^wpAny_alloc^ir ?_;show ir h
theorem FA 
  (h:Q (.ref s.heap.objs.size) {s with heap:=s.heap.push {cls:= .type "set",dict:=V,data:= .set #[] 0^.fresh 0 0 (not^iC w)}}):
  e_ (ei prog w) A (call (.type "set") []) Q E s:=by
 let#[c,u,i]:=F.called_set.mro;have j:=F.called_set.made;have k:=F.called_set.sub;apply ad4^aek ?_;change e_ _ _ (callAny (.type "set") _) _ _ _;apply ir #[afr _^by nofun,adU F.entry_type_call ?_]
 rw[Around.under_plain (weight_type_call_type "set" [] []) rfl];have v:=F.called_set.notType;have x:=F.called_set.canCreate;have l:=F.typeCall_set_0
 repeat (any_goals (first|assumption|wp_step))
 apply adQ (AZ (E:=E) (Q₁:=λobj a=>obj= .ref s.heap.objs.size/\a={s with heap:=s.heap.push {cls:= .type "set",dict:=V,data:= .set #[] 0^.fresh 0 0 (not^iC w)}}) #[Y,Y]) λr a b=>?_
 cases r with
 |error e=>show b
 |ok m=>
  cases m with
  |ret obj=>
   let#[rfl,rfl]:=b;have n:(s.heap.push {cls:= .type "set",dict:=V,data:= .set #[] 0^.fresh 0 0 (not^iC w)}).get? s.heap.objs.size\{cls:= .type "set",dict:=V,data:= .set #[] 0^.fresh 0 0 (not^iC w)}:=GM _ rfl;have o:Shared.TypeIs {s with heap:=s.heap.push {cls:= .type "set",dict:=V,data:= .set #[] 0^.fresh 0 0 (not^iC w)}} (.ref s.heap.objs.size) "set":=#[_,n,Y]
   have p:=F.called_set.init.lookup;have q:=F.called_set.init.bind^.ref s.heap.objs.size
   repeat (any_goals (first|assumption|wp_step))
   apply adQ (aeg (R:=wants (λr g=>r= .none/\Q (.ref s.heap.objs.size) g) E) F.called_set.init.plain F.entry_set_init^check_set_init o ?_) λd g f=>?_
   .unfold Builtin.«set.__init__» noKeywords
    wp_walk
    show#[Y,h]
   .cases d with
    |error e=>show f
    |ok t=>
     cases t with
     |ret r=>
      let#[rfl,y]:=f
      repeat (any_goals (first|assumption|wp_step))
     |_=>show f.elim
  |_=>show b.elim
def oX.new(w:f8):oX (iC w) {cls:= .type "set",dict:=V,data:= .set #[] 0^.fresh 0 0 (not^iC w)} #[] 0 (.fresh 0 0 (not^iC w)) where
 ex:=#[Y,Y,Y]
 dat:=rfl
 tok:=#[.inl rfl,Y,λi j a=>by simp[SetTable.fresh] at a,Y,λi j h=>by simp[SetTable.fresh] at h,by simp[SetTable.fresh],λi h e=>by simp at e]
 pl:=rfl
 ld:=rfl
 few:=by simp[SetTable.fresh]
end
section
def ItemsAre.ints(h:ItemsAre (intKind prog w) c b):∀v∈b,∃i t,v= .int i t:=by
 induction h with
 |nil=>intro v a;simp at a
 | @cons k f c b d _ e=>
  intro v a
  rcases bQ.mp a with rfl|a
  .obtain⟨t,rfl⟩:=Value.isInt_shape d
   show#[k,t,Y]
  .show e v a
def rh(f:gH (fE prog w) s.heap j a)(h:Q At s):e_ (ei prog w) A (kD 8^.ref a) Q E s:=by
 have k:=f.typeIs;let#[o,c,n,l,z,m,p]:=f;delta kD;apply a_^ae0 k ?_;dsimp only;simp only[afV, ↓reduceIte];apply a_^ir ?_;simp only[afB,fA, ↓reduceIte];apply a_^aee l m ?_;dsimp only;apply a_ ?_;rw[<-HB];apply afX _ (λb r d=>r.1=V/\d=s/\∀v∈b,∃i t,v=Value.int i t) _ ?_ ?_ _ _ #[Y,Y,p.ints]
 .rintro v b r d ⟨e,rfl,g⟩
  let#[i,t,rfl]:=g v c5;apply a_^afm (show kD 7^.int i t=pure At from by delta kD;rfl) ?_
  simp only[fA,Pi];show ir #[Y,Y,λu q=>g u^eS _ q]
 .rintro⟨x,y⟩ d ⟨e,rfl,_⟩
  simp only at e;subst e;show ir h
def Kf(j:gH (fE prog w) s.heap n b)(stored:!b_)(o:∀y∈stored,∃f a,y=Value.ref a/\gH (fE prog w) s.heap f a)(h:Q At s):
  e_ (ei prog w) A (searchCouldBeSeen (.ref b) stored) Q E s:=by
 unfold searchCouldBeSeen;apply a_ ?_;apply afX _ (λd r g=>r.1=V/\g=s/\∀y∈d,∃f a,y=Value.ref a/\gH (fE prog w) s.heap f a) _ ?_ ?_ _ _ #[Y,Y,o]
 .rintro y d r g ⟨i,rfl,k⟩
  let#[f,a,rfl,l]:=k y c5;have m:∀y∈d,∃f a,y=Value.ref a/\gH (fE prog w) g.heap f a:=λy p=>k y^eS _ p;have e:(carriedByValue^Value.ref b&&carriedByValue^Value.ref a)=false:=by simp[carriedByValue]
  dsimp only;rw[e,ags]
  by_cases c:(b==a)=L
  .rw[mo c]
   show ir #[Y,Y,m]
  .rw[tz c]
   apply a_^wpAny_eqIsQuiet_tuple j ?_;simp only[afB,fA,Pi];apply a_^wpAny_eqIsQuiet_tuple l ?_;simp only[afB,fA,Pi];apply a_^rh j ?_;simp only[fA,Pi];apply a_^rh l ?_;simp only[fA,Pi];show ir #[Y,Y,m]
 .rintro⟨q,t⟩ g ⟨i,rfl,_⟩
  simp only at i;subst i;show ir h
def D5(f:gH (fE prog w) s.heap j a)(h:Q L s):e_ (ei prog w) A (hashByValue 8^.ref a) Q E s:=by
 rfl';have l:=f.typeIs;let#[o,c,n,m,k,p,q]:=f;ac_rfl;unfold hashByValue;apply a_^ae7 l F.slot_tuple_hash.lookup ?_;dsimp only;apply a_^aee m p ?_;apply a_ ?_;change e_ _ _ (forIn c _ _) _ _ s;rw[<-HB];apply afX _ (λb r d=>r.1=V/\d=s/\∀v∈b,∃i t,v=Value.int i t) _ ?_ ?_ _ _ #[Y,Y,q.ints]
 .rintro v b r d ⟨e,rfl,g⟩
  let#[i,t,rfl]:=g v c5;apply a_^afm (show hashByValue 7^.int i t=pure L from by unfold hashByValue;rfl) ?_
  simp only[afB,fA,Pi];show ir #[Y,Y,λu x=>g u^eS _ x]
 .rintro⟨B,C⟩ d ⟨e,rfl,_⟩
  simp only at e;subst e;show ir h
def QB(prog:Program)(w:World)(h:Heap)(b:Array (Int×Value)):Prop:=∀(i:Nat)(e:Int×Value),b[i]?\e->∃k a,e=(tupleKeyHash (intKind prog w) k, .ref a)/\IsTupleKey (intKind prog w) h k a
def UH(a:Array (Int×Value))(i:Nat):Int:=(a[i]?.map (·.1)).getD 0
def Rr(h:zQ m):m%2=1:=by rcases h with rfl|rfl|rfl|rfl<;>rfl
def E3{a:Array Nat}(R:pX a){i j v:Nat}(b:a[i]?\v)(c:a[j]?\v):i=j:=by
 rw[<-below_at R b,<-below_at R c]
theorem tI(hu:A.units<cLine)(ho:s.heap.get? a\o)(S:oX (iC w) o q M t)(P:QB prog w s.heap q)(hk:gH (fE prog w) s.heap u b)
  (VX:(∃(i:Nat)(c:Ad),q[i]?\(gd (fE prog w) u, .ref c)/\gH (fE prog w) s.heap u c)->∀r:Option Nat,(B=At->r.isSome=L)->Q (.there r) s)
  (FZ:(∀(i:Nat)(e:Int×b_),q[i]?\e->∀c,e.2= .ref c->¬gH (fE prog w) s.heap u c)->∀g,(∀i:Nat,t.place[i]? ≠J^ck t.mask (gd (fE prog w) u) g)->(∀j,j<g->∃i:Nat,t.place[i]?\(ck t.mask (gd (fE prog w) u) j))->
   Q (.free (ck t.mask (gd (fE prog w) u) g) At) s):
  e_ (ei prog w) A (setSearch a (.ref b) (gd (fE prog w) u) B) Q E s:=by
 generalize hh:gd (fE prog w) u=h at*;have T:=S.tok;let#[s0,hs0,N]:=T.empty;let#[K,hK,eK]:=meets T.few (xC.start t.mask h) hs0;have eK:ck t.mask h K=s0:=by unfold ck;rw[oQ];show eK
 have kb:K<6000:=by
  have:10*turns t.mask<=5260:=by
   rcases T.few with e|e|e|e<;>rw[e]<;>decide
  lia
 have sz:t.place.size=q.size:=by rw[T.size];simp
 have hN:(t.mask%2==0)=false:=by rw[Rr T.few];rfl
 have O:∀(n:Nat)(k:Nat)(l:Nat)(R:Option Probe),K+1-k<=n->n<l->k<=K->R.getD^t.probeStart h=uO t.mask h k->(∀j,j<k->∃i:Nat,t.place[i]?\(ck t.mask h j))->
   (∀(i:Nat) c,q[i]?\(h, .ref c)->gH (fE prog w) s.heap u c->∀C,t.place[i]?\(ck t.mask h C)->k<=C)->
   e_ (ei prog w) A (iq a (.ref b) h B l R) Q E s:=by
  intro n
  induction n with
  |zero=>intro k l R h1 h2 h3;lia
  |succ n ih=>
   intro k l R h1 h2 h3 h4 h5 h6;obtain⟨f,rfl⟩:∃f,l=f+1:=#[l-1,()]
   unfold iq;apply a_^ad3 ho S.dat S.fits ?_;dsimp only;unfold SetTable.gaveWay;rw[hN];simp only[fA,Pi]
   have U:∀(i:Nat)(e:Int×b_),q[i]?\e->UH q i=e.1:=λi e d=>by
    change(q[i]?.map (·.1)).getD 0=e.1;rw[d];rfl
   generalize I:t.probe _ h^R.getD^t.probeStart h=r;have I:t.probe (UH q) h^uO t.mask h k=r:=by rw[<-h4];show I
   generalize UH q=hA at U I;let#[g,zV,hp,alt]:=TOk.probe T hA h k
   have k0K:g<=K:=by
    apply FS ?_;intro c;let#[i,d,_]:=hp K h3 ()
    rw[eK] at d;show N i d
   have WH:∀j,j<g->∃i:Nat,t.place[i]?\(ck t.mask h j):=λj h'=>by
    by_cases c:j<k
    .show h5 j c
    .obtain⟨i,d,_⟩:=hp j () h'
     show#[i,d]
   have F:∀(i:Nat) c,q[i]?\(h, .ref c)->gH (fE prog w) s.heap u c->∀C,t.place[i]?\(ck t.mask h C)->g<=C:=λi c d hc C X=>by
    have hkx:=h6 i c d hc C X;apply FS ?_;intro z;let#[p,G,jU]:=hp C hkx ()
    have:i=p:=E3 T.rise X G
    subst this;show jU^U i _ d
   rcases alt with ⟨Sa,M⟩ | ⟨i,d,Lj,M⟩
   .rw[M] at I
    subst I;dsimp only;apply ir^FZ (λi e d c hc Y'=>?_) g Sa WH;let#[j,a',Z,hJ]:=P i e d;subst Z;cases hc
    have:j=u:=hJ.inj Y'
    subst this;rw[hh] at d;let#[ky,hy1,hy2]:=T.path i h^by rw[dF,gE,d];rfl
    have lt:=F i _ d Y' ky hy1
    by_cases c1:g<ky
    .obtain⟨p,G⟩:=hy2 g c1
     show Sa p G
    .have:ky=g:=()
     subst this;show Sa i hy1
   .rw[M] at I
    subst I;dsimp only
    have ilt:i<q.size:=by
     have:=(C1.mp d).1
     lia
    let#[j,c,Z,hJ]:=P i q[i]^tJ ilt;have L':q[i]?\(gd (fE prog w) j, .ref c):=by rw[tJ ilt,Z]
    have H:e_ (ei prog w) A (match q[i]? with
      |some (fst,y)=>do
       let m <-im [y]^eqBool y^Value.ref b
       let J' <-setState a
       if (B&&m)=L then pure (SetFound.there V)
        else
         match J'.2.snd.sameMemory t.moves t.mask with
         |some same=>
          match if same=L then J'.2.snd.slot^ck t.mask h g else Slot.empty with
          |Slot.live p=>
           match J'.fst[p]? with
           |some (fst,y')=>do
            let v <-isSame y' y
            let Cw <-pure^if v=L then J p else V
            match Cw with
             |none=>do
              rule "set.search.anew"
              iq a (Value.ref b) h B f V
             |some p=>
              if m=L then pure (SetFound.there^J p)
              else iq a (Value.ref b) h B f^J^uO t.mask h (g+1)
           |none=>do
            let Cw <-pure V
            match Cw with
             |none=>do
              rule "set.search.anew"
              iq a (Value.ref b) h B f V
             |some p=>
              if m=L then pure (SetFound.there^J p)
              else iq a (Value.ref b) h B f^J^uO t.mask h (g+1)
          |x=>do
           let Cw <-pure V
           match Cw with
            |none=>do
             rule "set.search.anew"
             iq a (Value.ref b) h B f V
            |some p=>
             if m=L then pure (SetFound.there^J p)
             else iq a (Value.ref b) h B f^J^uO t.mask h (g+1)
         |x=>kg "set.changed-during-lookup:is-the-new-block-at-the-old-address"
      |x=>kg "internal:set-entry") Q E s:=by
     rw[L'];dsimp only;apply a_^IR^wpAny_eqBool_tuple hu hJ hk ?_;apply a_^ad3 ho S.dat S.fits ?_;dsimp only;have sm:t.sameMemory t.moves t.mask\true:=by unfold SetTable.sameMemory;simp
     have jU:j≠u->e_ (ei prog w) A (iq a (Value.ref b) h B f^J^uO t.mask h (g+1)) Q E s:=λne=>by
      by_cases kk:g=K
      .subst kk
       rw[eK] at d;show absurd d^N i
      apply ih (g+1) f _ () () () rfl (λWe h''=>?_) λp c' G pS C X=>?_
      .by_cases z:We=g
       .subst z;show#[i,d]
       .show WH We ()
      .have l1:=F p c' G pS C X
       have:C≠g:=λz=>by
        subst z
        have:p=i:=E3 T.rise X d
        subst this;rw[L'] at G;cases G;show ne^hJ.inj pS
       lia
     have there:j=u->∀r:Option Nat,(B=At->r.isSome=L)->Q (.there r) s:=λe=>by
      subst e;rw[hh] at L';show VX #[i,c,L',hJ]
     by_cases e:j=u
     .rw[FM e,Bool.and_true]
      cases B with
      |true=>show ir (there e V λz=>absurd z ∅)
      |false=>
       simp only[fA,Pi];rw[sm];dsimp only;rw[mo rfl,uM T.rise d];dsimp only;rw[L'];dsimp only;apply a_^wpAny_isSame_ref_self ?_;apply a_^ir ?_;simp only[adW];show ir (there e (J i) λ_=>rfl)
     .rw[GE e,afh]
      simp only[fA,Pi];rw[sm];dsimp only;rw[mo rfl,uM T.rise d];dsimp only;rw[L'];dsimp only;apply a_^wpAny_isSame_ref_self ?_;apply a_^ir ?_;simp only[adW];show jU e
    by_cases led:(not^t.led)=L
    .rw[mo led]
     apply a_^Kf hk _ (λy hy=>?_) ?_
     .obtain⟨e,he,rfl⟩:=bS.mp hy
      have he:=(Array.mem_filter.mp^Array.mem_toList_iff.mp he).1;let#[p,G,rfl]:=Array.mem_iff_getElem.mp he;let#[We,c',Z,abR]:=P p q[p]^tJ G;show#[We,c',by rw[Z],abR]
     .simp only[fA,Pi]
      show H
    .rw[tz led]
     show H
 apply O (K+1) 0 100000 V (bu _) () (eQ _) rfl (λj h'=>by lia) λi c d hc C _=>eQ _
end
section
variable {s : Shared}
def yW(b:Ad)(a:Array (Int×Value)):byScan (.ref b) a=false:=rfl
def D4(k:A.units<cLine)(g:s.heap.get? a\o)(S:oX (iC w) o f j t)(P:QB prog w s.heap f)(l:gH (fE prog w) s.heap d b)
  (m:(∃(i:Nat)(c:Ad),f[i]?\(gd (fE prog w) d, .ref c)/\gH (fE prog w) s.heap d c)->∀r:Option Nat,r.isSome=L->Q r s)
  (n:(∀(i:Nat)(e:Int×b_),f[i]?\e->∀c,e.2= .ref c->¬gH (fE prog w) s.heap d c)->Q V s):
  e_ (ei prog w) A (setFind a (.ref b)^gd (fE prog w) d) Q E s:=by
 unfold setFind setFindIn;apply a_^ad3 g S.dat S.fits ?_;dsimp only;rw[yW];simp only[fA,Pi];apply a_ (tI k g S P l (λh r p=>?_) λh q _ _=>?_)
 .show ir^m h r^p rfl
 .show ir^n h
def Hh(hu:A.units<cLine)(q:s.heap.get? a\o)(S:oX (iC w) o d ep t)(P:QB prog w s.heap d)(N:gH (fE prog w) s.heap g b)(room:d.size<=305)
  (hy:(∃(i:Nat)(c:Ad),d[i]?\(gd (fE prog w) g, .ref c)/\gH (fE prog w) s.heap g c)->Q At s)
  (O:(∀(i:Nat)(e:Int×b_),d[i]?\e->∀c,e.2= .ref c->¬gH (fE prog w) s.heap g c)->∀G R U xO t',Heap.SameBut a s.heap G->G.get? a\R->oX (iC w) R U xO t'->U.toList.Perm (d.toList++ [(gd (fE prog w) g, .ref b)])->Q L {s with heap:=G}):
  e_ (ei prog w) A (setAddHashed a (.ref b)^gd (fE prog w) g) Q E s:=by
 have B:=S.dat;have X:=S.fits;have T:=S.tok;have sz:t.place.size=d.size:=by rw[T.size];simp
 unfold setAddHashed setAddHashedIn;apply IR^a_^ad3 q B X ?_;dsimp only;rw[yW];simp only[fA,Pi];apply a_ (tI hu q S P N (λh r hr=>?_) λh k H WH=>?_)
 .show ir^hy h
 .dsimp only
  apply a_^ad3 q B X ?_;dsimp only;let#[p1,p2,m]:=TOk.put T H WH^by rw[sz];show OS T.few S.few
  rw[p1]
  have e:(SetTable.insertAt d (below t.place^ck t.mask (gd (fE prog w) g) k) (gd (fE prog w) g,Value.ref b)).toList.map (·.1)=(d.toList.map (·.1)).take^below t.place^ck t.mask (gd (fE prog w) g) k++gd (fE prog w) g::(d.toList.map (·.1)).drop^below t.place^ck t.mask (gd (fE prog w) g) k:=by
   rw[afW];simp
  rw[<-e] at m;have pl:(t.put^ck t.mask (gd (fE prog w) g) k).1.plain=true:=S.pl;have ld:(t.put^ck t.mask (gd (fE prog w) g) k).1.led= not^iC w:=S.ld;have mk:(t.put^ck t.mask (gd (fE prog w) g) k).1.mask=t.mask:=rfl;generalize hx:((gd (fE prog w) g,Value.ref b):Int×b_)=x at*;generalize hp:below t.place^ck t.mask (gd (fE prog w) g) k=p at*;generalize (t.put^ck t.mask (gd (fE prog w) g) k).1=n at*;rw[mo pl];apply a_^D5 N ?_;simp only[adW,Bool.not_false,Bool.true_and];have u:(SetTable.insertAt d p x).size=d.size+1:=SetTable.iV ..;have l:=agk d p x;rw[uV] at l;apply a_^wpAny_storeSet_of q B ?_^by rw[u];apply fits_of_scanBound ?_;change d.size+1<4096;lia
  have C:=zy q B (SetTable.insertAt d p x) n;have v:=Heap.SameBut.update s.heap a^Obj.putSet (SetTable.insertAt d p x) n
  have I:n.fits (SetTable.insertAt d p x).size=true:=by
   have:=TOk.fits m
   rw[aG,dE] at this;show this
  by_cases j:n.tooFull=L
  .rw[mo j]
   apply af λG0 k=>?_;let#[F,f,Y',z,pf,Z,T2,J',l2,f2,L']:=Ml m j (by rw[u,mk];have:=S.few;lia)^by rw[u];lia
   apply k ?_;rw[u] at Y' f2 L';apply a_ ?_;unfold setRelay;apply a_^ad3 C rfl I ?_;dsimp only;have big:512<=sizeLine:=∅
   rw[tz (),Y']
   have y:(f.filterMap ((SetTable.insertAt d p x)[·]?)).size=d.size+1:=by rw[Z,u]
   apply a_ (afm (a:=(f.filterMap ((SetTable.insertAt d p x)[·]?),F)) ?_ ?_)
   .change(if ((f.filterMap ((SetTable.insertAt d p x)[·]?)).size !=(SetTable.insertAt d p x).size)=L then _ else pure (f.filterMap ((SetTable.insertAt d p x)[·]?),F))=_
    rw[tz^by rw[Z];simp]
   .dsimp only
    apply wpAny_storeSet_of C rfl ?_^by rw[y];apply fits_of_scanBound ?_;change d.size+1<4096;lia
    have IY:=zy C rfl (f.filterMap ((SetTable.insertAt d p x)[·]?)) F;show ir^O h _ _ _ _ F (v.trans^Heap.SameBut.update _ a _) IY #[S.ex,Y,T2,by rw[J'];show pl,by rw[l2];show ld,by rw[y];show f2]^pf.trans l
  .rw[tz j]
   apply ir^O h _ _ _ _ n v C #[S.ex,Y,m,pl,ld,?_] l;have M:n.tooFull=false:=by simpa using j
   unfold SetTable.tooFull SetTable.fill at M;rw[m.dum,m.size] at M;simp at M;lia
open Classical in
def qh(prog:Program)(w:World)(h:Heap)(es:Array (Int×Value))(ks:!Int):Bool:=decide (∃(i:Nat)(c:Ad),es[i]?\(tupleKeyHash (intKind prog w) ks, .ref c)/\IsTupleKey (intKind prog w) h ks c)
def RV(h:∀(i:Nat)(e:Int×Value),es[i]?\e->∀c,e.2= .ref c->¬IsTupleKey (intKind prog w) s.heap ks c):qh prog w s.heap es ks=false:=by
 classical
 unfold qh;apply GE λhH=>?_;let#[i,c,d,f]:=hH;show h i _ d c rfl f
def O7(h:∃(i:Nat)(c:Ad),es[i]?\(tupleKeyHash (intKind prog w) ks, .ref c)/\IsTupleKey (intKind prog w) s.heap ks c):qh prog w s.heap es ks=true:=by
 classical
 unfold qh;show FM h
def w6(k:A.units+64<cLine)(d:s.heap.get? a\o)(S:oX (iC w) o es ep t)(P:QB prog w s.heap es)(e:gH (fE prog w) s.heap ks b)
  (h:∀f,Q (qh prog w s.heap es ks) {s with toks:=f}):e_ (ei prog w) A (contains (.ref a)^.ref b) Q E s:=by
 have c:s.TypeIs (.ref a) "set":=#[o,d,S.ex.1];unfold contains
 try with_reducible refine IR ?_
 apply a_^ae7 c F.slot_set_contains.lookup ?_;change e_ _ _ (if (J^Value.builtin "set.__contains__"==J Value.none)=L then _ else _) _ E s;rw[tz^by rw[beq_builtin_none];show c9]
 apply a_^wpAny_callSpecialUnlessNone?_slot (name:=Str.ofString "__contains__") c F.slot_set_contains
  (adK F.slot_set_contains c entry_set_contains ?_^F.args_set_contains_2 _ _)
 unfold Builtin.«frozenset.__contains__» Builtin.Frozenset.oneOther;simp only[List.isEmpty_nil,bind_assoc];unfold Builtin.Frozenset.addrOf Builtin.Frozenset.withSetAsKey setContains;apply a_^ir ?_
 try dsimp only
 apply a_^ir ?_
 try dsimp only
 apply a_^wpAny_tryCatch ?_;apply IR ?_;apply a_^wpAny_pyHash_tuple ?_ e ?_
 .change A.units+1<cLine;lia
 apply a_ (D4 (s:={s with toks:=s.toks+(ks.length+1)}) ?_ d S P e (λg r i=>?_) λj=>?_)
 .change A.units+1<cLine;lia
 .apply ir ?_
  change e_ _ _ (ret^Value.bool r.isSome) _ _ _;rw[i]
  have:=h (s.toks+(ks.length+1))
  rw[O7 g] at this;show ir #[_,Y,SC this]
 .apply ir ?_
  have:=h (s.toks+(ks.length+1))
  rw[RV j] at this;show ir #[_,Y,SC this]
end
end PySem
set_option maxHeartbeats 4000000
namespace L2
open PySem PySem.Spec PyProof.Rows
inductive FV where
 |int (i:Int) |bl (b:Bool)
inductive XD where
 |wA (b:Bool) (ps:!(Int×Int)) |dH (ks:!(Int×Int)) (vs:!FV) |left
inductive D where
 |aT|bl (b:Bool) |int (i:Int) |str (x:fC) |lst (l:!D) |tup (l:!D) |nI (ns:!Int) |rng (lo hi:Int) |obj (a:Ad) |gB (w:!!Nat) |set (b:Bool) (l:!Int) |x (k:XD) |err (C:Ad) (ks:!fC) (l:!D)
structure DC where
 K:ac
 C:Ad
def ax(n:Nat):D:= .int n
def aD(r:!Nat):D:= .lst^r.map ax
def bA(w:!!Nat):D:= .lst^w.map aD
def aa4(a:Array (Int×Value))(b:!Int):Prop:=(∀e∈a.toList,∃k t,e=(hashInt k,Value.int k t))/\b.Nodup/\∃c,IntsAre (a.toList.map (·.2)) c/\c.Perm b
def X7(b:Bool)(a:Ad)(d:!Int)(h:Heap):Prop:=∃o c e t,h.get? a\o/\oX b o c e t/\aa4 c d
def bw(p:Int×Int):Int:=reduceHash^Builtin.Tuple.tupleHashOf [hashInt p.1,hashInt p.2]
inductive fP (H:Hp):!(Int×Ad)->!(Int×Int)->Prop
 |nil:fP H [] []
 |cons {a:Ad} {p:Int×Int} {es:!(Int×Ad)} {ps:!(Int×Int)}:H a\(.tup [.int p.1, .int p.2])->fP H es ps->fP H ((bw p,a)::es) (p::ps)
def fP.mono{H a:Hp}(s:aE H a){b:!(Int×Ad)}(k:fP H b c):fP a b c:=by
 induction k with
 |nil=>show .nil
 |cons h _ d=>show .cons (s _ _ h) d
def gn(b:Bool)(a:Ad)(d:!(Int×Ad))(h:Heap):Prop:=∃o c f t,h.get? a\o/\oX b o c f t/\c.toList.Perm (d.map λe=>(e.1,Value.ref e.2))
def Ox:FV->Value->Prop
 | .int i,v=>∃t,v= .int i t
 | .bl b,v=>v= .bool b
inductive Ou:!DictEntry->!(Int×Ad)->!FV->Prop
 |nil:Ou [] [] []
 |cons {e:DictEntry} {l:!DictEntry} {h:Int} {a:Ad} {v:FV} {es:!(Int×Ad)} {vs:!FV}:e.hash=h->e.key= .ref a->Ox v e.val->Ou l es vs->Ou (e::l) ((h,a)::es) (v::vs)
def br(a:Ad)(c:!(Int×Ad))(d:!FV)(h:Heap):Prop:=(a==sysModules)=At/\∃o b e,h.get? a\o/\o.ExactDict/\o.data= .dict b e/\Ou b.toList c d
def mm(a:Ad):Heap->Prop:=λh=>∃(c:!Int)(b:!Value)(n:Nat),c≠ []/\c.length<=2/\Vals (c.map V'.int) b/\h.get? a\{cls:= .type "list",data:= .seq b.toArray n}
def HI(H:Hp)(a:Ad)(d:Heap->Prop):XD->Prop
 | .left=>d=mm a
 | .wA b e=>e.Nodup/\∃c,d=gn b a c/\fP H c e
 | .dH ks f=>ks.Nodup/\∃c,d=br a c f/\fP H c ks
theorem HI.mono{H c:Hp}(s:aE H c):∀{k:XD},HI H a d k->HI c a d k
 | .left,e=>e
 | .wA _ _,#[n,b,e,p]=>#[n,b,e,p.mono s]
 | .dH _ _,#[n,b,e,p]=>#[n,b,e,p.mono s]
def HE(H:Hp)(d:Option Ad)(a:!fC)(b:!V'):Prop:=(d=V/\a= []/\b= [])\/∃c,d\c/\H c\(Dj c^a.zip b)/\a.length=b.length
theorem HE.mono{H d:Hp}(s:aE H d)(h:HE H e f g):HE d e f g:=h.imp id λ#[i,a,b,c]=>#[i,a,s _ _ b,c]
mutual
inductive Dv (Z:DC) (H:Hp):V'->D->Prop
 |aT:Dv Z H .aT .aT
 |bl (b:Bool):Dv Z H (.bl b)^.bl b
 |int (i:Int):Dv Z H (.int i)^.int i
 |str (x:fC) (h:PyData.strOk x=L):Dv Z H (.str x)^.str x
 |lst {a:Ad} {xs:!V'} {ds:!D}:H a\(.lst xs)->DvAll Z H xs ds->Dv Z H (.ref a)^.lst ds
 |tup {a:Ad} {xs:!V'} {ds:!D}:H a\(.tup xs)->DvAll Z H xs ds->Dv Z H (.ref a)^.tup ds
 |obj (a:Ad):Dv Z H (.ref a)^.obj a
 |rng {a:Ad} {lo hi:Int}:H a\(.rng lo hi)->Dv Z H (.ref a)^.rng lo hi
 |nI {a:Ad} {ns:!Int}:aK Z.K H a^ns.map V'.int->ns.length<=63->Dv Z H (.ref a)^.nI ns
 |gB {p dx R:Ad} {w:!!Nat}:H p\(.ins Z.C dx [("rows", .ref R)])->Dv Z H (.ref R)^bA w->Wb.Good w->1<=w.length->w.length<=14->Dv Z H (.ref p)^.gB w
 |set {a:Ad} {b:Bool} {ns:!Int}:H a\(.ext^X7 b a ns)->Dv Z H (.ref a)^.set b ns
 |x {a:Ad} {φ:Heap->Prop} {k:XD}:H a\(.ext φ)->HI H a φ k->Dv Z H (.ref a)^.x k
 |err {a C:Ad} {od:Option Ad} {ks:!fC} {xs:!V'} {ds:!D}:H a\(mQ C a od)->HE H od ks xs->DvAll Z H xs ds->Dv Z H (.ref a)^.err C ks ds
inductive DvAll (Z:DC) (H:Hp):!V'->!D->Prop
 |nil:DvAll Z H [] []
 |cons {v:V'} {vs:!V'} {d:D} {ds:!D}:Dv Z H v d->DvAll Z H vs ds->DvAll Z H (v::vs) (d::ds)
end
def aK.mono{K:ac}{H b:Hp}(s:aE H b)(h:aK K H a xs):aK K b a xs:=by
 rcases h with (h| ⟨o,h⟩) |h
 .show .inl^.inl^s _ _ h
 .show .inl^.inr #[o,s _ _ h]
 .show .inr h
section
variable {Z:DC} {H H' G G':Hp}
def DvI(Z:DC)(H:Hp)(v:V')(d:D):Prop:=D.casesOn (motive_1:=λ_=>Prop) d (v= .aT) (λb=>v= .bl b) (λi=>v= .int i) (λx=>v= .str x) (λe=>∃a c,v= .ref a/\H a\(.lst c)/\DvAll Z H c e) (λe=>∃a c,v= .ref a/\H a\(.tup c)/\DvAll Z H c e) (λf=>∃a,v= .ref a/\aK Z.K H a^f.map V'.int/\f.length<=63) (λ_ _=>True) (λ_=>True) (λw=>∃p j R,v= .ref p/\H p\(.ins Z.C j [("rows", .ref R)])/\Dv Z H (.ref R)^bA w/\Wb.Good w/\1<=w.length/\w.length<=14) (λ_ _=>True) (λk=>∃a g,v= .ref a/\H a\(.ext g)/\HI H a g k) λC l e=>∃a h c,v= .ref a/\H a\(mQ C a h)/\HE H h l c/\DvAll Z H c e
def Dv.inv(h:Dv Z H v d):DvI Z H v d:=Dv.casesOn h rfl (λ_=>rfl) (λ_=>rfl) (λ_ _=>rfl) (λh e=>#[_,_,Y,h,e]) (λh e=>#[_,_,Y,h,e]) (λ_=>trivial) (λ_=>trivial) (λh z=>#[_,Y,h,z]) (λh r g a b=>#[_,_,_,Y,h,r,g,a,b]) (λ_=>trivial) (λh k=>#[_,_,Y,h,k]) λh k e=>#[_,_,_,Y,h,k,e]
def Dv.ofInt(h:Dv Z H v^.int i):v= .int i:=h.inv
def Dv.BN(h:Dv Z H v^.bl b):v= .bl b:=h.inv
def Dv.ft(h:Dv Z H v^.lst b):∃a xs,v= .ref a/\H a\(.lst xs)/\DvAll Z H xs b:=h.inv
def Dv.uG(h:Dv Z H v^.tup b):∃a xs,v= .ref a/\H a\(.tup xs)/\DvAll Z H xs b:=h.inv
def Dv.BP(h:Dv Z H v^.nI b):∃a,v= .ref a/\aK Z.K H a^b.map V'.int/\b.length<=63:=h.inv
def Dv.ofX(h:Dv Z H v^.x k):∃a b,v= .ref a/\H a\(.ext b)/\HI H a b k:=h.inv
def Dv.To(h:Dv Z H v^.gB w):∃p a R,v= .ref p/\H p\(.ins Z.C a [("rows", .ref R)])/\Dv Z H (.ref R)^bA w/\Wb.Good w/\1<=w.length/\w.length<=14:=h.inv
def DvL(Z:DC)(H:Hp)(a:!V')(c:!D):Prop:=List.casesOn (motive:=λ_=>Prop) c (a= []) λd e=>∃v b,a=v::b/\Dv Z H v d/\DvAll Z H b e
def DvAll.inv(h:DvAll Z H c d):DvL Z H c d:=DvAll.casesOn h rfl λa b=>#[_,_,Y,a,b]
def DvAll.LY(h:DvAll Z H a []):a= []:=h.inv
def DvAll.wo(h:DvAll Z H a (d::b)):∃v c,a=v::c/\Dv Z H v d/\DvAll Z H c b:=h.inv
def DvAll.ofOne(h:DvAll Z H c [d]):∃v,c= [v]/\Dv Z H v d:=by
 let#[v,e,rfl,a,b]:=h.wo;rw[b.LY];show#[v,Y,a]
def DvAll.mz(h:DvAll Z H f [d,e]):∃v u,f= [v,u]/\Dv Z H v d/\Dv Z H u e:=by
 let#[v,g,rfl,a,b]:=h.wo;let#[u,rfl,c]:=b.ofOne;show#[v,u,Y,a,c]
theorem Dv.mono(s:aE H H'){v:V'}(h:Dv Z H v d):Dv Z H' v d:=
 Dv.rec (motive_1:=λv d _=>Dv Z H' v d) (motive_2:=λc e _=>DvAll Z H' c e) .aT .bl .int .str (λh _ a=> .lst (s _ _ h) a) (λh _ a=> .tup (s _ _ h) a) .obj (λh=> .rng^s _ _ h) (λh z=> .nI (h.mono s) z) (λh _ g a b r=> .gB (s _ _ h) r g a b) (λh=> .set^s _ _ h) (λh k=> .x (s _ _ h)^k.mono s) (λh k _ a=> .err (s _ _ h) (k.mono s) a) .nil (λ_ _ a b=> .cons a b) h
def DvAll.ind{p:!V'->!D->Prop}(n:p [] [])(c:∀{v:V'}{e:!V'}{d:D}{f:!D},Dv Z H v d->DvAll Z H e f->p e f->p (v::e) (d::f)){f:!D}(h:DvAll Z H e f):p e f:=
 DvAll.rec (motive_1:=λ_ _ _=>True) (motive_2:=λe f _=>p e f) trivial (λ_=>trivial) (λ_=>trivial) (λ_ _=>trivial) (λ_ _ _=>trivial) (λ_ _ _=>trivial) (λ_=>trivial) (λ_=>trivial) (λ_ _=>trivial) (λ_ _ _ _ _ _=>trivial) (λ_=>trivial) (λ_ _=>trivial) (λ_ _ _ _=>trivial) n (λa b _ q=>c a b q) h
theorem DvAll.mono(s:aE H H')(h:DvAll Z H c d):DvAll Z H' c d:=h.ind .nil λa _ b=> .cons (a.mono s) b
theorem DvAll.length{a:!V'}(h:DvAll Z H a b):a.length=b.length:=h.ind (p:=λa b=>a.length=b.length) rfl λ_ _ e=>KB (·+1) e
def DvAll.get{i:Nat}{d:D}(h:DvAll Z H b c)(e:c[i]?\d):∃v,b[i]?\v/\Dv Z H v d:=by
 revert i
 apply h.ind (p:=λb c=>∀{i:Nat},c[i]?\d->∃v,b[i]?\v/\Dv Z H v d) (λe=>by cases e) λa _ f i e=>?_
 cases i with
 |zero=>cases e;show#[_,Y,a]
 |succ i=>show f e
def DvAll.IG{b:!V'}{c:!D}{i:Nat}{v:V'}(h:DvAll Z H b c)(e:b[i]?\v):∃d,c[i]?\d/\Dv Z H v d:=by
 revert i
 apply h.ind (p:=λb c=>∀{i:Nat},b[i]?\v->∃d,c[i]?\d/\Dv Z H v d) (λe=>by cases e) λa _ f i e=>?_
 cases i with
 |zero=>cases e;show#[_,Y,a]
 |succ i=>show f e
def DvAll.append(h:DvAll Z H c d)(k:DvAll Z H e f):DvAll Z H (c++e) (d++f):=h.ind (p:=λc d=>DvAll Z H (c++e) (d++f)) k λa _ b=> .cons a b
theorem DvAll.take(n:Nat)(h:DvAll Z H b c):DvAll Z H (b.take n)^c.take n:=by
 revert n
 apply h.ind (p:=λb c=>∀n,DvAll Z H (b.take n)^c.take n) (λn=>?_) λa _ d n=>?_<;>cases n
 .show .nil
 .show .nil
 .show .nil
 .show .cons a^d _
theorem DvAll.drop(n:Nat)(h:DvAll Z H c d):DvAll Z H (c.drop n)^d.drop n:=by
 revert n
 apply h.ind (p:=λc d=>∀n,DvAll Z H (c.drop n)^d.drop n) (λn=>?_) λa b e n=>?_<;>cases n
 .show .nil
 .show .nil
 .show .cons a b
 .show e _
theorem DvAll.set{v:V'}(h:Dv Z H v d)(n:Nat)(k:DvAll Z H c e):DvAll Z H (c.set n v)^e.set n d:=by
 revert n
 apply k.ind (p:=λc e=>∀n,DvAll Z H (c.set n v)^e.set n d) (λn=>?_) λa b f n=>?_<;>cases n
 .show .nil
 .show .nil
 .show .cons h b
 .show .cons a^f _
def DvAll.rev(h:DvAll Z H b c):DvAll Z H b.reverse c.reverse:=by
 apply h.ind (p:=λb c=>DvAll Z H b.reverse c.reverse) .nil λa _ d=>?_;rw[aev,aev];show d.append^.cons a .nil
theorem DvAll.ints:∀(a:!Int),DvAll Z H (a.map V'.int)^a.map D.int
 | []=> .nil
 |n::a=> .cons (.int n)^DvAll.ints a
def DvAll.snoc{e:!D}(a:DvAll Z H c e)(b:Dv Z H v d):DvAll Z H (c++ [v]) (e++ [d]):=a.append^.cons b .nil
structure Ext (G H G' H':Hp):Prop where
 gg:aE G G'
 sub:aE G' H'
 hh:aE H H'
 off:∀b,H b≠V->G b=V->G' b=V
theorem Ext.refl(s:aE G H):Ext G H G H:=#[.refl _,s, .refl _,λ_ _ h=>h]
theorem Ext.trans{c d f i:Hp}(a:Ext G H c d)(b:Ext c d f i):Ext G H f i:=
 #[a.gg.trans b.gg,b.sub,a.hh.trans b.hh,λx h g=>b.off x (λz=>by
  cases e:H x with
  |none=>show h e
  |some o=>rw[a.hh x o e] at z;cases z)^a.off x h g]
def Ext.new{o:HO}(s:aE G H)(h:H p=V):Ext G H (upd G p o)^upd H p o:=by
 have a:G p=none:=s.free h;apply#[az a o,λb u e=>?_,az h o,λb c a=>?_]
 .by_cases z:b=p
  .subst z;rw[ah] at e ⊢;show e
  .rw[ao z] at e ⊢;show s b u e
 .have:b≠p:=λz=>c^by rw[z];show h
  rw[ao this];show a
end
abbrev DN:=!Option D
structure eG (Z:DC) (G:Hp) (σ:St) (ρ:DN):Prop where
 len:ρ.length=σ.length
 at_:∀(i:Nat)(d:D),ρ[i]?\(J d)->∃v,σ[i]?\(J v)/\Dv Z G v d
section
theorem eG.mono(e:eG Z G σ ρ)(s:aE G G'):eG Z G' σ ρ:=#[e.len,λi d h=>let #[v,a,b]:=e.at_ i d h;#[v,a,b.mono s]]
theorem eG.set{v:V'}(e:eG Z G σ ρ)(h:Dv Z G v d):eG Z G (σ.set i^J v)^ρ.set i^J d:=by
 apply#[by rw[fI,fI];show e.len,λj c a=>?_]
 by_cases z:i=j
 .subst z
  by_cases b:i<ρ.length
  .rw[l9 b] at a
   cases Do a;show#[v,by rw[l9 (e.len▸b)],h]
  .rw[Fl^lI b] at a
   rw[eF^lI b] at a;cases a
 .rw[kr z] at a ⊢
  show e.at_ j c a
end
abbrev bb:=DN->(D->Prop)->Prop
abbrev dU:=DN->(Bool->Prop)->Prop
abbrev gF:=DN->(!D->Prop)->Prop
abbrev iQ:=D->D->(D->Prop)->Prop
abbrev eW:=D->DN->(DN->Prop)->Prop
abbrev jv:=DN->(!D->Prop)->Prop
def eM(Z:DC)(t:bb):TE:=λe H Q=>∃(G:Hp)(a:DN)(P:D->Prop),aE G H/\eG Z G e a/\t a P/\∀d,P d->∀v b c,Ext G H b c->Dv Z b v d->Q v c
def liftT(Z:DC)(t:dU):TT:=λd H Q=>∃(G:Hp)(a:DN)(P:Bool->Prop),aE G H/\eG Z G d a/\t a P/\∀b,P b->∀e c,Ext G H e c->Q b c
def Gp(Z:DC)(t:gF):TA:=λf H Q=>∃(G:Hp)(a:DN)(P:!D->Prop),aE G H/\eG Z G f a/\t a P/\∀b,P b->∀c d e,Ext G H d e->DvAll Z d c b->Q c e
def cp(Z:DC)(r:iQ):R2:=λx y H Q=>∃(G:Hp)(a b:D)(P:D->Prop),aE G H/\Dv Z G x a/\Dv Z G y b/\r a b P/\∀d,P d->∀v c e,Ext G H c e->Dv Z c v d->Q v e
def jD(Z:DC)(r:!D->(D->Prop)->Prop):!V'->Hp->VK->Prop:=λe H Q=>∃(G:Hp)(a:!D)(P:D->Prop),aE G H/\DvAll Z G e a/\r a P/\∀d,P d->∀v b c,Ext G H b c->Dv Z b v d->Q v c
abbrev c7:=!D->(D->Prop)->Prop
def aR(Z:DC)(a:c7):Sp:=λb H Q _=>jD Z a b H Q
def DE(Z:DC)(X:Cx)(e:gc)(t:bb):Prop:=PE X e^eM Z t
def DT(Z:DC)(X:Cx)(e:gc)(t:dU):Prop:=PT X e^liftT Z t
def DA(Z:DC)(X:Cx)(a:!gc)(t:gF):Prop:=PA X a^Gp Z t
def PE.imp{X:Cx}{t t':TE}(h:PE X e t)(f:∀b H Q,t' b H Q->t b H Q):PE X e t':=λa s b H Q I q=>h a s b H Q I^f _ _ _ q
def PT.imp{X:Cx}{t t':TT}(h:PT X e t)(f:∀b H Q,t' b H Q->t b H Q):PT X e t':=λa s b H Q I q=>h a s b H Q I^f _ _ _ q
def PW.imp{X:Cx}{t t':TT}(h:PW X e t)(f:∀b H Q,t' b H Q->t b H Q):PW X e t':=λc a s b H Q I q=>h c a s b H Q I^f _ _ _ q
def PA.imp{X:Cx}{d:!gc}{t t':TA}(h:PA X d t)(f:∀b H Q,t' b H Q->t b H Q):PA X d t':=λc a s b H Q I q=>h c a s b H Q I^f _ _ _ q
def OpR.imp{X:Cx}{f:b_->b_->lD b_}{r d:R2}(h:OpR X f r)(g:∀x y H Q,d x y H Q->r x y H Q):OpR X f d:=λc s e H x y v u Q I a b q=>h c s e H x y v u Q I a b^g _ _ _ _ q
def CallR.imp{X:Cx}{f:b_}{r d:!V'->Hp->VK->Prop}(h:CallR X f r)(g:∀c H Q,d c H Q->r c H Q):CallR X f d:=λb s e H c i Q I a q=>h b s e H c i Q I a^g _ _ _ q
def vG(i:Nat):bb:=λa P=>∃d,a[i]?\(J d)/\P d
def dC(d:D):bb:=λ_ P=>P d
section
def aa(i:Nat)(f:X.N[i]?\x<|>zn)(b:vD X.env.scope x<|>yy)(c:eT x<|>zm)
  (g:eR x<|>zm):DE Z X (.Name x a)^vG i:=by
 apply(GK f b c g).imp λk H Q h=>?_;rfl';obtain⟨G,m,P,s,e,⟨d,c,p⟩,q⟩:=h;ac_rfl;show let #[v,b,dv]:=e.at_ i d c;#[v,b,q d p v G H (.refl s) dv]
def aL{i j pos}:DE Z X (.Constant (.int i) j pos)^dC^.int i:=by
 apply bf.imp λc H Q a=>?_;rfl';let#[G,f,P,s,e,p,q]:=a;ac_rfl;show q _ p _ G H (.refl s)^.int i
def mq{b j pos}:DE Z X (.Constant (.bool b) j pos)^dC^.bl b:=by
 apply aaC.imp λd H Q a=>?_;rfl';let#[G,g,P,s,e,p,q]:=a;ac_rfl;show q _ p _ G H (.refl s)^.bl b
def fe{j pos}:DE Z X (.Constant .none j pos)^dC .aT:=by
 apply WY.imp λc H Q a=>?_;rfl';let#[G,f,P,s,e,p,q]:=a;ac_rfl;show q _ p _ G H (.refl s) .aT
def ig{x j pos}(h:PyData.strOk x=L<|>xx):DE Z X (.Constant (.str x) j pos)^dC^.str x:=by
 apply GJ.imp λc H Q a=>?_;rfl';let#[G,f,P,s,e,p,q]:=a;ac_rfl;show q _ p _ G H (.refl s)^.str x h
def OL(d:Gl X x)(b:∃c,X.mg x\(.int i c))(f:eT x<|>zm):DE Z X (.Name x a)^dC^.int i:=by
 let#[c,b]:=b;apply (JC d b (v:= .int i) #[c,Y] f).imp λg H Q hH=>?_;let#[G,h,P,s,e,p,q]:=hH;show q _ p _ G H (.refl s)^.int i
def KJ(r:iQ)(d e:bb):bb:=λc P=>d c λa=>e c λb=>r a b P
def BD:∀f H Q,eM Z (KJ r ta tb) f H Q->Hf (cp Z r) (eM Z ta) (eM Z tb) f H Q:=by
 intro f H Q k;rfl';let#[G,j,P,s,e,h,q]:=k;ac_rfl;apply#[G,j,_,s,e,h,λa m v n F g dv=>?_];apply#[n,j,_,g.sub,e.mono g.gg,m,λb o u p I i t=>?_];show#[p,a,b,P,i.sub,dv.mono i.gg,t,o,λd w x y A B C=>q d w x y A ((g.trans i).trans B) C]
def fm(e:OpR X (i_ d)^cp Z r)(f:DE Z X a ta)(g:DE Z X b tb):DE Z X (.BinOp a d b pos)^KJ r ta tb:=(dB e f g).imp BD
def iS(e:OpR X (gi d)^cp Z r)(f:DE Z X a ta)(g:DE Z X b tb)(h:jt d b=At):DE Z X (.Compare a [d] [b] pos)^KJ r ta tb:=(JA e f g h).imp BD
def KL(t:bb):dU:=λe P=>t e λd=>∃k,d= .bl k/\P k
def EM:∀d H Q,liftT Z (KL t) d H Q->MG (eM Z t) d H Q:=by
 intro d H Q f;rfl';let#[G,i,P,s,e,h,q]:=f;ac_rfl;exists G,i,_,s,e,h;rintro _ ⟨k,rfl,p⟩ v j l m dv;cases dv.BN;show#[k,Y,q k p j l m]
def bB(f:OpR X (gi d)^cp Z r)(g:DE Z X a ta)(i:DE Z X b tb)(j:jt d b=At):DT Z X (.Compare a [d] [b] pos)^KL^KJ r ta tb:=
 (jY f g i j).imp λe H Q h=>by
  obtain h:=EM e H Q h;show BD e H _ h
def FE(r e:iQ)(f g tc:bb):bb:=λd P=>f d λx=>g d λy=>r x y λz=>∃k,z= .bl k/\(if k=L then tc d λh=>e y h P else P^.bl At)
def BE:∀f H Q,eM Z (FE r o ta tb tc) f H Q->Hd (cp Z r) (cp Z o) (eM Z ta) (eM Z tb) (eM Z tc) f H Q:=by
 intro f H Q y;rfl';let#[G,g,P,s,e,h,q]:=y;ac_rfl;apply#[G,g,_,s,e,h,λa B v C X i dv=>?_];apply#[C,g,_,i.sub,e.mono i.gg,B,λb E u F H2 j p=>?_];exists F,a,b,_,j.sub,dv.mono j.gg,p,E;rintro _ ⟨k,rfl,t⟩ v' w I l J';cases J'.BN;exists k,rfl;have x:=(i.trans j).trans l;cases k with
 |false=>show c8^q _ t _ w I x^.bl At
 |true=>
  apply cX #[w,g,_,l.sub,e.mono x.gg,t,λc L' w' M H4 m N=>?_];show#[M,b,c,P,m.sub,(p.mono l.gg).mono m.gg,N,L',λd O n R S T U=>q d O n R S ((x.trans m).trans T) U]
def OK(g:OpR X (gi d)^cp Z r)(h:OpR X (gi e)^cp Z f)(i:DE Z X a ta)(j:DE Z X b tb)(k:DE Z X c tc)
  (l:lastMarks [d,e] [b,c]=At<|>wv):DE Z X (.Compare a [d,e] [b,c] pos)^FE r f ta tb tc:=(Px g h i j k l).imp BE
def OQ(i:OpR X (gi d)^cp Z r)(j:OpR X (gi e)^cp Z f)(k:DE Z X a ta)(l:DE Z X b tb)(m:DE Z X c tc)
  (n:lastMarks [d,e] [b,c]=At<|>wv):DT Z X (.Compare a [d,e] [b,c] pos)^KL^FE r f ta tb tc:=
 (PM i j k l m n).imp λg H Q h=>by
  obtain h:=EM g H Q h;show BE g H _ h
def Oi:D->Bool
 | .aT=>At
 | .bl b=>b
 | .int i=>i !=0
 | .str x=>x.length !=0
 | .lst l=>not^l.isEmpty
 | .tup l=>not^l.isEmpty
 | .nI l=>not^l.isEmpty
 | .rng lo d=>AT (lo<d)
 | .obj _=>L
 | .gB _=>L
 | .set _ l=>not^l.isEmpty
 | .x _=>L
 | .err _ _ _=>L
def ace:D->Bool
 | .bl _=>L
 | .int _=>L
 | .lst _=>L
 | .tup _=>L
 | .aT=>L
 |_=>At
def abv(t:bb):dU:=λe P=>t e λd=>ace d=L/\P^Oi d
def zj(h:DvAll Z G d e):d.isEmpty=e.isEmpty:=by cases h<;>rfl
def ik(ha:DE Z X a ta)(he:(∀whole,isTrue a X.env whole=(do let v <-whole;jo a.pos;im [v]^truthy v))<|>xz):DT Z X a^abv ta:=by
 apply(PN ha he).imp ?_;intro σ H Q aO;rfl';let#[G,ρ,P,s,e,h,q]:=aO;ac_rfl;exists G,ρ,_,s,e,h;rintro d ⟨hd,p⟩ v G1 H1 x1 dv;apply#[Oi d,?_,q _ p G1 H1 x1];cases dv with
 |aT=>rfl
 |bl b=>rfl
 |int i=>rfl
 |lst h a=>show .inl #[_,aK.of^x1.sub _ _ h,by rw[zj a];rfl]
 |tup h a=>show .inr^.inl #[_,fN.of^x1.sub _ _ h,by rw[zj a];rfl]
 |_=>cases hd
def dOr(t u:dU):dU:=λd P=>t d λc=>if c=L then P L else u d P
def abp(t:dU):dU:=λd P=>t d λc=>P (not^c)
def DW(Z:DC)(X:Cx)(e:gc)(t:dU):Prop:=PW X e^liftT Z t
def DW.dt(h:DW Z X e t):DT Z X e t:=PW.pt h
def vL(d:DT Z X a tA):DW Z X (.BoolOp .Or [a] pos) tA:=Xa d
def qa(k:DT Z X a tA)(f:DW Z X (.BoolOp .Or (b::rest) pos) ME):DW Z X (.BoolOp .Or (a::b::rest) pos)^dOr tA ME:=by
 apply(aaF k f).imp ?_;intro t H Q l;rfl';let#[G,g,P,s,e,h,q]:=l;ac_rfl;apply#[G,g,_,s,e,h,λc i j n d=>?_];cases c with
 |false=>show c8 #[j,g,P,d.sub,e.mono d.gg,i,λb f o p r=>q b f o p^d.trans r]
 |true=>show cX^q _ i j n d
def kI(d:DT Z X a tA):DT Z X (.UnaryOp .Not a pos)^abp tA:=by
 apply(NX d).imp ?_;rintro l H Q ⟨G,f,P,s,e,h,q⟩;show#[G,f,_,s,e,h,λc g i j k=>q _ g i j k]
def Zt(e f:bb):bb:=λd P=>e d λx=>∃c,x= .bl c/\if c=L then f d P else P^.bl At
def ZH(d:bb):bb:=λe P=>d e λx=>∃c,x= .bl c/\P^.bl (not^c)
def Ni{op}(h:DE Z X a ta):DE Z X (.BoolOp op [a] pos) ta:=W0 h
def Ak(k:DE Z X a ta)(f:DE Z X (.BoolOp .And (b::rest) pos) tb):DE Z X (.BoolOp .And (a::b::rest) pos)^Zt ta tb:=by
 apply(WT k f).imp ?_;intro u H Q l;rfl';let#[G,g,P,s,e,h,q]:=l;ac_rfl;exists G,g,_,s,e,h;rintro _ ⟨c,rfl,i⟩ v j n d dv;cases dv.BN;exists c,rfl;cases c with
 |true=>show cX #[j,g,P,d.sub,e.mono d.gg,i,λb f v o p r t=>q b f v o p (d.trans r) t]
 |false=>show c8^q _ i _ j n d^.bl At
def VB(d:DE Z X a ta):DE Z X (.UnaryOp .Not a pos)^ZH ta:=by
 apply(WZ d).imp ?_;intro n H Q f;rfl';let#[G,i,P,s,e,h,q]:=f;ac_rfl;exists G,i,_,s,e,h;rintro _ ⟨c,rfl,j⟩ v k l m dv;cases dv.BN;show#[c,Y,q _ j _ k l m^.bl _]
def dIf(t:dU)(e f:bb):bb:=λd P=>t d λc=>if c=L then e d P else f d P
def ZO{c:gc}(g:DT Z X c tA)(o:DE Z X a ta)(f:DE Z X b tb):DE Z X (.IfExp c a b pos)^dIf tA ta tb:=by
 apply(Py g o f).imp ?_;intro t H Q p;rfl';let#[G,i,P,s,e,h,q]:=p;ac_rfl;apply#[G,i,_,s,e,h,λc g n w d=>?_];cases c with
 |true=>show cX #[n,i,P,d.sub,e.mono d.gg,g,λb f v j k l m=>q b f v j k (d.trans l) m]
 |false=>show c8 #[n,i,P,d.sub,e.mono d.gg,g,λb f v j k l m=>q b f v j k (d.trans l) m]
def k4:gF:=λ_ P=>P []
def A2(e:bb)(t:gF):gF:=λd P=>e d λx=>t d λf=>P (x::f)
def ag:DA Z X [] k4:=by
 apply aC.imp λg H Q d=>?_;rfl';let#[G,i,P,s,e,p,q]:=d;ac_rfl;show q _ p _ G H (.refl s) .nil
def ae(d:DE Z X e ta)(j:DA Z X es t)(k:eI e es X.env<|>zn):DA Z X (e::es)^A2 ta t:=by
 apply(ar d j k).imp ?_;intro w H Q l;rfl';let#[G,g,P,s,e,h,q]:=l;ac_rfl;apply#[G,g,_,s,e,h,λa d v n y f dv=>?_];show#[n,g,_,f.sub,e.mono f.gg,d,λA o B p r i u=>q _ o _ p r (f.trans i)^.cons (dv.mono i.gg) u]
def abx(t:gF):bb:=λf P=>t f λd=>d.length<=sizeLine/\P^.tup d
def abm(t:gF):bb:=λf P=>t f λd=>d.length<=sizeLine/\P^.lst d
def bM{d}(h:DA Z X es t):DE Z X (.Tuple es d pos)^abx t:=by
 apply(wx h).imp ?_;intro n H Q i;rfl';let#[G,k,P,s,e,h,q]:=i;ac_rfl;exists G,k,_,s,e,h;rintro r ⟨l,m⟩ u v w d f;show#[by rw[f.length];show l,λp g=>q _ m _ _ _ (d.trans^.new d.sub g)^.tup ah^f.mono^az (d.sub.free g) _]
def kG(h:DA Z X es t):DE Z X (.List es pos)^abm t:=by
 apply(fZ h).imp ?_;intro n H Q i;rfl';let#[G,k,P,s,e,h,q]:=i;ac_rfl;exists G,k,_,s,e,h;rintro r ⟨l,m⟩ u v w d f;show#[by rw[f.length];show l,λp g=>q _ m _ _ _ (d.trans^.new d.sub g)^.lst ah^f.mono^az (d.sub.free g) _]
def p5(r:!D->(D->Prop)->Prop)(t:gF):bb:=λd P=>t d λf=>r f P
def yp:∀f H Q,eM Z (p5 r t) f H Q->Gp Z t f H λg i=>jD Z r g i Q:=by
 intro f H Q k;rfl';let#[G,m,P,s,e,h,q]:=k;ac_rfl;show#[G,m,_,s,e,h,λn o g p i j u=>#[p,n,P,j.sub,u,o,λd w v x y A dv=>q d w v x y (j.trans A) dv]]
def QW(F:FnOk X.prog X.w X.K X.mg X.base fJ k f g i^aR Z d)(m:cw k X.A)(n:Gl X x)(o:X.mg x\(.ref f))(r:am X.K^.ref f=L)(u:Binds X.K g i [])
  (v:DA Z X (e::es) t) (y:eT x<|>zm) (B:eI e es X.env<|>zn) (C:eB pos es X.env<|>zn):
  DE Z X (.Call (.Name x p) (e::es) [] pos)^p5 d t:=
 (bL F m n o r u .nil cJ v y B C).imp λE H Q h=>by
  rfl';have h:=yp E H Q h;let#[G,J',P,s,e,h,q]:=h;ac_rfl;show#[G,J',P,s,e,h,λL' M j N l O R=>by change aR Z d (j++ []) l Q E0;rw[fB];show q L' M j N l O R]
theorem aV{id:String}{x:fC}{p:js}{r:!D->(D->Prop)->Prop}(d:CallR X (.builtin id)^jD Z r)(f:Gl X x)(g:X.mg x=V)(h:gl x\(.builtin id))(i:DA Z X (e::es) t)(j:x≠"__name__"<|>zm)(k:eT x<|>zm)
  (l:eI e es X.env<|>zn) (m:eB pos es X.env<|>zn):
  DE Z X (.Call (.Name x p) (e::es) [] pos)^p5 r t:=(dJ d f g h i j k l m).imp yp
def nX(d:CallR X (.type T)^jD Z r)(f:Gl X x)(g:X.mg x=V)(h:gl x\(.type T))(i:DA Z X (e::es) t)(j:x≠"__name__"<|>zm)(k:eT x<|>zm)
  (l:eI e es X.env<|>zn) (m:eB pos es X.env<|>zn):
  DE Z X (.Call (.Name x p) (e::es) [] pos)^p5 r t:=(uJ d f g h i j k l m).imp yp
end
end L2
namespace L2
open PySem PySem.Spec PyProof.Rows
section
variable {Z:DC} {X:Cx}
def abg:iQ:=λx y P=>match x,y with
 | .int i, .int j=>P^.int (i+j)
 | .lst a, .lst b=>a.length+b.length<=sizeLine/\P^.lst (a++b)
 | .tup a, .tup b=>a≠ []/\a.length+b.length<=sizeLine/\b≠ []/\P^.tup (a++b)
 |_,_=>False
def dI(c:Int->Int->Prop)(g:Int->Int->Int):iQ:=λx y P=>match x,y with
 | .int i, .int j=>c i j/\P^.int^g i j
 |_,_=>False
def ZA(g:Int->Int->Int):iQ:=λx y P=>match x,y with
 | .int i, .int j=>P^.int^g i j
 |_,_=>False
def QR:iQ:=λx y P=>match x,y with
 | .int i, .int j=>M9 i j/\P^.int (i*j)
 | .lst a, .int k=> -(2<<<63)<=k/\k<2<<<63/\a.length*k.toNat<=sizeLine/\P^.lst (ak k.toNat a).flatten
 |_,_=>False
def abn:iQ:=dI (λ_ j=>0<j) λi j=>i%j
def aby:iQ:=ZA Builtin.bitXor
def Wt(h:OpR X f (rI c λi j=> .int^g i j)):OpR X f^cp Z^dI c g:=by
 apply h.imp ?_;intro x y H Q e;rfl';let#[G,a,b,P,s,l,m,d,q]:=e;ac_rfl;unfold dI at d
 split at d
 .show#[_,_,l.ofInt,m.ofInt,d.1,q _ d.2 _ G H (.refl s)^.int _]
 .show d.elim
def Ws(h:OpR X f (GO λi j=> .int^g i j)):OpR X f^cp Z^ZA g:=by
 apply h.imp ?_;intro x y H Q d;rfl';let#[G,a,b,P,s,k,l,c,q]:=d;ac_rfl;unfold ZA at c
 split at c
 .show#[_,_,k.ofInt,l.ofInt,q _ c _ G H (.refl s)^.int _]
 .show c.elim
def Ar:OpR X (i_ .Mod)^cp Z abn:=Wt rX
def wk:OpR X (i_ .BitXor)^cp Z aby:=Ws WS
def iZ(e:X.K=Z.K<|>zn):OpR X (i_ .Add)^cp Z abg:=by
 apply(i4.or^GF.or^TF).imp ?_;rintro x y H Q ⟨G,a,b,P,s,da,db,hr,q⟩;cases a with
 |int=>cases b with
  |int=>show .inl #[_,_,da.ofInt,db.ofInt,q _ hr _ G H (.refl s)^.int _]
  |_=>cases hr
 |lst=>cases b with
  |lst=>
   let#[a1,X0,rfl,h1,e1]:=da.ft;let#[a2,xs2,rfl,h2,e2]:=db.ft;let#[hz,hp]:=hr;apply .inr^.inl #[_,_,_,_,Y,Y,s _ _ h1,s _ _ h2,by rw[e1.length,e2.length];show hz,λp hn=>?_]
   show q _ hp _ _ _ (.new s hn)^.lst ah^(e1.append e2).mono^az (s.free hn) _
  |_=>cases hr
 |tup=>cases b with
  |tup=>
   let#[a1,X0,rfl,h1,e1]:=da.uG;let#[a2,xs2,rfl,h2,e2]:=db.uG;let#[h0,hz,h0',hp]:=hr;apply .inr^.inr #[_,_,_,_,Y,Y,fN.of^s _ _ h1,fN.of^s _ _ h2,?_,by rw[e1.length,e2.length];show hz,?_]
   .rintro rfl;cases e1;show h0 rfl
   .apply#[?_,λ_ p hn=>q _ hp _ _ _ (.new s hn)^.tup ah^(e1.append e2).mono^az (s.free hn) _]
    rintro rfl;cases e2;show(h0' rfl).elim
  |_=>cases hr
 |_=>cases hr
theorem DvAll.rep(h:DvAll Z G a b):∀k:Nat,DvAll Z G (ak k a).flatten (ak k b).flatten
 |0=> .nil
 |k+1=>by rw[C6,C6,mj,mj];show h.append^DvAll.rep h k
def WI:OpR X (i_ .Mult)^cp Z QR:=by
 apply(oJ.or WR).imp ?_;intro x y H Q h;rfl';let#[G,a,b,P,s,d,e,c,q]:=h;ac_rfl;unfold QR at c
 split at c
 .show .inl #[_,_,d.ofInt,e.ofInt,c.1,q _ c.2 _ G H (.refl s)^.int _]
 .obtain⟨r,t,rfl,j,f⟩:=d.ft
  let#[k,l,m,n]:=c;apply .inr #[_,_,_,Y,e.ofInt,s _ _ j,k,l,by rw[f.length];show m,λp g=>?_]
  show q _ n _ _ _ (.new s g)^.lst ah^(f.rep _).mono^az (s.free g) _
 .show c.elim
mutual
def D.py:D->Option PyData
 | .aT=>J .none
 | .bl b=>J^.bool b
 | .int i=>J^.int i
 | .str x=>J^.str x
 | .lst l=>(jG l).map PyData.list
 | .tup l=>(jG l).map PyData.tuple
 | .nI _=>V
 | .rng _ _=>V
 | .obj _=>V
 | .gB _=>V
 | .set _ _=>V
 | .x _=>V
 | .err _ _ _=>V
def jG:!D->Option^!PyData
 | []=>J []
 |d::ds=>(D.py d).bind λa=>(jG ds).map λas=>a::as
end
def Dv.dp{K:ac}{G:Hp}{v:V'}{d:D}(h:Dv Z G v d):∀{e:PyData},d.py\e->Dp K G v e:=by
 have c:∀{p:Prop}{e:PyData},V\e->p:=λh=>nomatch h;apply λ {e}=>Dv.rec (motive_1:=λv d _=>∀e:PyData,d.py\e->Dp K G v e) (motive_2:=λf g _=>∀a:!PyData,jG g\a->pV K G f a) ?_ ?_ ?_ ?_ (λq _ j _ h=>?_) (λq _ j _ h=>?_) (λ_ _ h=>c h) (λ_ _ h=>c h) (λ_ _ _ h=>c h) (λ_ _ _ _ _ _ _ h=>c h) (λ_ _ h=>c h) (λ_ _ _ h=>c h) (λ_ _ _ _ _ h=>c h) ?_ (λ_ _ s t _ h=>?_) h e
 .rintro _ ⟨⟩;show .aT
 .rintro b _ ⟨⟩;show .bl b
 .rintro i _ ⟨⟩;show .int i
 .rintro x k _ ⟨⟩;show .str x k
 .obtain⟨l,c,rfl⟩:=Fm.mp h
  show .lst (aK.of q)^j _ c
 .obtain⟨l,c,rfl⟩:=Fm.mp h
  show .tup (fN.of q)^j _ c
 .rintro _ ⟨⟩;show .nil
 .obtain⟨x,c,h⟩:=af5.mp h
  let#[y,m,rfl]:=Fm.mp h;show .cons (s _ c)^t _ m
def fN.mono{K:ac}{H b:Hp}(s:aE H b)(h:fN K H a c):fN K b a c:=by
 rcases h with (h| ⟨o,h⟩) |h
 .show .inl^.inl^s _ _ h
 .show .inl^.inr #[o,s _ _ h]
 .show .inr h
theorem Dp.mono{K:ac}{G H:Hp}(s:aE G H){v:V'}(h:Dp K G v d):Dp K H v d:=
 Dp.rec (motive_1:=λv d _=>Dp K H v d) (motive_2:=λc e _=>pV K H c e) .aT .bl .int .str (λh _ a=> .lst (h.mono s) a) (λh _ a=> .tup (h.mono s) a) .nil (λ_ _ a b=> .cons a b) h
def Ng(c:Bool):iQ:=λx y P=>∃a b,x.py\a/\y.py\b/\a.depth<=64/\P^.bl^if c then not^PyData.eqv a b else PyData.eqv a b
abbrev FF:iQ:=Ng At
abbrev Ia:iQ:=Ng L
def i3(e:X.A.units+64<cLine):OpR X (gi .Eq)^cp Z FF:=by
 apply(WN e).imp ?_;intro x y H Q f;rfl';obtain⟨G,a,b,P,s,h,i,⟨c,d,j,k,l,m⟩,q⟩:=f;ac_rfl;show#[c,d,(h.dp j).mono s,(i.dp k).mono s,l,q _ m _ G H (.refl s)^.bl _]
def qt(e:X.A.units+64<cLine):OpR X (gi .NotEq)^cp Z Ia:=by
 apply(GG e).imp ?_;intro x y H Q f;rfl';obtain⟨G,a,b,P,s,h,i,⟨c,d,j,k,l,m⟩,q⟩:=f;ac_rfl;show#[c,d,(h.dp j).mono s,(i.dp k).mono s,l,q _ m _ G H (.refl s)^.bl _]
def A5(h:P^.bl (AT (i=j))):FF (.int i) (.int j) P:=#[.int i, .int j,Y,Y,by simp[PyData.depth],by
 have:PyData.eqv (.int i)^.int j=AT (i=j):=by
  rw[PyData.eqv]
  by_cases z:i=j<;>simp[z]
 simpa [this] using h]
def A6(h:P^.bl (not^AT (i=j))):Ia (.int i) (.int j) P:=#[.int i, .int j,Y,Y,by simp[PyData.depth],by
 have:PyData.eqv (.int i)^.int j=AT (i=j):=by
  rw[PyData.eqv]
  by_cases z:i=j<;>simp[z]
 simpa [this] using h]
def H0(p:Int->Int->Bool):iQ:=λx y P=>match x,y with
 | .int i, .int j=>P^.bl^p i j
 |_,_=>False
def BF(h:OpR X f (GO λi j=> .bl^p i j)):OpR X f^cp Z^H0 p:=by
 apply h.imp ?_;intro x y H Q d;rfl';let#[G,a,b,P,s,g,k,c,q]:=d;ac_rfl;unfold H0 at c
 split at c
 .show#[_,_,g.ofInt,k.ofInt,q _ c _ G H (.refl s)^.bl _]
 .show c.elim
end
end L2
namespace L2
open PySem PySem.Spec PyProof.Rows
section
variable {Z:DC} {X:Cx}
abbrev dLt:iQ:=H0 λi j=>AT (i<j)
abbrev dLe:iQ:=H0 λi j=>AT (i<=j)
abbrev dGt:iQ:=H0 λi j=>AT (j<i)
def yu:OpR X (gi .Lt)^cp Z dLt:=BF L6
def LV:OpR X (gi .LtE)^cp Z dLe:=BF aay
def Tj:OpR X (gi .Gt)^cp Z dGt:=BF L4
def sv(d:D):V':=D.casesOn (motive_1:=λ_=>V') d .aT .bl .int .str (λ_=> .ref 0) (λ_=> .ref 0) (λ_=> .ref 0) (λ_ _=> .ref 0) (λ_=> .ref 0) (λ_=> .ref 0) (λ_ _=> .ref 0) (λ_=> .ref 0) λ_ _ _=> .ref 0
theorem Dv.sv(h:Dv Z G v d):v=L2.sv d\/(∃a,v= .ref a)/\L2.sv d= .ref 0:=
 have c:∀{a:Ad}{d:D},L2.sv d= .ref 0->V'.ref a=L2.sv d\/(∃b,V'.ref a= .ref b)/\L2.sv d= .ref 0:=λh=> .inr #[#[_,Y],h]
 Dv.casesOn h (.inl rfl) (λ_=> .inl rfl) (λ_=> .inl rfl) (λ_ _=> .inl rfl) (λ_ _=>c rfl) (λ_ _=>c rfl) (λ_=>c rfl) (λ_=>c rfl) (λ_ _=>c rfl) (λ_ _ _ _ _=>c rfl) (λ_=>c rfl) (λ_ _=>c rfl) λ_ _ _=>c rfl
def LA(d:D):Bool:=decide (sv d= .aT)
def Yg(a:Bool):iQ:=λx y P=>match y with
 | .aT=>P^.bl^if a then not^LA x else LA x
 |_=>False
def EB(h:Dv Z G v d):AT (v= .aT)=LA d:=by
 rcases h.sv with e| ⟨⟨a,e⟩,f⟩<;>subst e
 .rfl
 .change _=AT (sv d=_)
  rw[f];rfl
def yt:OpR X (gi .Is)^cp Z^Yg false:=by
 refine WO.imp ?_;rintro x y H Q ⟨G,a,b,P,s,d,e,c,q⟩;cases e<;>first|exact c.elim|skip
 show#[Y,by rw[EB d];show q _ c _ G H (.refl s)^.bl _]
def EU:OpR X (gi .IsNot)^cp Z^Yg true:=by
 refine TJ.imp ?_;rintro x y H Q ⟨G,a,b,P,s,d,e,c,q⟩;cases e<;>first|exact c.elim|skip
 show#[Y,by rw[EB d];show q _ c _ G H (.refl s)^.bl _]
def fO(d:D):Bool:=gu^sv d
def vN(d e:D):Bool:=qc (sv d)^sv e
def rM(a b:Int):vN (.int a)^.int b=(a==b):=rfl
def inD(x:D)(l:!D):Bool:=l.any λy=>vN y x
def vO(h:Dv Z G v d):gu v=fO d:=by
 rcases h.sv with e| ⟨⟨a,e⟩,f⟩<;>subst e
 .rfl
 .change _=gu^sv d
  rw[f];rfl
def qe(h:DvAll Z G b c):b.all gu=c.all fO:=h.ind (p:=λb c=>b.all gu=c.all fO) rfl λa _ e=>by rw[afv,afv,vO a,e]
def FN(h:Dv Z G v d)(k:Dv Z G u e):qc v u=vN d e:=by
 have R:∀a (u:V'),qc u^.ref a=false:=λa u=>by cases u<;>rfl
 rcases h.sv with z| ⟨⟨a,z⟩,f⟩<;>subst z
 .rcases k.sv with z| ⟨⟨b,z⟩,g⟩<;>subst z
  .rfl
  .change _=qc _^sv e
   rw[g,R,R]
 .change _=qc (sv d) _
  rw[f];rfl
def SG(h:Dv Z G v d)(k:DvAll Z G b c):Ja v b=inD d c:=by
 apply k.ind (p:=λb c=>Ja v b=inD d c) rfl λa _ e=>?_;unfold Ja inD at e ⊢;rw[afw,afw,FN a h,e]
def Vt(a:Bool):iQ:=λx y P=>match y with
 | .lst l=>fO x=L/\l.all fO=L/\P^.bl^if a then not^inD x l else inD x l
 | .tup l=>fO x=L/\l.all fO=L/\P^.bl^if a then not^inD x l else inD x l
 |_=>False
def Ug:∀x y H Q,cp Z (Vt c) x y H Q->Xb X.K c x y H Q:=by
 rintro x y H Q ⟨G,a,b,P,s,d,l,f,q⟩;cases l<;>first|exact f.elim|skip
 .rename_i p g m h e
  let#[i,j,k]:=f;apply#[p,g,Y, .inl^aK.of^s _ _ h,by rw[vO d];show i,by rw[qe e];show j,?_]
  rw[SG d e];show q _ k _ G H (.refl s)^.bl _
 .rename_i p g m h e
  let#[i,j,k]:=f;apply#[p,g,Y, .inr^fN.of^s _ _ h,by rw[vO d];show i,by rw[qe e];show j,?_]
  rw[SG d e];show q _ k _ G H (.refl s)^.bl _
def LU:OpR X (gi .In)^cp Z^Vt false:=L5.imp Ug
def EV:OpR X (gi .NotIn)^cp Z^Vt true:=tj.imp Ug
def dIx:iQ:=λx y P=>match x,y with
 | .lst l, .int i=>∃d,gZ l i\d/\P d
 | .tup l, .int i=>∃d,gZ l i\d/\P d
 | .nI l, .int i=>∃n,gZ l i\n/\P^.int n
 |_,_=>False
def Fu(h:DvAll Z G b a)(e:gZ a i\d):∃v,gZ b i\v/\Dv Z G v d:=by
 unfold gZ at e ⊢;rw[h.length];cases z:lQ a.length i with
 |none=>rw[z] at e;cases e
 |some j=>rw[z] at e;show h.get e
def QE(f:a->b)(l:!a)(i:Int):gZ (l.map f) i=(gZ l i).map f:=by
 unfold gZ;rw[aG];cases lQ l.length i with
 |none=>rfl
 |some j=>show(l.map f)[j]? =_;rw[dF];rfl
variable {a b c e:Expr} {ta tb tc te:bb} {pos:Pos}
def dN(ha:DE Z X a ta)(hb:DE Z X b tb)(eK:X.K=Z.K<|>zn)(hs:vC b<|>wu):DE Z X (.Subscript a b pos)^KJ dIx ta tb:=by
 apply(dA (bV.or NM) ha hb hs).imp λσ H Q h=>?_;rfl';let#[G,ρ,P,s,e,h,q]:=BD σ H Q h;ac_rfl;apply#[G,ρ,P,s,e,h,λd hd v G1 H1 x1 dv=>?_];rfl';let#[G',aH,P',s',e',h',q']:=q d hd v G1 H1 x1 dv;ac_rfl;apply#[G',aH,P',s',e',h',λd2 hd2 v2 G2 H2 x2 FL=>?_];let#[G,a,b,P,s,da,db,hr,q]:=q' d2 hd2 v2 G2 H2 x2 FL;cases a with
 |lst=>cases b with
  |int=>
   let#[d,h1,hp]:=hr;let#[c,f,rfl,h,e]:=da.ft;let#[v,hv,dv]:=Fu e h1;show .inl #[_,_,_,v,Y,db.ofInt,aK.of^s _ _ h,hv,q _ hp _ G _ (.refl s) dv]
  |_=>cases hr
 |tup=>cases b with
  |int=>
   let#[d,h1,hp]:=hr;let#[c,f,rfl,h,e]:=da.uG;let#[v,hv,dv]:=Fu e h1;show .inr #[_,_,_,v,Y,db.ofInt,fN.of^s _ _ h,hv,q _ hp _ G _ (.refl s) dv]
  |_=>cases hr
 |nI=>cases b with
  |int=>
   let#[d,h1,hp]:=hr;rfl';let#[c,rfl,h,f]:=da.BP;ac_rfl;apply .inl #[_,_,_, .int d,Y,db.ofInt,by rw[eK];show h.mono s,by rw[QE,h1];rfl,q _ hp _ G _ (.refl s)^.int d]
  |_=>cases hr
 |_=>cases hr
def cutD{f:Type}(d:!f)(lo g:Option Int):!f:=(d.drop^HT.cg d.length 0 lo).take (HT.cg d.length d.length g-HT.cg d.length 0 lo)
def Nf(h:DvAll Z G d f)(lo g:Option Int):DvAll Z G (jh d lo g)^cutD f lo g:=by
 unfold jh cutD;rw[h.length];show(h.drop _).take _
def OG(f:d->h)(l:!d)(lo g:Option Int):cutD (l.map f) lo g=(cutD l lo g).map f:=by
 unfold cutD;rw[aG,aeG,afx]
abbrev Ov:=DN->(Option Int->Prop)->Prop
def QT:Ov:=λ_ P=>P V
def ZI(t:bb):Ov:=λf P=>t f λd=>match d with
 | .int i=>P^J i
 |_=>False
def aau(Z:DC)(t:Ov):TO:=λg H Q=>∃(G:Hp)(d:DN)(P:Option Int->Prop),aE G H/\eG Z G g d/\t d P/\∀o,P o->∀h f,Ext G H h f->Q o f
def DO(Z:DC)(X:Cx)(e:Option gc)(t:Ov):Prop:=PO X e^aau Z t
def PO.imp{e:Option gc}{t t':TO}(h:PO X e t)(f:∀g H Q,t' g H Q->t g H Q):PO X e t':=λd s g H Q I q=>h d s g H Q I^f _ _ _ q
def Bb:DO Z X V QT:=by
 apply B5.imp λg H Q d=>?_;rfl';let#[G,i,P,s,e,p,q]:=d;ac_rfl;show q _ p G H^.refl s
def Bc(h:DE Z X e te):DO Z X (J e)^ZI te:=by
 refine(qC h).imp ?_;intro n H Q g;rfl';let#[G,j,P,s,e,h,q]:=g;ac_rfl;refine#[G,j,_,s,e,h,λd f v k l m dv=>?_];cases dv<;>first|exact f.elim|skip
 show#[_,Y,q _ f k l m]
def dSl(g:bb)(h i:Ov):bb:=λf P=>g f λx=>h f λlo=>i f λd=>match x with
 | .lst l=>P^.lst^cutD l lo d
 | .tup l=>¬(HT.cg l.length 0 lo=0/\HT.cg l.length l.length d=l.length)/\P^.tup^cutD l lo d
 | .nI l=>P^.lst^(cutD l lo d).map D.int
 |_=>False
variable {lo : Option Expr}
def xH(r:DE Z X e te)(m:DO Z X lo tl)(g:DO Z X hi th)(t:X.K=Z.K<|>zn):DE Z X (.Subscript e (.Slice lo hi V p2) pos)^dSl te tl th:=by
 refine(rZ (wV.or Xl) r m g).imp ?_;intro E H Q w;rfl';let#[G,n,P,s,o,h,q]:=w;ac_rfl;refine#[G,n,_,s,o,h,λd A v B I j dv=>?_];refine#[B,n,_,j.sub,o.mono j.gg,A,λl m C J' k=>?_];refine#[C,n,_,k.sub,(o.mono j.gg).mono k.gg,m,λu g L' M f=>?_];have x:=(j.trans k).trans f;have dv:=(dv.mono k.gg).mono f.gg;cases dv<;>first|exact g.elim|skip
 .rename_i h e
  show .inl #[_,_,Y,aK.of^f.sub _ _ h,λp i=>q _ g _ _ _ (x.trans^.new f.sub i)^.lst ah^(Nf e l u).mono^az (f.sub.free i) _]
 .rename_i h e
  apply .inr #[_,_,Y,fN.of^f.sub _ _ h,by rw[e.length];show g.1,λp i=>q _ g.2 _ _ _ (x.trans^.new f.sub i)^.tup ah^(Nf e l u).mono^az (f.sub.free i) _]
 .rename_i h _
  apply .inl #[_,_,Y,by rw[t];show h.mono f.sub,λp i=>q _ g _ _ _ (x.trans^.new f.sub i)^.lst ah ?_]
  change DvAll Z _ (cutD _ l u) _;rw[OG];show .ints _
def HN:c7:=λd P=>match d with
 | [.lst l]=>P^.int l.length
 | [.tup l]=>P^.int l.length
 | [.nI l]=>P^.int l.length
 |_=>False
def dX(eK:X.K=Z.K<|>zn):CallR X (.builtin "len")^jD Z HN:=by
 apply dg.imp ?_;rintro xs H Q ⟨G,ds,P,s,dv,hr,q⟩
 rcases ds with _| ⟨x,_| ⟨_,_⟩⟩
 .cases hr
 rotate_left
 .cases x<;>cases hr
 cases x with
 |lst=>
  let#[b,rfl,a]:=dv.ofOne;let#[b,c,rfl,h,e]:=a.ft;show#[_,_,Y, .inl^aK.of^s _ _ h,by rw[e.length];show q _ hr _ G H (.refl s)^.int _]
 |tup=>
  let#[b,rfl,a]:=dv.ofOne;let#[b,c,rfl,h,e]:=a.uG;show#[_,_,Y, .inr^fN.of^s _ _ h,by rw[e.length];show q _ hr _ G H (.refl s)^.int _]
 |nI=>
  let#[b,rfl,a]:=dv.ofOne;let#[b,rfl,h,c]:=a.BP;show#[_,_,Y, .inl^by rw[eK];show h.mono s,by rw[aG];show q _ hr _ G H (.refl s)^.int _]
 |_=>cases hr
def Zm:c7:=λd P=>match d with
 | [.lst l]=>P^.lst l
 | [.tup l]=>P^.lst l
 |_=>False
def AV:CallR X (.type "list")^jD Z Zm:=by
 apply sV.imp ?_;rintro xs H Q ⟨G,ds,P,s,dv,hr,q⟩
 rcases ds with _| ⟨x,_| ⟨_,_⟩⟩
 .cases hr
 rotate_left
 .cases x<;>cases hr
 cases x with
 |lst=>
  let#[b,rfl,a]:=dv.ofOne;let#[b,c,rfl,h,e]:=a.ft;show#[_,_,Y, .inl^aK.of^s _ _ h,λp hn=>q _ hr _ _ _ (.new s hn)^.lst ah^e.mono^az (s.free hn) _]
 |tup=>
  let#[b,rfl,a]:=dv.ofOne;let#[b,c,rfl,h,e]:=a.uG;show#[_,_,Y, .inr^fN.of^s _ _ h,λp hn=>q _ hr _ _ _ (.new s hn)^.lst ah^e.mono^az (s.free hn) _]
 |_=>cases hr
def QF:c7:=λd P=>match d with
 | [.int i]=>P^.int i
 | [.bl b]=>P^.int^if b then 1 else 0
 |_=>False
def Vn:CallR X (.type "int")^jD Z QF:=by
 apply AO.imp ?_;intro h H Q f;rfl';let#[G,j,P,s,dv,d,q]:=f;ac_rfl;unfold QF at d
 split at d
 .obtain⟨_,rfl,a⟩:=dv.ofOne
  show .inl #[_,by rw[a.ofInt],q _ d _ G H (.refl s)^.int _]
 .obtain⟨_,rfl,a⟩:=dv.ofOne
  show .inr #[_,by rw[a.BN],q _ d _ G H (.refl s)^.int _]
 .show d.elim
def isI:String->D->Bool
 |"int", .int _=>L
 |"int", .bl _=>L
 |"bool", .bl _=>L
 |"list", .lst _=>L
 |"tuple", .tup _=>L
 |_,_=>At
def okI(n:String):Bool:=n=="int"||n=="bool"||n=="list"||n=="tuple"
def YS:D->Bool
 | .aT=>L
 | .bl _=>L
 | .int _=>L
 | .str _=>L
 | .lst _=>L
 | .tup _=>L
 |_=>At
def abl(n:String)(t:bb):bb:=λf P=>t f λd=>YS d=L/\P^.bl^isI n d
def Wl{K:ac}{H:Hp}{v:V'}{d:D}{n:String}(hn:okI n=L)(hd:YS d=L)(h:Dv Z H v d):∃t,lU K H v t/\b5 K t^.type n\(isI n d):=by
 unfold okI at hn;rw[Bool.or_eq_true,Bool.or_eq_true,Bool.or_eq_true,beq_iff_eq,beq_iff_eq,beq_iff_eq,beq_iff_eq] at hn;cases h with
 |aT=>exists _, .aT;rcases hn with ((rfl|rfl) |rfl) |rfl<;>kernel_rfl
 |bl b=>exists _, .bl b;rcases hn with ((rfl|rfl) |rfl) |rfl<;>kernel_rfl
 |int b=>exists _, .int b;rcases hn with ((rfl|rfl) |rfl) |rfl<;>kernel_rfl
 |str b=>exists _, .str b;rcases hn with ((rfl|rfl) |rfl) |rfl<;>kernel_rfl
 |lst h a=>exists _, .lst h;rcases hn with ((rfl|rfl) |rfl) |rfl<;>kernel_rfl
 |tup h a=>exists _, .tup h;rcases hn with ((rfl|rfl) |rfl) |rfl<;>kernel_rfl
 |_=>cases hd
end
section
variable {Z:DC} {X:Cx} {a b c e:Expr} {ta tb tc te:bb} {pos:Pos}
def vH(n:String)(l:DE Z X a ta)(m:Gl X "isinstance")(o:X.mg "isinstance"=V)(g:Gl X x)(r:X.mg x=V)(u:gl x\(.type n))(ok:okI n=L<|>zm)
  (w:x≠"__name__"<|>zm) (y:eT x<|>zm) (i:d_ [a, .Name x f] X.env=(At,gj a X.env)::d_ [.Name x f] X.env<|>zn)
  (A:(gM pos^d_ [.Name x f] X.env).any (·.1)=At<|>zn) (B:d_ [.Name x f] X.env=(At,gj (.Name x f) X.env)::d_ [] X.env<|>zn):
  DE Z X (.Call (.Name "isinstance" p) [a, .Name x f] [] pos)^abl n ta:=by
 have C:PE X (.Name x f)^tC^.ty n:=Jz g r u rfl w y;apply(dJ Fz m o (by nofun) (ar l (ar C aC B) i) ∅ ∅ i A).imp ?_
 intro R H Q E;rfl';let#[G,I,P,s,e,h,q]:=E;ac_rfl;exists G,I,_,s,e,h;rintro d ⟨J',L'⟩ v M j k dv;let#[t,N,O]:=Wl (K:=X.K) (H:=j) ok J'^dv.mono k.sub;show#[v,n,t,_,Y,N,O,q _ L' _ M j k^.bl _]
def qp(Z:DC)(g:eW):TG:=λv j H Q=>∃(G:Hp)(f:DN)(d:D)(P:DN->Prop),aE G H/\eG Z G j f/\Dv Z G v d/\g d f P/\∀h,P h->∀i,eG Z G i h->Q i H
def DG(Z:DC)(X:Cx)(e:gc)(g:eW):Prop:=PG X e^qp Z g
def PG.imp{e:gc}{t t':TG}(h:PG X e t)(f:∀v g H Q,t' v g H Q->t v g H Q):PG X e t':=λd s g H v u Q I r q=>h d s g H v u Q I r^f _ _ _ _ q
def kH(i:Nat):eW:=λd f P=>P^f.set i^J d
def bC(i:Nat)(f:X.N.Nodup)(g:X.N[i]?\x<|>zn)(j:Loc X.env.scope x:=by show Or.inl rfl)(k:X.fn x=L\/X.env.scope.names.lookup x\.local<|>yy):DG Z X (.Name x l)^kH i:=by
 apply(cK f g j k).imp λv o H Q m=>?_;rfl';let#[G,r,d,P,s,e,dv,h,q]:=m;ac_rfl;show q _ h _^e.set dv
abbrev oW:=!D->DN->(DN->Prop)->Prop
def Wr(Z:DC)(g:oW):Dh:=λj k H Q=>∃(G:Hp)(d:DN)(f:!D)(P:DN->Prop),aE G H/\eG Z G k d/\DvAll Z G j f/\g f d P/\∀h,P h->∀i,eG Z G i h->Q i H
def Vb(Z:DC)(X:Cx)(d:!gc)(g:oW):Prop:=Ft X d^Wr Z g
def Ft.imp{i:!gc}{t t':Dh}(h:Ft X i t)(f:∀v g H Q,t' v g H Q->t v g H Q):Ft X i t':=λd s g H v u Q I r q=>h d s g H v u Q I r^f _ _ _ _ q
def KN:oW:=λd f P=>d= []/\P f
def Al(g:eW)(f:oW):oW:=λh i P=>match h with
 |d::r=>g d i λj=>f r j P
 | []=>False
def k6:Vb Z X [] KN:=by
 apply nv.imp λv g H Q d=>?_;rfl';obtain⟨G,j,k,P,s,e,dv,⟨h,p⟩,q⟩:=d;subst h;cases dv;ac_rfl;show#[Y,q _ p _ e]
def dG(i:DG Z X e g)(j:Vb Z X d f)(k:(hX (e::d) X.env).map (·.2)=k8 e X.env::(hX d X.env).map (·.2)<|>zn):Vb Z X (e::d)^Al g f:=by
 apply(fU i j k).imp ?_;intro v u H Q l;rfl';let#[G,n,x,P,s,e,dv,h,q]:=l;ac_rfl;cases dv with
 |nil=>show h.elim
 |cons a o=>
  apply#[_,_,Y,G,n,_,_,s,e,a,h,λp r y t=>?_];show#[G,p,_,P,s,t,o,r,q]
def KO(n:Nat)(f:oW):eW:=λd g P=>match d with
 | .tup l=>l.length=n/\f l g P
 |_=>False
def nZ(n:Nat)(i:X.calm=L)(h:Vb Z X f g)(j:(hX f X.env).length=n<|>zn)(l:(hX f X.env).findIdx? (·.1)=V<|>zn):DG Z X (.Tuple f k pos)^KO n g:=by
 refine(r6 i h j l).imp ?_;rintro v r H Q ⟨G,m,d,P,s,e,dv,h,q⟩;cases dv<;>first|exact h.elim|skip
 rename_i a o t p f
 show#[a,o,Y,fN.of^s _ _ p,by rw[f.length];show h.1,G,m,_,P,s,e,f,h.2,q]
def yV(Z:DC)(G:Hp)(J':It)(g:!D):Prop:=∀h f,aE G h->aE h f->∀i:Nat,(i<g.length->J'.go i f)/\(g.length<=i->J'.stop i f)/\
 ∀x j,i<g.length->J'.yld i f x j->∃k d,Ext h f k j/\g[i]?\d/\Dv Z k x d
def uA(Z:DC)(i:jv):TI:=λj H R=>∃(G:Hp)(d:DN)(P:!D->Prop),aE G H/\eG Z G j d/\i d P/\∀f,P f->∀J' g h,Ext G H g h->yV Z g J' f->R J' h
def DI(Z:DC)(X:Cx)(d e:gc)(f:jv):Prop:=PI X d e^uA Z f
def PI.imp{i e:gc}{t t':TI}(h:PI X i e t)(f:∀g H Q,t' g H Q->t g H Q):PI X i e t':=λd s g H Q I q=>h d s g H Q I^f _ _ _ q
def Q6(t:bb):jv:=λf P=>t f λd=>match d with
 | .lst l=>P l
 |_=>False
def Jf{K:ac}{a:Ad}(h:G a\(.lst f))(e:DvAll Z G f j):yV Z G (OA K a) j:=by
 intro o r k m i;have g:=aK.of (K:=K)^m _ _^k _ _ h;have l:=e.length;apply#[λn=>#[f,f[i],g,bT ()],λn=>#[f,g,()],?_]
 rintro x s n ⟨rfl,p⟩;let#[d,q,dv]:=e.IG^p _ g;show#[o,d, .refl m,q,dv.mono k]
def bD(h:DE Z X e te):DI Z X j e^Q6 te:=by
 refine(lu h).imp ?_;intro r H Q k;rfl';let#[G,m,P,s,n,h,q]:=k;ac_rfl;refine#[G,m,_,s,n,h,λd f v o p g dv=>?_];cases dv<;>first|exact f.elim|skip
 rename_i i e
 show#[_,Y,#[_,aK.of^g.sub _ _ i],q _ f _ o p g^Jf i e]
def gU(lo:Int)(n:Nat):!D:=(aj n).map λ(k:Nat)=>D.int (lo+(k:Int))
def zt{lo:Int}{n i:Nat}(h:i<n):(gU lo n)[i]?\(.int (lo+i)):=by
 unfold gU;rw[dF,xq h];rfl
def EC(lo:Int)(n:Nat):yV Z G (HF lo n)^gU lo n:=by
 intro f h j g i;have l:(gU lo n).length=n:=by unfold gU;simp
 rw[l];apply#[λd=>d,λd=>d,?_];rintro x k d ⟨rfl,rfl⟩;show#[f,_, .refl g,zt d, .int _]
def Yk(t:gF):jv:=λd P=>t d λf=>match f with
 | [.int j]=>(-(2<<<62)<=j/\j<2<<<62)/\P^gU 0 j.toNat
 |_=>False
def Ba(g:Gl X "range")(i:X.mg "range"=V)(j:DA Z X [a] t)(k:d_ [a] X.env= [(At,gj a X.env)]<|>zn):DI Z X f (.Call (.Name "range" p) [a] [] pos)^Yk t:=by
 apply(lA g i j k).imp ?_;intro w H Q l;rfl';let#[G,n,P,s,o,h,q]:=l;ac_rfl;apply#[G,n,_,s,o,h,λy d A r u v dv=>?_]
 split at d
 .obtain⟨_,rfl,a⟩:=dv.ofOne
  show#[_,by rw[a.ofInt],d.1.1,d.1.2,q _ d.2 _ r u v^EC 0 _]
 .show d.elim
def eZ(l:!D):!D:=l.mapIdx λi x=> .tup [.int (i:Int),x]
def VD(t:gF):jv:=λd P=>t d λf=>match f with
 | [.lst l]=>P^eZ l
 |_=>False
def SH{K:ac}{a:Ad}(h:G a\(.lst f))(e:DvAll Z G f g):yV Z G (Oz K a)^eZ g:=by
 intro r s m j i;have k:=aK.of (K:=K)^j _ _^m _ _ h;have l:=e.length;rw[show(eZ g).length=g.length by unfold eZ;simp]
 apply#[λn=>#[f,f[i],k,bT ()],λn=>#[f,k,()],?_]
 rintro x u n ⟨t,y,rfl,o,rfl,p⟩;let#[d,q,dv]:=e.IG^p _ k;apply#[_,_, .new j o,by unfold eZ;rw[List.getElem?_mapIdx,q];rfl,?_]
 show .tup ah^.cons (.int _)^.cons ((dv.mono m).mono^az (j.free o) _) .nil
def fg{k1}(j:Gl X "enumerate")(k:X.mg "enumerate"=V)(l:DA Z X [a] t)(m:d_ [a] X.env= [(At,gj a X.env)]<|>zn):DI Z X (.Tuple g k1 i) (.Call (.Name "enumerate" p) [a] [] pos)^VD t:=by
 apply(B4 j k l m).imp ?_;intro x H Q n;rfl';let#[G,r,P,s,u,h,q]:=n;ac_rfl;apply#[G,r,_,s,u,h,λA d B v w f dv=>?_]
 split at d
 .obtain⟨_,rfl,a⟩:=dv.ofOne
  let#[b,c,rfl,h,e]:=a.ft;show#[_,Y,#[_,f.sub _ _ h],q _ d _ v w f^SH h e]
 .show d.elim
def zG(l m:!D):!D:=List.zipWith (λx y=> .tup [x,y]) l m
def ZR(t:gF):jv:=λd P=>t d λf=>match f with
 | [.lst l, .lst m]=>P^zG l m
 |_=>False
def Wc{a b:Ad}(h:G a\(.lst f))(e:DvAll Z G f j)(w:G b\(.lst g))(r:DvAll Z G g k):yV Z G (Za a b)^zG j k:=by
 intro J' L' m n i;have o:=n _ _^m _ _ h;have p:=n _ _^m _ _ w;have l:=e.length;have M:=r.length;rw[show(zG j k).length=min j.length k.length by unfold zG;simp]
 apply#[λs=>#[f,g,f[i]'(),g[i]'(),o,p,bT (),bT ()],λs=>#[f,g,o,p,()],?_]
 intro x N s A;rfl';let#[t,y,z,rfl,u,rfl,C,E]:=A;ac_rfl;rfl';let#[d,F,dv]:=e.IG^C _ o;let#[O,H,I]:=r.IG^E _ p;ac_rfl;apply#[_,_, .new n u,by unfold zG;rw[List.getElem?_zipWith,F,H],?_]
 have v:=az (n.free u)^.tup [y,z];show .tup ah^.cons ((dv.mono m).mono v)^.cons ((I.mono m).mono v) .nil
def VE{k1}(l:Gl X "zip")(m:X.mg "zip"=V)(d:DA Z X [a,b] t)(n:d_ [a,b] X.env= [(At,gj a X.env),(At,gj b X.env)]<|>zn)(o:d_ [b] X.env= [(At,gj b X.env)]<|>zn):DI Z X (.Tuple j k1 k) (.Call (.Name "zip" p) [a,b] [] pos)^ZR t:=by
 apply(W4 l m d n o).imp ?_;rintro C H Q ⟨G,r,P,s,u,h,q⟩;apply#[G,r,_,s,u,h,λE f F v w g dv=>?_]
 split at f
 .obtain⟨I,J',rfl,x,y⟩:=dv.mz
  rfl';let#[c,z,rfl,d,e]:=x.ft;let#[c,z,rfl,i,B]:=y.ft;ac_rfl;show#[_,_,_,_,Y,g.sub _ _ d,g.sub _ _ i,q _ f _ v w g^Wc d e i B]
 .show f.elim
def Cs(src:!Option Nat)(d:DN):DN:=src.map λo=>o.bind λi=>(d[i]?).bind id
theorem eG.src(e:eG Z G l f)(src:!Option Nat):eG Z G (lG src l)^Cs src f:=by
 apply#[by unfold lG Cs;simp,λi d h=>?_]
 unfold Cs at h;unfold lG;rw[dF] at h ⊢;cases k:src[i]? with
 |none=>rw[k] at h;cases h
 |some o=>
  rw[k] at h;cases o with
  |none=>cases h
  |some j=>
   have g:(f[j]?).bind id\d:=Do h;cases m:f[j]? with
   |none=>rw[m] at g;cases g
   |some z=>
    rw[m] at g;rfl';have p:z\d:=g;subst p;let#[v,q,dv]:=e.at_ j d m;ac_rfl;show#[v,by change J^(l[j]?).bind id=_;rw[q];rfl,dv]
def lcW(g:eW)(tt:dU)(h:bb):!D->DN->!D->(DN->!D->Prop)->Prop
 | [],i,acc,N=>N i acc
 |x::j,i,acc,N=>g x i λf=>tt f λb=>if b=L then h f λd=>acc.length<sizeLine/\lcW g tt h j f (acc++ [d]) N else lcW g tt h j f acc N
def ZC(f:jv)(g:eW)(h:dU)(i:bb)(src:!Option Nat):bb:=λd P=>f d λj=>lcW g h i j (Cs src d) [] λ_ out=>P^.lst out
def sX(g:eW)(f:dU)(h:jv)(i:eW)(j:dU)(k:bb):!D->DN->!D->(!D->Prop)->Prop
 | [],_,acc,P=>P acc
 |x::l,m,acc,P=>g x m λd=>f d λb=>if b=L then h d λn=>lcW i j k n d acc λo p=>sX g f h i j k l o p P else sX g f h i j k l d acc P
def Yh(f:jv)(g:eW)(h:dU)(i:jv)(j:eW)(k:dU)(l:bb)(src:!Option Nat):bb:=λd P=>f d λm=>sX g h i j k l m (Cs src d) [] λout=>P^.lst out
def oZ:dU:=λ_ P=>P L
def De(Z:DC)(X:Cx)(d:!gc)(t:dU):Prop:=kU X d^liftT Z t
def kU.imp{d:!gc}{t t':TT}(h:kU X d t)(f:∀i H Q,t' i H Q->t i H Q):kU X d t':=λg s i H Q I q=>h g s i H Q I^f _ _ _ q
def dQ:De Z X [] oZ:=by
 apply wB.imp λg H Q d=>?_;rfl';let#[G,i,P,s,e,p,q]:=d;ac_rfl;show q _ p G H^.refl s
def vJ(h:DT Z X c d):De Z X [c] d:=JG h
def CS(Z:DC)(d f:Hp)(g:Ad)(i:DN)(acc:!D)(j:St)(H:Hp):Prop:=
 ∃(G:Hp)(h:!V'),aE d G/\aE G H/\aE f H/\(∀b,f b≠V->d b=V->G b=V)/\G g=V/\H g\(.lst h)/\DvAll Z G h acc/\eG Z G j i
def gz(s:aE H d){b:Ad}(h:H b≠V):d b≠none:=λz=>by
 cases e:H b with
 |none=>show h e
 |some o=>rw[s b o e] at z;cases z
def mT{d:Type}{l:!d}{i:Nat}{x:d}(h:l[i]?\x):l.drop i=x::l.drop (i+1):=by
 let#[f,e]:=cV.mp h;rw[xl f,e]
theorem EJ(hA:m f=V)(A:Hp)(it:yV Z A J' n)(i:Nat)(L':DN)(acc:!D)(X:St)(H:Hp)
  (c:CS Z l m f L' acc X H) (hG:∀G,aE l G->aE A G) (hi:i<n.length) (h:lcW g u w (n.drop i) L' acc N):
  J'.go i H/\∀x B,J'.yld i H x B->qp Z g x X B λp H4=>liftT Z u p H4 λb M=>
   if b=L then eM Z w p M λv O=>∃k,O f\(.lst k)/\k.length<sizeLine/\(∃q r,CS Z l m f q r p^upd O f^.lst (k++ [v])/\lcW g u w (n.drop (i+1)) q r N)
   else ∃q r,CS Z l m f q r p M/\lcW g u w (n.drop (i+1)) q r N:=by
 rfl';let#[Q,k,R,s2,S,off,gA,T,U,en]:=c;let#[go,K,yld]:=it Q H (hG _ R) s2 i;ac_rfl;apply#[go hi,λx B y=>?_];rfl';let#[G3,d,C,hd,dv]:=yld x B hi y;rw[mT hd] at h;ac_rfl;apply#[G3,L',d,_,C.sub,en.mono C.gg,dv,h,λE F p I=>?_];apply#[G3,E,_,C.sub,I,F,λb hb G5 M s=>?_];have j:=C.trans s;have Y':∀{G a:Hp},Ext Q H G a->G f=none:=λx=>x.off f (by rw[T];show λz=>nomatch z) gA
 have zr:∀{G a:Hp},Ext Q H G a->∀b,m b≠V->l b=V->G b=none:=λx b F h2=>x.off b (gz S F)^off b F h2;cases b with
 |false=>
  apply c8 #[E,acc,#[G5,k,R.trans j.gg,j.sub,S.trans j.hh,zr j,Y' j,j.hh _ _ T,U.mono j.gg,I.mono s.gg],?_];simpa using hb
 |true=>
  apply cX #[G5,E,_,s.sub,I.mono s.gg,(~~~hb),λd' jA v G6 O x6 t=>?_]
  have x:=j.trans x6;apply#[k,x.hh _ _ T,by rw[U.length];show jA.1,E,_,#[G6,k++ [v],R.trans x.gg,λb o e=>?_,λb o e=>?_,zr x,Y' x,ah,(U.mono x.gg).snoc t,(I.mono s.gg).mono x6.gg],jA.2]
  .rw[ao^av e^Y' x];show x.sub _ _ e
  .rw[ao^av e hA];show(S.trans x.hh) _ _ e
def CS.done(c:CS Z h g d n acc p i)(f:Ext G H h g)(q:g d=V):∃j,Ext G H j i/\Dv Z j (.ref d)^.lst acc:=by
 rfl';let#[s,u,v,w,x,off,k,y,A,E]:=c;ac_rfl;apply#[upd s d^.lst u,#[(f.gg.trans v).trans^az k _,λb o e=>?_,f.hh.trans x,λb l B=>?_], .lst ah^A.mono^az k _]
 .by_cases z:b=d
  .subst z;rw[ah] at e;cases e;show y
  .rw[ao z] at e;show w _ _ e
 .have m:=gz f.hh l
  rw[ao^λz=>m^by rw[z];show q]
  show off b m^f.off b l B
def CS.begin(s:aE d f)(i:f g=V)(l:eG Z d k j):CS Z d f g j [] k^upd f g^.lst []:=
 #[d,[], .refl _,λb o e=>by rw[ao^av e^s.free i];show s _ _ e,az i _,λ_ _ h=>h,s.free i,ah, .nil,l]
def NP:∀o H Q,eM Z (ZC wi g tt te src) o H Q->XB (uA Z wi) (qp Z g) (liftT Z tt) (eM Z te) src o H Q:=by
 intro o H Q E;rfl';let#[G,F,P,s,y,h,q]:=E;ac_rfl;apply#[G,F,_,s,y,h,λd I J' A L' p B M r=>?_];apply#[λi m u j=>m=d.length-i/\i<=d.length/\∃l acc,CS Z A L' M l acc u j/\lcW g tt te (d.drop i) l acc λ_ out=>P^.lst out,#[_,Y,eQ _,_,[], .begin p.sub r^(y.mono p.gg).src src,I],?_];intro i m u j N;rfl';let#[rfl,Y',l,acc,c,v]:=N;ac_rfl
 by_cases C:i<d.length
 .obtain⟨O,k⟩:=EJ r A B i l acc u j c (λ_ s=>s) C v
  show .inr #[O,_,λa b n=>#[d.length-(i+1),(),Y,C,n],k]
 .have e:d.drop i= []:=C5 ()
  rfl';rw[e] at v;let#[R,x,dv]:=c.done p r;let#[S,t,T,U,f]:=c;ac_rfl;show .inl #[(B S j T U i).2.1 (),q _ v _ R j x dv]
def nY(f:X.calm=L)(c:bG X scope)(h:dM scope X.N src NC)(i:DI Z X tg iter wi)
  (j:∀d s H,DG Z (bJ X scope NC d s H) tg g) (k:∀d s H,De Z (bJ X scope NC d s H) ifs tt) (l:∀d s H,DE Z (bJ X scope NC d s H) elt te)
  (m:(∀x,f_ iter X.env x=pure x)<|>xz):DE Z X (.ListComp elt [#[tg,iter,ifs,0]] scope pos)^ZC wi g tt te src:=(TR f c h i j k l m).imp NP
def SW:∀σ H Q,eM Z (Yh wi g tt cR g1 bY te src) σ H Q->Y2 (uA Z wi) (qp Z g) (liftT Z tt) (uA Z cR) (qp Z g1) (liftT Z bY) (eM Z te) src σ H Q:=by
 intro σ H Q aO;rfl';let#[G,ρ,P,s,en,h,q]:=aO;ac_rfl;apply#[G,ρ,_,s,en,h,λl hd J' E r x1 it j hA=>?_];apply#[λi m eD F=>m=l.length-i/\i<=l.length/\∃u acc,CS Z E r j u acc eD F/\sX g tt cR g1 bY te (l.drop i) u acc λout=>P^.lst out,#[_,Y,eQ _,_,[], .begin x1.sub hA^(en.mono x1.gg).src src,hd],?_];intro i m eD F ja;rfl';let#[rfl,hi,u,acc,c,hl]:=ja;ac_rfl
 by_cases bX:i<l.length
 .have c0:=c
  rfl';let#[R,p,S,s2,s3,off,gA,pP,bI,Z3]:=c;let#[go,f,yld]:=it R F S s2 i;ac_rfl;apply .inr #[go bX,λT I=>∃U Y',CS Z E r j U Y' T I/\sX g tt cR g1 bY te (l.drop (i+1)) U Y' λout=>P^.lst out,λT I n=>#[l.length-(i+1),(),Y,bX,n],λx H3 y=>?_]
  rfl';let#[G3,d,x3,Ld,dv]:=yld x H3 bX y;rw[mT Ld] at hl;ac_rfl;apply#[G3,u,d,_,x3.sub,Z3.mono x3.gg,dv,hl,λa L' fj vM=>?_];apply#[G3,a,_,x3.sub,vM,L',λb t G5 H5 X=>?_];have w:=x3.trans X;have wq:∀{G M:Hp},Ext R F G M->G j=none:=λx=>x.off j (by rw[pP];show λz=>nomatch z) gA
  have zr:∀{G M:Hp},Ext R F G M->∀b,r b≠V->E b=V->G b=none:=λx b L' h2=>x.off b (gz s3 L')^off b L' h2;cases b with
  |false=>show c8 #[a,acc,#[G5,p,S.trans w.gg,w.sub,s3.trans w.hh,zr w,wq w,w.hh _ _ pP,bI.mono w.gg,vM.mono X.gg],by simpa using t]
  |true=>
   apply cX #[G5,a,_,X.sub,vM.mono X.gg,(~~~t),λN hes J1 G6 H6 x6 Je=>?_]
   have x:=w.trans x6;have c6:CS Z G6 H6 j a acc fj H6->True:=λ_=>trivial
   apply#[λk m rA A=>m=N.length-k/\k<=N.length/\∃(C9:DN)(HJ:!D),(∃(G:Hp)(p:!V'),aE G6 G/\aE G A/\aE r A/\(∀b,r b≠V->E b=V->G b=V)/\G j=V/\A j\(.lst p)/\DvAll Z G p HJ/\eG Z G rA C9)/\
    lcW g1 bY te (N.drop k) C9 HJ λu AG=>sX g tt cR g1 bY te (l.drop (i+1)) u AG λout=>P^.lst out,
    #[_,Y,eQ _,a,acc,#[G6,p, .refl _,x.sub,s3.trans x.hh,zr x,wq x,x.hh _ _ pP,bI.mono x.gg,(vM.mono X.gg).mono x6.gg],hes],?_]
   intro k m rA A ja;rfl';obtain⟨rfl,hk,C9,HJ,⟨G7,X1,a1,a2,a3,a4,a5,a6,a7,a8⟩,sM⟩:=ja;ac_rfl;have Z7:aE E G6:=S.trans x.gg
   by_cases Bm:k<N.length
   .obtain⟨go1,_,U2⟩:=Je G7 A a1 a2 k
    apply .inr #[go1 Bm,λT I=>∃(U:DN)(Y':!D),(∃(G:Hp)(p:!V'),aE G6 G/\aE G I/\aE r I/\(∀b,r b≠V->E b=V->G b=V)/\G j=V/\I j\(.lst p)/\DvAll Z G p Y'/\eG Z G T U)/\
     lcW g1 bY te (N.drop (k+1)) U Y' λu AG=>sX g tt cR g1 bY te (l.drop (i+1)) u AG λout=>P^.lst out,λT I n=>#[N.length-(k+1),(),Y,Bm,n],λy H8 hy=>?_]
    rfl';let#[G8,d8,x8,hd8,ZW]:=U2 y H8 Bm hy;rw[mT hd8] at sM;ac_rfl;apply#[G8,C9,d8,_,x8.sub,a8.mono x8.gg,ZW,sM,λD8 h9 σ9 Dw=>?_];apply#[G8,D8,_,x8.sub,Dw,h9,λb t Qu zR Ah=>?_];have B:=x8.trans Ah;have oA:∀{G M:Hp},Ext G7 A G M->G j=none:=λx=>x.off j (by rw[a6];show λz=>nomatch z) a5
    have oB:∀{G M:Hp},Ext G7 A G M->∀b,r b≠V->E b=V->G b=none:=λx b L' h2=>x.off b (gz a3 L')^a4 b L' h2;cases b with
    |false=>show c8 #[D8,HJ,#[Qu,X1,a1.trans B.gg,B.sub,a3.trans B.hh,oB B,oA B,B.hh _ _ a6,a7.mono B.gg,Dw.mono Ah.gg],by simpa using t]
    |true=>
     apply cX #[Qu,D8,_,Ah.sub,Dw.mono Ah.gg,(~~~t),λd' jA v Y7 Df MX Rj=>?_]
     have C:=B.trans MX;apply#[X1,C.hh _ _ a6,by rw[a7.length];show jA.1,D8,_,#[Y7,X1++ [v],a1.trans C.gg,λb o e=>?_,λb o e=>?_,oB C,oA C,ah,(a7.mono C.gg).snoc Rj,(Dw.mono Ah.gg).mono MX.gg],jA.2]
     .rw[ao^av e^oA C];show C.sub _ _ e
     .rw[ao^av e hA];show(a3.trans C.hh) _ _ e
   .have e:N.drop k= []:=C5 ()
    rw[e] at sM;show .inl #[(Je G7 A a1 a2 k).2.1 (),C9,HJ,#[G7,X1,Z7.trans a1,a2,a3,a4,a5,a6,a7,a8],sM]
 .have e:l.drop i= []:=C5 ()
  rfl';rw[e] at hl;let#[G',x,dv]:=c.done x1 hA;let#[R,p,S,s2,f]:=c;ac_rfl;show .inl #[(it R F S s2 i).2.1 (),q _ hl _ G' F x dv]
def Vz(f:X.calm=L)(c:bG X scope)(h:dM scope X.N src NC)(i:DI Z X t0 i0 wi)
  (j:∀d s H,DG Z (bJ X scope NC d s H) t0 g) (k:∀d s H,De Z (bJ X scope NC d s H) f0 tt) (l:∀d s H,DI Z (bJ X scope NC d s H) t1 i1 cR) (m:∀d s H,DG Z (bJ X scope NC d s H) t1 g1)
  (n:∀d s H,De Z (bJ X scope NC d s H) f1 bY) (o:∀d s H,DE Z (bJ X scope NC d s H) elt te)
  (p:(∀x,f_ i0 X.env x=pure x)<|>xz) (q:(∀env x,f_ i1 env x=pure x)<|>ww):
  DE Z X (.ListComp elt [#[t0,i0,f0,0],#[t1,i1,f1,0]] scope pos)^Yh wi g tt cR g1 bY te src:=(WX f c h i j k l m n o p q).imp SW
end
inductive kh (R:V'->D->!Ad->Prop):!V'->!D->!Ad->Prop
 |nil:kh R [] [] []
 |cons {v:V'} {vs:!V'} {d:D} {ds:!D} {f fs:!Ad}:R v d f->kh R vs ds fs->kh R (v::vs) (d::ds) (f++fs)
def isL:D->Bool
 | .lst _=>L
 |_=>At
def Own(Z:DC)(G H:Hp):Nat->V'->D->!Ad->Prop
 |0,v,d,c=>Dv Z G v d/\c= []
 |n+1,v,d,c=>(∃a e g i,v= .ref a/\d= .lst g/\H a\(.lst e)/\c=a::i/\kh (Own Z G H n) e g i)\/(1<=n/\∃a e g,v= .ref a/\d= .tup g/\G a\(.tup e)/\kh (λv d f=>(isL d=L/\Own Z G H n v d f)\/(isL d=At/\Dv Z G v d/\f= [])) e g c)\/(∃a h,v= .ref a/\H a\(.ext h)/\c= [a]/\((n=98/\∃b j,d= .set b j/\h=X7 b a j)\/(n=97/\∃k,d= .x k/\HI G a h k)))
theorem Own.lst{Z:DC}{G H:Hp}{n:Nat}{v:V'}{c:!D}{d:!Ad}(o:Own Z G H (n+1) v (.lst c) d):∃a xs f g,v= .ref a/\D.lst c= .lst f/\H a\(.lst xs)/\d=a::g/\kh (Own Z G H n) xs f g:=by
 rcases o with o| ⟨_,a,xs,c,_,e,_⟩ | ⟨a,h,_,_,_,⟨_,b,i,e,_⟩ | ⟨_,k,e,_⟩⟩
 .show o
 .cases e
 .cases e
 .cases e
def Own.xA(o:Own Z G H 98 v (.x k) d):∃a c,v= .ref a/\H a\(.ext c)/\d= [a]/\HI G a c k:=by
 rcases o with ⟨_,_,_,_,_,e,_⟩ | ⟨_,a,j,l,_,e,_⟩ | ⟨a,c,f,g,h,⟨_,b,m,e,n⟩ | ⟨_,k,e,i⟩⟩
 .cases e
 .cases e
 .cases e
 .cases e;show#[a,c,f,g,h,i]
def Own.one{d:D}(o:Own Z G H 1 v d b):∃a c e f,v= .ref a/\d= .lst e/\H a\(.lst c)/\b=a::f/\kh (Own Z G H 0) c e f:=by
 rcases o with o| ⟨z,_⟩ | ⟨_,_,_,_,_,⟨z,_⟩ | ⟨z,_⟩⟩
 .show o
 .show absurd z ∅
 .show absurd z ∅
 .show absurd z ∅
def kh.imp{i:!V'}(o:kh R i j c)(h:∀v d f,(∀b∈f,b∈c)->R v d f->g v d f):kh g i j c:=by
 induction o with
 |nil=>show .nil
 |cons a _ k=>show .cons (h _ _ _ (λb e=>kq _ e) a) (k λv d f l r=>h v d f (λb e=>gb _^l b e) r)
section
theorem Own.keep:∀{v:V'}{d:D}{g:!Ad},Own Z G H n v d g->aE G G'->(∀b∈g,H' b=H b)->Own Z G' H' n v d g:=by
 induction n with
 |zero=>show λh s _=>#[h.1.mono s,h.2]
 |succ n u=>
  intro v d g h s k
  rcases h with ⟨a,j,l,w,c,m,e,i,o⟩ | ⟨p,a,j,l,c,m,e,o⟩ | ⟨a,x,c,e,i,y⟩
  .subst i
   show .inl #[a,j,l,w,c,m,by rw[k a (c5 ..)];show e,Y,o.imp λv d f t r=>u r s λb q=>k b^eS _^t b q]
  .show .inr^.inl #[p,a,j,l,c,m,s _ _ e,o.imp λv d f t r=>r.imp (λr=>#[r.1,u r.2 s λb q=>k b^t b q]) λr=>#[r.1,r.2.1.mono s,r.2.2]]
  .show .inr^.inr #[a,x,c,by rw[k a^by rw[i];show c5 ..];show e,i,y.imp id λ#[p,k,A,B]=>#[p,k,A,B.mono s]]
def kh.Yn(o:kh R e g h)(k:∀v d f,(∀b∈f,b∈h)->R v d f->Dv Z G' v d):DvAll Z G' e g:=by
 induction o with
 |nil=>show .nil
 |cons a _ i=>show .cons (k _ _ _ (λb c=>kq _ c) a) (i λv d f j r=>k v d f (λb c=>gb _^j b c) r)
def Own.Ym(o:HO->Prop)(y:∀j,o^.lst j)(t:∀u,o^.ext u):∀{v:V'}{d:D}{l:!Ad},Own Z G H n v d l->aE G G'->(∀b∈l,∀x,o x->H b\x->G' b\x)->Dv Z G' v d:=by
 induction n with
 |zero=>show λh s _=>h.1.mono s
 |succ n w=>
  intro v d l h s k
  rcases h with ⟨a,j,A,C,i,c,g,e,m⟩ | ⟨_,a,j,A,i,c,g,m⟩ | ⟨a,u,i,g,e,B⟩
  .subst e i c
   show .lst (k a (c5 ..) _ (y _) g) (m.Yn λv d f e r=>w r s λb p=>k b^eS _^e b p)
  .subst i c
   show .tup (s _ _ g) (m.Yn λv d f e r=>r.elim (λr=>w r.2 s λb p=>k b^e b p) λr=>r.2.1.mono s)
  .subst i e
   rcases B with ⟨_,b,E,c,q⟩ | ⟨_,F,c,q⟩
   .subst c q
    show .set^k a (c5 ..) _ (t _) g
   .subst c
    show .x (k a (c5 ..) _ (t _) g)^q.mono s
def Own.dv{d:D}(h:Own Z G H n v d a)(s:aE G G')(k:∀b∈a,∀o,H b\o->G' b\o):Dv Z G' v d:=h.Ym (λ_=>True) (λ_=>trivial) (λ_=>trivial) s λb c x _ e=>k b c x e
def kh.flat(o:kh (Own Z G H 0) b c d):DvAll Z G b c/\d= []:=by
 induction o with
 |nil=>show#[.nil,Y]
 |cons a _ e=>show#[.cons a.1 e.1,by rw[a.2,e.2];rfl]
def DvAll.own(h:DvAll Z G c d):kh (Own Z G H 0) c d []:=h.ind (p:=λc d=>kh (Own Z G H 0) c d []) .nil λa _ b=> .cons (f:= []) (fs:= []) #[a,Y] b
def Dv.flat(h:Dv Z G v d)(f:fO d=L):Dv Z G' v d:=by
 have c:∀{p:Prop},At=L->p:=λh=>Bool.noConfusion h
 revert f
 show Dv.casesOn h (λ_=> .aT) (λb _=> .bl b) (λi _=> .int i) (λx k _=> .str x k) (λ_ _ f=>c f) (λ_ _ f=>c f) (λ_ f=>c f) (λ_ f=>c f) (λ_ _ f=>c f) (λ_ _ _ _ _ f=>c f) (λ_ f=>c f) (λ_ _ f=>c f) λ_ _ _ f=>c f
end
mutual
def LP:D->Bool
 | .aT=>L
 | .bl _=>L
 | .int _=>L
 | .str _=>L
 | .tup l=>NT l
 |_=>At
def NT:!D->Bool
 | []=>L
 |d::ds=>LP d&&NT ds
end
theorem Dv.LP(k:∀b xs,G b\(.tup xs)->a b\(.tup xs))(h:Dv Z G v d):L2.LP d=L->Dv Z a v d:=by
 have c:∀{p:Prop},At=L->p:=λh=>Bool.noConfusion h;show Dv.rec (motive_1:=λv d _=>L2.LP d=L->Dv Z a v d) (motive_2:=λg e _=>NT e=L->DvAll Z a g e) (λ_=> .aT) (λb _=> .bl b) (λi _=> .int i) (λx h _=> .str x h) (λ_ _ _ f=>c f) (λh _ l f=> .tup (k _ _ h)^l f) (λ_ f=>c f) (λ_ f=>c f) (λ_ _ f=>c f) (λ_ _ _ _ _ _ f=>c f) (λ_ f=>c f) (λ_ _ f=>c f) (λ_ _ _ _ f=>c f) (λ_=> .nil) (λ_ _ m n f=>have f:=ae4.mp (f:(L2.LP _&&NT _)=L); .cons (m f.1)^n f.2) h
def TK:HO->Bool
 | .lst _=>L
 | .ext _=>L
 |_=>At
def Own.dvL(h:Own Z G H n v d c)(s:aE G a)(k:∀b∈c,∀o,TK o=L->H b\o->a b\o):Dv Z a v d:=h.Ym (λo=>TK o=L) (λ_=>rfl) (λ_=>rfl) s k
structure Bs where
 G₀:Hp
 H₀:Hp
 Gf:Hp
structure SIx (Z:DC) (B:Bs) (md:!Nat) (ρ:DN) (σ:St) (H G:Hp) (fp:Nat->!Ad):Prop where
 ex:Ext B.G₀ B.H₀ G H
 fl:aE B.Gf G
 len:ρ.length=σ.length
 at_:∀(i:Nat)(d:D),ρ[i]?\(J d)->∃v,σ[i]?\(J v)/\Own Z G H (md.getD i 0) v d (fp i)
 nd:∀i,(fp i).Nodup
 ap:∀i j b,i≠j->b∈fp i->b∉fp j
 nw:∀i b,b∈fp i->B.H₀ b=V/\H b≠V/\G b=V
def SI(Z:DC)(B:Bs)(a:!Nat)(b:DN)(c:St)(H:Hp):Prop:=∃G d,SIx Z B a b c H G d
def dO:!Nat->DN->DN
 |_,[]=> []
 | [],o::a=>o::a
 |0::b,o::a=>o::dO b a
 | (_+1)::b,_::a=>V::dO b a
theorem uK:∀(a:!Nat)(b:DN),(dO a b).length=b.length
 |a,[]=>by cases a<;>rfl
 | [],o::b=>rfl
 |0::a,o::b=>by rw[dO,cF,uK a b,cF]
 | (_+1)::a,_::b=>by rw[dO,cF,uK a b,cF]
theorem yx:∀(c:!Nat)(e:DN)(i:Nat),(dO c e)[i]?\(J d)->c.getD i 0=0/\e[i]?\(J d)
 |c,[],i,h=>by cases c<;>simp[dO] at h
 | [],o::e,i,h=>#[by simp,h]
 |0::c,o::e,0,h=>#[Y,by simpa [dO] using h]
 |0::c,o::e,i+1,h=>by
  rw[dO,zJ] at h;let#[a,b]:=yx c e i h;show#[by rw[List.getD_cons_succ];show a,by rw[zJ];show b]
 | (_+1)::c,_::e,0,h=>by simp[dO] at h
 | (_+1)::c,_::e,i+1,h=>by
  rw[dO,zJ] at h;let#[a,b]:=yx c e i h;show#[by rw[List.getD_cons_succ];show a,by rw[zJ];show b]
def MP(b:!Nat):Bool->DN->DN
 |true,a=>a
 |false,a=>dO b a
def An:Bool->D->Prop
 |true,d=>LP d=L
 |false,_=>True
section
def Me(h:(dO md ρ)[i]?\(J d)):md.getD i 0=0/\ρ[i]?\(J d):=yx md ρ i h
def SIx.El(S:SIx Z B md ρ σ H G fp):eG Z G σ^dO md ρ:=by
 apply#[by rw[uK];show S.len,λi d h=>?_]
 let#[z,h]:=Me h;let#[v,a,o]:=S.at_ i d h;rw[z] at o;show#[v,a,o.1]
def SIx.Ir(S:SIx Z B md ρ σ H G fp):eG Z H σ ρ:=by
 apply#[S.len,λi d h=>?_];let#[v,a,o]:=S.at_ i d h;show#[v,a,o.dv S.ex.sub λb _ u e=>e]
theorem SIx.grow{c f:Hp}(S:SIx Z B md ρ σ H G fp)(x:Ext G H c f):SIx Z B md ρ σ f c fp where
 ex:=S.ex.trans x
 fl:=S.fl.trans x.gg
 len:=S.len
 at_:=λi d h=>by
  let#[v,j,o]:=S.at_ i d h;apply#[v,j,o.keep x.gg λb a=>?_];cases e:H b with
  |none=>show absurd e (S.nw i b a).2.1
  |some u=>show x.hh _ _ e
 nd:=S.nd
 ap:=S.ap
 nw:=λi b a=>let #[k,g,l]:=S.nw i b a;#[k,gz x.hh g,x.off b g l]
def Ext.all(s:aE G H)(x:Ext H H b a):Ext G H G a:=#[.refl _,s.trans x.hh,x.hh,λ_ _ h=>h]
open Classical in
def ke(G H:Hp)(fp:Nat->!Ad):Hp:=λb=>if ∃i,b∈fp i then(match H b with|some (.lst xs)=>J (.lst xs) |some (.ext φ)=>J (.ext φ) |_=>V) else G b
open Classical in
def yn(G:Hp)(fp:Nat->!Ad):Hp:=λb=>if ∃i,b∈fp i then V else G b
def Qp(i:Nat)(h:b∈fp i)(a:TK o=L)(e:H b\o):ke G H fp b\o:=by
 unfold ke;rw[mo #[i,h],e];cases o<;>first|rfl|cases a
def uT(h:¬∃i,b∈fp i):ke G H fp b=G b:=tz h
def SIx.Yq(S:SIx Z B md ρ σ H G fp):aE G^ke G H fp/\aE (ke G H fp) H/\eG Z (ke G H fp) σ ρ:=by
 have c:aE G^ke G H fp:=λb o e=>by
  by_cases h:∃i,b∈fp i
  .obtain⟨i,f⟩:=h
   rw[(S.nw i b f).2.2] at e;cases e
  .rw[uT h];show e
 apply#[c,λb o e=>?_,S.len,λi d h=>?_]
 .by_cases h:∃i,b∈fp i
  .unfold ke at e
   rw[mo h] at e
   split at e
   .next l a=>rw[a];show e
   .next m a=>rw[a];show e
   .cases e
  .rw[uT h] at e;show S.ex.sub _ _ e
 .obtain⟨v,g,o⟩:=S.at_ i d h
  show#[v,g,o.dvL c λb j u k a=>Qp i j k a]
def SIx.acB(S:SIx Z B md ρ σ H G fp)(x:Ext (ke G H fp) H a g):Ext G H (yn a fp) g/\∀b d,a b\(.tup d)->yn a fp b\(.tup d):=by
 let#[j,l,m]:=S.Yq;apply#[#[λb o e=>?_,λb o e=>?_,x.hh,λb f k=>?_],λb d e=>?_]
 .have h:¬∃i,b∈fp i:=by
   rintro⟨i,c⟩;rw[(S.nw i b c).2.2] at e;cases e
  unfold yn;rw[tz h];show x.gg _ _^j _ _ e
 .unfold yn at e
  split at e
  .cases e
  .show x.sub _ _ e
 .unfold yn
  split
  .rfl
  .next h=>show x.off b f^by rw[uT h];show k
 .have h:¬∃i,b∈fp i:=by
   rintro⟨i,c⟩;have f:=(S.nw i b c).2.1;cases hw:ke G H fp b with
   |none=>rw[x.off b f hw] at e;cases e
   |some o=>
    have:=x.gg _ _ hw
    rw[e] at this;cases Do this;unfold ke at hw;rw[mo #[i,c]] at hw
    split at hw<;>cases hw
  unfold yn;rw[tz h];show e
theorem SIx.ev(S:SIx Z B md ρ σ H G fp)(m:Bool)(h:t (MP md m ρ) P)
  (f:∀d,P d->An m d/\∀v b a,SIx Z B md ρ σ a b fp->Ext G H b a->Dv Z b v d->Q v a):eM Z t σ H Q:=by
 cases m with
 |false=>show#[G,_,P,S.ex.sub,S.El,h,λd c v b a x dv=>(f d c).2 v b a (S.grow x) x dv]
 |true=>
  let#[j,i,e]:=S.Yq;apply#[ke G H fp,_,P,i,e,h,λd c v b a x dv=>?_];let#[g,k]:=S.acB x;show(f d c).2 v _ a (S.grow g) g^dv.LP k (f d c).1
def SIx.evT(S:SIx Z B md ρ σ H G fp)(h:t ρ P)(c:∀b,P b->∀a,SIx Z B md ρ σ a G fp->Q b a):liftT Z t σ H Q:=
 #[H,ρ,P, .refl _,S.Ir,h,λb d e a x=>c b d a^S.grow^Ext.all S.ex.sub x]
def SIx.qY(S:SIx Z B md ρ σ H G fp)(l:md.getD i 0=0)(dv:Dv Z G v d):SIx Z B md (ρ.set i^J d) (σ.set i^J v) H G (λj=>if j=i then[] else fp j) where
 ex:=S.ex
 fl:=S.fl
 len:=by rw[fI,fI];show S.len
 at_:=λj c h=>by
  by_cases z:i=j
  .subst z
   by_cases a:i<ρ.length
   .rw[l9 a] at h
    cases Do h;show#[v,l9^by rw[<-S.len];show a,by rw[l,mo rfl];show#[dv,Y]]
   .rw[Fl^lI a,eF^lI a] at h;cases h
  .rw[kr z] at h ⊢
   rw[tz^Ne.symm z];show S.at_ j c h
 nd:=λj=>by split;show ju;show S.nd j
 ap:=λj k b ne e f=>by
  split at e
  .cases e
  .split at f
   .cases f
   .show S.ap j k b ne e f
 nw:=λj b g=>by
  split at g
  .cases g
  .show S.nw j b g
def SIx.JT{f:!Ad}(S:SIx Z B md ρ σ H G fp)(m:md.getD i 0=n)(o:Own Z G H n v d f)(nd:f.Nodup)(nw:∀b∈f,B.H₀ b=V/\H b≠V/\G b=V)(ap:∀b∈f,∀j,j≠i->b∉fp j):
  SIx Z B md (ρ.set i^J d) (σ.set i^J v) H G (λj=>if j=i then f else fp j) where
 ex:=S.ex
 fl:=S.fl
 len:=by rw[fI,fI];show S.len
 at_:=λj c h=>by
  by_cases z:i=j
  .subst z
   by_cases e:i<ρ.length
   .rw[l9 e] at h
    cases Do h;show#[v,l9^by rw[<-S.len];show e,by rw[m,mo rfl];show o]
   .rw[Fl^lI e,eF^lI e] at h;cases h
  .rw[kr z] at h ⊢
   rw[tz^Ne.symm z];show S.at_ j c h
 nd:=λj=>by split;show nd;show S.nd j
 ap:=λj k b ne g a=>by
  split at g
  .next z=>
   rw[tz^λw=>ne^z.trans w.symm] at a;show ap b g k (λw=>ne^z.trans w.symm) a
  .next z=>
   split at a
   .show ap b a j z g
   .show S.ap j k b ne g a
 nw:=λj b l=>by
  split at l
  .show nw b l
  .show S.nw j b l
def plus(G H:Hp)(F:Ad->Prop):Hp:=λb=>open Classical in if F b then H b else G b
def jW(h:F b):plus G H F b=H b:=by unfold plus;rw[mo h]
def gQ(h:¬F b):plus G H F b=G b:=by unfold plus;rw[tz h]
def r8(s:aE G H):aE (plus G H F) H:=λb o e=>by
 by_cases h:F b
 .rw[jW h] at e;show e
 .rw[gQ h] at e;show s _ _ e
def iL(s:aE G H):aE G^plus G H F:=λb o e=>by
 by_cases h:F b
 .rw[jW h];show s _ _ e
 .rw[gQ h];show e
def SIx.evR(S:SIx Z B md ρ σ H G fp)(h:t ρ P)(g:∀d,P d->∀v a c,Ext B.G₀ B.H₀ a c->Dv Z a v d->Q v c):eM Z t σ H Q:=by
 let F:Ad->Prop:=λb=>∃i,b∈fp i
 have s:=S.ex.sub
 have j:Ext B.G₀ B.H₀ (plus G H F) H:=#[S.ex.gg.trans^iL s,r8 s,S.ex.hh,λb f k=>by
  rw[gQ^λ#[i,l]=>f (S.nw i b l).1];show S.ex.off b f k]
 apply#[plus G H F,ρ,P,r8 s,#[S.len,λi d h=>?_],h,λd m v a c x dv=>g d m v a c (j.trans x) dv];let#[v,n,o]:=S.at_ i d h;show#[v,n,o.dv (iL s) λb f u e=>by rw[jW #[i,f]];show e]
end
structure fD where
 nx:DN->Prop
 rt:D->Prop
 bk:DN->Prop:=λ_=>False
 ct:DN->Prop:=λ_=>False
 xc:DN->D->Prop:=λ_ _=>False
abbrev cW:=fD->DN->Prop
structure Meets (Z:DC) (X:Cx) (B:Bs) (md:!Nat) (rn:Nat) (E:fD) (Dn:Ends):Prop where
 nx:∀ρ,E.nx ρ->∀σ H,SI Z B md ρ σ H->Dn.nx σ H
 rt:∀d,E.rt d->∀v f G' H',Ext B.G₀ B.H₀ G' H'->Own Z G' H' rn v d f->f.Nodup->(∀b∈f,B.H₀ b=V/\H' b≠V/\G' b=V)->Dn.rt v H'
 bk:∀ρ,E.bk ρ->∀σ H,SI Z B md ρ σ H->Dn.bk σ H
 ct:∀ρ,E.ct ρ->∀σ H,SI Z B md ρ σ H->Dn.ct σ H
 xc:∀ρ d,E.xc ρ d->∀σ H G fp a,SIx Z B md ρ σ H G fp->Dv Z G (.ref a) d->Nc X σ H a
def ot(Z:DC)(X:Cx)(a:!Nat)(c:Nat)(t:cW):TS:=λd e H=>∃(B:Bs)(b:DN)(E:fD),SI Z B a b e H/\t E b/\Meets Z X B a c E d
def DSt(Z:DC)(X:Cx)(a:!Nat)(b:Nat)(st:Stmt)(t:cW):Prop:=PS X st^ot Z X a b t
def mO(Z:DC)(X:Cx)(a:!Nat)(b:Nat)(c:!Stmt)(t:cW):Prop:=kE X c^ot Z X a b t
def PS.imp{X:Cx}{st:Stmt}{t t':TS}(h:PS X st t)(f:∀D b H,t' D b H->t D b H):PS X st t':=λa s b H D I q=>h a s b H D I^f _ _ _ q
def kE.imp{X:Cx}{st:!Stmt}{t t':TS}(h:kE X st t)(f:∀D b H,t' D b H->t D b H):kE X st t':=λa s b H D I q=>h a s b H D I^f _ _ _ q
section
variable {st : Stmt}
def ZF:cW:=λE a=>E.nx a
def abu(t u:cW):cW:=λE a=>t {E with nx:=u E} a
def bq:mO Z X md rn [] ZF:=by
 apply qD.imp λD b H a=>?_;let#[B,c,E,S,h,M]:=a;show M.nx _ h _ _ S
def aq(a:DSt Z X md rn st t)(b:mO Z X md rn Cz u):mO Z X md rn (st::Cz)^abu t u:=by
 apply(aI a b).imp λD k H c=>?_;rfl';let#[B,f,E,S,h,M]:=c;ac_rfl;show#[B,f,_,S,h,#[λg i m n j=>#[B,g,E,j,i,M],M.rt,M.bk,M.ct,M.xc]]
def aw(a:DSt Z X md rn st t):mO Z X md rn [st] t:=bH a
def Eh:DSt Z X md rn st (λ_ _=>False):=by
 apply PK.imp λD b H a=>?_;let#[B,c,E,S,h,M]:=a;show h
def abt(a:bb):cW:=λE b=>a b E.rt
def aS(a:DE Z X e te):DSt Z X md 0 (.Return (J e) pos)^abt te:=by
 apply(iy a).imp λD l H c=>?_;rfl';obtain⟨B,n,E,⟨G,o,S⟩,h,M⟩:=c;ac_rfl;show S.evR h λd g v i j x dv=>M.rt d g v [] i j x #[dv,Y] ju^λb k=>by cases k
def ZJ(i:Nat):cW:=λE a=>∃d,a[i]?\(J d)/\E.rt d
def Rf(i:Nat)(f:md.getD i 0=rn<|>zn)(g:X.N[i]?\x<|>zn)(a:vD X.env.scope x<|>yy)(b:eT x<|>zm)(j:eR x<|>zm):
  DSt Z X md rn (.Return (J^.Name x c) pos)^ZJ i:=by
 apply(iy^GK g a b j).imp λD n H k=>?_;rfl';obtain⟨B,q,E,⟨G,m,S⟩,⟨d,b,h⟩,M⟩:=k;let#[v,a,o]:=S.at_ i d b;rw[f] at o;ac_rfl;show#[v,a,M.rt d h v (m i) G H S.ex o (S.nd i)^S.nw i]
def Yf(c:dU)(t u:cW):cW:=λE a=>c a λb=>if b=L then t E a else u E a
def cT(j:DT Z X c tc)(k:mO Z X md rn a t)(d:mO Z X md rn b u):DSt Z X md rn (.If c a b pos)^Yf tc t u:=by
 apply(B7 j k d).imp ?_;intro D n H l;rfl';obtain⟨B,f,E,⟨G,g,S⟩,h,M⟩:=l;ac_rfl;apply S.evT h λb d p i=>?_;cases b with
 |true=>show cX #[B,f,E,#[G,g,i],(d),M]
 |false=>show c8 #[B,f,E,#[G,g,i],(d),M]
def Yj(b:!Nat)(m:Bool)(i:Nat)(c:bb):cW:=λE a=>c (MP b m a) λd=>An m d/\E.nx^a.set i^J d
def aX(m:Bool)(i:Nat)(g:X.N.Nodup)(j:DE Z X e k)(l:c.getD i 0=0<|>zn)(n:X.N[i]?\x<|>zn)(o:Loc X.env.scope x<|>yy)(p:hB e (J^.Name x a) b.line X.env=pure At<|>zn)
  (q:X.fn x=L\/X.env.scope.names.lookup x\.local<|>yy):DSt Z X c A (.Assign [.Name x a] e b)^Yj c m i k:=by
 apply(cc g n o j p q).imp ?_;intro D C H r;rfl';obtain⟨B,I,E,⟨G,J',S⟩,h,M⟩:=r;ac_rfl;show S.ev m h λd f=>#[f.1,λv w L' y x dv=>M.nx _ f.2 _ _ #[w,_,y.qY l dv]]
def OP(i:Nat){NC:!fC}{src:!Option Nat}(q:X.calm=L)(r:X.N.Nodup)(c:bG X a)(w:dM a X.N src NC)(y:DI Z X k iter n)
  (A:∀j s H,DG Z (bJ X a NC j s H) k g) (C:∀j s H,De Z (bJ X a NC j s H) f o) (F:∀j s H,DE Z (bJ X a NC j s H) b te)
  (I:hB (.ListComp b [#[k,iter,f,0]] a pos) (J^.Name x l) m.line X.env=pure L<|>zn) (J':md.getD i 0=0<|>zn) (L':X.N[i]?\x<|>zn) (O:Loc X.env.scope x<|>yy)
  (P:X.fn x=L\/X.env.scope.names.lookup x\.local<|>yy)
  (Q:(∀x,f_ iter X.env x=pure x)<|>xz):DSt Z X md rn (.Assign [.Name x l] (.ListComp b [#[k,iter,f,0]] a pos) m)^Yj md At i^ZC n g o te src:=by
 apply(kQ q r L' O c w y A C F I P Q).imp ?_;intro D R H T;rfl';obtain⟨B,u,E,⟨G,fp,S⟩,h,M⟩:=T;ac_rfl;apply NP R H _ (S.ev At h λd p=>#[p.1,λv Y' H' e x dv=>M.nx _ p.2 _ _ #[Y',_,e.qY J' dv]])
end
end L2
namespace L2
open PySem PySem.Spec PyProof.Rows
section
variable {Z:DC} {X:Cx} {B:Bs} {md:!Nat} {rn:Nat} {ρ:DN} {σ:St} {H G:Hp} {fp:Nat->!Ad}
def NO(Z:DC)(a:!Nat)(g:eW):TG:=λv f H Q=>∃(B:Bs)(b:DN)(d:D)(P:DN->Prop)(G:Hp)(h:Nat->!Ad),SIx Z B a b f H G h/\Dv Z G v d/\g d b P/\∀c,P c->∀e i,SIx Z B a c e H G i->Q e H
def SV(Z:DC)(a:!Nat)(g:oW):Dh:=λf h H Q=>∃(B:Bs)(b:DN)(c:!D)(P:DN->Prop)(G:Hp)(i:Nat->!Ad),SIx Z B a b h H G i/\DvAll Z G f c/\g c b P/\∀d,P d->∀e j,SIx Z B a d e H G j->Q e H
def Ks(Z:DC)(X:Cx)(a:!Nat)(e:gc)(g:eW):Prop:=PG X e^NO Z a g
def Na(Z:DC)(X:Cx)(a:!Nat)(b:!gc)(g:oW):Prop:=Ft X b^SV Z a g
def aJ(i:Nat)(b:X.N.Nodup)(c:e.getD i 0=0<|>zn)(f:X.N[i]?\x<|>zn)(g:Loc X.env.scope x<|>yy)(j:X.fn x=L\/X.env.scope.names.lookup x\.local<|>yy):Ks Z X e (.Name x a)^kH i:=by
 apply(cK b f g j).imp λv m H Q k=>?_;rfl';let#[B,o,d,P,G,p,S,dv,h,q]:=k;ac_rfl;show q _ h _ _^S.qY c dv
def bU:Na Z X md [] KN:=by
 apply nv.imp λv c H Q a=>?_;rfl';obtain⟨B,e,f,P,G,g,S,dv,⟨h,p⟩,q⟩:=a;subst h;cases dv;ac_rfl;show#[Y,q _ p _ _ S]
def aM(d:Ks Z X md e g)(f:Na Z X md b c)(i:(hX (e::b) X.env).map (·.2)=k8 e X.env::(hX b X.env).map (·.2)<|>zn):Na Z X md (e::b)^Al g c:=by
 apply(fU d f i).imp ?_;intro v t H Q j;rfl';let#[B,l,w,P,G,m,S,dv,h,q]:=j;ac_rfl;cases dv with
 |nil=>show h.elim
 |cons a n=>show#[_,_,Y,B,l,_,_,G,m,S,a,h,λo p x r s=>#[B,o,_,P,G,r,s,n,p,q]]
def dY(n:Nat)(f:X.calm=L)(h:Na Z X md b e)(g:(hX b X.env).length=n<|>zn)(i:(hX b X.env).findIdx? (·.1)=V<|>zn):Ks Z X md (.Tuple b k c)^KO n e:=by
 refine(r6 f h g i).imp ?_;rintro v p H Q ⟨B,j,d,P,G,l,S,dv,h,q⟩;cases dv<;>first|exact h.elim|skip
 rename_i a m r o b
 show#[a,m,Y,fN.of^S.ex.sub _ _ o,by rw[b.length];show h.1,B,j,_,P,G,l,S,b,h.2,q]
def abh(b:!Nat)(c:bb)(g:eW):cW:=λE a=>c (dO b a) λd=>g d a E.nx
def FI(i:DE Z X e c)(j:Ks Z X md a g)(k:lf [a] e b.line X.env=pure At<|>zn)(hw:li [a] e X.env=pure V<|>zn)
  (l:(hX [a] X.env).map (·.2)= [k8 a X.env]<|>zn):DSt Z X md rn (.Assign [a] e b)^abh md c g:=by
 apply(r9 i j k hw l).imp ?_;intro D w H m;rfl';obtain⟨B,o,E,⟨G,p,S⟩,h,M⟩:=m;ac_rfl;show S.ev At h λd q=>#[trivial,λv f A r x dv=>#[B,o,d,E.nx,f,p,r,dv,q,λC s F t u=>M.nx _ s _ _ #[f,t,u]]]
def hV(g:eW)(a:cW)(E:fD):!D->DN->Prop
 | [],b=>E.nx b
 |x::c,b=>g x b λd=>a {nx:=hV g a E c,ct:=hV g a E c,bk:=E.nx,rt:=E.rt,xc:=E.xc} d
def Ye(b:!Nat)(m:Bool)(c:jv)(g:eW)(d:cW):cW:=λE a=>c (MP b m a) λe=>hV g d E e a
def xQ(S:SIx Z B md h c H G fp)(P:yV Z G J' k)(Q:hV g r E k h)(M:Meets Z X B md rn E q):
  ∃W:Nat->Nat->St->Hp->Prop,(∃m,W 0 m c H)/\∀i m c H,W i m c H->
   (J'.stop i H/\q.nx c H)\/(J'.go i H/\∃N:St->Hp->Prop,(∀j a,N j a->∃I,I<m/\W (i+1) I j a)/\∀x a,J'.yld i H x a->NO Z md g x c a λL' v=>ot Z X md rn r {q with nx:=N,ct:=N,bk:=q.nx} L' v):=by
 let p:Bs:={B with Gf:=G}
 have back:∀h c H,SI Z p md h c H->SI Z B md h c H:=λh c H #[s,t,f]=>#[s,t,#[f.ex,S.fl.trans f.fl,f.len,f.at_,f.nd,f.ap,f.nw]];have R:SIx Z p md h c H G fp:=#[S.ex, .refl _,S.len,S.at_,S.nd,S.ap,S.nw];apply#[λi m c H=>m=k.length-i/\i<=k.length/\∃h,SI Z p md h c H/\hV g r E (k.drop i) h,#[_,Y,eQ _,h,#[G,fp,R],Q],?_];intro i m L' v T;rfl';obtain⟨rfl,hi,Y',⟨s,t,f⟩,u⟩:=T;let#[go,stop,yld]:=P s v f.fl f.ex.sub i;ac_rfl
 by_cases A:i<k.length
 .apply .inr #[go A,λj a=>∃l,SI Z p md l j a/\hV g r E (k.drop (i+1)) l,λj a n=>#[k.length-(i+1),(),Y,A,n],λx a y=>?_]
  rfl';let#[O,d,x3,Ld,dv]:=yld x a A y;rw[mT Ld] at u;ac_rfl;apply#[p,Y',d,_,O,t,f.grow x3,dv,u,λC h4 fj F S4=>?_];show#[p,C,_,#[O,F,S4],h4,#[λl o j a b=>#[l,b,o],M.rt,λl o j a b=>M.nx _ o _ _^back _ _ _ b,λl o j a b=>#[l,b,o],λl d o j a G' tV a' b p9=>M.xc l d o j a G' tV a' #[b.ex,S.fl.trans b.fl,b.len,b.at_,b.nd,b.ap,b.nw] p9]]
 .have e:k.drop i= []:=C5 ()
  rw[e] at u;show .inl #[stop (),M.nx _ u _ _^back _ _ _ #[s,t,f]]
variable {tg iter:Expr} {body:!Stmt} {wi:jv} {g:eW} {tb:cW} {pos:Pos}
def cz(a:X.calm=L)(b:nr (ei X.prog X.w) X.A X.env X.xe)(c:DI Z X tg iter wi)(d:Ks Z X md tg g)(e:mO Z X md rn body tb)
  (f:(∀x,f_ iter X.env x=pure x)<|>xz):DSt Z X md rn (.For tg iter body [] pos)^Ye md At wi g tb:=by
 apply(jM b a c d e f).imp ?_;intro D n H i;rfl';obtain⟨B,p,E,⟨G,q,S⟩,h,M⟩:=i;ac_rfl;show#[G,_,_,S.ex.sub,S.El,h,λr k J' s t l m=>xQ (S.grow l) m k M]
def Wu(Z:DC)(d:jv):TI:=λe H R=>∃(G:Hp)(a:DN)(P:!D->Prop),aE G H/\eG Z G e a/\d a P/\∀b,P b->∀J' f c,Ext G H f c->(∀h,yV Z h J' b)->R J' c
def DIr(Z:DC)(X:Cx)(a e:gc)(b:jv):Prop:=PI X a e^Wu Z b
def Rb(a:X.calm=L)(b:nr (ei X.prog X.w) X.A X.env X.xe)(c:DIr Z X tg iter wi)(d:Ks Z X md tg g)(e:mO Z X md rn body tb)
  (f:(∀x,f_ iter X.env x=pure x)<|>xz):DSt Z X md rn (.For tg iter body [] pos)^Ye md L wi g tb:=by
 apply(jM b a c d e f).imp ?_;intro D o H i;rfl';obtain⟨B,k,E,⟨G,q,S⟩,h,M⟩:=i;ac_rfl;show#[H,k,_, .refl _,S.Ir,h,λr l J' s t m n=>xQ (S.grow^Ext.all S.ex.sub m) (n _) l M]
variable {a b e:Expr} {ta te:bb} {t:gF}
def KQ(d:Gl X "range")(f:X.mg "range"=V)(i:DA Z X [a] t)(j:d_ [a] X.env= [(At,gj a X.env)]<|>zn):DIr Z X tg (.Call (.Name "range" p) [a] [] pos)^Yk t:=by
 apply(lA d f i j).imp ?_;intro v H Q k;rfl';let#[G,m,P,s,n,h,q]:=k;ac_rfl;apply#[G,m,_,s,n,h,λx c y o r u dv=>?_]
 split at c
 .obtain⟨_,rfl,a⟩:=dv.ofOne
  show#[_,by rw[a.ofInt],c.1.1,c.1.2,q _ c.2 _ o r u λ_=>EC 0 _]
 .show c.elim
def Nh(c:dU)(i:cW):cW:=λE d=>∃W:Nat->DN->Prop,(∃m,W m d)/\∀m d,W m d->c d λb=>if b=L then i {nx:=λh=>∃f,f<m/\W f h,ct:=λh=>∃f,f<m/\W f h,bk:=E.nx,rt:=E.rt,xc:=E.xc} d else E.nx d
def mW(C:nr (ei X.prog X.w) X.A X.env X.xe)(F:DT Z X c tc)(l:mO Z X md rn body tb):DSt Z X md rn (.While c body [] pos)^Nh tc tb:=by
 apply(E1 C F l).imp ?_;intro D s H p;rfl';obtain⟨B,n,E,S,⟨W,⟨m0,J'⟩,h⟩,M⟩:=p;ac_rfl;apply#[λm s H=>∃n,SI Z B md n s H/\W m n,#[m0,n,S,J'],?_];intro m P Q p;rfl';obtain⟨u,⟨v,x,L'⟩,N⟩:=p;ac_rfl;apply L'.evT (h m u N) λb l i y=>?_;cases b with
 |false=>show c8^M.nx _ (l) _ _ #[v,x,y]
 |true=>
  apply cX #[λo i=>∃d f,f<m/\SI Z B md d o i/\W f d,λo i #[d,f,j,k,O]=>#[f,j,d,k,O],B,u,_,#[v,x,y],(l),?_];show#[λd #[f,j,k] o i r=>#[d,f,j,r,k],M.rt,M.nx,λd #[f,j,k] o i r=>#[d,f,j,r,k],M.xc]
abbrev sC:=DN->(!D->Prop)->Prop
def Gq(Z:DC)(n:Nat)(t:sC):TE:=λj H Q=>∃(G:Hp)(h:DN)(P:!D->Prop),aE G H/\eG Z G j h/\t h P/\∀i,P i->∀v f d c,Ext G H d c->Own Z d c n v (.lst i) f->f.Nodup->(∀b∈f,H b=V/\c b≠V/\d b=V)->Q v c
def DF(Z:DC)(X:Cx)(n:Nat)(e:gc)(t:sC):Prop:=PE X e^Gq Z n t
def Ext.side{p:Ad}(x:Ext G H d c)(f:c p=V):Ext G H d^upd c p o:=
 #[x.gg,λb u e=>by rw[ao^av e^x.sub.free f];show x.sub _ _ e,x.hh.trans^az f _,x.off]
def B3(x:Ext G H d f)(i:f p=V)(dv:DvAll Z d c h):
  Own Z d (upd f p^.lst c) 1 (.ref p) (.lst h) [p]/\([p]:!Ad).Nodup/\∀b∈([p]:!Ad),H b=V/\(upd f p^.lst c) b≠V/\d b=none:=by
 apply#[.inl #[p,c,h,[],Y,Y,ah,Y,dv.own],by simp,λb j=>?_]
 have:b=p:=by simpa using j
 subst this;show#[x.hh.free i,(ah▸λz=>nomatch z),x.sub.free i]
def abE(t:gF):sC:=λd P=>t d λc=>c.length<=sizeLine/\P c
def ij(h:DA Z X c t):DF Z X 1 (.List c pos)^abE t:=by
 apply(fZ h).imp ?_;intro v H Q j;rfl';let#[G,l,P,s,e,h,q]:=j;ac_rfl;exists G,l,_,s,e,h;rintro x ⟨m,n⟩ y A C d f;apply#[by rw[f.length];show m,λp i=>?_]
 let#[o,r,u]:=B3 d i f;show q _ n _ _ _ _ (d.side i) o r u
def Z5(c:bb):sC:=λf P=>c f λd=>match d with
 | .lst l=>P l
 | .tup l=>P l
 |_=>False
def Q4{x:fC}{p:js}(I:x="list")(n:Gl X x)(o:X.mg x=V)(r:gl x\(.type "list"))(u:DE Z X a ta)(w:x≠"__name__"<|>zm)(y:eT x<|>zm)
  (m:eI a [] X.env<|>zn) (A:eB pos [] X.env<|>zn):DF Z X 1 (.Call (.Name x p) [a] [] pos)^Z5 ta:=by
 refine(uJ sV n o r (ar u aC m) w y m A).imp ?_;intro J' H Q C;rfl';let#[G,F,P,s,e,h,q]:=C;ac_rfl;refine#[G,F,_,s,e,h,λd i v M N c dv=>?_];cases dv<;>first|exact i.elim|skip
 .rename_i h e
  apply#[_,_,Y, .inl^aK.of^c.sub _ _ h,λp f=>?_];let#[j,k,l]:=B3 c f e;show q _ i _ _ _ _ (c.side f) j k l
 .rename_i h e
  apply#[_,_,Y, .inr^fN.of^c.sub _ _ h,λp f=>?_];let#[j,k,l]:=B3 c f e;show q _ i _ _ _ _ (c.side f) j k l
def Z4(d:jv)(g:eW)(f:dU)(h:bb)(src:!Option Nat):sC:=λc P=>d c λi=>lcW g f h i (Cs src c) [] λ_ out=>P out
def Jl:∀u H Q,Gq Z 1 (Z4 wi g r te src) u H Q->XB (uA Z wi) (qp Z g) (liftT Z r) (eM Z te) src u H Q:=by
 intro u H Q O;rfl';let#[G,S,P,s,w,h,q]:=O;ac_rfl;apply#[G,S,_,s,w,h,λf T J' C U d E j x=>?_];apply#[λi m y k=>m=f.length-i/\i<=f.length/\∃o acc,CS Z C U j o acc y k/\lcW g r te (f.drop i) o acc λ_ out=>P out,#[_,Y,eQ _,_,[], .begin d.sub x^(w.mono d.gg).src src,T],?_];rintro i m y k ⟨rfl,hi,o,acc,c,A⟩
 by_cases F:i<f.length
 .obtain⟨Y',l⟩:=EJ x C E i o acc y k c (λ_ s=>s) F A
  show .inr #[Y',_,λaA H' n=>#[f.length-(i+1),(),Y,F,n],l]
 .have e:f.drop i= []:=C5 ()
  rfl';rw[e] at A;let#[I,a,L',M,t,off,B,N,X,w]:=c;ac_rfl;apply .inl #[(E I k L' M i).2.1 (),q _ A (.ref j) [j] I k #[d.gg.trans L',M,d.hh.trans t,λb p hg=>off b (gz d.hh p)^d.off b p hg] (.inl #[j,a,acc,[],Y,Y,N,Y,X.own]) (by simp) λb p=>?_]
  have:b=j:=by simpa using p
  subst this;show#[d.hh.free x,(by rw[N];show λz=>nomatch z),B]
def Yi(d:!Nat)(i:Nat)(t:sC):cW:=λE c=>t (dO d c) λf=>E.nx^c.set i^J^.lst f
def ES{t:sC}(p:md.getD i 0=n)(S:SIx Z B md ρ σ H G fp)(h:t (dO md ρ) λl=>E.nx^ρ.set i^J^.lst l)(M:Meets Z X B md rn E k):Gq Z n t σ H λv m=>k.nx (σ.set i^J v) m:=by
 apply#[G,_,_,S.ex.sub,S.El,h,λl q v f r m x o s d=>?_];apply M.nx _ q _ _ #[r,_,(S.grow x).JT p o s (λb c=>#[S.ex.hh.free (d b c).1,(d b c).2]) λb c j _ u=>(S.nw j b u).2.1 (d b c).1]
def gL(i:Nat){t:sC}(j:X.N.Nodup)(k:DF Z X n e t)(l:f.getD i 0=n<|>zn)(m:X.N[i]?\x<|>zn)(o:Loc X.env.scope x<|>yy)(p:hB e (J^.Name x c) d.line X.env=pure At<|>zn)
  (q:X.fn x=L\/X.env.scope.names.lookup x\.local<|>yy):DSt Z X f u (.Assign [.Name x c] e d)^Yi f i t:=by
 apply(cc j m o k p q).imp ?_;intro D v H r;rfl';obtain⟨B,y,E,⟨G,A,S⟩,h,M⟩:=r;ac_rfl;show ES l S h M
def mV(i:Nat)(k:X.calm=L)(l:X.N.Nodup)(c:bG X scope)(m:dM scope X.N src NC)(n:DI Z X tg iter wi)
  (o:∀d s H,DG Z (bJ X scope NC d s H) tg g) (p:∀d s H,De Z (bJ X scope NC d s H) ifs tt) (q:∀d s H,DE Z (bJ X scope NC d s H) elt te)
  (r:hB (.ListComp elt [#[tg,iter,ifs,0]] scope pos) (J^.Name x f) j.line X.env=pure L<|>zn) (u:md.getD i 0=1<|>zn) (v:X.N[i]?\x<|>zn) (w:Loc X.env.scope x<|>yy)
  (y:X.fn x=L\/X.env.scope.names.lookup x\.local<|>yy)
  (A:(∀x,f_ iter X.env x=pure x)<|>xz):DSt Z X md rn (.Assign [.Name x f] (.ListComp elt [#[tg,iter,ifs,0]] scope pos) j)^Yi md i^Z4 wi g tt te src:=by
 apply(kQ k l v w c m n o p q r y A).imp ?_;intro D C H F;rfl';obtain⟨B,L',E,⟨G,O,S⟩,h,M⟩:=F;ac_rfl;show Jl C H _^ES u S h M
end
section
def SIx.mut{b:Ad}(S:SIx Z B md ρ σ H G fp)(r:σ[i]?\(J v))(n:b∈fp i)(o:Own Z G (upd H b c) (md.getD i 0) v m^fp i):SIx Z B md (ρ.set i^J m) σ (upd H b c) G fp where
 ex:=by
  let#[d,p,f]:=S.nw i b n;show#[S.ex.gg,λx u e=>by rw[ao^av e f];show S.ex.sub _ _ e,λx u e=>by rw[ao^av e d];show S.ex.hh _ _ e,S.ex.off]
 fl:=S.fl
 len:=by rw[fI];show S.len
 at_:=λj w h=>by
  by_cases z:i=j
  .subst z
   by_cases g:i<ρ.length
   .rw[l9 g] at h
    cases Do h;show#[v,r,o]
   .rw[Fl^lI g,eF^lI g] at h;cases h
  .rw[kr z] at h
   let#[u,s,t]:=S.at_ j w h;show#[u,s,t.keep (.refl _) λx l=>ao λq=>S.ap i j b z n (q▸l)]
 nd:=S.nd
 ap:=S.ap
 nw:=λj x l=>by
  let#[d,p,f]:=S.nw j x l;apply#[d,?_,f]
  by_cases z:x=b
  .rw[z,ah];show λq=>nomatch q
  .rw[ao z];show p
theorem SIx.one{i:Nat}{d:D}(S:SIx Z B md ρ σ H G fp)(j:md.getD i 0=1)(h:ρ[i]?\(J d)):∃l b c,d= .lst c/\σ[i]?\(J^.ref l)/\H l\(.lst b)/\DvAll Z G b c/\
  ∀f g,DvAll Z G f g->SIx Z B md (ρ.set i^J^.lst g) σ (upd H l^.lst f) G fp:=by
 rfl';let#[v,m,o]:=S.at_ i d h;rw[j] at o;let#[l,b,c,u,rfl,rfl,q,n,r]:=o.one;let#[dv,rfl]:=r.flat;ac_rfl;apply#[l,b,c,Y,m,q,dv,λf g s=>S.mut m (by rw[n];simp) ?_]
 rw[j,n];show .inl #[l,f,g,[],Y,Y,ah,Y,s.own]
def ty_list{K:ac}{l:Ad}{b:!V'}(h:H l\(.lst b)):XR K "list" (.ref l) H:= .inl #[Y,_,aK.of h]
def Yc(f:!Nat)(m:Bool)(i:Nat)(g:bb):cW:=λE b=>∃c,b[i]?\(J^.lst c)/\g (MP f m b) λd=>An m d/\c.length<sizeLine/\E.nx^b.set i^J^.lst (c++ [d])
def iT(m:Bool)(i:Nat)(t:DE Z X e te)(g:md.getD i 0=1<|>zn)(u:X.N[i]?\x<|>zn)(w:vD X.env.scope x<|>yy)(f:eT x<|>zm)(y:eR x<|>zm)
  (A:eE (.Name x b) "append" X.env<|>zn)
  (C:fX bp [e] X.env<|>zn)
  (F:(apos.endLine==bp.line)=L<|>zn) (j:eI e [] X.env<|>zn) (I:eB bp [] X.env<|>zn)
  (J':hB (.Call (.Attribute (.Name x b) "append" apos) [e] [] bp) V pos.line X.env=pure At<|>zn):
  DSt Z X md rn (.Expr (.Call (.Attribute (.Name x b) "append" apos) [e] [] bp) pos)^Yc md m i te:=by
 apply(dD (i5 GT aeq aer lq (pv i u w f y) (ar t aC j) A C F j I) J').imp ?_;intro D o H L';rfl';obtain⟨B,ρ,E,⟨G,O,S⟩,⟨ds,p,h⟩,M⟩:=L';ac_rfl;rfl';let#[l,xs,c,n,q,P,z]:=S.one g p;ac_rfl;apply#[_,q,ty_list P,S.ev m h λd f=>#[f.1,λv Q H' R x dv=>?_]];rfl';let#[c,T,U]:=f;let#[l',Y',sF,a,r,k,s,put]:=R.one g p;cases a;ac_rfl;rw[q] at r;cases r;show#[l,Y',v,Y,Y,k,by rw[s.length];show T,M.nx _ U _ _ #[Q,O,put _ _^s.snoc dv]]
def Vj(d:b.length=n)(h:lQ n i\j)(e:b[j]?\v):gZ b i\v:=by unfold gZ;rw[d,h];show e
def Vw(f:!Nat)(m:Bool)(i:Nat)(g h:bb):cW:=λE b=>h (MP f m b) λd=>An m d/\∃c,b[i]?\(J^.lst c)/\g b λl=>∃k j,l= .int k/\lQ c.length k\j/\E.nx^b.set i^J^.lst^c.set j d
def jx(m:Bool)(i:Nat)(A:DE Z X k tk)(C:DE Z X e te)(r:md.getD i 0=1<|>zn)(F:X.N[i]?\x<|>zn)(I:vD X.env.scope x<|>yy)(g:eT x<|>zm)(J':eR x<|>zm)
  (L':(∀v,k8 (.Subscript (.Name x b) k c) X.env v=(do
   let n <-im [v]^gj (.Name x b) X.env
   let q <-im [v,n] (gj k X.env)
   jo c
   im [v,n,q] (setItem n q v)
   release [v,n,q] []))<|>xz)
  (O:lf [.Subscript (.Name x b) k c] e pos.line X.env=pure At<|>zn) (hw:li [.Subscript (.Name x b) k c] e X.env=pure V<|>zn)
  (p:(hX [.Subscript (.Name x b) k c] X.env).map (·.2)= [k8 (.Subscript (.Name x b) k c) X.env]<|>zn):DSt Z X md rn (.Assign [.Subscript (.Name x b) k c] e pos)^Vw md m i tk te:=by
 apply(r9 C (GL (pv i F I g J') A set_list L') O hw p).imp ?_;intro D σ H P;rfl';obtain⟨B,ρ,E,⟨G,Q,S⟩,h,M⟩:=P;ac_rfl;apply S.ev m h λd g=>#[g.1,λv G' H' t x dv=>?_];rfl';let#[_,ds,p,h]:=g;let#[l,xs,_,_,u,e3,_]:=t.one r p;ac_rfl;apply#[_,u,t.ev L h ?_];rintro _ ⟨k,j,rfl,R,T⟩;apply#[Y,λv1 U H1 Y' a o=>?_];rfl';cases o.ofInt;let#[l',Ai,sF,e1,w,KW,y,put]:=Y'.one r p;cases e1;ac_rfl;rw[u] at w;cases w;show#[l,Ai,k,j,Y,Y,KW,by rw[y.length];show R,M.nx _ T _ _ #[U,Q,put _ _^y.set (dv.mono a.gg) j]]
def abr(f:!Nat)(i j:Nat):cW:=λE b=>∃c d,b[j]?\(J^.lst (c++ [d]))/\E.nx^(b.set j^J^.lst c).set i^J d
def FJ(i j:Nat)(w:X.N.Nodup)(A:f.getD i 0=0<|>zn)(g:f.getD j 0=1<|>zn)(C:X.N[i]?\x<|>zn)(I:Loc X.env.scope x<|>yy)
  (J':X.N[j]?\y<|>zn) (L':vD X.env.scope y<|>yy) (O:eT y<|>zm) (P:eR y<|>zm)
  (Q:eE (.Name y py) "pop" X.env<|>zn) (R:(b.endLine==s.line)=L<|>zn)
  (T:hB (.Call (.Attribute (.Name y py) "pop" b) [] [] s) (J^.Name x r) m.line X.env=pure At<|>zn)
  (U:X.fn x=L\/X.env.scope.names.lookup x\.local<|>yy):DSt Z X f rn (.Assign [.Name x r] (.Call (.Attribute (.Name y py) "pop" b) [] [] s) m)^abr f i j:=by
 apply(cc w C I (NV GT PySem.F.slot_list_pop PySem.F.type_list_pop Wz (pv j J' L' O P) Q R) T U).imp ?_;intro D σ H Y';rfl';obtain⟨B,ρ,E,⟨G,fp,S⟩,⟨p,d,e,h⟩,M⟩:=Y';ac_rfl;rfl';let#[l,c,sF,k,o,t,q,put]:=S.one g e;cases k;have u:c.length=p.length+1:=by rw[q.length];simp
 let#[v,Bt,dv]:=q.get (i:=c.length-1) (d:=d)^by rw[u];simp
 ac_rfl;apply#[_,o,ty_list t,l,c,v,Y,Y,t,Bt,M.nx _ h _ _ #[G,_,(put c.dropLast p ?_).qY A dv]]
 have:=q.take p.length
 rw[List.take_left'] at this
 .rw[List.dropLast_eq_take,u];show this
 .rfl
def SIx.N0(S:SIx Z B md ρ σ H G fp)(h:ρ[j]?\(J d)):∃v,σ[j]?\(J v)/\Dv Z (plus G H λb=>b∈fp j) v d/\SIx Z B md (ρ.set j V) σ H (plus G H λb=>b∈fp j) (λk=>if k=j then[] else fp k):=by
 have s:=S.ex.sub;let#[v,m,o]:=S.at_ j d h;apply#[v,m,o.dv (iL s) λb g u e=>by rw[jW g];show e,?_]
 apply#[#[S.ex.gg.trans^iL s,r8 s,S.ex.hh,λb g n=>?_],S.fl.trans^iL s,by rw[fI];show S.len,λk c f=>?_,λk=>by split;show ju;show S.nd k,λk p b ne f i=>?_,λk b g=>?_]
 .rw[gQ^λz=>g (S.nw j b z).1];show S.ex.off b g n
 .by_cases z:j=k
  .subst z
   by_cases l:j<ρ.length
   .rw[l9 l] at f;cases f
   .rw[Fl^lI l,eF^lI l] at f;cases f
  .rw[kr z] at f
   let#[u,q,r]:=S.at_ k c f;show#[u,q,by rw[tz^Ne.symm z];show r.keep (iL s) λ_ _=>rfl]
 .split at f
  .cases f
  .split at i
   .cases i
   .show S.ap k p b ne f i
 .split at g
  .cases g
  .next z=>
   let#[t,x,y]:=S.nw k b g;show#[t,x,by rw[gQ^λw=>S.ap k j b z g w];show y]
end
structure aa2 (mg:Str->Option Value):Prop where
 len:mg "len"=V
 range:mg "range"=V
 max:mg "max"=V
 min:mg "min"=V
 enumerate:mg "enumerate"=V
 zip:mg "zip"=V
 sorted:mg "sorted"=V
 all:mg "all"=V
 isinstance:mg "isinstance"=V
 int:mg "int"=V
 bool:mg "bool"=V
 list:mg "list"=V
 tuple:mg "tuple"=V
 sum:mg "sum"=V
 reversed:mg "reversed"=V
def Fx:bootBuiltins "max"\(.builtin "max"):=by nofun
def Fy:bootBuiltins "min"\(.builtin "min"):=by nofun
def HQ:bootBuiltins "bool"\(.type "bool"):=by nofun
def Fw:bootBuiltins "int"\(.type "int"):=by nofun
def mS:bootBuiltins "list"\(.type "list"):=by nofun
def Vl:bootBuiltins "all"\(.builtin "all"):=by nofun
def kX:bootBuiltins "sorted"\(.builtin "sorted"):=by nofun
def dW:bootBuiltins "len"\(.builtin "len"):=by nofun
section
variable {K : ac}
def oR(N:!Str)(a:!D):DN:=a.map J++ak (N.length-a.length) V
def lh(Z:DC)(n:Nat)(g:c7):Sp:=λh H Q _=>∃(G:Hp)(e:!D)(P:D->Prop),aE G H/\DvAll Z G h e/\g e P/\∀d,P d->∀v f c a,Ext G H c a->Own Z c a n v d f->f.Nodup->(∀b∈f,H b=V/\a b≠V/\c b=V)->Q v a
def Own.pure(x:Ext G H c a)(o:Own Z c a n v d f)(i:∀b∈f,H b=V/\a b≠V/\c b=V):∃h,Ext G H h a/\Dv Z h v d:=by
 apply#[plus c a λb=>b∈f,#[x.gg.trans^iL x.sub,r8 x.sub,x.hh,λb g j=>?_],o.dv (iL x.sub) λb g u e=>by rw[jW g];show e]
 rw[gQ^λz=>g (i b z).1];show x.off b g j
def spF:∀a H Q E,aR Z b a H Q E->lh Z n b a H Q E:=by
 intro a H Q E c;rfl';let#[G,g,P,s,dv,h,q]:=c;ac_rfl;show#[G,g,P,s,dv,h,λd i v f t j x o u k=>let #[l,m,p]:=o.pure x k;q d i v l j m p]
theorem Es(l:Nat){x a:Str}{st:Stmt}{f:Ad}{o:FuncData}{N g:!Str}{k:Nat}{m:c7}(F:vB K x a st f o)(S:aF N g (au st))(p:!Nat)(y:∀i,i<g.length->p.getD i 0=0)(len:∀c P,m c P->c.length=g.length)
  (B:∀(j:Value)(A:Around)(outer:!Env)(s:Shared)(H:Hp)(E:XK)(c:!D)(R:D->Prop),cw k (A.deeper (envOfC a (au st) s.heap.objs.size f j))->m c R->
   ∃t,mO Z (kZ fJ P w K mg base N a (au st) f j A outer s H E).mw p l (dP st) t/\t {nx:=λ_=>l=0/\R .aT,rt:=R} (oR N c)):FnOk P w K mg base fJ (k+1) f o g (lh Z l m):=by
 apply F.ok S (λC H Q E h=>?_) (λj A outer s H C Q E I h=>?_)
 .obtain⟨G,c,R,s,dv,h,q⟩:=h
  rw[dv.length];show len _ _ h
 rfl';let#[G,c,R,L',dv,h,q]:=h;have n:=q;let#[t,M,O]:=B j A outer s H E c R I h;have hl:=len _ _ h;ac_rfl;apply#[_,M,#[G,H,G],_,_,#[G,λ_=> [],?_],O,#[λρ r aA T #[U,fp,X]=>q _ r.2 _ [] U T X.ex (by rw[r.1];show#[.aT,Y]) ju (λb Y'=>by cases Y'),n,λ_ z=>z.elim,λ_ z=>z.elim,λ_ _ z=>z.elim]]
 apply#[.refl L', .refl _,by unfold oR start;simp[dv.length],λi d e=>?_,λ_=>ju,(λ_ _ _ _ z=>by cases z),(λ_ _ z=>by cases z)]
 unfold oR at e
 have u:i<c.length:=by
  apply FS ?_;intro z;rw[ko (~~~lI z),zI] at e
  split at e<;>cases e
 rw[jj (~~~u),dF] at e
 have jA:c[i]?\d:=by
  cases z:c[i]? with
  |none=>rw[z] at e;cases e
  |some d'=>rw[z] at e;cases e;rfl
 let#[v,hv,p9]:=dv.get jA;apply#[v,?_,by rw[y i ()];show#[p9,Y]]
 unfold start;rw[jj (by simpa [dv.length] using u),dF,hv];rfl
def bo{x c:fC}{st:Stmt}{f:Ad}{m:hQ}{N e:!fC}{k:Nat}{j:c7}(F:vB K x c st f m)(S:aF N e^au st)(l:!Nat)(n:∀i,i<e.length->l.getD i 0=0)(len:∀d P,j d P->d.length=e.length)
  (o:∀(g:b_)(A:gs)(outer:!nQ)(s:c_)(H:Hp)(E:XK)(d:!D)(R:D->Prop),cw k^A.deeper^lr c (au st) s.heap.objs.size f g->j d R->
   ∃t,mO Z (kZ fJ P w K mg base N c (au st) f g A outer s H E).mw l 0 (dP st) t/\t {nx:=λ_=>0=0/\R .aT,rt:=R}^oR N d):FnOk P w K mg base fJ (k+1) f m e^aR Z j:=
 (Es 0 F S l n len λg A outer s H E d R p h=>let #[t,a,b]:=o g A outer s H E d R p h;#[t,a,b]).imp spF
end
section
def abo(f:bb):bb:=λg P=>f g λd=>match d with
 | .int i=>P^.int (-i)
 |_=>False
def VA(g:DE Z X a ta):DE Z X (.UnaryOp .USub a pos)^abo ta:=by
 refine(aaD XS g).imp ?_;intro r H Q i;rfl';let#[G,k,P,s,l,h,q]:=i;ac_rfl;refine#[G,k,_,s,l,h,λd f v m n p dv=>?_];cases dv<;>first|exact f.elim|skip
 show#[_,Y,q _ f _ m n p^.int _]
def Zo:c7:=λd P=>∃i j,d= [.int i, .int j]/\P^.int^if j<i then j else i
def Zn:c7:=λd P=>∃i j,d= [.int i, .int j]/\P^.int^if j>i then j else i
def Kd(h:DvAll Z G d [.int i, .int j]):d= [.int i, .int j]:=by
 cases h with
 |cons a f=>
  cases f with
  |cons b bs=>cases bs;cases a;cases b;rfl
def AW(d:X.calm=L):CallR X (.builtin "max")^jD Z Zn:=by
 apply(AR d).imp ?_;intro k H Q f;rfl';obtain⟨G,m,P,s,dv,⟨i,j,rfl,h⟩,q⟩:=f;ac_rfl;show#[i,j,Kd dv,q _ h _ G H (.refl s)^.int _]
def AX(d:X.calm=L):CallR X (.builtin "min")^jD Z Zo:=by
 apply(AS d).imp ?_;intro k H Q f;rfl';obtain⟨G,m,P,s,dv,⟨i,j,rfl,h⟩,q⟩:=f;ac_rfl;show#[i,j,Kd dv,q _ h _ G H (.refl s)^.int _]
def abb:c7:=λd P=>∃bs:!Bool,d= [.lst^bs.map D.bl]/\P^.bl^bs.all id
theorem Nr:∀{d:!V'}{bs:!Bool},DvAll Z G d^bs.map D.bl->d=bs.map V'.bl
 |d,[],h=>by cases h;rfl
 |d,b::bs,h=>by
  cases h with
  |cons a f=>cases a;rw[Nr f];rfl
theorem vK:∀{d:!V'}{f:!Int},DvAll Z G d^f.map D.int->d=f.map V'.int
 |d,[],h=>by cases h;rfl
 |d,b::bs,h=>by
  cases h with
  |cons a g=>cases a;rw[vK g];rfl
def Vm(d:X.calm=L):CallR X (.builtin "all")^jD Z abb:=by
 apply(OE d).imp ?_;rintro g H Q ⟨G,i,P,s,dv,⟨bs,rfl,f⟩,q⟩;let#[b,rfl,a]:=dv.ofOne;let#[b,c,rfl,h,e]:=a.ft;show#[_,bs,Y,Nr e▸s _ _ h,q _ f _ G H (.refl s)^.bl _]
def Nd:c7:=λg P=>∃d:!Int,g= [.lst^d.map D.int]/\d.length<64/\∀f:!Int,f.Perm d->f.Pairwise (·<=·)->P^.lst^f.map D.int
def Ea:CallR X (.builtin "sorted")^jD Z Nd:=by
 apply Dm.imp ?_;rintro m H Q ⟨G,n,P,s,dv,⟨f,rfl,g,i⟩,q⟩;let#[b,rfl,a]:=dv.ofOne;let#[b,c,rfl,h,e]:=a.ft;apply#[_,f,Y,aK.of (vK e▸s _ _ h),g,λp d j k l=>?_];show q _ (i d k l) _ _ _ (.new s j)^.lst ah^.ints d
def pairD(k:Nat×Nat):D:= .tup [.int (k.1:Nat), .int (k.2:Nat)]
def Vk:c7:=λg P=>∃d:!(Nat×Nat),g= [.lst^d.map pairD]/\d.length<=1000/\∀f:!(Nat×Nat),f.Perm d->f.Pairwise Wb.lexLe->P^.lst^f.map pairD
theorem Ej:∀{d:!V'}{g:!(Nat×Nat)},DvAll Z G d^g.map pairD->∃L':!(Ad×(Nat×Nat)),d=L'.map (λe=>V'.ref e.1)/\L'.map (·.2)=g/\sE G L'
 |d,[],h=>#[[],h.LY,Y,λp f=>by cases f]
 |d,n::g,h=>by
  let#[b,c,rfl,a,j]:=h.wo;let#[L',rfl,rfl,k]:=Ej j;let#[p,b,rfl,f,e]:=a.uG;let#[b,c,rfl,s,u]:=e.mz;rw[s.ofInt,u.ofInt] at f;apply#[(p,n)::L',Y,Y,λq i=>?_]
  rcases bQ.mp i with rfl|i
  .show f
  .show k q i
theorem sE.dv:∀{L':!(Ad×(Nat×Nat))},sE G L'->DvAll Z G (L'.map λe=>V'.ref e.1)^(L'.map (·.2)).map pairD
 | [],_=> .nil
 |x::L',h=> .cons (.tup (h x (c5 ..))^.cons (.int _)^.cons (.int _) .nil) (sE.dv λp d=>h p^eS _ d)
def Eb:CallR X (.builtin "sorted")^jD Z Vk:=by
 apply Dq.imp ?_;rintro r H Q ⟨G,u,P,s,dv,⟨f,rfl,v,d⟩,q⟩;let#[b,rfl,a]:=dv.ofOne;let#[p,w,rfl,h,e]:=a.ft;let#[L',rfl,g,i]:=Ej e;have y:L'.length=f.length:=by rw[<-g];simp
 apply#[_,L',Y,aK.of^s _ _ h,λp d=>s _ _^i p d,(),λp M j m1 k=>?_]
 have l:(M.map (·.2)).Perm f:=by rw[<-g];show m1.map _
 have m:sE (upd G p^.lst (M.map λe=>V'.ref e.1)) M:=λx n=>az (s.free j) _ _ _^i x^m1.mem_iff.mp n;show q _ (d _ l k) _ _ _ (.new s j)^.lst ah m.dv
def Vu(g h:bb):bb:=λf P=>g f λd=>∃l,d= .lst l/\h f λy=>fO y=L/\l.all fO=L/\∃(j:Nat)(z:D),l[j]?\z/\vN z y=L/\(∀(m:Nat) z,m<j->l[m]?\z->vN z y=At)/\P^.int (j:Nat)
def Ef(E:DE Z X o ta)(F:DE Z X e tb)
  (I:eE o "index" X.env<|>zn)
  (J':fX d [e] X.env<|>zn)
  (L':(apos.endLine==d.line)=L<|>zn) (r:eI e [] X.env<|>zn) (M:eB d [] X.env<|>zn):
  DE Z X (.Call (.Attribute o "index" apos) [e] [] d)^Vu ta tb:=by
 apply(i5 GT ad9 aea rV E (ar F aC r) I J' L' r M).imp ?_;intro σ H Q N;rfl';let#[G,A,P,s,B,h,q]:=N;ac_rfl;exists G,A,_,s,B,h;rintro _ ⟨l,rfl,R⟩ v S H1 f dv;let#[p,T,rfl,C,e]:=dv.ft;apply#[ty_list^f.sub _ _ C,S,A,_,f.sub,B.mono f.gg,R,λy U u Y' a i k=>?_];rfl';let#[b,c,j,z,t,h4,h5,h6]:=U;have n:=e.mono i.gg;let#[w,hw,dw]:=n.get t;ac_rfl;apply#[p,T,u,j,w,Y,Y,i.hh _ _^f.sub _ _ C,by rw[vO k];show b,by rw[qe n];show c,hw,by rw[FN dw k];show h4,λm z' hm hz=>?_,q _ h6 _ Y' a (f.trans i)^.int _]
 let#[d',jA,p9]:=n.IG hz;rw[FN p9 k];show h5 m d' hm jA
end
structure Nb (Z:DC):Prop where
 cl:AA Z.K Z.C
 nR:gG Z.K Z.C "rows"
section
def ZL(f:bb):bb:=λg P=>f g λd=>∃w,d= .gB w/\P^bA w
def A9(T:Nb Z)(i:DE Z X o ta)(d:X.K=Z.K<|>zn)(j:eE o "rows" X.env<|>zn):DE Z X (.Attribute o "rows" apos)^ZL ta:=by
 apply(WW i j).imp ?_;intro E H Q k;rfl';let#[G,m,P,s,n,h,q]:=k;ac_rfl;exists G,m,_,s,n,h;rintro _ ⟨w,rfl,r⟩ v u x f dv;let#[p,y,R,rfl,A,B,g,I,J']:=dv.To;show#[p,Z.C,y,_, .ref R,Y,f.sub _ _ A,by rw[d];show T.cl,by rw[d];show T.nR,Y,q _ r _ u x f B]
def KI(g:c7)(h:bb)(t:gF):bb:=λf P=>h f λd=>∃w,d= .gB w/\t f λi=>g (.gB w::i) P
def EL(y:([("rows",V'.ref 0)]:!(Str×V')).lookup m=V):∀j H Q,eM Z (KI i ta t) j H Q->MF Z.C m (aR Z i) [] E0 (eM Z ta) (Gp Z t) j H Q:=by
 intro j H Q A;rfl';let#[G,u,P,s,x,h,q]:=A;ac_rfl;exists G,u,_,s,x,h;rintro _ ⟨w,rfl,k⟩ v E b f dv;have l:=dv;let#[p,F,R,rfl,I,c,g,e,o]:=dv.To;apply#[p,F,_,Y,f.sub _ _ I,?_,E,u,_,f.sub,x.mono f.gg,k,λX J' L' M N n O=>?_]
 .have S:(m==("rows":Str))=false:=by
   cases z:(m==("rows":Str)) with
   |false=>rfl
   |true=>simp[bj,z] at y
  simp[bj,S]
 .change aR Z i (V'.ref p::(L'++ [])) N Q E0
  rw[fB];show#[M,_,P,n.sub, .cons (l.mono n.gg) O,J',λd k v T U Y' r=>q d k v T U ((f.trans n).trans Y') r]
def Ih(T:Nb Z)(h:DE Z X o ta)(i:Meth Z.K Z.C m f)(F:FnOk X.prog X.w X.K X.mg X.base fJ k f fd ps^aR Z sd)(j:cw k X.A)(l:Binds X.K fd ps [])(n:DA Z X (e::es) t)(d:X.K=Z.K<|>zn)
  (p:([("rows",V'.ref 0)]:!(fC×V')).lookup m=V<|>zm) (q:eI e es X.env<|>zn) (r:eB pos es X.env<|>zn)
  (s:gj (.Call (.Attribute o m apos) (e::es) [] pos) X.env=(do
   let g <-gj o X.env
   jo apos.atName
   let (f,first) <-im [g] (l_ g m pl)
   callWith pos f first (gM pos^d_ (e::es) X.env)^jB pos^ip [] X.env)<|>zn):DE Z X (.Call (.Attribute o m apos) (e::es) [] pos)^KI sd ta t:=
 (TV (pl:=pl) h (by rw[d];show T.cl) (by rw[d];show i) F j l .nil cJ n q r s).imp^EL p
def gK(T:Nb Z)(l:DE Z X o ta)(n:Meth Z.K Z.C m f)(F:FnOk X.prog X.w X.K X.mg X.base fJ k f fd ps^aR Z sd)(r:cw k X.A)(u:Binds X.K fd ps [])(i:X.K=Z.K<|>zn)
  (x:([("rows",V'.ref 0)]:!(fC×V')).lookup m=V<|>zm)
  (y:gj (.Call (.Attribute o m apos) [] [] pos) X.env=(do
   let j <-gj o X.env
   jo apos.atName
   let (f,first) <-im [j] (l_ j m pl)
   callWith pos f first (gM pos^d_ [] X.env)^jB pos^ip [] X.env)<|>zn):DE Z X (.Call (.Attribute o m apos) [] [] pos)^KI sd ta k4:=
 (Pz (pl:=pl) l (by rw[i];show T.cl) (by rw[i];show n) F r u .nil cJ y).imp λB H Q h=>by
  rfl';let#[G,I,P,s,J',h,q]:=EL x B H Q h;ac_rfl;apply#[G,I,P,s,J',h,λd L' v M N O dv=>?_];rfl';let#[p,R,fs,S,U,Y',a,aH,P',b,c,e,t]:=q d L' v M N O dv;ac_rfl;show#[p,R,fs,S,U,Y',t _ e _ a _ (.refl b) .nil]
def J2(Z:DC):Sp:=λi H Q _=>∃(p h:Ad)(v:V')(G:Hp)(w:!!Nat),i= [.ref p,v]/\H p\(.ins Z.C h [])/\aE G H/\G p=V/\Dv Z G v^bA w/\Wb.Good w/\1<=w.length/\w.length<=14/\
 ∀(R:Ad)(d g:Hp),aE G d->aE d g->(∀b o,H b\o->b≠p->g b\o)->(∀b,H b≠V->G b=V->d b=V)->g p\(.ins Z.C h [("rows", .ref R)])->Dv Z d (.ref R)^bA w->Q .aT g
def ZE(t:gF):bb:=λd P=>t d λg=>∃w,g= [bA w]/\Wb.Good w/\1<=w.length/\w.length<=14/\P^.gB w
theorem QX(M:Mk Z.K Z.C f)(F:FnOk X.prog X.w X.K X.mg X.base fJ k f fd ps^J2 Z)(L':cw (k+1) X.A)(r:Gl X x)(N:X.mg x\(.ref Z.C))(l:Binds X.K fd ps [])
  (O:DA Z X (e::es) t) (S:X.K=Z.K<|>zn) (T:eT x<|>zm) (U:eI e es X.env<|>zn) (Y':eB pos es X.env<|>zn):
  DE Z X (.Call (.Name x p) (e::es) [] pos)^ZE t:=by
 apply(TU (by rw[S];show M) F L' r N l .nil cJ O T U Y').imp ?_
 intro σ H Q a;rfl';let#[G,m,P,s,en,h,q]:=a;ac_rfl;exists G,m,_,s,en,h;rintro _ ⟨w,rfl,g,B,h14,hp⟩ vs G1 H1 d u p n i vS ne;cases u with
 | @cons v _ _ _ dv u=>
  cases u;have oi:upd H1 n (.own p) p=none:=by rw[ao^Ne.symm ne];show i
  have y:=(az vS^.own p).trans^az oi^.ins Z.C n [];apply#[p,n,v,G1,w,Y,ah,d.sub.trans y,d.sub.free i,dv,g,B,h14,λR E H2 g1 g2 kp off V3 FL=>#[Y,?_]];have I:E p=none:=off p (by rw[ah];show λz=>nomatch z)^d.sub.free i
  apply q _ hp _ (upd E p^.ins Z.C n [("rows", .ref R)]) H2 #[(d.gg.trans g1).trans^az I _,λb o e=>?_,λb o e=>?_,λb l r=>?_]^.gB ah (FL.mono^az I _) g B h14
  .by_cases z:b=p
   .subst z;rw[ah] at e;cases e;show V3
   .rw[ao z] at e;show g2 _ _ e
  .have J':=d.hh _ _ e
   show kp b o (y _ _ J')^av J' i
  .have j:=gz d.hh l
   have nb:b≠p:=λz=>j^by rw[z];show i
   rw[ao nb];show off b (gz y j)^d.off b l r
end
section
variable {Z:DC} {X:Cx} {pos:Pos}
variable {tg iter elt:gc} {scope:Scope} {NC:!fC} {src:!Option Nat} {wi:jv} {g:eW} {tf:sC} {md:!Nat} {rn:Nat}
end
abbrev iH:=inClass
structure Fs (Z:DC) (m qual:Str) (st:Stmt) (ps:!Str) where
 f:Ad
 fd:FuncData
 F:vB Z.K m qual st f fd
 b:Binds Z.K fd ps []
 m:Meth Z.K Z.C m f
def wY(K:ac):Sp:=λc H Q _=>∃(a:Ad)(b:!Int),c= [.ref a]/\aK K H a^b.map V'.int/\b.length<=63/\∀d,Q (.bl L) d
def GX:c7:=λb P=>∃a:!Int,b= [.nI a]/\a.length<=63/\P^.bl L
def Wo{Z:DC}:∀b H Q E,wY Z.K b H Q E->aR Z GX b H Q E:=by
 rintro b H Q E ⟨a,c,rfl,f,e,q⟩;show#[H,[.nI c],λd=>d= .bl L, .refl _, .cons (.nI f e) .nil,#[c,Y,e,Y],λd g v i h x dv=>by subst g;cases dv;show q h]
def aaV(k:Nat){l:cP}{q:ff}{e:!fC}{o:(fC->Option b_)->Heap->Prop}{m:f8->Heap->Prop}{d:DefRec}{K:Params->ac}(H:3*k<150)(p:l.most\63)(r:d.params.defaults= [])
  (t:∀(w:f8)(h:Heap),m w h->(K w.params).In h)
  (F:∀(w:f8)(g:fC->Option b_)(i:Ad)(h:Heap),(K w.params).In h->h.Ns f5 g->g d.name\(.ref i)->
   ∃j:hQ,(∀(s:c_)(u:b_),BindsTo s j #[[u],[]] [("_law_script",u)])/\∀base:Heap,(K w.params).In base->base.Ns f5 g->FnOk l.prog w (K w.params) g base fJ k i j ["_law_script"]^wY^K w.params):
  eh q e o m l.row.toRowW d [] (λf v=>ee f v):=
 L2.UW (n:=63) (k:=50) (x:="_law_script") (CX:=λ_=>fJ) (sp:=λw=>wY^K w.params) p ∅ r #[Y,∅,∅] t (λw g i h a b c=>by
  let#[j,A,B]:=F w g i h a b c;show#[j,A,λbase x y=>(B base x y).mono ()]) (λ_ _ a C E _ G=>#[a,C,Y,G,E,λ_=>rfl]) λ_ _ _ _ _ z=>z
def eU{c:Bool}{A B:Prop}(a:c=L->A)(b:c=At->B):if c=L then A else B:=by
 cases c with
 |true=>show cX^a rfl
 |false=>show c8^b rfl
theorem By{ρ:DN}(a:g->D)(p:g->Bool)(f:g->D):∀(d:!g)(c:DN)(acc:!D)(N:DN->!D->Prop),(∀y∈d,∀(Y':D->Prop)(q:Prop),(p y=L->Y'^f y)->(p y=At->q)->j (ρ.set i^J^a y) λb=>if b=L then n (ρ.set i^J^a y) Y' else q)->
  (∃o,c=ρ.set i o)->acc.length+d.length<=sizeLine->(∀c,N c (acc++(d.filter p).map f))->lcW (kH i) j n (d.map a) c acc N
 | [],c,acc,N,_,_,_,h=>by
  change N c acc;simpa using h c
 |y::d,c,acc,N,k,#[o,r],e,h=>by
  change j (c.set i^J^a y) _;rw[r,List.set_set];rw[cF] at e;apply k y (c5 ..) _ _ (λl=>#[(),?_])^λl=>?_
  .apply By a p f d _ (acc++ [f y]) N (λz e=>k z^eS _ e) #[_,Y] (by simp;lia) λm=>?_
   have:=h m
   rw[yP,l] at this;simpa using this
  .apply By a p f d _ acc N (λz e=>k z^eS _ e) #[_,Y] () λm=>?_
   have:=h m
   rw[yP,l] at this;simpa using this
def rR{ρ:DN}(a:c->D)(f:c->D)(b:!c)(N:DN->!D->Prop)(j:∀y∈b,∀(Y':D->Prop),Y'^f y->g (ρ.set i^J^a y) Y')(k:ρ[i]?\V)(l:b.length<=sizeLine)(h:∀d,N d^b.map f):lcW (kH i) oZ g (b.map a) ρ [] N:=by
 apply By (ρ:=ρ) a (λ_=>L) f b ρ [] N (λy m Y' o n _=>?_) #[V,?_] (~~~l) λd=>by rw[List.filter_eq_self.mpr^λ_ _=>rfl,pJ];show h d
 .unfold oZ
  dsimp only;rw[mo rfl];show j y m Y'^n rfl
 .obtain⟨p,e⟩:=cV.mp k
  rw[<-e,List.set_getElem_self]
theorem Et(I:Nat->DN->Prop):∀(b:!D)(k:Nat)(a:DN),I k a->(∀(j:Nat)(d:D)(a:DN),b[j]?\d->I (k+j) a->∀A:DN->Prop,(∀a,I (k+j+1) a->A a)->g d a λn=>m {nx:=A,ct:=A,bk:=E.nx,rt:=E.rt,xc:=E.xc} n)->
  (∀a,I (k+b.length) a->E.nx a)->hV g m E b a
 | [],k,a,c,e,f=>f a c
 |d::b,k,a,c,e,f=>by
  apply e 0 d a rfl c _ λo p=>?_
  show Et I b (k+1) o p (λj q h r i A s=>by
   apply e (j+1) q h (~~~r) (by rw[show k+(j+1)=k+1+j by lia];show i) A λl t=>s l ?_
   rw[show k+1+j+1=k+(j+1)+1 by lia];show t)^λh i=>f h^by rw[cF,show k+(b.length+1)=k+1+b.length by lia];show i
def bK(I:Nat->DN->Prop)(e:I 0 a)(f:∀(j:Nat)(d:D)(a:DN),b[j]?\d->I j a->∀A:DN->Prop,(∀a,I (j+1) a->A a)->g d a λi=>c {nx:=A,ct:=A,bk:=E.nx,rt:=E.rt,xc:=E.xc} i)
  (k:∀a,I b.length a->E.nx a):hV g c E b a:=Et I b 0 a e (λj d a l h A m=>f j d a l (~~~h) A λn o=>m n^~~~o)^λa h=>k a^~~~h
def Ry{g:eW}{c:cW}{E:fD}{lo:Int}{n:Nat}{a:DN}(I:Nat->DN->Prop)(f:I 0 a)(i:∀(j:Nat)(a:DN),j<n->I j a->∀A:DN->Prop,(∀a,I (j+1) a->A a)->g (.int (lo+j)) a λk=>c {nx:=A,ct:=A,bk:=E.nx,rt:=E.rt,xc:=E.xc} k)
  (m:∀a,I n a->E.nx a):hV g c E (gU lo n) a:=by
 have l:(gU lo n).length=n:=by unfold gU;simp
 apply bK I f (λj d a b h A o=>?_)^λa h=>m a^by rw[l] at h;show h
 have e:j<n:=by
  have:=(cV.mp b).1
  rw[l] at this;show this
 rw[zt e] at b;cases Do b;show i j a e h A o
def oV(I:Nat->DN->Prop)(m0:Nat)(g:I m0 a)(h:∀m a,I m a->c a λb=>if b=L then f {nx:=λe=>∃d,d<m/\I d e,ct:=λe=>∃d,d<m/\I d e,bk:=E.nx,rt:=E.rt,xc:=E.xc} a else E.nx a):Nh c f E a:=#[I,#[m0,g],h]
section
def OW:X6 X^JL X.K:=by
 intro d s n H x y v u Q I o A h;rfl';let#[p,O,i,z,rfl,rfl,C,E,q]:=h;subst o;let#[t,rfl]:=A;let#[g,r,pl,P]:=I.list C;let#[j,f,F,R,G,J']:=AJ E;let#[w,l,L']:=r.get F;have M:=r.length;have S:=l0;have fin:EP X d n Q w s:=#[z,H,I,L',q];ac_rfl
 by_cases m:0<=i
 .have k:i.toNat=j:=by
   rw[agf m J'] at f;show Do f
  show wpAny_getItem_list pl.isList m () (by rw[k];simpa using l) fin
 .have k:(i+(g.toArray.size:Int)).toNat=j:=by
   rw[seqIndex_neg () G] at f
   rw[b8,<-M];show Do f
  show agg pl.isList () (by rw[b8]<;>lia) () (by rw[k];simpa using l) fin
def Vr(i:Nat)(f:Int->Int->Int)(l m:bb):cW:=λE g=>∃h,g[i]?\(J^.lst h)/\l g λo=>∃k j n,o= .int k/\lQ h.length k\j/\h[j]?\(.int n)/\m g λd=>∃q,d= .int q/\E.nx^g.set i^J^.lst^h.set j^.int^f n q
def Eg(i:Nat)(R:DE Z X k tk)(T:Ze X A^ipI f)(U:DE Z X e te)(p:md.getD i 0=1<|>zn)
  (Y':X.N[i]?\x<|>zn) (a:vD X.env.scope x<|>yy) (b:eT x<|>zm) (c:eR x<|>zm)
  (t:(∀m o new,augStore k m o new=(do im [new,m,o]^setItem m o new;release [new,m,o] [];pure .next))<|>wr):DSt Z X md rn (.AugAssign (.Subscript (.Name x P) k Q) A e pos)^Vr i f tk te:=by
 apply(T4 (pv i Y' a b c) R OW U T set_list t).imp ?_;intro D σ H aO;rfl';obtain⟨B,ρ,E,⟨G,fp,S⟩,⟨ds,r,h⟩,M⟩:=aO;ac_rfl;rfl';let#[l,xs,d,g,s,e3,z]:=S.one p r;ac_rfl;apply#[_,s,S.ev L h ?_];intro _ U3;rfl';let#[k,j,n,rfl,C,hn,h]:=U3;ac_rfl;apply#[Y,λv1 G1 H1 F x1 Ri=>?_];rfl';cases Ri.ofInt;let#[l1,X0,pO,u,I,KW,J',d]:=F.one p r;cases u;ac_rfl;rw[s] at I;rfl';cases I;let#[v,Bt,dv]:=J'.get hn;cases dv.ofInt;ac_rfl;apply#[l,X0,k, .int n,Y,Y,aK.of KW,Vj J'.length C Bt,F.ev L h ?_];rintro _ ⟨q,rfl,h⟩;apply#[Y,λv2 G2 H2 S2 x2 FL=>?_];rfl';cases FL.ofInt;let#[l2,w,mU,u,L',y,O,put]:=S2.one p r;cases u;ac_rfl;rw[s] at L';cases L';show#[n,q,Y,Y,l,w,k,j,Y,Y,y,by rw[O.length];show C,M.nx _ h _ _ #[G2,fp,put _ _^O.set (.int _) j]]
def Rq(g:c7)(t:gF):sC:=λh P=>t h λi=>g i λd=>∃f,d= .lst f/\P f
def Q3{k:Nat}(F:FnOk X.prog X.w X.K X.mg X.base fJ k f l m^lh Z n g)(u:cw k X.A)(y:Gl X x)(B:X.mg x\(.ref f))(C:am X.K^.ref f=L)(d:Binds X.K l m [])
  (E:DA Z X (e::es) t) (I:eT x<|>zm) (J':eI e es X.env<|>zn) (L':eB pos es X.env<|>zn):
  DF Z X n (.Call (.Name x p) (e::es) [] pos)^Rq g t:=by
 apply(bL F u y B C d .nil cJ E I J' L').imp ?_;intro σ H Q M;rfl';let#[G,O,P,s,R,h,q]:=M;ac_rfl;apply#[G,O,_,s,R,h,λS T U Y' a j c=>?_];change lh Z n g (U++ []) a Q E0;rw[fB];exists Y',S,_,j.sub,c,T;intro _ U3 v f G2 H2 x2 o nd r;rfl';let#[sF,rfl,hp]:=U3;ac_rfl;show q _ hp v f G2 H2 (j.trans x2) o nd λb d=>#[j.hh.free (r b d).1,(r b d).2]
end
section
variable {X:Cx} {elt t0 i0 t1 i1:gc} {f0 f1:!gc} {scope:Scope} {pos:js} {wi cR:TI} {g g1:TG} {tt bY:TT} {te:TE} {src:!Option Nat} {NC:!fC}
end
section
variable {Z:DC} {X:Cx} {md:!Nat} {rn:Nat} {elt t0 i0 t1 i1:gc} {f0 f1:!gc} {scope:Scope} {pos:js} {wi cR:jv} {g g1:eW} {tt bY:dU} {te:bb} {src:!Option Nat} {NC:!fC}
end
section
def QS(i:Nat)(t:sC):cW:=λE a=>t a λb=>b.all fO=L/\E.nx^a.set i^J^.lst b
theorem DvAll.flat(h:DvAll Z G c b):b.all fO=L->DvAll Z d c b:=by
 apply h.ind (p:=λc b=>b.all fO=L->DvAll Z d c b) (λ_=> .nil) λa _ f h=>?_;have h:=ae4.mp (h:(fO _&&List.all _ fO)=L);show .cons (a.flat h.1)^f h.2
def Rc(i:Nat)(n:X.N.Nodup)(p:DF Z X 1 e t)(q:r.getD i 0=1<|>zn)(s:X.N[i]?\x<|>zn)(u:Loc X.env.scope x<|>yy)(w:hB e (J^.Name x c) d.line X.env=pure At<|>zn)
  (y:X.fn x=L\/X.env.scope.names.lookup x\.local<|>yy):DSt Z X r rn (.Assign [.Name x c] e d)^QS i t:=by
 apply(cc n s u p w y).imp ?_;intro D σ H A;rfl';obtain⟨B,F,E,⟨G,fp,S⟩,h,M⟩:=A;ac_rfl;exists H,F,_, .refl _,S.Ir,h;rintro I ⟨J',L'⟩ v f G' H' x o nd l;have O:=Ext.all S.ex.sub x;have P:=S.grow O;let#[a,Q,sF,sL,rfl,R,T,m,U]:=o.lst;cases R;let#[dv,rfl]:=U.flat;have g:H a=none:=(l a^by rw[m];simp).1
 apply M.nx _ L' _ _ #[G,_,P.JT (f:= [a]) q (.inl #[a,Q,I,[],Y,Y,T,Y,(dv.flat J').own]) (by simp) (λb k=>?_) λb k j _ Y'=>?_]
 .have:b=a:=by simpa using k
  subst this;show#[S.ex.hh.free g,(l b^by rw[m];simp).2.1,S.ex.sub.free g]
 .have:b=a:=by simpa using k
  subst this;show(S.nw j b Y').2.1 g
end
def jy{l:!D}{j:Nat}{d:D}(h:(eZ l)[j]?\d):∃x,l[j]?\x/\d= .tup [.int (j:Int),x]:=by
 unfold eZ at h;rw[List.getElem?_mapIdx] at h;cases e:l[j]? with
 |none=>rw[e] at h;cases h
 |some x=>rw[e] at h;cases h;show#[x,Y,Y]
def gr(l:!D):(eZ l).length=l.length:=by unfold eZ;simp
def cH{a b:Type}{f:a->b}{l:!a}{j:Nat}{y:b}(h:(l.map f)[j]?\y):∃x,l[j]?\x/\y=f x:=by
 rw[dF] at h;cases e:l[j]? with
 |none=>rw[e] at h;cases h
 |some x=>rw[e] at h;cases h;show#[x,Y,Y]
def fT(r:!Nat):(r.map ax).all fO=true:=by
 rw[List.all_map];show yQ.mpr λ_ _=>rfl
def vZ{r:!Nat}{p:Nat}:inD (ax p)^r.map ax=AT (p∈r):=by
 unfold inD;rw[List.any_map]
 have:((λy=>vN y^ax p)∘ax)=λq:Nat=>AT (q=p):=by
  funext q
  simp[ax,rM,Function.comp]
  by_cases z:q=p
  .simp[z]
  .have:¬(q:Int)=(p:Int):=()
   simp[z,this]
 rw[this]
 by_cases h:p∈r
 .rw[FM h,afY];show#[p,h,by simp]
 .rw[GE h]
  apply zM.mpr ?_;intro z;rw[afY] at z;let#[q,a,e]:=z
  show h (by have:q=p:=by simpa using e
             rw[<-this];show a)
def iG{l:!D}{p:Nat}{d:D}(h:l[p]?\d):gZ l (p:Int)\d:=dm h
def CH(h:p<w.length):(w.map aD)[p]?\(aD^Wb.row w p):=by
 rw[dF,Wb.JN h];rfl
section
def Zv(b:bb):cW:=λE a=>b a λ_=>E.nx a
def Il(a:DE Z X e te)(b:hB e V pos.line X.env=pure At<|>zn):DSt Z X md rn (.Expr e pos)^Zv te:=by
 apply(dD a b).imp ?_;intro D k H c;rfl';obtain⟨B,g,E,⟨G,i,S⟩,h,M⟩:=c;ac_rfl;show#[H,g,_, .refl _,S.Ir,h,λd j v m n x dv=>M.nx _ j _ _ #[G,i,S.grow^Ext.all S.ex.sub x]]
end
def Kl(h:A):oZ a (λb=>if b=L then A else B):=by
 unfold oZ;dsimp only;rw[mo rfl];show h
def Yz{c:Bool}{A B:Prop}(e:c=At)(h:B):if c=L then A else B:=by rw[tz^by rw[e];show c9];show h
theorem iW(I:DN->Prop)(c:m->D)(p:m->Bool)(f:m->D):∀(i:!m)(e:DN)(acc:!D)(N:DN->!D->Prop),(∀y∈i,∀e,I e->∀(Y':DN->D->Prop)(u:DN->Prop),(∀a,I a->p y=L->Y' a^f y)->(∀a,I a->p y=At->u a)->g (c y) e λa=>k a λb=>if b=L then l a^Y' a else u a)->
  I e->acc.length+i.length<=sizeLine->(∀e,I e->N e (acc++(i.filter p).map f))->lcW g k l (i.map c) e acc N
 | [],e,acc,N,_,n,_,h=>by
  change N e acc;simpa using h e n
 |y::i,e,acc,N,o,n,j,h=>by
  rw[cF] at j;apply o y (c5 ..) e n (λa d=>acc.length<sizeLine/\lcW g k l (i.map c) a (acc++ [d]) N) (λa=>lcW g k l (i.map c) a acc N) (λa q r=>#[(),?_])^λa q r=>?_
  .apply iW I c p f i _ (acc++ [f y]) N (λz j=>o z^eS _ j) q (by simp;lia) λs t=>?_
   have:=h s t
   rw[yP,r] at this;simpa using this
  .apply iW I c p f i _ acc N (λz j=>o z^eS _ j) q () λs t=>?_
   have:=h s t
   rw[yP,r] at this;simpa using this
def YB(h:b.length=1):∃d,b= [d]:=by
 cases b with
 |nil=>cases h
 |cons a l=>
  cases l with
  |nil=>show#[a,Y]
  |cons _ _=>cases h
def YC(h:b.length=2):∃e c,b= [e,c]:=by
 cases b with
 |nil=>cases h
 |cons a l=>
  let#[c,rfl]:=YB^agB h;show#[a,c,Y]
def YD(h:b.length=3):∃f c d,b= [f,c,d]:=by
 cases b with
 |nil=>cases h
 |cons a l=>
  let#[c,d,rfl]:=YC^agB h;show#[a,c,d,Y]
def aci(h:b.length=4):∃g c d e,b= [g,c,d,e]:=by
 cases b with
 |nil=>cases h
 |cons a l=>
  let#[c,d,e,rfl]:=YD^agB h;show#[a,c,d,e,Y]
section
variable {Z:DC} {X:Cx}
end
def bG.nest(k:f.kind= .function)(a:∀x∈f.names,x.2= .local->f.names.lookup x.1\.local)(b:∀x∈f.names,x.2≠ .cell)
  (d:∀x∈f.names,x.2= .free->c.names.lookup x.1\.free):bG (bJ X c NC g s H) f where
 kind:=k
 names:=a
 nocell:=b
 free:=λx i e=>by
  have h:(bJ X c NC g s H).env.kindOf x.1=(c.names.lookup x.1).map λk=>if (k==NameKind.free&&X.env.scope.kind== .function&&X.env.kindOf x.1==J .cell) then NameKind.cell else k:=iz c.names x.1;rw[h,d x i e,yR]
  split
  .show .inl rfl
  .show .inr rfl
section
def aB{a:c7}{k j:Nat}{x:fC}{st:Stmt}{c:!fC}{p:js}(d:bO X.K X.mg x st c)(F:FnOk X.prog X.w X.K X.mg X.base fJ k d.f d.fd c^aR Z a)(g:cw j X.A)(h:DA Z X (e::es) t)(i:Gl X x<|>zn)(l:k<=j<|>xa)
  (n:eT x<|>zm) (o:eI e es X.env<|>zn) (q:eB pos es X.env<|>zn):
  DE Z X (.Call (.Name x p) (e::es) [] pos)^p5 a t:=QW F (g.mono l) i d.m d.F.kp d.b h n o q
def xJ{n:Nat}{a:c7}{k j:Nat}{x:fC}{st:Stmt}{c:!fC}{p:js}(d:bO X.K X.mg x st c)(F:FnOk X.prog X.w X.K X.mg X.base fJ k d.f d.fd c^lh Z n a)(g:cw j X.A)(h:DA Z X (e::es) t)(i:Gl X x<|>zn)(l:k<=j<|>xa)
  (o:eT x<|>zm) (q:eI e es X.env<|>zn) (r:eB pos es X.env<|>zn):
  DF Z X n (.Call (.Name x p) (e::es) [] pos)^Rq a t:=Q3 F (g.mono l) i d.m d.F.kp d.b h o q r
def pZ(f:Scope)(e:X.env.scope=f<|>zn)(k:d.kind= .function<|>zn)(a:(∀x∈d.names,x.2= .local->d.names.lookup x.1\.local)<|>xx)(b:(∀x∈d.names,x.2≠ .cell)<|>xx)
  (c:(∀x∈d.names,x.2= .free->f.names.lookup x.1\.cell\/f.names.lookup x.1\.free)<|>xx):bG X d:=bG.of f e k a b c
def abd{NC:!Str}(k:f.kind= .function<|>zn)(a:(∀x∈f.names,x.2= .local->f.names.lookup x.1\.local)<|>xx)(b:(∀x∈f.names,x.2≠ .cell)<|>xx)
  (d:(∀x∈f.names,x.2= .free->c.names.lookup x.1\.free)<|>xx):bG (bJ X c NC g s H) f:=bG.nest k a b d
end
section
variable {K:ac} {h:Heap} {mg:Str->Option Value}
abbrev Ve(K:ac)(x:fC)(d:Ad):Prop:=aN K f5 x\(J^.ref d)
abbrev Dg(K:ac)(x a:fC)(st:Stmt)(d:Ad)(b c:Option Ad)(e:Array^Option b_)(f kV g i j k:b_):Prop:=K.lookup d\#[f,b, .func^ce x a (hU st) (dP st) (au st) .none kV g i c j k,e]
def bO.of{x:fC}{st:Stmt}{e:!fC}{d:Ad}{o f:Option Ad}{p:Array^Option b_}{q kV r g n i:b_}(X:K.In h)(G:h.Ns f5 mg)(a:Ve K x d)(l:Dg K x x st d o f p q kV r g n i)(c:bi K n x=L)(k:am K^.ref d=L)
  (b:∀(kV j g:b_)(f:Option Ad)(s i:b_)(m:!b_),m.length=e.length->nt (ce x x (hU st) (dP st) (au st) .none kV j g f s i) #[m,[]]=pure^e.zip m):bO K mg x st e:=
 #[d,_,n9 l c k,(n9 l c k).binds b,On X G a]
def Fs.of{Z:DC}{m e:fC}{st:Stmt}{g:!fC}{d:Ad}{r i:Option Ad}{s:Array^Option b_}{t kV u j q n:b_}(a:ad Z.K (.ref Z.C) m\(J^.ref d))(f:cb Z.K^.ref d=L)(l:Dg Z.K m e st d r i s t kV u j q n)(c:bi Z.K q e=L)(k:am Z.K^.ref d=L)
  (b:∀(kV o j:b_)(i:Option Ad)(v n:b_)(p:!b_),p.length=g.length->nt (ce m e (hU st) (dP st) (au st) .none kV o j i v n) #[p,[]]=pure^g.zip p):Fs Z m e st g:=
 #[d,_,n9 l c k,(n9 l c k).binds b,#[a,f,k]]
end
end L2
namespace Wb
def jw(w:W):Nat:=(w.map cO).sum
theorem vI{r:!Nat}:∀{w:W}{p:Nat},p<w.length->jw^w.set p r+(row w p).length=jw w+r.length
 | [],_,h=>by simp at h
 |a::w,0,_=>by simp[jw,row];lia
 |a::w,p+1,h=>by
  have b:=vI (r:=r) (w:=w) (p:=p)^~~~h
  have e:row (a::w) (p+1)=row w p:=by simp[row]
  rw[e];simp only[jw,List.set_cons_succ,b9,List.sum_cons] at b ⊢;lia
def ON(w:W)(r:!Nat):jw (w++ [r])=jw w+r.length:=by simp[jw]
def OM(h:p<w.length):jw^leaf w p i=jw w+2:=by
 unfold leaf
 have:=vI (r:=ins (row w p) i w.length) h
 rw[Bu] at this;rw[ON];simp;lia
def Q2{w:W}{p i u j:Nat}(a:p<w.length)(c:u<w.length)(ne:u≠p):jw^Ag w p i u j=jw w+2:=by
 unfold Ag;have d:=vI (r:=ins (row w p) i u) a;have b:=vI (w:=w.set p^ins (row w p) i u) (r:=ins (row w u) j p) (p:=u)^~~~c
 rw[j0 a,tz^Ne.symm ne] at b;rw[Bu] at d b;lia
def PD{l c:!Nat}(h:l.Perm c):l.sum=c.sum:=by
 induction h with
 |nil=>rfl
 |cons x _ d=>simp[d]
 |swap x y l=>simp;lia
 |trans _ _ a b=>show a.trans b
def xI(w:W):jw w=((aj w.length).map λp=>(row w p).length).sum:=by
 unfold jw
 congr 1
 apply List.ext_getElem (by simp) λi b c=>?_
 rw[aeN,aeN,HC];have a:i<w.length:=by simpa using b
 have:=JN a
 rw[bT a] at this;rw[Do this]
def Q1{ord:!Nat}(f:a.length=w.length)(d:ord.Perm^aj w.length)(g:∀p,p<w.length->(row a^ord.getD p 0).Perm ((row w p).map λx=>ord.getD x 0)):jw a=jw w:=by
 rw[xI a,f,xI w,<-PD (d.map λp=>(row a p).length)]
 congr 1
 have b:ord.length=w.length:=by rw[d.length_eq,jb]
 apply List.ext_getElem (by simp[b]) λi j h=>?_
 rw[aeN,aeN,HC];have c:i<w.length:=by simpa using h
 have e:ord.getD i 0=ord[i]'(by rw[b];show c):=by rw[cy,bT^by rw[b];show c];rfl
 have:=(g i c).length_eq
 rw[aG,e] at this;show this
def A7(w:W):(bh w).length=jw w:=by
 rw[xI];unfold bh;rw[List.length_flatMap]
 congr 1
 apply zL ?_;intro p _;rw[aG]
def dh(g:Good w):(bh w).Nodup:=by
 unfold bh cv;apply qB (λp _=>?_) ?_
 .rw[gX]
  show(g.nod p).imp λne e=>ne^KB Prod.snd e
 .apply List.Pairwise.imp ?_ aeD
  intro a b lt x c y d e;let#[f,h,rfl]:=bS.mp c;let#[f,h,rfl]:=bS.mp d
  have:=KB Prod.fst e
  simp at this;lia
def b7(w:W):cL (row w) w.length=(bh w).filter λd=>AT (d.1<d.2):=by
 unfold cL bh;rw[List.filter_flatMap]
 congr 1
 funext p
 rw[List.filter_map];rfl
def MK(g:Good w):2*(cL (row w) w.length).length<=jw w:=by
 rw[b7,<-A7];have i:=List.length_eq_countP_add_countP (λd:Nat×Nat=>AT (d.1<d.2)) (l:=bh w)
 have p:((bh w).filter λd=>AT (d.1<d.2)).length<=((bh w).filter λd=>AT (d.2<d.1)).length:=by
  have:=aY (l:=((bh w).filter λd=>AT (d.1<d.2)).map λd=>(d.2,d.1)) (m:=(bh w).filter λd=>AT (d.2<d.1)) ?_ ?_
  .rwa [aG] at this
  .unfold cv
   rw[gX];apply List.Pairwise.imp ?_^(dh g).filter _;intro a b ne e;have j:=KB Prod.fst e;have k:=KB Prod.snd e;show ne^adS k j
  .intro x n
   let#[d,o,rfl]:=bS.mp n;let#[c,f]:=kB.mp o;apply kB.mpr #[ba.mpr^g.sym _ _^ba.mp c,?_];simpa using f
 have q:((bh w).filter λd=>AT (d.2<d.1)).length<=(bh w).countP λd=>not^AT (d.1<d.2):=by
  rw[<-afk];apply List.countP_mono_left ?_;intro d _ h;simp at h ⊢;lia
 rw[afk] at i
 have r:(bh w).countP (λd=>not^AT (d.1<d.2))=List.countP (λa=>decide ¬(AT (a.1<a.2)=L))^bh w:=by
  congr 1
  funext d
  by_cases h:d.1<d.2<;>simp[h]
 lia
structure RI (w:W) (bs:!Bool) (ws ex:!Nat) (c:Nat):Prop where
 len:bs.length=w.length
 z:bs[0]?\L
 wt:∀x∈ws,bs[x]?\L
 cl:∀x,bs[x]?\L->x∈ws\/x∈ex\/∀q∈row w x,bs[q]?\L
 cnt:bs.count At+ws.length<=c
def RI.pop(h:RI w bs (b++ [p]) [] (c+1)):RI w bs b [p] c:=
 #[h.len,h.z,λx a=>h.wt x^kq _ a,λx a=>by
  rcases h.cl x a with q|q|q
  .rcases cM.mp q with q|q
   .show .inl q
   .show .inr^.inl q
  .cases q
  .show .inr^.inr q,by have:=h.cnt;rw[dj] at this;simp at this;lia]
def RI.push(h:RI w bs f g c)(j:bs[q]?\At):RI w (bs.set q L) (f++ [q]) g c:=by
 let#[b,i]:=cV.mp j
 have d:∀x,bs[x]?\L->(bs.set q L)[x]?\true:=λx a=>by
  rw[kA]
  by_cases e:q=x
  .rw[mo e,mo b]
  .rw[tz e];show a
 apply#[by rw[fI];show h.len,d _ h.z,λx a=>?_,λx a=>?_,?_]
 .rcases cM.mp a with z|z
  .show d _^h.wt x z
  .have:x=q:=by simpa using z
   rw[this,kA,mo rfl,mo b]
 .by_cases e:q=x
  .show .inl^by rw[e];simp
  .rw[kA,tz e] at a
   rcases h.cl x a with z|z|z
   .show .inl^kq _ z
   .show .inr^.inl z
   .show .inr (.inr λy k=>d _^z y k)
 .have l:=h.cnt
  have:0<bs.count false:=List.count_pos_iff.mpr^by rw[<-i];show j5 b
  rw[afl b,i,dj];simp;lia
def RI.close(h:RI w bs a [p] c)(b:∀q∈row w p,bs[q]?\L):RI w bs a [] c:=
 #[h.len,h.z,h.wt,λx d=>by
  rcases h.cl x d with q|q|q
  .show .inl q
  .have:x=p:=by simpa using q
   rw[this];show .inr^.inr b
  .show .inr^.inr q,h.cnt]
def RI.all(g:Good w)(h:RI w bs [] [] c):bs=ak w.length true:=by
 have:=HZ g (S:=λx=>bs[x]?\L) h.z λp q b d=>by
  rcases h.cl p b with z|z|z
  .cases z
  .cases z
  .show z q d
 apply nN λi=>?_
 by_cases a:i<w.length
 .rw[this i a,zI,mo a]
 .rw[eF^by rw[h.len];lia,eF^by simp;lia]
structure D9 (w:W):Prop where
 rng:∀p q,q∈row w p->q<w.length
 irr:∀p,p∉row w p
 nod:∀p,(row w p).Nodup
 sym:∀p q,q∈row w p->p∈row w q
def Good.near(g:Good w):D9 w:=#[g.rng,g.irr,g.nod,g.sym]
def D9.good(n:D9 w)(h:∀p,p<w.length->Reach w 0 p):Good w:=#[n.rng,n.irr,n.nod,n.sym,h]
end Wb
namespace L2
open PySem PySem.Spec PySem.Calls PyProof.Rows PySem.W
section
def XG(X:Cx)(f:TE):TS:=λ_ b H=>f b H λv c=>∃a C d,v= .ref a/\c a\(xD C a d)/\oY X.K C/\mroIn X.K C^.type "BaseException"\L/\Nc X b (upd c a^mQ C a d) a
def PL(y:X.calm=L)(B:PE X e te):PS X (.Raise (J e) V pos)^XG X te:=by
 intro c s m H D I h;rw[arm_exec_Raise];apply a_^nq ?_;simp only[show ∀e v,evalOpt (J e) v=J (gj e v) from λ_ _=>rfl,Option.map];unfold raiseStmt;apply a_^a_ (thn (B c s m H _ I h) λu f hH=>?_);let#[v,E,l,F,a,C,d,ev,n,G,j,q]:=hH;apply a_^nq^gm ?_;subst ev;obtain rfl:u=Value.ref a:=F;let#[t,k]:=Ax l.hok n;let#[Y',Z,N,bs,J',p,sn,sub,ab,L',dd,r,k1,k2,k3,k5,w,cB,cA,cN]:=G.obj;have i:=l.fi _ _ w
 have M:(Value.ref C::J').contains^.type "BaseException"=true:=by
  unfold mroIn clsIn at j;rw[w] at j;simpa using j
 have O:Inv X c m (upd E a^mQ C a d) f:=by
  apply af λG0 r=>?_;have P:=l.write (x:=a) (e:=a) (o:=mQ C a d) (h':=f.heap) (t':=f.toks) (by rw[n];show True.intro) (.inl rfl) (λb u j q=>q) #[_,k]^Ru (tb:= .none) k
  let#[Q,g,R,S,os]:=f;apply r ?_;show P
 have T:X.xe (.ref a) f:=q f O.QH #[C,t, .none,d,ah,k, .inl rfl];have U:X.A.handled=none:=I.ok.hd y;let#[Q,g,R,S,os]:=f
 repeat (first|with_reducible refine h_ k ?_|with_reducible refine h_ i ?_| (with_reducible refine il i ?_;rw[M]) |wp_step)
 show wpAny_raiseNew_none U T
end
section
def Zl(X:Cx)(b:St):XK:=λe _ c=>∃a,e= .ref a/\Nc X b c a
theorem Um{pins:!(Ad×Obj)}{σ:St}{H:Hp}{s:c_}{Q:VK}{us:!b_}{vs:!V'}(F:FnOk X.prog X.w X.K X.mg X.base (Az X.prog X.w) k f fd ps sp)(hr:cw k X.A)(hb:Binds X.K fd ps [])
  (I:Inv X pins σ H s) (r:Vals vs us) (h:sp vs H Q^Zl X σ):e_ (ei X.prog X.w) X.A (call (.ref f) us) (EP X pins σ Q) X.xe s:=by
 have hl:(us++ []).length=ps.length:=by rw[fB,<-r.length];show F.len _ _ _ _ h
 have Lc:=hb s us I.fi hl;rw[fB] at Lc;apply k_ (lO (F.run X.A X.stack s H #[us,[]] us vs Q (Zl X σ) hr I.Nw Lc r h) λr s' hq=>?_);cases r with
 |error e=>
  rfl';let#[a,H',rfl,fl,a',ea,q]:=hq;cases ea;let#[I2,f2]:=VO I fl;ac_rfl;show q s' I2 f2
 |ok fl=>
  cases fl with
  |ret u=>show I.after hq
  |next=>show False.elim hq
  |brk=>show False.elim hq
  |cont=>show False.elim hq
def Oe(X:Cx)(b:Sp)(t:TA):TE:=λa H Q=>t a H λc d=>b c d Q^Zl X a
def Pw(F:FnOk X.prog X.w X.K X.mg X.base (Az X.prog X.w) k f fd ps sp)(c:cw k X.A)(d:Gl X x)(g:X.mg x\(.ref f))(i:am X.K^.ref f=L)(j:Binds X.K fd ps [])
  (l:PA X (e::es) t) (n:eT x<|>zm) (u:eI e es X.env<|>zn) (v:eB pos es X.env<|>zn):
  PE X (.Call (.Name x p) (e::es) [] pos)^Oe X sp t:=by
 intro a s y H Q I h;apply adv^lb I d g ?_ n;apply aeb (h₀:=X.base) I.ok.mod.kin i (thn (l pos a s y H _ I h) λB E hH=>?_) u v;let#[G,J',b,r,q]:=hH;apply #[b.fi,?_];show Um F c j b r q
end
section
theorem vR(I:Inv X pins σ H s)(O:X.N.Nodup)(F:X.N[i]?\x)(P:X.env.scope.names.lookup x\.local)
  (h:∀G,Inv X pins (σ.set i V) H G->Q ⟨⟩ G):e_ M A (do bindName X.env x .none;unbindBehindTheSuite X.env x u) Q E s:=by
 let#[m,J',R]:=id I.loc;have S:(X.env.scope.kind== .class|| (X.env.scope.kind== .module&&X.env.locals !=X.env.globals))=false:=by rw[I.ok.kind];rfl
 have T:i<σ.length:=by rw[I.len];show(cV.mp F).1
 have AY:=I.AY;apply wpAny_nameGoes_keeps P J' S λU v Y' f=>?_;rfl';let#[oL,D,K,Bp,V']:=id J';ac_rfl
 have a:iB X.prog X.w H U:=λb ob e=>by
  apply(I.hok b ob e).pG (λc L' r q=>(f.2 c ?_).trans q) (λ_ q=>q) λ_ _ q=>q;rintro rfl
  rcases r with rfl|r
  .rw[I.free] at e;cases e
  .rw[I.free] at r;cases r
 apply h _ #[I.ok,I.os,I.bare,#[λb o e n B l=>?_,λb o e n B l=>?_,I.base.free,λb o e l=>?_,I.base.tups,I.base.frzs,I.base.tbls],#[_,Y',λj y v' g t e3=>?_],λy c e=>?_,I.free,I.freeC,λp hp=>?_,a,by simpa using I.len]
 .show(f.2 b^bP^cZ (Da e) I.ok.above).trans^I.base.keep b o e n B l
 .obtain⟨sl,g⟩:=I.base.slot b o e n B l
  show#[sl,(f.2 b^bP^cZ (Da e) I.ok.above).trans g]
 .obtain⟨o',g⟩:=I.base.there b o e l
  show#[o',(f.2 b^bP^cZ (Da e) I.ok.above).trans g]
 .by_cases C:j=i
  .subst C
   rw[l9 T] at t;cases Do t
  .rw[kr^Ne.symm C] at t
   let#[u',r',q]:=R j y v' g t e3;exists u',r'
   rcases q with ⟨k,e⟩ | ⟨k,c,e,z⟩
   .apply .inl #[k,?_]
    have:y≠x:=λe=>C^yr O g (e▸F)
    simp[this,e]
   .show .inr #[k,c,e,z.sameBut f^AY y c e]
 .obtain⟨L',z⟩:=I.cell y c e
  show#[L',z.sameBut f^AY y c e]
 .obtain⟨e,n,ne,nf,d⟩:=I.pin p hp
  show#[(f.2 p.1 ne).trans e,n,ne,nf,d]
def II{K:ac}{C:Ad}{b:Value}{r:Bool}{f q:Str}{N:Ad}{bs e:!Value}{g:Bool}{h:!Str}{sub:!Value}{i:Bool}{c:Option Bool}{j:Option Ad}{k l m n o:Option Value}{a:String}
  (p:K.lookup C\(excClassObj f q C N bs e g h sub i c j k l m n o a)) (d:mroIn K C b\r):(Value.ref C::e).contains b=r:=by
 unfold mroIn clsIn at d;rw[p] at d;simpa using d
def Rp{M:Model}{A:gs}{E:b_->c_->Prop}{Q:Bool->c_->Prop}{K:ac}{a C e t:Ad}{j:b_}{d:Option Ad}{b:Bool}(X:K.In s.heap)(k:s.heap.get? a\(jS C t j d))(l:oY K C)(m:oY K e)(n:mroIn K e^.type "BaseException"\L)(o:mroIn K C^.ref e\b)
  (h:Q b s):e_ M A (excMatches (.ref a)^.ref e) Q E s:=by
 let#[T,U,N,bs,Y',Z,H,sub,ab,p,dd,k0,k1,k2,k3,k5,i,z]:=l.obj;let#[q,r,N',u,v,w,x,y,B,F,G,I,J',L',O,P,c,z]:=m.obj;have R:=II i o;have S:=II c n
 replace i:=X _ _ i
 replace c:=X _ _ c
 have f:=tc_notTuple;let#[hp,g,dr,tk,os]:=s;unfold excMatches
 repeat (first|with_reducible refine h_ k ?_|with_reducible refine h_ c ?_| (with_reducible refine il c ?_;rw[S]) | (with_reducible refine il i ?_;rw[R]) |wp_step)
 cases b<;>(wp_walk;show h)
end
abbrev Cx.vV(X:Cx)(a:Ad):Cx:={X with A:=X.A.mark^J^.ref a,calm:=At,xe:=λ_ _=>False}
abbrev Cx.tr(X:Cx)(pn:!(Ad×Obj))(E:Value->Shared->Prop):Cx:={X with pn:=pn,xe:=E}
section
theorem Inv.vV(I:Inv X pins σ H s)(a:Ad):Inv (X.vV a) pins σ H s:=
 #[#[I.ok.mod,I.ok.kind,I.ok.glob,I.ok.blt,I.ok.above,I.ok.inj,I.ok.has,I.ok.cab,(λz=>nomatch z),I.ok.frames,I.ok.stk,I.ok.exf,I.ok.bs,I.ok.bsz,I.ok.noex,I.ok.exfs,I.ok.funs,I.ok.frf],I.os,I.bare,I.base,I.loc,I.cell,I.free,I.freeC,I.pin,I.hok,I.len]
def Inv.Hg(ok:X.Ok)(I:Inv (X.vV a) pins σ H s):Inv X pins σ H s:=#[ok,I.os,I.bare,I.base,I.loc,I.cell,I.free,I.freeC,I.pin,I.hok,I.len]
theorem Inv.tr(I:Inv X pins σ H s)(E:b_->c_->Prop):Inv (X.tr (X.pn++pins) E) [] σ H s:=
 #[#[I.ok.mod,I.ok.kind,I.ok.glob,I.ok.blt,I.ok.above,I.ok.inj,I.ok.has,I.ok.cab,I.ok.hd,I.ok.frames,I.ok.stk,I.ok.exf,I.ok.bs,I.ok.bsz,I.ok.noex,I.ok.exfs,I.ok.funs,I.ok.frf],I.os,I.bare,I.base,I.loc,I.cell,I.free,I.freeC,λp b=>I.pin p^by rw[fB] at b;show b,I.hok,I.len]
def Inv.Ke(ok:X.Ok)(I:Inv (X.tr (X.pn++pins) E) [] σ H s):Inv X pins σ H s:=#[ok,I.os,I.bare,I.base,I.loc,I.cell,I.free,I.freeC,λp b=>I.pin p^by rw[fB];show b,I.hok,I.len]
def FO{X:Cx}(f:AB X H s a)(h:Q ⟨⟩ s):e_ M A (m_ (.ref a) V) Q E s:=by
 rfl';let#[C,t,l,d,i,c,b]:=f;ac_rfl
 rcases b with rfl| ⟨T,rfl,_,_,_,_,_,o,j,e,g,b⟩
 .unfold m_
  apply a_^adL (x:= .none) c rfl rfl ?_;rw[tz ∅]
  show ir h
 .apply wpAny_setFlight_none c rfl rfl e g (C1.mp b).1 ?_
  rw[Heap.update_setField_same _ _ o j 3 .none e g b];show h
end
def abD:Option Nat->Ends->Ends
 |none,D=>D
 |some i,D=>{nx:=λa H=>D.nx (a.set i V) H,rt:=D.rt,bk:=λa H=>D.bk (a.set i V) H,ct:=λa H=>D.ct (a.set i V) H}
def acU:Option Nat->Ad->St->St
 |none,_,b=>b
 |some i,a,b=>b.set i^J^.ref a
abbrev Qv:=!(Ad×Option Nat×(Ad->TS))
def He(K:ac):Qv->Ends->St->Hp->Ad->Ad->Prop
 | [],_,_,_,_,_=>False
 | (d,n,e)::r,D,c,H,a,C=>∃b,mroIn K C^.ref d\b/\if b=L then e a (abD n D) (acU n a c) H else He K r D c H a C
def PH(X:Cx)(e:!ExceptHandler)(l:Qv):Prop:=
 ∀(b:!(Ad×Obj))(c:St)(H:Hp)(s:Shared)(a C:Ad)(d:Option Ad)(D:Ends),Inv X b c H s->AB X H s a->H a\(mQ C a d)->oY X.K C->He X.K l D c H a C->wpAny (model X.prog X.w) X.A (handleBy (.ref a) X.env e) (SP X b D) X.xe s
section
def W3:PH X [] []:=λ_ _ _ _ _ _ _ _ _ _ _ _ h=>h.elim
def Rt{h:Heap}(e:mQ C a d=mQ f a i)(g:h.get? a\(jS C t b d)):C=f:=by
 have:=KB (λo=>match o with|HO.ext k=>k h|_=>True) e
 have m:∃t b,h.get? a\(jS f t b i):=by
  have:(∃t b,h.get? a\(jS C t b d))=(∃t b,h.get? a\(jS f t b i)):=this
  rw[<-this];show#[t,b,g]
 let#[r,q,j]:=m;rw[g] at j;cases j;rfl
theorem aaE(i:Nat)(hN:X.N.Nodup)(hi:X.N[i]?\n)(hk:X.env.scope.names.lookup n\.local)(hg:Gl X c)(hm:X.mg c\(.ref Cm))(xm:oY X.K Cm)(tZ:mroIn X.K Cm^.type "BaseException"\L)(hs:∀a,kE (X.vV a) (HW::CC)^th a)(hr:PH X rest l)(fV:eT c<|>zm):
  PH X (.ExceptHandler (J^.Name c p) (J n) (HW::CC) pos::rest) ((Cm,J i,th)::l):=by
 intro pins σ H s a C d D I fl ha xc h;rfl';let#[C',t,tb,d',h1,h2,h3]:=id fl;have eC:C'=C:=Rt (Option.some.inj^h1.symm.trans ha) h2;subst eC;let#[b,hb,h]:=h;ac_rfl;apply wpAny_handleBy_cons (codeAny_handlers_test (io (lb (I.vV a) hg hm ?_ fV) (λ_ _ x=>x) λ_ _ z=>z))^by intro q;cases q
 apply Rp I.fi h2 xc xm tZ hb ?_;cases b with
 |false=>show hr pins σ H s a C' d D I fl ha xc h
 |true=>
  apply codeAny_handlers_suite_as^FO fl ?_;apply kR (X:=X.vV a) (v:= .ref a) (I.vV a) hN hi (.inl hk) rfl (λs1 I1=>?_)^.inr hk;apply io (hs a pins s1 _ H _ I1 h) (λf s2 q=>?_) λ_ _ z=>z.elim;cases f with
  |next=>let#[aA,H',I',q]:=q;show vR (I'.Hg I.ok) hN hi hk λs3 I3=>#[_,H',I3,q]
  |brk=>let#[aA,H',I',q]:=q;show vR (I'.Hg I.ok) hN hi hk λs3 I3=>#[_,H',I3,q]
  |cont=>let#[aA,H',I',q]:=q;show vR (I'.Hg I.ok) hN hi hk λs3 I3=>#[_,H',I3,q]
  |ret u=>let#[v,aA,H',I',r,q]:=q;show vR (I'.Hg I.ok) hN hi hk λs3 I3=>#[v,_,H',I3,r,q]
def ac8(X:Cx)(g:!(Ad×Obj)->(Value->Shared->Prop)->TS)(h:TS)(l:Qv):TS:=λD i H=>∀e E,(∀f b a C d,b a\(mQ C a d)->oY X.K C->He X.K l D f b a C->Nc (X.tr e E) f b a)->g e E {D with nx:=h D} i H
theorem W8{body orelse:!Stmt}{h₀:jX}{hs:!jX}{tb:!(Ad×Obj)->(b_->c_->Prop)->TS}{to:TS}(lP:X.stack=X.env::X.outer)(Sg:X.env.frame\X.env.locals)
  (hb:∀pn E,kE (X.tr pn E) body^tb pn E) (ho:kE X orelse to) (hh:PH X (h₀::hs) l):PS X (.Try body (h₀::hs) orelse [] pos)^ac8 X tb to l:=by
 intro pins s σ H D I h;apply wpAny_Try_except ?_
 let E':b_->c_->Prop:=λe s₁=>e_ (ei X.prog X.w) X.A (mN e X.env) (λ_ Fe=>e_ (ei X.prog X.w) X.A (m_ e V) (λ_ wZ=>e_ (ei X.prog X.w) X.A (handleBy e X.env (h₀::hs)) (SP X pins D) X.xe wZ) X.xe Fe) X.xe s₁
 have hw:=h (X.pn++pins) E' λaA H' a C d h1 h2 h3=>by
  intro s1 I1 f1;apply EK (X:=X.tr (X.pn++pins) E') lP Sg I1 f1 λs2 I2 f2=>?_;rfl';have I2':=I2.Ke I.ok;let#[C',t,tb,d',g1,g2,g3]:=f2;ac_rfl;apply hh pins aA H' s2 a C d D I2' #[C',t,tb,d',g1,g2,g3.imp id λhH=>?_] h1 h2 h3;let#[T,e1,e2,e3,e4,e5,e6]:=hH;apply #[T,e1,e2,e3,e4,λp hp=>e5 p^kq _ hp,e6]
 apply io (hb _ E' [] s σ H _ (I.tr E') hw) (λf s1 q=>?_) λ_ _ z=>z;cases f with
 |next=>let#[aA,H',I',q]:=q;show ho pins s1 aA H' D (I'.Ke I.ok) q
 |brk=>let#[aA,H',I',q]:=q;show#[aA,H',I'.Ke I.ok,q]
 |cont=>let#[aA,H',I',q]:=q;show#[aA,H',I'.Ke I.ok,q]
 |ret u=>let#[v,aA,H',I',r,q]:=q;show#[v,aA,H',I'.Ke I.ok,r,q]
end
abbrev Fo:=!D->(D->Prop)->(D->Prop)->Prop
def lj(Z:DC)(f:Fo):Sp:=λg H Q E=>∃(G:Hp)(e:!D)(P R:D->Prop),aE G H/\DvAll Z G g e/\f e P R/\(∀d,P d->∀v b c,Ext G H b c->Dv Z b v d->Q v c)/\∀d,R d->∀a b c,Ext G H b c->Dv Z b (.ref a) d->E (.ref a) V c
section
variable {K : ac}
def vB.okX{x a:fC}{st:Stmt}{f:Ad}{g:hQ}{N d:!fC}{k:Nat}{e:Sp}{h:sA}(F:vB K x a st f g)(S:aF N d^au st)(len:∀b H Q E,e b H Q E->b.length=d.length)
  (i:∀(c:b_)(A:gs)(outer:!nQ)(s:c_)(H:Hp)(b:!V')(Q:VK)(E:XK),cw k^A.deeper^lr a (au st) s.heap.objs.size f c->e b H Q E->
   ∃t,kE (kZ h P w K mg base N a (au st) f c A outer s H E) (dP st) t/\t {nx:=λ_ j=>Q .aT j,rt:=Q} (start N b) H):FnOk P w K mg base h (k+1) f g d e:=by
 rfl';let#[u,v,kV,m,y,B,c,C,G,rfl,n,o]:=F.ex;ac_rfl;show Rw n o S len λA outer s H b Q E p q=>i c A outer s H b Q E p q
theorem xP{x b:fC}{st:Stmt}{f:Ad}{B:hQ}{N m:!fC}{k:Nat}{p:Fo}(F:vB K x b st f B)(S:aF N m^au st)(C:!Nat)(J':∀i,i<m.length->C.getD i 0=0)(len:∀c P R,p c P R->c.length=m.length)
  (L':∀(n:b_)(A:gs)(outer:!nQ)(s:c_)(H:Hp)(E:XK)(c:!D)(R g:D->Prop),cw k^A.deeper^lr b (au st) s.heap.objs.size f n->p c R g->
   ∃t,mO Z (kZ (Az P w) P w K mg base N b (au st) f n A outer s H E) C 0 (dP st) t/\t {nx:=λ_=>R .aT,rt:=R,xc:=λ_ d=>g d}^oR N c):FnOk P w K mg base (Az P w) (k+1) f B m^lj Z p:=by
 apply F.okX S (λM H Q E h=>?_)^λn A outer s H M Q E O h=>?_
 .obtain⟨G,c,R,g,s,dv,h,q⟩:=h
  rw[dv.length];show len _ _ _ h
 rfl';let#[G,c,R,g,U,dv,h,q,X]:=h;let#[t,Y',hq]:=L' n A outer s H E c R g O h;have hl:=len _ _ _ h;ac_rfl;apply#[_,Y',#[G,H,G],_,_,#[G,λ_=> [],?_],hq,#[λρ V8 aA j #[l,fp,r]=>q _ V8 _ l j r.ex .aT,λd u v f l j x o nd nw=>q d u v l j x o.1,λ_ z=>z.elim,λ_ z=>z.elim,λρ d u aA j l fp a r y s2 I2 f2=>Rv I2 f2^X d u a l j r.ex y]];apply#[.refl U, .refl _,by unfold oR start;simp[dv.length],λi d e=>?_,λ_=>ju,(λ_ _ _ _ z=>by cases z),(λ_ _ z=>by cases z)]
 unfold oR at e
 have I:i<c.length:=by
  apply FS ?_;intro z;rw[ko^~~~lI z,zI] at e
  split at e<;>cases e
 rw[jj^~~~I,dF] at e
 have jA:c[i]?\d:=by
  cases z:c[i]? with
  |none=>rw[z] at e;cases e
  |some d'=>rw[z] at e;cases e;rfl
 let#[v,hv,y]:=dv.get jA;apply#[v,?_,by rw[J' i ()];show#[y,Y]]
 unfold start;rw[jj^by simpa [dv.length] using I,dF,hv];rfl
end
section
variable {Z:DC} {X:Cx} {md:!Nat} {rn:Nat} {st:Stmt} {Cz:!Stmt} {t:gF} {e x1 y1:Expr} {es:!Expr} {tx ty:bb} {sd:Fo} {k j:Nat} {x:Str} {ps:!Str} {p pos bp:Pos}
def Vs(b:!Nat)(c:Fo)(t:gF)(K:fD->DN->D->Prop):cW:=λE a=>t (dO b a) λd=>c d (K E a)^E.xc a
def HX{B:Bs}{b:DN}{g:St}{H G:Hp}{i:Nat->!Ad}{E:fD}{r:Ends}{K:D->Prop}{Q:VK}(S:SIx Z B md b g H G i)(h:t (dO md b) λl=>sd l K^E.xc b)(M:Meets Z X B md rn E r)
  (q:∀d,K d->∀v c f,SIx Z B md b g f c i->Dv Z c v d->Q v f):Oe X (lj Z sd) (Gp Z t) g H Q:=by
 apply#[G,_,_,S.ex.sub,S.El,h,λl s y u A n w=>?_];have o:=S.grow n;show#[u,l,K,E.xc b,n.sub,w,s,λd m v c f x dv=>q d m v c f (o.grow x) dv,λd m a c f x dv=>#[a,Y,M.xc b d m g f c i a (o.grow x) dv]]
def rL(d:bO X.K X.mg x st ps)(F:FnOk X.prog X.w X.K X.mg X.base (Az X.prog X.w) k d.f d.fd ps^lj Z sd)(c:cw j X.A)(g:DA Z X (e::es) t)(i:Gl X x<|>zn)(l:k<=j<|>xa)
  (n:eT x<|>zm) (o:eI e es X.env<|>zn) (q:eB bp es X.env<|>zn) (r:hB (.Call (.Name x p) (e::es) [] bp) V pos.line X.env=pure At<|>zn):
  DSt Z X md rn (.Expr (.Call (.Name x p) (e::es) [] bp) pos) (Vs md sd t λE a _=>E.nx a):=by
 apply(dD (Pw F (c.mono l) i d.m d.F.kp d.b g n o q) r).imp ?_;intro D L' H s;rfl';obtain⟨B,a,E,⟨G,y,S⟩,h,M⟩:=s;ac_rfl;show HX S h M λd C v I O J' dv=>M.nx _ C _ _ #[I,y,J']
structure XE (K:ac) (C:Ad):Prop where
 cls:kj K C
 obj:oY K C
def Rn:Option Nat->fD->fD
 |none,E=>{E with xc:=λ_ _=>False}
 |some i,E=>{nx:=λa=>E.nx^a.set i V,rt:=E.rt,bk:=λa=>E.bk^a.set i V,ct:=λa=>E.ct^a.set i V}
def Ur:Option Nat->D->DN->DN
 |none,_,a=>a
 |some i,d,a=>a.set i^J d
abbrev Fp:=!(Ad×Option Nat×cW)
def Zz(K:ac)(C:Ad):Fp->fD->DN->D->Prop
 | [],_,_,_=>False
 | (c,n,f)::r,E,a,d=>∃b,cr K C^.ref c\b/\if b=L then f (Rn n E)^Ur n d a else Zz K C r E a d
def Zy(K:ac)(l:Fp)(E:fD)(a:DN):D->Prop
 | .err C b c=>oY K C/\Zz K C l E a^.err C b c
 |_=>False
def abw(K:ac)(tb a:cW)(l:Fp):cW:=λE b=>tb {E with nx:=a E,xc:=Zy K l E} b
def SIx.drop{i:Nat}(S:SIx Z B md a d H G f):SIx Z B md (a.set i V) (d.set i V) H G f where
 ex:=S.ex
 fl:=S.fl
 len:=by rw[fI,fI];show S.len
 at_:=λj c h=>by
  by_cases z:i=j
  .subst z
   by_cases b:i<a.length
   .rw[l9 b] at h;cases h
   .rw[Fl^lI b,eF^lI b] at h;cases h
  .rw[kr z] at h ⊢
   show S.at_ j c h
 nd:=S.nd
 ap:=S.ap
 nw:=S.nw
def YF(Z:DC)(X:Cx)(b:!Nat)(d:Nat)(l:Fp):Qv:=l.map λc=>(c.1,c.2.1,λa=>ot Z (X.vV a) b d c.2.2)
def okH(a:!Nat)(l:Fp):Prop:=∀c∈l,∀i,c.2.1\i->a.getD i 0=0
def DHs(Z:DC)(X:Cx)(a:!Nat)(b:Nat)(c:!jX)(l:Fp):Prop:=PH X c^YF Z X a b l/\okH a l
theorem Ex{B:Bs}{E:fD}{s:Ends}(M:Meets Z X B md rn E s){q:DN}{u:St}{H G:Hp}{v:Nat->!Ad}(S:SIx Z B md q u H G v){a C:Ad}{d:D}(dv:Dv Z G (.ref a) d){K:ac}:∀(l:Fp),okH md l->Zz K C l E q d->He K (YF Z X md rn l) s u H a C
 | [],_,h=>h
 | (L',n,F)::r,ok,#[b,I,h]=>by
  exists b,I;cases b with
  |false=>show c8^Ex M S dv r (λc J'=>ok c^eS _ J')^h
  |true=>
   have h:F (Rn n E)^Ur n d q:=h;apply cX ?_;cases n with
   |none=>show#[B,q,_,#[G,v,S],h,#[M.nx,M.rt,M.bk,M.ct,λ_ _ z=>z.elim]]
   |some i=>
    apply#[B,_,_,#[G,_,S.qY (ok _ (c5 ..) i rfl) dv],h,#[λw f y A #[g,m,o]=>M.nx _ f _ _ #[g,m,o.drop],M.rt,λw f y A #[g,m,o]=>M.bk _ f _ _ #[g,m,o.drop],λw f y A #[g,m,o]=>M.ct _ f _ _ #[g,m,o.drop],λ_ _ z=>z.elim]]
def Nq(v:∀g E,mO Z (X.tr g E) md rn c tb)(w:mO Z X md rn b o)(q:DHs Z X md rn (f::n) l)(y:X.stack=X.env::X.outer<|>zn)(A:X.env.frame\X.env.locals<|>zn):
  DSt Z X md rn (.Try c (f::n) b [] pos)^abw X.K tb o l:=by
 refine(W8 (tb:=λg E=>ot Z (X.tr g E) md rn tb) y A v w q.1).imp ?_;intro Q R H F g T I;rfl';let#[B,L',E,S,h,M]:=F;ac_rfl;refine#[B,L',_,S,h,#[λr N s u i=>#[B,r,E,i,N,M],M.rt,M.bk,M.ct,λr d m s u G Y' a i dv=>?_]];cases d<;>first|exact False.elim m|skip
 rename_i C e j
 have O:=dv;cases dv with
 |err P k p=>show I s u a C _ (i.ex.sub _ _ P) m.1^Ex M i O l q.2 m.2
def Nj:DHs Z X md rn [] []:=#[W3,λc a=>by cases a]
def KP(i:Nat)(g:X.N.Nodup)(h:X.mg c\(.ref Cm))(d:XE X.K Cm)(m:∀a,mO Z (X.vV a) md rn (o::CC) th)(f:DHs Z X md rn rest l)(q:Gl X c<|>zn)(r:eT c<|>zm)(s:X.N[i]?\n<|>zn)(u:X.env.scope.names.lookup n\.local<|>zn)(v:md.getD i 0=0<|>zn):
  DHs Z X md rn (.ExceptHandler (J^.Name c p) (J n) (o::CC) pos::rest) ((Cm,J i,th)::l):=
 #[aaE i g s u q h d.obj d.cls.be m f.1 r,λc b=>by
  rcases bQ.mp b with rfl|b
  .intro i z;cases z;show v
  .show f.2 c b]
end
section
variable {X:Cx}
def Iw(hok:iB P w H h)(e:H a\(mQ C a b))(k:HE H b c d):∃f b,PySem.W.InstAt h a f C b:=by
 let#[t,j,e]:=NB hok e
 rcases k with ⟨rfl,_,_⟩ | ⟨l,rfl,g,_⟩
 .show#[_,V,e,Y,Y,trivial]
 .obtain⟨_,m,⟨o,_,_,i,_⟩,_⟩:=Hn hok g
  show#[_,J o,e,Y,Y,i]
structure Oy (K:ac):Prop where
 hn:bv K (.builtin "object.__class__") "__get__"\(J^.builtin "getset_descriptor.__get__")
 htk:dz K^.builtin "object.__class__"\L
theorem Dl(i:Oy X.K):
  CallR X (.builtin "isinstance") (λg H Q=>∃(a C:Ad)(f:Option Ad)(j:!Str)(k:!V')(c:V')(d:Value)(b:Bool),g= [.ref a,c]/\H a\(mQ C a f)/\HE H f j k/\kj X.K C/\HD c d/\b5 X.K (.ref C) d\b/\Q (.bl b) H):=by
 intro l s B H g E Q I o h;rfl';let#[a,C,f,j,k,c,d,b,rfl,r,t,u,v,e,q]:=h;let#[G,w,rfl,x,m]:=o.two;subst x;let#[L',y,J']:=Iw I.hok r t;ac_rfl
 have A:w=d:=by
  cases v with
  |own D=>show m
  |blt n=>show m
 subst A;show UV (EG u i.hn i.htk) I.fi J' e (λz=>nomatch z) λM=>#[.bl b,H,I.tok _,Y,q]
inductive tP:!V'->!Value->Prop where
 |nil:tP [] []
 |cons {c:V'} {cu:Value} {cs:!V'} {tT:!Value}:HD c cu->tP cs tT->tP (c::cs) (cu::tT)
theorem tP.vals:∀{c:!V'}{d e:!Value},tP c d->Vals c e->e=d:=by
 intro c d e h;induction h generalizing e with
 |nil=>intro h;cases h;rfl
 |cons a b I=>
  intro h;cases h with|cons r t=>
  rw[I t];cases a with
  |own D=>rw[show _=Value.ref D from r]
  |blt n=>rw[show _=Value.type n from r]
def AQ(i:Oy X.K):
  CallR X (.builtin "isinstance") (λk H Q=>∃(a C c:Ad)(d:Option Ad)(l:!fC)(m f:!V')(g:!b_)(b:Bool),k= [.ref a, .ref c]/\H a\(mQ C a d)/\HE H d l m/\kj X.K C/\H c\(.tup f)/\tP f g/\dc X.K (.ref C) g\b/\Q (.bl b) H):=by
 intro p s O H k P Q I j h;rfl';let#[a,C,c,d,l,m,f,g,b,rfl,v,x,y,A,B,e,q]:=h;let#[S,T,rfl,E,F]:=j.two;subst E;subst F;let#[U,G,J']:=Iw I.hok v x;let#[u,L',j,o,M,r,n,t]:=(show bR X.prog X.w H s.heap c^.tup f from I.hok c _ A);have N:=B.vals j;subst N;let#[Y',d,Z,sl]:=o;ac_rfl;dsimp only at r t;subst r t;show PySem.W.kia_tup (EG y i.hn i.htk) I.fi J' M e (λz=>nomatch z) λtk=>#[.bl b,H,I.tok _,Y,q]
end
section
def Vv(K:ac)(e:b_)(t:bb):bb:=λf P=>t f λd=>match d with
 | .err C _ _=>kj K C/\∃b,b5 K (.ref C) e\b/\P^.bl b
 |_=>False
def xG{K:ac}{f:V'}{g:b_}(i:Oy K)(o:HD f g)(j:PE X c^tC f)(r:DE Z X a ta)(t:Gl X "isinstance")(u:X.mg "isinstance"=V)(m:d_ [a,c] X.env=(At,gj a X.env)::d_ [c] X.env<|>zn)
  (w:eB pos [c] X.env<|>zn) (x:eI c [] X.env<|>zn) (y:X.K=K<|>zn):
  DE Z X (.Call (.Name "isinstance" p) [a,c] [] pos)^Vv K g ta:=by
 subst y;apply(dJ (Dl i) t u (by nofun) (ar r (ar j aC x) m) ∅ ∅ m w).imp ?_
 intro U H Q A;rfl';let#[G,E,P,s,e,h,q]:=A;ac_rfl;refine#[G,E,_,s,e,h,λd n v F I l dv=>?_];cases dv<;>first|exact n.elim|skip
 rename_i a C J' L' M Y' N O h3
 rfl';let#[R,b,S,T]:=n;ac_rfl;show#[a,C,J',L',M,f,g,b,Y,l.sub _ _ N,O.mono l.sub,R,o,S,q _ T _ F I l^.bl _]
def f6(b:X.mg x\(.ref C))(d:Gl X x<|>zn)(e:eT x<|>zm):PE X (.Name x pos)^tC^.ref C:=JC d b (v:= .ref C) rfl e
def aaB(b:X.mg "ValueError"=V)(d:Gl X "ValueError"<|>zn):PE X (.Name "ValueError" pos)^tC^.ty "ValueError":=Jz d b (by nofun) rfl ∅ ∅
def Zd(X:Cx):!gc->!V'->Prop
 | [],[]=>True
 |e::b,v::d=>PE X e^tC v/\d_ (e::b) X.env=(At,gj e X.env)::d_ b X.env/\Zd X b d
 |_,_=>False
theorem TL:∀{b:!Expr}{d:!V'},Zd X b d->PA X b (λj H Q=>Q d H)
 | [],[],_=>aC
 |e::b,v::d,#[f,g,i]=>ar f (TL i) g
 | [],_::_,h=>h.elim
 |_::_,[],h=>h.elim
def QP(K:ac)(e:!b_)(t:bb):bb:=λf P=>t f λd=>match d with
 | .err C _ _=>kj K C/\∃b,dc K (.ref C) e\b/\P^.bl b
 |_=>False
def A8{K:ac}{f:Nat}{g:js}{j:!V'}{k:!b_}(i:Oy K)(t:tP j k)(l:Zd X cs j)(Y':j.length<=1000)(u:DE Z X a ta)(w:Gl X "isinstance")(x:X.mg "isinstance"=V)(o:d_ [a, .Tuple cs f g] X.env=(At,gj a X.env)::d_ [.Tuple cs f g] X.env<|>zn)
  (y:(gM pos^d_ [.Tuple cs f g] X.env).any (·.1)=At<|>zn) (A:d_ [.Tuple cs f g] X.env=(At,gj (.Tuple cs f g) X.env)::d_ [] X.env<|>zn) (B:X.K=K<|>zn):
  DE Z X (.Call (.Name "isinstance" p) [a, .Tuple cs f g] [] pos)^QP K k ta:=by
 subst B;apply(dJ (AQ i) w x (by nofun) (ar u (ar (wx^TL l) aC A) o) ∅ ∅ o y).imp ?_
 intro c H Q E;rfl';let#[G,I,P,s,e,h,q]:=E;ac_rfl;refine#[G,I,_,s,e,h,λd r v G1 H1 f dv=>?_];cases dv<;>first|exact r.elim|skip
 rename_i a C J' L' M ds N O h3
 rfl';let#[R,b,S,T]:=r;ac_rfl;apply#[by rw[aec];lia,λU n=>?_]
 show#[a,C,U,J',L',M,j,k,b,Y,(az n _) _ _^f.sub _ _ N,(O.mono f.sub).mono^az n _,R,ah,t,S,q _ T _ _ _ (f.trans^.new f.sub n)^.bl _]
def Zw(K:ac)(f:Str)(t:bb):bb:=λb P=>t b λd=>match d with
 | .err C e g=>kj K C/\gG K C f/\∃y,(e.zip g).lookup f\y/\P y
 |_=>False
theorem Oo:∀{b:!Str}{d:!V'}{e:!D},DvAll Z G d e->(b.zip e).lookup f\y->∃v,(b.zip d).lookup f\v/\Dv Z G v y
 | [],_,_,_,h=>by cases h
 |k::b,_,_, .nil,h=>by cases h
 |k::b,_,_, .cons a g,h=>by
  rw[List.zip_cons_cons] at h ⊢
  by_cases z:(f==k)=L
  .rw[bj,z] at h
   cases Do h;show#[_,by rw[bj,z],a]
  .have z:(f==k)=false:=by simpa using z
   rw[bj,z] at h;let#[v,i,j]:=Oo g h;show#[v,by rw[bj,z];show i,j]
def aaP(K:ac)(e:TE)(f:fC):TE:=λg H Q=>e g H λx b=>∃a C d fs v,x= .ref a/\b a\(mQ C a^J d)/\b d\(Dj d fs)/\kj K C/\gG K C f/\fs.lookup f\v/\Q v b
def TQ(k:PE X e i)(m:hH e f X.env^gj e X.env=gj e X.env):PE X (.Attribute e f pos)^aaP X.K i f:=by
 intro b s w H Q I h;apply HM m (thn (k b s w H _ I h) λu R y=>?_);rfl';let#[x,B,d,E,a,C,S,fs,v,F,G,J',c,n,l,q]:=y;ac_rfl;subst F;obtain rfl:u=Value.ref a:=E;rfl';let#[t,T,e]:=NB d.hok G;let#[g,L',M,r,p]:=Hn d.hok J';let#[u,N,j]:=lT.some_of (v:=v) (o:=L' f)^by rw[<-l];show r f
 let#[od,O,P]:=uC M;ac_rfl;show Ki d.fi (od:=J od) #[e,Y,Y,O] c (PySem.W.findObj_own c.hd n rfl^by rw[P,N]) (Bk j) #[v,B,d.tok _,j,q]
def Ic{K:ac}{f:fC}(i:Oy K)(l:DE Z X a ta)(m:eE a f X.env<|>zn)(n:X.K=K<|>zn):DE Z X (.Attribute a f pos)^Zw K f ta:=by
 subst n;refine(TQ l m).imp ?_;intro R H Q o;rfl';let#[G,t,P,s,e,h,q]:=o;ac_rfl;refine#[G,t,_,s,e,h,λd j v w x g dv=>?_];cases dv<;>first|exact j.elim|skip
 rename_i a C S T U Y' A B E
 rfl';let#[F,I,y,k,J']:=j;let#[u,L',M]:=Oo E k;ac_rfl
 rcases B with ⟨_,rfl,_⟩ | ⟨N,rfl,O,_⟩
 .cases k
 .show#[a,C,N,_,u,Y,g.sub _ _ A,g.sub _ _ O,F,I,L',q _ J' _ w x g M]
end
section
variable {P:Program} {w:World} {K:ac} {mg:Str->Option Value} {base:Heap} {Z:DC}
end
section
variable {Z:DC} {X:Cx} {e:Expr} {es:!Expr} {t:gF} {pos:Pos}
end
def UR:!Value->Bool
 | []=>At
 |v::r=>if isRef v then NK r else NK (v::r)
def Qi(h:UR a=L):a= [.type "ValueError", .type "Exception", .type "BaseException", .type "object"]\/∃M,a= [.ref M, .type "ValueError", .type "Exception", .type "BaseException", .type "object"]:=by
 cases a with
 |nil=>cases h
 |cons v r=>
  rw[UR] at h;cases b:isRef v with
  |true=>
   rw[mo b] at h;cases v with
   |ref M=>rw[Bv h];show .inr #[M,Y]
   |_=>cases b
  |false=>
   rw[tz^by rw[b];show c9] at h
   show .inl^Bv h
def U0{K:ac}{C N:Ad}{d:ClassData}{e:!b_}{f q:fC}{bs s:!b_}{g:Bool}{h:!fC}{sub:!b_}{i:Bool}{c:Option Bool}{j:Option Ad}{k l m n o:Option b_}
  (t:cq K C=L) (u:ad K (.ref C) "__getattribute__"\(J^.builtin "BaseException.__getattribute__")) (v:ad K (.ref C) "__getattr__"\V)
  (w:ad K (.ref C) "__setattr__"\(J^.builtin "object.__setattr__")) (x:ad K (.ref C) "__class__"\(J^.builtin "object.__class__"))
  (p:eg K C\d) (r:d.mro= .ref C::e) (lo:K.lookup C\(jc f q C N bs s g h sub i c j k l m n o "ValueError.__new__")) (y:s=e) (A:UR e=L):XE K C:=by
 have a:∀b,cr K C b\((Value.ref C::e).contains b):=λb=>by
  unfold cr;rw[p,aeK,r];rfl
 subst y
 rcases Qi A with rfl| ⟨M,rfl⟩
 .apply#[#[t,u,v,w,?_,x,?_,?_],#[f,q,N,bs,_,g,h,sub,i,c,j,k,l,m,n,o,lo,Y,Y,Y]]
  .unfold GI
   rw[p];change rY d.mro=L;rw[r];rfl
  .rw[a];rfl
  .rw[a];rfl
 .apply#[#[t,u,v,w,?_,x,?_,?_],#[f,q,N,bs,_,g,h,sub,i,c,j,k,l,m,n,o,lo,Y,Y,Y]]
  .unfold GI
   rw[p];change rY d.mro=L;rw[r];rfl
  .rw[a];rfl
  .rw[a];rfl
structure Ky (K:ac) (C:Ad) (qual:fC) (st:Stmt) (ps:!fC) where
 f:Ad
 fd:hQ
 F:vB K "__init__" qual st f fd
 b:Binds K fd ps []
 made:Vh K C (.ref f)
 fn:cb K^.ref f=L
structure XBs (K:ac) (mg:fC->Option b_) (M:Ad):Prop where
 m:mg "MapError"\(.ref M)
 sg:bv K (.ref M) "__getattribute__"\(J^.builtin "type.__getattribute__")
 rd:dS K M^.type "type"=L
 fc:d3 K (.ref M) (.type "type") "__init__"\(.val^.builtin "ValueError.__init__")
def Mx(Z:DC)(C:Ad)(g:!fC)(ok:!D->Prop):Sp:=λj H Q _=>∃(a:Ad)(h:!V')(G:Hp)(f:!D),j= .ref a::h/\H a\(xD C a V)/\G a=V/\aE G H/\DvAll Z G h f/\ok f/\f.length=g.length/\
 ∀c i d e,aE G d->aE d e->(∀b o,b≠a->H b\o->e b\o)->(∀b,H b≠V->G b=V->d b=V)->e a\(xD C a^J c)->H c=V->e c\(Dj c^g.zip i)->d c=V->DvAll Z d i f->Q .aT e
section
variable {st : Stmt}
def QU(d:!Nat)(C:Ad)(b:!fC)(ok:!D->Prop)(t:gF):cW:=λE c=>t (dO d c) λa=>ok a/\a.length=b.length/\E.xc c^.err C b a
def Bd(hc:X.calm=L)(I:Ky X.K C qual st T)(F:FnOk X.prog X.w X.K X.mg X.base fJ k I.f I.fd T^Mx Z C m ok)(hr:cw j X.A)(U:XE X.K C)(hm:X.mg x\(.ref C))(g:DA Z X (e::es) t)(s:Gl X x<|>zn)(hk:k+1<=j<|>xa)(Sv:T.length<=1000<|>zm)
  (fV:eT x<|>zm) (he:eI e es X.env<|>zn) (cC:eB bp es X.env<|>zn):
  DSt Z X md rn (.Raise (J^.Call (.Name x p) (e::es) [] bp) V pos)^QU md C m ok t:=by
 apply(PL hc^PC I.made I.fn F (hr.mono hk) s hm I.b Sv cJ g fV he cC).imp ?_;intro D σ H aO;rfl';obtain⟨B,ρ,E,⟨G,fp,S⟩,h,M⟩:=aO;ac_rfl;apply#[G,_,_,S.ex.sub,S.El,h,λds v vs n Y' y bI a g=>?_];rfl';let#[ok,hl,hx]:=v;ac_rfl;have S1:=S.grow y;have J':n a=none:=y.sub.free g;apply#[a,vs,n,ds,Y,ah,J',y.sub.trans^az g _,bI,ok,hl,λd zs q H' g1 g2 g3 g4 g5 r g7 g8 g9=>#[Y,a,C,J d,Y,g5,U.obj,U.cls.be,?_]];have l:d≠a:=λz=>by rw[z,ah] at r;cases r
 have L':Y' d=none:=by rw[ao l] at r;show r
 have N:n d=none:=g1.free g8;have O:q a=none:=g4 a (by rw[ah];show λz=>nomatch z) J'
 have x2:Ext n Y' (upd (upd q d^Dj d^m.zip zs) a^mQ C a^J d)^upd H' a^mQ C a^J d:=by
  apply#[λb o c=>?_,λb o c=>?_,λb o c=>?_,λb P s=>?_]
  .rw[ao^av c J',ao^av c N];show g1 _ _ c
  .by_cases z:b=a
   .rw[z,ah] at c ⊢;show c
   .rw[ao z] at c ⊢
    by_cases Q:b=d
    .rw[Q,ah] at c;cases c;rw[Q];show g7
    .rw[ao Q] at c;show g2 _ _ c
  .have i:b≠a:=av c g
   rw[ao i];show g3 b o i^by rw[ao i];show c
  .have i:b≠a:=λz=>P^by rw[z];show g
   have R:b≠d:=λz=>P^by rw[z];show L'
   rw[ao i,ao R];show g4 b (by rw[ao i];show P) s
 have s2:aE q^upd (upd q d^Dj d^m.zip zs) a^mQ C a^J d:=λb o c=>by rw[ao^av c O,ao^av c g8];show c
 show M.xc ρ _ hx σ _ _ fp a (S1.grow x2)^.err ah (.inr #[d,Y,by rw[ao l,ah],by rw[g9.length];show hl.symm])^g9.mono s2
end
section
variable {Z:DC} {X:Cx} {a:Expr} {ta:bb} {p p1 p2 p3 p4 pos:Pos}
end
def fK(K:ac)(x:fC)(st:Stmt):Prop:=∃(d:Ad)(b c:Option Ad)(e:Array^Option b_)(f kV g h a i:b_),Ve K x d/\Dg K x x st d b c e f kV g h a i/\bi K a x=L/\am K^.ref d=L
def Ku(K:ac)(C:Ad)(m a:fC)(st:Stmt):Prop:=∃(d:Ad)(c e:Option Ad)(f:Array^Option b_)(g kV h i b j:b_),ad K (.ref C) m\(J^.ref d)/\cb K^.ref d=L/\Dg K m a st d c e f g kV h i b j/\bi K b a=L/\am K^.ref d=L
abbrev pW(K:ac)(x:Str):Prop:=aN K mainGlobals x\V
section
variable {K : ac}
def dfH{x:fC}{st:Stmt}{d:Ad}{e f:Option Ad}{g:Array^Option b_}{i kV j m b n:b_}(a:Ve K x d)(l:Dg K x x st d e f g i kV j m b n)(c:bi K b x=L)(k:am K^.ref d=L):fK K x st:=#[_,_,_,_,_,_,_,_,_,_,a,l,c,k]
def mfH{C:Ad}{m b:fC}{st:Stmt}{d:Ad}{g i:Option Ad}{j:Array^Option b_}{n kV o p e q:b_}(a:ad K (.ref C) m\(J^.ref d))(f:cb K^.ref d=L)(l:Dg K m b st d g i j n kV o p e q)(c:bi K e b=L)(k:am K^.ref d=L):Ku K C m b st:=#[_,_,_,_,_,_,_,_,_,_,a,f,l,c,k]
def bO.ch{x:fC}{st:Stmt}{d:!fC}(X:K.In h)(G:h.Ns f5 mg)(e:fK K x st)
  (b:∀(kV f i:b_)(j:Option Ad)(m n:b_)(g:!b_),g.length=d.length->nt (ce x x (hU st) (dP st) (au st) .none kV f i j m n) #[g,[]]=pure^d.zip g):bO K mg x st d:=
 Classical.choice (by
  let#[o,p,q,r,s,t,u,v,w,y,a,l,c,k]:=e;show#[.of X G a l c k b])
def Fs.ch{Z:DC}{m d:fC}{st:Stmt}{g:!fC}(e:Ku Z.K Z.C m d st)
  (b:∀(kV i n:b_)(o:Option Ad)(p q:b_)(j:!b_),j.length=g.length->nt (ce m d (hU st) (dP st) (au st) .none kV i n o p q) #[j,[]]=pure^g.zip j):Fs Z m d st g:=
 Classical.choice (by
  let#[h,r,s,t,u,v,w,x,y,z,a,f,l,c,k]:=e;show#[.of a f l c k b])
end
abbrev Dk(P:Program)(w:World)(base:Heap)(k:Nat){K:ac}{a:Str->Option Value}{x:Str}{st:Stmt}{b:!Str}(D:bO K a x st b)(c:Sp):Prop:=FnOk P w K a base fJ k D.f D.fd b c
abbrev Dx(P:Program)(w:World)(base:Heap)(k:Nat){K:ac}{a:Str->Option Value}{x:Str}{st:Stmt}{b:!Str}(D:bO K a x st b)(c:Sp):Prop:=FnOk P w K a base (Az P w) k D.f D.fd b c
section
variable {K:ac} {E M:Ad}
def Vi{p:Ad->Prop}:∀a∈([]:!Ad),p a:=λ_ h=>nomatch h
def QD{p:Ad->Prop}{a:Ad}{l:!Ad}(h:p a)(k:∀x∈l,p x):∀x∈a::l,p x:=λx b=>by
 rcases bQ.mp b with rfl|b
 .show h
 .show k x b
structure KitX (K:ac) (E:Ad) (Zf Mf Mt:!Ad):Prop where
 ve:b5 K (.ref E)^.type "ValueError"\L
 zf:∀a∈Zf,b5 K (.ref E)^.ref a\At
 mf:∀a∈Mf,cr K E^.ref a\At
 mt:∀a∈Mt,cr K E^.ref a\L
variable {Zf Mf Mt:!Ad}
def EF:b5 K t t\true:=by unfold b5;show mo^afV _
def KitX.z(h:KitX K E Zf Mf Mt)(i:Nat)(e:Zf[i]?\a):b5 K (.ref E)^.ref a\false:=h.zf a^cG e
def KitX.m0(h:KitX K E Zf Mf Mt)(i:Nat)(e:Mf[i]?\a):cr K E^.ref a\false:=h.mf a^cG e
def KitX.m1(h:KitX K E Zf Mf Mt)(i:Nat)(e:Mt[i]?\a):cr K E^.ref a\true:=h.mt a^cG e
theorem KitX.any(h:KitX K E Zf Mf Mt):∀(d:!Nat){f:!Value},f.map J=d.map (λi=>(Zf[i]?).map Value.ref)->dc K (.ref E) f\At
 | [],[],_=>rfl
 |i::d,c::f,e=>by
  let#[b,g]:=afC e;have b:J c=(Zf[i]?).map Value.ref:=b;cases z:Zf[i]? with
  |none=>rw[z] at b;cases b
  |some a=>
   rw[z] at b;cases b;rw[dc,h.z i z];show h.any d g
structure Vg (K:ac) (C:Ad) (init:b_):Prop where
 call:bv K (.ref C) "__call__"\(J^.builtin "type.__call__")
 typ:d6 K (.ref C)^.type "type"\L
 ini:ad K (.ref C) "__init__"\(J init)
 kp:am K^.ref C=L
def Vc(K:ac)(E:Ad)(a:fC)(st:Stmt):Prop:=∃(J':Ad)(c d:Option Ad)(e:Array^Option b_)(f g h i b j:b_),Vg K E^.ref J'/\cb K^.ref J'=L/\Dg K "__init__" a st J' c d e f g h i b j/\bi K b a=L/\am K^.ref J'=L
def jnH{e:fC}{st:Stmt}{J':Ad}{h i:Option Ad}{j:Array^Option b_}{n o p q g r:b_}(a:bv K (.ref E) "__call__"\(J^.builtin "type.__call__"))(b:d6 K (.ref E)^.type "type"\L)
  (c:ad K (.ref E) "__init__"\(J^.ref J')) (d:am K^.ref E=L) (f:cb K^.ref J'=L) (l:Dg K "__init__" e st J' h i j n o p q g r) (m:bi K g e=L) (k:am K^.ref J'=L):Vc K E e st:=
 #[_,_,_,_,_,_,_,_,_,_,#[a,b,c,d],f,l,m,k]
def Vg.mk'(h:Vg K E init)(o:oY K E):Vh K E init:=#[o,h.call,h.typ,h.ini,h.kp]
def Ky.ch{a:fC}{st:Stmt}{c:!fC}(e:Vc K E a st)(o:oY K E)
  (b:∀(kV d h:b_)(i:Option Ad)(j n:b_)(g:!b_),g.length=c.length->nt (ce "__init__" a (hU st) (dP st) (au st) .none kV d h i j n) #[g,[]]=pure^c.zip g):Ky K E a st c:=
 Classical.choice (by
  let#[J',p,q,r,s,t,u,v,w,y,x,f,l,m,k]:=e;show#[#[J',_,n9 l m k,(n9 l m k).binds b,x.mk' o,f]])
structure Zk (K:ac) (M C:Ad):Prop where
 xe:XE K C
def XW{N:Ad}{b:ClassData}{c q:fC}{bs:!b_}{d:Bool}{e:!fC}{sub:!b_}{f:Bool}{a:Option Bool}{g:Option Ad}{h i j k l:Option b_}
  (m:cq K E=L) (n:ad K (.ref E) "__getattribute__"\(J^.builtin "BaseException.__getattribute__")) (o:ad K (.ref E) "__getattr__"\V)
  (p:ad K (.ref E) "__setattr__"\(J^.builtin "object.__setattr__")) (r:ad K (.ref E) "__class__"\(J^.builtin "object.__class__"))
  (s:eg K E\b) (t:b.mro= .ref E:: [.ref M, .type "ValueError", .type "Exception", .type "BaseException", .type "object"])
  (lo:K.lookup E\(jc c q E N bs [.ref M, .type "ValueError", .type "Exception", .type "BaseException", .type "object"] d e sub f a g h i j k l "ValueError.__new__")):Zk K M E:=#[U0 m n o p r s t lo rfl rfl]
structure XEt (K:ac) (C:Ad):Prop where
 xe:XE K C
def XX{N:Ad}{b:ClassData}{c q:fC}{bs:!b_}{d:Bool}{e:!fC}{sub:!b_}{f:Bool}{a:Option Bool}{g:Option Ad}{h i j k l:Option b_}
  (m:cq K E=L) (n:ad K (.ref E) "__getattribute__"\(J^.builtin "BaseException.__getattribute__")) (o:ad K (.ref E) "__getattr__"\V)
  (p:ad K (.ref E) "__setattr__"\(J^.builtin "object.__setattr__")) (r:ad K (.ref E) "__class__"\(J^.builtin "object.__class__"))
  (s:eg K E\b) (t:b.mro= .ref E:: [.type "ValueError", .type "Exception", .type "BaseException", .type "object"])
  (lo:K.lookup E\(jc c q E N bs [.type "ValueError", .type "Exception", .type "BaseException", .type "object"] d e sub f a g h i j k l "ValueError.__new__")):XEt K E:=#[U0 m n o p r s t lo rfl rfl]
end
end L2
namespace tQ
open PySem L2 Wb
def top(i:Nat):Stmt:=PySem.Challenge.pw_mapdye_k73_whole_any_ties_dyes.main.body.getD i^.Pass #[0,0,0,0]
abbrev mL:Stmt:=top 21
abbrev qL:Stmt:=top 22
abbrev Ci:Stmt:=top 23
abbrev qK:Stmt:=top 24
abbrev mK:Stmt:=top 25
abbrev qJ:Stmt:=top 28
abbrev lB:Stmt:=top 29
abbrev mM:Stmt:=top 30
abbrev lF:Stmt:=top 31
abbrev mJ:Stmt:=top 32
abbrev eV:Stmt:=top 33
abbrev lC:Stmt:=top 34
abbrev lE:Stmt:=top 35
abbrev qM:Stmt:=top 38
abbrev iA:Stmt:=top 39
abbrev kN:Stmt:=top 40
abbrev i7:Stmt:=top 41
abbrev wH:Stmt:=top 43
abbrev tq:Stmt:=top 44
abbrev qH:Stmt:=top 45
abbrev wI:Stmt:=top 46
abbrev wJ:Stmt:=top 47
abbrev oO:Stmt:=top 48
abbrev mI:Stmt:=top 49
abbrev zw:Stmt:=top 50
abbrev pq:Stmt:=top 51
abbrev zx:Stmt:=top 52
abbrev mF:Stmt:=top 53
abbrev j9:Stmt:=top 54
abbrev kM:Stmt:=top 55
abbrev mG:Stmt:=top 56
abbrev i6:Stmt:=top 57
abbrev ic:Stmt:=top 58
abbrev qI:Stmt:=top 59
abbrev kc:Stmt:=top 60
abbrev mE:Stmt:=top 61
abbrev kL:Stmt:=top 62
abbrev mH:Stmt:=top 63
abbrev Cj:Stmt:=top 64
abbrev fS:Stmt:=L2.iH (top 36) 0
abbrev qG:Stmt:=L2.iH (top 36) 1
abbrev wG:Stmt:=L2.iH (top 36) 2
abbrev l5:Stmt:=L2.iH (top 36) 3
abbrev zv:Stmt:=L2.iH (top 36) 4
abbrev mD:Stmt:=L2.iH (top 36) 5
abbrev gy:Stmt:=L2.iH (top 9) 0
def ji:aF ["self","counted"] ["self","counted"]^au gy:=by bv_omega
abbrev j8:Stmt:=L2.iH (top 17) 0
def nA:aF ["self","point"] ["self","point"]^au j8:=by bv_omega
def qW:aF ["web","side","sides","p","q"] ["web","side"]^au mL:=by bv_omega
def E9:aF ["web","walked","told","side","sides","step"] ["web"]^au qL:=by bv_omega
def E8:aF ["web"] ["web"]^au Ci:=by bv_omega
def wO:aF ["web","points","ties","rounds"] ["web"]^au qK:=by bv_omega
def qV:aF ["web"] ["web"]^au mK:=by bv_omega
def wN:aF ["thing","many"] ["thing","many"]^au qJ:=by bv_omega
def pz:aF ["rows","p","row","q"] ["rows"]^au lB:=by bv_omega
def qX:aF ["rows","p","row"] ["rows"]^au mM:=by bv_omega
def pC:aF ["rows","p","row","place","q"] ["rows"]^au lF:=by bv_omega
def qU:aF ["rows","p","row","q"] ["rows"]^au mJ:=by bv_omega
def i8:aF ["rows","reached","waiting","p","q"] ["rows"]^au eV:=by bv_omega
def pA:aF ["rows","q","reached"] ["rows"]^au lC:=by bv_omega
def pB:aF ["rows","fault"] ["rows"]^au lE:=by bv_omega
def wQ:aF ["land"] ["land"]^au qM:=by bv_omega
def nH:aF ["web"] ["web"]^au iA:=by bv_omega
def tG:aF ["web","dyes","sums","a","b","dye","p","left"] ["web","dyes"]^au kN:=by bv_omega
def jN:aF ["web","dyes","first","number_of","dye_of","rounds","told","waiting","number","p","q","beyond"] ["web","dyes","first"]^au i7:=by bv_omega
def tD:aF ["_law_turns","_law_side","_law_p","_law_q"] ["_law_turns","_law_side"]^au oO:=by bv_omega
def qT:aF ["_law_turns","_law_side","_law_found","_law_here"] ["_law_turns","_law_side"]^au mI:=by bv_omega
def qP:aF ["_law_turns","_law_found","_law_seen","_law_p","_law_turn","_law_q","_law_side"] ["_law_turns"]^au mF:=by bv_omega
def nE:aF ["_law_turns","_law_found","_law_number","_law_sides","_law_side"] ["_law_turns"]^au j9:=by bv_omega
def tF:aF ["_law_turns","_law_ties_here","_law_a","_law_turn"] ["_law_turns"]^au kM:=by bv_omega
def qR:aF ["_law_turns"] ["_law_turns"]^au mG:=by bv_omega
def tu:aF ["_law_turns","_law_left","_law_by_side_here","_law_dyes_here","_law_number","_law_sides","_law_near","_law_some"] ["_law_turns","_law_left"]^au i6:=by bv_omega
def qQ:aF ["_law_script","_law_turns","_law_at","_law_left","_law_ties_here","_law_by_side_here","_law_dyes_here","_law_marks_here","_law_k"] ["_law_script","_law_turns","_law_at"]^au ic:=by bv_omega
def wM:aF ["_law_turns","_law_marks_here","_law_by_tie","_law_p","_law_turn","_law_total","_law_q"] ["_law_turns","_law_marks_here"]^au qI:=by bv_omega
def nG:aF ["_law_web_here","_law_marks_here","_law_first","_law_told","e"] ["_law_web_here","_law_marks_here","_law_first"]^au kc:=by bv_omega
def qO:aF ["_law_web_here","_law_marks_here","_law_first","_law_told","e"] ["_law_web_here","_law_marks_here","_law_first"]^au mE:=by bv_omega
def tw:aF ["_law_found","_law_turns","_law_marks_here","_law_first","_law_dye","_law_by_side_here"] ["_law_found","_law_turns","_law_marks_here","_law_first"]^au kL:=by bv_omega
def qS:aF ["_law_web_here","_law_turns","_law_marks_here","_law_first","_law_handed","_law_due","_law_kinds_here","_law_found","_law_told"] ["_law_web_here","_law_turns","_law_marks_here","_law_first"]^au mH:=by bv_omega
def Ob:aF ["_law_script","_law_turns","_law_web_here","_law_marks_here","_law_others","_law_first"] ["_law_script"]^au Cj:=by bv_omega
def nB:aF ["self","turns","rows","fault"] ["self","turns"]^au fS:=by bv_omega
def wK:aF ["self"] ["self"]^au qG:=by bv_omega
def wL:aF ["self"] ["self"]^au l5:=by bv_omega
def qN:aF ["self","p","q","row"] ["self","p","q"]^au mD:=by bv_omega
set_option genInjectivity false in
structure Txt (Z:DC) (mg:Str->Option Value) where
 B:aa2 mg
 u0:mg "set"=V
 u1:mg "dict"=V
 u2:bO Z.K mg "round_from" mL ["web","side"]
 u3:bO Z.K mg "lands" qL ["web"]
 u4:bO Z.K mg "count" Ci ["web"]
 u5:bO Z.K mg "is_plane" qK ["web"]
 u6:bO Z.K mg "need_plane" mK ["web"]
 u7:bO Z.K mg "is_among" qJ ["thing","many"]
 u8:bO Z.K mg "alien_fault" lB ["rows"]
 u9:bO Z.K mg "self_fault" mM ["rows"]
 ua:bO Z.K mg "twice_fault" lF ["rows"]
 ub:bO Z.K mg "lone_fault" mJ ["rows"]
 uc:bO Z.K mg "reached_from_first" eV ["rows"]
 ud:bO Z.K mg "apart_fault" lC ["rows"]
 ue:bO Z.K mg "first_fault" lE ["rows"]
 uf:bO Z.K mg "sides_of" qM ["land"]
 ug:bO Z.K mg "land_numbers" iA ["web"]
 uh:bO Z.K mg "need_even" kN ["web","dyes"]
 ui:bO Z.K mg "land_dyes" i7 ["web","dyes","first"]
 uj:bO Z.K mg "_law_cell" wH ["_law_script","_law_k"]
 uk:bO Z.K mg "_law_mixed" tq ["_law_script","_law_turn"]
 ul:bO Z.K mg "_law_digits" qH ["_law_script","_law_at"]
 um:bO Z.K mg "_law_take" wI ["_law_left","_law_many"]
 un:bO Z.K mg "_law_tree" wJ ["_law_many","_law_left"]
 uo:bO Z.K mg "_law_next" oO ["_law_turns","_law_side"]
 up:bO Z.K mg "_law_round" mI ["_law_turns","_law_side"]
 uq:bO Z.K mg "_law_tie" zw ["_law_turns","_law_left","_law_plane_here"]
 ur:bO Z.K mg "_law_renamed" pq ["_law_turns","_law_order","_law_left"]
 us:bO Z.K mg "_law_web" zx ["_law_script","_law_most","_law_plane_here"]
 ut:bO Z.K mg "_law_lands" mF ["_law_turns"]
 uu:bO Z.K mg "_law_by_side" j9 ["_law_turns"]
 uv:bO Z.K mg "_law_ties" kM ["_law_turns"]
 uw:bO Z.K mg "_law_plane" mG ["_law_turns"]
 ux:bO Z.K mg "_law_dyes" i6 ["_law_turns","_law_left"]
 uy:bO Z.K mg "_law_marks" ic ["_law_script","_law_turns","_law_at"]
 uz:bO Z.K mg "_law_odd" qI ["_law_turns","_law_marks_here"]
 v0:bO Z.K mg "_law_refused" kc ["_law_web_here","_law_marks_here","_law_first"]
 v1:bO Z.K mg "_law_kinds" mE ["_law_web_here","_law_marks_here","_law_first"]
 v2:bO Z.K mg "_law_good" kL ["_law_found","_law_turns","_law_marks_here","_law_first"]
 v3:bO Z.K mg "_law_right" mH ["_law_web_here","_law_turns","_law_marks_here","_law_first"]
 v4:bO Z.K mg "law" Cj ["_law_script"]
 W:Nb Z
 mC:mg "Web"\(.ref Z.C)
 v5:Ad
 v6:FuncData
 v7:vB Z.K "__init__" "Web.__init__" fS v5 v6
 v8:Mk Z.K Z.C v5
 v9:Binds Z.K v6 ["self","turns"] []
 va:Fs Z "many" "Web.many" qG ["self"]
 vb:Fs Z "turns" "Web.turns" wG ["self"]
 vc:Fs Z "ties" "Web.ties" l5 ["self"]
 vd:Fs Z "tied" "Web.tied" zv ["self","a","b"]
 ve:Fs Z "behind" "Web.behind" mD ["self","p","q"]
 iX:Oy Z.K
 vf:mg "ValueError"=V
 vg:Ad
 vh:mg "MapError"\(.ref vg)
 vi:Ad
 vj:mg "TooMany"\(.ref vi)
 vk:Ad
 vl:mg "TooSmall"\(.ref vk)
 vm:Ad
 vn:mg "NoWeb"\(.ref vm)
 vo:Ad
 vp:mg "NotPlane"\(.ref vo)
 vq:Ad
 vr:mg "NoText"\(.ref vq)
 vs:Ad
 vt:mg "NoCorner"\(.ref vs)
 vu:Ad
 vv:mg "NoRing"\(.ref vu)
 vw:Ad
 vx:mg "Alike"\(.ref vw)
 vy:Ad
 vz:mg "TooFew"\(.ref vy)
 y0:Ad
 y1:mg "NotFree"\(.ref y0)
 y2:Ad
 y3:mg "NotFilled"\(.ref y2)
 y4:Ad
 y5:mg "Odd"\(.ref y4)
 y6:Ad
 y7:mg "Bridge"\(.ref y6)
 y8:Ad
 y9:mg "Shared"\(.ref y8)
 ya:XE Z.K vg
 yb:XE Z.K vo
 yc:XE Z.K y4
 xb:XBs Z.K mg vg
 yd:Ky Z.K vo "NotPlane.__init__" gy ["self","counted"]
 ye:gG Z.K vo "counted"
 yf:KitX Z.K vo [vi,vk,vm,vq,vs,vu,vw,vy,y0,y2,y4,y6,y8] [y4] [vg,vo]
 yg:Ky Z.K y4 "Odd.__init__" j8 ["self","point"]
 yh:gG Z.K y4 "point"
 yi:KitX Z.K y4 [vi,vk,vm,vo,vq,vs,vu,vw,vy,y0,y2,y6,y8] [vo] [vg,y4]
 yj:∃tk,mg "__name__"\(.str "law_mapdye_k73_whole_any_ties_dyes" tk)
 yk:∃tk,mg "MOST_POINTS"\(.int 14 tk)
variable {P:Program} {w:World} {mg:Str->Option Value} {base:Heap} {Z:DC} (T:Txt Z mg)
def Uw:c7:=λa P=>∃(i n:Int),a= [.int i, .int n]/\P^.bl (AT (0<=i/\i<n))
def GC:Dk P w base 1 T.u7^aR Z Uw:=by
 have d:=wN.nd;apply bo T.u7.F wN [0,0] ∅ (λb R h=>by let#[g,j,rfl,k]:=h;rfl)^λe A outer s H E b R c h=>?_
 have f:=c.units;exists _,(aw^aS^Ak (vH "int" (aa 0) rfl T.B.isinstance rfl T.B.int Fw)^Ak (VB^vH "bool" (aa 0) rfl T.B.isinstance rfl T.B.bool HQ)^Ni^OK LV yu aL (aa 0)^aa 1);let#[i,n,rfl,q]:=h;apply#[_,Y,Y,L,Y,cX #[_,Y,Y,At,Y,L,Y,cX #[_,Y,?_]]];apply#[_,Y,eU (λa=>#[_,Y,?_])^λa=>?_]
 .have a:0<=i:=KF a
  change R^.bl (AT (i<n));rw[show AT (i<n)=AT (0<=i/\i<n) by simp[a]]
  show q
 .have a:¬0<=i:=SB a
  rw[show AT (0<=i/\i<n)=At by simp[a]] at q
  show q
def Aw:c7:=λa P=>∃(w:W),a= [bA w]/\D9 w/\1<=w.length/\w.length<=14/\P .aT
def zD{w:W}(h:(eZ^w.map aD)[j]?\d):j<w.length/\d= .tup [.int (j:Int),aD^row w j]:=by
 let#[x,b,rfl]:=jy h;let#[r,a,rfl]:=cH b;have c:j<w.length:=(cV.mp a).1;exists c;rw[Xi a]
def Aa:Dk P w base 2 T.u8^aR Z Aw:=by
 have c:=pz.nd;apply bo T.u8.F pz [0,0,0,0] ∅ (λm R h=>by let#[z,rfl,D]:=h;rfl)^λv A outer s H E m R l h=>?_
 have y:=l.units
 apply#[_,(aq (cz rfl Gc (fg rfl T.B.enumerate^ae (aa 0) ag) (dY 2 rfl^aM (aJ 1 c)^aM (aJ 2 c) bU)^aw^cz rfl Gc (bD^aa 2) (aJ 3 c)^aw^cT (kI^ik^aB T.u7 (GC T) l^ae (aa 3)^ae (aV dX rfl T.B.len dW^ae (aa 0) ag) ag) (aw^aS^bM^ae ig^ae (aa 1)^ae (aa 3) ag) bq)
   (aw^aS fe)),?_]
 let#[a,rfl,g,C,h14,q]:=h;apply#[_,Y,bK (λ_ e=>∃f i b,e= [J^bA a,f,i,b]) #[_,_,_,Y] ?_ ?_]
 .rintro j d _ n ⟨f,i,b,rfl⟩ A o
  let#[G,rfl]:=zD n;exists rfl,rfl;apply#[_,Y,bK (λ_ e=>∃b,e= [J^bA a,J^.int (j:Int),J^aD^row a j,b]) #[_,Y] ?_ ?_]
  .rintro k I _ p ⟨r,rfl⟩ J' t
   let#[x,u,rfl]:=cH p;apply#[_,Y,_,Y,_,_,Y,#[Y,?_]];have L':x<a.length:=g.rng _ _^cG u;rw[show AT ((0:Int)<=(x:Int)/\(x:Int)<((a.map aD).length:Int))=L by simp;lia]
   show c8^t _ #[_,Y]
  .rintro _ ⟨r,rfl⟩
   show o _ #[_,_,_,Y]
 .rintro _ ⟨f,i,b,rfl⟩
  show q
def B2:Dk P w base 1 T.u9^aR Z Aw:=by
 have f:=qX.nd;apply bo T.u9.F qX [0,0,0] ∅ (λi R h=>by let#[x,rfl,y]:=h;rfl)^λo A outer s H E i R k h=>?_
 have t:=k.units
 apply#[_,(aq (cz rfl Gc (fg rfl T.B.enumerate^ae (aa 0) ag) (dY 2 rfl^aM (aJ 1 f)^aM (aJ 2 f) bU)^aw^cT (bB LU (aa 1) (aa 2)^by with_unfolding_all rfl) (aw^aS^bM^ae ig^ae (aa 1)^ae (aa 1) ag) bq)
   (aw^aS fe)),?_]
 let#[a,rfl,g,u,h14,q]:=h;apply#[_,Y,bK (λ_ l=>∃b c,l= [J^bA a,b,c]) #[_,_,Y] ?_ ?_]
 .rintro j d _ m ⟨b,c,rfl⟩ A n
  let#[v,rfl]:=zD m;exists rfl,rfl;exists _,rfl,_,rfl,rfl,fT _,_,rfl
  have e:inD (.int (j:Int))^(row a j).map ax=false:=by
   have:=vZ (r:=row a j) (p:=j)
   rw[GE^g.irr j] at this;show this
  rw[tz c9,e];show c8^n _ #[_,_,Y]
 .rintro _ ⟨b,c,rfl⟩
  show q
def A0(l:!a)(k:Nat)(h:k<=l.length):cutD l V^J (k:Int)=l.take k:=by
 unfold cutD;have b:HT.cg l.length 0 V=0:=rfl
 have c:HT.cg l.length l.length^J (k:Int)=k:=by
  simp only[HT.cg]
  split<;>lia
 rw[b,c];simp
def Ac:Dk P w base 1 T.ua^aR Z Aw:=by
 have f:=pC.nd;apply bo T.ua.F pC [0,0,0,0,0] ∅ (λr R h=>by let#[D,rfl,K]:=h;rfl)^λO A outer s H E r R t h=>?_
 have Q:=t.units
 apply#[_,(aq (cz rfl Gc (fg rfl T.B.enumerate^ae (aa 0) ag) (dY 2 rfl^aM (aJ 1 f)^aM (aJ 2 f) bU)^aw^cz rfl Gc (fg rfl T.B.enumerate^ae (aa 2) ag) (dY 2 rfl^aM (aJ 3 f)^aM (aJ 4 f) bU)^aw^cT (bB LU (aa 4) (xH (aa 2) Bb^Bc^aa 3)^by with_unfolding_all rfl) (aw^aS^bM^ae ig^ae (aa 1)^ae (aa 4) ag) bq)
   (aw^aS fe)),?_]
 let#[a,rfl,g,S,h14,q]:=h;apply#[_,Y,bK (λ_ i=>∃l n b c,i= [J^bA a,l,n,b,c]) #[_,_,_,_,Y] ?_ ?_]
 .rintro j d _ u ⟨l,n,b,c,rfl⟩ A v
  let#[U,rfl]:=zD u;exists rfl,rfl;apply#[_,Y,bK (λ_ i=>∃b c,i= [J^bA a,J^.int (j:Int),J^aD^row a j,b,c]) #[_,_,Y] ?_ ?_]
  .rintro k X _ C ⟨G,I,rfl⟩ Y' J'
   let#[y,L',rfl]:=jy C;let#[x,p,rfl]:=cH L';have hJ:k<(row a j).length:=(cV.mp p).1;exists rfl,rfl;exists _,rfl,_,rfl,_,rfl;have M:cutD ((row a j).map ax) V^J (k:Int)=((row a j).take k).map ax:=by rw[A0 _ _^by simp;lia,aeG]
   apply(?_:Vt At (ax x) (.lst^cutD ((row a j).map ax) V^J (k:Int)) _);rw[M];exists rfl,fT _,_,rfl
   have e:inD (ax x)^((row a j).take k).map ax=false:=by
    rw[vZ,GE];intro z;let#[m,o]:=jm z
    have N:m<k:=by
     have:=(cV.mp o).1
     rw[jr] at this;lia
    rw[Hx N] at o;show absurd ((List.getElem?_inj ()^g.nod j).mp^o.trans p.symm) ()
   rw[tz c9,e];show c8^J' _ #[_,_,Y]
  .rintro _ ⟨G,I,rfl⟩
   show v _ #[_,_,_,_,Y]
 .rintro _ ⟨l,n,b,c,rfl⟩
  show q
def BY:Dk P w base 1 T.ub^aR Z Aw:=by
 have f:=qU.nd;apply bo T.ub.F qU [0,0,0,0] ∅ (λn R h=>by let#[z,rfl,D]:=h;rfl)^λJ' A outer s H E n R o h=>?_
 have L':=o.units
 apply#[_,(aq (cz rfl Gc (fg rfl T.B.enumerate^ae (aa 0) ag) (dY 2 rfl^aM (aJ 1 f)^aM (aJ 2 f) bU)^aw^cz rfl Gc (bD^aa 2) (aJ 3 f)^aw^cT (bB EV (aa 1) (dN (aa 0)^aa 3)^by with_unfolding_all rfl) (aw^aS^bM^ae ig^ae (aa 1)^ae (aa 3) ag) bq)
   (aw^aS fe)),?_]
 let#[a,rfl,g,M,h14,q]:=h;apply#[_,Y,bK (λ_ i=>∃l m b,i= [J^bA a,l,m,b]) #[_,_,_,Y] ?_ ?_]
 .rintro j d _ t ⟨l,m,b,rfl⟩ A u
  let#[N,rfl]:=zD t;exists rfl,rfl;apply#[_,Y,bK (λ_ i=>∃b,i= [J^bA a,J^.int (j:Int),J^aD^row a j,b]) #[_,Y] ?_ ?_]
  .rintro k O _ v ⟨y,rfl⟩ Q C
   let#[x,G,rfl]:=cH v;have c:=cG G;have I:x<a.length:=g.rng _ _ c;exists _,rfl,_,rfl,_,rfl,_,iG^CH I,rfl,fT _,_,rfl
   have e:inD (.int (j:Int))^(row a x).map ax=true:=by
    have:=vZ (r:=row a x) (p:=j)
    rw[FM^g.sym _ _ c] at this;show this
   rw[mo rfl,e];show c8^C _ #[_,Y]
  .rintro _ ⟨y,rfl⟩
   show u _ #[_,_,_,Y]
 .rintro _ ⟨l,m,b,rfl⟩
  show q
def zS(bs:!Bool):!D:=bs.map D.bl
def QK{bs:!Bool}{i:Nat}{b:Bool}(h:bs[i]?\b):(zS bs)[i]?\(.bl b):=by unfold zS;rw[dF,h];rfl
def HU(bs:!Bool)(i:Nat)(b:Bool):(zS bs).set i^.bl b=zS^bs.set i b:=by unfold zS;rw[ae9]
def HS(bs:!Bool):(zS bs).length=bs.length:=aG _
def ED{n k:Nat}(h:k<n):lQ n (k:Int)\k:=by unfold lQ;rw[mo (),mo ()];simp
def MA:c7:=λa P=>∃(w:W),a= [bA w]/\D9 w/\1<=w.length/\w.length<=14/\∀bs m,RI w bs [] [] m->(∀x,bs[x]?\L->Reach w 0 x)->P^.lst^zS bs
def Met(w:W)(bs:!Bool):Prop:=∀x,bs[x]?\L->Reach w 0 x
def oH:Dk P w base 1 T.uc^aR Z MA:=by
 have B:=i8.nd;apply bo T.uc.F i8 [0,1,1,0,0] ∅ (λds R h=>by let#[K,rfl,V']:=h;rfl)^λaZ A outer s H E ds R hr h=>?_
 have hu:=hr.units
 apply#[_,(aq (mV 1 (NC:= ["row"]) (src:= [V]) rfl B (pZ^au eV) trivial (bD^aa 0) (λ_ _ _=>(bC 0 (show(["row"]:!fC).Nodup from by nofun))) (λ_ _ _=>dQ)^λ_ _ _=>mq)
   (aq (jx At 1 aL mq)
   (aq (gL 2 B^ij^ae aL ag)
   (aq (mW Gc (ik^aa 2)^aq (FJ 3 2 B)
   (aw^cz rfl Gc (bD^dN (aa 0)^aa 3) (aJ 4 B)^aw^cT (kI^ik^dN (aa 1)^aa 4) (aq (jx At 1 (aa 4) mq)
   (aw^iT At 2^aa 4)) bq))
   (aw^aS^aa 1))))),?_]
 let#[c,rfl,g,h1,h14,q]:=h;apply#[_,Y,rR (ρ:= [V]) aD (λ_=> .bl At) c _ (λy b Y' h=>h) rfl (small ()) λaH=>?_]
 have e0:c.map (λ_=>D.bl At)=zS^ak c.length false:=by unfold zS;rw[List.map_replicate,List.map_const']
 rw[e0];apply#[trivial,_,Y,0,0,Y,by rw[HS,zK];show ED (k:=0) (),?_]
 rw[HU];apply#[by change 1<=sizeLine;decide,?_]
 apply oV (λm ρ=>∃(bs:!Bool)(l:!Nat)(U C:Option D),ρ= [J^bA c,J^.lst^zS bs,J^.lst^l.map ax,U,C]/\RI c bs l [] m/\Met c bs/\m<=14/\bs.count At+l.length=m) c.length ?_ ?_
 .apply#[_,[0],V,V,Y,#[by simp,?_,?_,λx d=>?_,?_],λx d=>?_,h14,?_]
  .rw[kA,mo rfl,mo^by rw[zK];lia]
  .intro x d
   have:x=0:=by simpa using d
   rw[this,kA,mo rfl,mo^by rw[zK];lia]
  .by_cases e:0=x
   .show .inl^by rw[<-e];simp
   .rw[kA,tz e,zI] at d
    split at d<;>cases d
  .rw[afl^by rw[zK];lia,afJ,agm]
   simp;lia
  .by_cases e:0=x
   .rw[<-e];show .refl _
   .rw[kA,tz e,zI] at d
    split at d<;>cases d
  .rw[afl^by rw[zK];lia,afJ,agm]
   simp;lia
 .rintro m _ ⟨bs,l,U,C,rfl,G,mt,hc,o⟩
  exists _,rfl,rfl
  rcases List.eq_nil_or_concat l with rfl| ⟨i,p,e⟩
  .show c8 #[_,Y,q bs m G mt]
  .rw[List.concat_eq_append] at e
   subst e;rw[show Oi^.lst^(i++ [p]).map ax=L by simp[Oi]]
   apply cX ?_;rw[dj] at o;simp only[CU] at o;obtain⟨r,rfl⟩:∃r,m=r+1:=#[m-1,()]
   have N:=G.pop;have X:bs[p]?\true:=G.wt p^by simp
   have Lq:p<c.length:=by rw[<-G.len];show(cV.mp X).1
   apply#[i.map ax,ax p,by rw[cn];rfl,?_]
   apply#[_,Y,_,Y,_,iG^CH Lq,bK (λj ρ=>∃(a:!Bool)(f:!Nat)(C:Option D),ρ= [J^bA c,J^.lst^zS a,J^.lst^f.map ax,J^ax p,C]/\RI c a f [p] r/\Met c a/\(∀k y,k<j->(row c p)[k]?\y->a[y]?\L)/\a.count At+f.length=r) ?_ ?_ ?_]
   .show#[bs,i,_,Y,N,mt,(λk n t=>by lia),()]
   .rintro j x _ d ⟨a,f,o5,rfl,u,I,J',O⟩ A hA
    let#[n,L',rfl]:=cH d;have Q:=g.rng _ _^cG L';have S:n<a.length:=by rw[u.len];show Q
    have v:a[n]?\(a[n]):=bT S;exists _,rfl,_,rfl,_,iG^QK v,rfl;generalize a[n]=bn at v;cases bn with
    |true=>
     apply c8^hA _ #[a,f,_,Y,u,I,λk y t b=>?_,O]
     by_cases e:k=j
     .rw[e,L'] at b;cases b;show v
     .show J' k y () b
    |false=>
     apply cX ?_;apply#[trivial,_,Y,_,Y,_,n,Y,by rw[HS];show ED S,?_]
     rw[HU];have M:=u.push v;have adt:=M.cnt;apply#[_,Y,_,Y,trivial,bE^by rw[aG];lia,?_]
     have er:f.map ax++ [ax n]=(f++ [n]).map ax:=by rw[cn];rfl
     rw[er];apply hA _ #[a.set n L,f++ [n],_,Y,M,λy b=>?_,λk y t b=>?_,?_]
     .by_cases e:n=y
      .rw[<-e];show .step (mt p X)^cG L'
      .rw[kA,tz e] at b;show I y b
     .rw[kA]
      by_cases e:n=y
      .rw[mo e,mo S]
      .rw[tz e]
       apply J' k y ?_ b;apply FS ?_;intro z
       have:k=j:=()
       rw[this,L'] at b;cases b;show e rfl
     .obtain⟨hl,he⟩:=cV.mp v
      have:0<a.count false:=List.count_pos_iff.mpr^by rw[<-he];show j5 hl
      rw[afl hl,he,dj];simp;lia
   .rintro _ ⟨a,f,o5,rfl,u,I,J',O⟩
    have M:=u.close λy b=>by
     let#[k,t]:=jm b;show J' k y (by rw[aG];show(cV.mp t).1) t
    show#[r,(),a,f,_,_,Y,M,I,(),O]
def J0:c7:=λa P=>∃(w:W),a= [bA w]/\D9 w/\1<=w.length/\w.length<=14/\(Good w->P .aT)/\(¬Good w->∀q,P^.tup [.str "apart", .int 0,ax q])
def Ab:Dk P w base 2 T.ud^aR Z J0:=by
 have l:=pA.nd;apply bo T.ud.F pA [0,0,0] ∅ (λt R h=>by let#[z,rfl,D]:=h;rfl)^λN A outer s H E t R n h=>?_
 have O:=n.units
 apply#[_,(aq (cz rfl Gc (fg rfl T.B.enumerate^ae (aB T.uc (oH T) n^ae (aa 0) ag) ag) (dY 2 rfl^aM (aJ 1 l)^aM (aJ 2 l) bU)^aw^cT (kI^ik^aa 2) (aw^aS^bM^ae ig^ae aL^ae (aa 1) ag) bq)
   (aw^aS fe)),?_]
 let#[o,rfl,g,u,h14,v,C]:=h;apply#[_,Y,o,Y,g,u,h14,λbs m q mt=>bK (λk G=>(∀x,x<k->bs[x]?\L)/\∃c f,G= [J^bA o,c,f]) #[λx r=>absurd r^Nat.not_lt_zero x,_,_,Y] ?_ ?_]
 .rintro j d _ I ⟨i,c,f,rfl⟩ A J'
  let#[y,L',rfl]:=jy I;let#[b,a,rfl]:=cH L';exists rfl,rfl;cases b with
  |true=>
   apply#[_,Y,Y,c8^J' _ #[λx r=>?_,_,_,Y]]
   by_cases e:x=j
   .rw[e];show a
   .show i x ()
  |false=>
   apply#[_,Y,Y,cX #[_,Y,by change 3<=sizeLine;decide,C (λM=>?_) j]]
   have:=q.all M
   rw[this,zI] at a
   split at a<;>cases a
 .rintro _ ⟨i,c,f,rfl⟩
  apply v (g.good λp Q=>mt p^i p ?_)
  have:=q.len
  unfold zS eZ;simp;lia
def pk:Dk P w base 3 T.ue^aR Z J0:=by
 have b:=pB.nd;apply bo T.ue.F pB [0,0] ∅ (λf R h=>by let#[m,rfl,n]:=h;rfl)^λk A outer s H E f R a h=>?_
 have l:=a.units
 apply#[_,(aq (aX At 1 b^aB T.u8 (Aa T) a^ae (aa 0) ag)
   (aq (cT (bB yt (aa 1) fe^aU _) (aw^aX At 1 b^aB T.u9 (B2 T) a^ae (aa 0) ag) bq)
   (aq (cT (bB yt (aa 1) fe^aU _) (aw^aX At 1 b^aB T.ua (Ac T) a^ae (aa 0) ag) bq)
   (aq (cT (bB yt (aa 1) fe^aU _) (aw^aX At 1 b^aB T.ub (BY T) a^ae (aa 0) ag) bq)
   (aq (cT (bB yt (aa 1) fe^aU _) (aw^aX At 1 b^aB T.ud (Ab T) a^ae (aa 0) ag) bq)
   (aw^aS^aa 1)))))),?_]
 let#[c,rfl,g,d,h14,i,j]:=h;exists _,rfl,c,rfl,g,d,h14,trivial;apply#[_,Y,_,Y,cX #[_,Y,c,Y,g,d,h14,trivial,?_]];apply#[_,Y,_,Y,cX #[_,Y,c,Y,g,d,h14,trivial,?_]];apply#[_,Y,_,Y,cX #[_,Y,c,Y,g,d,h14,trivial,?_]];apply#[_,Y,_,Y,cX #[_,Y,c,Y,g,d,h14,λe=>#[trivial,_,Y,i e],λe q=>#[trivial,_,Y,j e q]]]
def yv{P:ff}{w:f8}{base:Heap}{Z:DC}(T:Txt Z n):FnOk P w Z.K n base fJ 4 T.v5 T.v6 ["self","turns"]^J2 Z:=by
 have RE:=pk (P:=P) (w:=w) (base:=base) T;have r:=nB.nd;apply T.v7.ok nB (λM H Q E h=>?_)^λaZ A outer s H M Q E u h=>?_
 .obtain⟨p,x,v,G,a,rfl,_⟩:=h;rfl
 let#[p,x,v,G,a,rfl,F,N,O,dv,g,S,h14,q]:=h;have hu:=u.units
 apply#[_,aI (t:=ot Z _ [0,0,0,0] 0 _)
   (cT (kI^OQ LV LV aL (aV dX rfl T.B.len dW^ae (aa 1) ag)^OL rfl T.yk) (aw Eh) bq)
  (aI (t:=ot Z _ [0,0,0,0] 0 _)
   (OP 2 (NC:= ["row"]) (src:= [V]) rfl r (pZ^au fS) trivial (bD^aa 1) (λ_ _ _=>(bC 0 (show(["row"]:!fC).Nodup from by nofun))) (λ_ _ _=>dQ)^λ_ _ _=>(nX AV rfl T.B.list mS^ae (aa 0) ag))
  (aI (t:=ot Z _ [0,0,0,0] 0 _)
   (aX At 3 r^aB T.ue (pk T) u^ae (aa 2) ag)
  (aI (t:=ot Z _ [0,0,0,0] 0 _)
   (cT (bB EU (aa 3) fe^aU _) (aw Eh) bq)
  (bH^W6 (pv 0) (pv 2) rfl)))),?_]
 have I:(a.map aD).length=a.length:=aG _;apply#[#[G,H,G],[J^.obj p,J^bA a,V,V],{nx:=λρ=>ρ= [J^.obj p,J^bA a,V,V],rt:=λ_=>False},#[G,λ_=> [],?_],?_,#[?_,λ_ z=>z.elim,λ_ z=>z.elim,λ_ z=>z.elim,λ_ _ z=>z.elim]]
 .apply#[.refl N, .refl _,Y,λi d c=>?_,λ_=>ju,(λ_ _ _ _ z=>by cases z),(λ_ _ z=>by cases z)]
  match i,c with
  |0,c=>cases c;show#[_,Y, .obj p,Y]
  |1,c=>cases c;show#[_,Y,dv,Y]
  |2,c=>cases c
  |3,c=>cases c
  |i+4,c=>cases c
 .have U:D.bl (AT ((1:Int)<=((a.map aD).length:Int)))= .bl true:=KB D.bl^FM^by rw[I];lia
  have X:D.bl (AT (((a.map aD).length:Int)<=14))= .bl true:=KB D.bl^FM^by rw[I];lia
  show#[_,Y,L,U,cX #[L,X,c8 rfl]]
 rintro _ rfl M8 H1 S1;apply#[#[G,H,G],_,{nx:=λρ=>ρ= [J^.obj p,J^bA a,J^bA a,V],rt:=λ_=>False},S1,?_,#[?_,λ_ z=>z.elim,λ_ z=>z.elim,λ_ z=>z.elim,λ_ _ z=>z.elim]]
 .show#[_,Y,rR (ρ:= [V]) aD aD a _ (λy hy Y' h=>#[_,Y,h]) rfl (small ()) λaH=>#[trivial,Y]]
 rintro _ rfl eD H2 S2;apply#[#[G,H,G],_,{nx:=λρ=>ρ= [J^.obj p,J^bA a,J^bA a,J .aT],rt:=λ_=>False},S2,?_,#[?_,λ_ z=>z.elim,λ_ z=>z.elim,λ_ z=>z.elim,λ_ _ z=>z.elim]]
 .show#[_,Y,a,Y,g.near,S,h14,λ_=>#[trivial,Y],λz=>absurd g z]
 rintro _ rfl Aj H3 S3;apply#[#[G,H,G],_,{nx:=λρ=>ρ= [J^.obj p,J^bA a,J^bA a,J .aT],rt:=λ_=>False},S3,?_,#[?_,λ_ z=>z.elim,λ_ z=>z.elim,λ_ z=>z.elim,λ_ _ z=>z.elim]]
 .show#[_,Y,_,Y,c8 rfl]
 rintro _ rfl fj H4 ⟨J',fp,f⟩;let#[v0,z3,o0]:=f.at_ 0 _ rfl;let#[v2,k,o2]:=f.at_ 2 _ rfl;let#[d0,V']:=o0;let#[L',V']:=o2;cases d0;have l:=L';cases L' with
 | @lst R xs ds hR e=>
  have m:=f.ex.hh _ _ F;apply#[_,k,_,z3,p,Z.C,x,[],Y,m,T.W.cl,T.W.nR,∅,?_]
  have g4:J' p=none:=f.ex.off p (by change H p≠V;rw[F];show λz=>nomatch z) O
  apply q R J' _ f.ex.gg (λb o j=>?_) (λb o j nb=>?_) f.ex.off ah l
  .rw[ao^av j g4];show f.ex.sub _ _ j
  .rw[ao nb];show f.ex.hh _ _ j
def Xr:c7:=λa P=>∃(w:W),a= [.gB w]/\P^.int (w.length:Int)
def oG:FnOk P w Z.K mg base fJ 1 T.va.f T.va.fd ["self"]^aR Z Xr:=by
 have d:=wK.nd;apply bo T.va.F wK [0] ∅ (λb R h=>by let#[i,rfl,j]:=h;rfl)^λe A outer s H E b R c h=>?_
 have g:=c.units;exists _,(aw^aS^aV dX rfl T.B.len dW^ae (A9 T.W^aa 0) ag);let#[a,rfl,q]:=h;exists _,rfl,a,rfl;apply(?_:R^.int ((a.map aD).length:Int));rw[aG];show q
end tQ
namespace L2
open PySem PySem.Spec PyProof.Rows
section
variable {X:Cx}
variable {o e:Expr} {es:!Expr} {to:TE} {t:TA} {name:Str} {apos bp:Pos} {id:String} {r:V'->!V'->Hp->VK->Prop}
end
section
def abi(g:!Nat)(i:Nat)(h:bb):cW:=λE b=>∃c,b[i]?\(J^.lst c)/\h (dO g b) λd=>∃f,d= .lst f/\c.length+f.length<=sizeLine/\E.nx^b.set i^J^.lst (c++f)
def VF(i:Nat)(t:DE Z X e te)(g:md.getD i 0=1<|>zn)(u:X.N[i]?\x<|>zn)(w:vD X.env.scope x<|>yy)(f:eT x<|>zm)(y:eR x<|>zm)
  (A:eE (.Name x c) "extend" X.env<|>zn)
  (C:fX bp [e] X.env<|>zn)
  (F:(apos.endLine==bp.line)=L<|>zn) (j:eI e [] X.env<|>zn) (I:eB bp [] X.env<|>zn)
  (J':hB (.Call (.Attribute (.Name x c) "extend" apos) [e] [] bp) V pos.line X.env=pure At<|>zn):
  DSt Z X md rn (.Expr (.Call (.Attribute (.Name x c) "extend" apos) [e] [] bp) pos)^abi md i te:=by
 apply(dD (i5 GT afZ af0 BJ (pv i u w f y) (ar t aC j) A C F j I) J').imp ?_;rintro D o H ⟨B,ρ,E,⟨G,L',S⟩,⟨ds,m,h⟩,M⟩;let#[l,xs,z,K,n,O,V']:=S.one g m;apply#[_,n,ty_list O,S.ev At h λd f=>#[trivial,λv P H' p x dv=>?_]];let#[zs,rfl,Q,R]:=f;let#[l',T,sF,U,q,Y',r,put]:=p.one g m;cases U;rw[n] at q;cases q;let#[b,a,rfl,k,s]:=dv.ft;show#[l,b,T,a,Y,Y,Y',p.ex.sub _ _ k,by rw[r.length,s.length];show Q,M.nx _ R _ _ #[P,L',put _ _^r.append s]]
end
def gn.ok{P:ff}{w:f8}{H:Hp}{a:Ad}(x:gn b a d h):bR P w H h a^.ext^gn b a d:=by
 apply#[x,let #[o,_,_,_,c,_]:=x;#[o,c],λg i p k=>?_];let#[o,e,f,t,c,r]:=p;show#[o,e,f,t,k o c,r]
def fP.mem(h:fP H b c):∀e∈b,∃p∈c,e.1=bw p/\H e.2\(.tup [.int p.1, .int p.2]):=by
 induction h with
 |nil=>show λe a=>nomatch a
 | @cons _ p _ _ h _ d=>
  intro e a
  rcases bQ.mp a with rfl|a
  .show#[p,c5 ..,Y,h]
  .obtain⟨q,f,g⟩:=d e a
   show#[q,eS _ f,g]
def fP.acm(h:fP H c d):∀p∈d,∃a,(bw p,a)∈c/\H a\(.tup [.int p.1, .int p.2]):=by
 induction h with
 |nil=>show λp b=>nomatch b
 | @cons a _ _ _ h _ e=>
  intro p b
  rcases bQ.mp b with rfl|b
  .show#[a,c5 ..,h]
  .obtain⟨f,g,i⟩:=e p b
   show#[f,eS _ g,i]
def fP.len(h:fP H a b):a.length=b.length:=by
 induction h with
 |nil=>rfl
 |cons _ _ c=>show KB (·+1) c
def fP.snoc(h:H a\(.tup [.int p.1, .int p.2]))(k:fP H b c):fP H (b++ [(bw p,a)]) (c++ [p]):=by
 induction k with
 |nil=>show .cons h .nil
 |cons d _ e=>show .cons d e
section
def Inv.qE{p:Int×Int}(I:Inv X pins σ H s)(h:H a\(.tup [.int p.1, .int p.2])):gH (fE X.prog X.w) s.heap [p.1,p.2] a:=by
 rfl';obtain⟨c,r,⟨o,d,e,n,f⟩,_⟩:=I.tuple^fN.of h;obtain⟨i,j,rfl,⟨t,rfl⟩,⟨u,rfl⟩⟩:=Vals.two r;ac_rfl;show#[o,_,n,d,e,f, .cons (by simp[fE,Value.isInt])^.cons (by simp[fE,Value.isInt]) .nil]
def Inv.qY(I:Inv X pins σ H s)(h:H a\(.ext^gn b a c)):gn b a c s.heap:=(I.hok a _ h).1
def oK(P:Program)(w:World)(p:Int×Int):tupleKeyHash (intKind P w) [p.1,p.2]=bw p:=rfl
def Inv.pes(I:Inv X pins σ H s)(g:fP H b f)(h:a.toList.Perm (b.map λe=>(e.1,Value.ref e.2))):QB X.prog X.w s.heap a:=λi e c=>by
 rfl';have k:e∈a.toList:=by rw[<-gE] at c;show cG c
 let#[d,l,rfl]:=bS.mp^h.mem_iff.mp k;let#[p,j,m,n]:=g.mem d l;ac_rfl;show#[[p.1,p.2],d.2,by rw[oK,m],I.qE n]
def Inv.qh{h:!(Int×Ad)}{j:!(Int×Int)}{b:Array (Int×b_)}(I:Inv X pins σ H s)(k:fP H h j)(l:b.toList.Perm (h.map λe=>(e.1,Value.ref e.2)))(p:Int×Int):
  (∃(i:Nat)(c:Ad),b[i]?\(gd (fE X.prog X.w) [p.1,p.2], .ref c)/\gH (fE X.prog X.w) s.heap [p.1,p.2] c)↔p∈j:=by
 constructor
 .rintro⟨i,c,d,f⟩
  have g:(gd (fE X.prog X.w) [p.1,p.2],Value.ref c)∈b.toList:=by rw[<-gE] at d;show cG d
  let#[m,r,t]:=bS.mp^l.mem_iff.mp g;let#[q,u,x,n]:=k.mem m r
  have:m.2=c:=by have:=(aej t).2;injection this
  rw[this] at n
  have:=(I.qE n).inj f
  simp at this
  have:q=p:=adS this.1 this.2
  rw[<-this];show u
 .intro v
  let#[a,d,f]:=k.acm p v;have g:(bw p,Value.ref a)∈b.toList:=l.mem_iff.mpr^bS.mpr #[_,d,Y];let#[i,o]:=CV.mp g;rw[gE] at o;show#[i,a,by rw[oK];show o,I.qE f]
def PB(d:Gl X "set")(f:X.mg "set"=V):PE X (.Call (.Name "set" p) [] [] a) (λg H Q=>∀q,H q=V->Q (.ref q)^upd H q^.ext^gn (iC X.w) q []):=by
 intro c s g H Q I h;apply adv^iu I d f (u:= .type "set") (by nofun) ?_ ∅ ∅
 apply PyProof.Rows.callWith_type rfl^PyProof.Rows.evalArgs_nil3^FA ?_;have i:=I.hok.fresh^bu _;show#[.ref s.heap.objs.size,_,I.laid (t':=s.toks) (λb o e=>AC _ e) (bu _) (o:= .ext^gn (iC X.w) s.heap.objs.size [])^gn.ok #[_,_,_,_,GM _ rfl,oX.new X.w, .refl _],Y,h _ i]
def acd(i:X.A.units+64<cLine)(I:Inv X pins σ H s)(j:H c\(.tup [.int p.1, .int p.2]))(k:H a\(.ext^gn (iC X.w) a e))(f:fP H e b)
  (h:∀d,Q (AT (p∈b)) {s with toks:=d}):e_ (ei X.prog X.w) X.A (contains (.ref a)^.ref c) Q E s:=by
 rfl';let#[o,m,r,t,n,S,g]:=I.qY k;ac_rfl;apply w6 i n S (I.pes f g) (I.qE j) λd=>?_
 have:PySem.qh X.prog X.w s.heap m [p.1,p.2]=AT (p∈b):=by
  classical
  unfold PySem.qh;show aeO.mpr^I.qh f g p
 rw[this];show h d
def L8(f:X.A.units+64<cLine):OpR X (gi .NotIn) (λx y H Q=>∃c a b d p,x= .ref c/\y= .ref a/\H c\(.tup [.int p.1, .int p.2])/\H a\(.ext^gn (iC X.w) a b)/\fP H b d/\Q (.bl (not^AT (p∈d))) H):=by
 intro e s n H x y v u Q I g i h;rfl';let#[c,a,b,d,p,rfl,rfl,k,l,m,q]:=h;ac_rfl;cases g;cases i;show a_ (acd f I k l m λr=>ir #[.bl _,H,I.tok _,Y,q])
def Tb(hu:X.A.units+64<cLine):Vd X "set.add" (λx k H Q=>∃l c d a p,x= .ref l/\k= [.ref c]/\H c\(.tup [.int p.1, .int p.2])/\H l\(.ext^gn (iC X.w) l d)/\fP H d a/\a.length<=300/\
  (p∈a->Q .aT H)/\(p∉a->Q .aT^upd H l^.ext^gn (iC X.w) l (d++ [(bw p,c)]))):=by
 intro m s σ H x k v us Q I C E h;rfl';let#[l,c,d,a,p,rfl,rfl,J',n,g,hz,L',M]:=h;subst C;let#[u,rfl,N]:=E.one;subst N;let#[o,O,ep,t,q,S,f]:=I.qY n;have P:s.TypeIs (.ref l) "set":=#[o,q,S.ex.1];ac_rfl;apply adK F.slot_set_add P F.entry_set_add ?_^F.args_set_add_2 _ _;unfold Builtin.«set.add» Builtin.Frozenset.oneOther;simp only[List.isEmpty_nil,bind_assoc];unfold Builtin.Frozenset.addrOf setAdd;apply a_^ir ?_
 try dsimp only
 apply a_^ir ?_
 try dsimp only
 apply a_ ?_;apply IR ?_;have r:=I.qE J';apply a_^wpAny_pyHash_tuple ?_ r ?_
 .change X.A.units+1<cLine;lia
 have sz:O.size=a.length:=by
  have:=f.length_eq
  rw[dE,aG,g.len] at this;show this
 apply Hh (s:={s with toks:=s.toks+([p.1,p.2].length+1)}) (by change X.A.units+1<cLine;lia) q S (I.pes g f) r () (λR=>?_) λT h' y U Y' t' Z B S' wz=>?_
 .change e_ _ _ (ret Value.none) _ _ _
  show ir #[_,Y, .aT,H,I.tok _,Y,L'^(I.qh g f p).mp R]
 .change e_ _ _ (ret Value.none) _ _ _
  have j:p∉a:=λz=>by
   let#[i,c',h1,h2]:=(I.qh g f p).mpr z;show T i _ h1 c' rfl h2
  have I':=I.write (h':=h') (t':=s.toks+([p.1,p.2].length+1)) (x:=l) (e:=l) (o:= .ext^gn (iC X.w) l (d++ [(bw p,c)])) (by rw[n];trivial) (.inl rfl) (λb u hb e=>Z.extBut b u hb e) #[y,B]^gn.ok #[y,U,Y',t',B,S',by
   rw[cn];show wz.trans^f.append_right _]
  show ir #[_,Y, .aT,_,I',Y,M j]
def ac1(b:Bool)(r:V'->!V'->Hp->VK->Prop)(d:TE)(t:TA):TE:=λa H Q=>d a H λx c=>(∃p e,x= .ref p/\c p\(.ext^gn b p e))/\t a c λf g=>r x f g Q
variable {id : String}
theorem WU{b:Bool}(n:PlainAttrs "set")(slot:Slot "set" name id)(q:typeOf^.builtin id=pure^.type "method_descriptor")(u:Vd X id r)(w:PE X o to)(y:PA X (e::d) t)
  (A:eE o name X.env<|>zn)
  (B:((gM f^d_ (e::d) X.env).all (λx=>not^x.1)&&(jB f^ip [] X.env).all (λx=>x.1.isSome)
   &&AT ((e::d).length+([]:!j_).length+(if ([]:!j_).isEmpty then 0 else 1)<30))=L<|>zn)
  (C:(apos.endLine==f.line)=L<|>zn) (E:eI e d X.env<|>zn) (F:eB f d X.env<|>zn):
  PE X (.Call (.Attribute o name apos) (e::d) [] f)^ac1 b r to t:=by
 intro c s i H Q I h;apply agh A B C rfl (thn (w c s i H _ I h) λv G J'=>?_);rfl';let#[x,M,k,N,O,P]:=J';ac_rfl;rfl';let#[p,n5,rfl,R]:=O;subst N;let#[l,j,z,D,g,S,K]:=k.qY R;ac_rfl;apply#["set",id,n,slot,q,#[l,g,S.ex.1],λa T=>?_,?_]
 .cases T;show#[l,g,S.ex.2.1]
 have m:=y f c G i M _ k P;rw[E] at m ⊢;apply aeC (by change(At|| (gM f^d_ d X.env).any (·.1))=At;rw[F]<;>rfl)^Calls.evalArgs_plain ?_
 apply thn m λU Y' hH=>?_;let#[Z,H2,I2,r2,q2]:=hH;show u c Y' i H2 (.ref p) Z (.ref p) U Q I2 rfl r2 q2
end
def Jb(a:!(Int×Int))(p:Int×Int):!(Int×Int):=if p∈a then a else a++ [p]
section
def B6(p:Int×Int):D:= .tup [.int p.1, .int p.2]
def Dv.BO(h:Dv Z G v^B6 p):∃c,v= .ref c/\G c\(.tup [.int p.1, .int p.2]):=by
 rfl';let#[c,l,rfl,b,f]:=Dv.uG h;let#[m,n,rfl,g,i]:=f.mz;rw[g.ofInt,i.ofInt] at b;ac_rfl;show#[c,Y,b]
def abk(w:f8)(c:Bool):iQ:=λa b P=>∃p d,a=B6 p/\b= .x^.wA (iC w) d/\P^.bl^if c=L then not^AT (p∈d) else AT (p∈d)
def LX(d:X.A.units+64<cLine):OpR X (gi .NotIn)^cp Z^abk X.w true:=by
 apply(L8 d).imp ?_;rintro x y H Q ⟨G,a,b,P,s,f,g,⟨p,i,rfl,rfl,h⟩,q⟩;let#[c,rfl,j]:=f.BO;let#[e,k,rfl,l,ok]:=g.ofX;rfl';let#[e,n,rfl,r]:=ok;ac_rfl;show#[c,_,n,i,p,Y,Y,s _ _ j,s _ _ l,r.mono s,q _ h _ G H (.refl s)^.bl _]
def Vx(w:f8)(i:Nat):cW:=λE b=>E.nx^b.set i^J^.x^.wA (iC w) []
def OO(i:Nat)(n:X.N.Nodup)(q:Gl X "set")(r:X.mg "set"=V)(s:t.getD i 0=98<|>zn)(u:X.N[i]?\x<|>zn)(v:Loc X.env.scope x<|>yy)(y:hB (.Call (.Name "set" p) [] [] A) (J^.Name x d) m.line X.env=pure At<|>zn)
  (C:X.fn x=L\/X.env.scope.names.lookup x\.local<|>yy):DSt Z X t O (.Assign [.Name x d] (.Call (.Name "set" p) [] [] A) m)^Vx X.w i:=by
 apply(cc n u v (PB q r) y C).imp ?_;intro D P H F;rfl';obtain⟨B,R,E,⟨G,T,S⟩,h,M⟩:=F;ac_rfl;intro c g;have J':G c=none:=S.ex.sub.free g;have x:Ext G H G^upd H c^.ext^gn (iC X.w) c []:=#[.refl _,S.ex.sub.trans^az g _,az g _,λ_ _ z=>z];apply M.nx _ h _ _ #[G,_,(S.grow x).JT s (f:= [c]) (.inr^.inr #[c,_,Y,ah,Y, .inr #[Y,_,Y,ju,[],Y, .nil]]) (by simp) (λb l=>?_) λb l j _ L'=>?_]
 .rw[eO] at l;subst l
  show#[S.ex.hh.free g,(by rw[ah];show λz=>nomatch z),J']
 .rw[eO] at l;subst l
  show(S.nw j _ L').2.1 g
def Zs(w:f8)(f:!Nat)(m:Bool)(i:Nat)(g:bb):cW:=λE b=>∃c,b[i]?\(J^.x^.wA (iC w) c)/\g (MP f m b) λd=>∃p,d=B6 p/\c.length<=300/\E.nx^b.set i^J^.x^.wA (iC w)^Jb c p
def Q9(m:Bool)(i:Nat)(hu:X.A.units+64<cLine)(he:DE Z X e te)(s:md.getD i 0=98<|>zn)(hi:X.N[i]?\x<|>zn)(hv:vD X.env.scope x<|>yy)(t:eT x<|>zm)(gw:eR x<|>zm)
  (gv:eE (.Name x g) "add" X.env<|>zn)
  (qi:fX bp [e] X.env<|>zn)
  (eL:(apos.endLine==bp.line)=L<|>zn) (I:eI e [] X.env<|>zn) (iU:eB bp [] X.env<|>zn)
  (t7:hB (.Call (.Attribute (.Name x g) "add" apos) [e] [] bp) V pos.line X.env=pure At<|>zn):
  DSt Z X md rn (.Expr (.Call (.Attribute (.Name x g) "add" apos) [e] [] bp) pos)^Zs X.w md m i te:=by
 apply(dD (WU (b:=iC X.w) PySem.F.plainAttrs_set PySem.F.slot_set_add PySem.F.type_set_add (Tb hu) (pv i hi hv t gw) (ar he aC I) gv qi eL I iU) t7).imp ?_;intro D σ H aO;rfl';obtain⟨B,J',E,⟨G,L',S⟩,⟨O,n,h⟩,M⟩:=aO;ac_rfl;rfl';let#[v0,y,P]:=S.at_ i _ n;rw[s] at P;let#[l,φ,rfl,hl,f,nd,es,rfl,pe]:=P.xA;ac_rfl;apply#[_,y,#[l,_,Y,hl],S.ev m h λd t=>?_];let#[p,rfl,hz,q]:=t;apply#[by cases m<;>trivial,λv Q H' C x dv=>?_]
 rfl';let#[c,rfl,R]:=dv.BO;let#[v1,T,U]:=C.at_ i _ n;rw[y] at T;ac_rfl;cases Do T;rfl';rw[s] at U;let#[l',φ',e',DJ,Y',DU,n5,rfl,k]:=U.xA;cases e';ac_rfl;apply#[l,c,n5,O,p,Y,Y,x.sub _ _ R,DJ,k.mono x.sub,hz,λr=>?_,λr=>?_]
 .rw[Jb,mo r] at q
  apply M.nx _ q _ _ #[Q,L',?_]
  have e:J'.set i^J^.x^.wA (iC X.w) O=J':=by
   apply nN λj=>?_
   by_cases z:i=j
   .subst z
    have bX:=(cV.mp n).1;rw[l9 bX,n]
   .rw[kr z]
  rw[e];show C
 .rw[Jb,tz r] at q
  apply M.nx _ q _ _ #[Q,L',C.mut y (b:=l) (by rw[Y'];simp) ?_]
  rw[s,Y'];apply .inr^.inr #[l,_,Y,ah,Y, .inr #[Y,_,Y,?_,_,Y,k.snoc R]];rw[je];apply#[DU,by simp,λa ha b o z=>r ?_]
  rw[eO] at o;rw[<-o,<-z];show ha
end
section
def QG:c7:=λa P=>∃L':!!Nat,a= [.lst^L'.map aD]/\L'.length<=1000/\∀M:!!Nat,M.Perm L'->M.Pairwise iK->P^.lst^M.map aD
def VG(h:Dv Z G v^aD r):∃a,v= .ref a/\G a\(.lst^(ie r).map V'.int):=by
 let#[a,d,rfl,b,c]:=Dv.ft h
 have:d=(ie r).map V'.int:=by
  have e:r.map ax=(ie r).map D.int:=by unfold ie;rw[cQ];rfl
  rw[e] at c;show vK c
 rw[this] at b;show#[a,Y,b]
def Xg(h:G a\(.lst^(ie r).map V'.int)):Dv Z G (.ref a)^aD r:=by
 have e:aD r= .lst^(ie r).map D.int:=by unfold aD ie;rw[cQ];rfl
 rw[e];show .lst h^.ints _
theorem Ei:∀{b:!V'}{L':!!Nat},DvAll Z G b^L'.map aD->∃A:!(Ad×!Nat),b=A.map (λe=>V'.ref e.1)/\A.map (·.2)=L'/\Kt G A
 |b,[],h=>#[[],h.LY,Y,λp c=>by cases c]
 |b,r::L',h=>by
  let#[i,j,rfl,a,f]:=h.wo;let#[A,rfl,rfl,g]:=Ei f;let#[p,rfl,c]:=VG a;apply#[(p,r)::A,Y,Y,λq d=>?_]
  rcases bQ.mp d with rfl|d
  .show c
  .show g q d
theorem Kt.dv:∀{L':!(Ad×!Nat)},Kt G L'->DvAll Z G (L'.map λe=>V'.ref e.1)^(L'.map (·.2)).map aD
 | [],_=> .nil
 |x::L',h=> .cons (Xg^h x (c5 ..)) (Kt.dv λp a=>h p^eS _ a)
def KG(i:X.A.units+64<cLine):CallR X (.builtin "sorted")^jD Z QG:=by
 apply(AU i).imp ?_;rintro n H Q ⟨G,o,P,s,dv,⟨c,rfl,r,b⟩,q⟩;let#[v,rfl,a]:=dv.ofOne;let#[p,t,rfl,h,e]:=a.ft;let#[L',rfl,d,f]:=Ei e;have u:L'.length=c.length:=by rw[<-d];simp
 apply#[_,L',Y,aK.of^s _ _ h,λp b=>s _ _^f p b,(),λp M g m1 j=>?_]
 have k:(M.map (·.2)).Perm c:=by rw[<-d];show m1.map _
 have l:Kt (upd G p^.lst (M.map λe=>V'.ref e.1)) M:=λx m=>az (s.free g) _ _ _^f x^m1.mem_iff.mp m;show q _ (b _ k j) _ _ _ (.new s g)^.lst ah l.dv
end
section
def abq(d:!Nat)(i j:Nat)(e:gF):cW:=λE c=>e (dO d c) λf=>∃a b,f= [a,b]/\E.nx^(c.set i^J a).set j^J b
def Np(i j:Nat){kt k2 Md}(d:X.calm=L)(e:X.N.Nodup)(f:DA Z X [a,b] ta)(g:X.N[i]?\x<|>zn)(k:X.N[j]?\y<|>zn)(l:i≠j<|>zm)(m:md.getD i 0=0<|>zn)(n:md.getD j 0=0<|>zn)
  (o:X.env.scope.names.lookup x\.local<|>zn) (p:X.env.scope.names.lookup y\.local<|>zn)
  (hw:li [.Tuple [.Name x c, .Name y py] kt pt] (.Tuple [a,b] k2 Md) X.env=pure^J [x,y]<|>zn)
  (q:lf [.Tuple [.Name x c, .Name y py] kt pt] (.Tuple [a,b] k2 Md) pos.line X.env=pure At<|>zn):
  DSt Z X md rn (.Assign [.Tuple [.Name x c, .Name y py] kt pt] (.Tuple [a,b] k2 Md) pos)^abq md i j ta:=by
 apply(W7 d e g k l o p f hw q).imp ?_;intro D J' H r;rfl';obtain⟨B,t,E,⟨G,O,S⟩,h,M⟩:=r;ac_rfl;exists G,dO md t,_,S.ex.sub,S.El,h;rintro _ ⟨a,b,rfl,w⟩ P A Q x C;let#[v,u,rfl,F,I]:=C.mz;show#[v,u,Y,M.nx _ w _ _ #[A,_,((S.grow x).qY m F).qY n I]]
end
def br.ok{P:ff}{w:f8}{H:Hp}{a:Ad}{vs:!FV}(x:br a c vs h):bR P w H h a^.ext^br a c vs:=by
 apply#[x,let #[_,o,_,_,b,_]:=x;#[o,b],λf g p k=>?_];let#[z,o,d,e,b,r]:=p;show#[z,o,d,e,k o b,r]
inductive mP (H:Hp):!(Int×Ad)->!(Int×Int)->!FV->!(!Int×Ad×Value)->Prop
 |nil:mP H [] [] [] []
 |cons {a:Ad} {p:Int×Int} {v:FV} {u:Value} {es:!(Int×Ad)} {ks:!(Int×Int)} {vs:!FV} {xs:!(!Int×Ad×Value)}:H a\(.tup [.int p.1, .int p.2])->Ox v u->mP H es ks vs xs->mP H ((bw p,a)::es) (p::ks) (v::vs) (([p.1,p.2],a,u)::xs)
def mP.keys(h:mP H c a d b):b.map (·.1)=a.map λp=> [p.1,p.2]:=by
 induction h with
 |nil=>rfl
 |cons _ _ _ e=>rw[b9,b9,e]
def mP.len{xs:!(!Int×Ad×Value)}(h:mP H b a c xs):xs.length=a.length:=by
 induction h with
 |nil=>rfl
 |cons _ _ _ d=>show KB (·+1) d
def mP.snoc(f:H a\(.tup [.int p.1, .int p.2]))(h:Ox v u){e:!(!Int×Ad×Value)}(k:mP H b c d e):mP H (b++ [(bw p,a)]) (c++ [p]) (d++ [v]) (e++ [([p.1,p.2],a,u)]):=by
 induction k with
 |nil=>show .cons f h .nil
 |cons g i _ j=>show .cons g i j
def zb(P:ff)(w:f8)(p:Int×Int)(a:Ad)(u:b_):nz (ix^fE P w) ([p.1,p.2],a,u)=#[bw p, .ref a,u]:=by
 unfold nz;rw[show(ix^fE P w).hash [p.1,p.2]=bw p from oK P w p]
def ZX(d:Ou l b g):∀{c:!(Int×Int)},fP H b c->∃f,mP H b c g f/\∀(P:ff)(w:f8),l=f.map^nz^ix^fE P w:=by
 induction d with
 |nil=>intro c i;cases i;show#[[], .nil,λ_ _=>rfl]
 | @cons e l h a v b g j k m d n=>
  intro c i;cases i with
  | @cons _ p _ r h t=>
   let#[f,o,q]:=n t;apply#[([p.1,p.2],a,e.val)::f, .cons h m o,λP w=>?_];rw[b9,<-q P w,zb];let#[s,u,ev]:=e;simp only at j k ⊢;rw[j,k]
def KY{e:!(Int×Int)}(d:mP H a e b c):Ou (c.map^nz^ix^fE P w) a b:=by
 induction d with
 |nil=>show .nil
 |cons _ h t f=>
  rw[b9,zb];show .cons rfl rfl h f
def mP.isKey(I:Inv X a e H s)(d:mP H f g i c):∀x∈c,IsTupleKey (intKind X.prog X.w) s.heap x.1 x.2.1:=by
 induction d with
 |nil=>intro x b;cases b
 |cons h _ _ j=>
  intro x b
  rcases bQ.mp b with rfl|b
  .show I.qE h
  .show j x b
def jQ{K:Type} [DecidableEq K] {b:!(K×Ad×Value)} {k:K}:(atKey b k).isSome=L↔k∈b.map (·.1):=by
 unfold atKey;rw[Option.isSome_map,List.find?_isSome,bS]
 constructor
 .rintro⟨x,a,e⟩;show#[x,a,KF e]
 .rintro⟨x,a,e⟩;show#[x,a,FM e]
def nu{p:Int×Int}{a:!(Int×Int)}: [p.1,p.2]∈a.map (λp=> [p.1,p.2])↔p∈a:=by
 rw[bS]
 constructor
 .rintro⟨q,b,e⟩
  simp at e;rw[<-show q=p from adS e.1 e.2];show b
 .intro h;show#[p,h,Y]
def Jy{c:!(Int×Int)}(h:c.Nodup):(c.map λp=> [p.1,p.2]).Nodup:=by
 rw[Kr,gX];rw[Kr] at h;show h.imp λ {a b} n e=>n^by simp at e;show adS e.1 e.2
section
def Inv.Q7(I:Inv X pins σ H s)(h:H a\(.ext^br a b e))(f:fP H b c)(g:c.Nodup):
  (a==jk)=At/\∃xs,mP H b c e xs/\s.heap.DictOfH (ix^fE X.prog X.w) a xs:=by
 rfl';let#[z,o,j,k,l,m,n,p]:=(I.hok a _ h).1;let#[xs,d,q]:=ZX p f;ac_rfl;show#[z,xs,d,o,j,k,l,m,n,q _ _,d.isKey I,by rw[d.keys];show Jy g]
def TN:PE X (.Dict [] [] b) (λd H Q=>∀q,H q=V->Q (.ref q)^upd H q^.ext^br q [] []):=by
 intro c s d H Q I h;have e:=I.hok.fresh^bu s.heap.objs.size;apply wpAny_Dict_empty #[.ref s.heap.objs.size,_,I.laid (a:=s.heap.objs.size) (t':=s.toks) (λ_ _ q=>AC _ q) (bu _) (o:= .ext^br s.heap.objs.size [] [])^br.ok #[?_,_, #[],0,GM _ rfl,#[Y,Y,Y],Y, .nil],Y,h _ e];have f:f5<s.heap.objs.size:=(I.mod.glob.keeps I.bk).lt;have g:jk<s.heap.objs.size:=agC ∅ f
 show Wp.mpr^Ne.symm^bP g
def Jx(F:X.A.units+64<cLine):OpR X (gi .NotIn) (λx y H Q=>∃c a d b g p,x= .ref c/\y= .ref a/\H c\(.tup [.int p.1, .int p.2])/\H a\(.ext^br a d g)/\fP H d b/\b.Nodup/\Q (.bl (not^AT (p∈b))) H):=by
 intro i s G H x y v u Q I l m h;rfl';let#[c,a,d,b,g,p,rfl,rfl,o,r,t,B,q]:=h;ac_rfl;cases l;cases m;rfl';let#[z,C,j,E]:=I.Q7 r t B;ac_rfl
 have:(nP C [p.1,p.2]).isSome=AT (p∈b):=by
  by_cases e:p∈b
  .rw[FM e];show jQ.mpr^by rw[j.keys];show nu.mpr e
  .rw[GE e]
   apply zM.mpr ?_;show λz=>e^nu.mp^by rw[<-j.keys];show jQ.mp z
 show PyProof.Rows.wpAny_notIn_heap (knd:=ix^fE X.prog X.w) (k:= [p.1,p.2]) (by change X.A.units+1<cLine;lia) (I.qE o) z E^by rw[this];show#[.bl _,H,I.tok _,Y,q]
def vF:FV->V'
 | .int i=> .int i
 | .bl b=> .bl b
def FQ(h:RelV (vF f) u):Ox f u:=by
 cases f with
 |int i=>show h
 |bl b=>show h
def aaU(h j k:TE):TS:=λD b H=>k b H λv l=>h b l λx m=>j b m λy d=>∃a c f e g p fv,x= .ref a/\y= .ref c/\v=vF fv/\d a\(.ext^br a f g)/\d c\(.tup [.int p.1, .int p.2])/\fP d f e/\e.Nodup/\p∉e/\e.length<=300/\D.nx b^upd d a^.ext^br a (f++ [(bw p,c)]) (g++ [fv])
def T5(hu:X.A.units+64<cLine)(G:PE X o td)(J':PE X i ti)(L':PE X value tv)(M:hB value (J^.Subscript o i pos') pos.line X.env=pure At<|>zn):PS X (.Assign [.Subscript o i pos'] value pos)^aaU td ti tv:=by
 intro d s f H D I h;apply wpAny_Assign_Subscript (thn (L' d s f H _ I h) λr N hH=>?_) M;let#[v,O,P,Q,R]:=hH;apply thn (G d N f O _ P R) λu S hH=>?_;let#[x,T,U,Y',Z]:=hH;apply thn (J' d S f T _ U Z) λiv s3 hH=>?_;let#[y,H3,g,ry,a,c,m,ks,n,p,fv,e1,e2,e3,t,B,pe,nd,np,hz,q3]:=hH;subst e1 e2 e3;cases Y';cases ry;let#[z,j,l,hm]:=g.Q7 t pe nd;apply wpAny_setItem_heap (knd:=ix^fE X.prog X.w) (k:= [p.1,p.2]) (by change X.A.units+1<cLine;lia) (g.qE B) hm (λh' C sb=>?_)^small^by rw[l.len];lia
 have na:nP j [p.1,p.2]=none:=by
  cases e:nP j [p.1,p.2] with
  |none=>rfl
  |some q=>show absurd (nu.mp^by rw[<-l.keys];show jQ.mp^by rw[e];rfl) np
 rw[storedH_new na] at C;rfl';have x2:mP H3 (m++ [(bw p,c)]) (ks++ [p]) (n++ [fv]) (j++ [([p.1,p.2],c,r)]):=l.snoc B^FQ Q;let#[E,Rm,xO,F,oi,jA,t5,K,V']:=C;have I':=g.write (h':=h') (t':=s3.toks+(ix^fE X.prog X.w).draws [p.1,p.2]) (x:=a) (e:=a) (o:= .ext^br a (m++ [(bw p,c)]) (n++ [fv])) (by rw[t];trivial) (.inl rfl) (λb u hb e=>sb.extBut b u hb e) #[E,F]^br.ok #[z,E,Rm,xO,F,oi,jA,by rw[t5];show KY x2]
 ac_rfl;show#[f,_,I',q3]
end
section
def abj(c:Bool):iQ:=λa b P=>∃p d f,a=B6 p/\b= .x^.dH d f/\P^.bl^if c=L then not^AT (p∈d) else AT (p∈d)
def LW(d:X.A.units+64<cLine):OpR X (gi .NotIn)^cp Z^abj true:=by
 apply(Jx d).imp ?_;rintro x y H Q ⟨G,a,b,P,s,f,g,⟨p,i,j,rfl,rfl,h⟩,q⟩;let#[c,rfl,l]:=f.BO;let#[e,k,rfl,m,ok]:=g.ofX;rfl';let#[r,t,rfl,u]:=ok;ac_rfl;show#[c,_,t,i,j,p,Y,Y,s _ _ l,s _ _ m,u.mono s,r,q _ h _ G H (.refl s)^.bl _]
def Zu(i:Nat):cW:=λE b=>E.nx^b.set i^J^.x^.dH [] []
def Ik(i:Nat)(n:X.N.Nodup)(p:q.getD i 0=98<|>zn)(r:X.N[i]?\x<|>zn)(s:Loc X.env.scope x<|>yy)(t:hB (.Dict [] [] u) (J^.Name x d) m.line X.env=pure At<|>zn)
  (v:X.fn x=L\/X.env.scope.names.lookup x\.local<|>yy):DSt Z X q F (.Assign [.Name x d] (.Dict [] [] u) m)^Zu i:=by
 apply(cc n r s TN t v).imp ?_;intro D I H w;rfl';obtain⟨B,L',E,⟨G,O,S⟩,h,M⟩:=w;ac_rfl;intro c g;have A:G c=none:=S.ex.sub.free g;have x:Ext G H G^upd H c^.ext^br c [] []:=#[.refl _,S.ex.sub.trans^az g _,az g _,λ_ _ z=>z];apply M.nx _ h _ _ #[G,_,(S.grow x).JT p (f:= [c]) (.inr^.inr #[c,_,Y,ah,Y, .inr #[Y,_,Y,ju,[],Y, .nil]]) (by simp) (λb l=>?_) λb l j _ C=>?_]
 .rw[eO] at l;subst l
  show#[S.ex.hh.free g,(by rw[ah];show λz=>nomatch z),A]
 .rw[eO] at l;subst l
  show(S.nw j _ C).2.1 g
def K2:FV->D
 | .int i=> .int i
 | .bl b=> .bl b
def Dv.Tn(h:Dv Z G v^K2 f):v=vF f:=by
 cases f with
 |int i=>show h.ofInt
 |bl b=>show h.BN
def ZM(f:!Nat)(i:Nat)(h j:bb):cW:=λE b=>j (dO f b) λd=>∃fv c g,d=K2 fv/\b[i]?\(J^.x^.dH c g)/\h (dO f b) λl=>∃p,l=B6 p/\p∉c/\c.length<=300/\E.nx^b.set i^J^.x^.dH (c++ [p]) (g++ [fv])
def Im(i:Nat)(T:X.A.units+64<cLine)(U:DE Z X k tk)(Y':DE Z X e te)(m:md.getD i 0=98<|>zn)(o:X.N[i]?\x<|>zn)(hv:vD X.env.scope x<|>yy)(n:eT x<|>zm)(gw:eR x<|>zm)
  (hs:hB e (J^.Subscript (.Name x r) k g) pos.line X.env=pure At<|>zn):DSt Z X md rn (.Assign [.Subscript (.Name x r) k g] e pos)^ZM md i tk te:=by
 apply(T5 T (pv i o hv n gw) U Y' hs).imp ?_;intro D σ H aO;rfl';obtain⟨B,ρ,E,⟨G,fp,S⟩,h,M⟩:=aO;ac_rfl;apply S.ev At h λd n=>#[trivial,λv G1 H1 s x1 dv=>?_];rfl';let#[fv,ks,vs,rfl,t,h2]:=n;ac_rfl;obtain rfl:=dv.Tn;rfl';let#[v0,q,w]:=s.at_ i _ t;rw[m] at w;let#[l,φ,rfl,hl,f,nd,es,rfl,pe]:=w.xA;ac_rfl;apply#[_,q,s.ev At h2 λkd V0=>#[trivial,λu G2 H2 y C du=>?_]];rfl';let#[p,rfl,F,hz,hn]:=V0;let#[c,rfl,I]:=du.BO;let#[v1,J',L']:=y.at_ i _ t;rw[q] at J';ac_rfl;cases Do J';rfl';rw[m] at L';let#[l',φ',e',DJ,O,P,n5,rfl,Q]:=L'.xA;cases e';ac_rfl;apply#[l,c,n5,ks,vs,p,fv,Y,Y,Y,DJ,C.sub _ _ I,Q.mono C.sub,P,F,hz,M.nx _ hn _ _ #[G2,fp,y.mut q (b:=l) (by rw[O];simp) ?_]]
 rw[m,O];apply .inr^.inr #[l,_,Y,ah,Y, .inr #[Y,_,Y,?_,_,Y,Q.snoc I]];rw[je];apply#[P,by simp,λa ha b R z=>F ?_]
 rw[eO] at R;rw[<-R,<-z];show ha
end
section
def LN(s:md.getD i 0=1)(S:SIx Z B md ρ σ H G fp)(h:t ρ λd=>d.all fO=L/\E.nx^ρ.set i^J^.lst d)(M:Meets Z X B md rn E n):Gq Z 1 t σ H λv p=>n.nx (σ.set i^J v) p:=by
 exists H,ρ,_, .refl _,S.Ir,h;rintro d ⟨u,w⟩ v f L' p x o N q;have y:=S.grow^Ext.all S.ex.sub x;let#[a,A,O,P,rfl,C,F,r,I]:=o.lst;cases C;let#[dv,rfl]:=I.flat;have l:H a=none:=(q a^by rw[r];simp).1
 apply M.nx _ w _ _ #[G,_,y.JT (f:= [a]) s (.inl #[a,A,d,[],Y,Y,F,Y,(dv.flat u).own]) (by simp) (λb m=>?_) λb m j _ J'=>?_]
 .have:b=a:=by simpa using m
  subst this;show#[S.ex.hh.free l,(q b^by rw[r];simp).2.1,S.ex.sub.free l]
 .have:b=a:=by simpa using m
  subst this;show(S.nw j b J').2.1 l
def KR(i:Nat)(f:X.calm=L)(j:X.N.Nodup)(c:bG X scope)(l:dM scope X.N src NC)(m:DI Z X tg iter wi)
  (n:∀a s H,DG Z (bJ X scope NC a s H) tg g) (o:∀a s H,De Z (bJ X scope NC a s H) ifs tt') (p:∀a s H,DE Z (bJ X scope NC a s H) elt te)
  (q:hB (.ListComp elt [#[tg,iter,ifs,0]] scope pos) (J^.Name x b) d.line X.env=pure L<|>zn) (r:md.getD i 0=1<|>zn) (t:X.N[i]?\x<|>zn) (u:Loc X.env.scope x<|>yy)
  (v:X.fn x=L\/X.env.scope.names.lookup x\.local<|>yy)
  (w:(∀x,f_ iter X.env x=pure x)<|>xz):DSt Z X md rn (.Assign [.Name x b] (.ListComp elt [#[tg,iter,ifs,0]] scope pos) d)^QS i^Z4 wi g tt' te src:=by
 apply(kQ f j t u c l m n o p q v w).imp ?_;intro F y H A;rfl';obtain⟨B,J',E,⟨G,L',S⟩,h,M⟩:=A;ac_rfl;show Jl y H _^LN r S h M
end
end L2
namespace Wb
def gY(w:W)(d:Nat×Nat)(r:!(Nat×Nat)):Prop:=∃k,0<k/\cU w k d=d/\(∀j,0<j->j<k->cU w j d≠d)/\r=walk w d k
def nh:e∈walk w d k↔∃i,i<k/\e=cU w i d:=by
 unfold walk;rw[bS]
 constructor
 .rintro⟨i,a,rfl⟩;show#[i,gf.mp a,Y]
 .rintro⟨i,a,rfl⟩;show#[i,gf.mpr a,Y]
def gY.first(h:gY w d r):d∈r:=by
 let#[k,a,_,_,rfl]:=h;show nh.mpr #[0,a,Y]
def gY.next(h:gY w d r)(a:e∈r):qs w e∈r:=by
 let#[k,b,f,_,rfl]:=h;let#[i,g,rfl]:=nh.mp a
 by_cases c:i+1<k
 .show nh.mpr #[i+1,c,Y]
 .have:i+1=k:=()
  apply nh.mpr #[0,b,?_];change cU w (i+1) d=d;rw[this];show f
theorem gY.iter(h:gY w d r)(a:e∈r):∀n,cU w n e∈r
 |0=>a
 |n+1=>h.next^h.iter a n
def gY.back(h:gY w d r)(a:e∈r):∃n,cU w n e=d:=by
 let#[k,c,b,_,rfl]:=h;let#[i,f,rfl]:=nh.mp a;exists k-i;rw[<-Bw i (k-i),show k-i+i=k by lia]
 show b
def gY.nodup(g:Good w)(h:gY w d r)(a:aP w d):r.Nodup:=by
 let#[k,c,e,b,rfl]:=h;show rg g a b
def gY.bh(g:Good w)(h:gY w d r)(a:aP w d):∀e∈r,aP w e:=by
 let#[k,b,c,f,rfl]:=h;show oU g a
structure Wk (w:W) (ds:!(Nat×Nat)) (i:Nat) (rs:!!(Nat×Nat)):Prop where
 rnd:∀r∈rs,∃d,gY w d r/\aP w d/\∀e∈r,lexLe d e
 nod:rs.flatten.Nodup
 met:∀j e,j<i->ds[j]?\e->e∈rs.flatten
def Wk.zero(w:W)(a:!(Nat×Nat)):Wk w a 0 []:=#[(λr h=>by cases h),ju,(λj e h=>by lia)]
def Wk.skip(h:Wk w a i b)(g:a[i]?\d)(k:d∈b.flatten):Wk w a (i+1) b:=
 #[h.rnd,h.nod,λj e l f=>by
  by_cases c:j=i
  .subst c;rw[g] at f;cases f;show k
  .show h.met j e () f]
def Wk.take(g:Good w){k:!(Nat×Nat)}(all:∀e,aP w e->e∈k)(dart:∀e∈k,aP w e)(srt:k.Pairwise lexLe){i:Nat}{o:!!(Nat×Nat)}(h:Wk w k i o)(p:k[i]?\d)(u:d∉o.flatten)(l:gY w d r):Wk w k (i+1) (o++ [r]):=by
 have s:aP w d:=dart d^cG p
 have off:∀e∈r,e∉o.flatten:=λe f v=>by
  let#[q,t,x]:=lJ.mp v;let#[L',y,D,K]:=h.rnd q t;let#[n,A]:=l.back f;show u^lJ.mpr #[q,t,by rw[<-A];show y.iter x n]
 apply#[λq B=>?_,?_,λj e m f=>?_]
 .rcases cM.mp B with z|z
  .show h.rnd q z
  .rw[eO.mp z]
   apply#[d,l,s,λe f=>?_];let#[j,m]:=jm^all e^l.bh g s e f
   by_cases c:j<i
   .show absurd (h.met j e c m)^off e f
   .by_cases C:j=i
    .subst C;rw[p] at m;cases m
     show .inr #[Y,bu _]
    .obtain⟨E,F⟩:=cV.mp p
     let#[G,H]:=cV.mp m;rw[<-F,<-H];show C2.mp srt i j E G ()
 .rw[xr,je]
  apply#[h.nod,by simpa using l.nodup g s,λa I b J' e=>?_]
  subst e;show off a (~~~J') I
 .rw[xr,cM]
  by_cases c:j=i
  .subst c;rw[p] at f;cases f
   exact .inr^~~~l.first
  .show .inl^h.met j e () f
def Wk.fin(g:Good w)(all:∀e,aP w e->e∈a)(h:Wk w a a.length b):b.flatten.Perm^bh w:=by
 have sub:∀e,e∈b.flatten↔e∈bh w:=λe=>by
  rw[ba]
  constructor
  .intro c
   let#[r,k,f]:=lJ.mp c;let#[d,R,l,m]:=h.rnd r k;show R.bh g l e f
  .intro c
   let#[j,i]:=jm^all e c;show h.met j e (cV.mp i).1 i
 show(xk h.nod^dh g).mpr sub
def Xf(g:Good w)(p:aP w d):∃r,gY w d r:=by
 have:∃k,0<k/\cU w k d=d:=FS λq=>by
  have h:∀j,0<j->cU w j d≠d:=λj a e=>q #[j,a,e]
  have:=rf g p (k:=(bh w).length+1) λj a _=>h j a
  lia
 let#[k,i]:=this
 have:∀n k,k<=n->0<k->cU w k d=d->∃m,0<m/\cU w m d=d/\∀j,0<j->j<m->cU w j d≠d:=by
  intro n
  induction n with
  |zero=>intro k s l;lia
  |succ n t=>
   intro k s l u
   by_cases c:∃j,0<j/\j<k/\cU w j d=d
   .obtain⟨j,b,o,f⟩:=c
    show t j () b f
   .show#[k,l,u,λj b o f=>c #[j,b,o,f]]
 let#[m,m1,v,x]:=this k k (bu _) i.1 i.2;show#[_,m,m1,v,x,Y]
structure bZ (w:W) (rs:!!(Nat×Nat)):Prop where
 rnd:∀r∈rs,∃d,gY w d r/\aP w d/\∀e∈r,lexLe d e
 perm:rs.flatten.Perm^bh w
def bZ.Jv(R:bZ w a)(p:b.Perm a):bZ w b:=
 #[λr c=>R.rnd r^p.mem_iff.mp c,(p.flatten).trans R.perm]
def iR(g:Good w)(h:aP w d):d.1≠d.2:=λe=>g.irr d.1^by have:d.2∈row w d.1:=h;rw[<-e] at this;show this
def KC{w:W}(g:Good w){f:!(Nat×Nat)}(l:f.Perm^cL (row w) w.length):(f++f.map λt=>(t.2,t.1)).Perm^bh w:=by
 have e:=b7 w;have n:=dh g
 have m:∀t,t∈f↔aP w t/\t.1<t.2:=λt=>by
  rw[l.mem_iff,e,kB,ba,decide_eq_true_eq]
 have i:f.Nodup:=l.nodup_iff.mpr^by rw[e];show n.filter _
 apply(xk ?_ n).mpr λd=>?_
 .rw[je]
  apply#[i,?_,λa o b p z=>?_]
  .rw[Kr,gX]
   rw[Kr] at i;show i.imp λ {a b} h z=>h^adS (aej z).2 (aej z).1
  .obtain⟨c,j,rfl⟩:=bS.mp p
   have k:=((m a).mp o).2;have q:=((m c).mp j).2;rw[z] at k;have k:c.2<c.1:=k;lia
 .rw[cM,bS,ba]
  constructor
  .rintro(h| ⟨c,j,rfl⟩)
   .show((m d).mp h).1
   .show g.sym _ _ ((m c).mp j).1
  .intro h
   rcases Nat.lt_or_gt_of_ne^iR g h with c|c
   .show .inl^(m d).mpr #[h,c]
   .show .inr #[(d.2,d.1),(m _).mpr #[g.sym _ _ h,c],Y]
def gY.uniq(h:gY w d r)(b:gY w d a):r=a:=by
 let#[k,e,f,g,rfl]:=h;let#[m,i,j,l,rfl]:=b
 rcases aey k m with c|c|c
 .show absurd f^l k e c
 .rw[c]
 .show absurd j^g m i c
def bZ.sub{f b:!!(Nat×Nat)}(R:bZ w f)(g:bZ w b):∀r∈f,r∈b:=λr j=>by
 let#[d,c,k,l]:=R.rnd r j;have m:d∈b.flatten:=g.perm.mem_iff.mpr^ba.mpr k;let#[o,h,a]:=lJ.mp m;let#[p,i,u,q]:=g.rnd o h;let#[n,s]:=i.back a;have t:lexLe d p:=by rw[<-s];exact l _^c.iter c.first n
 have e:=kP t^q d a;subst e;rw[c.uniq i];show h
def bZ.ne{w:W}{a:!!(Nat×Nat)}(R:bZ w a):∀r∈a,r≠ []:=λr b z=>by
 let#[d,c,e]:=R.rnd r b
 have:=c.first
 rw[z] at this;cases this
theorem zd:∀{l:!!c},l.flatten.Nodup->(∀r∈l,r≠ [])->l.Nodup
 | [],_,_=>ju
 |a::l,h,b=>by
  rw[mj,je] at h;apply pK.mpr #[λd=>?_,zd h.2.1 λr e=>b r^eS _ e];cases a with
  |nil=>show b [] (c5 ..) rfl
  |cons x a=>show h.2.2 x (c5 ..) x (lJ.mpr #[_,d,c5 ..]) rfl
def bZ.nodup(g:Good w)(R:bZ w a):a.Nodup:=zd (R.perm.nodup_iff.mpr^dh g) R.ne
abbrev hZ(a:!!(Nat×Nat)):!!Nat:=a.map λr=>r.map (·.1)
def LK(h:L2.iK a b)(c:L2.iK b a):a=b:=by
 have:=L2.we (L2.ie a) (L2.ie b) c h
 show L2.J9^by rw[this]
def bZ.uniq(g:Good w)(R:bZ w a)(c:bZ w b)(s:(hZ a).Pairwise L2.iK)(d:(hZ b).Pairwise L2.iK):hZ a=hZ b:=by
 have e:a.Perm b:=(xk (R.nodup g)^c.nodup g).mpr λr=>#[R.sub c r,c.sub R r];show adV (λ_ _ _ _=>LK) s d^e.map _
open Classical in
def x9(w:W):!(!Nat):=if h:∃rs,bZ w rs/\(hZ rs).Pairwise L2.iK then hZ h.choose else[]
def yl(g:Good w)(R:bZ w a)(s:(hZ a).Pairwise L2.iK):x9 w=hZ a:=by
 have h:∃a,bZ w a/\(hZ a).Pairwise L2.iK:=#[a,R,s];unfold x9;rw[dif_pos h];show h.choose_spec.1.uniq g R h.choose_spec.2 s
def Ui(h:gY w d r)(a:i<r.length):r.getD ((i+1)%r.length) (0,0)=qs w^r.getD i (0,0):=by
 let#[k,b,f,l,rfl]:=h;rw[jJ] at a ⊢
 have at_:∀j,j<k->(walk w d k).getD j (0,0)=cU w j d:=λj g=>by
  unfold walk;rw[cy,dF,xq g];rfl
 rw[at_ i a]
 by_cases c:i+1<k
 .rw[xv c,at_ _ c];rfl
 .have e:i+1=k:=()
  rw[e,ae2,at_ 0 b];change d=cU w (i+1) d;rw[e,f]
def Ew(r:!(Nat×Nat))(i:Nat):(r.map (·.1)).getD i 0=(r.getD i (0,0)).1:=by
 rw[cy,cy,dF];cases r[i]? <;>rfl
def Qd(a:l.Nodup)(h:i+1<l.length):e8 l^l.getD i 0=l.getD (i+1) 0:=by
 have e:l.getD i 0=l[i]:=by rw[cy,bT ()];rfl
 unfold e8;rw[e,a.idxOf_getElem i (),xv h]
def MC(a:l.Nodup)(h:i+1=l.length):e8 l^l.getD i 0=l.getD 0 0:=by
 have e:l.getD i 0=l[i]:=by rw[cy,bT ()];rfl
 unfold e8;rw[e,a.idxOf_getElem i (),h,ae2]
section
variable {w:W} {R:!Nat} {A:Nat×Nat->Prop} {v m:Nat} {y:Nat->Nat}
end
def Bi{l:!Nat}{i:Nat}(h:i<l.length):l.getD i 0∈l:=by
 rw[cy,bT h];show j5 h
def T3(a:R.Nodup)(h:x∈R):∃b,b∈R/\e8 R b=x:=by
 let#[i,d,rfl]:=List.mem_iff_getElem.mp h;have e:R[i]=R.getD i 0:=by rw[cy,bT d];rfl
 by_cases c:i=0
 .subst c
  show#[R.getD (R.length-1) 0,Bi (),by rw[MC a (),e]]
 .apply#[R.getD (i-1) 0,Bi (),?_]
  rw[Qd a (),show i-1+1=i by lia,e]
section
variable {w:W} {R:!Nat} {A:Nat×Nat->Prop}
end
def Gm(a b:Nat×Nat):lexLe a b\/lexLe b a:=by unfold lexLe;lia
def Gn(h:lexLe a b)(d:lexLe b c):lexLe a c:=by unfold lexLe at*;lia
end Wb
namespace L2
open PySem PySem.Spec PyProof.Rows
section
def QV(i:Nat)(t:cW):cW:=λE a=>(∃d,a[i]?\(J d))/\t {nx:=λ_=>False,rt:=E.rt} a
def fL(i:Nat)(h:mO Z X (md.set i 0) 0 f t):mO Z X md 0 f^QV i t:=by
 apply kE.imp h ?_;intro r s H k;rfl';obtain⟨B,m,E,⟨G,x,S⟩,⟨⟨d,g⟩,n⟩,M⟩:=k;let#[v,o,dv,a]:=S.N0 g;ac_rfl;apply#[B,m,_,#[_,_,#[a.ex,a.fl,S.len,λj c b=>?_,a.nd,a.ap,a.nw]],n,#[λ_ z=>z.elim,M.rt,λ_ z=>z.elim,λ_ z=>z.elim,λ_ _ z=>z.elim]]
 by_cases e:j=i
 .subst e
  rw[g] at b;cases Do b;exists v,o
  have:(md.set j 0).getD j 0=0:=by
   rw[cy,kA]
   split<;>first| (split<;>rfl) |exact absurd rfl ‹_›
  rw[this,mo rfl];show#[dv,Y]
 .obtain⟨u,p,q⟩:=a.at_ j c^by rw[kr^Ne.symm e];show b
  exists u,p
  have:(md.set i 0).getD j 0=md.getD j 0:=by rw[cy,cy,kr^Ne.symm e]
  rw[this];show q
end
end L2
namespace PySem
abbrev nV(h:Heap)(z TI TO a:Ad)(f:Bool):Prop:=
 h.get? z\{cls:= .type "zip",dict:=V,data:= .fields [rawInt a, .bool f, .bool At, .ref TI, .ref TO].toArray,slots:= #[]}
section
theorem Fj(b:nV s.heap z TI TO a f)(h:s.heap.get? a\g)
  (e:∀c,nV c z TI TO a L->Heap.SameBut z s.heap c->Q At {s with heap:=c}):e_ (ei prog w) A (Builtin.SmallTypes.ownedTupleIsFree^.ref z) Q E s:=by
 unfold Builtin.SmallTypes.ownedTupleIsFree;apply a_^adL b rfl (x:=lp a) rfl ?_;change e_ _ _ (loadIfAlive^(a:Int).toNat>>=_) _ _ _;rw[lH];apply a_^PySem.W.kdx_alive h ?_;simp only[Option.isNone_some,fA,Pi];apply a_^adL b rfl (x:= .bool f) rfl ?_;cases f with
 |true=>
  rw[tz (show ¬((Value.bool L !=Value.bool L)=L) from c9)];show ir^e _ b^Heap.SameBut.refl _ _
 |false=>
  rw[mo (show(Value.bool At !=Value.bool L)=L from rfl)];show a_ (wpAny_setField_rec b (by simp) λi j d=>ir^e _ j d)
def D7{z TI TO b d j k a:Ad}{f:Bool}{L':Obj}{n p:Nat}{H I:Array b_}{x y:b_}{Q:b_->c_->Prop}(D:jq z TI TO b d j k)
  (q:nV s.heap z TI TO a f) (M:s.heap.get? a\L') (N:nC s.heap TI (.ref b)^.ref d)
  (O:s.heap.IsListIter b j n) (P:s.heap.IsListIter d k p) (R:s.heap.IsList j H) (S:s.heap.IsList k I) (T:H[n]?\x) (U:I[p]?\y)
  (X:∀g,nV g z TI TO a L->g.IsListIter b j (n+1)->g.IsListIter d k (p+1)->nC g s.heap.objs.size x y->g.objs.size=s.heap.objs.size+1->
   (∀c o,c≠z->c≠b->c≠d->s.heap.get? c\o->g.get? c\o)->Q (.ref s.heap.objs.size) {s with heap:=g}):
  e_ (ei prog w) A (Builtin.«zip.__next__» #[[.ref z],[]]) (λfin Y'=>∃v,fin= .done^.ret v/\Q v Y') E s:=by
 change e_ _ _ (field (.ref z) 2>>=_) _ _ _;apply a_^adL q rfl (x:= .bool At) rfl ?_;apply a_^adL q rfl (x:= .ref TI) rfl ?_;apply a_^aee N rfl ?_;apply a_ (Fj q M λJ' Z h=>?_);simp only[fA,Pi];apply a_ ?_;simp only[<-HB,aga,List.forIn_nil];apply a_^a_^IR ?_;change e_ _ _ (Builtin.SmallTypes.nextOf^.ref b>>=_) _ _ _;apply a_ (aeE (O.extBut h.extBut D.i1z) (R.extBut h.extBut D.l1z) T λSE RJ i=>ir ?_);apply ir ?_;apply a_^a_^IR ?_;change e_ _ _ (Builtin.SmallTypes.nextOf^.ref d>>=_) _ _ _
 apply a_ (aeE ((P.extBut h.extBut D.i2z).extBut i.extBut D.i12.symm)
  ((S.extBut h.extBut D.l2z).extBut i.extBut D.l2i1) U λl r m=>ir ?_)
 apply ir^ir ?_;apply a_^agp ?_^by change 2<=sizeLine;decide
 have t:l.objs.size=s.heap.objs.size:=by rw[m.1,i.1,h.1]
 have u:nV l z TI TO a true:=m.extBut _ _ D.i2z.symm^i.extBut _ _ D.i1z.symm Z;apply ir #[_,Y,?_];change Q (.ref l.objs.size) _;rw[t];have B:∀c o,c≠z->c≠b->c≠d->s.heap.get? c\o->l.get? c\o:=λc o C F G e=>m.extBut _ _ G^i.extBut _ _ F^h.extBut _ _ C e;show X _ (AC _ u) ((RJ.extBut m.extBut D.i12).at λo e=>AC _ e) (r.at λo e=>AC _ e) (t▸GM _ rfl) (by rw[aes,t]) λc o C F G e=>AC _^B c o C F G e
theorem Ht(B:A.handled=V)(D:jq z TI TO d g j k)
  (q:nV s.heap z TI TO a f) (L':s.heap.get? a\J') (M:nC s.heap TI (.ref d)^.ref g)
  (C:s.heap.IsListIter d j l) (N:s.heap.IsListIter g k m) (F:s.heap.IsList j n) (O:s.heap.IsList k p) (P:n[l]? =V\/p[m]? =V)
  (G:∀r e,(∀c o,c≠z->c≠d->c≠g->s.heap.get? c\o->r.get? c\o)->(∃o,r.get? e\o/\o.cls= .type "StopIteration")->E (.ref e) {s with heap:=r}):
  e_ (ei prog w) A (Builtin.«zip.__next__» #[[.ref z],[]]) Q E s:=by
 change e_ _ _ (field (.ref z) 2>>=_) _ _ _;apply a_^adL q rfl (x:= .bool At) rfl ?_;apply a_^adL q rfl (x:= .ref TI) rfl ?_;apply a_^aee M rfl ?_;apply a_ (Fj q L' λH X b=>?_);simp only[fA,Pi];apply a_ ?_;simp only[<-HB,aga,List.forIn_nil];apply a_^a_^IR ?_;change e_ _ _ (Builtin.SmallTypes.nextOf^.ref d>>=_) _ _ _;cases t:n[l]? with
 |none=>
  show a_ (wpAny_nextOf_list_end B (C.extBut b.extBut D.i1z) (F.extBut b.extBut D.l1z) t λI e i u=>G I e (λc o v y _ x=>i _ _ y^b.extBut _ _ v x) u)
 |some x=>
  have R:p[m]? =none:=by rcases P with h|h;rw[t] at h;cases h;show h
  apply a_ (aeE (C.extBut b.extBut D.i1z) (F.extBut b.extBut D.l1z) t λI Y' i=>ir ?_);apply ir ?_;apply a_^a_^IR ?_;change e_ _ _ (Builtin.SmallTypes.nextOf^.ref g>>=_) _ _ _
  show a_ (wpAny_nextOf_list_end B ((N.extBut b.extBut D.i2z).extBut i.extBut D.i12.symm)
   ((O.extBut b.extBut D.l2z).extBut i.extBut D.l2i1) R λS e T u=>G S e (λc o v y U x=>T _ _ U^i.extBut _ _ y^b.extBut _ _ v x) u)
end
namespace F
def LQ:typeLookup (.type "zip") "__len__"=pure none:=by rw[agc,aeU];kernel_rfl
def Jt:typeLookup (.type "zip") "__length_hint__"=pure none:=by rw[agc,aeU];kernel_rfl
end F
structure ZS (z TI TO i1 i2 l1 l2 S:Ad) (xs ys:Array Value) (k:Nat) (h:Heap):Prop where
 ti:IsPair h TI (.ref i1) (.ref i2)
 s1:h.IsListIter i1 l1 k
 s2:h.IsListIter i2 l2 k
 m1:h.IsList l1 xs
 m2:h.IsList l2 ys
 zz:(IsZip h z TI TO .none/\∃a b,IsPair h TO a b)\/∃a f oa,nV h z TI TO a f/\h.get? a\oa/\a≠z/\a≠i1/\a≠i2/\a≠S
section
variable {prog:Program} {w:World} {A:Around} {E:Value->Shared->Prop} {s:Shared} {z TI TO i1 i2 l1 l2 S:Ad} {xs ys:Array Value} {k:Nat}
def ZS.keep{h h':Heap}(x:ZS z TI TO i1 i2 l1 l2 S xs ys k h)(g:∀b o,b≠S->h.get? b\o->h'.get? b\o)(j:∀b∈ [z,TI,TO,i1,i2,l1,l2],b<S):ZS z TI TO i1 i2 l1 l2 S xs ys k h':=by
 have n:∀b∈ [z,TI,TO,i1,i2,l1,l2],∀o,h.get? b\o->h'.get? b\o:=λb l o e=>g b o (bP^j b l) e;apply#[n TI (by simp) _ x.ti,x.s1.at λo e=>n i1 (by simp) o e,x.s2.at λo e=>n i2 (by simp) o e,x.m1.at λo e=>n l1 (by simp) o e,x.m2.at λo e=>n l2 (by simp) o e,?_]
 rcases x.zz with ⟨a,b,c,d⟩ | ⟨a,f,m,p,q,r,t,u,i⟩
 .show .inl #[n z (by simp) _ a,b,c,n TO (by simp) _ d]
 .show .inr #[a,f,m,n z (by simp) _ p,g _ _ i q,r,t,u,i]
def Ko{x y:b_}(D:jq z TI TO i1 i2 l1 l2)(st:ZS z TI TO i1 i2 l1 l2 S xs ys k s.heap)(L':S<s.heap.objs.size)(u:xs[k]?\x)(v:ys[k]?\y)
  (B:∀h',ZS z TI TO i1 i2 l1 l2 S xs ys (k+1) h'->nC h' s.heap.objs.size x y->h'.objs.size=s.heap.objs.size+1->
   (∀c o,c≠z->c≠TO->c≠i1->c≠i2->s.heap.get? c\o->h'.get? c\o)->Q (J^.ref s.heap.objs.size) {s with heap:=h'}):
  e_ (ei prog w) A (ni^.ref z) Q E s:=by
 let#[h,m,n,i,j,zz]:=st;have lt:∀{c o},s.heap.get? c\o->s.heap.objs.size≠c:=λe=>j6^Da e;have M:s.heap.objs.size≠i1:=by let#[K,e,V']:=m;show lt e
 have N:s.heap.objs.size≠i2:=by let#[K,e,V']:=n;show lt e
 rcases zz with ⟨g,a,b,O⟩ | ⟨a,f,P,g,C,G,H,I,R⟩
 .apply wpAny_pyNext_zip_item D g h O m n i j u v λh' p Y' q r l t d=>?_
  show B h' #[d _ _ D.TIz D.TITO D.TIi1 D.TIi2 h,q,r,i.at λo e=>d _ o D.l1z D.l1TO D.l1i1 D.l1i2 e,j.at λo e=>d _ o D.l2z D.l2TO D.l2i1 D.l2i2 e, .inr #[_,At,_,p,l,lt g,M,N,j6 L']] l t d
 .have J':s.TypeIs (.ref z) "zip":=#[_,g,Y]
  unfold ni
  apply a_^aeh^aeu (name:=Str.ofString "__next__") J' afa
   (adK afa J' F.entry_zip_next
    (D7 D g C h m n i j u v λh' p q r l t d=>ir ?_)^F.args_zip_next_1 _)
  show B h' #[d _ _ D.TIz D.TIi1 D.TIi2 h,q,r,i.at λo e=>d _ o D.l1z D.l1i1 D.l1i2 e,j.at λo e=>d _ o D.l2z D.l2i1 D.l2i2 e, .inr #[a,L,P,p,d _ _ G H I C,G,H,I,R]] l t λc o T _ U X e=>d c o T U X e
def Kn(h:A.handled=V)(D:jq z TI TO i1 i2 l1 l2)(st:ZS z TI TO i1 i2 l1 l2 S xs ys k s.heap)(i:xs[k]? =V\/ys[k]? =V)
  (j:∀g,(∀c o,c≠z->c≠TO->c≠i1->c≠i2->s.heap.get? c\o->g.get? c\o)->Q V {s with heap:=g}):e_ (ei prog w) A (ni^.ref z) Q E s:=by
 let#[l,m,n,p,q,zz]:=st
 rcases zz with ⟨d,a,b,t⟩ | ⟨a,f,I,d,u,J',L',M,N⟩
 .show wpAny_pyNext_zip_end h D d l t m n p q i j
 .have r:s.TypeIs (.ref z) "zip":=#[_,d,Y]
  unfold ni
  apply a_^aeh^aeu (name:=Str.ofString "__next__") r afa
   (adK afa r F.entry_zip_next (Ht h D d u l m n p q i λg e v x=>?_)^F.args_zip_next_1 _)
  let#[o,y,B]:=x;apply a_^wpAny_isInstance (T:="StopIteration") (b:=L) #[o,y,B] isSubtype_stop ?_;show ir (j _ λc o C _ G H e=>v c o C G H e)
structure ZG (xs ys:Array Value) (lo:Ad) (h:Heap) (as:!Ad):Prop where
 rise:as.Pairwise (·<·)
 above:∀a∈as,lo<a
 pairs:∀(j:Nat)(a:Ad),as[j]?\a->∃x y,xs[j]?\x/\ys[j]?\y/\IsPair h a x y
theorem U8(hh:A.handled=V)(D:jq z TI TO i1 i2 l1 l2)(m:∀b∈ [z,TI,TO,i1,i2,l1,l2],b<S)(hn:min xs.size ys.size<=sizeLine)(B:b_){h₁:Heap}
  (hR:∀g r acc c f,(∀b o,b≠S->b≠z->b≠TO->b≠i1->b≠i2->h₁.get? b\o->g.get? b\o)->g.get? S\{cls:= .type "list",dict:=V,data:= .seq acc c,slots:= #[]}->f.length=min xs.size ys.size->ZG xs ys S g f->
   acc.toList=f.map Value.ref->R (.ok^.ret B) {s with heap:=g,toks:=r}):
  ∀(n i:Nat)(h:Heap)(r c:Nat)(acc:Array b_)(f:!Ad),min xs.size ys.size-i=n->i<=min xs.size ys.size->ZS z TI TO i1 i2 l1 l2 S xs ys i h->
   (∀b o,b≠S->b≠z->b≠TO->b≠i1->b≠i2->h₁.get? b\o->h.get? b\o)->
   h.get? S\{cls:= .type "list",dict:=V,data:= .seq acc c,slots:= #[]}->acc.toList=f.map Value.ref->f.length=i->ZG xs ys S h f->
   g6 (ei prog w) A (.builtin "list.extend.loop" #[[.ref S, .ref z,B],[]]) R {s with heap:=h,toks:=r}:=by
 have nS:∀b∈ [z,TI,TO,i1,i2,l1,l2],b≠S:=λb d=>bP^m b d;intro n
 induction n with
 |zero=>
  intro i h r c acc f hk hi O P L' M C p;have hin:i=min xs.size ys.size:=()
  apply adU afK ?_;rw[adM adT _];change e_ _ A.in1 (ni^.ref z>>=_) _ _ _;apply a_ (Kn (s:={s with heap:=h,toks:=r}) (A:=A.in1) hh D O (by simp only[Array.getElem?_eq_none_iff];lia) λg he=>?_)
  have Q:∀b,S<=b->b≠z/\b≠TO/\b≠i1/\b≠i2:=λb d=>#[j6^cZ (m z^by simp) d,j6^cZ (m TO^by simp) d,j6^cZ (m i1^by simp) d,j6^cZ (m i2^by simp) d]
  have t:∀b o,S<=b->h.get? b\o->g.get? b\o:=λb o d e=>let #[T,U,X,Y']:=Q b d;he b o T U X Y' e;apply ir^hR g r acc c f (λb o N q F G H e=>he b o q F G H^P b o N q F G H e) (t S _ (bu _) L') () #[p.rise,p.above,λj a l=>?_] M
  let#[x,y,Z,k,E]:=p.pairs j a l;show#[x,y,Z,k,t a _ (rz^p.above a^cG l) E]
 |succ n ih=>
  intro i h r c acc f hk hi O P L' M C p;have bX:i<min xs.size ys.size:=()
  have VZ:i<xs.size:=()
  have I:i<ys.size:=()
  have dZ:acc.size=i:=by rw[<-dE,M,aG,C]
  have u:S<h.objs.size:=Da L';apply adU afK ?_;rw[adM adT _];change e_ _ A.in1 (ni^.ref z>>=_) _ _ _;apply a_ (Ko (s:={s with heap:=h,toks:=r}) (x:=xs[i]) (y:=ys[i]) D O u (tJ VZ) (tJ I) λg ab7 ht hz hkp=>?_)
  dsimp only at ht hz hkp ⊢;have Q:∀b,S<=b->b≠z/\b≠TO/\b≠i1/\b≠i2:=λb d=>#[j6^cZ (m z^by simp) d,j6^cZ (m TO^by simp) d,j6^cZ (m i1^by simp) d,j6^cZ (m i2^by simp) d]
  have J':∀b o,S<=b->h.get? b\o->g.get? b\o:=λb o d e=>let #[T,U,X,Y']:=Q b d;hkp b o T U X Y' e;have VT:=J' S _ (bu _) L';have t:∀b o,b≠S->g.get? b\o->(g.update S^Obj.mapSeq (·.push^Value.ref h.objs.size)).get? b\o:=λb o d e=>(Os _ _^Ne.symm d).trans e;change e_ _ A.in1 (updateSeq S (·.push^Value.ref h.objs.size)>>=_) _ _ _;apply a_ ?_
  apply afb VT rfl (ir #[ad2 adT _,ih (i+1) _ r _ (acc.push^Value.ref h.objs.size) (f++ [h.objs.size]) () bX (ab7.keep t m)
   (λb o N q F G H e=>t b o N^hkp b o q F G H^P b o N q F G H e) (P3 _ VT rfl) (by rw[uV,M,cn];rfl) (by rw[dj,C];rfl) #[?_,?_,?_]]) (by rw[dZ];lia)^by change(acc.push^Value.ref h.objs.size).size<=sizeLine+1;rw[Array.size_push,dZ];lia
  .apply tM.mpr #[p.rise,Hy _ _,λa v b d=>?_]
   rw[eO.mp d];let#[j,l]:=CV.mp v;let#[_,_,_,_,e]:=p.pairs j a l;show Da e
  .intro a v
   rcases cM.mp v with v|v
   .show p.above a v
   .rw[eO.mp v];show u
  .intro j b l
   rcases aey j f.length with q|q|q
   .rw[jj q] at l
    let#[x',y',Z,k,E]:=p.pairs j b l;have d:=p.above b^cG l;show#[x',y',Z,k,t b _ (j6 d)^J' b _ (rz d) E]
   .subst q
    have d:h.objs.size=b:=by simpa using l
    subst d;show#[_,_,by rw[C];show tJ VZ,by rw[C];show tJ I,t _ _ (j6 u) ht]
   .have aai:(f++ [h.objs.size])[j]? =none:=eF^by rw[dj,CU];lia
    rw[aai] at l;cases l
def U7(a:s.TypeIs (.ref z) "zip")(h:Q L s):e_ (ei prog w) A (Builtin.List.listLengthHint^.ref z) Q E s:=by
 unfold Builtin.List.listLengthHint;apply a_^ae7 a F.LQ ?_;apply a_^ae7 a F.Jt ?_;show ir h
def M3(G:A.handled=V)(D:jq z TI TO i1 i2 l1 l2)(n:∀b∈ [z,TI,TO,i1,i2,l1,l2],b<S)(st:ZS z TI TO i1 i2 l1 l2 S xs ys 0 s.heap)(v:s.TypeIs (.ref z) "zip")(H:min xs.size ys.size<=sizeLine)(g:b_)(c₀:Nat)
  (hz:∃x,IsZip s.heap z TI TO x) (p:s.heap.get? S\{cls:= .type "list",data:= .seq #[] c₀})
  (I:∀l i acc c q,(∀b o,b≠S->b≠z->b≠TO->b≠i1->b≠i2->s.heap.get? b\o->l.get? b\o)->l.get? S\{cls:= .type "list",dict:=V,data:= .seq acc c,slots:= #[]}->q.length=min xs.size ys.size->ZG xs ys S l q->
   acc.toList=q.map Value.ref->R (.ok^.ret g) {s with heap:=l,toks:=i}):
  e_ (ei prog w) A.in1 (Builtin.List.listExtendWith (.ref S) (.ref z) g)
   (λfin m=>match fin with| .done f=>R (.ok f) m| .again y=>y.quiet=L/\g6 (ei prog w) A y R m) (λe m=>R (.error e) m) s:=by
 have r:S≠z:=j6^n z^by simp
 let#[x,hz]:=hz
 have key:∀(h:Heap)(d i:Nat),(∀b o,b≠S->s.heap.get? b\o->h.get? b\o)->
   h.get? S\{cls:= .type "list",data:= .seq #[] d}->g6 (ei prog w) A (.builtin "list.extend.loop" #[[.ref S, .ref z,g],[]]) R {s with heap:=h,toks:=i}:=by
  intro h d i B t;show U8 (s:=s) (h₁:=s.heap) G D n H g I _ 0 h i d #[] [] rfl (eQ _) (st.keep B n) (λb o J' _ _ _ _ e=>B b o J' e) t rfl rfl #[List.Pairwise.nil,(λ_ L'=>nomatch L'),(λj a M=>by simp at M)]
 unfold Builtin.List.listExtendWith;apply a_^ae0 (T:="zip") v ?_;have N:Builtin.List.listSameRef (.ref S)^.ref z=false:=by simp[Builtin.List.listSameRef,r]
 have O:(Value.type "zip"==Value.type "list")=false:=∅
 have P:(Value.type "zip"==Value.type "tuple")=false:=∅
 simp only[N,O,P,ags,fA,Pi];apply a_^aeJ hz ?_;apply a_^IR^U7 v ?_;apply wpAny_ite_split (λ_=>?_)^λ_=>ir #[ad2 adT _,key _ c₀ _ (λb o _ e=>e) p];apply a_^adZ ?_;apply a_ ?_;change e_ _ _ (updateSeq S (·.push .none)>>=λ_=>updateSeq S (·.pop)) _ _ _;apply a_^afb p rfl ?_;have C:=P3 (Obj.mapSeq (·.push Value.none)) p rfl;apply afb (hz:=by seq_fits) C rfl ?_
 have u:=P3 (Obj.mapSeq (·.pop)) C rfl;apply ir #[ad2 adT _,key _ _ _ (λb o F e=>?_) u];show(Os _ _^Ne.symm F).trans^(Os _ _^Ne.symm F).trans e
def U6(t:A.handled=V)(D:jq z TI TO i1 i2 l1 l2)(st:∀S,ZS z TI TO i1 i2 l1 l2 S xs ys 0 s.heap)(u:IsZip s.heap z TI TO .none)(j:∀b∈ [z,TI,TO,i1,i2,l1,l2],b<s.heap.objs.size)(v:min xs.size ys.size<=sizeLine)
  (q:∀g m acc c h,(∀b o,b≠z->b≠TO->b≠i1->b≠i2->s.heap.get? b\o->g.get? b\o)->g.get? s.heap.objs.size\{cls:= .type "list",dict:=V,data:= .seq acc c,slots:= #[]}->h.length=min xs.size ys.size->ZG xs ys s.heap.objs.size g h->
   acc.toList=h.map Value.ref->Q (.ref s.heap.objs.size) {s with heap:=g,toks:=m}):
  e_ (ei prog w) A (call (.type "list") [.ref z]) Q E s:=by
 apply callType_codes (Q₁:=λobj a=>obj= .ref s.heap.objs.size/\a={s with heap:=s.heap.push {cls:= .type "list",data:= .seq #[]}}) PySem.F.called_list (PySem.F.typeCall_list_1 _) PySem.F.entry_list_init
  (code_list_new _ #[Y,Y]) λobj a i=>?_
 let#[rfl,rfl]:=i;generalize d:s.heap.objs.size=S at j q ⊢;have l:(s.heap.push {cls:= .type "list",data:= .seq #[]}).get? S\{cls:= .type "list",data:= .seq #[]}:=by rw[<-d];show GM _ rfl
 have n:∀b o,s.heap.get? b\o->(s.heap.push {cls:= .type "list",data:= .seq #[]}).get? b\o:=λb o e=>AC _ e;exists #[_,l,Y],PySem.F.args_list_init_2 _ _;change e_ _ A.in1.in1 (do let p <-Builtin.List.listItems^.ref S;Builtin.List.listUpdate (.ref S)^λ_=> #[];letGo p.toList.reverse;Builtin.List.listExtendWith (.ref S) (.ref z) .none) _ _ _
 apply a_ ?_;unfold Builtin.List.listItems;apply a_^aee l rfl^ir ?_;change e_ _ _ (updateSeq S (λ_=> #[])>>=λ_=>letGo (#[]:Array b_).toList.reverse>>=λ_=>Builtin.List.listExtendWith (.ref S) (.ref z) .none) _ _ _;apply a_^afb l rfl ?_;have y:=P3 (Obj.mapSeq^λ_=>(#[]:Array b_)) l rfl
 have f:∀b o,b≠S->s.heap.get? b\o->((s.heap.push {cls:= .type "list",data:= .seq #[]}).update S^Obj.mapSeq^λ_=>(#[]:Array b_)).get? b\o:=
  λb o B e=>(Os _ _^Ne.symm B).trans^n b o e
 apply a_^wpAny_letGo ?_;have r:=f z _ (bP^j z^by simp) u
 apply M3 (A:=A.in1) (c₀:=0) t D j ((st S).keep f j) #[_,r,Y] v .none #[_,r] y^λg m acc c h C G H I J'=>?_;show#[Y,q g m acc c h (λb o L' M N O e=>C b o (λx=>kC S^by have:=Da e;rw[d,x] at this;show this) L' M N O^f b o (λx=>kC S^by have:=Da e;rw[d,x] at this;show this) e) G H I J']
end
end PySem
namespace L2
open PySem PySem.Spec PyProof.Rows
def zH(H:Hp)(q:Ad)(a:!Ad)(xs c:!V'):Hp:=λb=>if b=q then J^.lst^a.map V'.ref else if b∈a then J^.tup [xs.getD (a.idxOf b) .aT,c.getD (a.idxOf b) .aT] else H b
section
def Ay(c:H q=V)(d:∀a∈as,H a=V)(e:H b\o):zH H q as xs ys b\o:=by
 unfold zH;rw[tz (λz=>by rw[z,c] at e;cases e),tz (λz=>by rw[d b z] at e;cases e)];show e
def aaY{a:Ad}{j:Nat}{x y:V'}(c:as.Nodup)(d:q∉as)(e:as[j]?\a)(f:xs[j]?\x)(g:ys[j]?\y):zH H q as xs ys a\(.tup [x,y]):=by
 let#[h,rfl]:=cV.mp e;have b:as[j]∈as:=j5 h;unfold zH;rw[tz^λz:as[j]=q=>d^by rw[<-z];show b,mo b,c.idxOf_getElem,cy,f,cy,g];rfl
theorem Inv.ach{t':Nat}(I:Inv X pins σ H s)(k:∀b u,s.heap.get? b\u->h'.get? b\u)(a:∀b o,H b\o->H' b\o)
  (d:∀b o,H b=V->H' b\o->s.heap.objs.size<=b/\bR X.prog X.w H' h' b o):Inv X pins σ H' {s with heap:=h',toks:=t'}:=by
 apply I.un #[λb o e _ _ _=>k b o e,λb o e _ _ _=>#[o.slots,k b o e],λb o e n _=>?_,λb o e _=>#[o,k b o e],λb f e=>a b _ e,λb o u e=>a b _ e,λb g e=>#[#[],by rw[a b _ e];simp]] λb o e=>?_
 .cases z:H' b with
  |none=>rfl
  |some u=>show absurd (d b u n z).1^Nat.not_le.mpr^Da e
 .cases z:H b with
  |none=>show(d b o z e).2
  |some u=>
   rw[a b u z] at e;cases Do e;show(I.hok b o z).pG (λc v _ q=>k c v q) (λc q=>a c _ q) λc f q=>a c _ q
def CT(n a b:Nat)(c:a<n)(d:b<n):ZipApart (n+4) (n+2) (n+3) n (n+1) a b:=
 #[show n+2≠n+4 by lia,show n+3≠n+4 by lia,show n≠n+4 by lia,show n+1≠n+4 by lia,show n+2≠n+3 by lia,show n+2≠n by lia,show n+2≠n+1 by lia,show n+3≠n by lia,show n+3≠n+1 by lia,show n≠n+1 by lia,
  show a≠n+4 by lia,show a≠n+3 by lia,show a≠n by lia,show a≠n+1 by lia,show b≠n+4 by lia,show b≠n+3 by lia,show b≠n by lia,show b≠n+1 by lia]
theorem DvAll.of_get:∀{a:!V'}{b:!D},a.length=b.length->(∀(k:Nat) x d,a[k]?\x->b[k]?\d->Dv Z G x d)->DvAll Z G a b
 | [],[],_,_=> .nil
 | [],_::_,h,_=>by simp at h
 |_::_,[],h,_=>by simp at h
 |x::a,u::f,h,r=> .cons (r 0 x u rfl rfl) (DvAll.of_get (~~~h) λk y w c e=>r (k+1) y w (~~~c)^~~~e)
def Qf(K:ac)(h:TA):TE:=λi H Q=>h i H λj b=>∃f g d e,j= [.ref f, .ref g]/\aK K b f d/\aK K b g e/\
 ∀q c,c.length=min d.length e.length->c.Nodup->q∉c->b q=V->(∀a∈c,b a=V)->Q (.ref q)^zH b q c d e
theorem JD(hc:X.calm=L)(Lh:Gl X "list")(Bn:X.mg "list"=V)(Li:Gl X "zip")(Bo:X.mg "zip"=V)(O:PA X [a,b] ta)
  (hs:d_ [.Call (.Name "zip" l) [a,b] [] J'] X.env=(At,gj (.Call (.Name "zip" l) [a,b] [] J') X.env)::d_ [] X.env<|>zn) (cC:eB m [] X.env<|>zn)
  (h7:d_ [a,b] X.env= [(At,gj a X.env),(At,gj b X.env)]<|>zn) (Gb:d_ [b] X.env= [(At,gj b X.env)]<|>zn):
  PE X (.Call (.Name "list" p) [.Call (.Name "zip" l) [a,b] [] J'] [] m)^Qf X.K ta:=by
 intro t s σ H Q I h;apply adv^iu I Lh Bn mS ?_;apply PP ?_ hs cC;rw[hs];change e_ _ _ (spliced ((At,gj _ X.env)::gM m^d_ [] X.env)) _ _ s;apply afp ?_;apply Call_^iu I Li Bo (show gl "zip"\(.type "zip") by nofun)^PP (thn (O J' t s σ H _ I h) λus f #[vs,P,y,r1,q1]=>?_) (by rw[h7,Gb])^by rw[Gb];rfl
 rfl';let#[L',M,R,T,e,pU,oh,q]:=q1;subst e;let#[u1,u2,rfl,Mp,Mq]:=r1.two;subst Mp;subst Mq;let#[NL,GQ,U,vX]:=y.list pU;let#[mZ,GR,l,xY]:=y.list oh;have e1:=GQ.length;have e2:=GR.length;have Y':L'<f.heap.objs.size:=by let#[o,G,V']:=U.isList;show Da G
 have Z:M<f.heap.objs.size:=by let#[o,G,V']:=l.isList;show Da G
 ac_rfl;apply call_zip_2 U.isList l.isList λg hz og pQ h1 h2 dZ kk=>?_;apply afD ?_;have D:=CT f.heap.objs.size L' M Y' Z;have m1:=U.isList.at λo e=>kk L' o e;have m2:=l.isList.at λo e=>kk M o e;apply U6 (s:={f with heap:=g}) (I.ok.hd hc) D (λS=>#[og,h1,h2,m1,m2, .inl #[hz,_,_,pQ]]) hz (λb d=>?_) (by simp only[b8];lia) λh3 tk acc c i hk hS hl A zh=>?_
 .change b<g.objs.size
  rw[dZ];generalize f.heap.objs.size=n at d Y' Z;simp only[bQ,zN,aeI] at d;change b<n+5
  rcases d with z|z|z|z|z|z|z<;>rw[z]
  .change n+4<n+5;lia
  .change n+2<n+5;lia
  .change n+3<n+5;lia
  .change n<n+5;lia
  .change n+1<n+5;lia
  .change L'<n+5;show cZ Y' ()
  .change M<n+5;show cZ Z ()
 .have zW:∀b o,f.heap.get? b\o->h3.get? b\o:=λb o e=>by
   have d:=Da e;apply hk b o ?_ ?_ ?_ ?_^kk b o e<;>(intro z;rw[z] at d;revert d;generalize f.heap.objs.size=n;intro d;show absurd d^by change ¬(_<n);lia)
  have N:f.heap.objs.size<=g.objs.size:=by rw[dZ];show Nat.le_add_right _ _
  have jz:h3.get? g.objs.size\{cls:= .type "list",dict:=V,data:= .seq acc c,slots:= #[]}:=hS;have vV:i.Nodup:=A.rise.imp λh=>bP h;have hqa:g.objs.size∉i:=λr=>kC _^A.above _ r;have B:P g.objs.size=none:=y.hok.fresh N;have C:∀a∈i,P a=none:=λa O=>y.hok.fresh^jf N^rz^A.above a O;have DJ:i.length=min R.length T.length:=by rw[hl,b8,b8];lia
  apply#[.ref g.objs.size,zH P g.objs.size i R T,Inv.ach (s:=f) (t':=tk) y zW (λb o e=>Ay B C e)^λb o n e=>?_,Y,q _ i DJ vV hqa B C];unfold zH at e
  by_cases d:b=g.objs.size
  .rw[mo d] at e
   obtain rfl:=Do e;subst d;apply#[N,by rw[aG,DJ];lia,acc.toList,c,?_,by simpa using jz]
   rw[zh]
   show Vals.of_get (by simp) λk x w E hw=>by
    rw[dF] at E hw;cases z:i[k]? with
    |none=>rw[z] at E;cases E
    |some a=>rw[z] at E hw;cases E;cases hw;rfl
  .rw[tz d] at e
   by_cases r:b∈i
   .obtain⟨j,hj⟩:=CV.mp r
    let#[hjl,hjb]:=cV.mp hj;let#[u,v,e3,e4,e5]:=A.pairs j b hj;have IS:j<R.length:=()
    have F:j<T.length:=()
    let#[u',Sz,ru]:=GQ.get^bT IS;let#[v',Bt,rv]:=GR.get^bT F;have eu:u'=u:=by rw[aeT,Sz] at e3;show Do e3
    have ev:v'=v:=by rw[aeT,Bt] at e4;show Do e4
    subst eu ev;rw[mo r] at e;have ez:i.idxOf b=j:=by rw[<-hjb];show vV.idxOf_getElem j hjl
    rw[ez,cy,cy,bT IS,bT F] at e;cases Do e;show#[jf N^rz^A.above _ r,by change 2<=sizeLine;decide,[u',v'], .cons ru^.cons rv .nil,qo e5]
   .rw[tz r,n] at e;cases e
def X2{G H:Hp}(s:aE G H)(c:H q=V)(d:∀a∈as,H a=V):Ext G H (zH G q as xs ys)^zH H q as xs ys:=by
 apply#[λb o e=>Ay (s.free c) (λa m=>s.free^d a m) e,λb o e=>?_,λb o e=>Ay c d e,λb f g=>?_]
 .unfold zH at e ⊢
  by_cases h:b=q
  .rw[mo h] at e ⊢;show e
  .rw[tz h] at e ⊢
   by_cases i:b∈as
   .rw[mo i] at e ⊢;show e
   .rw[tz i] at e ⊢;show s b o e
 .unfold zH
  rw[tz^λz=>f^by rw[z];show c,tz^λz=>f^d b z];show g
def OI(t:gF):bb:=λa P=>t a λb=>match b with
 | [.lst l, .lst m]=>P^.lst ((l.zip m).map λp=> .tup [p.1,p.2])
 |_=>False
theorem Ig(J':X.calm=L)(L':Gl X "list")(M:X.mg "list"=V)(N:Gl X "zip")(O:X.mg "zip"=V)(R:DA Z X [a,b] t)
  (S:d_ [.Call (.Name "zip" r) [a,b] [] u] X.env=(At,gj (.Call (.Name "zip" r) [a,b] [] u) X.env)::d_ [] X.env<|>zn) (T:eB g [] X.env<|>zn)
  (U:d_ [a,b] X.env= [(At,gj a X.env),(At,gj b X.env)]<|>zn) (Y':d_ [b] X.env= [(At,gj b X.env)]<|>zn):
  DE Z X (.Call (.Name "list" p) [.Call (.Name "zip" r) [a,b] [] u] [] g)^OI t:=by
 apply(JD J' L' M N O R S T U Y').imp ?_;rintro σ H Q ⟨G,ρ,P,s,en,h,q⟩;apply#[G,ρ,_,s,en,h,λds c vs j H1 f dv=>?_]
 have IK:∃l m,ds= [.lst l, .lst m]/\P^.lst ((l.zip m).map λp=> .tup [p.1,p.2]):=by
  split at c
  .show#[_,_,Y,c]
  .show c.elim
 rfl';let#[l,m,rfl,c]:=IK;let#[v1,v2,rfl,d1,d2]:=dv.mz;let#[a1,xs,rfl,k1,B]:=d1.ft;let#[a2,C,rfl,k2,E]:=d2.ft;ac_rfl;apply#[a1,a2,xs,C,Y,aK.of^f.sub _ _ k1,aK.of^f.sub _ _ k2,λp n hl hn w F has=>?_];have gp:j p=none:=f.sub.free F;have ga:∀a∈n,j a=none:=λa m=>f.sub.free^has a m;have I:aE j^zH j p n xs C:=λb o e=>Ay gp ga e;have g1:=B.length;have g2:=E.length;apply q _ c _ _ _ (f.trans^X2 f.sub F has)^.lst (xs:=n.map V'.ref) (by unfold zH;rw[mo rfl]) ?_
 apply DvAll.of_get (by rw[aG,aG,List.length_zip,hl,g1,g2]) λk v d i c=>?_
 rw[dF] at i c;cases z:n[k]? with
 |none=>rw[z] at i;cases i
 |some b=>
  rw[z] at i;obtain rfl:=Do i;cases A:(l.zip m)[k]? with
  |none=>rw[A] at c;cases c
  |some pr=>
   rw[A] at c;obtain rfl:=Do c;let#[c1,c2]:=afL.mp A;let#[x,hx,dx]:=B.get c1;let#[y,hy,dy]:=E.get c2;show .tup (aaY hn w z hx hy)^.cons (dx.mono I)^.cons (dy.mono I) .nil
end
theorem mP.at{H:Hp}{ks:!(Int×Int)}{b:!FV}{xs:!(!Int×Ad×b_)}(d:mP H g ks b xs):∀{j:Nat}{p:Int×Int}{fv:FV},ks.Nodup->ks[j]?\p->b[j]?\fv->∃a u,nP xs [p.1,p.2]\(a,u)/\Ox fv u:=by
 induction d with
 |nil=>intro j p fv _ h;cases h
 | @cons a q v u g ks b xs w l t m=>
  intro j p fv n c i;have k:=pK.mp n;cases j with
  |zero=>
   cases c;cases i;show#[a,u,by simp[nP],l]
  |succ j=>
   let#[o,r,e,f]:=m k.2 c i;apply#[o,r,?_,f]
   have s:¬([q.1,q.2]= [p.1,p.2]):=λz=>k.1 (by
    simp at z;rw[show q=p from adS z.1 z.2];show cG c)
   unfold nP at e ⊢;rw[List.find?_cons_of_neg^~~~s];show e
section
def RB(h:Ox f u):RelV (vF f) u:=by
 cases f with
 |int i=>show h
 |bl b=>show h
def YW:R2:=λx y H Q=>∃(c a:Ad)(e:!(Int×Ad))(d:!(Int×Int))(f:!FV)(p:Int×Int)(j:Nat)(fv:FV),x= .ref a/\y= .ref c/\H c\(.tup [.int p.1, .int p.2])/\H a\(.ext^br a e f)/\fP H e d/\d.Nodup/\d[j]?\p/\f[j]?\fv/\Q (vF fv) H
def Wd(O:X.A.units+64<cLine):AE X YW:=by
 intro e f d s l H x y v u Q I m n h o;rfl';let#[c,a,R,S,T,p,j,fv,rfl,rfl,B,C,E,g,F,G,q]:=h;subst m;subst n;let#[z,U,J',i]:=I.Q7 C E g;let#[b,u,L',M]:=J'.at g F G;ac_rfl
 show aeB (x:=u) i.typeIs slot_dict_getitem.lookup
  (wpAny_getItem_heap (knd:=ix^fE X.prog X.w) (k:= [p.1,p.2]) (p:=(b,u)) (Q:=λr N=>r=u/\EP X d l Q r N) (tupleKind_room_in1 ()) (I.qE B) i L' #[Y,vF fv,H,I.tok _,RB M,q]) o
def QQ:iQ:=λa b P=>∃(p:Int×Int)(c:!(Int×Int))(d:!FV)(j:Nat)(fv:FV),a= .x^.dH c d/\b=B6 p/\c[j]?\p/\d[j]?\fv/\P^K2 fv
def Dv.fv(f:FV):Dv Z G (vF f)^K2 f:=by
 cases f with
 |int i=>show .int i
 |bl b=>show .bl b
def SK(h:cp Z QQ x y H Q):YW x y H Q:=by
 revert h
 rintro⟨G,a,b,P,s,d,e,⟨p,f,g,j,fv,rfl,rfl,i,k,h⟩,q⟩;let#[c,rfl,l]:=e.BO;let#[n,u,rfl,m,ok]:=d.ofX;rfl';let#[o,r,rfl,t]:=ok;ac_rfl;show#[c,_,r,f,g,p,j,fv,Y,Y,s _ _ l,s _ _ m,t.mono s,o,i,k,q _ h _ G H (.refl s)^.fv fv]
def jK(g:X.A.units+64<cLine)(i:DE Z X a ta)(j:DE Z X b tb)(f:vC b<|>wu):DE Z X (.Subscript a b pos)^KJ QQ ta tb:=by
 have k:AE X^cp Z QQ:=λc d e s l H x y v u Q I m n h f=>Wd g c d e s l H x y v u Q I m n (SK h) f;show(dA k i j f).imp BD
end
def StK(D:Ad)(v e:V')(H:Hp)(N:Hp->Prop):Prop:=∃c b a d p fv,v= .ref c/\e=vF fv/\H D\(.ext^br D b d)/\H c\(.tup [.int p.1, .int p.2])/\fP H b a/\a.Nodup/\p∉a/\a.length<=300/\N^upd H D^.ext^br D (b++ [(bw p,c)]) (d++ [fv])
theorem Us(hu:X.A.units+64<cLine)(j:Inv X d n H s)(t:H c\(.tup [.int p.1, .int p.2]))(v:H a\(.ext^br a f i))(G:fP H f g)(I:g.Nodup)(J':p∉g)(hz:g.length<=300)(L':RelV (vF fv) r)
  (h:∀y h',Inv X d n (upd H a^.ext^br a (f++ [(bw p,c)]) (i++ [fv])) {s with heap:=h',toks:=y}->Q ⟨⟩ {s with heap:=h',toks:=y}):e_ (ei X.prog X.w) X.A (dictSet a (.ref c) r) Q E s:=by
 let#[z,l,m,M]:=j.Q7 v G I;apply wpAny_dictSet_heap (knd:=ix^fE X.prog X.w) (k:= [p.1,p.2]) (by change X.A.units<cLine;lia) (j.qE t) M (λh' B N=>?_)^small^by rw[m.len];lia
 have O:nP l [p.1,p.2]=none:=by
  cases e:nP l [p.1,p.2] with
  |none=>rfl
  |some q=>show absurd (nu.mp^by rw[<-m.keys];show jQ.mp^by rw[e];rfl) J'
 rw[storedH_new O] at B;rfl';have R:mP H (f++ [(bw p,c)]) (g++ [p]) (i++ [fv]) (l++ [([p.1,p.2],c,r)]):=m.snoc t^FQ L';let#[C,S,T,F,U,Y',Z,D,K]:=B;ac_rfl;show h _ _^j.write (h':=h') (t':=s.toks+(ix^fE X.prog X.w).draws [p.1,p.2]) (x:=a) (e:=a) (o:= .ext^br a (f++ [(bw p,c)]) (i++ [fv])) (by rw[v];trivial) (.inl rfl) (λb u hb e=>N.extBut b u hb e) #[C,F]^br.ok #[z,C,S,T,F,U,Y',by rw[Z];show KY R]
section
theorem Qk:kW (.DictComp kx vx [#[t0,i0,f0,0],#[t1,i1,f1,0]] scope pos) t0 i0 t1 i1 f0 f1 (λD env=>do
  let b <-gj kx env
  let d <-im [b] (gj vx env)
  jo {kx.pos with endLine:=vx.pos.endLine,endCol:=vx.pos.endCol}
  im [b,d]^dictSet D b d) where
 u:=λ_ _ _ _ _=>rfl
 z0:=λ_ _ _ _ _=>rfl
 z1:=λ_ _ _ _ _=>rfl
 b0:=λa c=>codeAny_compStart_dict a (c _ _ a)
 b1:=λa c=>by
  apply codeAny_of_tree ?_;apply wpAny_notedAt ?_;unfold compStart;apply a_^wpAny_askSetting^wpAny_ite ?_
  split
  .first
    |show a_^gm^gm #[Y,a]
    |show gm #[Y,a]
  .apply a_^wpAny_rule ?_
   show a_^nq^a_^c _ _^gm #[Y,a]
def acD(b c:TE):OB:=λD a H N=>b a H λv d=>c a d λe f=>StK D v e f N
def Pr(l:X.A.units+64<cLine)(m:PE X kx i)(n:PE X vx tv):QA X (λD env=>do
  let b <-gj kx env
  let j <-im [b] (gj vx env)
  jo {kx.pos with endLine:=vx.pos.endLine,endCol:=vx.pos.endCol}
  im [b,j]^dictSet D b j)^acD i tv:=λD a s k H N I h=>
 a_ (thn (m a s k H _ I h) λy o d=>by
  rfl';let#[v,r,t,u,w]:=d;ac_rfl;apply a_^IR (thn (n a o k r _ t w) λQ R d=>?_);rfl';let#[S,T,x,f,c,U,Y',Z,p,fv,B,C,E,F,G,J',L',M,O]:=d;ac_rfl;subst B C;subst u;show a_^adI^IR (Us l x F E G J' L' M f λi g P=>#[_,P,O]))
def UN(g:TG)(a:TT)(b:TI)(c:TG)(d:TT)(e f:TE)(D:Ad)(J':It)(Q:VK)(h:St)(H:Hp):Prop:=RC g a b c d (acD e f) D J' Q h H
def Y1(c:TI)(g:TG)(d:TT)(e:TI)(f:TG)(h:TT)(i j:TE)(src:!Option Nat):TE:=λa H Q=>c a H λJ' b=>∀D,b D=V->UN g d e f h i j D J' Q (lG src a)^upd b D^.ext^br D [] []
def Ds{f:!(Ad×Obj)}{l:St}{h:c_}{i:Hp}{r:Ad}{j:!Ad}{t:Nat->Heap->Prop}{J':It}{u:b_->Ad->no->c_->Prop}{E:b_->c_->Prop}{Q:VK}
  (C:X.A.units+64<cLine) (F:X.calm=L) (c:bG X scope) (G:dM scope X.N src NC) (k:Inv X f l i h) (T:Turn X.prog X.w X.K t0 J' j r t) (I:t 0 h.heap) (L':∀b∈j,eX X f i b)
  (m:∀d s H,PG (bJ X scope NC d s H) t0 g) (M:∀d s H,kU (bJ X scope NC d s H) f0 tt) (O:∀d s H,PI (bJ X scope NC d s H) t1 i1 cR) (P:∀d s H,PG (bJ X scope NC d s H) t1 g1)
  (R:∀d s H,kU (bJ X scope NC d s H) f1 bY) (S:∀d s H,PE (bJ X scope NC d s H) kx tk) (U:∀d s H,PE (bJ X scope NC d s H) vx tv) (Y':∀env x,f_ i1 env x=pure x)
  (Z:∀D,i D=V->UN g tt cR g1 bY tk tv D J' Q (lG src l)^upd i D^.ext^br D [] [])
  (Lb:∀D n p aA v y,Inv X f l p n->(∀b∈j,eX X f p b)->Inv (bJ X scope NC j n p) [] aA v y->Q (.ref D) v->u (.ref D) n.heap.objs.size (.ok .next) y):
  e_ (ei X.prog X.w) X.A newDict (λacc wZ=>e_ (ei X.prog X.w) X.A (kv scope X.env.globals (jR X.env scope.names []) [] X.env.qual V .none^J X.env) (λB w4=>
   g6 (ei X.prog X.w) X.A (.compStart (.DictComp kx vx [#[t0,i0,f0,0],#[t1,i1,f1,0]] scope pos) 0 (.ref r) acc {B with scope:=lR scope X.env}) (u acc B.locals) w4) E wZ) E h:=by
 have UJ:(h.heap.objs.size==jk)=false:=by
  have m:f5<h.heap.objs.size:=(k.mod.glob.keeps k.bk).lt;have hs:jk<h.heap.objs.size:=agC ∅ m
  show Wp.mpr^Ne.symm^bP hs
 apply CG (o0:=λD=> .ext^br D [] []) Qk F c G k T I L' m M O P R (λd s H=>Pr C (S d s H)^U d s H) Y' (λQ' E' q=>?_) Z Lb;simp only[newDict,newObj];show a_^wpAny_alloc^ir (q _ (k.laid (a:=h.heap.objs.size) (t':=h.toks) (λ_ _ q=>AC _ q) (bu _) (o:= .ext^br h.heap.objs.size [] [])^br.ok #[UJ,_, #[],0,GM _ rfl,#[Y,Y,Y],Y, .nil]) λb o e=>AC _ e)
def WV(e:X.A.units+64<cLine)(f:X.calm=L)(c:bG X scope)(i:dM scope X.N src NC)(j:PI X t0 i0 wi)
  (k:∀a s H,PG (bJ X scope NC a s H) t0 g) (l:∀a s H,kU (bJ X scope NC a s H) f0 tt) (n:∀a s H,PI (bJ X scope NC a s H) t1 i1 cR) (o:∀a s H,PG (bJ X scope NC a s H) t1 g1)
  (p:∀a s H,kU (bJ X scope NC a s H) f1 bY) (q:∀a s H,PE (bJ X scope NC a s H) kx tk) (r:∀a s H,PE (bJ X scope NC a s H) vx tv)
  (t:(∀x,f_ i0 X.env x=pure x)<|>xz) (u:(∀env x,f_ i1 env x=pure x)<|>ww):
  PE X (.DictComp kx vx [#[t0,i0,f0,0],#[t1,i1,f1,0]] scope pos)^Y1 wi g tt cR g1 bY tk tv src:=by
 intro b s w H Q I h;rw[arm_eval_DictComp];apply ad5 (use:=V) rfl t (gJ^c.cells I.ok) c.kind c.names (thn (j b s w H _ I h) λv Y' y=>thn y λZ s2 B=>?_);rfl';let#[it,fp,tn,J',H2,rfl,E,T,F,G,L']:=B;ac_rfl
 show Ds e f c i E T F G k l n o p q r u L' λD s3 H3 aA M s' O P d R=>by
  let#[m,S,z]:=d.loc;show#[m,S,λh' U=>#[.ref D,M,comp_back O P d U,Y,R]]
end
section
def lcWK(g:eW)(e:dU)(f h:bb):!D->DN->!(Int×Int)->!FV->(DN->!(Int×Int)->!FV->Prop)->Prop
 | [],i,a,d,N=>N i a d
 |x::j,i,a,d,N=>g x i λc=>e c λb=>if b=L then f c λk=>h c λl=>∃p fv,k=B6 p/\l=K2 fv/\p∉a/\a.length<=300/\lcWK g e f h j c (a++ [p]) (d++ [fv]) N else lcWK g e f h j c a d N
def lcWK2(g:eW)(e:dU)(f:jv)(h:eW)(i:dU)(j k:bb):!D->DN->!(Int×Int)->!FV->(!(Int×Int)->!FV->Prop)->Prop
 | [],_,a,c,P=>P a c
 |x::l,m,a,c,P=>g x m λd=>e d λb=>if b=L then f d λn=>lcWK h i j k n d a c λo p q=>lcWK2 g e f h i j k l o p q P else lcWK2 g e f h i j k l d a c P
def Yd(b:jv)(g:eW)(c:dU)(d:jv)(e:eW)(f:dU)(h i:bb)(src:!Option Nat):bb:=λa P=>b a λj=>lcWK2 g c d e f h i j (Cs src a) [] [] λk l=>P^.x^.dH k l
def Ot(Z:DC)(c d:Hp)(a:Ad)(h:DN)(e:!(Int×Int))(i:!FV)(j:St)(H:Hp):Prop:=
 ∃(G:Hp)(f:!(Int×Ad)),aE c G/\aE G H/\aE d H/\(∀b,d b≠V->c b=V->G b=V)/\G a=V/\H a\(.ext^br a f i)/\fP G f e/\e.Nodup/\eG Z G j h
def Ot.done{s:St}(c:Ot Z i f a r k h s j)(d:Ext G H i f)(t:f a=V):∃l,Ext G H l j/\Dv Z l (.ref a)^.x^.dH k h:=by
 rfl';let#[v,m,w,y,A,off,n,B,C,E,J']:=c;ac_rfl;apply#[upd v a^.ext^br a m h,#[(d.gg.trans w).trans^az n _,λb o e=>?_,d.hh.trans A,λb p F=>?_], .x ah #[E,m,Y,C.mono^az n _]]
 .by_cases z:b=a
  .subst z;rw[ah] at e;cases e;show B
  .rw[ao z] at e;show y _ _ e
 .have q:=gz d.hh p
  rw[ao^λz=>q^by rw[z];show t]
  show off b q^d.off b p F
def Ot.begin(s:aE a c)(f:c d=V)(k:eG Z a j i):Ot Z a c d i [] [] j^upd c d^.ext^br d [] []:=
 #[a,[], .refl _,λb o e=>by rw[ao^av e^s.free f];show s _ _ e,az f _,λ_ _ h=>h,s.free f,ah, .nil,ju,k]
def SU:∀σ H Q,eM Z (Yd wi g tt cR g1 bY tk tv src) σ H Q->Y1 (uA Z wi) (qp Z g) (liftT Z tt) (uA Z cR) (qp Z g1) (liftT Z bY) (eM Z tk) (eM Z tv) src σ H Q:=by
 intro σ H Q aO;rfl';let#[G,ρ,P,s,en,h,q]:=aO;ac_rfl;apply#[G,ρ,_,s,en,h,λt hd J' M B x1 it r hA=>?_];apply#[λi m eD N=>m=t.length-i/\i<=t.length/\∃C j l,Ot Z M B r C j l eD N/\lcWK2 g tt cR g1 bY tk tv (t.drop i) C j l λj l=>P^.x^.dH j l,#[_,Y,eQ _,_,[],[], .begin x1.sub hA^(en.mono x1.gg).src src,hd],?_];intro i m eD N ja;rfl';let#[rfl,hi,C,j,l,c,hl]:=ja;ac_rfl
 by_cases bX:i<t.length
 .have c0:=c
  rfl';let#[G2,u,s1,s2,s3,off,gA,pP,W2,nd,Z3]:=c;let#[go,f,yld]:=it G2 N s1 s2 i;ac_rfl;apply .inr #[go bX,λaA O=>∃aH Y' UT,Ot Z M B r aH Y' UT aA O/\lcWK2 g tt cR g1 bY tk tv (t.drop (i+1)) aH Y' UT λj l=>P^.x^.dH j l,λaA O n=>#[t.length-(i+1),(),Y,bX,n],λx H3 y=>?_]
  rfl';let#[G3,d,x3,Ld,dv]:=yld x H3 bX y;rw[mT Ld] at hl;ac_rfl;apply#[G3,C,d,_,x3.sub,Z3.mono x3.gg,dv,hl,λbg R fj vM=>?_];apply#[G3,bg,_,x3.sub,vM,R,λb w G5 H5 x5=>?_];have E:=x3.trans x5;have wq:∀{G S:Hp},Ext G2 N G S->G r=none:=λx=>x.off r (by rw[pP];show λz=>nomatch z) gA
  have zr:∀{G S:Hp},Ext G2 N G S->∀b,B b≠V->M b=V->G b=none:=λx b R h2=>x.off b (gz s3 R)^off b R h2;cases b with
  |false=>show c8 #[bg,j,l,#[G5,u,s1.trans E.gg,E.sub,s3.trans E.hh,zr E,wq E,E.hh _ _ pP,W2.mono E.gg,nd,vM.mono x5.gg],by simpa using w]
  |true=>
   apply cX #[G5,bg,_,x5.sub,vM.mono x5.gg,(~~~w),λT hes J1 G6 H6 x6 Je=>?_]
   have x:=E.trans x6
   apply#[λk m rA F=>m=T.length-k/\k<=T.length/\∃(C9:DN)(U:!(Int×Int))(X:!FV),(∃(G:Hp)(u:!(Int×Ad)),aE G6 G/\aE G F/\aE B F/\(∀b,B b≠V->M b=V->G b=V)/\G r=V/\F r\(.ext^br r u X)/\fP G u U/\U.Nodup/\eG Z G rA C9)/\
    lcWK g1 bY tk tv (T.drop k) C9 U X λC SO UU=>lcWK2 g tt cR g1 bY tk tv (t.drop (i+1)) C SO UU λj l=>P^.x^.dH j l,
    #[_,Y,eQ _,bg,j,l,#[G6,u, .refl _,x.sub,s3.trans x.hh,zr x,wq x,x.hh _ _ pP,W2.mono x.gg,nd,(vM.mono x5.gg).mono x6.gg],hes],?_]
   intro k m rA F ja;rfl';obtain⟨rfl,hk,C9,U,X,⟨G7,Z1,a1,a2,a3,a4,a5,a6,a7,WC,a8⟩,sM⟩:=ja;ac_rfl;have Z7:aE M G6:=s1.trans x.gg
   by_cases Bm:k<T.length
   .obtain⟨go1,_,U2⟩:=Je G7 F a1 a2 k
    apply .inr #[go1 Bm,λaA O=>∃(aH:DN)(Y':!(Int×Int))(UT:!FV),(∃(G:Hp)(u:!(Int×Ad)),aE G6 G/\aE G O/\aE B O/\(∀b,B b≠V->M b=V->G b=V)/\G r=V/\O r\(.ext^br r u UT)/\fP G u Y'/\Y'.Nodup/\eG Z G aA aH)/\
     lcWK g1 bY tk tv (T.drop (k+1)) aH Y' UT λC SO UU=>lcWK2 g tt cR g1 bY tk tv (t.drop (i+1)) C SO UU λj l=>P^.x^.dH j l,λaA O n=>#[T.length-(k+1),(),Y,Bm,n],λy H8 hy=>?_]
    rfl';let#[G8,d8,x8,hd8,ZW]:=U2 y H8 Bm hy;rw[mT hd8] at sM;ac_rfl;apply#[G8,C9,d8,_,x8.sub,a8.mono x8.gg,ZW,sM,λD8 h9 σ9 Dw=>?_];apply#[G8,D8,_,x8.sub,Dw,h9,λb w Qu zR Ah=>?_];have I:=x8.trans Ah;have oA:∀{G S:Hp},Ext G7 F G S->G r=none:=λx=>x.off r (by rw[a6];show λz=>nomatch z) a5
    have oB:∀{G S:Hp},Ext G7 F G S->∀b,B b≠V->M b=V->G b=none:=λx b R h2=>x.off b (gz a3 R)^a4 b R h2;cases b with
    |false=>show c8 #[D8,U,X,#[Qu,Z1,a1.trans I.gg,I.sub,a3.trans I.hh,oB I,oA I,I.hh _ _ a6,a7.mono I.gg,WC,Dw.mono Ah.gg],by simpa using w]
    |true=>
     apply cX #[Qu,D8,_,Ah.sub,Dw.mono Ah.gg,(by rw[mo rfl] at w;show w),λkd V0 v Y7 Df MX Rj=>?_]
     apply#[Y7,D8,_,MX.sub,(Dw.mono Ah.gg).mono MX.gg,V0,λvd hvd v2 G12 H12 UY abA=>?_];rfl';let#[p,fv,rfl,rfl,np,hz,hn]:=hvd;let#[c,rfl,pS]:=Rj.BO;obtain rfl:=abA.Tn;ac_rfl;have A:=(I.trans MX).trans UY;have DB:=UY.gg _ _ pS;apply#[c,Z1,U,X,p,fv,Y,Y,A.hh _ _ a6,UY.sub _ _ DB,(a7.mono A.gg).mono UY.sub,WC,np,hz,D8,_,_,#[G12,_,a1.trans A.gg,λb o e=>?_,λb o e=>?_,oB A,oA A,ah,(a7.mono A.gg).snoc DB,?_,((Dw.mono Ah.gg).mono MX.gg).mono UY.gg],hn]
     .rw[ao^av e^oA A];show A.sub _ _ e
     .rw[ao^av e hA];show(a3.trans A.hh) _ _ e
     .rw[je]
      apply#[WC,by simp,λa ha b w z=>np ?_]
      rw[eO] at w;rw[<-w,<-z];show ha
   .have e:T.drop k= []:=C5 ()
    rw[e] at sM;show .inl #[(Je G7 F a1 a2 k).2.1 (),C9,U,X,#[G7,Z1,Z7.trans a1,a2,a3,a4,a5,a6,a7,WC,a8],sM]
 .have e:t.drop i= []:=C5 ()
  rfl';rw[e] at hl;let#[G',x,dv]:=c.done x1 hA;let#[G2,u,s1,s2,f]:=c;ac_rfl;show .inl #[(it G2 N s1 s2 i).2.1 (),q _ hl _ G' N x dv]
def Vy(b:X.A.units+64<cLine)(d:X.calm=L)(c:bG X scope)(e:dM scope X.N src NC)(f:DI Z X t0 i0 wi)
  (h:∀a s H,DG Z (bJ X scope NC a s H) t0 g) (i:∀a s H,De Z (bJ X scope NC a s H) f0 tt) (j:∀a s H,DI Z (bJ X scope NC a s H) t1 i1 cR) (k:∀a s H,DG Z (bJ X scope NC a s H) t1 g1)
  (l:∀a s H,De Z (bJ X scope NC a s H) f1 bY) (m:∀a s H,DE Z (bJ X scope NC a s H) kx tk) (n:∀a s H,DE Z (bJ X scope NC a s H) vx tv)
  (o:(∀x,f_ i0 X.env x=pure x)<|>xz) (p:(∀env x,f_ i1 env x=pure x)<|>ww):
  DE Z X (.DictComp kx vx [#[t0,i0,f0,0],#[t1,i1,f1,0]] scope pos)^Yd wi g tt cR g1 bY tk tv src:=(WV b d c e f h i j k l m n o p).imp SU
end
end L2
namespace Wb
abbrev Dt:=Nat×Nat
def LI(h:l≠ []):∃a z,l=a++ [z]:=#[l.dropLast,l.getLast h,(List.dropLast_concat_getLast h).symm]
def sS(w:W)(a:!!Dt):Prop:=∀r∈a,∃d,gY w d r/\aP w d
def sS.dart(g:Good w)(h:sS w b):∀e∈b.flatten,aP w e:=λe c=>by
 let#[r,f,a]:=lJ.mp c;let#[d,R,i]:=h r f;show R.bh g i e a
end Wb
namespace L2
open PySem PySem.Spec PyProof.Rows
section
def Zx(d:!Nat)(j:Nat)(e:bb)(g:eW)(f:cW):cW:=λE a=>∃b,a[j]?\(J^.lst b)/\e (MP d L a) λh=>∃(n:Int)(c:!D),h= .int n/\gZ b n\(.lst c)/\hV g f E c a
def Ra(j:Nat)(C:X.calm=L)(F:nr (ei X.prog X.w) X.A X.env X.xe)(I:DE Z X k tk)(J':Ks Z X md tg g)(L':mO Z X md rn c l)(O:md.getD j 0=1<|>zn)
  (P:X.N[j]?\y<|>zn) (Q:vD X.env.scope y<|>yy) (R:eT y<|>zm) (T:eR y<|>zm)
  (U:vC k<|>wu) (Y':(∀x,f_ (.Subscript (.Name y py) k i) X.env x=pure x)<|>xz):DSt Z X md rn (.For tg (.Subscript (.Name y py) k i) c [] pos)^Zx md j tk g l:=by
 apply(jM F C (lu^dA bV (pv j P Q R T) I U) J' L' Y').imp ?_;intro Dn σ H aO;rfl';obtain⟨B,ρ,E,⟨G,fp,S⟩,⟨ZV,p,h⟩,M⟩:=aO;ac_rfl;rfl';let#[v0,q,o]:=S.at_ j _ p;ac_rfl;apply#[_,q,S.ev L h ?_];rintro _ ⟨n,ds,rfl,RW,hf⟩;apply#[Y,λv G1 H1 e x1 Ri=>?_];rfl';cases Ri.ofInt;let#[v1,r,s]:=e.at_ j _ p;rw[q] at r;cases r;rw[O] at s;let#[a,xs,pO,sL,rfl,e1,ha,d,ol]:=s.one;cases e1;let#[V7,d]:=ol.flat;let#[u,hu,du]:=Fu V7 RW;let#[b,ys,rfl,t,f]:=du.ft;ac_rfl;show#[a,xs,n, .ref b,Y,Y,aK.of ha,hu,b,Y,#[_,aK.of^e.ex.sub _ _ t],xQ e (Jf t f) hf M]
end
end L2
namespace tQ
open PySem L2 Wb
variable {P:Program} {w:World} {mg:Str->Option Value} {base:Heap} {Z:DC} (T:Txt Z mg)
def VJ{P:D->Prop}(h:P^.bl (AT (i=j))):dC (.int j) a (λb=>FF (.int i) b P):=A5 h
def KH(l:!a)(k:Nat)(h:k<=l.length):cutD l (J (k:Int)) V=l.drop k:=by
 unfold cutD
 have b:HT.cg l.length 0^J (k:Int)=k:=by
  simp only[HT.cg]
  split<;>lia
 have c:HT.cg l.length l.length V=l.length:=rfl;rw[b,c];show tL^by simp
def wD{w:W}(h:p<w.length):gZ (w.map aD) (p:Int)\(aD^row w p):=iG^CH h
def iY{a:!Nat}{p:Nat}(h:p<a.length):gZ (a.map ax) (p:Int)\(ax^a.getD p 0):=iG^by rw[dF,cy,bT h];rfl
theorem Gv:∀(b:!Nat)(m:Nat),m<b.idxOf x->b[m]? ≠J x
 | [],m,h=>by simp at h
 |a::b,m,h=>by
  rw[List.idxOf_cons] at h
  by_cases e:(a==x)=L
  .rw[e] at h;simp at h
  .rw[zM.mpr e] at h
   cases m with
   |zero=>intro z;simp at z;show e (by simp[z])
   |succ m=>rw[zJ];show Gv b m^~~~h
def Ly{a:!Nat}{x:Nat}{P:D->Prop}(h:x∈a)(q:P^ax^a.idxOf x):fO^ax x=L/\(a.map ax).all fO=L/\∃(j:Nat)(z:D),(a.map ax)[j]?\z/\vN z^ax x=L/\(∀(m:Nat) z,m<j->(a.map ax)[m]?\z->vN z^ax x=At)/\P^.int (j:Nat):=by
 have b:=C3.mpr h;have e:a[a.idxOf x]?\x:=by rw[bT b];show KB J^C8 b
 apply#[Y,fT _,a.idxOf x,ax x,by rw[dF,e];rfl,by simp[rM,ax],λm z c d=>?_,q]
 let#[y,f,rfl]:=cH d
 have:y≠x:=by
  rintro rfl;show Gv _ _ c f
 have:¬((y:Int)=(x:Int)):=()
 simpa [rM,ax] using this
def kJ{a:!Nat}{x:Nat}(h:x∈a):(a.map ax)[a.idxOf x]?\(ax x)/\vN (ax x)^ax x=L/\∀(m:Nat) z,m<a.idxOf x->(a.map ax)[m]?\z->vN z^ax x=false:=by
 have:=Ly (P:=λd=>d=ax^a.idxOf x) h rfl
 let#[o,p,j,z,i,k,l,n]:=this;have b:=C3.mpr h;have e:a[a.idxOf x]?\x:=by rw[bT b];show KB J^C8 b
 apply#[by rw[dF,e];rfl,by simp[rM,ax],λm z c f=>?_]
 let#[y,g,rfl]:=cH f
 have:y≠x:=by
  rintro rfl;show Gv _ _ c g
 have:¬((y:Int)=(x:Int)):=()
 simpa [rM,ax] using this
def Mh(n:Nat):gU 0 n=(aj n).map λ(x:Nat)=>ax x:=by unfold gU ax;simp
theorem B9{g:b->PyData}(h:∀a,(f a).py\(g a)):∀l:!b,jG^l.map f\(l.map g)
 | []=>rfl
 |a::l=>by
  have:=B9 h l
  rw[b9,jG,h a,this];rfl
def As(r:!Nat):(aD r).py\(wC r):=by
 unfold aD wC;rw[D.py,B9 (g:=nD)^λn=>rfl];rfl
def Iu(a b:!Nat):PyData.eqv (wC a)^wC b=AT (a=b):=by
 by_cases e:a=b
 .rw[FM e];show(En a b).mpr e
 .rw[GE e]
  apply zM.mpr ?_;show λz=>e^(En a b).mp z
def p6{v w:!Nat}{P:D->Prop}(h:P^.bl (AT (v=w))):FF (aD v) (aD w) P:=by
 apply#[_,_,As v,As w,by have:=yZ v;lia,?_]
 rw[tz c9,Iu];show h
def Ib{v w:!Nat}{P:D->Prop}(h:P^.bl (not^AT (v=w))):Ia (aD v) (aD w) P:=by
 apply#[_,_,As v,As w,by have:=yZ v;lia,?_]
 rw[mo rfl,Iu];show h
def LM{P:D->Prop}(h:P^.bl (not^AT (i=j))):dC (.int j) a (λb=>Ia (.int i) b P):=A6 h
variable {P:Program} {w:World} {mg:Str->Option Value} {base:Heap} {Z:DC} (T:Txt Z mg)
theorem Fb{P:D->Prop}(g:L'.length<64)(h:∀M:!Nat,M.Perm L'->M.Pairwise (·<=·)->P^aD M):Nd [aD L'] P:=by
 apply#[L'.map λ(n:Nat)=>(n:Int),by unfold aD;rw[cQ];rfl,by rw[aG];show g,λc f srt=>?_]
 have e:∀m∈c,((m.toNat:Nat):Int)=m:=λm d=>by
  let#[n,k,rfl]:=bS.mp^f.mem_iff.mp d;simp
 have i:(c.map Int.toNat).Perm L':=by
  have:=f.map Int.toNat
  rw[cQ] at this;rw[show(Int.toNat∘λ(n:Nat)=>(n:Int))=id from by funext n;simp] at this
  simpa using this
 have:=h (c.map Int.toNat) i (by
  rw[gX];show srt.imp λ {a b} j=>Int.toNat_le_toNat j)
 unfold aD at this;rw[cQ] at this;rw[show c.map D.int=c.map (ax∘Int.toNat) from zL λm d=>by change D.int m=ax m.toNat;unfold ax;rw[e m d]]
 show this
def uI(k:Nat×Nat):PyData:= .tuple [nD k.1,nD k.2]
def T8(k:Nat×Nat):(pairD k).py\(uI k):=by
 unfold pairD;rw[D.py,jG,jG,jG];rfl
def Em(a b:Nat×Nat):PyData.eqv (uI a)^uI b=L↔a=b:=by
 unfold uI nD;simp[PyData.eqv,PyData.eqvAll]
 constructor
 .rintro⟨c,d⟩;show adS () ()
 .rintro rfl;show#[Y,Y]
variable {P:Program} {w:World} {mg:Str->Option Value} {base:Heap} {Z:DC} (T:Txt Z mg)
def zz(d:Nat×Nat):Int×Int:=(d.1,d.2)
def Oq(h:zz a=zz b):a=b:=adS (by have:=(aej h).1;lia)^by have:=(aej h).2;lia
def su{d:Nat×Nat}{l:!(Nat×Nat)}:zz d∈l.map zz↔d∈l:=by
 rw[bS];show#[λ#[a,b,e]=>by rw[<-Oq e];show b,λh=>#[d,h,Y]]
def Xu:c7:=λb P=>∃(w:W),b= [.gB w]/\Good w/\w.length<=14/\∀a:!(Nat×Nat),a.Perm^cL (row w) w.length->a.Pairwise lexLe->P^.lst^a.map pairD
theorem YA(I:DN->Prop)(J':o->DN->Prop)(l:o->D)(f:o->!u)(v:u->D)(p:o->u->Bool)(k:o->u->B)(d:B->D)(F:∀y G,J' y G->I G):∀(j:!o)(i:DN)(acc:!B)(P:!D->Prop),
  (∀y∈j,∀i,I i->∀(Y':DN->!D->Prop),(∀a,J' y a->Y' a^(f y).map v)->g (l y) i λa=>A a^Y' a)->
  (∀y∈j,∀b∈f y,∀i,J' y i->∀(Y':DN->D->Prop)(x:DN->Prop),(∀a,J' y a->p y b=L->Y' a^d^k y b)->(∀a,J' y a->p y b=At->x a)->r (v b) i λa=>s a λc=>if c=L then t a^Y' a else x a)->
  I i->acc.length+(j.flatMap λy=>((f y).filter^p y).map^k y).length<=sizeLine->(∀y∈j,acc.length+(j.flatMap λy=>((f y).filter^p y).map^k y).length+(f y).length<=sizeLine)->P^(acc++j.flatMap λy=>((f y).filter^p y).map^k y).map d->sX g oZ A r s t (j.map l) i (acc.map d) P
 | [],i,acc,P,_,_,H,_,_,h=>by
  change P^acc.map d;simpa using h
 |y::j,i,acc,P,L',M,H,m,N,h=>by
  have C:=N y (c5 ..);rw[yN,dj] at m C;apply L' y (c5 ..) i H (λa O=>lcW r s t O a (acc.map d) λq Q=>sX g oZ A r s t (j.map l) q Q P) λa E=>?_;apply iW (J' y) v (p y) (λb=>d^k y b) (f y) a (acc.map d) _ (λb R q n Y' x S U=>?_) E (by rw[aG];lia) λq n=>?_
  .show M y (c5 ..) b R q n Y' x S U
  .have e:acc.map d++((f y).filter^p y).map (λb=>d^k y b)=(acc++((f y).filter^p y).map^k y).map d:=by rw[cn,cQ];rfl
   rw[e];apply YA I J' l f v p k d F j q (acc++((f y).filter^p y).map^k y) P (λz m=>L' z^eS _ m) (λz m=>M z^eS _ m) (F y q n) (by rw[dj];lia) (λz m=>?_) ?_
   .have:=N z^eS _ m
    rw[yN,dj] at this;rw[dj];lia
   .rw[yN] at h
    rw[kz];show h
def gP:FnOk P w Z.K mg base fJ 1 T.vc.f T.vc.fd ["self"]^aR Z Xu:=by
 have M:=wL.nd;apply bo T.vc.F wL [0] ∅ (λu R h=>by let#[z,rfl,V']:=h;rfl)^λN A outer s H E u R v h=>?_
 have O:=v.units;apply#[_,(aw^aS^aV Eb rfl T.B.sorted kX^ae (Vz (NC:= ["p","row","q"]) (src:= [V,V,V]) rfl (pZ^au l5) trivial (fg rfl T.B.enumerate^ae (A9 T.W^aa 0) ag) (λ_ _ _=>(nZ 2 rfl^dG (bC 0 (show(["p","row","q"]:!fC).Nodup from by nofun))^dG (bC 1 (show(["p","row","q"]:!fC).Nodup from by nofun)) k6)) (λ_ _ _=>dQ) (λ_ _ _=>(bD^aa 1)) (λ_ _ _=>(bC 2 (show(["p","row","q"]:!fC).Nodup from by nofun))) (λ_ _ _=>(vJ^bB yu (aa 0) (aa 2)^aU _))^λ_ _ _=>(bM^ae (aa 0)^ae (aa 2) ag)) ag),?_]
 let#[a,rfl,g,h14,q]:=h
 have x:eZ^a.map aD=(aj a.length).map λ(j:Nat)=>D.tup [.int (j:Int),aD^row a j]:=by
  apply nN λj=>?_;rw[dF]
  by_cases lt:j<a.length
  .rw[xq lt]
   cases e:(eZ^a.map aD)[j]? with
   |none=>
    have:=List.getElem?_eq_none_iff.mp e
    rw[gr,aG] at this;lia
   |some d=>rw[(zD e).2];rfl
  .rw[eF^by rw[gr,aG];lia,eF^by rw[jb];lia];rfl
 have k:((aj a.length).flatMap λp=>((row a p).filter λq=>AT (p<q)).map λq=>(p,q))=cL (row a) a.length:=rfl
 have C:∀n,n<=a.length->(cL (row a) n).length<=n*14:=λn=>by
  induction n with
  |zero=>intro _;show bu _
  |succ n G=>
   intro h
   have:=G ()
   have Q:=fG g n;have S:=HA (λq=>AT (n<q))^row a n;unfold cL at this ⊢;rw[ae3,List.flatMap_append,dj];simp only[yN,List.flatMap_nil,fB,aG];lia
 have I:=C a.length^bu _;exists _,rfl,a,rfl;apply(?_:sX _ _ _ _ _ _ (eZ^a.map aD) _ _ _);rw[x];apply YA (λi=>∃o r c,i= [o,r,c]) (λp i=>∃c,i= [J^ax p,J^aD^row a p,c]) _ (λp=>row a p) ax (λp q=>AT (p<q)) (λp q=>(p,q)) pairD (λy i #[c,e]=>#[_,_,_,e]) (aj a.length) _ [] _ (λp t J' l Y' m=>?_) (λp t b U J' l Y' X m L'=>?_) #[V,V,V,Y] ?_ (λp t=>?_) ?_
 .obtain⟨o,r,c,rfl⟩:=l
  show#[Y,Y,_,Y,m _ #[_,Y]]
 .obtain⟨c,rfl⟩:=l
  exists _,rfl,_,rfl,_,rfl;apply(?_:if AT ((p:Int)<(b:Int))=L then _ else _);rw[show AT ((p:Int)<(b:Int))=AT (p<b) from aeO.mpr ()]
  show eU (λe=>#[_,Y,_,Y,by change 2<=sizeLine;decide,m _ #[_,Y] e])^λe=>L' _ #[_,Y] e
 .rw[k,lK,iN];show small ()
 .have:=fG g p
  rw[k,lK,iN];show small ()
 .rw[k,pJ]
  show#[_,Y,(),q]
def P5:c7:=λa P=>∃(w:W)(p q:Nat),a= [.gB w,ax p,ax q]/\Good w/\q∈row w p/\P^ax^e8 (row w p) q
def qy:FnOk P w Z.K mg base fJ 1 T.ve.f T.ve.fd ["self","p","q"]^aR Z P5:=by
 have k:=qN.nd;apply bo T.ve.F qN [0,0,0,0] ∅ (λl R h=>by let#[x,y,z,rfl,C]:=h;rfl)^λt A outer s H E l R m h=>?_
 have u:=m.units
 apply#[_,(aq (aX At 3 k^dN (A9 T.W^aa 0)^aa 1)
   (aw^aS^dN (aa 3)^fm Ar (fm iZ (Ef (aa 3)^aa 2) aL)^aV dX rfl T.B.len dW^ae (aa 3) ag)),?_]
 let#[a,p,b,rfl,g,c,q]:=h;have n:=f7 c;have v:=fG g p;have e:((row a p).map ax).length=(row a p).length:=aG _;have d:0<(row a p).length:=tK c;have o:(0:Int)<(((row a p).map ax).length:Int):=by rw[e];lia
 exists _,rfl,a,rfl,_,rfl,_,wD n,trivial;exists _,rfl,_,rfl,_,rfl,_,rfl,rfl,fT _,_,_,(kJ c).1,(kJ c).2.1,(kJ c).2.2;exists _,rfl,o;have em:(((row a p).idxOf b:Nat):Int)+1=(((row a p).idxOf b+1:Nat):Int):=()
 have r:((((row a p).idxOf b:Nat):Int)+1)%(((row a p).map ax).length:Int)=((((row a p).idxOf b+1)%(row a p).length:Nat):Int):=by rw[e,em,af1]
 apply#[ax^e8 (row a p) b,?_,q];change gZ ((row a p).map ax)^(λi j=>i%j) _ _=_;dsimp only;rw[r];show iY^rp _ d
def Ee{P:D->Prop}(h:P^.bl (not^AT (a=b))):Ia (pairD a) (pairD b) P:=by
 apply#[_,_,T8 a,T8 b,by unfold uI nD;simp[PyData.depth,PyData.depthAll],?_]
 have:PyData.eqv (uI a)^uI b=AT (a=b):=by
  by_cases e:a=b
  .rw[FM e];show(Em a b).mpr e
  .rw[GE e]
   apply zM.mpr ?_;show λz=>e^(Em a b).mp z
 rw[mo rfl,this];show h
def Cq:c7:=λa P=>∃(w:W)(d:Nat×Nat),a= [.gB w,pairD d]/\Good w/\w.length<=14/\aP w d/\∀r,gY w d r->P^.lst^r.map pairD
def B0:Dk P w base 2 T.u2^aR Z Cq:=by
 have f:=qW.nd;apply bo T.u2.F qW [0,0,1,0,0] ∅ (λt R h=>by let#[z,D,rfl,I]:=h;rfl)^λy A outer s H E t R l h=>?_
 have u:=l.units
 apply#[_,(aq (gL 2 f^ij^ae (aa 1) ag)
   (aq (FI (aa 1)^dY 2 rfl^aM (aJ 3 f)^aM (aJ 4 f) bU)
   (aq (Np 3 4 rfl f^ae (aa 4)^ae (Ih T.W (aa 0) T.ve.m (qy T) (l.mono ∅) T.ve.b^ae (aa 4)^ae (aa 3) ag) ag)
   (aq (mW Gc (bB (qt u) (bM^ae (aa 3)^ae (aa 4) ag) (aa 1)^aU _)^aq (iT At 2^bM^ae (aa 3)^ae (aa 4) ag)
   (aw^Np 3 4 rfl f^ae (aa 4)^ae (Ih T.W (aa 0) T.ve.m (qy T) (l.mono ∅) T.ve.b^ae (aa 4)^ae (aa 3) ag) ag))
   (aw^aS^aa 2))))),?_]
 let#[a,d,rfl,g,h14,n,q]:=h;have B:=gq g;have C:a.length*a.length<=14*14:=xy h14 h14;apply#[_,Y,by change 1<=sizeLine;decide,?_]
 exists _,rfl,rfl,rfl;exists _,rfl,_,rfl,a,rfl,_,rfl,_,rfl,a,d.2,d.1,rfl,g,g.sym _ _ n,_,_,rfl;apply oV (λm v=>∃k,0<k/\m+k=(bh a).length+1/\(∀j,0<j->j<k->cU a j d≠d)/\v= [J^.gB a,J^pairD d,J^.lst^(walk a d k).map pairD,J^ax (cU a k d).1,J^ax (cU a k d).2]) (bh a).length #[1,(),Y,λj i r=>by lia,Y] ?_
 rintro m _ ⟨k,x,G,o,rfl⟩;have p:=iI g n k;apply#[_,Y,_,Y,by change 2<=sizeLine;decide,_,Y,?_]
 apply(?_:Ia (pairD^cU a k d) (pairD d) _);apply Ee #[_,Y,eU (λe=>?_)^λe=>?_]
 .have ne:cU a k d≠d:=by simpa using e
  have lt:k<(bh a).length:=by
   have:=rf g n (k:=k+1) λj i r=>by
    by_cases c:j=k
    .subst c;show ne
    .show o j i ()
   lia
  apply#[_,Y,_,Y,_,Y,by change 2<=sizeLine;decide,trivial,bE^by rw[aG,jJ];lia,?_]
  exists _,rfl,_,rfl,a,rfl,_,rfl,_,rfl,a,(cU a k d).2,(cU a k d).1,rfl,g,g.sym _ _ p,_,_,rfl;apply#[m-1,(),k+1,(),(),λj i r=>?_,?_]
  .by_cases c:j=k
   .subst c;show ne
   .show o j i ()
  .rw[uS,cn];rfl
 .have e:cU a k d=d:=by simpa using e
  show#[_,Y,q _ #[k,x,e,o,Y]]
def Ap(a:!!(Nat×Nat)):D:= .lst^(a.map λr=>r.map (·.1)).map aD
def J3:c7:=λb P=>∃(w:W),b= [.gB w]/\Good w/\1<=w.length/\w.length<=14/\(w.length=1->P^.lst [aD [0]])/\(2<=w.length->∀a,bZ w a->x9 w=hZ a->P^.lst^(x9 w).map aD)
def Pf(h:d∉l):Jb (l.map zz)^zz d=(l++ [d]).map zz:=by
 unfold Jb;rw[tz^λz=>h^su.mp z,cn];rfl
def rW:Dk P w base 3 T.u3^aR Z J3:=by
 have I:=E9.nd;apply bo T.u3.F E9 [0,98,1,0,0,0] ∅ (λu R h=>by let#[K,rfl,V']:=h;rfl)^λaZ A outer s H E u R n h=>?_
 have S:=n.units
 apply#[_,(aq (cT (bB (i3 S) (gK T.W (aa 0) T.va.m (oG T) (n.mono ∅) T.va.b) aL^aU _) (aw^aS^kG^ae (kG^ae aL ag) ag) bq)
   (aq (OO 1 I rfl T.u0)
   (aq (gL 2 I^ij ag)
   (aq (cz rfl Gc (bD^aV Eb rfl T.B.sorted kX^ae (fm iZ (gK T.W (aa 0) T.vc.m (gP T) (n.mono ∅) T.vc.b)^nY (NC:= ["a","b"]) (src:= [V,V]) rfl (pZ^au qL) trivial (bD^gK T.W (aa 0) T.vc.m (gP T) (n.mono ∅) T.vc.b) (λ_ _ _=>(nZ 2 rfl^dG (bC 0 (show(["a","b"]:!fC).Nodup from by nofun))^dG (bC 1 (show(["a","b"]:!fC).Nodup from by nofun)) k6)) (λ_ _ _=>dQ)^λ_ _ _=>(bM^ae (aa 1)^ae (aa 0) ag)) ag) (aJ 3 I)^aw^cT (bB (LX S) (aa 3) (aa 1)^by with_unfolding_all rfl) (aq (aX At 4 I^aB T.u2 (B0 T) n^ae (aa 0)^ae (aa 3) ag)
   (aq (cz rfl Gc (bD^aa 4) (aJ 5 I)^aw^Q9 At 1 S^aa 5)
   (aw^iT At 2^nY (NC:= ["p","q"]) (src:= [V,V]) rfl (pZ^au qL) trivial (bD^aa 4) (λ_ _ _=>(nZ 2 rfl^dG (bC 0 (show(["p","q"]:!fC).Nodup from by nofun))^dG (bC 1 (show(["p","q"]:!fC).Nodup from by nofun)) k6)) (λ_ _ _=>dQ)^λ_ _ _=>(aa 0)))) bq)
   (aw^aS^aV (KG S) rfl T.B.sorted kX^ae (aa 2) ag))))),?_]
 let#[j,rfl,g,h1,h14,q1,q2]:=h;have c1:=gq g;have c2:j.length*j.length<=14*14:=xy h14 h14;have lw:(j.map aD).length=j.length:=aG _;exists _,rfl,j,rfl,j,rfl;apply VJ #[_,Y,eU (λe=>?_)^λe=>?_]
 .have e:j.length=1:=by have:=KF e;lia
  show#[by change 1<=sizeLine;decide,by change 1<=sizeLine;decide,q1 e]
 have n2:2<=j.length:=by have:=SB e;lia
 apply#[by change 0<=sizeLine;decide,?_]
 apply#[_,Y,j,Y,j,Y,g,h14,λts G srt=>?_];have tl:=MK g;rw[<-A7] at tl;have tl2:=G.length_eq;apply#[_,Y,j,Y,j,Y,g,h14,λv J' Y0=>?_];have e2:v=ts:=adV (λ_ _ _ _=>kP) Y0 srt^J'.trans G.symm;subst e2;apply iW (λy=>∃L' N,y= [L',N]) pairD (λ_=>L) (λt=>pairD (t.2,t.1)) v _ [] _ (λt ht aH O Y' Nn hY hN=>?_) #[V,V,Y] (by rw[lK,iN];show small ()) λaH O=>?_
 .obtain⟨L',N,rfl⟩:=O
  show#[Y,Y,Kl #[_,Y,_,Y,by change 2<=sizeLine;decide,hY _ #[_,_,Y] rfl]]
 have pd:=KC g G;have pl:=pd.length_eq;rw[dj,aG] at pl;have ef:v.filter (λ_=>L)=v:=by simp
 rw[pJ,ef];apply#[by rw[aG,aG];show small (),?_]
 have ej:(.lst (v.map pairD++v.map λt=>pairD (t.2,t.1)):D)= .lst^(v++v.map λt=>(t.2,t.1)).map pairD:=by rw[cn,cQ];rfl
 dsimp only[k4];rw[ej];apply#[_,Y,by rw[dj,aG];lia,λu U acX=>?_]
 have U:=U.trans pd;have all:∀e,aP j e->e∈u:=λe h=>U.mem_iff.mpr^ba.mpr h;have dart:∀e∈u,aP j e:=λe h=>ba.mp^U.mem_iff.mp h;clear G J' srt Y0 ej pd ef;apply bK (λi y=>∃(f:!!(Nat×Nat))(o3 o4 p:Option D),y= [J^.gB j,J^.x^.wA (iC w)^f.flatten.map zz,J^Ap f,o3,o4,p]/\Wk j u i f) #[[],V,V,V,Y,Wk.zero j u] ?_ ?_
 .rintro i d _ hd ⟨f,o3,o4,p,rfl,hw⟩ A X
  let#[e,he,rfl]:=cH hd;have de:=dart e^cG he;exists _,rfl,_,rfl,zz e,f.flatten.map zz,rfl,rfl,_,rfl;apply(?_:if (if L=L then not^AT (zz e∈f.flatten.map zz) else _)=L then _ else _);rw[mo rfl,show AT (zz e∈f.flatten.map zz)=AT (e∈f.flatten) from aeO.mpr su]
  have sub:∀x∈f.flatten,x∈bh j:=λx q=>by
   let#[r,n,hxr]:=lJ.mp q;let#[d,R,dd,K]:=hw.rnd r n;show ba.mpr^R.bh g dd x hxr
  have fl:=aY hw.nod sub;apply eU (λc=>?_)^λc=>?_
  .have c:e∉f.flatten:=by simpa using c
   apply#[_,Y,_,Y,j,e,Y,g,h14,de,λr R=>#[trivial,?_]];have Q:=hw.take g all dart acX he c R;have rd:∀x∈r,x∈bh j:=λx q=>ba.mpr^R.bh g de x q;have rl:=aY (R.nodup g de) rd;have C:(f.flatten++r).Nodup:=by have:=Q.nod;rw[xr] at this;simpa using this
   have VN:(f.flatten++r).length<=(bh j).length:=aY C λx q=>(cM.mp q).elim (sub x)^rd x;rw[dj] at VN;exists _,rfl;apply bK (λk y=>∃p,y= [J^.gB j,J^.x^.wA (iC w)^(f.flatten++r.take k).map zz,J^Ap f,J^pairD e,J^.lst^r.map pairD,p]) #[p,by rw[uX,fB];rfl] ?_ ?_
   .rintro k d _ hd ⟨p,rfl⟩ A X
    let#[x,q,rfl]:=cH hd;have hk:=(cV.mp q).1;have tk:r.take (k+1)=r.take k++ [x]:=by rw[rk,q];rfl
    have nx:x∉f.flatten++r.take k:=λz=>by
     have sp:f.flatten++r=(f.flatten++r.take k)++(x::r.drop (k+1)):=by
      rw[kz,<-cV.mp q|>.2,aeF,mh]
     rw[sp] at C;show(je.mp C).2.2 x z x (c5 ..) rfl
    apply#[_,Y,_,Y,zz x,Y,by rw[aG,dj,jr];lia,?_]
    rw[Pf nx,kz,<-tk];show X _ #[_,Y]
   .rintro _ ⟨p,rfl⟩
    rw[aG,xw]
    have dl:f.length<=300:=by
     have h:∀o:!!(Nat×Nat),(∀r∈o,r≠ [])->o.length<=o.flatten.length:=λo=>by
      induction o with
      |nil=>intro _;show bu _
      |cons a l ih=>
       intro h;have h1:=CY.mpr^h a (c5 ..);have h2:=ih λr n=>h r^eS _ n;rw[mj,dj,cF];lia
     have:=h f λr n z=>by
      let#[d,R,K,V']:=hw.rnd r n
      have:=R.first
      rw[z] at this;cases this
     lia
    exists _,rfl,_,rfl;apply iW (λy=>∃L' N,y= [L',N]) pairD (λ_=>L) (λt=>ax t.1) r _ [] _ (λt ht aH O Y' Nn hY hN=>?_) #[V,V,Y] (by rw[lK,iN];show small ()) λaH O=>?_
    .obtain⟨L',N,rfl⟩:=O
     show#[Y,Y,Kl #[_,Y,hY _ #[_,_,Y] rfl]]
    rw[pJ,show r.filter (λ_=>L)=r by simp]
    apply#[trivial,bE^by rw[aG,aG];lia,?_]
    apply X _ #[f++ [r],J^pairD e,J^.lst^r.map pairD,p,?_,Q]
    have e1:Ap (f++ [r])= .lst ((f.map λr=>r.map (·.1)).map aD++ [.lst (r.map λt=>ax t.1)]):=by
     unfold Ap aD;rw[cn,cn];simp only[b9,yT,cQ];rfl
    rw[e1,xr,show[r].flatten=r by simp];rfl
  .have c:e∈f.flatten:=by simpa using c
   show X _ #[f,_,_,_,Y,hw.skip he c]
 .rintro _ ⟨f,o3,o4,p,rfl,hw⟩
  have hw:Wk j u u.length f:=by rw[aG] at hw;show hw
  have fin:=hw.fin g all;have R:bZ j f:=#[hw.rnd,fin]
  have dl:f.length<=300:=by
   have h:∀o:!!(Nat×Nat),(∀r∈o,r≠ [])->o.length<=o.flatten.length:=λo=>by
    induction o with
    |nil=>intro _;show bu _
    |cons a l ih=>
     intro h;have h1:=CY.mpr^h a (c5 ..);have h2:=ih λr n=>h r^eS _ n;rw[mj,dj,cF];lia
   have:=h f λr n z=>by
    let#[d,R,K,V']:=hw.rnd r n
    have:=R.first
    rw[z] at this;cases this
   have:=fin.length_eq
   lia
  apply#[_,Y,f.map^λr=>r.map (·.1),Y,by rw[aG];lia,λM G srt=>?_]
  let#[o,p',rfl]:=L2.kK (λr:!(Nat×Nat)=>r.map (·.1)) M f G;have R':=R.Jv p';have e:=yl g R' srt
  have:=q2 n2 o R' e
  rw[e] at this;show this
variable {P:Program} {w:World} {mg:Str->Option Value} {base:Heap} {Z:DC} (T:Txt Z mg)
def wU(l:!Nat):!(Nat×Nat):=(aj l.length).map λk=>(l.getD k 0,l.getD ((k+1)%l.length) 0)
def M1(l:!Nat):l.zip (l.drop 1++l.take 1)=wU l:=by
 apply nN λi=>?_;unfold wU;rw[dF]
 by_cases h:i<l.length
 .rw[xq h,yR]
  apply afL.mpr #[by rw[cy,bT h];rfl,?_]
  by_cases c:i+1<l.length
  .rw[jj^by rw[pI];lia,yL,xv c,show 1+i=i+1 by lia,bT c];change _\(l.getD (i+1) 0);rw[cy,bT c];rfl
  .have e:i+1=l.length:=()
   rw[ko^by rw[pI];lia,pI,e,ae2,show i-(l.length-1)=0 by lia]
   cases l with
   |nil=>simp at h
   |cons a l=>rfl
 .rw[eF^by rw[List.length_zip,dj,pI,jr];lia,eF^by rw[jb];lia];rfl
def sQ(l:!Nat):!(Nat×Nat):=if 1<l.length then wU l else[]
def Cr:c7:=λa P=>∃(l:!Nat),a= [aD l]/\l.length<=300/\P^.lst^(sQ l).map pairD
def oI:Dk P w base 1 T.uf^aR Z Cr:=by
 have f:=wQ.nd;apply bo T.uf.F wQ [0] ∅ (λd R h=>by let#[m,rfl,n]:=h;rfl)^λg A outer s H E d R e h=>?_
 have i:=e.units;exists _,(aw^aS^ZO (bB Tj (aV dX rfl T.B.len dW^ae (aa 0) ag) aL^aU _) (Ig rfl rfl T.B.list rfl T.B.zip^ae (aa 0)^ae (fm iZ (xH (aa 0) (Bc aL) Bb)^xH (aa 0) Bb^Bc aL) ag)^kG ag);let#[l,rfl,j,q]:=h;have k:(l.map ax).length=l.length:=aG _;unfold sQ at q;exists _,rfl,_,rfl;apply(?_:if AT ((1:Int)<((l.map ax).length:Int))=L then _ else _);apply eU (λc=>?_)^λc=>?_
 .have c:1<l.length:=by have:=KF c;lia
  rw[mo c] at q;exists _,rfl,_,rfl,_,rfl;have a:cutD (l.map ax) (J ((1:Nat):Int)) V=(l.drop 1).map ax:=by rw[KH _ _ (),afx]
  have b:cutD (l.map ax) V^J ((1:Nat):Int)=(l.take 1).map ax:=by rw[A0 _ _ (),aeG]
  apply#[small^by rw[show cutD (l.map ax) (J 1) V=_ from a,show cutD (l.map ax) V^J 1=_ from b,aG,aG,pI,jr];lia,?_]
  apply(?_:R^.lst (((l.map ax).zip (cutD (l.map ax) (J ((1:Nat):Int)) V++cutD (l.map ax) V^J ((1:Nat):Int))).map λp=> .tup [p.1,p.2]));rw[a,b,<-cn,List.zip_map,M1,cQ];show q
 .have c:¬1<l.length:=by have:=SB c;lia
  rw[tz c] at q;show#[by change 0<=sizeLine;decide,q]
def sP(a:!!(Nat×Nat)):!(Int×Int):=a.flatten.map zz
def jI(n:Nat):!!(Nat×Nat)->!FV
 | []=> []
 |r::a=>r.map (λ_=>FV.int (n:Int))++jI (n+1) a
def RS(w:W)(a:!!(Nat×Nat)):Prop:=(w.length=1/\a= [[]])\/(2<=w.length/\bZ w a/\x9 w=hZ a)
def xN:Nat->!D->!D
 |_,[]=> []
 |n,x::l=> .tup [.int (n:Int),x]::xN (n+1) l
theorem Ek:∀(l:!D)(n:Nat),xN n l=l.mapIdx λi x=> .tup [.int ((n+i:Nat):Int),x]
 | [],n=>rfl
 |x::l,n=>by
  rw[List.mapIdx_cons];change _::xN (n+1) l=_;rw[Ek l (n+1)]
  congr 1
  congr 1
  funext i x
  rw[show n+1+i=n+(i+1) by lia]
def Iq(l:!D):eZ l=xN 0 l:=by
 rw[Ek];unfold eZ
 congr 1
 funext i x
 rw[iN]
theorem JV:∀(c:!(Nat×Nat))(o:Option D)(b:!(Nat×Nat))(d:!FV),(b++c).Nodup->(b++c).length<=300->(∀o,N [J^ax n,x,o] ((b++c).map zz) (d++c.map λ_=>FV.int (n:Int)))->
  lcWK (kH 2) oZ (vG 2) (vG 0) (c.map pairD) [J^ax n,x,o] (b.map zz) d N
 | [],o,b,d,_,_,h=>by
  have:=h o
  rw[fB,yT,fB] at this;show this
 |s::c,o,b,d,f,g,h=>by
  have e:b++s::c=(b++ [s])++c:=by simp
  have i:s∉b:=λm=>by
   rw[je] at f;show f.2.2 s m s (c5 ..) rfl
  simp only[b9,lcWK,kH,oZ, ↓reduceIte];apply#[_,Y,_,Y,zz s,FV.int (n:Int),Y,Y,(λz=>i^su.mp z),by rw[aG];rw[dj] at g;lia,?_]
  have:=JV c (J^pairD s) (b++ [s]) (d++ [FV.int (n:Int)]) (e▸f) (e▸g) λo=>by
   have:=h o
   rw[e,b9,show ∀(a:FV)(l:!FV),d++a::l=d++ [a]++l from λa l=>by simp] at this;show this
  rw[cn] at this;show this
theorem BM{N:!(Int×Int)->!FV->Prop}:∀(a:!!Nat)(n:Nat)(e f d:Option D)(b:!(Nat×Nat))(c:!FV),(∀r∈a,r.length<=300)->(b++(a.map sQ).flatten).Nodup->(b++(a.map sQ).flatten).length<=300->
  N ((b++(a.map sQ).flatten).map zz) (c++jI n^a.map sQ)->
  lcWK2 (KO 2^Al (kH 0)^Al (kH 1) KN) oZ (Q6^p5 Cr^A2 (vG 1) k4) (kH 2) oZ (vG 2) (vG 0) (xN n^a.map aD) [e,f,d] (b.map zz) c N
 | [],n,e,f,d,b,c,_,_,_,h=>by
  rw[yT,List.flatten_nil,fB] at h;unfold jI at h;rw[fB] at h;show h
 |r::a,n,e,f,d,b,c,j,g,i,h=>by
  rw[b9,mj,<-kz] at g i h;simp only[b9,xN,lcWK2,oZ, ↓reduceIte];exists rfl,rfl;exists _,rfl,r,rfl,j r (c5 ..);apply JV (sQ r) d b c (je.mp g).1 (by rw[dj] at i;lia) λo=>?_
  apply BM a (n+1) _ _ _ (b++sQ r) _ (λx k=>j x^eS _ k) g i ?_;unfold jI at h;rw[<-kz] at h;show h
def Mv{w:W}(h:gY w d r):wU^r.map (·.1)=r:=by
 apply nN λi=>?_;unfold wU;rw[dF,aG]
 by_cases a:i<r.length
 .have b:r.getD i (0,0)=r[i]:=by rw[cy,bT a];rfl
  rw[xq a,bT a,yR,Ew,Ew,Ui h a,b];rfl
 .rw[eF^by rw[jb];lia,eF ()];rfl
def Uj{w:W}(g:Good w)(h:gY w d r)(b:aP w d):1<r.length:=by
 let#[k,c,a,_,rfl]:=h;rw[jJ];apply FS ?_;intro z;obtain rfl:k=1:=()
 have a:qs w d=d:=a;show iR g b (KB Prod.fst a).symm
theorem si{w:W}(g:Good w)(R:bZ w a):(hZ a).map sQ=a:=by
 unfold hZ;rw[cQ];apply(zL (g:=id) λr c=>?_).trans^List.map_id _;let#[d,b,e,f]:=R.rnd r c;change sQ^r.map (·.1)=r;unfold sQ;rw[mo^by rw[aG];show Uj g b e,Mv b]
def sh{w:W}(g:Good w)(h14:w.length<=14)(R:bZ w a):a.flatten.Nodup/\a.flatten.length<=196/\∀r∈a,r.length<=196:=by
 have c:=gq g;have d:w.length*w.length<=14*14:=xy h14 h14;have e:=R.perm.length_eq;apply#[R.perm.nodup_iff.mpr^dh g,(),λr b=>?_]
 have:=(M4 b).length_le
 lia
def Mz:c7:=λb P=>∃(w:W),b= [.gB w]/\Good w/\1<=w.length/\w.length<=14/\∀a,RS w a->P^.x^.dH (sP a)^jI 0 a
def nk:Dk P w base 4 T.ug^aR Z Mz:=by
 have y:=nH.nd;apply bo T.ug.F nH [0] ∅ (λk R h=>by let#[z,rfl,D]:=h;rfl)^λC A outer s H E k R f h=>?_
 have l:=f.units;apply#[_,(aw^aS^Vy (NC:= ["number","land","side"]) (src:= [V,V,V]) l rfl (pZ^au iA) trivial (fg rfl T.B.enumerate^ae (aB T.u3 (rW T) f^ae (aa 0) ag) ag) (λ_ _ _=>(nZ 2 rfl^dG (bC 0 (show(["number","land","side"]:!fC).Nodup from by nofun))^dG (bC 1 (show(["number","land","side"]:!fC).Nodup from by nofun)) k6)) (λ_ _ _=>dQ) (λ_ _ _=>(bD^aB T.uf (oI T) f^ae (aa 1) ag)) (λ_ _ _=>(bC 2 (show(["number","land","side"]:!fC).Nodup from by nofun))) (λ_ _ _=>dQ) (λ_ _ _=>(aa 2))^λ_ _ _=>(aa 0)),?_]
 let#[m,rfl,g,n,h14,q]:=h;apply#[_,Y,m,Y,g,n,h14,λo=>?_,λp d R e=>?_]
 .have:=BM (N:=λt u=>R^.x^.dH t u) [[0]] 0 V V V [] [] (λr f=>by rw[eO] at f;subst f;decide) ∅ ∅^q [[]]^.inl #[o,Y]
  rw[<-Iq] at this;show this
 .obtain⟨a,b,c⟩:=sh g h14 R
  have i:=si g R;rw[e];apply(?_:lcWK2 _ _ _ _ _ _ _ (eZ^(hZ d).map aD) _ _ _ _);rw[Iq];apply BM (hZ d) 0 V V V [] [] (λr f=>?_) (by rw[i];show a) (by rw[i];change d.flatten.length<=300;lia)^by rw[i];show q d^.inr #[p,R,e]
  let#[j,v,rfl]:=bS.mp f
  have:=c j v
  change(j.map (·.1)).length<=300;rw[aG];lia
end tQ
namespace AD
open PySem L2
def top(i:Nat):Stmt:=PySem.Challenge.pw_mapdye_k73_whole_any_ties_dyes.main.body.getD i^.Pass #[0,0,0,0]
abbrev Cc:Stmt:=top 43
abbrev Au:Stmt:=top 44
abbrev Cd:Stmt:=top 45
abbrev yF:Stmt:=top 46
def Xn(K:ac):Sp:=λd H Q _=>∃(a:Ad)(b:!Int)(k:Int),d= [.ref a, .int k]/\aK K H a^b.map V'.int/\b.length<=63/\0<=k/\k<=100/\∀(v:Int)(c:Hp),aE H c->Q (.int v) c
section
def Xk:aF ["_law_script","_law_k"] ["_law_script","_law_k"]^au Cc:=by bv_omega
def BW(D:bO K mg "_law_cell" Cc ["_law_script","_law_k"]):FnOk P w K mg base fJ 1 D.f D.fd ["_law_script","_law_k"]^Xn K:=by
 apply D.F.ok Xk (λn H Q E h=>?_)^λC A outer s H n Q E G h=>?_
 .obtain⟨a,b,k,rfl,_⟩:=h
  rfl
 let#[a,b,k,rfl,o,I,J',L',q]:=h;apply#[_,bH^iy^dA bV (dB GF (rZ wV (pv 0) (qC^pv 1)^qC^dB i4 (pv 1) bf)^fZ^ar bf aC) bf^λ_ _=>rfl,?_];apply#[_,Y,_,Y,k,Y,_,Y,_,_,Y,Y,_,Y,a,_,Y,o,λp t=>?_];apply#[by change 1<=sizeLine;decide,λg l=>?_]
 have ne:p≠g:=av (ah (H:=H) (a:=p)) l;have c:=nW (b.map V'.int) (J k)^J (k+1);rw[aG] at c;apply#[p,g,_,_,Y,Y,by rw[ao ne];show ah,ah,small^by change _+1<=1000;lia,λm i=>?_]
 have u:aE H^upd (upd (upd H p^.lst^jh (b.map V'.int) (J k)^J (k+1)) g^.lst [.int 0]) m^.lst (jh (b.map V'.int) (J k)^J (k+1)++ [.int 0]):=
  (az t _).trans^(az l _).trans^az i _
 have d:∃v:Int,gZ (jh (b.map V'.int) (J k)^J (k+1)++ [V'.int 0]) 0\(.int v):=by
  have:∀x∈jh (b.map V'.int) (J k)^J (k+1)++ [V'.int 0],∃v,x=V'.int v:=λx y=>by
   rcases cM.mp y with z|z
   .unfold jh at z
    let#[v,M,rfl]:=bS.mp^List.mem_of_mem_drop^ae6 z;show#[v,Y]
   .show#[0,by simpa using z]
  cases e:jh (b.map V'.int) (J k)^J (k+1)++ [V'.int 0] with
  |nil=>simp at e
  |cons x r=>
   let#[v,rfl]:=this x^by rw[e];show c5
   show#[v,dm (j:=0) rfl]
 let#[v,B]:=d;show#[m,_,0, .int v,Y,Y,aK.of ah,B,q v _ u]
end
def boot_max:bootBuiltins "max"\(.builtin "max"):=by nofun
def boot_min:bootBuiltins "min"\(.builtin "min"):=by nofun
def UD(K:ac):Sp:=λd H Q _=>∃(a:Ad)(b:!Int)(k:Int),d= [.ref a, .int k]/\aK K H a^b.map V'.int/\b.length<=63/\∀(v:Int)(c:Hp),aE H c->Q (.int v) c
structure Dc (mg:Str->Option Value):Prop where
 len:mg "len"=V
 range:mg "range"=V
 max:mg "max"=V
 min:mg "min"=V
 enumerate:mg "enumerate"=V
 zip:mg "zip"=V
 sorted:mg "sorted"=V
 all:mg "all"=V
 isinstance:mg "isinstance"=V
 int:mg "int"=V
 bool:mg "bool"=V
 list:mg "list"=V
 tuple:mg "tuple"=V
section
def JR:aF ["_law_script","_law_turn","_law_number","_law_k","_law_part"] ["_law_script","_law_turn"]^au Au:=by bv_omega
def Pp(B:Dc mg)(C:bO K mg "_law_cell" Cc ["_law_script","_law_k"])(D:bO K mg "_law_mixed" Au ["_law_script","_law_turn"]):FnOk P w K mg base fJ 2 D.f D.fd ["_law_script","_law_turn"]^UD K:=by
 apply D.F.ok JR (λu H Q E h=>?_)^λL' A outer s H u Q E x h=>?_
 .obtain⟨a,c,k,rfl,_⟩:=h
  rfl
 let#[a,c,k,rfl,r,y,q]:=h;have d:=JR.nd
 apply#[_,aI (cc (i:=2) d rfl (Or.inl rfl) bf)
  (aI (jM Gc rfl (lA rfl B.range^ar (dJ (AR rfl) rfl B.max boot_max^ar bf^ar (dJ (AS rfl) rfl B.min boot_min^ar bf^ar (dJ dg rfl B.len adY^ar (pv 0) aC) aC) aC) aC) (cK (i:=3) d rfl^Or.inl rfl)
   (aI (cc (i:=4) d rfl (Or.inl rfl)^dB rX (dB oJ (dB i4 (dB i4 (dB i4 (dB rX (bL (BW C) x rfl C.m C.F.kp C.b .nil cJ^ar (pv 0)^ar (pv 3) aC) bf)^dB oJ bf^pv 3)^dB oJ bf^pv 1) bf) bf) bf)
    (bH^cc (i:=2) d rfl (Or.inl rfl)^dB i4 (dB oJ (pv 2) bf)^dB rX (dB oJ (pv 4)^pv 4) bf)))
  (bH^iy^pv 2)),?_]
 exists _,rfl,a,_,rfl, .inl r,_,_,rfl,_,_,rfl,_,rfl;have G:(c.map V'.int).length=c.length:=aG _;rw[G]
 have I:(if (if (c.length:Int)<63 then(c.length:Int) else 63)>12 then(if (c.length:Int)<63 then(c.length:Int) else 63) else 12)<=63/\0<=(if (if (c.length:Int)<63 then(c.length:Int) else 63)>12 then(if (c.length:Int)<63 then(c.length:Int) else 63) else(12:Int)):=by
  repeat' split
  all_goals lia
 generalize (if (if (c.length:Int)<63 then(c.length:Int) else 63)>12 then(if (c.length:Int)<63 then(c.length:Int) else 63) else(12:Int))=n at I;apply#[(),(),n6 (λi g j=>∃num l o,g= [J^.ref a,J^.int k,J^.int num,l,o]/\aE H j) #[_,_,_,Y,aE.refl _] (λi g j M p=>?_)^λg j p=>?_]
 .obtain⟨num,l,o,rfl,e⟩:=p
  have N:(0:Int)+(i:Int)=(i:Int):=()
  apply#[_,Y,_,Y,a,c,_,Y,e.seq r,y,(),(),λv O J'=>?_]
  apply#[_,_,Y,Y,(by change(0:Int)<2147483647;decide),?_]
  apply#[_,Y,_,_,Y,Y, .inl #[∅,∅],_,_,Y,Y,?_]
  apply#[_,Y,_,_,Y,Y, .inl #[∅,∅],_,_,Y,Y,_,_,Y,Y,?_]
  apply#[_,_,Y,Y, .inr #[∅,∅],_,_,Y,Y,(by change(0:Int)<2147483647;decide),?_]
  generalize t:((v%2147483647+40692*(0+(i:Int))+7*k+1)*48271)%2147483647=part;have R:0<=part:=by rw[<-t];show agb _ ∅
  have S:part<2147483647:=by rw[<-t];show aft _ ∅
  apply#[_,Y,_,_,Y,Y, .inr #[∅,∅],?_]
  apply#[_,Y,_,Y,_,_,Y,Y, .inl #[(),()],_,_,Y,Y,(by change(0:Int)<2147483629;decide),_,_,Y,Y,?_]
  show#[_,_,_,Y,e.trans J']
 .obtain⟨num,l,o,rfl,e⟩:=p
  show#[_,Y,q _ _ e]
def P8(K:ac):Sp:=λe H Q _=>∃(a:Ad)(d:!Int)(k:Int),e= [.ref a, .int k]/\aK K H a^d.map V'.int/\d.length<=63/\0<=k/\k<=100/\
 ∀(r:Ad)(b:!Int)(c:Hp),aE H c->H r=V->c r\(.lst^b.map V'.int)->b≠ []->b.length<=2->Q (.ref r) c
def P0:aF ["_law_script","_law_at"] ["_law_script","_law_at"]^au Cd:=by bv_omega
def BX(B:Dc mg)(C:bO K mg "_law_cell" Cc ["_law_script","_law_k"])(M:bO K mg "_law_mixed" Au ["_law_script","_law_turn"])(D:bO K mg "_law_digits" Cd ["_law_script","_law_at"]):FnOk P w K mg base fJ 3 D.f D.fd ["_law_script","_law_at"]^P8 K:=by
 apply D.F.ok P0 (λG H Q E h=>?_)^λN A outer s H G Q E j h=>?_
 .obtain⟨a,c,k,rfl,_⟩:=h
  rfl
 let#[a,c,k,rfl,l,n,t,u,q]:=h;have x:=(BW (P:=P) (w:=w) (base:=base) C).mono (show 1<=2 by decide)
 have y:=Pp (P:=P) (w:=w) (base:=base) B C M
 apply#[_,aI (B7 (jY L6 (bL x j rfl C.m C.F.kp C.b .nil cJ^ar (pv 0)^ar (pv 1) aC) (dB WQ bf bf)^aU _)
   (bH^iy^fZ^ar (bL y j rfl M.m M.F.kp M.b .nil cJ^ar (pv 0)^ar (pv 1) aC) aC) qD)
  (bH^iy^fZ^ar (bL x j rfl C.m C.F.kp C.b .nil cJ^ar (pv 0)^ar (pv 1) aC)^ar (bL y j rfl M.m M.F.kp M.b .nil cJ^ar (pv 0)^ar (pv 1) aC) aC),?_]
 apply#[_,Y,_,Y,a,c,k,Y,l,n,t,u,λv O d=>?_];apply#[_,_,Y,Y,#[∅,∅,∅],_,_,Y,Y,_,Y,?_]
 apply zo (λ_=>?_)^λ_=>?_
 .apply#[_,Y,_,Y,a,c,k,Y,d.seq l,n,λp I o=>?_]
  apply#[by change 1<=sizeLine;decide,λr e=>?_]
  have g:=d.trans o;show q r [p] _ (g.trans^az e _) (g.free e) ah (by simp)^by simp
 .apply#[_,Y,_,Y,a,c,k,Y,d.seq l,n,t,u,λp I o=>?_]
  apply#[_,Y,_,Y,a,c,k,Y,(d.trans o).seq l,n,λJ' R L'=>?_];apply#[by change 2<=sizeLine;decide,λr e=>?_]
  have i:=(d.trans o).trans L';show q r [p,J'] _ (i.trans^az e _) (i.free e) ah (by simp)^by simp
def Xt:Sp:=λc H Q _=>∃(l:Ad)(a:!Int)(m:Int),c= [.ref l, .int m]/\H l\(.lst^a.map V'.int)/\a≠ []/\a.length<=1000/\0<m/\m<1073741824/\
 ∀(d:Int)(b:!Int),0<=d->d<m->b≠ []->b.length<=a.length->Q (.int d)^upd H l^.lst^b.map V'.int
def N8:aF ["_law_left","_law_many","_law_digit"] ["_law_left","_law_many"]^au yF:=by bv_omega
def qA(B:Dc mg)(D:bO K mg "_law_take" yF ["_law_left","_law_many"]):FnOk P w K mg base fJ 1 D.f D.fd ["_law_left","_law_many"] Xt:=by
 apply D.F.ok N8 (λy H Q E h=>?_)^λO A outer s H y Q E R h=>?_
 .obtain⟨a,g,k,rfl,_⟩:=h
  rfl
 let#[l,g,m,rfl,d,C,S,o,G,q]:=h;have I:=N8.nd
 apply#[_,aI (B7 (PW.pt^NZ (jY L6 (dA bV (pv 0) bf^λ_ _=>rfl) bf^aU _)^JK^jY L4 (dJ dg rfl B.len adY^ar (pv 0) aC) bf^aU _)
   (bH^dD^i5 GT PySem.F.slot_list_pop PySem.F.type_list_pop Pm (pv 0)^ar bf aC) qD)
  (aI (cc (i:=2) I rfl (Or.inl rfl)^dB rX (dA bV (pv 0) bf^λ_ _=>rfl)^pv 1)
  (aI (r9 (dB TH (dA bV (pv 0) bf^λ_ _=>rfl)^pv 1)^GL (pv 0) bf set_list)
  (bH^iy^pv 2))),?_]
 have fin:∀(b:!Int),b≠ []->b.length<=g.length->∀e,e=H\/e=upd H l^.lst^b.map V'.int->e l\(.lst^b.map V'.int)->
   (UO (Od (Hf (rI (λ_ j=>0<j) λi j=>V'.int (i%j)) (Hf (JL K) (zC 0)^tC^.int 0)^zC 1)^Bh 2)^UO (Od (Hf (rI X5 λi j=>V'.int (i / j)) (Hf (JL K) (zC 0)^tC^.int 0)^zC 1)^Yr (zC 0) (tC^.int 0) Ue)^Y5^zC 2)
    {nx:=λ_ J'=>Q .aT J',rt:=Q} (start ["_law_left","_law_many","_law_digit"] [.ref l, .int m]) e:=by
  intro b p L' e t u
  obtain⟨x,r,rfl⟩:∃x r,b=x::r:=by
   cases b with
   |nil=>show absurd rfl p
   |cons x r=>show#[x,r,Y]
  exists _,rfl,l,_,0, .int x,rfl,rfl,aK.of u,dm (j:=0) rfl,_,rfl,_,_,rfl,rfl,o;exists _,rfl,l,_,0, .int x,rfl,rfl,aK.of u,dm (j:=0) rfl,_,rfl,_,_,rfl,rfl,#[o,G];apply#[_,Y,l,_,0,0,Y,Y,u,?_,?_]
  .change lQ (r.length+1|>λn=>((x::r).map V'.int).length) 0\0
   unfold lQ;rw[mo ∅,mo^by simp]
   rfl
  .apply#[_,Y,?_]
   have M:upd e l^.lst^((x::r).map V'.int).set 0^.int (x / m)=upd H l^.lst^((x / m)::r).map V'.int:=by
    rcases t with z|z
    .rw[z];rfl
    .rw[z,q0];rfl
   rw[M];show q (x%m) ((x / m)::r) (agb _ ()) (aft _ o) (by simp)^~~~L'
 obtain⟨x,r,rfl⟩:∃x r,g=x::r:=by
  cases g with
  |nil=>show absurd rfl C
  |cons x r=>show#[x,r,Y]
 exists _,rfl,l,_,0, .int x,rfl,rfl,aK.of d,dm (j:=0) rfl,_,_,rfl,rfl,_,rfl;apply zo (λ_=>?_)^λ_=>?_
 .apply#[_,Y,l,_,Y, .inl^aK.of d,_,_,Y,Y,_,Y,?_]
  apply zo (λc=>?_)^λ_=>?_
  .have N:=KF c
   have v:r≠ []:=by
    intro z;subst z;simp at N
   apply#[_,Y, .inl #[Y,_,aK.of d],l,_,0,0, .int x,Y,Y,d,∅,∅,?_,Y,?_]
   .simp[seqIndex?]
   .show fin r v (by simp) _ (.inr rfl) ah
  .show fin (x::r) (by simp) (bu _) _ (.inl rfl) d
 .show c8^fin (x::r) (by simp) (bu _) _ (.inl rfl) d
end
open Wb
abbrev Ms:Stmt:=top 47
def bz(r:!Nat):!V':=r.map λ(n:Nat)=>V'.int (n:Int)
def Off(S:!Ad)(H a:Hp):Prop:=∀b o,b∉S->H b\o->a b\o
def Off.trans{S:!Ad}{H d e:Hp}(a:Off S H d)(b:Off S d e):Off S H e:=λc o f h=>b c o f^a c o f h
def Off.of_same{S:!Ad}{H a:Hp}(h:aE H a):Off S H a:=λb o _ e=>h b o e
def Off.put{S:!Ad}(h:a∈S\/H a=V):Off S H^upd H a o:=λb u c e=>by
 rw[ao^λz=>?_]
 .show e
 .rcases h with h|h
  .rw[z] at c;show c h
  .rw[z,h] at e;cases e
structure aQ (H:Hp) (T:Ad) (as:!Ad) (w:W):Prop where
 top:H T\(.lst^as.map V'.ref)
 nod:as.Nodup
 nT:T∉as
 len:as.length=w.length
 row:∀(i:Nat) a,as[i]?\a->H a\(.lst^bz^Wb.row w i)
def aQ.keep{T:Ad}(R:aQ H T c w)(h:∀b,b=T\/b∈c->d b=H b):aQ d T c w:=
 #[by rw[h T^.inl rfl];show R.top,R.nod,R.nT,R.len,λi a e=>by rw[h a^.inr^cG e];show R.row i a e]
def aQ.off{S:!Ad}(R:aQ H T b w)(h:Off S H c)(d:T∉S)(f:∀a∈b,a∉S):aQ c T b w:=
 #[h _ _ d R.top,R.nod,R.nT,R.len,λi a e=>h _ _ (f a^cG e)^R.row i a e]
def aQ.at{H:Hp}{T:Ad}{b:!Ad}{w:W}(R:aQ H T b w){p:Nat}(c:p<w.length):∃a,b[p]?\a/\H a\(.lst^bz^Wb.row w p):=by
 have:p<b.length:=by rw[R.len];show c
 show#[_,bT this,R.row p _^bT this]
def get_inj{b:Type}{l:!b}(h:l.Nodup){i j:Nat}{a:b}(c:l[i]?\a)(d:l[j]?\a):i=j:=by
 let#[g,e]:=cV.mp c;let#[k,f]:=cV.mp d;show(afM h).mp^e.trans f.symm
def aQ.put{d:!Ad}(R:aQ H T d w)(f:d[p]?\a)(h:∀b,b=T\/b∈d->b≠a->g b=H b)(e:g a\(.lst^bz r)):aQ g T d^w.set p r:=by
 have k:p<w.length:=by rw[<-R.len];show(cV.mp f).1
 have l:=cG f;apply#[by rw[h T (.inl rfl)^λz=>R.nT^by rw[z];show l];show R.top,R.nod,R.nT,by rw[R.len,fI],λi b c=>?_]
 rw[j0 k]
 by_cases j:p=i
 .subst j
  rw[f] at c;cases c;rw[mo rfl];show e
 .rw[tz j,h b (.inr^cG c)^λz=>j^get_inj R.nod f^by rw[<-z];show c]
  show R.row i b c
def aQ.snoc(R:aQ H T c w){r:!Nat}(j:a∉c)(k:a≠T)(h:∀b,b∈c->f b=H b)(l:f T\(.lst^(c++ [a]).map V'.ref))(e:f a\(.lst^bz r)):aQ f T (c++ [a]) (w++ [r]):=by
 apply#[l,?_,λz=>?_,by simp[R.len],λi b d=>?_]
 .rw[je]
  show#[R.nod,by simp,λx g y m z=>by
   have:y=a:=by simpa using m
   rw[this] at z;rw[z] at g;show j g]
 .rcases cM.mp z with z|z
  .show R.nT z
  .have n:T=a:=by simpa using z
   show k n.symm
 .rw[E5]
  by_cases o:i<c.length
  .rw[jj o] at d
   rw[tz^by rw[<-R.len];lia,h b^cG d]
   show R.row i b d
  .have p:i=c.length:=by
    have:=(cV.mp d).1
    simp at this;lia
   subst p;rw[ko^bu _] at d;simp at d;rw[mo R.len,<-d];show e
def cx(r:!Nat):(bz r).length=r.length:=aG _
def se(r:!Nat)(i n:Nat):bz^ins r i n=ins (bz r) i^.int (n:Int):=ins_map _ _ _ _
def Xv:Sp:=λf H Q _=>∃(l:Ad)(c:!Int)(m:Nat),f= [.int (m:Int), .ref l]/\H l\(.lst^c.map V'.int)/\c≠ []/\c.length<=2/\1<=m/\m<=14/\
 ∀(T:Ad)(e:!Ad)(w:W)(d:!Int)(b:Hp),Off [l] H b->H T=V->(∀a∈e,H a=V)->aQ b T e w->Good w->w.length=m->b l\(.lst^d.map V'.int)->d≠ []->d.length<=2->jw w+2=2*m->Q (.ref T) b
section
def N9:aF ["_law_many","_law_left","_law_turns","_law_new","_law_p"] ["_law_many","_law_left"]^au Ms:=by bv_omega
def Tx(B:Dc mg)(Tk:bO K mg "_law_take" yF ["_law_left","_law_many"])(D:bO K mg "_law_tree" Ms ["_law_many","_law_left"]):FnOk P w K mg base fJ 2 D.f D.fd ["_law_many","_law_left"] Xv:=by
 apply D.F.ok N9 (λvs H Q E h=>?_) (λaZ A outer s H vs Q E hr h=>?_)
 .obtain⟨a,ns,k,rfl,_⟩:=h
  rfl
 let#[l,ns,m,rfl,Y',jU,hz,h1,h14,q]:=h;have nd:=N9.nd;have gT:=qA (P:=P) (w:=w) (base:=base) B Tk
 apply#[_,aI (cc (i:=2) nd rfl (Or.inl rfl) (fZ (ar (fZ aC) aC)))
  (aI (jM Gc rfl (Ma rfl B.range (ar bf (ar (pv 0) aC))) (cK (i:=3) nd rfl (Or.inl rfl))
   (aI (cc (i:=4) nd rfl (Or.inl rfl) (bL gT hr rfl Tk.m Tk.F.kp Tk.b .nil cJ (ar (pv 1) (ar (pv 3) aC))))
   (aI (dD (i5 GT ad6 ad7 oF (dA bV (pv 2) (pv 4) (λ_ _=>rfl))
     (ar (bL gT hr rfl Tk.m Tk.F.kp Tk.b .nil cJ (ar (pv 1) (ar (dB i4 (dJ dg rfl B.len adY (ar (dA bV (pv 2) (pv 4) (λ_ _=>rfl)) aC)) bf) aC))) (ar (pv 3) aC))))
   (bH (dD (i5 GT aeq aer lq (pv 2) (ar (fZ (ar (pv 4) aC)) aC)))))))
  (bH (iy (pv 2)))),?_]
 apply#[by change 0<=sizeLine;decide,λN x=>#[by change 1<=sizeLine;decide,λT O=>?_]]
 have y:T≠N:=λz=>by rw[z,ah] at O;cases O
 have C:H T=none:=by rw[ao y] at O;show O
 have Z:l≠T:=av Y' C;have nl0:l≠N:=av Y' x;apply#[_,Y,1,(m:Int),Y,#[∅,∅,(),()],?_]
 apply n6 (λi σ u=>∃n w G o3 o4,σ= [J (.int (m:Int)),J (.ref l),J (.ref T),o3,o4]/\Off [l] H u/\(∀a∈n,H a=V)/\aQ u T n w/\Good w/\w.length=i+1/\u l\(.lst (G.map V'.int))/\G≠ []/\G.length<=2/\jw w=2*i) ?_ (λi σ u hi hP=>?_) (λσ u hP=>?_)
 .apply#[[N],[[]],ns,_,_,Y,(Off.put (.inr x)).trans (Off.put (.inr O)),λa v=>?_,#[ah,by simp,by simpa using y,Y,λi a e=>?_],OY,Y,?_,jU,hz,Y]
  .have:a=N:=by simpa using v
   rw[this];show x
  .cases i with
   |zero=>
    have:a=N:=by simpa using e.symm
    rw[this,ao (Ne.symm y),ah];rfl
   |succ i=>simp at e
  .rw[ao Z,ao nl0];show Y'
 .obtain⟨n,t,G,o3,o4,rfl,off,S,R,g,U,DJ,Sl,Gg,hdg⟩:=hP
  have mY:l∉n:=λz=>by have:=S l z;rw[Y'] at this;cases this
  apply#[_,Y,_,Y,l,G,_,Y,DJ,Sl,(),(),(),λd pO d0 d1 sW vX=>?_]
  have R1:aQ (upd u l (.lst (pO.map V'.int))) T n t:=R.keep λb c=>by
   apply ao λz=>?_
   rcases c with c|c
   .show Z (z.symm.trans c)
   .rw[z] at c;show mY c
  let#[p,rfl]:=xp d0;have hp:p<t.length:=()
  let#[a,v,jV]:=R1.at hp;have WD:l≠a:=λz=>mY (by rw[z];show cG v)
  have xF:gZ (n.map V'.ref) ((p:Nat):Int)\(.ref a):=dm (by rw[dF,v];rfl)
  exists _,rfl,_,rfl,T,_,_,_,rfl,rfl,aK.of R1.top,xF, .inl #[Y,_,aK.of jV];exists _,rfl,_,rfl,_,rfl,T,_,_,_,rfl,rfl,aK.of R1.top,xF,a,_,rfl, .inl (aK.of jV),_,_,rfl,rfl;have rl:=fG g p;rw[cx];apply#[l,pO,_,Y,ah,sW,(),(),(by lia),λd2 mU e0 e1 zi xY=>?_]
  rw[q0]
  have R2:aQ (upd u l (.lst (mU.map V'.int))) T n t:=R.keep λb c=>by
   apply ao λz=>?_
   rcases c with c|c
   .show Z (z.symm.trans c)
   .rw[z] at c;show mY c
  have Lu:=R2.row p a v;apply#[_,Y,a,_,d2,_,Y,Y,Lu,e0,by rw[cx];lia,rq (by rw[cx];show rl) (bE ()),?_]
  let#[j,rfl]:=xp e0;have ew:(1:Int)+(i:Int)=((t.length:Nat):Int):=()
  rw[ew,lH,<-se];have I:aQ (upd (upd u l (.lst (mU.map V'.int))) a (.lst (bz (ins (row t p) j t.length)))) T n (t.set p (ins (row t p) j t.length)):=R2.put v (λb _ c=>ao c) ah;apply#[_,Y, .inl #[Y,_,aK.of I.top],_,Y,by change 1<=sizeLine;decide,λr M=>?_]
  have J':r≠T:=Ne.symm (av I.top M)
  have Tf:r∉n:=λz=>by
   let#[k,hk]:=jm z
   have:=I.row k r hk
   rw[M] at this;cases this
  have L':r≠l:=λz=>by
   rw[z,ao WD,ah] at M;cases M
  apply#[T,_, .ref r,Y,Y,by rw[ao (Ne.symm J')];show I.top,rq (by rw[aG,I.len,fI];show bu _) (bE ()),?_]
  have X:H r=none:=by
   cases e:H r with
   |none=>rfl
   |some o=>
    have:=off r o (~~~L') e
    rw[ao (λz=>Tf (by rw[z];show cG v)),ao L'] at M
    rw[M] at this;cases this
  have haH:H a=none:=S a (cG v);apply#[n++ [r],leaf t p j,mU,_,_,Y,?_,λb c=>?_,?_,K8 g hp,by rw[ym];lia,?_,zi,(),by rw[OM hp];lia]
  .intro b o c e
   have hbl:b≠l:=by simpa using c
   rw[ao (λz=>by rw[z,C] at e;cases e),ao (λz=>by rw[z,X] at e;cases e),ao (λz=>by rw[z,haH] at e;cases e),ao hbl]
   show off b o c e
  .rcases cM.mp c with z|z
   .show S b z
   .have:b=r:=by simpa using z
    rw[this];show X
  .apply I.snoc (r:= [p]) Tf J' (λb c=>?_) ?_ ?_
   .rw[ao (λz=>I.nT (by rw[<-z];show c)),ao (λz=>Tf (by rw[<-z];show c))]
   .rw[ah,cn];rfl
   .rw[ao J',ah];rfl
  .rw[ao Z,ao (Ne.symm L'),ao WD,ah]
 .obtain⟨n,t,G,o3,o4,rfl,off,S,R,g,U,DJ,Sl,Gg,hdg⟩:=hP
  show#[_,Y,q T n t G u off C S R g () DJ Sl Gg ()]
end
abbrev Cf:Stmt:=top 48
abbrev Av:Stmt:=top 49
def jH{r:!Nat}{i n:Nat}(h:r[i]?\n):(bz r)[i]?\(.int (n:Int)):=by unfold bz;rw[dF,h];rfl
def oN(r:!Nat):(bz r).all gu=true:=by
 rw[yQ];intro x a;let#[n,_,rfl]:=bS.mp a;rfl
def yC{r:!Nat}{i:Nat}{z:V'}(h:(bz r)[i]?\z):∃n,r[i]?\n/\z= .int (n:Int):=by
 unfold bz at h;rw[dF] at h;cases e:r[i]? with
 |none=>rw[e] at h;cases h
 |some n=>rw[e] at h;cases h;show#[n,Y,Y]
def vY{r:!Nat}{p:Nat}(h:p∈r):r[r.idxOf p]?\p:=by
 have lt:=C3.mpr h;rw[bT lt,C8 lt]
def V9{r:!Nat}(a:r.Nodup){p m n:Nat}(h:p∈r)(b:m<r.idxOf p)(e:r[m]?\n):n≠p:=λz=>by
 rw[z] at e
 have:=get_inj a e^vY h
 lia
def Ro(a b:Int):qc (.int a)^.int b=(a==b):=rfl
def rN(p:Nat):qc (.int (p:Int))^.int (p:Int)=true:=by simp[Ro]
def uE{r:!Nat}(a:r.Nodup){p:Nat}(h:p∈r)(m:Nat)(z:V')(b:m<r.idxOf p)(c:(bz r)[m]?\z):qc z^.int (p:Int)=false:=by
 let#[n,d,rfl]:=yC c
 have:=V9 a h b d
 simp[Ro];lia
def GY:Sp:=λb H Q _=>∃(T a:Ad)(c:!Ad)(w:W)(d:Nat×Nat),b= [.ref T, .ref a]/\aQ H T c w/\Good w/\w.length<=14/\H a\(.tup^jF d)/\aP w d/\
 ∀t,H t=V->Q (.ref t)^upd H t^.tup^jF^qs w d
section
def N7:aF ["_law_turns","_law_side","_law_p","_law_q"] ["_law_turns","_law_side"]^au Cf:=by bv_omega
def Tv(B:Dc mg)(D:bO K mg "_law_next" Cf ["_law_turns","_law_side"]):FnOk P w K mg base fJ 1 D.f D.fd ["_law_turns","_law_side"] GY:=by
 apply D.F.ok N7 (λu H Q E h=>?_)^λI A outer s H u Q E J' h=>?_
 .obtain⟨T,l,m,w,d,rfl,_⟩:=h
  rfl
 obtain⟨T,l,m,c,⟨p,b⟩,rfl,R,g,h14,v,n,q⟩:=h;have o:=N7.nd
 apply#[_,aI (r9 (pv 1)^r6 rfl^fU (cK (i:=2) o rfl^Or.inl rfl)^fU (cK (i:=3) o rfl^Or.inl rfl) nv)
  (bH^iy^wx^ar (pv 3)^ar (dA bV (dA bV (pv 0) (pv 3)^λ_ _=>rfl)
   (dB rX (dB i4 (i5 GT ad9 aea rV (dA bV (pv 0) (pv 3)^λ_ _=>rfl)^ar (pv 2) aC) bf)
    (dJ dg rfl B.len adY^ar (dA bV (pv 0) (pv 3)^λ_ _=>rfl) aC))^λ_ _=>rfl) aC),?_]
 have e:p∈row c b:=g.sym _ _ n;have x:b<c.length:=g.rng _ _ n;let#[a,y,j]:=R.at x;have k:gZ (m.map V'.ref) ((b:Nat):Int)\(.ref a):=dm^by rw[dF,y];rfl
 have r:0<(row c b).length:=tK e;exists _,rfl,l,_,rfl,fN.of v,rfl,_,_,rfl,_,_,rfl,rfl;exists _,rfl,_,rfl,_,rfl,T,_,_,_,rfl,rfl,aK.of R.top,k;exists _,rfl,_,rfl,T,_,_,_,rfl,rfl,aK.of R.top,k, .inl #[Y,_,aK.of j],_,rfl;exists a,_,_,(row c b).idxOf p,_,rfl,rfl,j,rfl,oN _,jH^vY e,rN p,uE (g.nod _) e;exists _,_,rfl,rfl,_,rfl,_,rfl,T,_,_,_,rfl,rfl,aK.of R.top,k,a,_,rfl, .inl^aK.of j,_,_,rfl,rfl;rw[cx];apply#[(),?_]
 have em:((((row c b).idxOf p:Nat):Int)+1)%((row c b).length:Int)=((((row c b).idxOf p+1)%(row c b).length:Nat):Int):=by rw[af1,Int.natCast_add];rfl
 have C:gZ (bz^row c b) (((((row c b).idxOf p:Nat):Int)+1)%((row c b).length:Int))\(.int (e8 (row c b) p:Nat)):=by
  rw[em];show dm^jH^oS e
 apply#[a,_,_,_,Y,Y,aK.of j,C,by change 2<=sizeLine;decide,λt G=>?_]
 show q t G
def Cq:Sp:=λc H Q _=>∃(T b:Ad)(f:!Ad)(w:W)(d:Nat×Nat),c= [.ref T, .ref b]/\aQ H T f w/\Good w/\w.length<=14/\H b\(.tup^jF d)/\aP w d/\
 ∀(F:Ad)(L':!(Ad×(Nat×Nat)))(k:Nat)(a:Hp),aE H a->H F=V->a F\(.lst (L'.map λe=>V'.ref e.1))->sE a L'->L'.map (·.2)=walk w d k->0<k->cU w k d=d->(∀j,0<j->j<k->cU w j d≠d)->Q (.ref F) a
def JS:aF ["_law_turns","_law_side","_law_found","_law_here"] ["_law_turns","_law_side"]^au Av:=by bv_omega
def Ii{K:ac}(h:H a\(.tup^jF d)):Dp K H (.ref a)^pH d:= .tup (fN.of h)^.cons (.int _)^.cons (.int _) .nil
def Pq(B:Dc mg)(r:bO K mg "_law_next" Cf ["_law_turns","_law_side"])(D:bO K mg "_law_round" Av ["_law_turns","_law_side"]):FnOk P w K mg base fJ 2 D.f D.fd ["_law_turns","_law_side"] Cq:=by
 apply D.F.ok JS (λvs H Q E h=>?_)^λaZ A outer s H vs Q E Z h=>?_
 .obtain⟨T,p,x,w,d,rfl,_⟩:=h
  rfl
 let#[T,p,x,l,d,rfl,R,g,h14,M,hd,q]:=h;have nd:=JS.nd;have gN:=Tv (P:=P) (w:=w) (base:=base) B r
 apply#[_,aI (cc (i:=2) nd rfl (Or.inl rfl)^fZ^ar (pv 1) aC)
  (aI (cc (i:=3) nd rfl (Or.inl rfl)^bL gN Z rfl r.m r.F.kp r.b .nil cJ^ar (pv 0)^ar (pv 1) aC)
  (aI (E1 Gc (jY (GG Z.units) (pv 3) (pv 1)^aU _)
   (aI (dD^i5 GT aeq aer lq (pv 2)^ar (pv 3) aC)
    (bH^cc (i:=3) nd rfl (Or.inl rfl)^bL gN Z rfl r.m r.F.kp r.b .nil cJ^ar (pv 0)^ar (pv 3) aC)))
  (bH^iy^pv 2))),?_]
 apply#[_,Y,by change 1<=sizeLine;decide,λF C=>?_]
 have N:aE H^upd H F^.lst [.ref p]:=az C _;have R1:aQ (upd H F^.lst [.ref p]) T x l:=R.off (S:= []) (Off.of_same N) (by simp)^by simp
 apply#[_,Y,_,Y,T,p,x,l,d,Y,R1,g,h14,N _ _ M,hd,λt O=>?_];have dl:=gq g;have hw:l.length*l.length<=196:=xy h14 h14
 apply Qo (λU n=>∃(k:Nat)(L':!(Ad×(Nat×Nat)))(t:Ad),U= [J^.ref T,J^.ref p,J^.ref F,J^.ref t]/\0<k/\L'.map (·.2)=walk l d k/\(∀j,0<j->j<k->cU l j d≠d)/\aE H n/\n F\(.lst (L'.map λe=>V'.ref e.1))/\sE n L'/\n t\(.tup^jF^cU l k d))
  (λU n=>(bh l).length+1-(match n F with|some^.lst xs=>xs.length|_=>0)) ?_ (λU n hP=>?_)^λU H Q Q' hq h=>?_
 .have nFt:F≠t:=λz=>by rw[<-z,ah] at O;cases O
  have nsF:p≠F:=av M C;apply#[1,[(p,d)],t,Y,(),Y,λj h1 h2=>by lia,N.trans^az O _,by rw[ao nFt];show ah,λe he=>?_,ah]
  have t5:e=(p,d):=by simpa using he
  rw[t5];show(N.trans^az O _) _ _ M
 .obtain⟨k,L',t,rfl,hk,hL,IW,sm,u,NI,v⟩:=hP
  apply#[_,Y,_,Y,_,_,Ii v,Ii^sm _ _ M,by have:=za^cU l k d;lia,_,Y,?_]
  apply zo (λc=>?_)^λc=>?_
  .have jU:cU l k d≠d:=λz=>by
    rw[(Eo _ _).mpr z] at c;cases c
   have Yx:∀j,0<j->j<k+1->cU l j d≠d:=λj h1 h2=>by
    by_cases hj:j=k
    .rw[hj];show jU
    .show IW j h1 ()
   have V0:=rf g hd Yx;have lL:L'.length=k:=by have:=KB cO hL;rw[aG,jJ] at this;show this
   apply#[_,Y, .inl #[Y,_,aK.of u],_,Y,F,_, .ref t,Y,Y,u,rq (by rw[aG,lL];show bu _)^bE (),?_]
   have nFH:H F=none:=C;have Xm:aE H^upd n F^.lst ((L'.map λe=>V'.ref e.1)++ [.ref t]):=λb o e=>by rw[ao^av e C];show sm b o e
   have R2:aQ (upd n F^.lst ((L'.map λe=>V'.ref e.1)++ [.ref t])) T x l:=R.off (S:= []) (Off.of_same Xm) (by simp)^by simp
   have G:t≠F:=λz=>by rw[z,u] at v;cases v
   apply#[_,Y,_,Y,T,t,x,l,cU l k d,Y,R2,g,h14,by rw[ao G];show v,iI g hd k,λX I=>?_]
   have Tg:X≠F:=λz=>by rw[z,ah] at I;cases I
   have J':n X=none:=by rw[ao Tg] at I;show I
   apply#[#[k+1,L'++ [(t,cU l k d)],X,Y,(),?_,Yx,Xm.trans^az I _,?_,λe he=>?_,ah],?_]
   .rw[cn,hL,uS];rfl
   .rw[ao^Ne.symm Tg,ah,cn];rfl
   .rcases cM.mp he with z|z
    .have Y':=NI e z
     rw[ao^av Y' J',ao^λy=>by rw[y,u] at Y';cases Y']
     show Y'
    .have z':e=(t,cU l k d):=by simpa using z
     rw[z'];change upd _ X _ t=_;rw[ao^av v J',ao G];show v
   .change(bh l).length+1-_<(bh l).length+1-_
    rw[ao^Ne.symm Tg,ah,u];simp only[dj,aG,CU];lia
  .have heq:cU l k d=d:=by
    apply FS ?_;intro z;apply c ?_
    have:PyData.eqv (pH^cU l k d)^pH d=false:=by
     cases y:PyData.eqv (pH^cU l k d)^pH d with
     |false=>rfl
     |true=>show absurd ((Eo _ _).mp y) z
    rw[this];rfl
   show#[_,Y,q F L' k n sm C u NI hL hk heq IW]
 .obtain⟨v1,e1,v2,e2,d',e',a,b,c,k,ek,q⟩:=h
  show#[v1,e1,v2,e2,d',e',a,b,c,k,ek,hq _ _ q]
end
end AD
namespace L2
open PySem
theorem Nl:∀{M:!(Ad×(Nat×Nat))},sE H M->pV K H (M.map λe=>V'.ref e.1) (M.map λe=>pH e.2)
 | [],_=> .nil
 |e::M,h=> .cons (.tup (fN.of^h e c5)^.cons (.int _)^.cons (.int _) .nil) (Nl λx a=>h x^eS _ a)
end L2
namespace AD
open PySem L2 Wb
def RD{i:Nat}{x:V'}{a:St}{H:Hp}{P R:St->Hp->Prop}(h:P (a.set i^J x) H):Bh i x a H (λc e=>Y6 c e^λb d=>if b=L then P c d else R c d):=by
 change(if L=L then P (a.set i^J x) H else R (a.set i^J x) H);rw[mo rfl];show h
abbrev Cg:Stmt:=top 50
theorem Xh(g:Good w)(j:2<=w.length)(f:p<w.length):row w p≠ []:=by
 intro z
 have c:∃q,q<w.length/\q≠p:=by
  by_cases h:p=0
  .show#[1,(),()]
  .show#[0,(),λy=>h y.symm]
 let#[q,c,ne]:=c;have r:=((g.con p f).symm g.sym).trans^g.con q c
 have:∀{a b},Reach w a b->a=p->b=p:=λ {a b} h=>by
  induction h with
  |refl=>show id
  |step _ d i=>
   intro e
   have:=i e
   rw[this,z] at d;cases d
 show ne^this r rfl
structure Zj (H:Hp) (w:W) (S:Ad) (L':!(Ad×(Nat×Nat))):Prop where
 at':H S\(.lst (L'.map λe=>V'.ref e.1))
 prs:sE H L'
 dart:∀e∈L',aP w e.2
 few:L'.length<=196
def aaJ:Sp:=λg H Q _=>∃(T l:Ad)(b:Bool)(a:!Ad)(w:W)(e:!Int),g= [.ref T, .ref l, .bl b]/\aQ H T a w/\Good w/\2<=w.length/\w.length<=14/\H l\(.lst^e.map V'.int)/\e≠ []/\e.length<=2/\l≠T/\l∉a/\
 ∀(c:W)(f:!Int)(d:Hp),Off (l::a) H d->aQ d T a c->Good c->c.length=w.length->d l\(.lst^f.map V'.int)->f≠ []->f.length<=2->jw c<=jw w+2->Q .aT d
section
def Uq:aF ["_law_turns","_law_left","_law_plane_here","_law_p","_law_r","_law_sides","_law_q","_law_turn","_law_u","_law_v"] ["_law_turns","_law_left","_law_plane_here"]^au Cg:=by bv_omega
theorem WL(B:Dc mg)(Tk:bO K mg "_law_take" yF ["_law_left","_law_many"])(Nx:bO K mg "_law_next" Cf ["_law_turns","_law_side"])(Rd:bO K mg "_law_round" Av ["_law_turns","_law_side"])
  (D:bO K mg "_law_tie" Cg ["_law_turns","_law_left","_law_plane_here"]):FnOk P w K mg base fJ 3 D.f D.fd ["_law_turns","_law_left","_law_plane_here"] aaJ:=by
 apply D.F.ok Uq (λvs H Q E h=>?_)^λaZ A outer s H vs Q E hr h=>?_
 .obtain⟨T,l,b,J',w,ns,rfl,_⟩:=h
  rfl
 let#[T,l,b,J',C,ns,rfl,R,g,h2,h14,hl,jU,hz,z9,mY,q]:=h;have nd:=Uq.nd;have gT:=(qA (P:=P) (w:=w) (base:=base) B Tk).mono (show 1<=2 by decide)
 have gR:=Pq (P:=P) (w:=w) (base:=base) B Nx Rd;have adq:C.length*C.length<=196:=xy h14 h14;have Td:(["_law_side","_law_p","_law_turns"]:!fC).Nodup:=by nofun
 obtain⟨tE,pE,rE⟩:∃t,kE (kZ fJ P w K mg base ["_law_turns","_law_left","_law_plane_here","_law_p","_law_r","_law_sides","_law_q","_law_turn","_law_u","_law_v"] "_law_tie" (au Cg) D.f aZ A outer s H E).mw ((dP Cg).drop 4) t/\
   ∀(p r:Nat)(S:Ad)(L':!(Ad×(Nat×Nat)))(ds:!Int)(o6 o7:Option V')(N:Hp),Off (l::J') H N->aQ N T J' C->p<C.length->r∈row C p->Zj N C S L'->N l\(.lst^ds.map V'.int)->ds≠ []->ds.length<=2->S≠l->S≠T->S∉J'->
    t {nx:=λ_ H'=>Q .aT H',rt:=Q} [J^.ref T,J^.ref l,J^.bl b,J^.int (p:Int),J^.int (r:Int),J^.ref S,o6,o7,V,V] N:=by
  apply#[_,aI (kQ (i:=5) (NC:= ["_law_side","_law_p","_law_turns"]) (src:= [V,J 3,J 0]) rfl nd rfl (Or.inl rfl) (bG.of (au Cg) rfl rfl (by nofun) (by nofun)^by nofun) #[Y,Y,Y,Y,trivial] (lu^pv 5)
    (λ_ _ _=>cK (i:=0) Td rfl^Or.inl rfl) (λ_ _ _=>JG^PW.pt^NZ (jY aaz (dA (Ji (K:=K)) (pv 0) bf^λ_ _=>rfl) (pv 1)^aU _)^JK^jY (L7 (K:=K)) (dA (Ji (K:=K)) (pv 0) bf^λ_ _=>rfl) (dA (EE (K:=K)) (pv 2) (pv 1)^λ_ _=>rfl) rfl) (λ_ _ _=>pv 0) rfl)
   (bH^B7 (jY (GG hr.units) (pv 5) (fZ aC)^aU _)
    (aI (r9 (dA bV (pv 5) (bL gT hr rfl Tk.m Tk.F.kp Tk.b .nil cJ^ar (pv 1)^ar (dJ dg rfl B.len adY^ar (pv 5) aC) aC)^λ_ _=>rfl)^r6 rfl^fU (cK (i:=8) nd rfl^Or.inl rfl)^fU (cK (i:=9) nd rfl^Or.inl rfl) nv)
    (aI (dD^i5 GT ad6 ad7 oF (dA bV (pv 0) (pv 3)^λ_ _=>rfl)^ar (i5 GT ad9 aea rV (dA bV (pv 0) (pv 3)^λ_ _=>rfl)^ar (pv 4) aC)^ar (pv 8) aC)
    (bH^dD^i5 GT ad6 ad7 oF (dA bV (pv 0) (pv 8)^λ_ _=>rfl)^ar (i5 GT ad9 aea rV (dA bV (pv 0) (pv 8)^λ_ _=>rfl)^ar (pv 9) aC)^ar (pv 3) aC))) qD),?_]
  intro p r S L' ds o6 o7 N off R1 hp Ga Y' pU sW vX nSl nST YJ;let#[a,ha,jV]:=R1.at hp;have xF:gZ (J'.map V'.ref) ((p:Nat):Int)\(.ref a):=dm^by rw[dF,ha];rfl
  apply#[_,Y,S,Y,#[_,aK.of Y'.at'],λG Z=>?_];have WA:S≠G:=av Y'.at' Z;apply Gk (L'.map λe=>V'.ref e.1).length (λi lM X=>∃(M:!(Ad×(Nat×Nat)))(o:Option V'),lM= [o,J^.int (p:Int),J^.ref T]/\X=upd N G^.lst (M.map λe=>V'.ref e.1)/\(∀e∈M,e∈L'/\e.2.1≠p/\e.2.1∉row C p)/\M.length<=i) ?_ ?_ ?_ ?_ ?_
  .show#[[],V,Y,Y,(λe I=>by cases I),bu _]
  .rintro i lM X hi ⟨M,o,rfl,rfl,_,_⟩
   show#[_,_,aK.of^by rw[ao WA];show Y'.at',bT hi]
  .rintro i lM X hi ⟨M,o,rfl,rfl,_,_⟩
   show#[_,aK.of^by rw[ao WA];show Y'.at',hi]
  .rintro i x lM X H3 hi ⟨M,o,rfl,rfl,hM,hMl⟩ ⟨rfl,hx⟩
   have oi:=hx _^aK.of^by rw[ao WA];show Y'.at'
   have fW:i<L'.length:=by simpa using hi
   rw[dF,bT fW] at oi;have ex:x= .ref (L'[i]).1:=(Do oi).symm;subst ex;have hm:L'[i]∈L':=j5 fW
   have Ez:upd N G (.lst (M.map λe=>V'.ref e.1)) (L'[i]).1\(.tup^jF (L'[i]).2):=by
    have:=Y'.prs _ hm
    rw[ao^av this Z];show this
   have nDT:T≠G:=av R1.top Z;have nDa:a≠G:=av jV Z;exists _,rfl,(L'[i]).1,_,0,_,rfl,rfl,fN.of Ez,dm (j:=0) rfl,_,rfl,rfl,_,rfl;apply zo (λc=>?_)^λc=>?_
   .apply#[_,Y,(L'[i]).1,_,0,_,Y,Y,fN.of Ez,dm (j:=0) rfl,?_]
    apply#[_,Y,_,Y,T,_,_,_,Y,Y,aK.of^by rw[ao nDT];show R1.top,xF,a,_,Y, .inl^aK.of^by rw[ao nDa];show jV,Y,oN _,_,Y,?_]
    apply zo (λc2=>?_)^λc2=>?_
    .apply#[_,Y,_,ah,rq (by rw[aG];show hMl)^bE^by have:=Y'.few;lia,M++ [L'[i]],_,Y,?_,λe I=>?_,by simp;lia]
     .rw[q0,cn];rfl
     .rcases cM.mp I with z|z
      .show hM e z
      .have z':e=L'[i]:=by simpa using z
       rw[z'];apply#[hm,λy=>?_,λy=>?_]
       .rw[show V'.int ((L'[i]).2.1:Int)=V'.int (p:Int) by rw[y]] at c
        simp at c
       .have:Ja (V'.int ((L'[i]).2.1:Int))^bz^row C p=true:=by
         unfold Ja;rw[afY];show#[_,bS.mpr #[_,y,Y],rN _]
        have c3:(not^Ja (V'.int ((L'[i]).2.1:Int))^bz^row C p)=true:=c2;rw[this] at c3;cases c3
    .show#[M,_,Y,Y,hM,()]
   .show c8 #[M,_,Y,Y,hM,()]
  .rintro lM X ⟨M,o,rfl,rfl,hM,hMl⟩
   have nDl:l≠G:=av pU Z;have nDT:T≠G:=av R1.top Z;have few:=Y'.few;rw[aG] at hMl
   have acG:sE (upd N G^.lst (M.map λe=>V'.ref e.1)) M:=λe I=>by
    have:=Y'.prs e (hM e I).1
    rw[ao^av this Z];show this
   apply#[_,Y,by change 0<=sizeLine;decide,λe1 FX=>?_]
   have n1D:e1≠G:=λz=>by rw[z,ah] at FX;cases FX
   have Mw:aE (upd N G^.lst (M.map λe=>V'.ref e.1))^upd (upd N G^.lst (M.map λe=>V'.ref e.1)) e1^.lst []:=az FX _;have YV:sE (upd (upd N G^.lst (M.map λe=>V'.ref e.1)) e1^.lst []) M:=λe I=>Mw _ _^acG e I;have hDd:upd (upd N G^.lst (M.map λe=>V'.ref e.1)) e1 (.lst []) G\(.lst (M.map λe=>V'.ref e.1)):=Mw _ _ ah;have YQ:Off (l::J') H^upd (upd N G^.lst (M.map λe=>V'.ref e.1)) e1^.lst []:=off.trans^(Off.put^.inr Z).trans^Off.put^.inr FX;have Sw:aE N^upd (upd N G^.lst (M.map λe=>V'.ref e.1)) e1^.lst []:=(az Z _).trans Mw;have R3:aQ (upd (upd N G^.lst (M.map λe=>V'.ref e.1)) e1^.lst []) T J' C:=R1.off (S:= []) (Off.of_same Sw) (by simp)^by simp
   have Pc:=Sw _ _ pU;apply#[_,_, .lst (aK.of hDd)^Nl YV, .lst (aK.of ah) .nil,?_,_,Y,?_]
   .rw[PyData.depth]
    have:=mr (f:=λe:Ad×(Nat×Nat)=>pH e.2) (k:=2) (λe=>za e.2) M
    lia
   generalize hH3:upd (upd N G^.lst (M.map λe=>V'.ref e.1)) e1^.lst []=H3 at*;apply zo (λc=>?_)^λc=>?_
   .have hM0:0<M.length:=by
     cases M with
     |nil=>simp[PyData.eqv,PyData.eqvAll] at c
     |cons _ _=>simp
    exists _,rfl,_,rfl,_,rfl,G,_,rfl, .inl^aK.of hDd;rw[aG];apply#[l,ds,_,Y,Pc,sW,(),(),(),λdI mU d0 d1 zi xY=>?_]
    let#[d,rfl]:=xp d0;have hd:d<M.length:=()
    have nlD:G≠l:=λz=>nDl z.symm;have abH:upd H3 l (.lst^mU.map V'.int) G\(.lst (M.map λe=>V'.ref e.1)):=by rw[ao nlD];show hDd
    let#[hmL,Lw,hun]:=hM _^j5 hd;have t4:=Y'.dart _ hmL;have Ez:=YV _^j5 hd;have ntl:(M[d]).1≠l:=λz=>by rw[z,Pc] at Ez;cases Ez
    apply#[G,_,_, .ref (M[d]).1,Y,Y,aK.of abH,dm^by rw[dF,bT hd];rfl,?_]
    apply#[(M[d]).1,_,Y,fN.of^by rw[ao ntl];show Ez,Y,_,_,Y,_,_,Y,Y,?_]
    generalize M[d]=me at*;let#[at0,u,v]:=me;dsimp only at*;have hu:u<C.length:=f7 t4
    have U:aQ (upd H3 l^.lst^mU.map V'.int) T J' C:=R3.keep λb O=>by
     apply ao λz=>?_
     rcases O with O|O
     .show z9^z.symm.trans O
     .rw[z] at O;show mY O
    have F8:=U.row p a ha;have rlp:=fG g p;have rlu:=fG g u;have ilt:=C3.mpr Ga;have jlt:(row C u).idxOf v<(row C u).length:=C3.mpr t4;exists _,rfl,_,rfl,T,_,_,_,rfl,rfl,aK.of U.top,xF, .inl #[Y,_,aK.of F8];exists _,rfl,_,rfl,T,_,_,_,rfl,rfl,aK.of U.top,xF, .inl #[Y,_,aK.of F8],_,rfl;exists a,_,_,(row C p).idxOf r,_,rfl,rfl,F8,rfl,oN _,jH^vY Ga,rN r,uE (g.nod _) Ga;apply#[_,Y,a,_,_,_,Y,Y,F8,(),by rw[cx];lia,rq (by rw[cx];show rlp)^bE (),?_]
    rw[lH,<-se];have R5:aQ (upd (upd H3 l^.lst^mU.map V'.int) a^.lst^bz^ins (row C p) ((row C p).idxOf r) u) T J'^C.set p^ins (row C p) ((row C p).idxOf r) u:=U.put ha (λb _ O=>ao O) ah;let#[a2,RQ,W]:=U.at hu;have qm:=R5.row u a2 RQ;rw[j0 hp,tz^Ne.symm Lw] at qm;have at2:gZ (J'.map V'.ref) ((u:Nat):Int)\(.ref a2):=dm^by rw[dF,RQ];rfl
    exists _,rfl,_,rfl,T,_,_,_,rfl,rfl,aK.of R5.top,at2, .inl #[Y,_,aK.of qm];exists _,rfl,_,rfl,T,_,_,_,rfl,rfl,aK.of R5.top,at2, .inl #[Y,_,aK.of qm],_,rfl;exists a2,_,_,(row C u).idxOf v,_,rfl,rfl,qm,rfl,oN _,jH^vY t4,rN v,uE (g.nod _) t4;apply#[_,Y,a2,_,_,_,Y,Y,qm,(),by rw[cx];lia,rq (by rw[cx];show rlu)^bE (),?_]
    rw[lH,<-se];have R6:aQ (upd (upd (upd H3 l^.lst^mU.map V'.int) a^.lst^bz^ins (row C p) ((row C p).idxOf r) u) a2^.lst^bz^ins (row C u) ((row C u).idxOf v) p) T J'^Ag C p ((row C p).idxOf r) u^(row C u).idxOf v:=R5.put RQ (λb _ O=>ao O) ah;have WD:l≠a:=λz=>mY^by rw[z];show cG ha
    have acv:l≠a2:=λz=>mY^by rw[z];show cG RQ
    apply q _ mU _ ?_ R6 (O0 g hp hu Lw hun) (CF _ _ _ _ _) ?_ zi ()^by rw[Q2 hp hu Lw];show bu _
    .show YQ.trans^(Off.put^.inl c5).trans^(Off.put^.inl^eS _^cG ha).trans^Off.put^.inl^eS _^cG RQ
    .rw[ao acv,ao WD,ah]
   .show q C ds _ YQ R3 g rfl Pc sW vX ()
 have nd3:(["_law_s","_law_q"]:!fC).Nodup:=by nofun
 apply#[_,aI (cc (i:=3) nd rfl (Or.inr rfl)^bL gT hr rfl Tk.m Tk.F.kp Tk.b .nil cJ^ar (pv 1)^ar (dJ dg rfl B.len adY^ar (pv 0) aC) aC)
  (aI (cc (i:=4) nd rfl (Or.inl rfl)^dA bV (dA bV (pv 0) (pv 3)^λ_ _=>rfl) (bL gT hr rfl Tk.m Tk.F.kp Tk.b .nil cJ^ar (pv 1)^ar (dJ dg rfl B.len adY^ar (dA bV (pv 0) (pv 3)^λ_ _=>rfl) aC) aC)^λ_ _=>rfl)
  (aI (cc (i:=5) nd rfl (Or.inl rfl)^bL gR hr rfl Rd.m Rd.F.kp Rd.b .nil cJ^ar (pv 0)^ar (wx^ar (pv 3)^ar (pv 4) aC) aC)
  (aI (B7 (NX^W9^pv 2)
   (aI (cc (i:=5) nd rfl (Or.inl rfl)^fZ aC)
   (bH^jM Gc rfl (B4 rfl B.enumerate^ar (pv 0) aC) (r6 rfl^fU (cK (i:=6) nd rfl^Or.inr rfl)^fU (cK (i:=7) nd rfl^Or.inl rfl) nv)
    (bH^dD^i5 GT afZ af0 BJ (pv 5)^ar (TR (NC:= ["_law_s","_law_q"]) (src:= [V,J 6]) rfl (bG.of (au Cg) rfl rfl (by nofun) (by nofun)^by nofun) #[Y,Y,trivial] (lu^pv 7)
     (λ_ _ _=>cK (i:=0) nd3 rfl^Or.inl rfl) (λ_ _ _=>wB)^λ_ _ _=>wx^ar (pv 1)^ar (pv 0) aC) aC))) qD) pE))),?_]
 have RO:H T=_:=R.top;have lmap:(J'.map V'.ref).length=C.length:=by rw[aG,R.len]
 apply#[_,Y,_,Y,T,_,Y, .inl^aK.of R.top,l,ns,_,Y,hl,jU,(),(),(),λdI pO d0 d1 sW vX=>?_]
 let#[p,rfl]:=xp d0;have hp:p<C.length:=()
 have keep:∀(o:HO),aQ (upd H l o) T J' C:=λo=>R.keep λb O=>by
  apply ao λz=>?_
  rcases O with O|O
  .show z9^z.symm.trans O
  .rw[z] at O;show mY O
 have R1:=keep^.lst^pO.map V'.int;let#[a,ha,jV]:=R1.at hp;have xF:gZ (J'.map V'.ref) ((p:Nat):Int)\(.ref a):=dm^by rw[dF,ha];rfl
 have rne:=Xh g h2 hp;have adF:0<(row C p).length:=CY.mpr rne;have rl:=fG g p;have rvl:=cx^row C p;exists _,rfl,_,rfl,T,_,_,_,rfl,rfl,aK.of R1.top,xF;apply#[_,Y,_,Y,_,Y,T,_,_,_,Y,Y,aK.of R1.top,xF,a,_,Y, .inl^aK.of jV,l,pO,_,Y,ah,sW,(),(),(by lia),λdI2 mU e0 e1 zi xY=>?_]
 rw[q0];let#[j,rfl]:=xp e0;have hj:j<(row C p).length:=()
 have R2:=keep^.lst^mU.map V'.int;have Lu:=R2.row p a ha;exists a,_,_,_,rfl,rfl,aK.of Lu,dm^jH^bT hj;have Ga:(row C p)[j]∈row C p:=j5 hj;generalize (row C p)[j]=r at Ga;have YO:Off (l::J') H^upd H l^.lst^mU.map V'.int:=Off.put^.inl c5;have oh:upd H l (.lst^mU.map V'.int) l\(.lst^mU.map V'.int):=ah;generalize upd H l^.lst^mU.map V'.int=H2 at R2 YO oh;apply#[_,Y,_,Y,_,Y,by change 2<=sizeLine;decide,λY' IZ=>?_]
 have ss:=az IZ^.tup [V'.int (p:Int),V'.int (r:Int)];have R3:aQ (upd H2 Y'^.tup [V'.int (p:Int),V'.int (r:Int)]) T J' C:=R2.off (S:= []) (Off.of_same ss) (by simp)^by simp
 apply#[T,Y',J',C,(p,r),Y,R3,g,h14,ah,Ga,λF L' k H4 sm4 O2 hF NI hL hk hit IW=>?_];have Uv:aE H2 H4:=ss.trans sm4;have U:aQ H4 T J' C:=R2.off (S:= []) (Off.of_same Uv) (by simp)^by simp
 have hl4:=Uv _ _ oh;have YR:Off (l::J') H H4:=YO.trans^Off.of_same Uv;have t4:aP C (p,r):=Ga;have kd:=rf g t4 IW;have dl:=gq g;have Zc:∀e∈L',aP C e.2:=λe I=>oU g t4 (k:=k) e.2^by rw[<-hL];show bS.mpr #[e,I,Y]
 have ads:L'.length=k:=by have:=KB cO hL;rw[aG,jJ] at this;show this
 have nFl:F≠l:=λz=>by rw[z,ss _ _ oh] at O2;cases O2
 have nFT:F≠T:=λz=>by rw[z,R3.top] at O2;cases O2
 have acp:F∉J':=λz=>by
  let#[i,hi]:=jm z;rw[R3.row i F hi] at O2;cases O2
 apply#[_,Y,_,Y,zo (λ_=>?_)^λ_=>?_]
 .
  apply#[by change 0<=sizeLine;decide,λS hS=>?_]
  have nSl:S≠l:=λz=>by rw[z,hl4] at hS;cases hS
  have nST:S≠T:=λz=>by rw[z,U.top] at hS;cases hS
  have YJ:S∉J':=λz=>by
   let#[i,hi]:=jm z;rw[U.row i S hi] at hS;cases hS
  apply#[_,Y,T,Y,#[_,(az hS _) _ _ U.top],Eu (xs:=J'.map V'.ref) (λi σ H'=>∃(o6 o7:Option V')(L':!(Ad×(Nat×Nat))),σ= [J^.ref T,J^.ref l,J^.bl b,J^.int (p:Int),J^.int (r:Int),J^.ref S,o6,o7,V,V]/\aE H4 H'/\H' S\(.lst (L'.map λe=>V'.ref e.1))/\sE H' L'/\(∀e∈L',aP C e.2)/\L'.length<=i*14) ?_ ?_ ?_ ?_]
  .show#[_,_,[],Y,az hS _,ah,(λe I=>by cases I),(λe I=>by cases I),eQ _]
  .rintro i σ H' _ ⟨o6,o7,L',rfl,sm,_⟩
   show aK.of^sm _ _ U.top
  .rintro i x t σ H5 hx ht ⟨o6,o7,L',rfl,P1,hS5,Lo,hd5,Si⟩
   rw[dF] at hx;let#[ai,O6,rfl]:=Fm.mp hx;have hi:i<C.length:=by rw[<-U.len];show(cV.mp O6).1
   exists t,_,rfl,fN.of ah,rfl,_,_,rfl,_,_,rfl,rfl;have s6:=az ht^.tup [V'.int (i:Int),V'.ref ai];generalize upd H5 t^.tup [V'.int (i:Int),V'.ref ai]=H6 at s6;have F9:=s6 _ _^P1 _ _^U.row i ai O6;have hS6:=s6 _ _ hS5;have rli:=fG g i;apply#[_,Y, .inl #[Y,_,aK.of hS6],_,Y,ai,Y,#[_,aK.of F9],λG Z=>?_];have WA:S≠G:=av hS6 Z;apply Gk (bz^row C i).length (λj lM X=>∃(o:Option V')(M:!(Ad×(Nat×Nat))),lM= [o,J^.int (i:Int)]/\aE H6 X/\X G\(.lst (M.map λe=>V'.ref e.1))/\sE X M/\(∀e∈M,aP C e.2)/\M.length<=j) ?_ ?_ ?_ ?_ ?_
   .show#[V,[],Y,az Z _,ah,(λe I=>by cases I),(λe I=>by cases I),bu _]
   .rintro j lM X hj ⟨o,M,rfl,D2,_⟩
    show#[_,_,aK.of^D2 _ _ F9,bT hj]
   .rintro j lM X hj ⟨o,M,rfl,D2,_⟩
    show#[_,aK.of^D2 _ _ F9,hj]
   .rintro j x lM X H7 hj ⟨o,M,rfl,D2,hM,Lp,hdM,hlM⟩ ⟨rfl,hx⟩
    let#[n,hn,rfl]:=yC^hx _^aK.of^D2 _ _ F9;apply RD ?_;apply#[_,Y,_,Y,by change 2<=sizeLine;decide,λtt DM=>?_]
    have s8:=az DM^.tup [V'.int (i:Int),V'.int (n:Int)];have Yy:upd H7 tt (.tup [V'.int (i:Int),V'.int (n:Int)]) tt\(.tup^jF (i,n)):=ah;generalize upd H7 tt^.tup [V'.int (i:Int),V'.int (n:Int)]=H8 at s8 Yy;have ntD:tt≠G:=λz=>by rw[z,hM] at DM;cases DM
    apply#[_,s8 _ _ hM,rq (by rw[aG];show hlM)^bE^by rw[cx] at hj;lia,_,M++ [(tt,(i,n))],Y,λb u eb=>?_,?_,λe I=>?_,λe I=>?_,by simp;lia]
    .rw[ao^av eb Z];show s8 _ _^D2 _ _ eb
    .rw[ah,cn];rfl
    .rcases cM.mp I with z|z
     .have:=Lp e z
      rw[ao^λy=>by rw[y,hM] at this;cases this]
      show s8 _ _ this
     .have z':e=(tt,(i,n)):=by simpa using z
      rw[z',ao ntD];show Yy
    .rcases cM.mp I with z|z
     .show hdM e z
     .have z':e=(tt,(i,n)):=by simpa using z
      rw[z'];show cG hn
   .rintro lM X ⟨o,M,rfl,D2,hM,Lp,hdM,hlM⟩
    rw[cx] at hlM;have hSc:=D2 _ _ hS6;apply#[S,G,_,_,Y,Y,hSc,hM,small^by simp;lia,?_]
    apply#[_,_,L'++M,Y,λb u eb=>?_,?_,λe I=>?_,λe I=>?_,by simp;lia]
    .rw[ao^av eb hS];show D2 _ _^s6 _ _^P1 _ _ eb
    .rw[ah,cn]
    .have hh:X e.1\(.tup^jF e.2):=by
      rcases cM.mp I with z|z
      .show D2 _ _^s6 _ _^Lo e z
      .show Lp e z
     rw[ao^λy=>by rw[y,hSc] at hh;cases hh];show hh
    .rcases cM.mp I with z|z
     .show hd5 e z
     .show hdM e z
  .rintro σ H5 ⟨o6,o7,L',rfl,P1,hS5,Lo,hd5,Si⟩
   rw[aG,U.len] at Si;show rE p r S L' mU o6 o7 H5 (YR.trans^Off.of_same P1) (U.off (S:= []) (Off.of_same P1) (by simp)^by simp) hp Ga #[hS5,Lo,hd5,()] (P1 _ _ hl4) zi () nSl nST YJ
 .show rE p r F L' mU V V H4 YR U hp Ga #[hF,NI,Zc,()] hl4 zi () nFl nFT acp
end
abbrev JQ:Stmt:=top 51
def aQ.acP(R:aQ H T d w)(n:k<w.length)(o:a∉d)(l:a≠T)(h:∀b,b∈d->g b=H b)(p:g T\(.lst^(d.set k a).map V'.ref))
  (e:g a\(.lst^bz r)):aQ g T (d.set k a)^w.set k r:=by
 have q:k<d.length:=by rw[R.len];show n
 apply#[p,?_,λz=>?_,by rw[fI,fI];show R.len,λi b f=>?_]
 .unfold cv
  rw[C2];intro i j c m lt;rw[fI] at c m;rw[List.getElem_set,List.getElem_set];have s:=C2.mp R.nod
  split
  .split
   .lia
   .intro z;show o^by rw[z];show j5 m
  .split
   .intro z;show o^by rw[<-z];show j5 c
   .show s i j c m lt
 .rcases M6 z with z|z
  .show R.nT z
  .show l z.symm
 .rw[j0 n]
  rw[kA] at f
  by_cases c:k=i
  .rw[mo c,mo q] at f
   cases f;rw[mo c];show e
  .rw[tz c] at f
   rw[tz c,h b^cG f];show R.row i b f
def SM(h:k<n):lQ n (k:Int)\k:=by
 unfold lQ;rw[mo (),mo (),lH]
def Vp(a:!V')(b:Nat):jh a (J (b:Int)) V=a.drop b:=by
 unfold jh;rw[HT.JP,HT.E7]
 by_cases h:b<=a.length
 .rw[tN h,tL^by rw[pI];show bu _]
 .rw[zP (),C4^bu _,C4 ()];simp
def Vo(a:!V')(b:Nat):jh a V^J (b:Int)=a.take b:=by
 unfold jh;rw[HT.JP,HT.E7,List.drop_zero,Nat.sub_zero]
 by_cases h:b<=a.length
 .rw[tN h]
 .rw[zP (),tL^bu _,tL ()]
def Mo(r:!Nat)(b:Nat):(bz r).take b=bz^r.take b:=by unfold bz;rw[aeG]
def Mn(r:!Nat)(b:Nat):(bz r).drop b=bz^r.drop b:=by unfold bz;rw[afx]
def PX(r s:!Nat):bz r++bz s=bz (r++s):=by unfold bz;rw[cn]
def PV(l:!a)(b:Nat):(l.drop b++l.take b).Perm l:=by
 have:=(List.perm_append_comm (l₁:=l.drop b) (l₂:=l.take b))
 rwa [mh] at this
structure Ord (ord:!Nat) (n:Nat):Prop where
 pm:ord.Perm^aj n
def Ord.len(o:Ord ord n):ord.length=n:=by rw[o.pm.length_eq,jb]
def Ord.get(o:Ord ord n)(h:p<n):ord[p]?\(ord.getD p 0):=by
 rw[cy,bT^by rw[o.len];show h];rfl
def Ord.into(o:Ord ord n)(h:p<n):ord.getD p 0<n:=gf.mp^o.pm.mem_iff.mp^cG^o.get h
def Ord.inj(o:Ord ord n)(b:p<n)(c:q<n)(e:ord.getD p 0=ord.getD q 0):p=q:=by
 have d:ord.Nodup:=o.pm.nodup_iff.mpr rm;have a:=o.get b;rw[e] at a;show get_inj d a^o.get c
def Ord.J6(o:Ord ord n)(h:y<n):∃p,p<n/\ord.getD p 0=y:=by
 have:=o.pm.mem_iff.mpr^gf.mpr h
 let#[p,a]:=jm this;have lt:=(cV.mp a).1;rw[o.len] at lt
 have:=o.get lt
 rw[a] at this;show#[p,lt,(Do this).symm]
structure Zi (H:Hp) (T:Ad) (as:!Ad) (w:W):Prop where
 top:H T\(.lst^as.map V'.ref)
 len:as.length=w.length
 row:∀(i:Nat) a,as[i]?\a->H a\(.lst^bz^Wb.row w i)
def aaI:Sp:=λg H Q _=>∃(T O l:Ad)(f:!Ad)(w:W)(ord:!Nat)(d:!Int),g= [.ref T, .ref O, .ref l]/\Zi H T f w/\Good w/\w.length<=14/\H O\(.lst^bz ord)/\Ord ord w.length/\H l\(.lst^d.map V'.int)/\d≠ []/\d.length<=2/\l≠T/\l∉f/\l≠O/\
 ∀(F:Ad)(fs:!Ad)(c:W)(e:Hp),Off [l] H e->H F=V->(∀a∈fs,H a=V)->aQ e F fs c->Good c->c.length=w.length->jw c=jw w->(∀p,p<w.length->∃b,row c^ord.getD p 0=((row w p).map λx=>ord.getD x 0).drop b++((row w p).map λx=>ord.getD x 0).take b)->Q (.ref F) e
section
def Up:aF ["_law_turns","_law_order","_law_left","_law_found","_law_p","_law_turn","_law_begin","_law_names"] ["_law_turns","_law_order","_law_left"]^au JQ:=by bv_omega
def WK(B:Dc mg)(Tk:bO K mg "_law_take" yF ["_law_left","_law_many"])(D:bO K mg "_law_renamed" JQ ["_law_turns","_law_order","_law_left"]):FnOk P w K mg base fJ 2 D.f D.fd ["_law_turns","_law_order","_law_left"] aaI:=by
 apply D.F.ok Up (λvs H Q E h=>?_)^λaZ A outer s H vs Q E hr h=>?_
 .obtain⟨T,O,l,as,w,ord,ns,rfl,_⟩:=h
  rfl
 let#[T,O,l,as,c,ord,ns,rfl,R,g,h14,hO,X,hl,jU,hz,z9,mY,nlO,q]:=h;have nd:=Up.nd;have nd1:(["_law_turn"]:!fC).Nodup:=by nofun
 have Td:(["_law_q","_law_order"]:!fC).Nodup:=by nofun
 have gT:=qA (P:=P) (w:=w) (base:=base) B Tk
 apply#[_,aI (kQ (i:=3) (NC:= ["_law_turn"]) (src:= [V]) rfl nd rfl (Or.inl rfl) (bG.of (au JQ) rfl rfl (by nofun) (by nofun)^by nofun) trivial (lu^pv 0)
    (λ_ _ _=>cK (i:=0) nd1 rfl^Or.inl rfl) (λ_ _ _=>wB) (λ_ _ _=>fZ aC) rfl)
  (aI (jM Gc rfl (B4 rfl B.enumerate^ar (pv 0) aC) (r6 rfl^fU (cK (i:=4) nd rfl^Or.inl rfl)^fU (cK (i:=5) nd rfl^Or.inl rfl) nv)
   (aI (cc (i:=6) nd rfl (Or.inl rfl)^bL gT hr rfl Tk.m Tk.F.kp Tk.b .nil cJ^ar (pv 2)^ar (dB i4 (dJ dg rfl B.len adY^ar (pv 5) aC) bf) aC)
   (aI (kQ (i:=7) (NC:= ["_law_q","_law_order"]) (src:= [V,J 1]) rfl nd rfl (Or.inl rfl) (bG.of (au JQ) rfl rfl (by nofun) (by nofun)^by nofun) #[Y,Y,trivial] (lu^pv 5)
    (λ_ _ _=>cK (i:=0) Td rfl^Or.inl rfl) (λ_ _ _=>wB) (λ_ _ _=>dA (EE (K:=K)) (pv 1) (pv 0)^λ_ _=>rfl) rfl)
   (bH^r9 (dB GF (rZ wV (pv 7) (qC^pv 6) B5)^rZ wV (pv 7) B5^qC^pv 6)^GL (pv 3) (dA bV (pv 1) (pv 4)^λ_ _=>rfl) set_list))))
  (bH^iy^pv 3)),?_]
 apply#[_,Y,T,Y,#[_,aK.of R.top],λF hF=>?_];apply Gk (as.map V'.ref).length (λi G C=>∃(o:Option V')(fs:!Ad),G= [o]/\aE H C/\C F\(.lst^fs.map V'.ref)/\fs.Nodup/\F∉fs/\(∀a∈fs,H a=V/\C a\(.lst []))/\fs.length=i) ?_ ?_ ?_ ?_ ?_
 .show#[V,[],Y,az hF _,ah,ju,(by simp),(λa ha=>by cases ha),Y]
 .rintro i G C N ⟨o,fs,rfl,d,_⟩
  show#[_,_,aK.of^d _ _ R.top,bT N]
 .rintro i G C N ⟨o,fs,rfl,d,_⟩
  show#[_,aK.of^d _ _ R.top,N]
 .rintro i x G C H3 N ⟨o,fs,rfl,d,hf,nf,nF,fr,hl⟩ ⟨rfl,Y'⟩
  rw[aG,R.len] at N;apply RD ?_;apply#[by change 0<=sizeLine;decide,λr gO=>?_]
  have nrF:r≠F:=λz=>by rw[z,hf] at gO;cases gO
  have YN:r∉fs:=λz=>by rw[(fr r z).2] at gO;cases gO
  apply#[_,by rw[ao^Ne.symm nrF];show hf,bE^by simp;lia,_,fs++ [r],Y,λb u U=>?_,?_,?_,?_,λa ha=>?_,by simp[hl]]
  .rw[ao^av U hF,ao^av (d _ _ U) gO];show d _ _ U
  .rw[ah,cn];rfl
  .rw[je]
   show#[nf,by simp,λx Y' y hy z=>by
    have:y=r:=by simpa using hy
    rw[this] at z;rw[z] at Y';show YN Y']
  .intro z
   rcases cM.mp z with z|z
   .show nF z
   .have:F=r:=by simpa using z
    show nrF this.symm
  .rcases cM.mp ha with z|z
   .apply#[(fr a z).1,?_]
    rw[ao^λy=>nF^by rw[<-y];show z,ao^λy=>YN^by rw[<-y];show z]
    show(fr a z).2
   .have:a=r:=by simpa using z
    rw[this];show#[d.free gO,by rw[ao nrF,ah]]
 rintro G H1 ⟨o,fs0,rfl,Mw,hF1,nf0,nF0,Rz,Pb⟩;rw[aG,R.len] at Pb;have pU:=Mw _ _ hl;have nlF:l≠F:=λz=>by rw[z,hF] at hl;cases hl
 have R1:aQ H1 F fs0^ak c.length []:=by
  apply#[hF1,nf0,nF0,by rw[Pb,zK],λi a e=>?_]
  have hz:row (ak c.length []) i= []:=by
   unfold row;rw[cy,zI]
   split<;>rfl
  rw[hz];show(Rz a^cG e).2
 apply#[_,Y,T,Y,#[_,Mw _ _ R.top],Eu (xs:=as.map V'.ref) (λi σ H'=>∃(o4 o5 o6 o7:Option V')(fs:!Ad)(I:W)(ds:!Int),σ= [J^.ref T,J^.ref O,J^.ref l,J^.ref F,o4,o5,o6,o7]/\Off [l] H H'/\aQ H' F fs I/\(∀a∈fs,H a=V)/\I.length=c.length/\
   (∀p,p<i->∃b,row I^ord.getD p 0=((row c p).map λx=>ord.getD x 0).drop b++((row c p).map λx=>ord.getD x 0).take b)/\H' l\(.lst^ds.map V'.int)/\ds≠ []/\ds.length<=2) ?_ ?_ ?_ ?_]
 .show#[_,_,_,_,fs0,_,ns,Y,Off.of_same Mw,R1,λa ha=>(Rz a ha).1,zK,(λp J'=>by lia),pU,jU,hz]
 .rintro i σ H' _ ⟨o4,o5,o6,o7,fs,I,ds,rfl,off,_⟩
  show aK.of^off _ _ (~~~Ne.symm z9) R.top
 .rintro i x t σ H5 Y' ht ⟨o4,o5,o6,o7,fs,I,ds,rfl,off,R5,tW,Z,Ca,Si,Yv,hz5⟩
  rw[dF] at Y';let#[ai,O6,rfl]:=Fm.mp Y';have N:i<c.length:=by rw[<-R.len];show(cV.mp O6).1
  have YL:l≠ai:=λz=>mY^by rw[z];show cG O6
  have qm:H5 ai=_:=off _ _ (~~~Ne.symm YL)^R.row i ai O6
  have La:H5 O=_:=off _ _ (~~~Ne.symm nlO) hO
  exists t,_,rfl,fN.of ah,rfl,_,_,rfl,_,_,rfl,rfl;have s6:=az ht^.tup [V'.int (i:Int),V'.ref ai];generalize upd H5 t^.tup [V'.int (i:Int),V'.ref ai]=H6 at s6;have rli:=fG g i;have rvl:=cx^row c i;apply#[_,Y,_,Y,ai,_,Y, .inl^aK.of^s6 _ _ qm,_,_,Y,Y,l,ds,_,Y,s6 _ _ Si,Yv,(),(),(),λdI pO d0 d1 sW vX=>?_]
  let#[b,rfl]:=xp d0;have Tq:Off [l] H^upd H6 l^.lst^pO.map V'.int:=(off.trans^Off.of_same s6).trans^Off.put^.inl c5;have sM:upd H6 l (.lst^pO.map V'.int) l\(.lst^pO.map V'.int):=ah;have acw:l∉fs:=λz=>by rw[tW l z] at hl;cases hl
  have R7:aQ (upd H6 l^.lst^pO.map V'.int) F fs I:=(R5.off (S:= []) (Off.of_same s6) (by simp)^by simp).keep λb M=>by
   apply ao λz=>?_
   rcases M with M|M
   .show nlF^z.symm.trans M
   .rw[z] at M;show acw M
  have Br:upd H6 l (.lst^pO.map V'.int) ai\(.lst^bz^row c i):=by rw[ao^Ne.symm YL];show s6 _ _ qm
  have O4:upd H6 l (.lst^pO.map V'.int) O\(.lst^bz ord):=by rw[ao^Ne.symm nlO];show s6 _ _ La
  generalize upd H6 l^.lst^pO.map V'.int=H7 at Tq sM R7 Br O4;apply#[_,Y,ai,Y,#[_,aK.of Br],λNm hNm=>?_];apply Gk (bz^row c i).length (λj G C=>∃(o:Option V'),G= [o,J^.ref O]/\aE H7 C/\C Nm\(.lst^bz (((row c i).take j).map λx=>ord.getD x 0))) ?_ ?_ ?_ ?_ ?_
  .show#[V,Y,az hNm _,ah]
  .rintro j G C hj ⟨o,rfl,d,_⟩
   show#[_,_,aK.of^d _ _ Br,bT hj]
  .rintro j G C hj ⟨o,rfl,d,_⟩
   show#[_,aK.of^d _ _ Br,hj]
  .rintro j x G C H8 hj ⟨o,rfl,d,hN⟩ ⟨rfl,Y'⟩
   let#[n,hn,rfl]:=yC^Y' _^aK.of^d _ _ Br;have hnw:n<c.length:=g.rng _ _^cG hn;apply RD ?_;exists _,rfl,_,rfl,O,_,_,_,rfl,rfl,aK.of^d _ _ O4,dm^jH^X.get hnw;apply#[_,hN,rq (by rw[cx,aG,jr];show Nat.min_le_right _ _)^bE (),_,Y,λb u U=>?_,?_]
   .rw[ao^av U hNm];show d _ _ U
   .obtain⟨bX,hg⟩:=cV.mp hn
    rw[ah,aeM bX,hg,cn];unfold bz;rw[cn];rfl
  rintro G H8 ⟨o,rfl,sm8,VS⟩;rw[rvl,xw] at VS;generalize hnm:((row c i).map λx=>ord.getD x 0)=v at VS;have nml:v.length<=14:=by rw[<-hnm,aG];lia
  apply#[_,Y,_,Y,_,Y,Nm,_,Y,aK.of VS,λc1 hc1=>?_];rw[Vp,Mn];have s9:=az hc1^.lst^bz^v.drop b;have e9:upd H8 c1 (.lst^bz^v.drop b) c1=_:=ah;generalize upd H8 c1^.lst^bz^v.drop b=H9 at s9 e9;apply#[_,Y,_,Y,_,Y,Nm,_,Y,aK.of^s9 _ _ VS,λc2 DB=>?_];rw[Vo,Mo];have Cb:=az DB^.lst^bz^v.take b;have e10:upd H9 c2 (.lst^bz^v.take b) c2=_:=ah;generalize upd H9 c2^.lst^bz^v.take b=zR at Cb e10;apply#[c1,c2,_,_,Y,Y,Cb _ _ e9,e10,small^by rw[cx,cx,pI,jr];lia,λL' hc3=>?_]
  rw[PX];have GU:=az hc3^.lst^bz (v.drop b++v.take b);have e11:upd zR L' (.lst^bz (v.drop b++v.take b)) L'=_:=ah;have ze:zR L'=none:=hc3;generalize upd zR L'^.lst^bz (v.drop b++v.take b)=Df at GU e11;have N6:aE H7 Df:=sm8.trans^s9.trans^Cb.trans GU;have N5:aE H7 zR:=sm8.trans^s9.trans Cb;have Zg:aQ Df F fs I:=R7.off (S:= []) (Off.of_same N6) (by simp)^by simp
  have hoi:=X.into N;have lfs:(fs.map V'.ref).length=c.length:=by rw[aG,R7.len,Z]
  apply#[_,Y,_,Y,_,Y,O,_,_,_,Y,Y,aK.of^N6 _ _ O4,dm^jH^X.get N,F,_,_,ord.getD i 0,Y,Y,Zg.top,by rw[lfs];show SM hoi,?_]
  have YK:L'≠F:=λz=>by rw[z,N5 _ _ R7.top] at ze;cases ze
  have aaw:L'∉fs:=λz=>by
   let#[k,hk]:=jm z;rw[N5 _ _^R7.row k L' hk] at ze;cases ze
  have abK:H L'=none:=by
   cases e:H L' with
   |none=>rfl
   |some u=>
    by_cases z:L'=l
    .rw[z,N5 _ _ sM] at ze;cases ze
    .rw[N5 _ _^Tq _ _ (~~~z) e] at ze;cases ze
  have adE:l≠F:=nlF;apply#[_,_,_,_,fs.set (ord.getD i 0) L',I.set (ord.getD i 0) (v.drop b++v.take b),pO,Y,?_,?_,λa ha=>?_,by rw[fI];show Z,λp J'=>?_,?_,sW,()]
  .show λb u M U=>by rw[ao^av U hF];show N6 _ _^Tq b u M U
  .apply Zg.acP (by rw[Z];show hoi) aaw YK (λb M=>ao λz=>Zg.nT^by rw[<-z];show M) ?_ ?_
   .rw[ah,ae9]
   .rw[ao YK];show e11
  .rcases M6 ha with z|z
   .show tW a z
   .rw[z];show abK
  .rw[j0^by rw[Z];show hoi]
   by_cases e:p=i
   .subst e
    rw[mo rfl,hnm];show#[b,Y]
   .rw[tz^λz=>e^X.inj () N z.symm]
    show Ca p ()
  .rw[ao nlF];show N6 _ _ sM
 .rintro σ H5 ⟨o4,o5,o6,o7,fs,I,ds,rfl,off,R5,tW,Z,Ca,Si,Yv,hz5⟩
  rw[aG,R.len] at Ca
  have pm5:∀p,p<c.length->(row I^ord.getD p 0).Perm ((row c p).map λx=>ord.getD x 0):=λp J'=>by
   let#[b,e]:=Ca p J';rw[e];show PV _ b
  show#[_,Y,q F fs I H5 off hF tW R5 (OZ g Z (λp J'=>X.into J') (λp q J' hq e=>X.inj J' hq e) (λy hy=>X.J6 hy) λp J'=>pm5 p J') Z (Q1 Z X.pm λp J'=>pm5 p J') Ca]
end
abbrev Uo:Stmt:=top 52
def boot_int:bootBuiltins "int"\(.type "int"):=by nofun
def Xx(K:ac):Sp:=λf H Q _=>∃(a:Ad)(e:!Int)(m:Int)(b:Bool),f= [.ref a, .int m, .bl b]/\aK K H a^e.map V'.int/\e.length<=63/\1<=m/\m<=14/\
 ∀(F:Ad)(fs:!Ad)(c:W)(d:Hp),aE H d->H F=V->(∀a∈fs,H a=V)->aQ d F fs c->Good c->1<=c.length->(c.length:Int)<=m->jw c<=102->Q (.ref F) d
section
def Oa:aF ["_law_script","_law_most","_law_plane_here","_law_left","_law_many","_law_turns","_law_order","_law_k","_law_at"] ["_law_script","_law_most","_law_plane_here"]^au Uo:=by bv_omega
theorem Tz(B:Dc mg)(Ce:bO K mg "_law_cell" Cc ["_law_script","_law_k"])(Mi:bO K mg "_law_mixed" Au ["_law_script","_law_turn"])(L':bO K mg "_law_digits" Cd ["_law_script","_law_at"])(Tk:bO K mg "_law_take" yF ["_law_left","_law_many"])
  (Tr:bO K mg "_law_tree" Ms ["_law_many","_law_left"]) (Nx:bO K mg "_law_next" Cf ["_law_turns","_law_side"]) (Rd:bO K mg "_law_round" Av ["_law_turns","_law_side"]) (Ti:bO K mg "_law_tie" Cg ["_law_turns","_law_left","_law_plane_here"]) (Re:bO K mg "_law_renamed" JQ ["_law_turns","_law_order","_law_left"])
  (D:bO K mg "_law_web" Uo ["_law_script","_law_most","_law_plane_here"]):FnOk P w K mg base fJ 4 D.f D.fd ["_law_script","_law_most","_law_plane_here"]^Xx K:=by
 apply D.F.ok Oa (λvs H Q E h=>?_)^λaZ A outer s H vs Q E M h=>?_
 .obtain⟨a,ns,m,b,rfl,_⟩:=h
  rfl
 let#[a,ns,m,b,rfl,hS,qg,m1,m14,q]:=h;have X:=Oa.nd;have gD:=BX (P:=P) (w:=w) (base:=base) B Ce Mi L';have gT:=(qA (P:=P) (w:=w) (base:=base) B Tk).mono (show 1<=3 by decide)
 have gTr:=(Tx (P:=P) (w:=w) (base:=base) B Tk Tr).mono (show 2<=3 by decide)
 have gTi:=WL (P:=P) (w:=w) (base:=base) B Tk Nx Rd Ti;have gRe:=(WK (P:=P) (w:=w) (base:=base) B Tk Re).mono (show 2<=3 by decide)
 apply#[_,aI (cc (i:=3) X rfl (Or.inl rfl)^bL gD M rfl L'.m L'.F.kp L'.b .nil cJ^ar (pv 0)^ar bf aC)
  (aI (cc (i:=4) X rfl (Or.inl rfl)^dB i4 bf^bL gT M rfl Tk.m Tk.F.kp Tk.b .nil cJ^ar (pv 3)^ar (pv 1) aC)
  (aI (cc (i:=5) X rfl (Or.inl rfl)^bL gTr M rfl Tr.m Tr.F.kp Tr.b .nil cJ^ar (pv 4)^ar (pv 3) aC)
  (aI (cc (i:=6) X rfl (Or.inl rfl)^fZ aC)
  (aI (jM Gc rfl (lA rfl B.range^ar (pv 4) aC) (cK (i:=7) X rfl^Or.inl rfl)
   (bH^dD^i5 GT ad6 ad7 oF (pv 6)^ar (bL gT M rfl Tk.m Tk.F.kp Tk.b .nil cJ^ar (pv 3)^ar (dB i4 (pv 7) bf) aC)^ar (pv 7) aC))
  (aI (jM Gc rfl (lu^fZ^ar bf^ar bf aC) (cK (i:=8) X rfl^Or.inl rfl)
   (aI (cc (i:=3) X rfl (Or.inl rfl)^bL gD M rfl L'.m L'.F.kp L'.b .nil cJ^ar (pv 0)^ar (pv 8) aC)
   (bH^jM Gc rfl (lA rfl B.range^ar (dB oJ (bL gT M rfl Tk.m Tk.F.kp Tk.b .nil cJ^ar (pv 3)^ar bf aC)^uJ AO rfl B.int boot_int^ar (JA L4 (pv 4) bf^aU _) aC) aC) (cK (i:=7) X rfl^Or.inl rfl)
    (bH^dD^bL gTi M rfl Ti.m Ti.F.kp Ti.b .nil cJ^ar (pv 5)^ar (pv 3)^ar (pv 2) aC))))
  (bH^iy^bL gRe M rfl Re.m Re.F.kp Re.b .nil cJ^ar (pv 5)^ar (pv 6)^ar (bL gD M rfl L'.m L'.F.kp L'.b .nil cJ^ar (pv 0)^ar bf aC) aC)))))),?_]
 apply#[_,Y,a,ns,1,Y,hS,qg,∅,∅,λl R H1 s1 Pb pU jU hz=>?_]
 apply#[_,Y,_,Y,l,R,m,Y,pU,jU,(),(),(),λdI pO d0 d1 sW vX=>?_]
 exists _,_,rfl,rfl;let#[d,rfl]:=xp d0;have em:(1:Int)+(d:Int)=((d+1:Nat):Int):=()
 change Bh 4 (V'.int (1+(d:Int))) _ _ _;rw[em];have hm:((d+1:Nat):Int)<=m:=()
 generalize d+1=n at hm em;have V1:1<=n:=()
 apply#[_,Y,_,Y,l,pO,n,Y,ah,sW,(),V1,(),λT C w0 mU H2 off RO Rz R2 g0 len0 oh zi xY dg0=>?_]
 have z9:l≠T:=λz=>by rw[<-z,ah] at RO;cases RO
 have mY:l∉C:=λz=>by have:=Rz l z;rw[ah] at this;cases this
 have s2:aE H H2:=λb u g=>off b u (~~~av g Pb)^by rw[ao^av g Pb];show s1 b u g
 have hTH:H T=none:=by
  cases e:H T with
  |none=>rfl
  |some u=>rw[ao^Ne.symm z9,s1 _ _ e] at RO;cases RO
 have frH:∀x∈C,H x=none:=λx G=>by
  cases e:H x with
  |none=>rfl
  |some u=>
   have:=Rz x G
   rw[ao^λz=>mY^by rw[<-z];show G,s1 _ _ e] at this;cases this
 apply#[by change 0<=sizeLine;decide,λO hO=>?_]
 have nOl:l≠O:=av oh hO;have nOT:T≠O:=av R2.top hO
 have YI:O∉C:=λz=>by
  let#[k,hk]:=jm z;rw[R2.row k O hk] at hO;cases hO
 have hOH:H O=none:=s2.free hO;apply#[_,Y,(n:Int),Y,(),(by lia),n6 (n:=((n:Int)).toNat) (λi I p=>∃(ord:!Nat)(R:!Int)(v:Option V'),I= [J^.ref a,J^.int m,J^.bl b,J^.ref l,J^.int (n:Int),J^.ref T,J^.ref O,v,V]/\aE H p/\aQ p T C w0/\p O\(.lst^bz ord)/\ord.Perm^aj i/\p l\(.lst^R.map V'.int)/\R≠ []/\R.length<=2) ?_ ?_ ?_]
 .apply#[[],mU,V,Y,s2.trans^az hO _,R2.off (S:= []) (Off.of_same^az hO _) (by simp)^by simp,ah,List.Perm.refl _,?_,zi,xY]
  rw[ao nOl];show oh
 .rintro i I H3 hi ⟨ord,ds3,v,rfl,s3,R3,RM,TZ,Pc,Yu,hz3⟩
  rw[lH] at hi;have lo:ord.length=i:=by rw[TZ.length_eq,jb]
  have Gg:(0:Int)+(i:Int)=(i:Int):=()
  apply#[_,Y, .inl #[Y,_,aK.of RM],_,Y,_,Y,_,_,Y,Y,l,ds3,_,Y,Pc,Yu,(),(),(by lia),λeI ds4 e0 e1 abX hz4=>?_]
  let#[e,rfl]:=xp e0;have hO4:upd H3 l (.lst^ds4.map V'.int) O\(.lst^bz ord):=by rw[ao^Ne.symm nOl];show RM
  apply#[_,Y,O,_,_,_,Y,Y,hO4,(),by rw[cx];lia,rq (by rw[cx];show agu lo)^bE (),?_]
  rw[Gg,lH,<-se];apply#[ins ord e i,ds4,_,Y,λb u g=>?_,?_,ah,?_,?_,abX,()]
  .rw[ao^av g hOH,ao^av g Pb];show s3 b u g
  .apply R3.keep λb o=>?_
   rw[ao^λz=>?_,ao^λz=>?_]
   .rcases o with o|o
    .show z9^z.symm.trans o
    .rw[z] at o;show mY o
   .rcases o with o|o
    .show nOT^o.symm.trans z
    .rw[z] at o;show YI o
  .apply(rQ ord e i).trans ?_
   rw[ae3];apply(List.Perm.cons i TZ).trans ?_;show(List.perm_append_singleton i^aj i).symm
  .rw[ao nOl,ah]
 rintro I H3 ⟨ord,ds3,v,rfl,s3,R3,RM,TZ,Pc,Yu,hz3⟩;rw[lH] at TZ;have od:Ord ord n:=#[TZ];apply#[by change 2<=sizeLine;decide,λy O3=>?_]
 have s4:=az O3^.lst [V'.int 2,V'.int 3];have e4:upd H3 y (.lst [V'.int 2,V'.int 3]) y\(.lst [V'.int 2,V'.int 3]):=ah;have nLT:y≠T:=Ne.symm^av R3.top O3;have nLO:y≠O:=Ne.symm^av RM O3
 have acq:y∉C:=λz=>by
  let#[k,hk]:=jm z;rw[R3.row k y hk] at O3;cases O3
 have hLH:H y=none:=s3.free O3;generalize upd H3 y^.lst [V'.int 2,V'.int 3]=H4 at s4 e4;have R4:aQ H4 T C w0:=R3.off (S:= []) (Off.of_same s4) (by simp)^by simp
 apply#[y,Y,#[_,aK.of e4],OT (K:=K) (a:=y) (xs:= [V'.int 2,V'.int 3]) (λi I p=>∃(l':Ad)(J':W)(v U:Option V'),I= [J^.ref a,J^.int m,J^.bl b,J^.ref l',J^.int (n:Int),J^.ref T,J^.ref O,v,U]/\aE H p/\aQ p T C J'/\Good J'/\J'.length=n/\p O\(.lst^bz ord)/\p y\(.lst [V'.int 2,V'.int 3])/\jw J'<=26+38*i) ?_ ?_ ?_ ?_]
 .show#[l,w0,v,V,Y,s3.trans s4,R4,g0,len0,s4 _ _ RM,e4,()]
 .rintro i I p _ ⟨l',J',v,U,rfl,_,_,_,_,_,hL,_⟩
  show aK.of hL
 .rintro i x I H5 G ⟨l',J',v,U,rfl,s5,R5,g5,m7,La,hL5,dg5⟩
  obtain⟨k,zV,zW,rfl⟩:∃k:Int,0<=k/\k<=100/\x= .int k:=by
   match i,G with
   |0,G=>cases G;show#[2,∅,∅,Y]
   |1,G=>cases G;show#[3,∅,∅,Y]
   |n+2,G=>simp at G
  apply#[_,Y,_,Y,a,ns,k,Y,s5.seq hS,qg,zV,zW,λr ZU H6 Y' t hl6 Sm hz6=>?_];have n2T:r≠T:=λz=>by rw[z,R5.top] at t;cases t
  have YH:r∉C:=λz=>by
   let#[k,hk]:=jm z;rw[R5.row k r hk] at t;cases t
  have n2O:r≠O:=λz=>by rw[z,La] at t;cases t
  have n2L:r≠y:=λz=>by rw[z,hL5] at t;cases t
  have h2H:H r=none:=s5.free t;apply#[_,Y,r,ZU,20,Y,hl6,Sm,(),∅,∅,λcI Z c0 c1 abY hz7=>?_]
  apply#[_,Y,_,_,Y,Y, .inr #[_,Y,?_]];let#[c,rfl]:=xp c0
  have R7:aQ (upd H6 r^.lst^Z.map V'.int) T C J':=(R5.off (S:= []) (Off.of_same Y') (by simp)^by simp).keep λb o=>by
   apply ao λz=>?_
   rcases o with o|o
   .show n2T^z.symm.trans o
   .rw[z] at o;show YH o
  have s7:aE H^upd H6 r^.lst^Z.map V'.int:=λb u g=>by rw[ao^av g h2H];show Y' _ _^s5 b u g
  have O4:upd H6 r (.lst^Z.map V'.int) O\(.lst^bz ord):=by rw[ao^Ne.symm n2O];show Y' _ _ La
  have hL7:upd H6 r (.lst^Z.map V'.int) y\(.lst [V'.int 2,V'.int 3]):=by rw[ao^Ne.symm n2L];show Y' _ _ hL5
  have sM:upd H6 r (.lst^Z.map V'.int) r\(.lst^Z.map V'.int):=ah;generalize upd H6 r^.lst^Z.map V'.int=H7 at R7 s7 O4 hL7 sM;apply#[_,_,Y,Y, .inl #[(),(by lia)],?_]
  have abM:∃N:Nat,(c:Int)*(if AT ((1:Int)<(n:Int))=L then 1 else 0)=(N:Int)/\N<20/\(0<N->2<=n):=by
   by_cases hn:(1:Int)<(n:Int)
   .rw[FM hn,mo rfl]
    show#[c,(),(),λ_=>by lia]
   .rw[GE hn,tz ∅]
    show#[0,(),(),λh=>by lia]
  let#[N,eN,N20,N2]:=abM;apply#[(N:Int),KB (λz=> [V'.int z]) eN,(),(by lia),n6 (n:=((N:Int)).toNat) (λj I p=>∃(w2:W)(R:!Int)(v U:Option V'),I= [J^.ref a,J^.int m,J^.bl b,J^.ref r,J^.int (n:Int),J^.ref T,J^.ref O,v,U]/\aE H p/\aQ p T C w2/\Good w2/\w2.length=n/\p O\(.lst^bz ord)/\p y\(.lst [V'.int 2,V'.int 3])/\p r\(.lst^R.map V'.int)/\R≠ []/\R.length<=2/\jw w2<=jw J'+2*j) ?_ ?_ ?_]
  .show#[J',Z,_,_,Y,s7,R7,g5,m7,O4,hL7,sM,abY,(),()]
  .rintro j I H8 hj ⟨w2,ds8,v,U,rfl,s8,R8,g8,YE,hO8,hL8,hl8,Yw,hz8,dg8⟩
   rw[lH] at hj;have n2:=N2 ()
   apply#[_,Y,_,Y,_,Y,T,r,b,C,w2,ds8,Y,R8,g8,(),(),hl8,Yw,hz8,n2T,YH,λw3 ds9 H9 Ts R9 g9 adD hl9 abZ hz9 dg9=>?_]
   apply#[w3,ds9,_,_,Y,λb u g=>Ts b u (λz=>?_)^s8 b u g,R9,g9,(),Ts _ _ (λz=>?_) hO8,Ts _ _ (λz=>?_) hL8,hl9,abZ,hz9,()]
   .rcases bQ.mp z with z|z
    .rw[z,h2H] at g;cases g
    .rw[frH b z] at g;cases g
   .rcases bQ.mp z with z|z
    .show n2O z.symm
    .show YI z
   .rcases bQ.mp z with z|z
    .show n2L z.symm
    .show acq z
  .rintro I H8 ⟨w2,ds8,v,U,rfl,s8,R8,g8,YE,hO8,hL8,hl8,Yw,hz8,dg8⟩
   rw[lH] at dg8;show#[r,w2,v,U,Y,s8,R8,g8,YE,hO8,hL8,()]
 .rintro I H5 ⟨l',J',v,U,rfl,s5,R5,g5,m7,La,hL5,dg5⟩
  apply#[_,Y,_,Y,_,Y,a,ns,4,Y,s5.seq hS,qg,∅,∅,λl4 ZU H6 Y' t hl6 Sm hz6=>?_]
  have n4T:l4≠T:=λz=>by rw[z,R5.top] at t;cases t
  have aco:l4∉C:=λz=>by
   let#[k,hk]:=jm z;rw[R5.row k l4 hk] at t;cases t
  have n4O:l4≠O:=λz=>by rw[z,La] at t;cases t
  have h4H:H l4=none:=s5.free t;have s56:=s5.trans Y';apply#[T,O,l4,C,J',ord,ZU,Y,(let Q5:=R5.off (S:= []) (Off.of_same Y') (by simp) (by simp);#[Q5.top,Q5.len,Q5.row]),g5,(),Y' _ _ La,by rw[m7];show od,hl6,Sm,hz6,n4T,aco,n4O,λF fs w' p off hF fr R' g' adC dg' _=>?_]
  apply q F fs w' p (λb u g=>off b u (~~~av g h4H)^s56 b u g) (s56.free hF) (λx G=>s56.free^fr x G) R' g' () ()^by rw[dg'];simp at dg5;lia
end
end AD
namespace tQ
open PySem L2 Wb
variable {P:Program} {w:World} {mg:Str->Option Value} {base:Heap} {Z:DC} (T:Txt Z mg)
theorem N3{Z:DC}:∀(fs:!Ad)(w:W),fs.length=w.length->(∀(i:Nat) a,fs[i]?\a->G a\(.lst^AD.bz^row w i))->DvAll Z G (fs.map V'.ref)^w.map aD
 | [],[],_,_=> .nil
 | [],_::_,h,_=>by cases h
 |_::_,[],h,_=>by cases h
 |a::fs,r::w,h,k=>by
  apply .cons ?_ (N3 fs w (~~~h) λi b d=>k (i+1) b^~~~d)
  have c:G a\(.lst^AD.bz r):=k 0 a rfl;apply Dv.lst c ?_;unfold AD.bz;clear c k h
  induction r with
  |nil=>show .nil
  |cons x r e=>show .cons (.int _) e
def Xw:c7:=λa P=>∃(c:!Int)(m:Nat)(b:Bool),a= [.nI c,ax m, .bl b]/\1<=m/\m<=14/\∀w,Good w->1<=w.length->w.length<=m->P^bA w
def QL{Z:DC}(T:Txt Z a):AD.Dc a:=#[T.B.len,T.B.range,T.B.max,T.B.min,T.B.enumerate,T.B.zip,T.B.sorted,T.B.all,T.B.isinstance,T.B.int,T.B.bool,T.B.list,T.B.tuple]
def GB:Dk P w base 4 T.us^aR Z Xw:=by
 apply(AD.Tz (QL T) T.uj T.uk T.ul T.um T.un T.uo T.up T.uq T.ur T.us).imp ?_;rintro M H Q E ⟨G,N,P,s,dv,⟨p,m,b,rfl,m1,r,t⟩,q⟩;let#[O,S,rfl,u,dv]:=dv.wo;let#[U,X,rfl,v,x]:=dv.mz;let#[a,rfl,y,A]:=u.BP;obtain rfl:=v.ofInt;obtain rfl:=x.BN;apply#[a,p,m,b,Y,y.mono s,A,(),(),λF fs h j k B f R g C Y' _=>?_]
 let d:Ad->Prop:=λb=>b=F\/b∈fs
 have l:∀b,d b->H b=none:=λb c=>by
  rcases c with rfl|c
  .show B
  .show f b c
 have I:∀b o,H b\o->¬d b:=λb o e z=>by rw[l b z] at e;cases e
 have J':Ext G H (plus G j d) j:=#[λb o e=>by rw[gQ^I b o^s _ _ e];show e,λb o e=>by
  by_cases z:d b
  .rw[jW z] at e;show e
  .rw[gQ z] at e;show k _ _^s _ _ e,k,λb c L'=>by
  rw[gQ^λz=>c^l b z];show L']
 apply q _ (t h g C ()) _ _ _ J'^Dv.lst (xs:=fs.map V'.ref) (by rw[jW^.inl rfl];show R.top) (N3 fs h R.len λi a n=>?_)
 rw[jW^.inr^cG n];show R.row i a n
def Ux:c7:=λa P=>∃(b:!Int)(k:Nat),a= [.nI b,ax k]/\k<=100/\∀v:Int,P^.int v
def sY:Dk P w base 1 T.uj^aR Z Ux:=by
 apply(AD.BW T.uj).imp ?_;rintro j H Q E ⟨G,l,P,s,dv,⟨c,k,rfl,m,d⟩,q⟩;let#[n,o,rfl,e,f]:=dv.mz;let#[a,rfl,g,h]:=e.BP;obtain rfl:=f.ofInt;apply#[a,c,k,Y,g.mono s,h,(),(),λv i b=>?_]
 show q _ (d v) _ G i #[.refl _,s.trans b,b,λ_ _ z=>z]^.int v
end tQ
namespace L2
open PySem PySem.Spec PyProof.Rows
section
def SR(x:mm a h):bR P w H h a^.ext^mm a:=by
 apply#[x,?_,λg i p k=>?_]
 .obtain⟨_,_,_,_,_,_,e⟩:=x
  show#[_,e]
 .obtain⟨c,b,n,d,f,v,e⟩:=p
  show#[c,b,n,d,f,v,k _ e]
def LH(x:bR P w H h a^.ext^mm a):∃b:!Int,b≠ []/\b.length<=2/\bR P w H' h a^.lst^b.map V'.int:=by
 obtain⟨⟨b,c,n,f,d,v,e⟩,_⟩:=x;show#[b,f,d,by rw[aG];show jf d ∅,c,n,v,e]
def Bz(d:b≠ [])(f:b.length<=2)(x:bR P w H h a^.lst^b.map V'.int):bR P w H' h a^.ext^mm a:=by
 let#[g,c,n,v,e]:=x;show SR #[b,c,n,d,f,v,e]
def Qm(e:H a\v):upd (upd (upd H a o) a u) a v=H:=by
 funext b
 by_cases z:b=a
 .subst z;rw[ah,e]
 .rw[ao z,ao z,ao z]
end
theorem FnOk.left{P:ff}{w:f8}{K:ac}{t:fC->Option b_}{base:Heap}{k:Nat}{f:Ad}{B:hQ}{ps:!fC}{C:Sp}(F:FnOk P w K t base fJ k f B ps C):FnOk P w K t base fJ k f B ps (λj H Q E=>∃a,H a\(.ext^mm a)/\∀g:!Int,g≠ []->g.length<=2->C j (upd H a^.lst^g.map V'.int) (λv H'=>∃l:!Int,l≠ []/\l.length<=2/\H' a\(.lst^l.map V'.int)/\Q v^upd H' a^.ext^mm a) E):=by
 apply#[λj H Q E g=>?_,λA outer s H i R j Q E S d m T g=>?_]
 .obtain⟨a,_,h⟩:=g;show F.len _ _ _ _^h [0] (by simp)^by simp
 let#[a,p,h]:=g
 have G:Kw^H a:=by rw[p];trivial
 have I:∀b,H b=V->b≠a:=λb e z=>by rw[z,p] at e;cases e
 let#[D,J',W]:=d.hok a _ p;let#[g,U,X,x]:=LH (H':=H)^d.hok a _ p;have x:bR P w (upd H a^.lst^g.map V'.int) s.heap a^.lst^g.map V'.int:=x;have y:Env0 P w K t base A outer s^upd H a^.lst^g.map V'.int:=#[d.frames,d.mod,λb o e=>#[(d.bs b o e).1,by rw[ao^I b (d.bs b o e).2];show(d.bs b o e).2],d.bsz,d.funs,λb m=>by rw[ao^I b^d.frf b m];show d.frf b m,d.hok.write G (.inl rfl) (λb u _ e=>e) J' x,d.bare]
 apply adQ (F.run A outer s _ i R j _ E S y m T^h g U X) λr s' c=>?_
 cases r with
 |error=>show c.elim
 |ok o=>
  cases o with
  |next|brk|cont=>show c.elim
  |ret u=>
  let#[v,H',os,bare,un,hok,Y',l,Z,j2,L',q]:=c
  have M:=hok a _ L';let#[D,its,n,W,N]:=id M;have O:Kw^H' a:=by rw[L'];trivial
  show#[v,_,os,bare,((Un.write G (.inl rfl) (λb u _ e=>e) J').trans un).trans^Un.write O (.inl rfl) (λb u _ e=>e) #[_,N],hok.write O (.inl rfl) (λb u _ e=>e) #[_,N]^Bz Z j2 M,Y',q]
section
theorem Inv.acV(I:Inv X c f H s)(e:H a\(.lst^d.map V'.int))(g:d≠ [])(h:d.length<=2):Inv X c f (upd H a^.ext^mm a) s:=by
 have o:=I.hok a _ e;let#[k,i,n,l,j]:=id o;show I.write (h':=s.heap) (t':=s.toks) (by rw[e];trivial) (.inl rfl) (λb u _ q=>q) #[_,j]^Bz g h o
def ZD(t:sC):bb:=λb P=>t b λc=>∃a:!Int,c=a.map D.int/\a≠ []/\a.length<=2/\P^.x .left
def Ie(h:DF Z X 1 e t):DE Z X e^ZD t:=by
 intro d s r H Q I w;rfl';let#[G,A,P,B,C,E,q]:=w;ac_rfl;apply thn (h d s r H _ I #[G,A,_,B,C,E,λg F v f c i x o nd l=>(#[g,F,v,f,c,x,o,l,Y]:(λu i=>∃g,(∃j:!Int,g=j.map D.int/\j≠ []/\j.length<=2/\P^.x .left)/\∃v f c,Ext G H c i/\Own Z c i 1 v (.lst g) f/\(∀b∈f,H b=V/\i b≠V/\c b=V)/\u=v) v i)]) λu s1 m=>?_;rfl';obtain⟨v,H1,J',L',g,⟨j,rfl,M,N,O⟩,v',f,c,x,o,l,rfl⟩:=m;let#[a,xs,sF,sL,rfl,R,S,T,U]:=o.lst;cases R;ac_rfl;have Y':a∈f:=by rw[T];show c5 ..
 let#[n,n2,n3]:=l a Y';let#[dv,k]:=U.flat;obtain rfl:=vK dv;have g0:G a=none:=x.gg.free n3;apply#[.ref a,_,J'.acV S M N,L',q _ O _ (upd c a^.ext^mm a) _ #[λb o e=>?_,λb o e=>?_,λb o e=>?_,λb p e2=>?_]^.x ah rfl]
 .rw[ao^λz=>by rw[z,g0] at e;cases e];show x.gg b o e
 .by_cases z:b=a
  .subst z;rw[ah] at e ⊢;show e
  .rw[ao z] at e ⊢;show x.sub b o e
 .rw[ao^λz=>by rw[z,n] at e;cases e];show x.hh b o e
 .rw[ao^λz=>p^by rw[z];show n];show x.off b p e2
end
end L2
namespace tQ
open PySem L2 Wb
variable {P:Program} {w:World} {mg:Str->Option Value} {base:Heap} {Z:DC} (T:Txt Z mg)
def aas(l:!Int):!D:=l.map D.int
def Xo:c7:=λb P=>∃(c:!Int)(k:Nat),b= [.nI c,ax k]/\k<=100/\∀a:!Int,a≠ []->a.length<=2->P^.lst^aas a
def nj:Dk P w base 3 T.ul^lh Z 1 Xo:=by
 apply(AD.BX (QL T) T.uj T.uk T.ul).imp ?_;rintro u H Q E ⟨G,v,P,s,dv,⟨g,k,rfl,x,h⟩,q⟩;let#[y,A,rfl,i,j]:=dv.mz;let#[a,rfl,l,m]:=i.BP;obtain rfl:=j.ofInt;apply#[a,g,k,Y,l.mono s,m,(),(),λr c n d e f o p=>?_]
 apply q _ (h c o p) (.ref r) [r] G n #[.refl _,s.trans d,d,λ_ _ z=>z] (.inl #[r,_,_,[],Y,Y,f,Y,(DvAll.ints c).own]) (by simp) λb t=>?_
 have:b=r:=by simpa using t
 subst this;show#[e,(by rw[f];show λz=>nomatch z),s.free e]
def J5:c7:=λa P=>∃m:Int,a= [.x .left, .int m]/\0<m/\m<1073741824/\∀d:Int,0<=d->d<m->P^.int d
def fu:Dk P w base 1 T.um^aR Z J5:=by
 apply(AD.qA (QL T) T.um).left.imp ?_;rintro n H Q E ⟨G,e,P,s,dv,⟨m,rfl,m0,m1,g⟩,q⟩;let#[o,p,rfl,b,h]:=dv.mz;obtain rfl:=h.ofInt;cases b with
 | @x a i _ f c=>
  have c:i=mm a:=c;subst c;apply#[a,s _ _ f,λj k r=>#[a,j,m,Y,ah,k,(),m0,m1,λd e l b ne le=>#[e,ne,(),ah,?_]]]
  rw[Qm^s _ _ f];show q _ (g d l b) _ _ _ (.refl s)^.int d
variable {P:Program} {w:World} {mg:Str->Option Value} {base:Heap} {Z:DC} (T:Txt Z mg)
def GY:c7:=λa P=>∃(w:W)(d:Nat×Nat),a= [bA w,pairD d]/\Good w/\aP w d/\P^pairD^qs w d
def sZ:Dk P w base 1 T.uo^aR Z GY:=by
 have f:=tD.nd;apply bo T.uo.F tD [0,0,0,0] ∅ (λl R h=>by let#[t,u,rfl,v]:=h;rfl)^λp A outer s H E l R m h=>?_
 have r:=m.units
 apply#[_,(aq (FI (aa 1)^dY 2 rfl^aM (aJ 2 f)^aM (aJ 3 f) bU)
   (aw^aS^bM^ae (aa 3)^ae (dN (dN (aa 0)^aa 3)^fm Ar (fm iZ (Ef (dN (aa 0)^aa 3)^aa 2) aL)^aV dX rfl T.B.len dW^ae (dN (aa 0)^aa 3) ag) ag)),?_]
 let#[a,d,rfl,g,i,q]:=h;have b:=g.rng _ _ i;have j:d.1∈row a d.2:=g.sym _ _ i;have k:((row a d.2).map ax).length=(row a d.2).length:=aG _;have c:0<(row a d.2).length:=tK j;have n:(0:Int)<(((row a d.2).map ax).length:Int):=by rw[k];lia
 have e:=kJ j;exists _,rfl,rfl,rfl;have em:(((row a d.2).idxOf d.1:Nat):Int)+1=(((row a d.2).idxOf d.1+1:Nat):Int):=()
 have o:((((row a d.2).idxOf d.1:Nat):Int)+1)%(((row a d.2).map ax).length:Int)=((((row a d.2).idxOf d.1+1)%(row a d.2).length:Nat):Int):=by rw[k,em,af1]
 have at_:gZ ((row a d.2).map ax) (((((row a d.2).idxOf d.1:Nat):Int)+1)%(((row a d.2).map ax).length:Int))\(ax^e8 (row a d.2) d.1):=by
  rw[o];show iY^rp _ c
 exists _,rfl,_,rfl,_,rfl,_,wD b,_,rfl,_,rfl,_,wD b;show#[_,Y,_,Y,Y,fT _,_,_,e.1,e.2.1,e.2.2,_,Y,_,Y,_,wD b,n,_,at_,by change 2<=sizeLine;decide,q]
def Qc:c7:=λa P=>∃(w:W)(d:Nat×Nat),a= [bA w,pairD d]/\Good w/\w.length<=14/\aP w d/\∀r,gY w d r->P^.lst^r.map pairD
def BV:Dk P w base 2 T.up^aR Z Qc:=by
 have f:=qT.nd;apply bo T.up.F qT [0,0,1,0] ∅ (λr R h=>by let#[z,D,rfl,G]:=h;rfl)^λx A outer s H E r R i h=>?_
 have t:=i.units
 apply#[_,(aq (gL 2 f^ij^ae (aa 1) ag)
   (aq (aX At 3 f^aB T.uo (sZ T) i^ae (aa 0)^ae (aa 1) ag)
   (aq (mW Gc (bB (qt t) (aa 3) (aa 1)^aU _)^aq (iT At 2^aa 3)
   (aw^aX At 3 f^aB T.uo (sZ T) i^ae (aa 0)^ae (aa 3) ag))
   (aw^aS^aa 2)))),?_]
 let#[a,d,rfl,g,h14,l,q]:=h;have y:=gq g;have B:a.length*a.length<=14*14:=xy h14 h14;apply#[_,Y,by change 1<=sizeLine;decide,?_]
 exists _,rfl,_,rfl,a,d,rfl,g,l,trivial;apply oV (λm u=>∃k,0<k/\m+k=(bh a).length+1/\(∀j,0<j->j<k->cU a j d≠d)/\u= [J^bA a,J^pairD d,J^.lst^(walk a d k).map pairD,J^pairD^cU a k d]) (bh a).length #[1,(),Y,λj b p=>by lia,Y] ?_
 rintro m _ ⟨k,v,C,n,rfl⟩;have o:=iI g l k;exists _,rfl,_,rfl;apply Ee #[_,Y,eU (λe=>?_)^λe=>?_]
 .have ne:cU a k d≠d:=by simpa using e
  have lt:k<(bh a).length:=by
   have:=rf g l (k:=k+1) λj b p=>by
    by_cases c:j=k
    .subst c;show ne
    .show n j b ()
   lia
  apply#[_,Y,_,Y,trivial,bE^by rw[aG,jJ];lia,?_]
  exists _,rfl,_,rfl,a,cU a k d,rfl,g,o,trivial;apply#[m-1,(),k+1,(),(),λj b p=>?_,?_]
  .by_cases c:j=k
   .subst c;show ne
   .show n j b ()
  .rw[uS,cn];rfl
 .have e:cU a k d=d:=by simpa using e
  show#[_,Y,q _ #[k,v,e,n,Y]]
def sS.off{w:W}{a:!!(Nat×Nat)}(h:sS w a)(R:gY w d r)(g:d∉a.flatten):∀x∈r,x∉a.flatten:=λx i z=>by
 let#[c,f,b]:=lJ.mp z;let#[e,j,l]:=h c f;let#[n,k]:=R.back i;show g^lJ.mpr #[c,f,k▸j.iter b n]
def E4{w:W}(h:gY w d r)(c:gY w e r):d=e:=by
 let#[k,g,_,_,rfl]:=h;let#[m,m0,_,_,f]:=c
 have:=KB List.head? f
 obtain⟨a,rfl⟩:∃a,k=a+1:=#[k-1,()]
 obtain⟨b,rfl⟩:∃b,m=b+1:=#[m-1,()]
 unfold walk at this;rw[Hz,Hz] at this;show Do this
def JM{w:W}(g:Good w)(h:gY w d r)(b:aP w d):∃t,r.map (·.1)=d.1::d.2::t:=by
 let#[k,c,a,_,rfl]:=h
 obtain⟨m,rfl⟩:∃m,k=m+2:=by
  exists k-2;apply FS ?_;intro z;obtain rfl:k=1:=()
  have a:qs w d=d:=a;show iR g b (KB Prod.fst a).symm
 unfold walk;rw[Hz,b9,b9,Hz,b9,b9,b9];show#[_,Y]
theorem rJ{w:W}:∀{rss:!!(Nat×Nat)},sS w rss->rss.length<=rss.flatten.length
 | [],_=>bu _
 |r::rss,h=>by
  let#[d,R,b]:=h r (c5 ..)
  have:=tK R.first
  have:=rJ (rss:=rss) λr a=>h r^eS _ a
  rw[mj,dj,cF];lia
structure RL (w:W) (rss:!!(Nat×Nat)) (c:Nat×Nat->Prop):Prop where
 rnd:∀r∈rss,∃d,gY w d r/\aP w d/\(∀e∈r,lexLe d e)/\c d
 ord:rss.Pairwise λr r'=>∀d e,gY w d r->gY w e r'->lexLe d e
 nd:rss.flatten.Nodup
 all:∀d,aP w d->c d->d∈rss.flatten
theorem RL.imp{w:W}{c i:Nat×Nat->Prop}(h:RL w g c)(k:∀d,aP w d->i d->c d\/d∈g.flatten)(l:∀d,c d->i d):RL w g i:=
 #[λr m=>let #[d,a,b,e,f]:=h.rnd r m;#[d,a,b,e,l d f],h.ord,h.nd,λd j n=>(k d j n).elim (h.all d j) id]
def RL.allR{w:W}(h:RL w e c):sS w e:=λr f=>let #[d,a,b,_]:=h.rnd r f;#[d,a,b]
def RL.add{w:W}(g:Good w)(h:RL w f c)(m:aP w d)(R:gY w d r)(A:d∉f.flatten)(lo:∀e,aP w e->¬c e->lexLe d e)(B:∀e,c e->lexLe e d)
  (C:∀e,c e->l e) (E:l d) (F:∀e,aP w e->l e->c e\/e=d):RL w (f++ [r]) l:=by
 have off:=sS.off h.allR R A
 have p:∀e∈r,aP w e:=λe i=>by
  let#[k,D,K,M,rfl]:=R;show oU g m e i
 have q:(f++ [r]).flatten=f.flatten++r:=by rw[xr];simp
 apply#[λs j=>?_,?_,?_,λe i G=>?_]
 .rcases cM.mp j with j|j
  .obtain⟨e,n,t,u,o⟩:=h.rnd s j
   show#[e,n,t,u,C e o]
  .rw[eO] at j
   subst j;show#[d,R,m,λe i=>lo e (p e i) λz=>off e i^h.all e (p e i) z,E]
 .apply tM.mpr #[h.ord,Hy _ _,λs j L' v x y X Y'=>?_]
  rw[eO] at v;subst v;obtain rfl:=E4 Y' R;let#[e,n,t,u,o]:=h.rnd s j;obtain rfl:=E4 X n;show B _ o
 .rw[q,je]
  apply#[h.nd,?_,λa H b I z=>off b I (z▸H)];let#[k,D,K,J',rfl]:=R;show rg g m J'
 .rw[q]
  rcases F e i G with z|z
  .show kq _^h.all e i z
  .rw[z];exact gb _ R.first
def RL.lands{w:W}(g:Good w)(h:RL w f c)(all:∀d,aP w d->c d):bZ w f/\x9 w=hZ f:=by
 have p:f.flatten.Perm^bh w:=(xk h.nd^dh g).mpr λd=>#[λi=>ba.mpr^sS.dart g h.allR d i,λi=>h.all d (ba.mp i)^all d^ba.mp i];have R:bZ w f:=#[λr j=>let #[d,a,b,e,_]:=h.rnd r j;#[d,a,b,e],p];have o:=h.rnd;have q:=h.ord;apply#[R,yl g R ?_];unfold hZ;rw[gX];apply q.imp_of_mem λ {r k} j s l=>?_;let#[d,a,b,_,_]:=o r j;let#[e,m,v,_,_]:=o k s;have le:=l d e a m;let#[t,x]:=JM g a b;let#[B,n]:=JM g m v
 by_cases z:d=e
 .subst z
  rw[a.uniq m];unfold iK;cases y:HT.lexLt (ie^k.map (·.1))^ie^k.map (·.1) with
  |false=>rfl
  |true=>show absurd y^by rw[wd];simp
 .have A:d.1<e.1\/(d.1=e.1/\d.2<e.2):=by
   unfold lexLe at le
   by_cases y:d.1=e.1
   .have:d.2≠e.2:=λu=>z^adS y u
    lia
   .lia
  rw[x,n];unfold iK ie;rw[b9,b9,b9,b9,HT.iJ]
  split
  .rw[HT.iJ]
   split
   .lia
   .show GE ()
  .show GE ()
def l6(r:!(Nat×Nat)):D:= .lst^r.map pairD
def J4:c7:=λb P=>∃(w:W),b= [bA w]/\Good w/\1<=w.length/\w.length<=14/\∀a,RS w a->P^.lst^a.map l6
theorem gx:Dk P w base 3 T.ut^aR Z J4:=by
 have C:=qP.nd;apply bo T.ut.F qP [0,1,98,0,0,0,0] ∅ (λds R h=>by let#[K,rfl,V']:=h;rfl)^λaZ A outer s H E ds R hr h=>?_
 have O:=hr.units
 apply#[_,(aq (cT (bB (i3 O) (aV dX rfl T.B.len dW^ae (aa 0) ag) aL^aU _) (aw^aS^kG^ae (kG ag) ag) bq)
   (aq (gL 1 C^ij ag)
   (aq (Ik 2 C)
   (aq (cz rfl Gc (fg rfl T.B.enumerate^ae (aa 0) ag) (dY 2 rfl^aM (aJ 3 C)^aM (aJ 4 C) bU)^aw^cz rfl Gc (bD^aV Ea rfl T.B.sorted kX^ae (aa 4) ag) (aJ 5 C)^aw^cT (bB (LW O) (bM^ae (aa 3)^ae (aa 5) ag) (aa 2)^by with_unfolding_all rfl) (aq (iT At 1^aB T.up (BV T) hr^ae (aa 0)^ae (bM^ae (aa 3)^ae (aa 5) ag) ag)
   (aw^Ra 1 rfl Gc (VA aL) (aJ 6 C)^aw^Im 2 O (aa 6) mq)) bq)
   (fL 1
   (aw^aS^aa 1)))))),?_]
 let#[b,rfl,g,h1,h14,q]:=h;have lw:(b.map aD).length=b.length:=aG _;have c1:=gq g;have c2:b.length*b.length<=14*14:=xy h14 h14;exists _,rfl;dsimp only[k4,HN,bA];apply VJ #[_,Y,eU (λe=>?_)^λe=>?_]
 .have n1:b.length=1:=by
   have:((b.map aD).length:Int)=1:=KF e
   lia
  show#[by change 0<=sizeLine;decide,by change 1<=sizeLine;decide,q [[]]^.inl #[n1,Y]]
 have J':2<=b.length:=by
  have:¬((b.map aD).length:Int)=1:=SB e
  lia
 apply#[by change 0<=sizeLine;decide,?_]
 exists _,rfl;apply(?_:hV _ _ _ (eZ^b.map aD) _)
 apply bK (λj L'=>∃(a:!!(Nat×Nat))(i:!FV)(Q S v n:Option D),L'= [J^bA b,J^.lst^a.map l6,J^.x^.dH (a.flatten.map zz) i,Q,S,v,n]/\RL b a λd=>d.1<j)
  #[[],[],_,_,_,_,Y,(λr h=>nomatch h), .nil,ju,λd _ h=>absurd h ()] ?_ ?_
 .rintro p _ _ l ⟨a,i,Q,S,v,n,rfl,ok⟩ A M
  let#[hp,rfl]:=zD l;exists rfl,rfl;have rl0:=fG g p;exists _,rfl;dsimp only[k4];apply Fb () λo U srt=>?_
  apply bK (λm L'=>∃(a:!!(Nat×Nat))(i:!FV)(v n:Option D),L'= [J^bA b,J^.lst^a.map l6,J^.x^.dH (a.flatten.map zz) i,J^ax p,J^aD^row b p,v,n]/\RL b a λd=>d.1<p\/(d.1=p/\d.2∈o.take m))
   #[a,i,_,_,Y,ok.imp (λd _ h=> .inl (h.elim id λz=>by simp at z)) λd h=> .inl h] ?_ ?_
  .clear ok
   rintro m0 _ _ l ⟨a,i,v,n,rfl,ok⟩ A M;let#[k,X,rfl]:=cH l;have de:aP b (p,k):=U.mem_iff.mp^cG X;have G:o.take (m0+1)=o.take m0++ [k]:=by rw[rk,X];rfl
   apply#[_,Y,_,Y,by change 2<=sizeLine;decide,_,Y,zz (p,k),_,i,Y,Y,_,Y,?_]
   apply(?_:if (if L=L then not^AT (zz (p,k)∈a.flatten.map zz) else _)=L then _ else _);rw[mo rfl,show AT (zz (p,k)∈a.flatten.map zz)=AT ((p,k)∈a.flatten) from aeO.mpr su];apply eU (λc=>?_)^λc=>?_
   .have c:(p,k)∉a.flatten:=by simpa using c
    have fl:=aY ok.nd λe t=>ba.mpr^sS.dart g ok.allR e t;have rl:=rJ ok.allR;apply#[_,Y,_,Y,_,Y,_,Y,by change 2<=sizeLine;decide,b,(p,k),Y,g,h14,de,λr R=>?_]
    apply#[trivial,bE^by rw[aG];lia,?_]
    have Y':∀y∈o.take m0,y<=k:=λy u=>by
     rw[<-mh (m0+1) o,G] at srt
     have:=(tM.mp (tM.mp srt).1).2.2
     show this y u k^by simp
    have geq:∀y∈o,y∉o.take m0->k<=y:=λy u hn=>by
     have ed:o.drop m0=k::o.drop (m0+1):=by
      let#[hl,e]:=cV.mp X;rw[<-e];show xl hl
     rw[<-mh m0 o,cM] at u;have u:=u.resolve_left hn;have s2:=(tM.mp^by rw[<-mh m0 o] at srt;show srt).2.1
     rw[ed] at u s2
     rcases bQ.mp u with rfl|u
     .show bu _
     .show(List.pairwise_cons.mp s2).1 y u
    have N:RL b (a++ [r]) λd=>d.1<p\/(d.1=p/\d.2∈o.take (m0+1)):=by
     apply RL.add g ok de R c (λe t nc=>?_) (λe I=>?_) (λe I=>I.imp id λz=>#[z.1,by rw[G];show kq _ z.2]) (.inr #[Y,by rw[G];simp]) λe t I=>?_
     .unfold lexLe
      by_cases z:e.1=p
      .right
       apply#[z.symm,geq _ (U.mem_iff.mpr ?_) λy=>nc^.inr #[z,y]];have t:e.2∈row b e.1:=t;rw[z] at t;show t
      .left
       change p<e.1
       have:¬e.1<p:=λy=>nc^.inl y
       lia
     .unfold lexLe
      show I.imp id λz=>#[z.1,Y' _ z.2]
     .rw[G] at I
      by_cases z:e=(p,k)
      .show .inr z
      .show .inl (I.imp id λh=>#[h.1,(cM.mp h.2).elim id λh2=>absurd (adS h.1^eO.mp h2) z])
    have ef:(a++ [r]).flatten=a.flatten++r:=by rw[xr];simp
    have J':=N.nd;have VN:=aY N.nd λe t=>ba.mpr^sS.dart g N.allR e t;rw[ef] at J' VN;rw[dj] at VN;have RW:gZ (a.map l6++ [.lst^r.map pairD]) (-1)\(.lst^r.map pairD):=OC _ _;exists _,rfl,-1,r.map pairD,rfl,RW;apply bK (λj L'=>∃(i:!FV)(n:Option D),L'= [J^bA b,J^.lst (a.map l6++ [.lst^r.map pairD]),J^.x^.dH ((a.flatten++r.take j).map zz) i,J^ax p,J^aD^row b p,J^ax k,n]) #[i,n,by rw[uX,fB];rfl] ?_ ?_
    .rintro j _ _ hd3 ⟨i,n,rfl⟩ A3 hA3
     let#[f,hf,rfl]:=cH hd3;have XM:r.take (j+1)=r.take j++ [f]:=by rw[rk,hf];rfl
     have nin:f∉a.flatten++r.take j:=λz=>by
      have sp:a.flatten++r=(a.flatten++r.take j)++(f::r.drop (j+1)):=by
       rw[kz,<-cV.mp hf|>.2,aeF,mh]
      rw[sp] at J';show(je.mp J').2.2 f z f (c5 ..) rfl
     apply#[.bl L,_,i,Y,Y,_,Y,zz f,Y,λz=>nin^su.mp z,by rw[aG,dj,jr];lia,hA3 _ #[i++ [.bl L],J^pairD f,?_]]
     rw[XM,<-kz,cn (l₂:= [f])];rfl
    .rintro _ ⟨i,n,rfl⟩
     rw[aG,xw];show M _ #[a++ [r],i,J^ax k,n,by rw[ef,cn (f:=l6)];rfl,N]
   .have c:(p,k)∈a.flatten:=KF^by simpa only[Bool.not_eq_false'] using c
    apply M _ #[a,i,_,_,Y,ok.imp (λd _ l=>?_) λd l=>l.imp id λz=>#[z.1,by rw[G];show kq _ z.2]]
    rw[G] at l
    by_cases z:d=(p,k)
    .rw[z];show .inr c
    .show .inl (l.imp id λh=>#[h.1,(cM.mp h.2).elim id λh2=>absurd (adS h.1^eO.mp h2) z])
  .rintro _ ⟨a,i,v,n,rfl,ok⟩
   apply M _ #[a,i,_,_,_,_,Y,ok.imp (λd Ld l=> .inl ?_) λd l=>?_]
   .rw[aG,xw]
    by_cases z:d.1=p
    .show .inr #[z,U.mem_iff.mpr (z▸Ld)]
    .left;lia
   .rcases l with l|l<;>lia
 rintro _ ⟨a,i,Q,S,v,n,rfl,ok⟩;rw[gr,lw] at ok;let#[R1,R2]:=RL.lands g ok λd l=>f7 l;show#[#[_,Y],_,Y,q a^.inr #[J',R1,R2]]
variable {P:Program} {w:World} {mg:Str->Option Value} {base:Heap} {Z:DC} (T:Txt Z mg)
theorem E6(r:!(Nat×Nat)):∀(l:!!(Nat×Nat))(n:Nat),jI n (l++ [r])=jI n l++r.map λ_=>FV.int ((n+l.length:Nat):Int)
 | [],n=>by simp[jI]
 |s::l,n=>by
  change _++jI (n+1) (l++ [r])=_++jI (n+1) l++_;rw[E6 r l (n+1),<-kz,cF,show n+1+l.length=n+(l.length+1) by lia]
def RS.facts{w:W}(g:Good w)(h14:w.length<=14)(h:RS w c):c.flatten.Nodup/\c.flatten.length<=196:=by
 rcases h with ⟨_,rfl⟩ | ⟨_,R,_⟩
 .show#[∅,∅]
 .obtain⟨a,b,_⟩:=sh g h14 R
  show#[a,b]
def P6:c7:=λb P=>∃(w:W),b= [bA w]/\Good w/\1<=w.length/\w.length<=14/\∀a,RS w a->P^.x^.dH (sP a)^jI 0 a
def jE:Dk P w base 4 T.uu^aR Z P6:=by
 have c:=nE.nd;apply bo T.uu.F nE [0,98,0,0,0] ∅ (λI R h=>by let#[K,rfl,V']:=h;rfl)^λaZ A outer s H E I R d h=>?_
 have J':=d.units
 apply#[_,(aq (Ik 1 c)
   (aq (cz rfl Gc (fg rfl T.B.enumerate^ae (aB T.ut (gx T) d^ae (aa 0) ag) ag) (dY 2 rfl^aM (aJ 2 c)^aM (aJ 3 c) bU)^aw^cz rfl Gc (bD^aa 3) (aJ 4 c)^aw^Im 1 J' (aa 4)^aa 2)
   (fL 1
   (aw^aS^aa 1)))),?_]
 let#[k,rfl,g,L',h14,q]:=h;apply#[_,Y,k,Y,g,L',h14,λa v=>?_];let#[c,M]:=v.facts g h14;apply(?_:hV _ _ _ (eZ^a.map l6) _);apply bK (λj l=>∃(m n b:Option D),l= [J^bA k,J^.x^.dH ((a.take j).flatten.map zz)^jI 0^a.take j,m,n,b]) #[_,_,_,Y] ?_ ?_
 .rintro j _ _ N ⟨m,n,b,rfl⟩ A O
  let#[x,Q,rfl]:=jy N;let#[r,d,rfl]:=cH Q;have y:a.take (j+1)=a.take j++ [r]:=by rw[rk,d];rfl
  have S:=(cV.mp d).1;have o:(a.take (j+1)).flatten=(a.take j).flatten++r:=by rw[y,xr];simp
  have sub:=M4^cG d
  have C:((a.take j).flatten++r).Nodup:=by
   rw[<-o];have e:a.flatten=(a.take (j+1)).flatten++(a.drop (j+1)).flatten:=by rw[<-xr,mh]
   rw[e] at c;show(je.mp c).1
  have U:((a.take j).flatten++r).length<=196:=by
   rw[<-o];have e:a.flatten=(a.take (j+1)).flatten++(a.drop (j+1)).flatten:=by rw[<-xr,mh]
   rw[e,dj] at M;lia
  exists rfl,rfl;exists _,rfl;apply(?_:hV _ _ _ (r.map pairD) _);apply bK (λi l=>∃(b:Option D),l= [J^bA k,J^.x^.dH (((a.take j).flatten++r.take i).map zz) (jI 0^a.take j++(r.take i).map λ_=>FV.int (j:Int)),J^.int (j:Int),J^l6 r,b]) #[b,by rw[uX,fB,yT,fB];rfl] ?_ ?_
  .rintro i _ _ p ⟨b,rfl⟩ A3 t
   let#[f,G,rfl]:=cH p;have X:r.take (i+1)=r.take i++ [f]:=by rw[rk,G];rfl
   have u:f∉(a.take j).flatten++r.take i:=λz=>by
    have Y':(a.take j).flatten++r=((a.take j).flatten++r.take i)++(f::r.drop (i+1)):=by
     rw[kz,<-cV.mp G|>.2,aeF,mh]
    rw[Y'] at C;show(je.mp C).2.2 f z f (c5 ..) rfl
   rw[dj] at U;apply#[_,Y, .int (j:Int),_,_,Y,Y,_,Y,zz f,Y,λz=>u^su.mp z,by rw[aG,dj,jr];lia,t _ #[J^pairD f,?_]]
   rw[X,<-kz,cn (l₂:= [f]) (f:=zz),cn (l₂:= [f]),<-kz];rfl
  .rintro _ ⟨b,rfl⟩
   rw[aG,xw];apply O _ #[_,_,_,by rw[o,y,E6,jr,tN^rz S,iN]]
 .rintro _ ⟨m,n,b,rfl⟩
  rw[gr,aG,xw];show#[#[_,Y],_,Y,q a v]
def ML(r:Nat->!Nat)(n:Nat):cL r (n+1)=cL r n++((r n).filter λq=>AT (n<q)).map λq=>(n,q):=by
 unfold cL;rw[ae3,List.flatMap_append];simp
def My:c7:=λb P=>∃(w:W),b= [bA w]/\Good w/\w.length<=14/\∀a:!(Nat×Nat),a.Perm^cL (row w) w.length->a.Pairwise lexLe->P^.lst^a.map pairD
def jL:Dk P w base 1 T.uv^aR Z My:=by
 have k:=tF.nd;apply bo T.uv.F tF [0,1,0,0] ∅ (λC R h=>by let#[z,rfl,K]:=h;rfl)^λaZ A outer s H E C R G h=>?_
 have hu:=G.units
 apply#[_,(aq (gL 1 k^ij ag)
   (aq (cz rfl Gc (fg rfl T.B.enumerate^ae (aa 0) ag) (dY 2 rfl^aM (aJ 2 k)^aM (aJ 3 k) bU)^aw^VF 1^nY (NC:= ["_law_b","_law_a"]) (src:= [V,J 2]) rfl (pZ^au kM) #[Y,Y,trivial] (bD^aV Ea rfl T.B.sorted kX^ae (aa 3) ag) (λ_ _ _=>(bC 0 (show(["_law_b","_law_a"]:!fC).Nodup from by nofun))) (λ_ _ _=>(vJ^bB yu (aa 1) (aa 0)^aU _))^λ_ _ _=>(bM^ae (aa 1)^ae (aa 0) ag))
   (fL 1
   (aw^aS^aa 1)))),?_]
 let#[e,rfl,g,h14,q]:=h;have I:(e.map aD).length=e.length:=aG _;apply#[by change 0<=sizeLine;decide,?_]
 exists _,rfl;apply(?_:hV _ _ _ (eZ^e.map aD) _);apply bK (λj l=>∃(d:!(Nat×Nat))(m n:Option D),l= [J^bA e,J^.lst^d.map pairD,m,n]/\d.Perm^cL (row e) j/\d.Pairwise lexLe/\(∀t∈d,t.1<j)/\d.length<=j*14) #[[],_,_,Y, .refl _, .nil,(λt h=>nomatch h),eQ _] ?_ ?_
 .rintro p _ _ J' ⟨d,m,n,rfl,i,srt,lo,L'⟩ A M
  let#[hp,rfl]:=zD J';exists rfl,rfl;have N:=fG g p
  have O:d.length<=196:=by
   have:p*14<=14*14:=xy ()^bu _
   lia
  exists _,rfl,_,rfl;dsimp only[k4];apply Fb () λr v u=>?_
  have ml:=v.length_eq;apply iW (λl=>∃o,l= [o,J^ax p]) ax (λq=>AT (p<q)) (λq=>pairD (p,q)) r _ [] _ (λy hy Q x Y' Nn S U=>?_) #[_,Y] (by rw[lK,iN];show small ()) λQ x=>?_
  .obtain⟨o,rfl⟩:=x
   exists _,rfl,_,rfl,_,rfl;apply(?_:if AT ((p:Int)<(y:Int))=L then _ else _);apply eU (λc=>?_)^λc=>?_
   .have c:p<y:=by have:=KF c;lia
    show#[_,Y,_,Y,by change 2<=sizeLine;decide,S _ #[_,Y]^FM c]
   .have c:¬p<y:=by have:=SB c;lia
    show U _ #[_,Y]^GE c
  have fl:=HA (λq=>AT (p<q)) r;rw[pJ];apply#[_,Y,small^by rw[aG,aG];lia,M _ #[d++(r.filter λq=>AT (p<q)).map^λq=>(p,q),J^.int (p:Int),J^aD^row e p,?_,?_,?_,?_,?_]]
  .rw[cn,cQ];rfl
  .rw[ML]
   show i.append^(v.filter _).map _
  .apply tM.mpr #[srt,?_,λa X b hb=>?_]
   .rw[gX]
    apply(u.filter _).imp λ {a b} h=>?_;show .inr #[Y,h]
   .obtain⟨y,_,rfl⟩:=bS.mp hb
    show .inl^lo a X
  .intro t f
   rcases cM.mp f with f|f
   .have:=lo t f;lia
   .obtain⟨y,_,rfl⟩:=bS.mp f
    show afP _
  .rw[dj,aG];lia
 .rintro _ ⟨d,m,n,rfl,i,srt,lo,L'⟩
  rw[gr,I] at i;show#[#[_,Y],_,Y,q d i srt]
end tQ
set_option autoImplicit true
namespace Wb
def dq(a:!!(Nat×Nat))(d:Nat×Nat):Nat:=a.findIdx λr=>AT (d∈r)
def NS(h:d∈a.flatten):dq a d<a.length:=by
 let#[r,b,c]:=lJ.mp h;show aeP #[r,b,FM c]
def WE{a:!!(Nat×Nat)}{d:Nat×Nat}(h:d∈a.flatten):d∈a.getD (dq a d) []:=by
 have l:=NS h;rw[cy,bT l]
 have:=List.findIdx_getElem (w:=l)
 show KF this
theorem NR:∀{a:!!(Nat×Nat)}{d:Nat×Nat}{k:Nat},a.flatten.Nodup->d∈a.getD k []->dq a d=k
 | [],d,k,_,h=>by simp at h
 |r::a,d,0,b,h=>by
  have h:d∈r:=h;unfold dq;rw[aez,FM h];rfl
 |r::a,d,k+1,b,h=>by
  have h:d∈a.getD k []:=h;rw[mj] at b;let#[l,f,g]:=je.mp b;have c:=NR f h
  have i:d∈a.flatten:=by
   rw[cy] at h;cases e:a[k]? with
   |none=>rw[e] at h;cases h
   |some x=>rw[e] at h;show lJ.mpr #[x,cG e,h]
  have j:d∉r:=λz=>g d z d i rfl;unfold dq at c ⊢;rw[aez,GE j];change a.findIdx _+1=k+1;rw[c]
structure jO (w:W) (rss:!!(Nat×Nat)):Prop where
 nd:rss.flatten.Nodup
 dart:∀d,d∈rss.flatten↔aP w d
 go:∀k d,d∈rss.getD k []->qs w d∈rss.getD k []
def jO.of{w:W}(g:Good w){a:!!(Nat×Nat)}(R:bZ w a):jO w a:=by
 apply#[R.perm.nodup_iff.mpr^dh g,λd=>R.perm.mem_iff.trans ba,λk d h=>?_];rw[cy] at h ⊢;cases e:a[k]? with
 |none=>rw[e] at h;cases h
 |some r=>
  rw[e] at h;let#[c,b,f]:=R.rnd r^cG e;show b.next h
def jO.one(g:Good w)(h:w.length=1):jO w [[]]:=by
 apply#[∅,λd=>#[λz=>by simp at z,λz=>?_],λk d z=>?_]
 .have a:=f7 z
  have b:=g.rng _ _ z;show absurd (show d.1=d.2 by lia)^iR g z
 .match k with
  |0=>cases z
  |k+1=>simp at z
def jO.num(L':jO w a){d:Nat×Nat}(h:aP w d):dq a d<a.length/\d∈a.getD (dq a d) []:=#[NS^(L'.dart d).mpr h,WE^(L'.dart d).mpr h]
def jO.at_(L':jO w a)(h:d∈a.getD k []):aP w d/\dq a d=k:=by
 apply#[(L'.dart d).mp ?_,NR L'.nd h];rw[cy] at h;cases e:a[k]? with
 |none=>rw[e] at h;cases h
 |some x=>rw[e] at h;show lJ.mpr #[x,cG e,h]
def jO.next(L':jO w a)(h:aP w d):dq a^qs w d=dq a d:=(L'.at_^L'.go _ _ (L'.num h).2).2
def AI(g:Good w){A:Nat×Nat->Prop}(l:∀d,aP w d->A d->A (d.2,d.1))(t:∀d,aP w d->A d->A^qs w d)(m:aP w f)(u:A f):∀d,aP w d->A d:=by
 have o:∀p q,q∈row w p->A (p,q)->∀x∈row w p,A (p,x):=λp q e v=>by
  have j:=tK e
  have y:∀n,A (p,(row w p).getD (((row w p).idxOf q+n)%(row w p).length) 0):=λn=>by
   induction n with
   |zero=>
    have c:=M5 e;rw[Nat.add_zero,xv c,cy,bT c,af2,C8];show v
   |succ n k=>
    have c:=rp ((row w p).idxOf q+n) j
    have r:(row w p).getD (((row w p).idxOf q+n)%(row w p).length) 0∈row w p:=by
     rw[cy,bT c];show j5 c
    have i:aP w ((row w p).getD (((row w p).idxOf q+n)%(row w p).length) 0,p):=g.sym _ _ r
    have:=t _ i^l (p,(row w p).getD (((row w p).idxOf q+n)%(row w p).length) 0) r k
    unfold qs e8 at this
    have B:(row w p).idxOf^(row w p).getD (((row w p).idxOf q+n)%(row w p).length) 0=((row w p).idxOf q+n)%(row w p).length:=by
     rw[cy,bT c,af2];show List.Nodup.idxOf_getElem (g.nod p) _ c
    simp only[B] at this;rw[Nat.mod_add_mod] at this;show this
  intro x C;have c:=M5 C;have F:=M5 e
  have:=y ((row w p).idxOf x+(row w p).length-(row w p).idxOf q)
  rw[show(row w p).idxOf q+((row w p).idxOf x+(row w p).length-(row w p).idxOf q)=(row w p).idxOf x+(row w p).length by lia,Nat.add_mod_right,xv c,cy,bT c,af2,C8] at this
  show this
 have Ag:∀p q,q∈row w p->(∀x∈row w p,A (p,x))->∀x∈row w q,A (q,x):=λp q e h=>o q p (g.sym _ _ e)^l (p,q) e^h q e
 have reach:∀a b,Reach w a b->((∀x∈row w a,A (a,x))↔∀x∈row w b,A (b,x)):=λa b h=>by
  induction h with
  |refl=>show Iff.rfl
  |step _ s k=>show k.trans #[Ag _ _ s,Ag _ _^g.sym _ _ s]
 have E:=o f.1 f.2 m u;intro d i;show(reach 0 d.1^g.con _^f7 i).mp ((reach 0 f.1^g.con _^f7 m).mpr E) d.2 i
end Wb
namespace tQ
open PySem L2 Wb
variable {P:Program} {w:World} {mg:Str->Option Value} {base:Heap} {Z:DC} (T:Txt Z mg)
theorem qF:∀(a:!!(Nat×Nat))(n:Nat),d∈a.flatten->∃j:Nat,(sP a)[j]?\(zz d)/\(jI n a)[j]?\(FV.int ((n+dq a d:Nat):Int))
 | [],n,h=>nomatch h
 |r::a,n,h=>by
  unfold sP dq;rw[mj,cn];unfold jI
  by_cases c:d∈r
  .obtain⟨j,b⟩:=CV.mp c
   have e:=(cV.mp b).1;apply#[j,?_,?_]
   .rw[jj^by rw[aG];show e,dF,b];rfl
   .rw[jj^by rw[aG];show e,dF,b,aez,FM c];rfl
  .rw[mj,cM] at h
   let#[j,g,f]:=qF a (n+1)^h.resolve_left c;unfold dq at f;apply#[r.length+j,?_,?_]
   .rw[ko^by rw[aG];lia,aG,af7];show g
   .rw[ko^by rw[aG];lia,aG,af7,f,aez,GE c]
    change J^FV.int _\(FV.int _);rw[show n+1+a.findIdx (λr=>AT (d∈r))=n+(a.findIdx (λr=>AT (d∈r))+1) by lia];rfl
def RS.uniq{w:W}(g:Good w)(h:RS w a)(k:RS w b):a=b:=by
 rcases h with ⟨c,rfl⟩ | ⟨c,R,e⟩<;>rcases k with ⟨d,rfl⟩ | ⟨d,S,f⟩
 .rfl
 .lia
 .lia
 .rw[<-si g R,<-si g S,<-e,f]
def RS.EO{w:W}(g:Good w)(h:RS w a):jO w a:=by
 rcases h with ⟨b,rfl⟩ | ⟨_,R,_⟩
 .show .one g b
 .show .of g R
def uP{w:W}(h:t∈cL (row w) w.length):aP w t:=by
 rw[b7] at h;show ba.mp (kB.mp h).1
structure Tk (w:W) (rss:!!(Nat×Nat)) (ts:!(Nat×Nat)):Prop where
 g:Good w
 h1:1<=w.length
 h14:w.length<=14
 rs:RS w rss
 pm:ts.Perm (cL (row w) w.length)
 srt:ts.Pairwise lexLe
def Tk.uniq{w:W}(h:Tk w a c)(d:b.Perm^cL (row w) w.length)(srt:b.Pairwise lexLe):b=c:=adV (λ_ _ _ _=>kP) srt h.srt^d.trans h.pm.symm
def Tk.few{w:W}(h:Tk w a b):b.length<=196:=by
 have c:=gq h.g;have e:w.length*w.length<=14*14:=xy h.h14 h.h14
 have:=h.pm.length_eq
 rw[b7] at this
 have:=HA (λd:Nat×Nat=>AT (d.1<d.2))^bh w
 lia
def Tk.rounds{w:W}(h:Tk w rss f):rss.flatten.length<=196/\(∀r∈rss,r.length<=196)/\rss.length<=197:=by
 rcases h.rs with ⟨_,rfl⟩ | ⟨_,R,_⟩
 .show#[∅,λr e=>by rw[eO] at e;subst e;decide,∅]
 .obtain⟨a,b,c⟩:=sh h.g h.h14 R
  exists b,c
  have:=rJ (w:=w) (rss:=rss) λr e=>let #[d,a,b,_]:=R.rnd r e;#[d,a,b]
  lia
def tc(w:W):Nat:=(cL (row w) w.length).length
def yX(w:W)(a:!!(Nat×Nat)):D:= .tup [.int (w.length:Int), .int (tc w:Int), .int (a.length:Int)]
def iF(w:W)(a:!!(Nat×Nat)):Prop:=(w.length:Int)+(a.length:Int)=(tc w:Int)+2
def Jj{w:W}{P:D->Prop}(g:Good w)(j:1<=w.length)(f:w.length<=14)(R:RS w a)(h:∀b:!!Nat,b.map sQ=a->b.length=a.length->(∀r∈b,r.length<=300)->P^.lst^b.map aD):J3 [.gB w] P:=by
 apply#[w,Y,g,j,f,λe=>?_,λk m R2 e=>?_]
 .obtain rfl:=R.uniq g^.inl #[e,Y]
  show h [[0]] rfl rfl λr d=>by rw[eO] at d;subst d;decide
 .obtain rfl:=R.uniq g^.inr #[k,R2,e]
  rw[e];let#[n,o,c]:=sh g f R2;apply h (hZ a) (si g R2) (by unfold hZ;rw[aG]) λr d=>?_
  let#[i,l,rfl]:=bS.mp d
  have:=c i l
  change(i.map (·.1)).length<=300;rw[aG];lia
def P7:c7:=λb P=>∃(w:W)(a:!!(Nat×Nat)),b= [.gB w]/\Good w/\1<=w.length/\w.length<=14/\RS w a/\P^yX w a
def EX:Dk P w base 4 T.u4^aR Z P7:=by
 have r:=E8.nd;apply bo T.u4.F E8 [0] ∅ (λf R h=>by let#[v,x,rfl,y]:=h;rfl)^λt A outer s H E f R c h=>?_
 have u:=c.units;apply#[_,(aw^aS^bM^ae (gK T.W (aa 0) T.va.m (oG T) (c.mono ∅) T.va.b)^ae (aV dX rfl T.B.len dW^ae (gK T.W (aa 0) T.vc.m (gP T) (c.mono ∅) T.vc.b) ag)^ae (aV dX rfl T.B.len dW^ae (aB T.u3 (rW T) c^ae (aa 0) ag) ag) ag),?_]
 let#[a,d,rfl,g,i,e,R,q]:=h;apply#[_,Y,a,Y,a,Y,_,Y,a,Y,a,Y,g,e,λj k srt=>?_];have l:(j.map pairD).length=tc a:=by rw[aG,k.length_eq];rfl
 exists _,rfl;dsimp only[k4];apply Jj g i e R λn _ o _=>?_;have p:(n.map aD).length=d.length:=by rw[aG,o]
 unfold yX at q;rw[<-l,<-p] at q;show#[by change 3<=sizeLine;decide,q]
def Qa:c7:=λb P=>∃(w:W)(a:!!(Nat×Nat)),b= [.gB w]/\Good w/\1<=w.length/\w.length<=14/\RS w a/\(iF w a->P^.bl L)/\(¬iF w a->P^.bl At)
def GD:Dk P w base 5 T.u5^aR Z Qa:=by
 have b:=wO.nd;apply bo T.u5.F wO [0,0,0,0] ∅ (λf R h=>by let#[o,p,rfl,q]:=h;rfl)^λn A outer s H E f R d h=>?_
 have i:=d.units
 apply#[_,(aq (FI (aB T.u4 (EX T) d^ae (aa 0) ag)^dY 3 rfl^aM (aJ 1 b)^aM (aJ 2 b)^aM (aJ 3 b) bU)
   (aw^aS^iS (i3 i) (fm iZ (aa 1)^aa 3) (fm iZ (aa 2) aL)^aU _)),?_]
 let#[e,a,rfl,g,j,k,R,l,m]:=h;exists _,rfl,e,a,rfl,g,j,k,R;unfold yX;exists rfl,rfl;exists _,rfl,_,rfl,_,rfl;apply A5 ?_
 by_cases c:iF e a
 .have:=l c
  unfold iF at c;rw[FM c];show this
 .have:=m c
  unfold iF at c;rw[GE c];show this
end tQ
namespace L2
open PySem PySem.Spec PyProof.Rows
section
variable {K : ac}
def IB(F:FnOk P w K mg base (Az P w) k f fd ps^lj Z d):FnOk P w K mg base fJ k f fd ps (aR Z λa P=>d a P λ_=>False):=
 by
 apply#[λc H Q E h=>?_,λA outer s H b i c Q E j l m n h=>?_]
 .obtain⟨G,a,P,s,dv,h,q⟩:=h;show F.len c H Q (λ_ _ _=>False) #[G,a,P,λ_=>False,s,dv,h,q,λ_ z=>z.elim]
 .obtain⟨G,a,P,g,dv,h,q⟩:=h;apply adQ (F.run A outer s H b i c Q (λ_ _ _=>False) j l m n #[G,a,P,λ_=>False,g,dv,h,q,λ_ z=>z.elim]) λr g q=>?_;cases r with
  |error e=>let#[p,t,u,v,z]:=q;show z
  |ok o=>cases o<;>show q
end
end L2
namespace Wb
open PySem PySem.Spec PyProof.Rows
def JX{le:d->d->Prop}(tr:∀a b c,le a b->le b c->le a c)(e:∀a b,le a b\/le b a)(l:!d):∃f:!d,f.Perm l/\f.Pairwise le:=by
 classical
 apply#[l.mergeSort λa b=>AT (le a b),List.mergeSort_perm _ _,?_]
 have:=List.pairwise_mergeSort (le:=λa b=>AT (le a b)) (λa b c h k=>FM^tr a b c (KF h)^KF k) (λa b=>by simpa using e a b) l
 show this.imp λh=>KF h
def Jm(a b:!Nat):L2.iK a b\/L2.iK b a:=by
 unfold L2.iK;cases h:HT.lexLt (L2.ie b)^L2.ie a with
 |false=>show .inl rfl
 |true=>
  right
  cases k:HT.lexLt (L2.ie a)^L2.ie b with
  |false=>rfl
  |true=>have:=L2.Aq _ _ _ h k;rw[L2.wd] at this;cases this
def Jn(a b c:!Nat)(h:L2.iK a b)(k:L2.iK b c):L2.iK a c:=by
 unfold L2.iK at*;cases e:HT.lexLt (L2.ie c)^L2.ie a with
 |false=>rfl
 |true=>
  rcases L2.Jk _ (L2.ie b) _ e with z|z
  .rw[k] at z;cases z
  .rw[h] at z;cases z
def Mm(g:Good w):∃d,bZ w d/\(hZ d).Pairwise L2.iK:=by
 let#[f,l,srt]:=JX (le:=lexLe) (λ_ _ _=>Gn) Gm^bh w;have all:∀e,aP w e->e∈f:=λe h=>l.mem_iff.mpr^ba.mpr h;have j:∀e∈f,aP w e:=λe h=>ba.mp^l.mem_iff.mp h
 have m:∀i,i<=f.length->∃d,Wk w f i d:=λi=>by
  induction i with
  |zero=>show λ_=>#[[], .zero w f]
  |succ i n=>
   intro h;let#[d,k]:=n ()
   have e:=bT (show i<f.length by lia)
   by_cases c:f[i]∈d.flatten
   .show#[d,k.skip e c]
   .obtain⟨r,o⟩:=Xf g^j _^j5 (show i<f.length by lia)
    show#[_,k.take g all j srt e c o]
 let#[d,h]:=m f.length^bu _;let#[p,q,s]:=JX (le:=λa b:!(Nat×Nat)=>L2.iK (a.map (·.1))^b.map (·.1)) (λ_ _ _=>Jn _ _ _) (λ_ _=>Jm _ _) d;exists p,bZ.Jv #[h.rnd,h.fin g all] q;unfold hZ;rw[gX];show s
def HV{a b:Nat}(c:a<4)(d:b<4):Builtin.bitXor (a:Int) (b:Int)=((a^^^b:Nat):Int)/\a^^^b<4:=by
 have:∀a b:Fin 4,Builtin.bitXor (a.val:Int) (b.val:Int)=((a.val^^^b.val:Nat):Int)/\a.val^^^b.val<4:=by nofun
 show this #[a,c] #[b,d]
def cS:!Nat->Nat
 | []=>0
 |a::l=>a^^^cS l
def uU(h:l.Perm m):cS l=cS m:=by
 induction h with
 |nil=>rfl
 |cons a _ c=>unfold cS;rw[c]
 |swap a b l=>show b^^^(a^^^cS l)=a^^^(b^^^cS l);rw[<-pL,<-pL,af3 b a]
 |trans _ _ d e=>show d.trans e
theorem yI:∀(l m:!Nat),cS (l++m)=cS l^^^cS m
 | [],m=>by change cS m=0^^^cS m;rw[uY]
 |a::l,m=>by change a^^^cS (l++m)=a^^^cS l^^^cS m;rw[yI l m,pL]
theorem yJ(f g:b->Nat):∀l:!b,cS (l.map λx=>f x^^^g x)=cS (l.map f)^^^cS^l.map g
 | []=>by change 0=0^^^0;decide
 |a::l=>by
  change f a^^^g a^^^cS (l.map λx=>f x^^^g x)=f a^^^cS (l.map f)^^^(g a^^^cS^l.map g);rw[yJ f g l,pL,pL,<-pL^g a,<-pL^cS^l.map f,af3^g a]
def Kh(h:∀x∈l,x<4):cS l<4:=by
 induction l with
 |nil=>decide
 |cons a l b=>show(HV (h a (c5 ..)) (b λx c=>h x^eS _ c)).2
def eJ(a:!!(Nat×Nat))(b:!Nat)(t:Nat×Nat):Nat:=b.getD (dq a t) 0^^^b.getD (dq a (t.2,t.1)) 0
def ZY(a:!!(Nat×Nat))(b:!Nat)(p q:Nat):eJ a b (q,p)=eJ a b (p,q):=af3 _ _
def cY(p q:Nat):Nat×Nat:=(min p q,max p q)
def aav(p q:Nat):cY p q=(p,q)\/cY p q=(q,p):=by
 unfold cY
 rcases afc p q with h|h
 .left;rw[tN h,uW h]
 .right;rw[zP h,yS h]
def Be(a:!!(Nat×Nat))(b:!Nat)(p q:Nat):eJ a b^cY p q=eJ a b (p,q):=by
 rcases aav p q with h|h<;>rw[h]
 show ZY a b p q
def MD{r:!Nat}(c:r.Nodup):(r.map^e8 r).Perm r:=by
 have g:(r.map^e8 r).Nodup:=by
  unfold cv;rw[gX];show W1 (λ {a b} h d n e=>n^CA c h d e) c
 apply(xk g c).mpr λx=>#[λf=>?_,λf=>?_]
 .obtain⟨y,i,rfl⟩:=bS.mp f
  show CB i
 .obtain⟨b,d,e⟩:=T3 c f
  show bS.mpr #[b,d,e]
def Io(g:Good w)(L':jO w a)(b:!Nat)(p:Nat):cS ((row w p).map λq=>eJ a b (p,q))=0:=by
 have c:((row w p).map λq=>eJ a b (p,q))=(row w p).map λq=>b.getD (dq a (p,q)) 0^^^b.getD (dq a (p,e8 (row w p) q)) 0:=by
  apply zL λq e=>?_;have d:aP w (q,p):=g.sym p q e
  have:=L'.next d
  unfold qs at this;unfold eJ;rw[<-this]
 rw[c,yJ]
 have f:cS ((row w p).map λq=>b.getD (dq a (p,e8 (row w p) q)) 0)=cS ((row w p).map λq=>b.getD (dq a (p,q)) 0):=by
  have:=(MD^g.nod p).map λq=>b.getD (dq a (p,q)) 0
  rw[cQ] at this;show uU this
 rw[f,yU]
def fw(v:Nat×Nat->Nat)(p:Nat):!(Nat×Nat)->Nat:=λa=>cS^(a.filter λt=>AT (t.1=p\/t.2=p)).map v
def Cn(g:Good w)(j:c.Perm^cL (row w) w.length)(v:Nat×Nat->Nat)(p:Nat):fw v p c=cS ((row w p).map λq=>v^cY p q):=by
 have k:fw v p c=fw v p^cL (row w) w.length:=uU^(j.filter _).map _;rw[k,b7]
 have l:((((bh w).filter λd=>AT (d.1<d.2)).filter λt=>AT (t.1=p\/t.2=p))).Perm^(row w p).map^cY p:=by
  apply(xk (((dh g).filter _).filter _) ?_).mpr λt=>?_
  .unfold cv
   rw[gX];apply W1 (λ {a b} s u n e=>n ?_)^g.nod p;unfold cY at e;have m:=KB Prod.fst e;have o:=KB Prod.snd e;simp only at m o;lia
  .rw[kB,kB,ba,bS]
   constructor
   .rintro⟨⟨i,lt⟩,r⟩
    have lt:=KF lt
    rcases KF r with h|h
    .apply#[t.2,by have:aP w (t.1,t.2):=i;rw[h] at this;show this,?_]
     unfold cY;rw[<-h,tN (),uW ()]
    .apply#[t.1,by have:aP w (t.1,t.2):=i;have:=g.sym _ _ this;rw[h] at this;show this,?_]
     unfold cY;rw[<-h,zP (),yS ()]
   .rintro⟨q,f,rfl⟩
    have ne:p≠q:=iR g (show aP w (p,q) from f);unfold cY;apply#[#[?_,FM^by change min p q<max p q;lia],FM ?_]
    .rcases afc p q with h|h
     .rw[tN h,uW h];show f
     .rw[zP h,yS h];show g.sym p q f
    .change min p q=p\/max p q=p
     lia
 have:=uU^l.map v
 rw[cQ] at this;show this
def xor_zero(h:a^^^b=0):a=b:=by
 have:a^^^b^^^b=0^^^b:=by rw[h]
 rw[pL,yU,afd,uY] at this;show this
def Wx(h:cY p q=cY p a):q=a:=by
 unfold cY at h;have b:=KB Prod.fst h;have c:=KB Prod.snd h;simp only at b c;lia
theorem xf{f:Nat->Nat}:∀{r:!Nat},r.Nodup->p∈r->(∀q∈r,q≠p->f q=0)->cS^r.map f=f p
 |a::r,g,d,h=>by
  let#[i,g]:=pK.mp g;change f a^^^cS^r.map f=f p
  have zero:∀{r:!Nat},(∀q∈r,f q=0)->cS^r.map f=0:=λ {r}=>by
   induction r with
   |nil=>show λ_=>rfl
   |cons b r j=>
    intro h;change f b^^^cS^r.map f=0;rw[h b (c5 ..),j λq c=>h q^eS _ c];rfl
  rcases bQ.mp d with e|d
  .subst e
   rw[zero λq c=>h q (eS _ c) λz=>i^by rw[<-z];show c,afd]
  .rw[h a (c5 ..) λz=>i^by rw[z];show d,uY]
   show xf g d λq c=>h q^eS _ c
def Tr(w:W):!(Nat×Nat)->Prop
 | []=>True
 | (c,p)::l=>c≠0/\c∉l.map (·.1)/\(p=0\/p∈l.map (·.1))/\aP w (c,p)/\Tr w l
def yH(l:!(Nat×Nat)):!(Nat×Nat):=l.map λc=>cY c.1 c.2
theorem US(g:Good w):∀k,k+1<=w.length->∃l,l.length=k/\Tr w l
 |0,_=>#[[],Y,trivial]
 |k+1,h=>by
  let#[l,i,t]:=US g k ()
  obtain⟨q,j,o⟩:∃q,q<w.length/\q∉0::l.map (·.1):=by
   apply FS ?_;intro z
   have:=aY (rm (n:=w.length)) (m:=0::l.map (·.1)) λx p=>by
    apply FS ?_;show λy=>z #[x,gf.mp p,y]
   rw[jb,cF,aG] at this;lia
  have s:∀{a q},Reach w a q->a∈0::l.map (·.1)->q∈0::l.map (·.1)\/∃a b,a∈0::l.map (·.1)/\b∉0::l.map (·.1)/\b∈row w a:=λ {a q} r d=>by
   induction r with
   |refl=>show .inl d
   |step _ e u=>
    rcases u with h|h
    .show Classical.byCases (λc=> .inl c) λc=> .inr #[_,_,h,c,e]
    .show .inr h
  rcases s (g.con q j) (c5 ..) with h| ⟨a,b,d,f,e⟩
  .show absurd h o
  .rw[bQ,not_or] at f
   show#[(b,a)::l,by rw[cF,i],f.1,f.2,bQ.mp d,g.sym a b e,t]
theorem Tr.ends:∀{l:!(Nat×Nat)},Tr w l->∀{c q},cY c q∈yH l->c≠0->c∈l.map (·.1)
 | (a,p)::l,#[k,m,g,d,t],c,q,b,f=>by
  unfold yH at b;rw[b9,bQ] at b;rw[b9,bQ]
  rcases b with e|b
  .unfold cY at e
   have i:=KB Prod.fst e;have j:=KB Prod.snd e;simp only at i j
   have:c=a\/c=p:=()
   rcases this with h|h
   .show .inl h
   .subst h
    rcases g with h|h
    .show absurd h f
    .show .inr h
  .show .inr^Tr.ends t b f
theorem Tr.nodup:∀{l:!(Nat×Nat)},Tr w l->(yH l).Nodup
 | [],_=>ju
 | (a,p)::l,#[b,c,e,d,t]=>pK.mpr #[λz=>c^t.ends z b,t.nodup]
theorem Tr.UQ(g:Good w):∀{l:!(Nat×Nat)},Tr w l->∀t∈yH l,aP w t/\t.1<t.2
 | (a,p)::l,#[c,e,f,d,t],x,b=>by
  unfold yH at b;rw[b9,bQ] at b
  rcases b with rfl|b
  .have ne:a≠p:=iR g d
   change aP w^cY a p/\(cY a p).1<(cY a p).2;unfold cY
   rcases afc a p with h|h
   .rw[tN h,uW h];show#[d,by change a<p;lia]
   .rw[zP h,yS h];show#[g.sym _ _ d,by change p<a;lia]
  .show t.UQ g x b
theorem Tr.YU(g:Good w){u:Nat×Nat->Nat}(ev:∀p,p<w.length->cS ((row w p).map λq=>u^cY p q)=0):∀{l:!(Nat×Nat)},Tr w l->(∀p q,aP w (p,q)->cY p q∉yH l->u^cY p q=0)->∀p q,aP w (p,q)->u^cY p q=0
 | [],_,z,p,q,d=>z p q d (λh=>nomatch h)
 | (a,b)::l,#[i,j,s,d,t],z,p,q,k=>by
  have e:u^cY a b=0:=by
   rw[<-xf (f:=λq=>u^cY a q) (g.nod a) (show b∈row w a from d) λq o n=>z a q o λm=>?_]
   .show ev a^f7 d
   .unfold yH at m
    rw[b9,bQ] at m
    rcases m with m|m
    .show n^Wx m
    .show j^t.ends m i
  apply Tr.YU g ev t (λp q r n=>?_) p q k
  by_cases c:cY p q=cY a b
  .rw[c];show e
  .apply z p q r λm=>?_
   unfold yH at m;rw[b9,bQ] at m;show m.elim c n
def sU:Nat->!!Nat
 |0=> [[]]
 |k+1=>(sU k).flatMap λl=>(aj 4).map λx=>x::l
theorem m9:∀{k:Nat}{l:!Nat},l∈sU k↔l.length=k/\∀x∈l,x<4
 |0,l=>by
  unfold sU;rw[eO];show#[λh=>by subst h;show#[Y,λ_ h=>nomatch h],λh=>af6.mp h.1]
 |k+1,l=>by
  unfold sU;rw[afR]
  constructor
  .rintro⟨m,d,e⟩
   let#[x,f,rfl]:=bS.mp e;let#[a,b]:=m9.mp d;show#[by rw[cF,a],λy c=>(bQ.mp c).elim (λz=>by rw[z];show gf.mp f)^b y]
  .rintro⟨a,b⟩
   match l,a with
   |x::m,a=>show#[m,m9.mpr #[by simpa using a,λy c=>b y^eS _ c],bS.mpr #[x,gf.mpr^b x (c5 ..),Y]]
theorem zq:∀k,(sU k).Nodup
 |0=>by unfold sU;simp
 |k+1=>by
  unfold sU cv;rw[List.pairwise_flatMap];apply#[λl _=>?_,(zq k).imp λ {l m} n=>?_]
  .rw[gX]
   show rm.imp λn e=>n (afC e).1
  .intro a c b d e
   let#[x,_,rfl]:=bS.mp c;let#[y,_,rfl]:=bS.mp d;show n (afC e).2
def acC{c:Type} [DecidableEq c] {L':!c} (g:L'.Nodup) {f:c->c} (i:∀x∈L',f x∈L') (inj:∀x∈L',∀y∈L',f x=f y->x=y) {y:c} (j:y∈L'):∃x∈L',f x=y:=by
 have k:(L'.map f).Nodup:=by
  unfold cv;rw[gX];show W1 (λ {a b} l o n e=>n^inj a l b o e) g
 apply FS ?_;intro z
 have p:y∉L'.map f:=λh=>by
  let#[x,d,e]:=bS.mp h;show z #[x,d,e]
 have:=aY (pK.mpr #[p,k]) (m:=L') λx d=>by
  rcases bQ.mp d with rfl|d
  .show j
  .obtain⟨q,r,rfl⟩:=bS.mp d
   show i q r
 rw[cF,aG] at this;lia
def zp(g:Good w)(L':jO w b)(ne:b.length=1\/∀k,k<b.length->∃d,d∈b.getD k []){f c:!Nat}(u:f.length=b.length)(v:c.length=b.length)(l:f.getD 0 0=c.getD 0 0)
  (A:∀p q,aP w (p,q)->eJ b f^cY p q=eJ b c^cY p q):f=c:=by
 have same:∀k,k<b.length->f.getD k 0=c.getD k 0:=by
  rcases ne with y|side
  .intro k m
   obtain rfl:k=0:=()
   show l
  .intro k m
   let#[B,h]:=side 0 ()
   let#[d,n]:=side k m;let#[o,r]:=L'.at_ h;let#[Dk,s]:=L'.at_ n
   have:=AI g (A:=λd=>f.getD (dq b d) 0=c.getD (dq b d) 0) (λd j a=>by
    have e:=A d.1 d.2 j;rw[Be,Be] at e;unfold eJ at e;rw[show(d.1,d.2)=d from rfl,a] at e
    have:=KB (λx=>c.getD (dq b d) 0^^^x) e
    simp only[<-pL,yU,uY] at this;show this) (λd j a=>by rw[L'.next j];show a) o (by rw[r];show l) d Dk
   rw[s] at this;show this
 apply nN λi=>?_
 by_cases t:i<b.length
 .have:=same i t
  rw[cy,cy,bT (),bT ()] at this
  rw[bT (),bT ()]
  show KB J this
 .rw[eF (),eF ()]
theorem Iz{w:W}(g:Good w){i:!!(Nat×Nat)}(L':jO w i)(ne:i.length=1\/∀k,k<i.length->∃d,d∈i.getD k [])(l1:1<=w.length)(lz:1<=i.length){o:!(Nat×Nat)}(H:o.Perm^cL (row w) w.length)(pl:w.length+i.length=o.length+2)
  {v:Nat×Nat->Nat} (X:∀t,v t<4) (ev:∀p,p<w.length->cS ((row w p).map λq=>v^cY p q)=0) {f:Nat} (Y':f<4):∃j:!Nat,j.length=i.length/\(∀x∈j,x<4)/\j.getD 0 0=f/\∀t∈o,eJ i j t=v t:=by
 let#[l,ll,tr]:=US g (w.length-1) ()
 have Z:∀t∈o,aP w t/\t.1<t.2:=λt s=>by
  have:=H.mem_iff.mp s
  rw[b7,kB] at this;show#[ba.mp this.1,KF this.2]
 have dt:∀t,aP w t->t.1<t.2->t∈o:=λt I J'=>H.mem_iff.mpr^by rw[b7,kB];show#[ba.mpr I,FM J']
 have tm:∀t,t.1<t.2->cY t.1 t.2=t:=λt h=>by unfold cY;rw[tN (),uW ()]
 have mt:∀p q,aP w (p,q)->cY p q∈o:=λp q d=>by
  have n:p≠q:=iR g d;unfold cY
  rcases afc p q with h|h
  .rw[tN h,uW h];show dt _ d^by change p<q;lia
  .rw[zP h,yS h];show dt _ (g.sym _ _ d)^by change q<p;lia
 have Q:o.Nodup:=H.nodup_iff.mpr^by rw[b7];show(dh g).filter _
 obtain⟨N,R⟩:∃N:!(Nat×Nat),N=o.filter λt=>AT (t∉yH l):=#[_,Y];have E:∀t,t∈N↔t∈o/\t∉yH l:=λt=>by rw[R,kB,afq]
 have lN:N.length+(w.length-1)=o.length:=by
  have:(N++yH l).Perm o:=by
   apply(xk (je.mpr #[R▸Q.filter _,tr.nodup,λa M b O e=>?_]) Q).mpr λt=>?_
   .subst e;show((E a).mp M).2 O
   .rw[cM]
    constructor
    .rintro(h|h)
     .show((E t).mp h).1
     .show dt t (tr.UQ g t h).1 (tr.UQ g t h).2
    .intro h
     by_cases c:t∈yH l
     .show .inr c
     .show .inl^(E t).mpr #[h,c]
  have:=this.length_eq
  rw[dj] at this;have e:(yH l).length=l.length:=aG _;lia
 have r:∀{a b:Nat×Nat->Nat},(∀p,p<w.length->cS ((row w p).map λq=>a^cY p q)=0)->(∀p,p<w.length->cS ((row w p).map λq=>b^cY p q)=0)->(∀t∈N,a t=b t)->∀p q,aP w (p,q)->a^cY p q=b^cY p q:=λ {a b} M O hN p q d=>by
  apply xor_zero^tr.YU g (u:=λt=>a t^^^b t) (λp S=>?_) (λp q d n=>?_) p q d
  .rw[yJ,M p S,O p S];rfl
  .change a _^^^b _=0
   rw[hN _^(E _).mpr #[mt p q d,n],yU]
 have P:∀(j:!Nat) p,p<w.length->cS ((row w p).map λq=>eJ i j^cY p q)=0:=λj p _=>by
  have:((row w p).map λq=>eJ i j^cY p q)=(row w p).map λq=>eJ i j (p,q):=zL λq _=>Be i j p q
  rw[this];show Io g L' j p
 have T:∀{j:!Nat},(∀x∈j,x<4)->∀k,j.getD k 0<4:=λ {j} h k=>by
  rw[cy];cases e:j[k]? with
  |none=>show 0<4;decide
  |some x=>show h x^cG e
 have d4:∀{j:!Nat},(∀x∈j,x<4)->∀t,eJ i j t<4:=λ {j} h t=>(HV (T h _)^T h _).2
 have F:∀{m:!Nat},m∈sU (i.length-1)->(∀x∈(0::m),x<4)/\(0::m).length=i.length:=λ {m} B=>by
  let#[I,J']:=m9.mp B;show#[λx C=>(bQ.mp C).elim (λz=>by rw[z];decide)^J' x,by rw[cF,I];lia]
 have inj:∀m∈sU (i.length-1),∀G∈sU (i.length-1),N.map^eJ i (0::m)=N.map^eJ i (0::G)->m=G:=λm B G t6 e=>by
  have A:=r (P (0::m)) (P (0::G)) λt s=>afG.mp e t s;show(afC^zp g L' ne (F B).2 (F t6).2 rfl A).2
 let#[m,B,em]:=acC (zq (i.length-1)) (f:=λm=>N.map^eJ i (0::m)) (λm B=>m9.mpr #[by rw[aG];lia,λx C=>by let#[t,D,rfl]:=bS.mp C;show d4 (F B).1 t]) inj (y:=N.map v)^m9.mpr #[by rw[aG];lia,λx C=>by let#[t,D,rfl]:=bS.mp C;show X t]
 have A:=r (P (0::m)) ev λt s=>afG.mp em t s;let#[z,zl]:=F B;apply#[(0::m).map λx=>x^^^f,by rw[aG,zl],λx C=>?_,by change 0^^^f=f;show uY _,λt s=>?_]
 .obtain⟨y,hy,rfl⟩:=bS.mp C
  show(HV (z y hy) Y').2
 .obtain⟨d,lt⟩:=Z t s
  have:=A t.1 t.2 d
  rw[tm t lt] at this;rw[<-this]
  have U:∀k,k<i.length->((0::m).map λx=>x^^^f).getD k 0=(0::m).getD k 0^^^f:=λk hk=>by
   rw[cy,dF,bT (),cy,bT ()];rfl
  unfold eJ;rw[U _ (L'.num d).1,U _ (L'.num (d:=(t.2,t.1))^g.sym _ _ d).1];generalize (0::m).getD (dq i t) 0=a;generalize (0::m).getD (dq i (t.2,t.1)) 0=b;rw[pL,af3 b f,<-pL f,yU,uY]
end Wb
namespace PySem
namespace F
def Hu:la (.type "zip") "keys"=pure none:=am_miss_of_fast^by kernel_rfl
def xh:typeLookup (.type "zip") "__getattr__"=pure none:=by rw[agc,aeU];kernel_rfl
def pb:entryFor table "dict.update.loop"\Builtin.«dict.update.loop»:=entryFor_of_fast^by kernel_rfl
def iw:plainId "dict.update.loop"=true:=by nofun
def Dy:entryFor table "zip.__getattribute__"\Builtin.«object.__getattribute__»:=
 entryFor_alias (id':="object.__getattribute__") (by kernel_rfl) (by nofun) (by nofun)^by kernel_rfl
end F
def z8(a:Ad)(f:Array b_)(h:Array^Option b_)(b:fC)(u:Tok)(i:la (.type "zip") b=pure V)(e:(["__module__","__name__","__qualname__","__doc__","__annotations__"]:!fC).contains b=At)(j:b.length+100<=sizeLine):
  Meets (Builtin.«object.__getattribute__» #[[.ref a, .str b u],[]]) (λA R s=>s.heap.get? a\{cls:= .type "zip",dict:=V,data:= .fields f,slots:=h}/\raisesAttr (.ref a) b A R s):=
 Meets.of_wp λprog w A R s c=>by
  let#[k,g,d,l,os]:=s;let#[m,c]:=c;have n:(#[k,g,d,l,os]:c_).TypeIs (.ref a) "zip":=#[_,m,Y];delta Builtin.«object.__getattribute__»
  repeat (any_goals (first|assumption|wp_step))
  simp only[e,fA,Pi]
  repeat (any_goals (first|assumption|wp_step))
  show wpAny_raiseAttrError c.1 c.2^attrMsg_fits (by nofun) j
def Qs{s:c_} 
  (j:s.heap.get? a\{cls:= .type "zip",dict:=V,data:= .fields f,slots:=i}) (n:A.handled=V)
  (h:∀h' k,(∀b o,s.heap.get? b\o->h'.get? b\o)->Q V {s with heap:=h',toks:=k}):e_ (ei prog w) A (getAttr? (.ref a) "keys") Q E s:=by
 let#[p,g,d,k,os]:=s;have l:∀c,(#[p,g,d,c,os]:c_).TypeIs (.ref a) "zip":=λ_=>#[_,j,Y];have q:=sub_AttributeError;have r:=F.slot_zip_getattribute.lookup;have t:=F.slot_zip_getattribute.bind^.ref a;have u:=F.xh;unfold getAttr? getAttrBy? getAttrBy
 repeat (any_goals (first|assumption|exact l _| ((with_reducible show e_ _ _ (call (Value.builtin "zip.__getattribute__") _ _) _ _ _);refine ad0 F.slot_zip_getattribute (l _) F.Dy (F.args_zip_getattribute_2 _ _) (z8 a f i _ _ F.Hu (by nofun)^by nofun) #[j,n,λh' c e m=>?_]) |wp_step))
 let#[v,x,y]:=m.there;change e_ _ _ (getattributeRaised _ _ _ _ _ _ _) _ _ _;unfold getattributeRaised
 repeat (any_goals (first|assumption|wp_step))
 show h _ _ m.keeps
end PySem
namespace L2
open PySem PySem.Spec PyProof.Rows
structure ZQ where
 c:Ad
 p:Int×Int
 f:FV
 u:Value
def zE(L':!ZQ):!(Int×Ad):=L'.map λq=>(bw q.p,q.c)
theorem NW:∀(L':!ZQ),(∀q∈L',H q.c\(.tup [.int q.p.1, .int q.p.2]))->fP H (zE L')^L'.map (·.p)
 | [],_=> .nil
 |q::L',h=> .cons (h q (c5 ..)) (NW L' λx a=>h x^eS _ a)
theorem T6{ks:!(Int×Int)}(hu:B.units+1<cLine)(i:Inv X d m H s)(n:H c\(.tup [.int p.1, .int p.2]))(t:H a\(.ext^br a f g))(G:fP H f ks)(I:ks.Nodup)(J':p∉ks)(hz:ks.length<=300)(L':RelV (vF fv) r)
  (h:∀v h',Inv X d m (upd H a^.ext^br a (f++ [(bw p,c)]) (g++ [fv])) {s with heap:=h',toks:=v}->Heap.SameBut a s.heap h'->Q ⟨⟩ {s with heap:=h',toks:=v}):e_ (ei X.prog X.w) B (dictSet a (.ref c) r) Q E s:=by
 let#[z,j,l,M]:=i.Q7 t G I;apply wpAny_dictSet_heap (knd:=ix^fE X.prog X.w) (k:= [p.1,p.2]) (by change B.units<cLine;lia) (i.qE n) M (λh' y A=>?_)^small^by rw[l.len];lia
 have N:nP j [p.1,p.2]=none:=by
  cases e:nP j [p.1,p.2] with
  |none=>rfl
  |some q=>show absurd (nu.mp^by rw[<-l.keys];show jQ.mp^by rw[e];rfl) J'
 rw[storedH_new N] at y;rfl';have P:mP H (f++ [(bw p,c)]) (ks++ [p]) (g++ [fv]) (j++ [([p.1,p.2],c,r)]):=l.snoc n^FQ L';let#[C,R,S,F,T,U,Y',D,K]:=y;ac_rfl;show h _ _ (i.write (h':=h') (t':=s.toks+(ix^fE X.prog X.w).draws [p.1,p.2]) (x:=a) (e:=a) (o:= .ext^br a (f++ [(bw p,c)]) (g++ [fv])) (by rw[t];trivial) (.inl rfl) (λb u Z e=>A.extBut b u Z e) #[C,F]^br.ok #[z,C,R,S,F,T,U,by rw[Y'];show KY P]) A
section
variable {TI TO D : Ad}
theorem U5(P:B.handled=V)(hu:B.units+4<cLine)(N:jq z TI TO i1 i2 l1 l2)(r:∀b∈ [z,TI,TO,i1,i2,l1,l2],b<D)(t:H D=V)(v:∀b∈ [z,TO,i1,i2,TI],eX X pins H b)
  (y:∀q∈L',H q.c\(.tup [.int q.p.1, .int q.p.2])/\RelV (vF q.f) q.u) (i:(L'.map (·.p)).Nodup) (hl:L'.length<=300)
  (Q:∀C,Inv X pins σ (upd H D^.ext^br D (zE L')^L'.map (·.f)) C->R (.ok^.ret d) C):
  ∀(M A:!ZQ)(s:c_),A++M=L'->Inv X pins σ (upd H D^.ext^br D (zE A)^A.map (·.f)) s->ZS z TI TO i1 i2 l1 l2 D (L'.map λq=>Value.ref q.c).toArray (L'.map (·.u)).toArray A.length s.heap->
   g6 (ei X.prog X.w) B (.builtin "dict.update.loop" #[[.ref D, .ref z,lp A.length,d],[]]) R s:=by
 have nD:∀b∈ [z,TO,i1,i2,TI],b≠D:=λb a=>bP^r b^by simp only[bQ,zN,aeI] at a ⊢;rcases a with h|h|h|h|h<;>simp[h]
 have E:∀o,∀b∈ [z,TO,i1,i2,TI],eX X pins (upd H D o) b:=λo b a=>#[by rw[ao^nD b a];show(v b a).1,(v b a).2]
 intro M
 induction M with
 |nil=>
  intro A s e I st;rw[fB] at e;subst e;apply adU PySem.F.pb ?_;rw[adM PySem.F.iw _];change e_ _ B.in1 (ni^.ref z>>=_) _ _ _;apply a_ (Kn (A:=B.in1) P N st (.inl^by simp) λh' j=>?_)
  show a_^ir^ir^Q _ (I.nM (t':=s.toks) (E _) λb o a q=>j b o (λz=>a^by simp[z]) (λz=>a^by simp[z]) (λz=>a^by simp[z]) (λz=>a^by simp[z]) q)
 |cons q M S=>
  intro A s e I st;have g:=y q^by rw[<-e];simp
  have G:L'[A.length]?\q:=by rw[<-e,ko^bu _,tO];rfl
  have k:((L'.map λq=>Value.ref q.c).toArray)[A.length]?\(.ref q.c):=by simp[G]
  have U:((L'.map (·.u)).toArray)[A.length]?\q.u:=by simp[G]
  have l:D<s.heap.objs.size:=by
   let#[_,o,_,_,Y',_]:=(I.hok D _ ah).1;show Da Y'
  apply adU PySem.F.pb ?_;rw[adM PySem.F.iw _];change e_ _ B.in1 (ni^.ref z>>=_) _ _ _;apply a_ (Ko (A:=B.in1) N st l k U λh' Z J' _ j=>?_);have I1:=I.nM (h':=h') (t':=s.toks) (E _) λb o a q=>j b o (λz=>a^by simp[z]) (λz=>a^by simp[z]) (λz=>a^by simp[z]) (λz=>a^by simp[z]) q
  apply a_^IR ?_;apply a_^wpAny_tryCatch ?_;change e_ _ _ (typeOf^.ref s.heap.objs.size>>=_) _ _ _;apply a_^ae0 (T:="tuple") #[_,J',Y] ?_;rw[mo ∅]
  apply a_^aee J' rfl^ir ?_;change e_ _ _ (im [.ref q.c,q.u]^dictSet D (.ref q.c) q.u) _ _ _;have cD:D≠q.c:=λz=>by rw[<-z,t] at g;cases g.1
  have sub:A.Sublist L':=by rw[<-e];show List.sublist_append_left ..
  have al:=sub.length_le
  have np:q.p∉A.map (·.p):=λm=>by
   rw[<-e,cn,b9,je] at i;show i.2.2 q.p m q.p (c5 ..) rfl
  apply IR (T6 (ks:=A.map (·.p)) (by change B.units+1+1<cLine;lia) I1 (by rw[ao^Ne.symm cD];show g.1) ah (NW A λx k=>by
   have n:=(y x^sub.subset k).1;rw[ao^λz=>by rw[z,t] at n;cases n];show n) (i.sublist^sub.map _) np (by rw[aG];lia) g.2 λtk h2 O sb=>?_)
  have eu:upd (upd H D^.ext^br D (zE A)^A.map (·.f)) D^.ext^br D (zE A++ [(bw q.p,q.c)]) (A.map (·.f)++ [q.f])=upd H D^.ext^br D (zE (A++ [q]))^(A++ [q]).map (·.f):=by
   rw[q0];unfold zE;rw[cn,cn];rfl
  rw[eu] at O
  have:=S (A++ [q]) _ (by rw[kz];show e) O^by rw[dj];show Z.keep (λb o a e=>sb.extBut b o a e) r
  rw[dj] at this;show ir #[ad2 PySem.F.iw _,this]
end
section
variable {TI TO : Ad}
def U4{s:c_}(k:X.A.handled=V)(Z:X.A.units+64<cLine)(I:Inv X pins σ H s)(N:jq z TI TO i1 i2 l1 l2)(st:∀S,ZS z TI TO i1 i2 l1 l2 S (L'.map λq=>Value.ref q.c).toArray (L'.map (·.u)).toArray 0 s.heap)
  (n:IsZip s.heap z TI TO .none) (l:∀b∈ [z,TI,TO,i1,i2,l1,l2],b<s.heap.objs.size) (r:∀b∈ [z,TO,i1,i2,TI],eX X pins H b)
  (t:∀q∈L',H q.c\(.tup [.int q.p.1, .int q.p.2])/\RelV (vF q.f) q.u) (v:(L'.map (·.p)).Nodup) (x:L'.length<=300)
  (y:∀h,H s.heap.objs.size=V->Inv X pins σ (upd H s.heap.objs.size^.ext^br s.heap.objs.size (zE L')^L'.map (·.f)) h->Q (.ref s.heap.objs.size) h):e_ (ei X.prog X.w) X.A (call (.type "dict") [.ref z]) Q E s:=by
 apply callType_codes (Q₁:=λobj d=>obj= .ref s.heap.objs.size/\d={s with heap:=s.heap.push {cls:= .type "dict",data:= .dict #[]}}) F.kt_called_dict (F.kt_typeCall_dict_1 _) F.entry_dict_init (kt_code_dict_new _ #[Y,Y]) ?_
 rintro obj d ⟨rfl,rfl⟩;have g:H s.heap.objs.size=none:=I.hok.fresh^bu _
 have C:(s.heap.objs.size==jk)=false:=by
  have G:f5<s.heap.objs.size:=(I.mod.glob.keeps I.bk).lt;have J':jk<s.heap.objs.size:=agC ∅ G
  show Wp.mpr^Ne.symm^bP J'
 have M:=I.laid (h':=s.heap.push {cls:= .type "dict",data:= .dict #[]}) (a:=s.heap.objs.size) (t':=s.toks) (λ_ _ q=>AC _ q) (bu _) (o:= .ext^br s.heap.objs.size [] [])^br.ok #[C,_, #[],0,GM _ rfl,#[Y,Y,Y],Y, .nil];have m:({s with heap:=s.heap.push {cls:= .type "dict",data:= .dict #[]}}:c_).TypeIs (.ref s.heap.objs.size) "dict":=#[_,GM _ rfl,Y]
 have i:IsZip (s.heap.push {cls:= .type "dict",data:= .dict #[]}) z TI TO .none:=AC _ n;exists m,F.args_dict_init_2 _ _;unfold Builtin.«dict.__init__»;apply a_ ?_;unfold Builtin.Dict.selfAndRest;apply a_^wpAny_notOrdered_dict m ?_;change e_ _ _ (pure (s.heap.objs.size,[Value.ref z])) _ _ _;apply ir ?_;change e_ _ _ (Builtin.Dict.updateFrom "dict.__init__" s.heap.objs.size (.ref z) [] .none) _ _ _;unfold Builtin.Dict.updateFrom;apply a_^ae0 (T:="zip") #[_,i,Y] ?_;rw[mo ∅]
 apply a_ (Qs (s:={s with heap:=s.heap.push {cls:= .type "dict",data:= .dict #[]}}) i k λh' O j=>?_)
 simp only[Option.isNone_none,adW];apply a_^adZ ?_;have P:IsZip h' z TI TO .none:=j _ _ i;apply a_^aeJ P ?_;have R:=M.kept (h':=h') (t':=O) j;have U:=(st s.heap.objs.size).keep (h':=h') (λb o _ e=>j _ _^AC _ e) l;apply ir #[ad2 PySem.F.iw _,?_];show U5 (B:=X.A.in1) k (by change X.A.units+1+4<cLine;lia) N l g r t v x (λh Y'=>#[Y,y h g Y']) L' [] _ rfl R U
end
theorem U9:∀{g:!(Int×Ad)}{j:!(Int×Int)},fP H g j->∀{fs:!FV}{k d:!Value},fs.length=j.length->Vals (fs.map vF) k->Vals (g.map λe=>V'.ref e.2) d->
  ∃L':!ZQ,zE L'=g/\L'.map (·.p)=j/\L'.map (·.f)=fs/\(L'.map (·.u))=k/\(L'.map λq=>Value.ref q.c)=d/\∀q∈L',H q.c\(.tup [.int q.p.1, .int q.p.2])/\RelV (vF q.f) q.u:=by
 intro g j h;induction h with
 |nil=>
  intro f _ _ o a b;cases f with
  |nil=>cases a;cases b;show#[[],Y,Y,Y,Y,Y,λ_ h=>nomatch h]
  |cons=>cases o
 | @cons c p g j h t U9=>
  intro f _ _ o a b;cases f with
  |nil=>cases o
  |cons f fs=>
  cases a with| @cons _ u _ k r a=>
  cases b with| @cons _ i _ d l b=>
  let#[L',n,s,v,w,x,y]:=U9 (~~~o) a b
  have l:i= .ref c:=l;subst l;apply#[#[c,p,f,u]::L',?_,?_,?_,?_,?_,λq m=>?_]
  .unfold zE at n ⊢;rw[b9,n]
  .rw[b9,s]
  .rw[b9,v]
  .rw[b9,w]
  .rw[b9,x]
  .rcases bQ.mp m with rfl|m
   .show#[h,r]
   .show y q m
section
def Qe(K:ac)(g:TA):TE:=λh H Q=>g h H λi a=>∃d f c b fs,i= [.ref d, .ref f]/\aK K a d (c.map λe:Int×Ad=>V'.ref e.2)/\aK K a f^fs.map vF/\fP a c b/\b.Nodup/\fs.length=b.length/\b.length<=300/\
 ∀D,a D=V->Q (.ref D)^upd a D^.ext^br D c fs
def JB(J':X.A.units+64<cLine)(M:X.calm=L)(N:Gl X "dict")(O:X.mg "dict"=V)(P:Gl X "zip")(R:X.mg "zip"=V)(T:PA X [a,b] x)
  (y:d_ [.Call (.Name "zip" f) [a,b] [] k] X.env=(At,gj (.Call (.Name "zip" f) [a,b] [] k) X.env)::d_ [] X.env<|>zn) (U:eB g [] X.env<|>zn)
  (Y':d_ [a,b] X.env= [(At,gj a X.env),(At,gj b X.env)]<|>zn) (B:d_ [b] X.env= [(At,gj b X.env)]<|>zn):
  PE X (.Call (.Name "dict" p) [.Call (.Name "zip" f) [a,b] [] k] [] g)^Qe X.K x:=by
 intro i s Z H Q I h;apply adv^iu I N O (show gl "dict"\(.type "dict") by nofun) ?_
 apply PP ?_ y U;rw[y];change e_ _ _ (spliced ((At,gj _ X.env)::gM g^d_ [] X.env)) _ _ s;apply afp ?_;apply Call_^iu I P R (show gl "zip"\(.type "zip") by nofun)^PP (thn (T k i s Z H _ I h) λus c hH=>?_) (by rw[Y',B])^by rw[B];rfl
 let#[vs,H1,j,r1,q1]:=hH
 rfl';let#[l,m,es,ks,fs,e,pU,oh,pe,nd,fl,C,q]:=q1;subst e;let#[u1,u2,rfl,Mp,Mq]:=r1.two;subst Mp;subst Mq;let#[NL,GQ,r,vX]:=j.list pU;let#[mZ,GR,f,xY]:=j.list oh;let#[L',e1,e2,e3,e4,e5,e6]:=U9 pe fl GR GQ;subst e1 e2 e3 e4 e5;have t:l<c.heap.objs.size:=by let#[o,u,V']:=r.isList;show Da u
 have v:m<c.heap.objs.size:=by let#[o,u,V']:=f.isList;show Da u
 ac_rfl;apply call_zip_2 r.isList f.isList λE F og pQ h1 h2 dZ w=>?_;apply afD ?_;have D:=CT c.heap.objs.size l m t v;have m1:=r.isList.at λo e=>w l o e;have m2:=f.isList.at λo e=>w m o e
 have G:∀b∈ [c.heap.objs.size+4,c.heap.objs.size+3,c.heap.objs.size,c.heap.objs.size+1,c.heap.objs.size+2],c.heap.objs.size<=b:=λb d=>by
  generalize c.heap.objs.size=n at d;simp only[bQ,zN,aeI] at d
  rcases d with z|z|z|z|z<;>(rw[z];change n<=_;lia)
 apply U4 (s:={c with heap:=E}) (I.ok.hd M) J' (j.kept (t':=c.toks) w) D (λS=>#[og,h1,h2,m1,m2, .inl #[F,_,_,pQ]]) F (λb d=>?_) (λb d=>?_) e6 nd (by rw[aG] at C;show C) λs' hD I'=>?_
 .change b<E.objs.size
  rw[dZ];generalize c.heap.objs.size=n at d t v;simp only[bQ,zN,aeI] at d;change b<n+5
  rcases d with z|z|z|z|z|z|z<;>rw[z]
  .change n+4<n+5;lia
  .change n+2<n+5;lia
  .change n+3<n+5;lia
  .change n<n+5;lia
  .change n+1<n+5;lia
  .change l<n+5;show cZ t ()
  .change m<n+5;show cZ v ()
 .show j.IC (G b d)^j.hok.fresh^G b d
 .show#[.ref _,_,I',Y,q _ hD]
def OH(t:gF):bb:=λb P=>t b λc=>∃(a:!(Int×Int))(fs:!FV),c= [.lst^a.map B6, .lst^fs.map K2]/\a.Nodup/\fs.length=a.length/\a.length<=300/\P^.x^.dH a fs
theorem Nu:∀{a:!(Int×Int)}{d:!V'},DvAll Z G d^a.map B6->∃b,fP G b a/\d=b.map λe:Int×Ad=>V'.ref e.2
 | [],_,h=>by cases h;show#[[], .nil,Y]
 |p::a,_,h=>by
  cases h with
  |cons f g=>
   let#[c,rfl,i]:=f.BO;let#[b,j,rfl]:=Nu g;show#[_, .cons i j,Y]
theorem Nt:∀{fs:!FV}{a:!V'},DvAll Z G a^fs.map K2->a=fs.map vF
 | [],_,h=>by cases h;rfl
 |f::fs,_,h=>by
  cases h with
  |cons b c=>rw[b.Tn,Nt c];rfl
def p7(m:X.A.units+64<cLine)(n:X.calm=L)(o:Gl X "dict")(r:X.mg "dict"=V)(u:Gl X "zip")(v:X.mg "zip"=V)(w:DA Z X [a,b] t)
  (y:d_ [.Call (.Name "zip" e) [a,b] [] f] X.env=(At,gj (.Call (.Name "zip" e) [a,b] [] f) X.env)::d_ [] X.env<|>zn) (B:eB d [] X.env<|>zn)
  (C:d_ [a,b] X.env= [(At,gj a X.env),(At,gj b X.env)]<|>zn) (E:d_ [b] X.env= [(At,gj b X.env)]<|>zn):
  DE Z X (.Call (.Name "dict" p) [.Call (.Name "zip" e) [a,b] [] f] [] d)^OH t:=by
 apply(JB m n o r u v w y B C E).imp ?_;rintro σ H Q ⟨G,F,P,s,I,h,q⟩;apply#[G,F,_,s,I,h,λds g vs J' H1 c dv=>?_];rfl';let#[M,fs,rfl,i,N,O,g]:=g;let#[v1,v2,rfl,R,S]:=dv.mz;let#[T,xs,rfl,U,Y']:=R.ft;let#[a2,ys,rfl,k2,f2]:=S.ft;let#[j,k,rfl]:=Nu Y';obtain rfl:=Nt f2;ac_rfl;apply#[T,a2,j,M,fs,Y,aK.of^c.sub _ _ U,aK.of^c.sub _ _ k2,k.mono c.sub,i,N,O,λD l=>?_];have gD:J' D=none:=c.sub.free l;show q _ g _ _ _ (c.trans^.new c.sub l)^.x ah #[i,j,Y,k.mono^az gD _]
end
section
def NJ:Ze X .BitXor^ipI Builtin.bitXor:=by
 intro a s g H x y v u Q I b c h;let#[i,j,d,f,q]:=h;subst d;subst f;let#[t,rfl]:=b;let#[l,rfl]:=c;show ixor_int #[.int _,H,I.tok _,#[_,Y],q]
end
section
variable {md : !Nat}
def S8(h:k≠i):(md.set i 0).getD k 0=md.getD k 0:=by rw[cy,cy,kr^Ne.symm h]
def Ww:(md.set i 0).getD i 0=0:=by
 by_cases h:i<md.length
 .rw[cy,l9 h];rfl
 .rw[cy,eF^by rw[fI];lia];rfl
end
section
def OJ(i:Nat)(t:cW):cW:=λE a=>(∃d,a[i]?\(J d))/\t {nx:=λa=>E.nx^a.set i V,rt:=E.rt,xc:=λa d=>E.xc (a.set i V) d} a
def SIx.Q8(S:SIx Z B (md.set i 0) a b H G c):SIx Z B md (a.set i V) b H G c:=by
 apply#[S.ex,S.fl,by rw[fI];show S.len,λk d e=>?_,S.nd,S.ap,S.nw]
 by_cases z:k=i
 .subst z
  rw[kA] at e
  split at e<;>first| (split at e<;>cases e) |exact absurd rfl ‹_›
 .rw[kr^Ne.symm z] at e
  have:=S.at_ k d e
  rw[S8 z] at this;show this
def FK(i:Nat)(h:mO Z X (md.set i 0) rn m t):mO Z X md rn m^OJ i t:=by
 apply kE.imp h ?_;intro C f H o;rfl';obtain⟨B,k,E,⟨G,g,S⟩,⟨⟨d,n⟩,q⟩,M⟩:=o;let#[v,r,dv,b]:=S.N0 n;ac_rfl;apply#[B,k,_,#[_,_,#[b.ex,b.fl,S.len,λj c l=>?_,b.nd,b.ap,b.nw]],q,#[λk h f H #[G,g,s]=>M.nx _ h f H #[G,g,s.Q8],M.rt,λ_ z=>z.elim,λ_ z=>z.elim,λk d h f w x g a s dv=>M.xc _ d h f w x g a s.Q8 dv]]
 by_cases e:j=i
 .subst e
  rw[n] at l;cases Do l;exists v,r;rw[Ww,mo rfl];show#[dv,Y]
 .obtain⟨u,y,A⟩:=b.at_ j c^by rw[kr^Ne.symm e];show l
  exists u,y;rw[S8 e];show A
end
end L2
namespace tQ
open PySem L2 Wb
variable {P:Program} {w:World} {mg:Str->Option Value} {base:Heap} {Z:DC} (T:Txt Z mg)
def Tu(a:!D):Prop:=∃d,a= [d]
def DV:FnOk P w Z.K mg base fJ 2 T.yd.f T.yd.fd ["self","counted"]^Mx Z T.vo ["counted"] Tu:=by
 have C:=ji.nd;apply T.yd.F.ok ji (λl H Q E h=>?_)^λI A outer s H l Q E J' h=>?_
 .obtain⟨a,n,G,p,rfl,_,_,_,dv,_,r,_⟩:=h
  have:=dv.length
  simp at r ⊢;lia
 obtain⟨a,n,G,p,rfl,g,t,j,dv,⟨d,rfl⟩,_,q⟩:=h;let#[y,rfl,u]:=dv.ofOne;exists _,aI (dD^EY rfl T.xb.m T.xb.sg T.xb.rd T.xb.fc^ar (pv 0)^ar GJ aC)^bH^JF (pv 0) (pv 1) rfl;exists _,rfl,a,T.vo,V,_,rfl,g,T.yb.obj;apply#[_,Y,_,Y,a,T.vo,[],Y,T.yb.cls,T.ye, .inl #[Y,g,λi b=>?_]];have v:a≠i:=av g b;have k:G i=none:=j.free b;apply q i [y] G _ (.refl _) (λc o e=>?_) (λc o x e=>?_) (λc _ B=>B) ?_ b ah k^.cons u .nil
 .rw[ao^av e k,ao^av e t];show j _ _ e
 .rw[ao^av e b,ao x];show e
 .rw[ao v,ah]
def Tt:FnOk P w Z.K mg base fJ 2 T.yg.f T.yg.fd ["self","point"]^Mx Z T.y4 ["point"] Tu:=by
 have C:=nA.nd;apply T.yg.F.ok nA (λl H Q E h=>?_)^λI A outer s H l Q E J' h=>?_
 .obtain⟨a,n,G,p,rfl,_,_,_,dv,_,r,_⟩:=h
  have:=dv.length
  simp at r ⊢;lia
 obtain⟨a,n,G,p,rfl,g,t,j,dv,⟨d,rfl⟩,_,q⟩:=h;let#[y,rfl,u]:=dv.ofOne;exists _,aI (dD^EY rfl T.xb.m T.xb.sg T.xb.rd T.xb.fc^ar (pv 0)^ar GJ aC)^bH^JF (pv 0) (pv 1) rfl;exists _,rfl,a,T.y4,V,_,rfl,g,T.yc.obj;apply#[_,Y,_,Y,a,T.y4,[],Y,T.yc.cls,T.yh, .inl #[Y,g,λi b=>?_]];have v:a≠i:=av g b;have k:G i=none:=j.free b;apply q i [y] G _ (.refl _) (λc o e=>?_) (λc o x e=>?_) (λc _ B=>B) ?_ b ah k^.cons u .nil
 .rw[ao^av e k,ao^av e t];show j _ _ e
 .rw[ao^av e b,ao x];show e
 .rw[ao v,ah]
def Fd(c:Ad):Fo:=λb P R=>∃(w:W)(a:!!(Nat×Nat)),b= [.gB w]/\Good w/\1<=w.length/\w.length<=14/\RS w a/\(iF w a->P .aT)/\(¬iF w a->R^.err c ["counted"] [yX w a])
def pj:Dx P w base 6 T.u6^lj Z^Fd T.vo:=by
 have n:=qV.nd;apply xP T.u6.F qV [0] ∅ (λj R k h=>by let#[q,r,rfl,t]:=h;rfl)^λo A outer s H E j R k b h=>?_
 have p:=b.units;exists _,(aw^cT (kI^ik^aB T.u5 (GD T) b^ae (aa 0) ag) (aw^Bd rfl T.yd (DV T) b T.yb T.vp^ae (aB T.u4 (EX T) b^ae (aa 0) ag) ag) bq);let#[d,a,rfl,g,e,f,i,l,m]:=h;apply#[_,Y,d,a,Y,g,e,f,i,λc=>#[Y,c8^l c],λc=>#[Y,cX ?_]];show#[_,Y,d,a,Y,g,e,f,i,#[_,Y],Y,m c]
def BZ:Dk P w base 6 T.u6 (aR Z λa P=>Fd T.vo a P λ_=>False):=IB^pj T
def VP{a:!Nat}(h:∀x∈a,x<4)(k:Nat):a.getD k 0<4:=by
 rw[cy];cases e:a[k]? with
 |none=>show 0<4;decide
 |some x=>show h x^cG e
def Rk(h:∀x∈b,x<4)(a:!!(Nat×Nat))(t:Nat×Nat):Builtin.bitXor (b.getD (dq a t) 0:Int) (b.getD (dq a (t.2,t.1)) 0:Int)=(eJ a b t:Int)/\eJ a b t<4:=HV (VP h _)^VP h _
variable {P:Program} {w:World} {mg:Str->Option Value} {base:Heap} {Z:DC} (T:Txt Z mg)
def wb{n p:Nat}(h:p<n):lQ n (p:Int)\p:=by
 unfold lQ;rw[mo (),mo ()]
 show KB J ()
def P4(v:Nat×Nat->Nat)(p:Nat)(a:!(Nat×Nat))(u:Nat×Nat):fw v p (a++ [u])=fw v p a^^^if u.1=p\/u.2=p then v u else 0:=by
 unfold fw;rw[List.filter_append,cn,yI]
 congr 1
 by_cases h:u.1=p\/u.2=p
 .rw[yP,mo^FM h,mo h];change v u^^^0=v u;show afd _
 .rw[yP,tz^~~~h,tz h];rfl
def uN(v:Nat×Nat->Nat)(n:Nat)(a:!(Nat×Nat)):!Nat:=(aj n).map λp=>fw v p a
def wX(h:p<n):(uN v n a)[p]?\(fw v p a):=by unfold uN;rw[dF,xq h];rfl
def P2(f:u.1<n)(g:u.2<n)(ne:u.1≠u.2):((uN v n a).set u.1 (fw v u.1 a^^^v u)).set u.2 (fw v u.2 a^^^v u)=uN v n (a++ [u]):=by
 apply nN λp=>?_;have d:(uN v n a).length=n:=by unfold uN;rw[aG,jb]
 by_cases e:p<n
 .rw[wX e,P4,kA]
  by_cases b:u.2=p
  .rw[mo b,mo^by rw[fI,d];show g,mo^.inr b,b]
  .rw[tz b,kA]
   by_cases c:u.1=p
   .rw[mo c,mo^by rw[d];show f,mo^.inl c,c]
   .rw[tz c,wX e,tz^λz=>z.elim c b,afd]
 .rw[eF^by rw[fI,fI,d];lia,eF^by unfold uN;rw[aG,jb];lia]
def Uy(c:Ad):Fo:=λb P R=>∃(w:W)(a:!(Nat×Nat))(v:Nat×Nat->Nat),b= [.gB w,aD^a.map v]/\Good w/\w.length<=14/\a.Perm^cL (row w) w.length/\a.Pairwise lexLe/\(∀t,v t<4)/\(∀p,p<w.length->fw v p a≠0->(∀m,m<p->fw v m a=0)->R^.err c ["point"] [ax p])/\((∀p,p<w.length->fw v p a=0)->P .aT)
def qw:Dx P w base 4 T.uh^lj Z^Uy T.y4:=by
 have i:=tG.nd;apply xP T.uh.F tG [0,0,1,0,0,0,0,0] ∅ (λds R Rx h=>by let#[_,_,_,rfl,_]:=h;rfl)^λaZ A outer s H E ds R Rx l h=>?_
 have n:=l.units
 apply#[_,(aq (mV 2 (NC:= ["p"]) (src:= [V]) rfl i (pZ^au kN) trivial (Ba rfl T.B.range^ae (gK T.W (aa 0) T.va.m (oG T) (l.mono ∅) T.va.b) ag) (λ_ _ _=>(bC 0 (show(["p"]:!fC).Nodup from by nofun))) (λ_ _ _=>dQ)^λ_ _ _=>aL)
   (aq (cz rfl aeA (VE rfl T.B.zip^ae (gK T.W (aa 0) T.vc.m (gP T) (l.mono ∅) T.vc.b)^ae (aa 1) ag) (dY 2 rfl^aM (dY 2 rfl^aM (aJ 3 i)^aM (aJ 4 i) bU)^aM (aJ 5 i) bU)^aq (Eg 2 (aa 3) NJ^aa 5)
   (aw^Eg 2 (aa 4) NJ^aa 5))
   (FK 2
   (aw^cz rfl aeA (fg rfl T.B.enumerate^ae (aa 2) ag) (dY 2 rfl^aM (aJ 6 i)^aM (aJ 7 i) bU)^aw^cT (bB (qt n) (aa 7) aL^aU _) (aw^Bd rfl T.yg (Tt T) l T.yc T.y5^ae (aa 6) ag) bq)))),?_]
 let#[a,f,v,rfl,g,z5,X,srt,I,q1,q2]:=h;apply#[_,Y,a,Y,a,Y,#[(),()],?_]
 apply(?_:lcW _ _ _ (gU 0 (a.length:Int).toNat) _ _ _);rw[lH,Mh];apply rR (ρ:= [V]) ax (λ_=> .int 0) (aj a.length) _ (λy hy Y' h=>h) rfl (small^by rw[jb];lia) λaH=>?_
 apply#[_,Y,a,Y,a,Y,g,z5,λd wz pF=>#[_,Y,?_]];obtain rfl:d=f:=adV (λ_ _ _ _=>kP) pF srt^wz.trans X.symm;apply(?_:hV _ _ _ (zG (d.map pairD)^(d.map v).map ax) _)
 have ez:zG (d.map pairD)^(d.map v).map ax=d.map λt=> .tup [pairD t,ax^v t]:=by
  unfold zG;rw[cQ,List.zipWith_map,List.zipWith_self];rfl
 rw[ez];have o:∀f,((uN v a.length f).map ax).length=a.length:=λf=>by unfold uN;rw[aG,aG,jb]
 have s4:∀p f,fw v p f<4:=λp f=>Kh λx k=>by let#[t,z,rfl]:=bS.mp k;show I t
 apply bK (λj ρ=>∃q r C,ρ= [J^.gB a,J^aD^d.map v,J^aD^uN v a.length^d.take j,q,r,C,V,V]) #[V,V,V,?_] ?_ ?_
 .show[_,_,J^D.lst ((aj a.length).map λ_=>D.int 0),_,_,_,_,_]=_
  have e0:((aj a.length).map λ_=>D.int 0)=(uN v a.length []).map ax:=by unfold uN;rw[cQ];rfl
  rw[e0];rfl
 .rintro j _ _ J' ⟨q,r,C,rfl⟩ A L'
  let#[u,n,rfl]:=cH J';have M:aP a u:=uP^X.mem_iff.mp^cG n;have N:u.1<a.length:=f7 M;have O:u.2<a.length:=g.rng _ _ M;have ne:=iR g M;have sR:d.take (j+1)=d.take j++ [u]:=by rw[rk,n];rfl
  have e1:=(HV (s4 u.1^d.take j)^I u).1;have e2:=(HV (s4 u.2^d.take j)^I u).1;have gt:∀p,p<a.length->((uN v a.length^d.take j).map ax)[p]?\(.int (fw v p^d.take j:Int)):=λp Q=>by rw[dF,wX Q];rfl
  exists rfl,rfl,rfl,rfl;apply#[_,Y,_,Y,_,u.1,_,Y,wb^by rw[o];show N,gt _ N,_,Y,_,Y,?_]
  apply#[_,Y,_,Y,_,u.2,_,Y,wb^by rw[fI,o];show O,(kr ne).trans^gt _ O,_,Y,_,Y,L' _ #[J^ax u.1,J^ax u.2,J^ax^v u,?_]]
  show[_,_,J^D.lst^(((uN v a.length^d.take j).map ax).set u.1^D.int^Builtin.bitXor (fw v u.1^d.take j:Int) (v u:Int)).set u.2^D.int^Builtin.bitXor (fw v u.2^d.take j:Int) (v u:Int),_,_,_,_,_]=_;rw[e1,e2,sR,<-P2 N O ne];unfold aD;rw[ae9,ae9];rfl
 .rintro _ ⟨q,r,C,rfl⟩
  rw[aG,xw];exists #[_,Y];exists _,rfl;apply bK (λj ρ=>(∀m,m<j->fw v m d=0)/\∃S U,ρ= [J^.gB a,J^aD^d.map v,J^aD^uN v a.length d,q,r,C,S,U]) #[λm h=>by lia,V,V,Y] ?_ ?_
  .rintro j _ _ J' ⟨G,S,U,rfl⟩ A L'
   let#[x,k,rfl]:=jy J'
   have jl:j<a.length:=by
    have:=(cV.mp k).1
    rw[o] at this;show this
   rw[dF,wX jl] at k;cases k;apply#[Y,Y,_,Y,LM #[_,Y,eU (λe=>?_)^λe=>L' _ #[λm hm=>?_,_,_,Y]]]
   .have e:¬(fw v j d:Int)=0:=by simpa using e
    show#[_,Y,#[_,Y],Y,q1 j jl () G]
   .have e:(fw v j d:Int)=0:=by simpa using e
    by_cases c:m=j
    .subst c;lia
    .show G m ()
  .rintro _ ⟨G,S,U,rfl⟩
   apply q2 λp Q=>G p ?_;rw[gr,o];show Q
def DZ:Dk P w base 4 T.uh (aR Z λa P=>Uy T.y4 a P λ_=>False):=IB^qw T
def CD(a:!Nat)(n:Nat)(b:Nat->Bool):!D:=(aj n).map λi=>if b i=L then ax^a.getD i 0 else .aT
def nK(a:!Nat)(n:Nat)(b:Nat->Bool):(CD a n b).length=n:=by unfold CD;rw[aG,jb]
def nJ(h:i<n):(CD a n b)[i]?\(if b i=L then ax^a.getD i 0 else .aT):=by unfold CD;rw[dF,xq h];rfl
def jP(b:Nat->Bool)(k:Nat):Nat->Bool:=λi=>b i||decide (i=k)
def J8:(CD a n b).set k^ax^a.getD k 0=CD a n^jP b k:=by
 apply nN λi=>?_
 by_cases d:i<n
 .rw[nJ d,kA]
  unfold jP
  by_cases c:k=i
  .subst c;rw[mo rfl,mo^by rw[nK];show d,FM rfl,agD,mo rfl]
  .rw[tz c,nJ d,GE^λz=>c z.symm,ags]
 .rw[eF^by rw[fI,nK];lia,eF^by rw[nK];lia]
def BQ(n:Nat)(b:Nat->Bool):Nat:=((aj n).filter λi=>not^b i).length
def EW{b:Nat->Bool}(h:k<n)(a:b k=At):BQ n^jP b k+1=BQ n b:=by
 unfold BQ
 have d:((aj n).filter λi=>not^b i).Perm (k::(aj n).filter λi=>not^jP b k i):=by
  apply(xk (rm.filter _)^pK.mpr #[λz=>?_,rm.filter _]).mpr λi=>?_
  .have:=(kB.mp z).2
   unfold jP at this;simp at this
  .rw[bQ,kB,kB]
   unfold jP
   by_cases c:i=k
   .subst c;simp[h,a]
   .simp[c]
 rw[d.length_eq,cF]
def BI{w:W}(g:Good w){p q:Nat}(d:aP w (p,q)):cY p q∈cL (row w) w.length:=by
 rw[b7,kB,ba];have ne:p≠q:=iR g d;unfold cY
 rcases afc p q with h|h
 .rw[tN h,uW h];show#[d,FM^by change p<q;lia]
 .rw[zP h,yS h];show#[g.sym _ _ d,FM^by change q<p;lia]
def Fg{a:!(Nat×Nat)}{t:Nat×Nat}(h:t∈a)(v:Nat×Nat->Nat):∃j:Nat,(a.map zz)[j]?\(zz t)/\(a.map λt=>FV.int (v t:Int))[j]?\(FV.int (v t:Int)):=by
 let#[j,b]:=CV.mp h;show#[j,by rw[dF,b];rfl,by rw[dF,b];rfl]
def Fn{a:!(Nat×Nat)}(h:a.Nodup):(a.map zz).Nodup:=by
 unfold cv;rw[gX];show List.Pairwise.imp (λn e=>n^Oq e) h
def Tk.nodup{w:W}(h:Tk w a b):b.Nodup:=h.pm.nodup_iff.mpr^by rw[b7];show(dh h.g).filter _
structure Qt (rss:!!(Nat×Nat)) (b:Nat->Bool) (ws:!Nat) (x:Option Nat):Prop where
 z:b 0=L
 wt:∀k∈ws,k<rss.length/\b k=L
 cl:∀k,k<rss.length->b k=L->k∈ws\/x\k\/∀d∈rss.getD k [],b^dq rss (d.2,d.1)=L
def Qt.all{w:W}(g:Good w)(j:RS w c)(S:Qt c b [] V):∀k,k<c.length->b k=true:=by
 have L':=j.EO g
 rcases j with ⟨_,rfl⟩ | ⟨s,R,_⟩
 .intro k e
  obtain rfl:k=0:=by have:k<1:=e;lia
  show S.z
 .have side:∀k,k<c.length->∃d,d∈c.getD k []:=λk e=>by
   let#[d,n,u]:=R.rnd c[k]^j5 e;exact#[d,by rw[cy,bT e];exact n.first]
  intro k e;let#[t,f]:=side 0 ()
  let#[d,o]:=side k e;let#[p,q]:=L'.at_ f;let#[Dk,r]:=L'.at_ o
  have:=AI g (A:=λd=>b^dq c d=L) (λd i a=>by
   have#[l,m]:=L'.num i
   rcases S.cl _ l a with h|h|h
   .cases h
   .cases h
   .show h d m) (λd i a=>by rw[L'.next i];show a) p (by rw[q];show S.z) d Dk
  rw[r] at this;show this
def UP(d:a.length=n)(h:∀k,k<n->b k=L):CD a n b=a.map ax:=by
 apply nN λi=>?_
 by_cases c:i<n
 .rw[nJ c,mo^h i c,dF,cy,bT ()];rfl
 .rw[eF^by rw[nK];lia,eF^by rw[aG];lia]
def Qg{l:!b}(h:l.length=n):(l.map λ_=>D.aT)=CD c n λ_=>false:=by
 subst h;apply nN λi=>?_
 by_cases a:i<l.length
 .rw[nJ a,dF,bT a];rfl
 .rw[eF^by rw[aG];lia,eF^by rw[nK];lia]
def S9(p q:Nat):D.tup [.int^if (q:Int)<(p:Int) then(q:Int) else(p:Int), .int^if (q:Int)>(p:Int) then(q:Int) else(p:Int)]=B6^zz^cY p q:=by
 unfold B6 zz cY;have a:(if (q:Int)<(p:Int) then(q:Int) else(p:Int))=((min p q:Nat):Int):=by split<;>lia
 have b:(if (q:Int)>(p:Int) then(q:Int) else(p:Int))=((max p q:Nat):Int):=by split<;>lia
 rw[a,b]
def Ey{w:W}(g:Good w)(h:2<=w.length):∃d,aP w d:=by
 cases g.con 1 () with
 |step _ a=>show#[(_,1),a]
def RS.side{w:W}(g:Good w)(c:RS w a):(a.length=1\/∀k,k<a.length->∃d,d∈a.getD k [])/\1<=a.length:=by
 rcases c with ⟨_,rfl⟩ | ⟨e,R,_⟩
 .show#[.inl rfl,∅]
 .apply#[.inr λk b=>?_,?_]
  .obtain⟨d,f,_⟩:=R.rnd a[k]^j5 b
   exact#[d,by rw[cy,bT b];exact f.first]
  .obtain⟨d,h⟩:=Ey g e
   let#[r,i,j]:=lJ.mp^((jO.of g R).dart d).mpr h;show tK i
def UB(c d:Ad):Fo:=λe P R=>∃(w:W)(a:!!(Nat×Nat))(b:!(Nat×Nat))(v:Nat×Nat->Nat)(f:Nat),e= [.gB w,aD^b.map v,ax f]/\Tk w a b/\(∀t,v t<4)/\(¬iF w a->R^.err c ["counted"] [yX w a])/\(iF w a->∃p,p<w.length/\fw v p b≠0/\(∀m,m<p->fw v m b=0)/\R^.err d ["point"] [ax p])
def qv:Dx P w base 7 T.ui^lj Z^UB T.vo T.y4:=by
 have a:=jN.nd;apply xP T.ui.F jN [0,0,0,0,0,0,1,1,0,0,0,0] ∅ (λr R t h=>by let#[D,K,L',M,N,rfl,O]:=h;rfl)^λI A outer s H E r R t c h=>?_
 have d:=c.units
 apply#[_,(aq (rL T.u6 (pj T) c^ae (aa 0) ag)
   (aq (rL T.uh (qw T) c^ae (aa 0)^ae (aa 1) ag)
   (aq (aX At 3 a^aB T.ug (nk T) c^ae (aa 0) ag)
   (aq (aX At 4 a^p7 d rfl rfl T.u1 rfl T.B.zip^ae (gK T.W (aa 0) T.vc.m (gP T) (c.mono ∅) T.vc.b)^ae (aa 1) ag)
   (aq (aX At 5 a^aB T.u3 (rW T) c^ae (aa 0) ag)
   (aq (mV 6 (NC:= ["land"]) (src:= [V]) rfl a (pZ^au i7) trivial (bD^aa 5) (λ_ _ _=>(bC 0 (show(["land"]:!fC).Nodup from by nofun))) (λ_ _ _=>dQ)^λ_ _ _=>fe)
   (aq (jx At 6 aL^aa 2)
   (aq (gL 7 a^ij^ae aL ag)
   (aq (mW aeA (ik^aa 7)^aq (FJ 8 7 a)
   (aw^cz rfl aeA (bD^aB T.uf (oI T) c^ae (dN (aa 5)^aa 8) ag) (dY 2 rfl^aM (aJ 9 a)^aM (aJ 10 a) bU)^aq (aX At 11 a^jK d (aa 3)^bM^ae (aa 10)^ae (aa 9) ag)
   (aw^cT (bB yt (dN (aa 6)^aa 11) fe^aU _) (aq (jx L 6 (aa 11)^fm wk (dN (aa 6)^aa 8)^jK d (aa 4)^bM^ae (aV (AX rfl) rfl T.B.min Fy^ae (aa 9)^ae (aa 10) ag)^ae (aV (AW rfl) rfl T.B.max Fx^ae (aa 9)^ae (aa 10) ag) ag)
   (aw^iT At 7^aa 11)) bq)))
   (fL 6
   (aw^aS^aa 6))))))))))),?_]
 let#[l,e,u,v,f,rfl,ok,x,y,C]:=h;apply#[_,Y,l,e,Y,ok.g,ok.h1,ok.h14,ok.rs,λpl=>?_,λn=>y n];let#[p,G,o,lo,q]:=C pl;apply#[_,Y,_,Y,l,u,v,Y,ok.g,ok.h14,ok.pm,ok.srt,x,λi J' j k=>?_,λz=>absurd (z p G) o]
 obtain rfl:i=p:=by
  rcases aey i p with h|h|h
  .show absurd (lo i h) j
  .show h
  .show absurd (k p h) o
 show q
def UA:c7:=λd P=>∃(w:W)(a:!!(Nat×Nat))(c:!(Nat×Nat))(v:Nat×Nat->Nat)(f:Nat),d= [.gB w,aD^c.map v,ax f]/\Tk w a c/\(∀t,v t<4)/\f<4/\iF w a/\(∀p,p<w.length->fw v p c=0)/\∀b:!Nat,b.length=a.length->(∀x∈b,x<4)->b.getD 0 0=f->(∀t∈c,eJ a b t=v t)->P^aD b
def qu:Dk P w base 7 T.ui^lh Z 1 UA:=by
 have Q:=jN.nd;apply Es 1 T.ui.F jN [0,0,0,0,0,0,1,1,0,0,0,0] ∅ (λds R h=>by let#[_,_,_,_,_,rfl,_]:=h;rfl)^λaZ A outer s H E ds R U h=>?_
 have hu:=U.units
 apply#[_,(aq (Il^aB T.u6 (BZ T) U^ae (aa 0) ag)
   (aq (Il^aB T.uh (DZ T) U^ae (aa 0)^ae (aa 1) ag)
   (aq (aX At 3 Q^aB T.ug (nk T) U^ae (aa 0) ag)
   (aq (aX At 4 Q^p7 hu rfl rfl T.u1 rfl T.B.zip^ae (gK T.W (aa 0) T.vc.m (gP T) (U.mono ∅) T.vc.b)^ae (aa 1) ag)
   (aq (aX At 5 Q^aB T.u3 (rW T) U^ae (aa 0) ag)
   (aq (mV 6 (NC:= ["land"]) (src:= [V]) rfl Q (pZ^au i7) trivial (bD^aa 5) (λ_ _ _=>(bC 0 (show(["land"]:!fC).Nodup from by nofun))) (λ_ _ _=>dQ)^λ_ _ _=>fe)
   (aq (jx At 6 aL^aa 2)
   (aq (gL 7 Q^ij^ae aL ag)
   (aq (mW Gc (ik^aa 7)^aq (FJ 8 7 Q)
   (aw^cz rfl Gc (bD^aB T.uf (oI T) U^ae (dN (aa 5)^aa 8) ag) (dY 2 rfl^aM (aJ 9 Q)^aM (aJ 10 Q) bU)^aq (aX At 11 Q^jK hu (aa 3)^bM^ae (aa 10)^ae (aa 9) ag)
   (aw^cT (bB yt (dN (aa 6)^aa 11) fe^aU _) (aq (jx L 6 (aa 11)^fm wk (dN (aa 6)^aa 8)^jK hu (aa 4)^bM^ae (aV (AX rfl) rfl T.B.min Fy^ae (aa 9)^ae (aa 10) ag)^ae (aV (AW rfl) rfl T.B.max Fx^ae (aa 9)^ae (aa 10) ag) ag)
   (aw^iT At 7^aa 11)) bq)))
   (aw^Rf 6)))))))))),?_]
 let#[N,G,ts,v,f,rfl,ok,v4,f4,pl,ev,q]:=h;have g:=ok.g;have L':=ok.rs.EO g;have UL:=ok.few
 have pl':N.length+G.length=ts.length+2:=by
  unfold iF tc at pl;rw[<-ok.pm.length_eq] at pl;lia
 let#[o,dl,d4,d0,me']:=Iz g L' (ok.rs.side g).1 ok.h1 (ok.rs.side g).2 ok.pm pl' v4 (λp hp=>(Cn g ok.pm v p).symm.trans^ev p hp) f4;have me:ts.map^eJ G o=ts.map v:=zL me'
 have ev':∀p,p<N.length->fw (eJ G o) p ts=0:=λp hp=>(Cn g ok.pm _ p).trans (by
  have:((row N p).map λq=>eJ G o^cY p q)=(row N p).map λq=>eJ G o (p,q):=zL λq _=>Be G o p q
  rw[this];show Io g L' o p)
 rw[<-me];apply#[_,Y,N,G,Y,g,ok.h1,ok.h14,ok.rs,λ_=>?_,λn=>absurd pl n];apply#[_,Y,_,Y,N,ts,eJ G o,Y,g,ok.h14,ok.pm,ok.srt,λt=>(Rk d4 G t).2,λp hp z _=>z^ev' p hp,λ_=>?_];apply#[_,Y,N,Y,g,ok.h1,ok.h14,λi fH=>?_];obtain rfl:=fH.uniq g ok.rs;exists trivial;apply#[_,Y,N,Y,N,Y,g,ok.h14,λX wz pF=>?_];obtain rfl:=ok.uniq wz pF;apply#[_,Y,X.map zz,X.map^λt=>FV.int (eJ i o t:Int),by rw[cQ,cQ];unfold aD;rw[cQ];rfl,Fn ok.nodup,by rw[aG,aG],by rw[aG];lia,trivial,?_]
 exists _,rfl;dsimp only[k4];apply Jj g ok.h1 ok.h14 ok.rs λO lm ll l3=>#[trivial,?_];have acn:=ok.rounds.2.2
 have lz:0<i.length:=by
  rcases fH with ⟨_,rfl⟩ | ⟨n2,R,_⟩
  .decide
  .obtain⟨d,dd⟩:=Ey g n2
   let#[r,U,K]:=lJ.mp^((jO.of g R).dart d).mpr dd;show tK U
 apply#[_,Y,rR (ρ:= [V]) aD (λ_=> .aT) O _ (λy hy Y' h=>h) rfl (small ()) λaH=>?_]
 apply#[_,Y,trivial,_,Y,_,0,Y,wb (p:=0)^by rw[aG];lia,?_]
 apply#[by change 1<=sizeLine;decide,?_]
 apply oV (λm ρ=>∃(b:Nat->Bool)(I:!Nat)(o8 o9 LR LS:Option D),ρ= [J^.gB N,J^aD^X.map^eJ i o,J^ax f,J^.x^.dH (sP i)^jI 0 i,J^.x^.dH (X.map zz) (X.map λt=>FV.int (eJ i o t:Int)),J^.lst^O.map aD,J^.lst^CD o i.length b,J^aD I,o8,o9,LR,LS]/\Qt i b I V/\BQ i.length b+I.length=m/\m<=i.length) i.length #[jP (λ_=>At) 0,[0],V,V,V,V,?_,#[Y,λk hk=>by rw[eO] at hk;subst hk;show#[lz,Y],λk _ M=>?_],?_,bu _] ?_
 .show[_,_,_,_,_,_,J^D.lst^(O.map λ_=>D.aT).set 0^ax f,_,_,_,_,_]=_
  rw[Qg ll,<-d0,J8];rfl
 .left
  have:k=0:=by simpa [jP] using M
  subst this;simp
 .have:=EW (b:=λ_=>At) lz rfl
  have e:BQ i.length (λ_=>At)=i.length:=(KB cO^List.filter_eq_self.mpr^λ_ _=>rfl).trans jb;change _+1=_;lia
 rintro m _ ⟨b,I,o8,o9,LR,LS,rfl,S,hm,mn⟩;apply#[_,Y,Y,eU (λe=>?_)^λe=>?_]
 .have ne:I≠ []:=λz=>by rw[z] at e;cases e
  let#[us,k,rfl]:=LI ne;let#[kn,kb]:=S.wt k^by simp
  rw[dj] at hm;have hm:BQ i.length b+(us.length+1)=m:=hm;apply#[us.map ax,ax k,by change J^J^D.lst^(us++ [k]).map ax=_;rw[cn];rfl,?_]
  have kl:k<O.length:=()
  have gk:(O.map aD)[k]?\(aD^O.getD k []):=by rw[dF,cy,bT kl];rfl
  have es:sQ^O.getD k []=i.getD k []:=by
   have:(O.map sQ)[k]?\(sQ^O.getD k []):=by rw[dF,cy,bT kl];rfl
   rw[lm] at this;show(show i.getD k []=sQ (O.getD k []) by rw[cy,this];rfl).symm
  apply#[_,Y,_,Y,_,iG gk,O.getD k [],Y,l3 _^by rw[cy,bT kl];show j5 kl,?_]
  rw[es];apply(?_:hV _ _ _ ((i.getD k []).map pairD) _);apply bK (λj ρ=>∃(b:Nat->Bool)(I:!Nat)(o9 LR LS:Option D),ρ= [J^.gB N,J^aD^X.map^eJ i o,J^ax f,J^.x^.dH (sP i)^jI 0 i,J^.x^.dH (X.map zz) (X.map λt=>FV.int (eJ i o t:Int)),J^.lst^O.map aD,J^.lst^CD o i.length b,J^aD I,J^ax k,o9,LR,LS]/\Qt i b I^J k/\b k=L/\(∀d∈(i.getD k []).take j,b^dq i (d.2,d.1)=L)/\BQ i.length b+I.length+1=m) #[b,us,o9,LR,LS,Y,#[S.z,λx J'=>S.wt x^by simp[J'],λx J' M=>?_],kb,λd C=>by simp at C,()] ?_ ?_
  .rcases S.cl x J' M with h|h|h
   .rcases cM.mp h with h|h
    .show .inl h
    .rw[eO] at h;subst h;show .inr^.inl rfl
   .cases h
   .show .inr^.inr h
  .rintro j _ _ C ⟨b,I,o9,LR,LS,rfl,S,bk,tk,hm⟩ A hA
   let#[u,hu,rfl]:=cH C;let#[du,ek]:=L'.at_^cG hu;have Rh:aP N (u.2,u.1):=g.sym _ _ du;let#[j2,a2,b2]:=qF i 0^(L'.dart _).mpr Rh;have l2:=(L'.num Rh).1;rw[iN] at b2;have sR:(i.getD k []).take (j+1)=(i.getD k []).take j++ [u]:=by rw[rk,hu];rfl
   exists rfl,rfl;apply#[_,Y,_,Y,_,Y,by change 2<=sizeLine;decide,zz (u.2,u.1),sP i,jI 0 i,j2,_,Y,Y,a2,b2,trivial,?_]
   exists _,rfl,_,rfl,_,iG^nJ l2
   by_cases c:b^dq i (u.2,u.1)=L
   .rw[mo c]
    apply#[_,Y,c8^hA _ #[b,I,_,_,_,Y,S,bk,λd C=>?_,hm]];rw[sR] at C
    rcases cM.mp C with C|C
    .show tk d C
    .rw[eO] at C;subst C;show c
   .rw[tz c]
    have cf:b^dq i (u.2,u.1)=false:=zM.mpr c;apply#[_,Y,cX ?_];let#[j3,a3,b3]:=Fg (ok.pm.mem_iff.mpr^BI g (p:=u.1) (q:=u.2) du)^eJ i o;have off:=EW l2 cf
    have ev:Builtin.bitXor (o.getD k 0:Int) (eJ i o^cY u.1 u.2:Int)=(o.getD (dq i (u.2,u.1)) 0:Int):=by
     rw[(HV (VP d4 k) (Rk d4 i _).2).1,Be];unfold eJ;rw[show dq i (u.1,u.2)=k from ek,<-pL,yU,uY]
    exists _,rfl,_,rfl,_,iG^nJ kn;rw[mo bk];apply#[_,Y,_,Y,_,Y,_,_,Y,_,Y,_,Y,_,_,Y,by change 2<=sizeLine;decide,zz^cY u.1 u.2,_,_,j3,_,Y,S9 u.1 u.2,a3,b3,?_]
    apply#[Y,_,Y,_,Y,_,_,Y,wb^by rw[nK];show l2,?_]
    have S':Qt i (jP b^dq i (u.2,u.1)) (I++ [dq i (u.2,u.1)])^J k:=by
     apply#[by unfold jP;rw[S.z];rfl,λx J'=>?_,λx J' M=>?_]
     .rcases cM.mp J' with J'|J'
      .show#[(S.wt x J').1,by unfold jP;rw[(S.wt x J').2];rfl]
      .rw[eO] at J';subst J';show#[l2,by unfold jP;rw[FM rfl,agD]]
     .unfold jP at M
      rw[ae8] at M
      rcases M with M|M
      .rcases S.cl x J' M with h|h|h
       .show .inl^kq _ h
       .show .inr^.inl h
       .show .inr (.inr λd C=>by unfold jP;rw[h d C];rfl)
      .show .inl^by rw[KF M];simp
    apply#[_,Y,_,Y,trivial,bE^by rw[aG];lia,hA _ #[jP b^dq i (u.2,u.1),I++ [dq i (u.2,u.1)],J^ax u.1,J^ax u.2,J^ax^dq i (u.2,u.1),?_,S',by unfold jP;rw[bk];rfl,λd C=>?_,by rw[dj];change _+(_+1)+1=_;lia]]
    .show[_,_,_,_,_,_,J^D.lst^(CD o i.length b).set (dq i (u.2,u.1))^D.int^Builtin.bitXor (o.getD k 0:Int) (eJ i o^cY u.1 u.2:Int),_,_,_,_,_]=_
     rw[ev,show D.int (o.getD (dq i (u.2,u.1)) 0:Int)=ax^o.getD (dq i (u.2,u.1)) 0 from rfl,J8];unfold aD;rw[cn];rfl
    .rw[sR] at C
     unfold jP
     rcases cM.mp C with C|C
     .rw[tk d C];rfl
     .rw[eO] at C;subst C;rw[FM rfl,agD]
  .rintro _ ⟨b,I,o9,LR,LS,rfl,S,bk,tk,hm⟩
   rw[aG,xw] at tk;apply#[m-1,(),b,I,_,_,_,_,Y,#[S.z,S.wt,λx J' M=>?_],(),()]
   rcases S.cl x J' M with h|h|h
   .show .inl h
   .cases h;show .inr^.inr tk
   .show .inr^.inr h
 .have:I= []:=by
   cases I with
   |nil=>rfl
   |cons a l=>cases e
  subst this;exists _,rfl;rw[UP dl^S.all g fH];show q o dl d4 d0^λt ht=>afG.mp me t ht
def RS.mem{w:W}(g:Good w)(h:RS w a)(b:aP w d):d∈a.flatten:=((h.EO g).dart d).mpr b
variable {P:Program} {w:World} {mg:Str->Option Value} {base:Heap} {Z:DC} (T:Txt Z mg)
def RS.few{w:W}(g:Good w)(h14:w.length<=14)(h:RS w rss):rss.length<=196:=by
 have e:=(h.facts g h14).2
 rcases h with ⟨_,rfl⟩ | ⟨_,R,_⟩
 .decide
 .have:=rJ (w:=w) (rss:=rss) λr c=>let #[d,a,b,_]:=R.rnd r c;#[d,a,b]
  lia
def RS.dart{w:W}(h:RS w a)(b:d∈a.flatten):aP w d:=by
 rcases h with ⟨_,rfl⟩ | ⟨_,R,_⟩
 .show absurd b^by simp
 .show ba.mp^R.perm.mem_iff.mp b
def Xp:c7:=λc P=>∃(w:W),c= [bA w, .x .left]/\Good w/\1<=w.length/\w.length<=14/\∀(a:!!(Nat×Nat))(b:!Nat),RS w a->b.length=a.length->(∀x∈b,x<4)->P^aD b
def DX:Dk P w base 5 T.ux^aR Z Xp:=by
 have m:=tu.nd;apply bo T.ux.F tu [0,0,0,1,0,0,0,1] ∅ (λds R h=>by let#[z,rfl,K]:=h;rfl)^λaZ A outer s H E ds R k h=>?_
 have O:=k.units
 apply#[_,(aq (aX At 2 m^aB T.uu (jE T) k^ae (aa 0) ag)
   (aq (gL 3 m^ij ag)
   (aq (cz rfl Gc (fg rfl T.B.enumerate^ae (aB T.ut (gx T) k^ae (aa 0) ag) ag) (dY 2 rfl^aM (aJ 4 m)^aM (aJ 5 m) bU)^aq (aX At 6 m^nY (NC:= ["_law_p","_law_q","_law_by_side_here"]) (src:= [V,V,J 2]) rfl (pZ^au i6) #[Y,Y,trivial] (bD^aa 5) (λ_ _ _=>(nZ 2 rfl^dG (bC 0 (show(["_law_p","_law_q","_law_by_side_here"]:!fC).Nodup from by nofun))^dG (bC 1 (show(["_law_p","_law_q","_law_by_side_here"]:!fC).Nodup from by nofun)) k6)) (λ_ _ _=>dQ)^λ_ _ _=>(jK O (aa 2)^bM^ae (aa 1)^ae (aa 0) ag))
   (aq (KR 7 (NC:= ["_law_dye","_law_dyes_here","_law_near","_law_number"]) (src:= [V,J 3,J 6,J 4]) rfl m (pZ^au i6) #[Y,Y,Y,Y,Y,Y,trivial] (Ba rfl T.B.range^ae aL ag) (λ_ _ _=>(bC 0 (show(["_law_dye","_law_dyes_here","_law_near","_law_number"]:!fC).Nodup from by nofun))) (λ_ _ _=>(vJ^bB EV (aa 0) (nY (NC:= ["_law_other","_law_dyes_here","_law_number"]) (src:= [V,J 1,J 3]) rfl abd #[Y,Y,Y,Y,trivial] (bD^aa 2) (λ_ _ _=>(bC 0 (show(["_law_other","_law_dyes_here","_law_number"]:!fC).Nodup from by nofun))) (λ_ _ _=>(vJ^bB yu (aa 0) (aa 2)^aU _))^λ_ _ _=>(dN (aa 1)^aa 0))^by with_unfolding_all rfl))^λ_ _ _=>(aa 0))
   (aq (cT (DW.dt^qa (bB (i3 O) (aa 7) (kG ag)^aU _)^vL^bB (i3 O) (aB T.um (fu T) k^ae (aa 1)^ae aL ag) aL^aU _) (aw^gL 7 m^ij^ae aL^ae aL^ae aL^ae aL ag) bq)
   (aw^iT L 3^dN (aa 7)^aB T.um (fu T) k^ae (aa 1)^ae (aV dX rfl T.B.len dW^ae (aa 7) ag) ag))))
   (fL 3
   (aw^aS^aa 3))))),?_]
 let#[M,rfl,g,h1,h14,q]:=h;apply#[_,Y,M,Y,g,h1,h14,λrss C=>#[trivial,?_]];apply#[by change 0<=sizeLine;decide,?_]
 apply#[_,Y,M,Y,g,h1,h14,λa fH=>?_];obtain rfl:=fH.uniq g C;have fl:=(C.facts g h14).2;have rl:=C.few g h14;apply(?_:hV _ _ _ (eZ^a.map l6) _);apply bK (λj p=>∃(b:!Nat)(Q S U X:Option D),p= [J^bA M,J^.x .left,J^.x^.dH (sP a)^jI 0 a,J^aD b,Q,S,U,X]/\b.length=j/\∀x∈b,x<4) #[[],_,_,_,_,Y,Y,λx h=>nomatch h] ?_ ?_
 .rintro j _ _ hd ⟨b,Q,S,U,X,rfl,dl,d4⟩ A hA
  let#[x,f,rfl]:=jy hd;let#[r,k,rfl]:=cH f;have jl:=(cV.mp k).1
  have rl2:r.length<=196:=by
   have:=(M4^cG k).length_le
   lia
  exists rfl,rfl;exists _,rfl;apply iW (λp=>∃o0 o1,p= [o0,o1,J^.x^.dH (sP a)^jI 0 a]) pairD (λ_=>L) (λt=>ax^dq a (t.2,t.1)) r _ [] _ (λt ht aH I Y' Nn hY hN=>?_) #[_,_,Y] (by rw[lK,iN];show small ()) λaH I=>?_
  .obtain⟨o0,o1,rfl⟩:=I
   have m1:t∈a.flatten:=lJ.mpr #[r,cG k,ht];have m2:(t.2,t.1)∈a.flatten:=C.mem g^g.sym _ _^C.dart m1;let#[j2,a2,b2]:=qF a 0 m2;rw[iN] at b2;show#[Y,Y,Kl #[_,Y,_,Y,_,Y,by change 2<=sizeLine;decide,zz (t.2,t.1),sP a,jI 0 a,j2,_,Y,Y,a2,b2,hY _ #[_,_,Y] rfl]]
  have ef:r.filter (λ_=>L)=r:=by simp
  rw[pJ,ef];exists trivial;obtain⟨l,en⟩:∃l:!Nat,r.map (λt=>ax^dq a (t.2,t.1))=l.map ax:=#[r.map λt=>dq a (t.2,t.1),by rw[cQ];rfl]
  have nl:l.length<=196:=by have:=KB cO en;rw[aG,aG] at this;lia
  rw[en];clear en ef;obtain⟨G,J'⟩:∃G:!Nat,G=(l.filter λo=>AT (o<j)).map λo=>b.getD o 0:=#[_,Y];apply#[#[∅,∅],?_]
  apply(?_:lcW _ _ _ ((aj 4).map ax) _ _ _);apply iW (λp=>∃o,p= [o,J^aD b,J^aD l,J^ax j]) ax (λy=>not^inD (ax y)^G.map ax) ax (aj 4) _ [] _ (λy hy aH I Y' Nn hY hN=>?_) #[_,Y] (by rw[lK,iN];show small^by rw[jb];decide) λaH I=>?_
  .obtain⟨o,rfl⟩:=I
   exists _,rfl,_,rfl;apply iW (λp=>∃o,p= [o,J^aD b,J^ax j]) ax (λo=>AT (o<j)) (λo=>ax^b.getD o 0) l _ [] _ (λo' ho xB L' Y' N' hY' hN'=>?_) #[_,Y] (by rw[lK,iN];show small ()) λxB L'=>?_
   .obtain⟨o2,rfl⟩:=L'
    exists _,rfl,_,rfl,_,rfl;apply(?_:if AT ((o':Int)<(j:Int))=L then _ else _);apply eU (λc=>?_)^λc=>?_
    .have c:o'<j:=by have:=KF c;lia
     show#[_,Y,_,Y,_,iY (),hY' _ #[_,Y]^FM c]
    .have c:¬o'<j:=by have:=SB c;lia
     show hN' _ #[_,Y]^GE c
   have el:((l.filter λo=>AT (o<j)).map λo=>ax^b.getD o 0)=G.map ax:=by rw[J',cQ];rfl
   rw[pJ,el];exists rfl,fT _,_,rfl;rw[mo rfl];show eU (λe=>#[_,Y,hY _ #[_,Y] e])^λe=>hN _ #[_,Y] e
  rw[pJ];obtain⟨u,N⟩:∃u:!Nat,u=(aj 4).filter λy=>not^inD (ax y)^G.map ax:=#[_,Y];have s4:∀x∈u,x<4:=λx f=>by rw[N] at f;show gf.mp (kB.mp f).1
  have sl:u.length<=4:=by rw[N];have:=HA (λy=>not^inD (ax y)^G.map ax)^aj 4;rw[jb] at this;show this
  rw[<-N];clear N J'
  have fin:∀(E:fD)(i:!Nat),E.nx=A->0<i.length->i.length<=4->(∀x∈i,x<4)->Yc [0,0,0,1,0,0,0,1] L 3 (KJ dIx (vG 7)^p5 J5^A2 (vG 1)^A2 (p5 HN^A2 (vG 7) k4) k4) E [J^bA M,J^.x .left,J^.x^.dH (sP a)^jI 0 a,J^aD b,J^.int (j:Int),J^l6 r,J^.lst^l.map ax,J^aD i]:=by
   intro E i hE p1 q1 a1;have v:(i.map ax).length=i.length:=aG _;apply#[_,Y,_,Y,_,Y,_,Y,((i.map ax).length:Int),Y,by rw[v];lia,by rw[v];lia,λd d0 d1=>?_]
   rw[v] at d1;obtain⟨n,rfl⟩:∃n:Nat,d=(n:Int):=#[d.toNat,()]
   have ZT:n<i.length:=()
   apply#[_,iY ZT,Y,bE^by rw[aG];lia,?_]
   rw[hE];apply hA _ #[b++ [i.getD n 0],J^.int (j:Int),J^l6 r,J^.lst^l.map ax,J^aD i,by unfold aD;rw[cn];rfl,by rw[dj,dl];rfl,λx f=>?_]
   rcases cM.mp f with f|f
   .show d4 x f
   .rw[eO] at f
    rw[f,cy,bT ZT];show a1 _^j5 ZT
  have a4:∀x∈ [0,1,2,3],x<4:=∅
  exists fT _;apply#[_,Y,by change 0<=sizeLine;decide,?_]
  apply(?_:FF (aD u) (aD []) _);apply p6 #[_,Y,?_];apply eU (λe=>?_)^λe=>?_
  .show cX #[by change 4<=sizeLine;decide,fin _ [0,1,2,3] rfl ∅ ∅ a4]
  .have e:u≠ []:=SB e
   show#[_,Y,9,Y,∅,∅,λd _ _=>VJ #[_,Y,eU (λ_=>#[by change 4<=sizeLine;decide,fin _ [0,1,2,3] rfl ∅ ∅ a4])^λ_=>fin _ u rfl (CY.mpr e) sl s4]]
 .rintro _ ⟨b,Q,S,U,X,rfl,dl,d4⟩
  rw[gr,aG] at dl;show#[#[_,Y],_,Y,q a b C dl d4]
end tQ
namespace L2
open PySem PySem.Spec PyProof.Rows
section
def ZK(i:Nat):cW:=λE a=>∃b,a[i]?\(J^.lst b)/\E.nx^a.set i^J^.lst b.reverse
def Rg(i:Nat)(d:md.getD i 0=1<|>zn)
  (e:X.N[i]?\x<|>zn) (f:vD X.env.scope x<|>yy) (g:eT x<|>zm) (j:eR x<|>zm)
  (k:eE (.Name x a) "reverse" X.env<|>zn) (m:(apos.endLine==bp.line)=L<|>zn)
  (n:hB (.Call (.Attribute (.Name x a) "reverse" apos) [] [] bp) V pos.line X.env=pure At<|>zn):DSt Z X md rn (.Expr (.Call (.Attribute (.Name x a) "reverse" apos) [] [] bp) pos)^ZK i:=by
 apply(dD (NV GT PySem.F.slot_list_reverse PySem.F.type_list_reverse Js (pv i e f g j) k m) n).imp ?_;intro w y H o;rfl';obtain⟨B,A,E,⟨G,q,S⟩,⟨C,r,h⟩,M⟩:=o;ac_rfl;rfl';let#[l,s,I,t,u,c,v,put]:=S.one d r;cases t;ac_rfl;show#[_,u,ty_list c,l,s,Y,Y,c,M.nx _ h _ _ #[G,q,put _ _ v.rev]]
end
end L2
namespace tQ
open PySem L2 Wb
variable {P:Program} {w:World} {mg:Str->Option Value} {base:Heap} {Z:DC} (T:Txt Z mg)
def P9:c7:=λb P=>∃(w:W)(a:!!(Nat×Nat))(c:!(Nat×Nat)),b= [bA w]/\Tk w a c/\(iF w a->P^.bl L)/\(¬iF w a->P^.bl At)
def BS:Dk P w base 4 T.uw^aR Z P9:=by
 have t:=qR.nd;apply bo T.uw.F qR [0] ∅ (λf R h=>by let#[v,x,y,rfl,z]:=h;rfl)^λu A outer s H E f R d h=>?_
 have i:=d.units;exists _,(aw^aS^iS (i3 i) (fm iZ (aV dX rfl T.B.len dW^ae (aa 0) ag)^aV dX rfl T.B.len dW^ae (aB T.ut (gx T) d^ae (aa 0) ag) ag) (fm iZ (aV dX rfl T.B.len dW^ae (aB T.uv (jL T) d^ae (aa 0) ag) ag) aL)^aU _);let#[a,b,j,rfl,ok,k,l]:=h;have g:=ok.g;have m:(a.map aD).length=a.length:=aG _;have n:(b.map l6).length=b.length:=aG _;have lt:(j.map pairD).length=tc a:=by rw[aG,ok.pm.length_eq];rfl
 apply#[_,Y,_,Y,a,Y,g,ok.h1,ok.h14,λe o=>?_];obtain rfl:=o.uniq g ok.rs;apply#[_,Y,a,Y,g,ok.h14,λp q r=>?_];obtain rfl:=ok.uniq q r;dsimp only[k4,HN];apply(?_:FF (.int (((a.map aD).length:Int)+((e.map l6).length:Int))) (.int (((p.map pairD).length:Int)+2)) _);rw[m,n,lt];apply A5 ?_
 by_cases c:iF a e
 .have:=k c
  unfold iF at c;rw[FM c];show this
 .have:=l c
  unfold iF at c;rw[GE c];show this
def Bf{neg:Bool}{x:PyData}{P:D->Prop}(b:d.py\x)(e:x.depth<=60)(c:PyData.eqv x x=L)(h:P^.bl (not^neg)):Ng neg (.tup [.str a,d]) (.tup [.str a,d]) P:=by
 apply#[.tuple [.str a,x], .tuple [.str a,x],by rw[D.py,jG,D.py,jG,b];rfl,by rw[D.py,jG,D.py,jG,b];rfl,by rw[PyData.depth];simp only[PyData.depthAll,PyData.depth];lia,?_]
 have:PyData.eqv (.tuple [.str a,x])^.tuple [.str a,x]=true:=by simp[PyData.eqv,PyData.eqvAll,c]
 rw[this];cases neg<;>show h
def OF{neg:Bool}{P:D->Prop}(h:P^.bl (not^neg)):Ng neg (.tup [.str a, .tup [.int i, .int j, .int k]]) (.tup [.str a, .tup [.int i, .int j, .int k]]) P:=Bf (x:= .tuple [.int i, .int j, .int k]) rfl (by simp[PyData.depth,PyData.depthAll]) (by simp[PyData.eqv,PyData.eqvAll]) h
def Rl{w:W}(g:Good w){a:!!(Nat×Nat)}(L':jO w a){b:!Nat}(dl:b.length=a.length)(l:∀x∈b,x<4){u:Nat×Nat}(e:aP w u):∃c d:Nat,(sP a)[c]?\(zz u)/\(jI 0 a)[c]?\(FV.int (dq a u:Int))/\(sP a)[d]?\(zz (u.2,u.1))/\(jI 0 a)[d]?\(FV.int (dq a (u.2,u.1):Int))/\dq a u<b.length/\dq a (u.2,u.1)<b.length:=by
 have f:aP w (u.2,u.1):=g.sym _ _ e;let#[c,j,h]:=qF a 0^(L'.dart _).mpr e;let#[d,k,i]:=qF a 0^(L'.dart _).mpr f;rw[iN] at h i;show#[c,d,j,h,k,i,by rw[dl];show(L'.num e).1,by rw[dl];show(L'.num f).1]
theorem NN{tt:dU}(I:DN->Prop)(e:q->D)(k:Nat->Prop):∀(f:!q)(c:DN)(acc:!Nat)(N:DN->!D->Prop),(∀y∈f,∀c,I c->∀(Y':DN->D->Prop)(s:DN->Prop),(∀a n,I a->k n->Y' a^ax n)->g (e y) c λa=>tt a λb=>if b=L then j a^Y' a else s a)->
  I c->acc.length+f.length<=sizeLine->(∀n∈acc,k n)->(∀(c:DN)(out:!Nat),I c->out.length=acc.length+f.length->(∀n∈out,k n)->N c^out.map ax)->lcW g tt j (f.map e) c (acc.map ax) N
 | [],c,acc,N,_,l,_,o,h=>h c acc l rfl o
 |y::f,c,acc,N,r,l,p,o,h=>by
  rw[cF] at p;apply r y (c5 ..) c l (λa d=>(acc.map ax).length<sizeLine/\lcW g tt j (f.map e) a (acc.map ax++ [d]) N) (λa=>lcW g tt j (f.map e) a (acc.map ax) N) λa n t u=>#[by rw[aG];lia,?_]
  have:=NN (tt:=tt) I e k f a (acc++ [n]) N (λz p=>r z^eS _ p) t (by rw[dj];simp only[CU];lia) (λm i=>by
   rcases cM.mp i with i|i
   .show o m i
   .rw[eO.mp i];show u) λv out x A=>h v out x^by rw[A,dj,cF,cF,lK];lia
  rw[cn] at this;show this
def aar(K:Prop)(b:t E a)(d:K->u E a)(h:∀G:Bool->Prop,G L->(K->G At)->c a G):Yf c t u E a:=h _ (by rw[mo rfl];show b) λk=>by rw[tz c9];show d k
def Zh{w:W}(g:Good w)(c:1<=w.length):∃a,RS w a:=by
 by_cases h:w.length=1
 .show#[_, .inl #[h,Y]]
 .obtain⟨b,R,s⟩:=Mm g
  show#[b, .inr #[(),R,yl g R s]]
def QO{P:D->Prop}(h:P^.bl (AT (a=b))):FF (.str a) (.str b) P:=#[.str a, .str b,Y,Y,by simp[PyData.depth],by
 have:PyData.eqv (.str a)^.str b=AT (a=b):=by
  rw[PyData.eqv]
  by_cases z:a=b<;>simp[z]
 rw[tz c9,this];show h]
def Ny{P:D->Prop}(h:P^.bl (AT (a=b))):dC (.str b) c (λy=>FF (.str a) y P):=QO h
def ltC{P:D->Prop}{ρ:DN}(h:P^.bl (AT (i<j))):dC (.int j) ρ (λb=>dLt (.int i) b P):=h
def UC:c7:=λc P=>∃(d:!Int)(w:W)(k:Nat),c= [.nI d,bA w,ax k]/\Good w/\1<=w.length/\w.length<=14/\k<=90/\∀(a:!(Nat×Nat))(b:!Nat),a.Perm^cL (row w) w.length->a.Pairwise lexLe->b.length=a.length->(∀x∈b,1<=x/\x<4)->P^aD b
def qz:Dk P w base 6 T.uy^aR Z UC:=by
 have m:=qQ.nd;apply bo T.uy.F qQ [0,0,0,0,0,0,0,1,0] ∅ (λds R h=>by let#[_,_,_,rfl,_]:=h;rfl)^λaZ A outer s H E ds R f h=>?_
 have o:=f.units
 apply#[_,(aq (aX At 3 m^Ie^xJ T.ul (nj T) f^ae (aa 0)^ae (aa 2) ag)
   (aq (aX At 4 m^aB T.uv (jL T) f^ae (aa 1) ag)
   (aq (aX At 5 m^aB T.uu (jE T) f^ae (aa 1) ag)
   (aq (aX At 6 m^aB T.ux (DX T) f^ae (aa 1)^ae (aa 3) ag)
   (aq (mV 7 (NC:= ["_law_a","_law_b","_law_dyes_here","_law_by_side_here"]) (src:= [V,V,J 6,J 5]) rfl m (pZ^au ic) #[Y,Y,Y,Y,trivial] (bD^aa 4) (λ_ _ _=>(nZ 2 rfl^dG (bC 0 (show(["_law_a","_law_b","_law_dyes_here","_law_by_side_here"]:!fC).Nodup from by nofun))^dG (bC 1 (show(["_law_a","_law_b","_law_dyes_here","_law_by_side_here"]:!fC).Nodup from by nofun)) k6)) (λ_ _ _=>dQ)^λ_ _ _=>(fm wk (dN (aa 2)^jK o (aa 3)^bM^ae (aa 0)^ae (aa 1) ag)^dN (aa 2)^jK o (aa 3)^bM^ae (aa 1)^ae (aa 0) ag))
   (aq (cT (DW.dt^qa (bB LU aL (aa 7)^by with_unfolding_all rfl)^vL^bB (i3 o) (aB T.um (fu T) f^ae (aa 3)^ae aL ag) aL^aU _) (aq (aX At 3 m^Ie^xJ T.ul (nj T) f^ae (aa 0)^ae (fm iZ (aa 2) aL) ag)
   (aw^aS^nY (NC:= ["_law_tie_here","_law_left"]) (src:= [V,J 3]) rfl (pZ^au ic) #[Y,Y,trivial] (bD^aa 4) (λ_ _ _=>(bC 0 (show(["_law_tie_here","_law_left"]:!fC).Nodup from by nofun))) (λ_ _ _=>dQ)^λ_ _ _=>(fm iZ aL^aB T.um (fu T) f^ae (aa 1)^ae aL ag))) bq)
   (aq (Rb rfl Gc (KQ rfl T.B.range^ae (fm WI (aB T.um (fu T) f^ae (aa 3)^ae aL ag)^nX Vn rfl T.B.int Fw^ae (iS (qt o) (aa 7) (kG ag)^aU _) ag) ag) (aJ 8 m)^aw^jx At 7 (aB T.um (fu T) f^ae (aa 3)^ae (aV dX rfl T.B.len dW^ae (aa 7) ag) ag)^fm iZ aL^aB T.um (fu T) f^ae (aa 3)^ae aL ag)
   (fL 7
   (aw^aS^aa 7))))))))),?_]
 let#[S,r,k,rfl,g,U,M,hk,q]:=h;apply#[_,Y,_,Y,S,k,Y,(),λX ne l2=>#[_,Y,X,Y,ne,l2,trivial,?_]]
 apply#[_,Y,r,Y,g,M,λb O srt=>#[trivial,?_]];apply#[_,Y,r,Y,g,U,M,λrss rs=>#[trivial,?_]];apply#[_,Y,_,Y,r,Y,g,U,M,λa l fH dl d4=>#[trivial,?_]];obtain rfl:=fH.uniq g rs;have ok:Tk r a b:=#[g,U,M,rs,O,srt];have L':=rs.EO g;have UL:=ok.few;exists _,rfl;apply(?_:lcW _ _ _ (b.map pairD) _ _ _);apply iW (λv=>∃y o1,v= [y,o1,J^aD l,J^.x^.dH (sP a)^jI 0 a]) pairD (λ_=>L) (λt=>ax^eJ a l t) b _ [] _ (λu o aH C Y' Nn hY hN=>?_) #[_,_,Y] (by rw[lK,iN];show small ()) λaH C=>?_
 .obtain⟨y,o1,rfl⟩:=C
  let#[j1,j2,I,b1,a2,b2,m1,m2]:=Rl g L' dl d4^uP^O.mem_iff.mp o;have J':=hY _ #[J^ax u.1,J^ax u.2,Y] rfl;rw[show ax^eJ a l u=D.int (Builtin.bitXor (l.getD (dq a u) 0:Int) (l.getD (dq a (u.2,u.1)) 0:Int)) by rw[(Rk d4 a u).1];rfl] at J'
  apply#[Y,Y,Kl ?_];apply#[_,Y,_,Y,_,Y,_,Y,by change 2<=sizeLine;decide,?_]
  exists zz u,_,_,j1,_,rfl,rfl,I,b1,_,iY m1;apply#[_,Y,_,Y,_,Y,_,Y,by change 2<=sizeLine;decide,?_]
  show#[zz (u.2,u.1),_,_,j2,_,Y,Y,a2,b2,_,iY m2,J']
 have ef:b.filter (λ_=>L)=b:=by simp
 obtain⟨m0,em⟩:∃m0:!Nat,m0=b.map^eJ a l:=#[_,Y];have Z2:(b.map λt=>ax^eJ a l t)=m0.map ax:=by rw[em,cQ];rfl
 have ml:m0.length=b.length:=by rw[em,aG]
 rw[pJ,ef,Z2];have A4:∀x∈m0,x<4:=λx p=>by rw[em] at p;let#[t,K,rfl]:=bS.mp p;show(Rk d4 a t).2
 dsimp only;apply aar (0∉m0) ?_ (λn0=>?_) λG g1 g2=>?_
 .apply#[_,Y,_,Y,S,k+1,Y,(),λX ne l2=>#[_,Y,X,Y,ne,l2,trivial,?_]]
  exists _,rfl;apply NN (λv=>∃y,v= [y,J^.x .left]) pairD (λn=>1<=n/\n<4) b _ [] _ (λu o aH C Y' Nn hY=>?_) #[_,Y] (by rw[lK,iN];show small ()) (λn h=>nomatch h) λaH out C ol op=>?_
  .obtain⟨y,rfl⟩:=C
   apply#[_,Y,3,Y,∅,∅,λd d0 d1=>?_]
   obtain⟨n,rfl⟩:∃n:Nat,d=(n:Int):=#[d.toNat,()]
   have J':=hY _ (1+n) #[J^pairD u,Y] #[(),()]
   rw[show ax (1+n)=D.int (1+(n:Int)) by unfold ax;congr 1] at J'
   show J'
  .show q b out O srt (by rw[ol,lK,iN]) op
 .have A1:∀x∈m0,1<=x/\x<4:=λx p=>#[Nat.pos_of_ne_zero λz=>n0^by rw[<-z];show p,A4 x p]
  apply#[_,Y,3,Y,∅,∅,λd d0 d1=>?_]
  apply#[_,Y,by change 0<=sizeLine;decide,?_]
  apply(?_:Ia (aD m0) (aD []) _);apply Ib ?_;dsimp only[k4,QF,QR]
  obtain⟨N,eN,N2,Nz⟩:∃N:Nat,d*(if (not^AT (m0= []))=L then 1 else 0)=(N:Int)/\N<=2/\(0<N->m0≠ []):=by
   by_cases c:m0= []
   .show#[0,by simp[c],∅,λz=>absurd z ∅]
   .show#[d.toNat,by simp[c];lia,(),λ_=>c]
  apply#[.inl #[(),()],?_]
  rw[eN];apply#[#[(),(by lia)],?_]
  apply(?_:hV _ _ _ (gU 0 (N:Int).toNat) _);rw[lH];apply Ry (λj v=>∃(m1:!Nat)(o8:Option D),v= [J^.nI S,J^bA r,J^ax k,J^.x .left,J^.lst^b.map pairD,J^.x^.dH (sP a)^jI 0 a,J^aD l,J^aD m1,o8]/\m1.length=m0.length/\∀x∈m1,1<=x/\x<4) #[m0,V,Y,Y,A1] ?_ ?_
  .rintro j _ jl ⟨m1,o8,rfl,Q,I⟩ A hA
   have mp:0<m1.length:=by rw[Q];show CY.mpr^Nz ()
   have lm1:(m1.map ax).length=m1.length:=aG _;apply#[_,Y,3,Y,∅,∅,λe e0 e1=>#[trivial,_,Y,_,Y,_,Y,((m1.map ax).length:Int),Y,(),(by lia),λi i0 i1=>?_]]
   obtain⟨n,rfl⟩:∃n:Nat,e=(n:Int):=#[e.toNat,()]
   obtain⟨i,rfl⟩:∃n:Nat,i=(n:Int):=#[i.toNat,()]
   apply#[_,i,Y,wb (),hA _ #[m1.set i (1+n),J^.int (0+(j:Int)),?_,by rw[fI,Q],λx p=>?_]]
   .unfold aD
    rw[ae9,show ax (1+n)=D.int (1+(n:Int)) by unfold ax;congr 1];rfl
   .rcases M6 p with h|h
    .show I x h
    .lia
  .rintro _ ⟨m1,o8,rfl,Q,I⟩
   show#[#[_,Y],_,Y,q b m1 O srt (Q.trans ml) I]
 .apply#[_,Y,Y,fT _,_,Y,?_]
  rw[tz c9,show D.int 0=ax 0 from rfl,vZ];apply eU (λ_=>g1)^λe=>?_;apply#[_,Y,2,Y,∅,∅,λd _ _=>VJ #[_,Y,?_]]
  by_cases c:d=0
  .rw[show AT (d=((0:Nat):Int))=L from FM c];show g1
  .rw[show AT (d=((0:Nat):Int))=At from GE c];show g2^SB e
def UE:c7:=λc P=>∃(w:W)(b:!!(Nat×Nat))(a:!(Nat×Nat))(v:Nat×Nat->Nat),c= [bA w,aD^a.map v]/\Tk w b a/\(∀t,v t<4)/\(∀p,p<w.length->fw v p a≠0->(∀m,m<p->fw v m a=0)->P^ax p)/\((∀p,p<w.length->fw v p a=0)->P .aT)
def GA:Dk P w base 2 T.uz^aR Z UE:=by
 have f:=wM.nd;apply bo T.uz.F wM [0,0,0,0,0,0,0] ∅ (λM R h=>by let#[_,_,_,_,rfl,_]:=h;rfl)^λaZ A outer s H E M R I h=>?_
 have k:=I.units
 apply#[_,(aq (aX At 2 f^p7 k rfl rfl T.u1 rfl T.B.zip^ae (aB T.uv (jL T) I^ae (aa 0) ag)^ae (aa 1) ag)
   (aq (cz rfl Gc (fg rfl T.B.enumerate^ae (aa 0) ag) (dY 2 rfl^aM (aJ 3 f)^aM (aJ 4 f) bU)^aq (aX At 5 f aL)
   (aq (cz rfl Gc (bD^aa 4) (aJ 6 f)^aw^aX At 5 f^fm wk (aa 5)^jK k (aa 2)^bM^ae (aV (AX rfl) rfl T.B.min Fy^ae (aa 3)^ae (aa 6) ag)^ae (aV (AW rfl) rfl T.B.max Fx^ae (aa 3)^ae (aa 6) ag) ag)
   (aw^cT (bB (qt k) (aa 5) aL^aU _) (aw^aS^aa 3) bq)))
   (aw^aS fe))),?_]
 let#[a,N,ts,v,rfl,ok,J',O,Q]:=h;have g:=ok.g;have h14:=ok.h14;have UL:=ok.few;apply#[_,Y,a,Y,g,h14,λb S U=>?_];obtain rfl:=ok.uniq S U;apply#[_,Y,b.map zz,b.map^λt=>FV.int (v t:Int),by rw[cQ,cQ];unfold aD;rw[cQ];rfl,Fn ok.nodup,by rw[aG,aG],by rw[aG];lia,trivial,?_]
 exists _,rfl;apply(?_:hV _ _ _ (eZ^a.map aD) _);apply bK (λj l=>(∀m,m<j->fw v m b=0)/\∃n o r d,l= [J^bA a,J^aD^b.map v,J^.x^.dH (b.map zz) (b.map λt=>FV.int (v t:Int)),n,o,r,d]) #[λm h=>by lia,_,_,_,_,Y] ?_ ?_
 .rintro p _ _ u ⟨i,n,o,r,d,rfl⟩ A C
  let#[G,rfl]:=zD u;exists rfl,rfl,trivial;have X:=fG g p;have em:=Cn g ok.pm v p;exists _,rfl;apply(?_:hV _ _ _ ((row a p).map ax) _);apply bK (λj l=>∃d,l= [J^bA a,J^aD^b.map v,J^.x^.dH (b.map zz) (b.map λt=>FV.int (v t:Int)),J^ax p,J^aD^row a p,J^ax^cS (((row a p).take j).map λq=>v^cY p q),d]) #[d,Y] ?_ ?_
  .rintro j _ _ u ⟨d,rfl⟩ A C
   let#[x,L',rfl]:=cH u;have Y':(row a p).take (j+1)=(row a p).take j++ [x]:=by rw[rk,L'];rfl
   have x4:∀y∈((row a p).take j).map λq=>v^cY p q,y<4:=λy hy=>by let#[z,K,rfl]:=bS.mp hy;show J' _
   have e:=(HV (Kh x4)^J'^cY p x).1;let#[j3,a3,b3]:=Fg (ok.pm.mem_iff.mpr^BI g (p:=p) (q:=x)^cG L') v;apply#[_,Y,_,Y,_,Y,_,Y,_,_,Y,_,Y,_,Y,_,_,Y,by change 2<=sizeLine;decide,zz^cY p x,_,_,j3,_,Y,S9 p x,a3,b3,trivial,C _ #[J^ax x,?_]]
   rw[Y',cn,yI];show[_,_,_,_,_,J^D.int^Builtin.bitXor (cS (((row a p).take j).map λq=>v^cY p q):Int) (v^cY p x:Int),_]=_;rw[e];change _= [_,_,_,_,_,J^ax (_^^^(v (cY p x)^^^0)),_];rw[afd];rfl
  .rintro _ ⟨d,rfl⟩
   rw[aG,xw,<-em];apply#[_,Y,LM #[_,Y,eU (λe=>?_)^λe=>C _ #[λm hm=>?_,_,_,_,_,Y]]]
   .have e:¬(fw v p b:Int)=0:=by simpa using e
    show#[_,Y,O p G () i]
   .have e:(fw v p b:Int)=0:=by simpa using e
    by_cases c:m=p
    .subst c;lia
    .show i m ()
 .rintro _ ⟨i,n,o,r,d,rfl⟩
  apply Q λp G=>i p ?_;rw[gr,aG];show G
def Xs:c7:=λc P=>∃(w:W)(a:!!(Nat×Nat))(b:!(Nat×Nat))(v:Nat×Nat->Nat)(f:Nat),c= [.gB w,aD^b.map v,ax f]/\Tk w a b/\(∀t,v t<4)/\(¬iF w a->P^.tup [.str "plane",yX w a])/\(iF w a->∃p,p<w.length/\fw v p b≠0/\(∀m,m<p->fw v m b=0)/\P^.tup [.str "odd",ax p])
def yw:Dk P w base 8 T.v0^aR Z Xs:=by
 have a:=nG.nd;apply bo T.v0.F nG [0,0,0,0,0] ∅ (λd R h=>by let#[t,u,x,y,z,rfl,B]:=h;rfl)^λo A outer s H E d R c h=>?_
 have r:=c.units
 apply#[_,(aq (aX At 3 a^bM^ae ig^ae fe ag)
   (aq (Nq (λ_ _=>by show(aw^rL T.ui (qv T) c^ae (aa 0)^ae (aa 1)^ae (aa 2) ag)) bq^KP 4 a T.vp T.yb (λ_=>by show(aw^aX At 3 a^bM^ae ig^ae (Ic T.iX^aa 4) ag))^KP 4 a T.y5 T.yc (λ_=>by show(aw^aX At 3 a^bM^ae ig^ae (Ic T.iX^aa 4) ag)) Nj)
   (aw^aS^aa 3))),?_]
 let#[e,b,g,v,f,rfl,ok,i,j,k]:=h;apply#[by change 2<=sizeLine;decide,trivial,?_]
 apply#[_,Y,_,Y,_,Y,e,b,g,v,f,Y,ok,i,λn=>?_,λpl=>?_]
 .show#[T.yb.obj,L,(T.yf.m1 1 rfl),cX #[_,Y,T.yb.cls,T.ye,_,Y,by change 2<=sizeLine;decide,trivial,_,Y,j n]]
 .obtain⟨p,l,m,lo,q⟩:=k pl
  show#[p,l,m,lo,T.yc.obj,At,(T.yi.m0 0 rfl),c8 #[L,(T.yi.m1 1 rfl),cX #[_,Y,T.yc.cls,T.yh,_,Y,by change 2<=sizeLine;decide,trivial,_,Y,q]]]
def Uz:c7:=λc P=>∃(w:W)(a:!!(Nat×Nat))(b:!(Nat×Nat))(v:Nat×Nat->Nat)(f:Nat),c= [.gB w,aD^b.map v,ax f]/\Tk w a b/\(∀t,v t<4)/\(¬iF w a->P^.lst [.bl L, .bl At, .bl L, .bl At, .bl At])/\(iF w a->∃p,p<w.length/\fw v p b≠0/\(∀m,m<p->fw v m b=0)/\P^.lst [.bl At, .bl L, .bl L, .bl At, .bl At])
def BR:Dk P w base 8 T.v1^aR Z Uz:=by
 have a:=qO.nd;apply bo T.v1.F qO [0,0,0,1,0] ∅ (λd R h=>by let#[t,u,y,C,D,rfl,G]:=h;rfl)^λo A outer s H E d R c h=>?_
 have r:=c.units
 apply#[_,(aq (gL 3 a^ij ag)
   (aq (Nq (λ_ _=>by show(aw^rL T.ui (qv T) c^ae (aa 0)^ae (aa 1)^ae (aa 2) ag)) bq^KP 4 a T.vh T.ya (λ_=>by show(aq (gL 3 a^ij^ae (xG T.iX (.own _) (f6 T.vp) (aa 4) rfl T.B.isinstance)^ae (xG T.iX (.own _) (f6 T.y5) (aa 4) rfl T.B.isinstance)^ae (xG T.iX (.blt _) (aaB T.vf) (aa 4) rfl T.B.isinstance) ag)
   (aq (iT At 3^A8 T.iX (.cons (.own _)^.cons (.own _)^.cons (.own _)^.cons (.own _)^.cons (.own _)^.cons (.own _)^.cons (.own _)^.cons (.own _) .nil) #[(f6 T.vx),Y,#[(f6 T.y7),Y,#[(f6 T.vt),Y,#[(f6 T.vv),Y,#[(f6 T.y3),Y,#[(f6 T.y1),Y,#[(f6 T.vr),Y,#[(f6 T.vn),Y,trivial]]]]]]]] (show 8<=1000 by decide) (aa 4) rfl T.B.isinstance)
   (aw^iT At 3^A8 T.iX (.cons (.own _)^.cons (.own _)^.cons (.own _)^.cons (.own _) .nil) #[(f6 T.y9),Y,#[(f6 T.vz),Y,#[(f6 T.vj),Y,#[(f6 T.vl),Y,trivial]]]] (show 4<=1000 by decide) (aa 4) rfl T.B.isinstance)))) Nj)
   (fL 3
   (aw^aS^aa 3)))),?_]
 let#[e,b,g,v,f,rfl,ok,i,j,k]:=h;apply#[by change 0<=sizeLine;decide,?_]
 apply#[_,Y,_,Y,_,Y,e,b,g,v,f,Y,ok,i,λn=>?_,λpl=>?_]
 .apply#[T.yb.obj,L,(T.yf.m1 0 rfl),cX ?_]
  have x:=T.yb.cls;apply#[_,Y,x,_,EF,_,Y,x,_,(T.yf.z 10 rfl),_,Y,x,_,T.yf.ve,by change 3<=sizeLine;decide,?_]
  apply#[_,Y,_,Y,x,At,(T.yf.any [6,11,4,5,9,8,3,2] rfl),trivial,by change 3<sizeLine;decide,?_]
  apply#[_,Y,_,Y,x,At,(T.yf.any [12,7,0,1] rfl),trivial,by change 4<sizeLine;decide,?_]
  show#[#[_,Y],_,Y,j n]
 .obtain⟨p,l,m,lo,q⟩:=k pl
  apply#[p,l,m,lo,T.yc.obj,L,(T.yi.m1 0 rfl),cX ?_];have x:=T.yc.cls;apply#[_,Y,x,_,(T.yi.z 3 rfl),_,Y,x,_,EF,_,Y,x,_,T.yi.ve,by change 3<=sizeLine;decide,?_]
  apply#[_,Y,_,Y,x,At,(T.yi.any [7,11,5,6,10,9,4,2] rfl),trivial,by change 3<sizeLine;decide,?_]
  apply#[_,Y,_,Y,x,At,(T.yi.any [12,8,0,1] rfl),trivial,by change 4<sizeLine;decide,?_]
  show#[#[_,Y],_,Y,q]
def Xq:c7:=λd P=>∃(w:W)(a:!!(Nat×Nat))(c:!(Nat×Nat))(b:!Nat)(f:Nat),d= [aD b,bA w,aD^c.map^eJ a b,ax f]/\Tk w a c/\b.length=a.length/\(∀x∈b,x<4)/\b.getD 0 0=f/\P^.bl L
def DY:Dk P w base 5 T.v2^aR Z Xq:=by
 have o:=tw.nd;apply bo T.v2.F tw [0,0,0,0,0,0] ∅ (λG R h=>by let#[_,_,_,_,_,rfl,_]:=h;rfl)^λaZ A outer s H E G R e h=>?_
 have c:=e.units
 apply#[_,(aq (cT (DW.dt^qa (kI^ik^vH "list" (aa 0) rfl T.B.isinstance rfl T.B.list mS)^qa (bB (qt c) (aV dX rfl T.B.len dW^ae (aa 0) ag) (aV dX rfl T.B.len dW^ae (aB T.ut (gx T) e^ae (aa 1) ag) ag)^aU _)^vL^bB (qt c) (dN (aa 0) aL) (aa 3)^aU _) (aw^aS mq) bq)
   (aq (cz rfl Gc (bD^aa 0) (aJ 4 o)^aw^cT (DW.dt^qa (kI^ik^vH "int" (aa 4) rfl T.B.isinstance rfl T.B.int Fw)^qa (ik^vH "bool" (aa 4) rfl T.B.isinstance rfl T.B.bool HQ)^qa (bB yu (aa 4) aL^aU _)^vL^bB Tj (aa 4) aL^aU _) (aw^aS mq) bq)
   (aq (aX At 5 o^aB T.uu (jE T) e^ae (aa 1) ag)
   (aw^aS^iS (i3 c) (nY (NC:= ["_law_a","_law_b","_law_found","_law_by_side_here"]) (src:= [V,V,J 0,J 5]) rfl (pZ^au kL) #[Y,Y,Y,Y,trivial] (bD^aB T.uv (jL T) e^ae (aa 1) ag) (λ_ _ _=>(nZ 2 rfl^dG (bC 0 (show(["_law_a","_law_b","_law_found","_law_by_side_here"]:!fC).Nodup from by nofun))^dG (bC 1 (show(["_law_a","_law_b","_law_found","_law_by_side_here"]:!fC).Nodup from by nofun)) k6)) (λ_ _ _=>dQ)^λ_ _ _=>(fm wk (dN (aa 2)^jK c (aa 3)^bM^ae (aa 0)^ae (aa 1) ag)^dN (aa 2)^jK c (aa 3)^bM^ae (aa 1)^ae (aa 0) ag)) (aa 2)^aU _)))),?_]
 let#[i,I,J',a,f,rfl,ok,dl,k,M,q]:=h;have g:=ok.g;have L':=ok.rs.EO g;have N:0<a.length:=by rw[dl];show(ok.rs.side g).2
 have h14:=ok.h14;have UL:=ok.few;have O:(a.map ax).length=a.length:=aG _;apply#[_,Y,Y,Y,c8 ?_];apply#[_,Y,_,Y,i,Y,g,ok.h1,h14,λQ S=>?_];obtain rfl:=S.uniq g ok.rs;dsimp only[k4,HN];rw[O,aG,dl];apply A6 #[_,Y,?_];rw[FM rfl];apply c8 ?_;exists _,rfl,_,iY (p:=0) N,_,rfl;rw[M];apply A6 #[_,Y,?_];rw[FM rfl];apply c8 ?_;exists _,rfl;apply(?_:hV _ _ _ (a.map ax) _);apply bK (λ_ l=>∃m,l= [J^aD a,J^bA i,J^aD^J'.map^eJ Q a,J^ax f,m,V]) #[_,Y] ?_ ?_
 .rintro j _ _ U ⟨m,rfl⟩ A X
  let#[x,hx,rfl]:=cH U;have x4:=k x^cG hx;apply#[_,Y,Y,Y,c8 #[_,Y,Y,Y,c8 #[_,Y,_,Y,Yz (GE^by change ¬(x:Int)<0;lia) #[_,Y,_,Y,Yz (GE^by change ¬(3:Int)<(x:Int);lia)^X _ #[_,Y]]]]]
 .rintro _ ⟨m,rfl⟩
  apply#[_,Y,i,Y,g,ok.h1,h14,λb n=>#[trivial,?_]];obtain rfl:=n.uniq g ok.rs;apply#[_,Y,i,Y,g,h14,λd wz pF=>?_];obtain rfl:=ok.uniq wz pF;apply(?_:lcW _ _ _ (d.map pairD) _ _ _);apply iW (λl=>∃r v,l= [r,v,J^aD a,J^.x^.dH (sP b)^jI 0 b]) pairD (λ_=>L) (λt=>ax^eJ b a t) d _ [] _ (λu c aH y Y' Nn hY hN=>?_) #[_,_,Y] (by rw[lK,iN];show small ()) λaH y=>?_
  .obtain⟨r,v,rfl⟩:=y
   let#[j1,j2,a1,b1,a2,b2,m1,m2]:=Rl g L' dl k^uP^ok.pm.mem_iff.mp c;have C:=hY _ #[J^ax u.1,J^ax u.2,Y] rfl;rw[show ax^eJ b a u=D.int (Builtin.bitXor (a.getD (dq b u) 0:Int) (a.getD (dq b (u.2,u.1)) 0:Int)) by rw[(Rk k b u).1];rfl] at C
   apply#[Y,Y,Kl ?_];apply#[_,Y,_,Y,_,Y,_,Y,by change 2<=sizeLine;decide,?_]
   exists zz u,_,_,j1,_,rfl,rfl,a1,b1,_,iY m1;apply#[_,Y,_,Y,_,Y,_,Y,by change 2<=sizeLine;decide,?_]
   show#[zz (u.2,u.1),_,_,j2,_,Y,Y,a2,b2,_,iY m2,C]
  have ef:d.filter (λ_=>L)=d:=by simp
  have Z2:(d.map λt=>ax^eJ b a t)=(d.map^eJ b a).map ax:=by rw[cQ];rfl
  rw[pJ,ef,Z2];exists _,rfl;show p6^by rw[FM rfl];show q
def Qb:c7:=λd P=>∃(w:W)(a:!!(Nat×Nat))(c:!(Nat×Nat))(b:!Nat)(f:Nat),d= [.gB w,bA w,aD b,ax f]/\Tk w a c/\b.length=c.length/\(∀x∈b,1<=x/\x<4)/\f<4/\P^.bl L
def BU:Dk P w base 9 T.v3^aR Z Qb:=by
 have u:=qS.nd;apply bo T.v3.F qS [0,0,0,0,0,0,0,1,1] ∅ (λds R h=>by let#[_,_,_,_,_,rfl,_]:=h;rfl)^λaZ A outer s H E ds R e h=>?_
 have l:=e.units
 apply#[_,(aq (aX At 4 u^nX AV rfl T.B.list mS^ae (aa 2) ag)
   (aq (aX At 5 u^bM^ae ig^ae (aB T.uz (GA T) e^ae (aa 1)^ae (aa 2) ag) ag)
   (aq (cT (kI^ik^aB T.uw (BS T) e^ae (aa 1) ag) (aw^aX At 5 u^bM^ae ig^ae (bM^ae (aV dX rfl T.B.len dW^ae (aa 1) ag)^ae (aV dX rfl T.B.len dW^ae (aa 2) ag)^ae (aV dX rfl T.B.len dW^ae (aB T.ut (gx T) e^ae (aa 1) ag) ag) ag) ag) bq)
   (aq (cT (bB EU (dN (aa 5) aL) fe^aU _) (aq (aX At 6 u^kG^ae (iS (i3 l) (dN (aa 5) aL) ig^aU _)^ae (iS (i3 l) (dN (aa 5) aL) ig^aU _)^ae mq^ae mq^ae mq ag)
   (aw^aS^Ak (iS (i3 l) (aB T.v0 (yw T) e^ae (aa 0)^ae (aa 4)^ae (aa 3) ag) (aa 5)^aU _)^Ak (iS (i3 l) (aB T.v1 (BR T) e^ae (aa 0)^ae (aa 4)^ae (aa 3) ag) (aa 6)^aU _)^Ni^iS (i3 l) (aa 4) (aa 2)^aU _)) bq)
   (aq (gL 7 u^xJ T.ui (qu T) e^ae (aa 0)^ae (aa 4)^ae (aa 3) ag)
   (aq (cT (DW.dt^qa (kI^ik^aB T.v2 (DY T) e^ae (aa 7)^ae (aa 1)^ae (aa 2)^ae (aa 3) ag)^vL^bB (qt l) (aa 4) (aa 2)^aU _) (aw^aS mq) bq)
   (aq (Rc 8 u^Q4 rfl rfl T.B.list mS^aa 7)
   (aq (Rg 7)
   (aq (iT At 7 aL)
   (fL 8
   (aw^aS^iS (i3 l) (aB T.ui ((qu T).imp spF) e^ae (aa 0)^ae (aa 4)^ae (aa 3) ag) (aa 8)^aU _))))))))))),?_]
 let#[b,c,a,X,f,rfl,ok,ml,m4,Y',q]:=h;have g:=ok.g;have h14:=ok.h14;have L':=ok.rs.EO g;have acn:=ok.rounds.2.2
 obtain⟨v,rfl,j⟩:∃v:Nat×Nat->Nat,X=a.map v/\∀t,v t<4:=by
  apply#[λt=>X.getD (a.idxOf t) 0,?_,λt=>VP (λx hx=>(m4 x hx).2) _];apply nN λi=>?_;rw[dF]
  by_cases hi:i<a.length
  .rw[bT hi,yR,ok.nodup.idxOf_getElem i hi,cy,bT ()];rfl
  .rw[eF (),eF ()];rfl
 have es:AT (("odd":fC)="plane")=false:=by nofun
 have e1:AT (("plane":fC)="plane")=true:=by nofun
 have e2:AT (("plane":fC)="odd")=false:=by nofun
 have e3:AT (("odd":fC)="odd")=true:=by nofun
 exists _,rfl,trivial
 obtain⟨o,ho,hc⟩:∃o:D,(∀P:D->Prop,P o->UE [bA b,aD^a.map v] P)/\((o= .aT/\∀p,p<b.length->fw v p a=0)\/∃p,o=ax p/\p<b.length/\fw v p a≠0/\∀m,m<p->fw v m a=0):=by
  by_cases y:∀p,p<b.length->fw v p a=0
  .show#[.aT,λP h=>#[b,c,a,v,Y,ok,j,λp r k _=>absurd (y p r) k,λ_=>h], .inl #[Y,y]]
  .have ex:∃x∈aj b.length,(λp=>AT (fw v p a≠0)) x=true:=by
    apply FS ?_;show λz=>y λp r=>FS λn=>z #[p,gf.mpr r,FM n]
   have C:=aeP ex;have hn:=List.findIdx_getElem (w:=C);rw[HC] at hn;rw[jb] at C;have k:=KF hn
   have lo:∀m,m<(aj b.length).findIdx (λp=>AT (fw v p a≠0))->fw v m a=0:=λm hm=>by
    have:=List.not_of_lt_findIdx hm
    rw[HC] at this;simpa using this
   apply#[ax ((aj b.length).findIdx λp=>AT (fw v p a≠0)),λP h=>#[b,c,a,v,Y,ok,j,λp r I J'=>?_,λz=>absurd (z _ C) k], .inr #[_,Y,C,k,lo]];generalize (aj b.length).findIdx (λp=>AT (fw v p a≠0))=M at*
   obtain rfl:p=M:=by
    rcases aey p M with h|h|h
    .show absurd (lo p h) I
    .show h
    .show absurd (J' M h) k
   show h
 exists _,rfl,_,rfl;dsimp only[k4];apply ho _ #[by change 2<=sizeLine;decide,trivial,?_]
 apply#[_,Y,b,c,a,Y,ok,λpl=>#[Y,c8 ?_],λn=>#[Y,cX ?_]]
 .rcases hc with ⟨rfl,y⟩ | ⟨p,rfl,r,k,lo⟩
  .apply#[_,Y,_,Y,_,Y,c8 ?_]
   apply#[_,Y,_,Y,_,Y,b,c,a,v,f,Y,ok,j,Y',pl,y,λN dl d4 d0 me=>#[_,Y,?_]];have em:a.map v=a.map^eJ c N:=(zL me).symm;apply#[_,Y,_,Y,_,Y,_,Y,b,c,a,N,f,by rw[em];rfl,ok,dl,d4,d0,Y,c8 ?_]
   exists _,rfl,_,rfl;apply(?_:Ia (aD^a.map v) (aD^a.map v) _);apply Ib #[_,Y,?_];rw[FM rfl];apply c8 ?_;exists _,rfl;exists fT _;exists _,rfl;apply#[_,Y,trivial,bE^by rw[List.length_reverse,aG];lia,?_]
   apply#[#[_,Y],_,Y,_,Y,_,Y,b,c,a,v,f,Y,ok,j,Y',pl,y,λO Q d42 S U=>#[_,Y,?_]]
   obtain rfl:O=N:=zp g L' (ok.rs.side g).1 Q dl (S.trans d0.symm) λp q' d=>by
    have mt:=ok.pm.mem_iff.mpr^BI g (p:=p) (q:=q') d;rw[U _ mt,me _ mt]
   apply(?_:FF (aD O) (aD O) _);show p6^by rw[FM rfl];show q
  .apply#[_,Y,_,Y,_,Y,cX ?_]
   apply#[_,Y,_,Y,Ny ?_];rw[es];apply#[_,Y,_,Y,Ny ?_];rw[e3];apply#[by change 5<=sizeLine;decide,trivial,?_]
   apply#[_,Y,_,Y,_,Y,b,c,a,v,f,Y,ok,j,λn=>absurd pl n,λ_=>#[p,r,k,lo,_,Y,?_]];apply Bf (neg:=At) (x:= .int (p:Int)) rfl (by simp[PyData.depth]) (by simp[PyData.eqv]) #[_,Y,cX ?_]
   apply#[_,Y,_,Y,_,Y,b,c,a,v,f,Y,ok,j,λn=>absurd pl n,λ_=>#[p,r,k,lo,_,Y,?_]];show#[_,_,Y,Y,∅,_,Y,cX #[_,Y,_,Y,p6^by rw[FM rfl];show q]]
 .apply#[_,Y,_,Y,_,Y,b,Y,g,ok.h1,h14,λG fH=>?_]
  obtain rfl:=fH.uniq g ok.rs;apply#[by change 3<=sizeLine;decide,by change 2<=sizeLine;decide,trivial,?_]
  apply#[_,Y,_,Y,_,Y,cX ?_];apply#[_,Y,_,Y,Ny ?_];rw[e1];apply#[_,Y,_,Y,Ny ?_];rw[e2];apply#[by change 5<=sizeLine;decide,trivial,?_]
  have ec:yX b G= .tup [.int ((b.map aD).length:Int), .int (((a.map v).map ax).length:Int), .int ((G.map l6).length:Int)]:=by unfold yX tc;rw[aG,aG,aG,aG,ok.pm.length_eq]
  apply#[_,Y,_,Y,_,Y,b,G,a,v,f,Y,ok,j,λ_=>#[_,Y,?_],λpl=>absurd pl n];rw[ec];apply OF (neg:=At) #[_,Y,cX ?_];apply#[_,Y,_,Y,_,Y,b,G,a,v,f,Y,ok,j,λ_=>#[_,Y,?_],λpl=>absurd pl n];show#[_,_,Y,Y,∅,_,Y,cX #[_,Y,_,Y,p6^by rw[FM rfl];show q]]
def GX:c7:=λb P=>∃(a:!Int),b= [.nI a]/\a.length<=63/\P^.bl L
def WJ:Dk P w base 10 T.v4^aR Z GX:=by
 have i:=Ob.nd;apply bo T.v4.F Ob [0,0,0,0,0,0] ∅ (λI R h=>by let#[z,rfl,D]:=h;rfl)^λS A outer s H E I R a h=>?_
 have U:=a.units
 apply#[_,(aq (aX At 1 i^aB T.us (GB T) a^ae (aa 0)^ae aL^ae (iS yu (fm Ar (aB T.uj (sY T) a^ae (aa 0)^ae aL ag) aL) aL^aU _) ag)
   (aq (aX At 2 i^QX T.v8 (yv T) (a.mono ∅) rfl T.mC T.v9^ae (nY (NC:= ["_law_turn"]) (src:= [V]) rfl (pZ^au Cj) trivial (bD^aa 1) (λ_ _ _=>(bC 0 (show(["_law_turn"]:!fC).Nodup from by nofun))) (λ_ _ _=>dQ)^λ_ _ _=>(nX AV rfl T.B.list mS^ae (aa 0) ag)) ag)
   (aq (aX At 3 i^aB T.uy (qz T) a^ae (aa 0)^ae (aa 1)^ae aL ag)
   (aq (aX At 4 i^aB T.uy (qz T) a^ae (aa 0)^ae (aa 1)^ae aL ag)
   (aq (aX At 5 i^fm Ar (aB T.uj (sY T) a^ae (aa 0)^ae aL ag) aL)
   (aw^aS^aV (Vm rfl) rfl T.B.all Vl^ae (nY (NC:= ["_law_some","_law_web_here","_law_turns","_law_first"]) (src:= [V,J 2,J 1,J 5]) rfl (pZ^au Cj) #[Y,Y,Y,Y,Y,Y,trivial] (bD^kG^ae (aa 3)^ae (aa 4)^ae (aa 3) ag) (λ_ _ _=>(bC 0 (show(["_law_some","_law_web_here","_law_turns","_law_first"]:!fC).Nodup from by nofun))) (λ_ _ _=>dQ)^λ_ _ _=>(aB T.v3 (BU T) a^ae (aa 1)^ae (aa 2)^ae (aa 0)^ae (aa 3) ag)) ag)))))),?_]
 let#[j,rfl,X,q]:=h;apply#[_,Y,_,Y,j,5,Y,∅,λv=>?_]
 apply#[by change(0:Int)<4;decide,?_]
 apply ltC ?_;apply#[j,14,_,Y,∅,∅,λb g k n=>#[trivial,?_]]
 apply#[_,Y,rR (ρ:= [V]) aD aD b _ (λy d Y' h=>#[_,Y,h]) rfl (small ()) λJ'=>#[b,Y,g,k,n,trivial,?_]]
 apply#[_,Y,_,Y,j,b,6,Y,g,k,n,∅,λL' e M srt t u=>#[trivial,?_]]
 apply#[_,Y,_,Y,j,b,8,Y,g,k,n,∅,λo c C G p r=>#[trivial,?_]]
 obtain rfl:o=L':=adV (λ_ _ _ _=>kP) G srt^C.trans M.symm;apply#[_,Y,j,10,Y,∅,λl=>#[by change(0:Int)<4;decide,trivial,?_]]
 obtain⟨f,N,O⟩:∃f:Nat,l%4=(f:Int)/\f<4:=#[(l%4).toNat,(),()]
 dsimp only;rw[N];let#[m,Q]:=Zh g k;have ok:Tk b m o:=#[g,k,n,Q,C,G];apply#[_,Y,_,Y,_,Y,by change 3<=sizeLine;decide,?_]
 have all:∀y∈ [e,c,e],y.length=o.length/\∀x∈y,1<=x/\x<4:=λy d=>by
  simp only[bQ,zN,aeI] at d
  rcases d with rfl|rfl|rfl
  .show#[t,u]
  .show#[p,r]
  .show#[t,u]
 apply(?_:lcW _ _ _ ([e,c,e].map aD) _ _ _);apply rR (ρ:= [V,J^.gB b,J^bA b,J^ax f]) aD (λ_=> .bl L) [e,c,e] _ (λy d Y' h=>#[_,Y,_,Y,_,Y,_,Y,b,m,o,y,f,Y,ok,(all y d).1,(all y d).2,O,h]) rfl (by change 3<=sizeLine;decide) λJ'=>?_
 show#[[L,L,L],Y,q]
set_option hygiene false in
local macro_rules| `(tactic|and_intros)=> `(tactic| (intro _ _ _ _ _ _ _ hl;first| (let#[_,rfl]:=L2.YB hl;rfl) | (let#[_,_,rfl]:=L2.YC hl;rfl) | (let#[_,_,_,rfl]:=L2.YD hl;rfl) | (let#[_,_,_,_,rfl]:=L2.aci hl;rfl) | (let#[_,_,_,_,_,rfl]:=L2.m7 hl;rfl)))
def all_mk{l:cP}{w:f8}(X:K.In h)(G:h.Ns f5 d)(B:d "law"\(.ref fa)) 
  
  
  
  
  
  
  
  
  
  
  
  
  
  
  
  
  
  (gC:aN K f5 "Web"\(J^.ref C))
  (a0:fK K "round_from" mL)
  (a1:fK K "lands" qL)
  (a2:fK K "count" Ci)
  (a3:fK K "is_plane" qK)
  (a4:fK K "need_plane" mK)
  (a5:fK K "is_among" qJ)
  (a6:fK K "alien_fault" lB)
  (a7:fK K "self_fault" mM)
  (a8:fK K "twice_fault" lF)
  (a9:fK K "lone_fault" mJ)
  (a10:fK K "reached_from_first" eV)
  (a11:fK K "apart_fault" lC)
  (a12:fK K "first_fault" lE)
  (a13:fK K "sides_of" qM)
  (a14:fK K "land_numbers" iA)
  (a15:fK K "need_even" kN)
  (a16:fK K "land_dyes" i7)
  (a17:fK K "_law_cell" wH)
  (a18:fK K "_law_mixed" tq)
  (a19:fK K "_law_digits" qH)
  (a20:fK K "_law_take" wI)
  (a21:fK K "_law_tree" wJ)
  (a22:fK K "_law_next" oO)
  (a23:fK K "_law_round" mI)
  (a24:fK K "_law_tie" zw)
  (a25:fK K "_law_renamed" pq)
  (a26:fK K "_law_web" zx)
  (a27:fK K "_law_lands" mF)
  (a28:fK K "_law_by_side" j9)
  (a29:fK K "_law_ties" kM)
  (a30:fK K "_law_plane" mG)
  (a31:fK K "_law_dyes" i6)
  (a32:fK K "_law_marks" ic)
  (a33:fK K "_law_odd" qI)
  (a34:fK K "_law_refused" kc)
  (a35:fK K "_law_kinds" mE)
  (a36:fK K "_law_good" kL)
  (a37:fK K "_law_right" mH)
  (j:Ve K "law" E)
  (l38:Dg K "law" "law" Cj E F H I J' L' M N Yb O)
  (c38:bi K Yb "law"=L)
  (k38:am K^.ref E=L)
  (m0:ad K (.ref C) "__init__"\(J^.ref g))
  (f0:cb K^.ref g=L)
  (ml0:Dg K "__init__" "Web.__init__" fS g Q R S U Y' jo0 jp0 i jt0)
  (mc0:bi K i "Web.__init__"=L)
  (mk0:am K^.ref g=L)
  (m1:Ku K C "many" "Web.many" qG)
  (m2:Ku K C "turns" "Web.turns" wG)
  (m3:Ku K C "ties" "Web.ties" l5)
  (m4:Ku K C "tied" "Web.tied" zv)
  (m5:Ku K C "behind" "Web.behind" mD)
  (pgC:cI K C Str.empty=L)
  (VV:cq K C=L)
  (poC:df K C=L)
  (saC:ad K (.ref C) "__setattr__"\(J^.builtin "object.__setattr__"))
  (mkC:dV K C=L)
  (kpC:am K^.ref C=L)
  (nR:ad K (.ref C) "rows"\V)
  (xn:bv K (.builtin "object.__class__") "__get__"\(J^.builtin "getset_descriptor.__get__"))
  (xt:dz K^.builtin "object.__class__"\L)
  (zVE:aN K f5 "ValueError"\V)
  (vQ:aN K f5 "MapError"\(J^.ref a))
  (IF:aN K f5 "TooMany"\(J^.ref k))
  (FU:aN K f5 "TooSmall"\(J^.ref m))
  (OV:aN K f5 "NoWeb"\(J^.ref n))
  (FT:aN K f5 "NotPlane"\(J^.ref b))
  (K5:aN K f5 "NoText"\(J^.ref o))
  (FR:aN K f5 "NoCorner"\(J^.ref p))
  (K4:aN K f5 "NoRing"\(J^.ref q))
  (OU:aN K f5 "Alike"\(J^.ref r))
  (K7:aN K f5 "TooFew"\(J^.ref t))
  (IE:aN K f5 "NotFree"\(J^.ref u))
  (Dz:aN K f5 "NotFilled"\(J^.ref x))
  (VQ:aN K f5 "Odd"\(J^.ref c))
  (K3:aN K f5 "Bridge"\(J^.ref y))
  (K6:aN K f5 "Shared"\(J^.ref A))
  (Ho:XEt K a)
  (xg:Zk K a b)
  (Om:Zk K a c)
  (sgM:bv K (.ref a) "__getattribute__"\(J^.builtin "type.__getattribute__"))
  (rdM:dS K a^.type "type"=L)
  (fcM:d3 K (.ref a) (.type "type") "__init__"\(.val^.builtin "ValueError.__init__"))
  (Hq:Vc K b "NotPlane.__init__" gy)
  (sO:ad K (.ref b) "counted"\V)
  (Hr:KitX K b [k,m,n,o,p,q,r,t,u,x,c,y,A] [c] [a,b])
  (XY:Vc K c "Odd.__init__" j8)
  (Gz:ad K (.ref c) "point"\V)
  (XZ:KitX K c [k,m,n,b,o,p,q,r,t,u,x,y,A] [b] [a,c])
  (abe:aN K f5 "__name__"\(J^.str "law_mapdye_k73_whole_any_ties_dyes" f))
  (cc1:aN K f5 "MOST_POINTS"\(J^.int 14 Qh))
  (ade:pW K "len")
  (X3:pW K "range")
  (adf:pW K "max")
  (adg:pW K "min")
  (Km:pW K "enumerate")
  (adj:pW K "zip")
  (Va:pW K "sorted")
  (ada:pW K "all")
  (Hv:pW K "isinstance")
  (adb:pW K "int")
  (aaZ:pW K "bool")
  (aa1:pW K "list")
  (X4:pW K "tuple")
  (adi:pW K "sum")
  (M7:pW K "reversed")
  (adh:pW K "set")
  (aa0:pW K "dict")
  :∃fd:hQ,(∀(s:c_)(v:b_),BindsTo s fd #[[v],[]] [("_law_script",v)])/\∀base:Heap,K.In base->base.Ns f5 d->FnOk l.prog w K d base fJ 40 fa fd ["_law_script"]^L2.wY K:=by
 have e:=B.symm.trans^On X G j;cases e;have E0:=n9 (st:=fS) ml0 mc0 mk0;have e0:=E0.binds (ps:= ["self","turns"])^by and_intros
 let Z:DC:=#[K,C]
 let T:Txt Z d:=#[#[KM X G ade,KM X G X3,KM X G adf,KM X G adg,KM X G Km,KM X G adj,KM X G Va,KM X G ada,KM X G Hv,KM X G adb,KM X G aaZ,KM X G aa1,KM X G X4,KM X G adi,KM X G M7],KM X G adh,KM X G aa0, .ch X G a0^by and_intros, .ch X G a1^by and_intros, .ch X G a2^by and_intros, .ch X G a3^by and_intros, .ch X G a4^by and_intros, .ch X G a5^by and_intros, .ch X G a6^by and_intros, .ch X G a7^by and_intros, .ch X G a8^by and_intros, .ch X G a9^by and_intros, .ch X G a10^by and_intros, .ch X G a11^by and_intros, .ch X G a12^by and_intros, .ch X G a13^by and_intros, .ch X G a14^by and_intros, .ch X G a15^by and_intros, .ch X G a16^by and_intros, .ch X G a17^by and_intros, .ch X G a18^by and_intros, .ch X G a19^by and_intros, .ch X G a20^by and_intros, .ch X G a21^by and_intros, .ch X G a22^by and_intros, .ch X G a23^by and_intros, .ch X G a24^by and_intros, .ch X G a25^by and_intros, .ch X G a26^by and_intros, .ch X G a27^by and_intros, .ch X G a28^by and_intros, .ch X G a29^by and_intros, .ch X G a30^by and_intros, .ch X G a31^by and_intros, .ch X G a32^by and_intros, .ch X G a33^by and_intros, .ch X G a34^by and_intros, .ch X G a35^by and_intros, .ch X G a36^by and_intros, .ch X G a37^by and_intros, .of X G j l38 c38 k38^by and_intros,#[#[pgC,VV,poC,saC],nR],On X G gC,g,_,E0,#[mkC,m0,f0,kpC],e0, .ch m1^by and_intros, .ch m2^by and_intros, .ch m3^by and_intros, .ch m4^by and_intros, .ch m5^by and_intros,#[xn,xt],KM X G zVE,a,On X G vQ,k,On X G IF,m,On X G FU,n,On X G OV,b,On X G FT,o,On X G K5,p,On X G FR,q,On X G K4,r,On X G OU,t,On X G K7,u,On X G IE,x,On X G Dz,c,On X G VQ,y,On X G K3,A,On X G K6,Ho.xe,xg.xe,Om.xe,#[On X G vQ,sgM,rdM,fcM],Ky.ch Hq (XE.obj xg.xe)^by and_intros,sO,Hr,Ky.ch XY (XE.obj Om.xe)^by and_intros,Gz,XZ,#[f,On X G abe],#[Qh,On X G cc1]]
 show#[_,λs v=> .of_eq rfl,λbase _ _=>(((WJ (P:=l.prog) (w:=w) (base:=base) T).mono ∅).imp^L2.Wo (Z:=Z))]
def walk{l:cP}{q:ff}{a:!fC}{i:(fC->Option b_)->Heap->Prop}{c:f8->Heap->Prop}{d:DefRec}{K:Params->ac}(j:l.most\63)(k:d.params.defaults= [])
  (m:∀(w:f8)(h:Heap),c w h->(K w.params).In h)
  (F:∀(w:f8)(b:fC->Option b_)(e:Ad)(h:Heap),(K w.params).In h->h.Ns f5 b->b d.name\(.ref e)->
   ∃g:hQ,(∀(s:c_)(u:b_),BindsTo s g #[[u],[]] [("_law_script",u)])/\∀base:Heap,(K w.params).In base->base.Ns f5 b->FnOk l.prog w (K w.params) b base fJ 40 e g ["_law_script"]^wY^K w.params):
  eh q a i c l.row.toRowW d [] (λf n=>ee f n):=L2.aaV 40 ∅ j k m F
end tQ
open Lean in
local macro_rules|`(universe $x*)=>do return mkNullNode (<-x.mapM λi=>`(theorem $(mkIdent ((`PySem.W.Fast).str s!"tw{i.getId.toString.foldl (λn c=>n*62+(if c.isUpper then c.toNat-65 else if c.isLower then c.toNat-71 else c.toNat+4)) 0}")):ident:True:=⟨⟩))
universe AnmfATV8EUj RAVLT492vvn QhhLM3H4x0a O2DSIy3jj4f Msj53cbTgus JPOUtl1FVXV NS0hkAj6bcs QjXntbpxrBQ Mb44djmXf91 Jtq1JKqZMSF EisfksFpvwJ Hn9TCclFpbc Lv32HkBHOQE EV6cSeC3Np9 VcH3lk46tkL KVFPKpGOCjw GtONa7sVxkG VFhYFUUnnIr Mr1A9OptKv2 B5TsiaT7nrB MQiuYQeAbtI AmQMnw4deps B4rTlpNnFnV IXFZQ40cNi8 VORHr7xob7M SeF9youJz5n HgtjpmoY6xJ LjPgPUflgTi Nlvlmkwrna0 HUhniPdlxGx K9PARfxqa46 I9KSI4HfPsL HMirNZq5r1p Tvrd87MzQjj Qray1TPtpHi DkaFnT1JYYe PNj29DBAABx E2rZFqUpOMA L8j9XuDMCY9 GoBnmNeLs7v OUzvDwmWYFr Tj70hnoXT5k G5vVmJY4EPR J3sHyoscxwX JE45LeV9u5c KE089urcs6V JpGera4zbyd E9pB2xYGm6g GMr5EKCqQRA UqujQ003prV Lfv6XhAMEku HLmppu3rMlI U7WwgNLinHd UW2cqbWzjAw CwWRgBhKODy HfTw2uapwW5 THg2z0YIEOn ORtcoC4b894 NVpCVMng9W6 P7RrZ9MX1Hg M3adixi4OEr Md6XXEBTfiN MRhfnIBWFgO Lwk3umsp8xf QWyJgkLzpjB BBqdSX2FmJh CIuubx5qqhM RK2n23V5Lw3 Ne5EA9xssVb VcfqwM9x2De Nn0OWFyp40w AwffapPRCvc DNGiX6ydGWL VrZUdPFnyHf HZVpBrAuNlo NDXaIvqgbZe Q2COWDiscTx VcgqTeNl0Pt VQePL5eIO9u DORQZxNcroT GxGIKbkEcys Frhw2vAVITT GYLC236D8Op FzFonU7amNt Hy7Vq7YPZsa Bmq53SlPtU1 CVDvfcNUWL5 LNAscnzSzc2 HT4Kzdz5zso F98xU1gGP7m KE1Gdpu4pwx SArcsnWjwbo VzmgvRktSxp EFsNB8zsOPe DrVQvZb3cGl KRZf7ub35mC FgzZ2PEftNr AY5c6XV1Jpl A46QSTli5Aq LrG0mTAduXK DAHrkm9SUvr GlQtg0bL9Fa EqHNxEGIATM DEqqKUB2Bc6 LNBjT4ktHgQ KM9BOdYh4Bo NQO8OKLNYeU HkxdtQtoMn9 O1ztjOldg5z NXSamk3uoNG NxAmBrlTJ9V Kl9WV1BYgcT DCzTzIDDNKg EfJaf35QlSX JI2MVWIfFGH SLdFiyFpTje JlVfpPd0C75 ETu3FEh2795 F9VBC50Y0LT K19vOvO4KRs DVOP2or78b2 KPAWNFnjNq0 H8MKhp5ZpOm UHLAGA001IR LsCyDRlgVsz LzvGaHpuTS8 GKw4vNgqqZh Sta7rgdwQXd IsY3Fbl9ptU MWwMXfBgv30 IgUPU2lHfWf TOYhsgkwt2Y HJbjQpA2ZSX HcLo4k6VtWv AtXKAgMj00h DIHmVRqGKuM Pc12XU0bf4r SmgRHkWIkxO LqVOKdz3gma CHOFjyqt0C9 I2kcEBqA9AY P5RSwQaOo7N IEPTaDrghCE Nl1fiidEW4A EKiQTwhpQ0N KcRutEsMp7g BkSHRkPJVtC En9EdZzYdI2 Pf3bInWSfhv UQkuFOkJzUE R5wWFJvTm5n Cdy3Ti9Sod8 DC9sa7PMw9k LO47SEPDRNZ AAXr3ZJHIkq ASBPEsNUjc9 Oe9UpUqSZeQ F7IYNzpiIzd VMHNzLzJEKY Qh73o0E59SJ EJX8pyjpX9n Vjy498uy1GC OMzVZAjqIhC F0H6sZ00afI Q0AkD0Ius2S Heje1CeYaXL DGz3uEKFTlm O7lFT9O2kSK SdQA6wZ6fqc FSRizuc7CrY GePFohf7Hka C6Cj8s76IUK B8jV383WyMf T0tOjIjboaD ScFvokrTR0x PS6etq3W3i5 Ot2hjo9Ligz VUO2KgWGvsX CPmNBf1pwy0 JxYRKaBZuAB GCff0uE1Zmb G3fecZAawEt TzyBNzEwq2x AuHvZzmdy9J UTtW3YywRGT MP1ah9trAsy QVpMTmtWCru VzRmNaErzpM BWvMU1AMcnY QuZiQTETDZ1 PbcltYNxeQw CHIrPDUZliF A1kAeDrg2mc SUreWOozCIP T5aJpGDoA10 SJqhG78TObP MHbf6RkatdM NnNsO7hpXV2 Qi90iZ94Fva R16sskP2eeL J5rKPCahRUB M3NevAVabpo KMyFmJMLqTl IeaC3IlxJYE IA8woO1C5hy N5be1EsDCq2 DUKCBP4XYXn SCR54npHtv9 NGMwHr1fhoh GiwAMgrJ7GO BqxPm1VkAgS QM7HKKbp4rd RnLIL35rMaE KGm4X0kJIcu Uev8JoBj0WG JABwHwaPNy2 Mhr8F8H96Af Ml4jhOeEBDY J81BRpkMI6p FRfGSVlXGbt Q8GXeDisZYw CQlFgOBslOp EZQtUdKLuj8 MKAOWJyJ2eA Iz4Dxmivhoj CvV2xpoNtrZ Kh0Th2JLtbz B4Pl1OlmfIo QsGz282Szsw QMhPeYB7tV1 KkP0ojW8laF Ungg98BwtNZ VhJlu4XFA8A PqCA6FfyD5C C3GLdXhD0Nz S7RkateX35U DXF2bi5NmSa V6MY0kOUP8t O2MQYFPUGTl A7fizLc5ek6 TWrxIU6Q0tS GgPHU0Ebo10 LBVrtdBbAOr Rk8tdEfFlBK DW4ZkBmatr9 L4L0LKOIhRX KMTa6YTBlUh PZwFhwq9sfY JJkpQLmYyBT TpsgCI1Zdnw McZpeg1KX5i KrzhveVx99U FGxFSlg5gi5 HfasDq0xBcU Uq1AgZ9Njne DIhlpfXu5Ez IEjDRBUoScn NlN4ZBhWMbC BCVm7TvmPYv KULCGVEbvUL NgZdHR0lWOH DhdFfCkX00C Kk6UaJJFDGB FCaDzdCHLIc Ult6lyFE9iS Tk5sEEIzptX ECeOh3GvaSq L7PbqmtN0JY CrnKRKEOAUI GZmRqX2SagU KaUNzoJ6gDY Mrm1GFnjbPI FgK1xDttzc2 KCw1Nc22DBE F02h9dkkCCE NUaDJ5pjqcU F3WgW1dO8mu AaElUWwmalD HSALoOoLCx2 RyxLOrv8K0N NjicUlu2w3n RcB6ivNIhVD EqnzPgPRBpY BTqOYE007xx DAe9qekpBOf RloGkJhGexh TxgJVneoRva U0CIsodax6X RT1rKzeEgMi JDgr8G4AaGL NDRYuctJHvo UNAQwcSmlGJ Jplzlpgrr5j GiLBngtj8SI Qk8kt8QlGY9 JEy7GALE96a TxqPUHrqKzX HbHOeDLHNaK JSbivrnR3KS IECnnKpbHAF LGM3KSl0alH QxudcGFXsLK JLrbtpYiv6P NNAuPOpFPdo OPNzerey84n V14JVWnpNg0 JSPupHp7wLo Est8SMEQrob ECfk8D3jf6F SQIcXELSjad EZtjKTwOZOF PRkru0vKABA EkVRKSrWkxx Noxc2X6wBpP JaDY0RInCJC V0VIA21zpAB AyVY9jgaMzB F7xHSdSkH0T T67ftqL7VUH NAxpakCxUEd MkI1OOtymat TKnR0b17IU1 KnYgQcpDMS9 HiXcnaIawbN CwtFJhQc97e N8E20NLb5DP UtUHcOfgzGn KopA3cZieTS NIC4f5Nd3Mh DrAkYAQaAL4 PijPnmz8Zwz O1YGBoRZV85 Crtrd3je35H KD9Tsb7E81r EdKa4nWMt5v D2ABwgEtFHa CB0kV3HK4o1 FZd3CMC0DpP KPl5UK4fWUn OmgeZhx1geG MI4s09Ey05w S0JBdTFvDDD Ov12OY6jagR Uc3DfpTWQD0 UNfIe9sAqTw JAwBNGnPg0W KlVIai10pux SQO3uvmuJtX C9DeghUU94j AcR1YgGKrS8 N46R56NMYY1 ReYvetqZihQ QIQzPzcUwFR FStVaf96rY6 AihIU460xtk TazSVfJJ37N CbBVIvvkYk7 QcbLOI0EPHd F6Tf2NSzUkR O41FffeXXV4 BDwqzp3TCkK PPKqyiBq5Cd QaRa02pA64p PTyG9S9QXQT VEUXmDGTaAD TxDcTY14lht HKArSvIoQHE OkM2mq7kmXo RDhAUAIiAMr EuMi8YmiTJc HOQVpnr1CZf V20YUyZ19Pl KgzZuw2K8iq ElxDfFR51hG SJuAlCsNzY9 VHWlG1ygsAu Kp7s1ZsxJoz Ql3D8uRwmro HpdUtW873uv Jy3bVF6uubT GSl3p36F2M5 APhbaqlCeLX UntFmwvBEPH TRg3DOxdOmd Lv9wzZVS2wj MKAEPwZ16xG J8CNk8lI6gk H6q2mKogI8K LNp23vRv8wA A2vEmJVuCix R0r9zSNTvoI S0ZHr6p207w R2VWfzQV57W SlvVT6CLQ6Q MECdkAr0ogR QlNDBX7VUKx HjZAoKsDz8c TKiaWHAI41v MkmWXKxxLi6 BswQXBOu5UQ MBbsbiFrxy1 TKim0Q1dCCB VP8vLKYgIAe ANvwqVWMjaK BUut8nk42De MFvwUOPe2y9 NELNAyWgIvO DhruTz7QgV4 CF2kDpYFNZQ FjsLbr2VC3w EvOrjmNKHpy DyngH8b3avN Cf50PPttJIi FsQpZ6XycV0 K3jejxiTLhk Bq2wfSw1w4d IpjnmNZ0kds VfUSfYJQ7XL PlGVVvUsviI PXjdVXHfN12 RzEhq6Pu8Ym Autcm8k2CiC AYETAouPinM RqNhTKU8OYZ TBiDPdNv3kt HduukQ9T6C7 VSJa2QPX7dT Mi4gebDpr5K D6rKHLpPXi5 OS8vIvsHXAS SFvCWf0Se30 LIjJMA4Tcqr C3GYAWZ3eUH BDVIiY9Rpy7 IGzQfBJs2Ix QjDzx1bzt9D TjAfhzsaHZ5 Amdr2peWKZu GfH8tfIho5a QgtDHqAKe8M C9dnssGN6iV VesSqrtbyiq Ir3Uy4d74II Tu93cAkrrGo H5PbpjBRyzm PjxpBfua4ZG T3dBOesxBO7 HlQK8tzXx4l GSeAg2K6X5y SqVXKDZu9Z7 HoIwHYoc0Nw MYk4GqOef7C QUSnniABIL2 CX5DoJcLKJy EJwhHheknG7 LG2sdnJR1yD A9S3uZpYO6m NBFYC44ku0M Dm7RKmyALyo Kd7xiZ4OmHC MkXcGEldKEB LA1t6fXBkqf Dae5jpLxP3p KqH02ptiSQS VD0Dg900AtN MwnFPmLCT6E KCmkS2xgqO4 FYNRf66viQH Q8jrs1zNOfc STDQWUkKwFT SGWqk4BsG9m QH2Nm9kybtq LVB03fkfNT9 NZSGMo6ae9q H2Y9e4jDMUJ IxTC94qvRJi FkSqSRR3Xbm M6Jg8VpcU54 OtIlioRfmnv QsZEbNCSjQe U4ZxXVVGOpn OEnXqsFHqbc EDORkkbwcOe P3bIE69JcXv ETJeJWK08mw MbDSDRGgVw1 AeUaHyXlCRg DbofQZIjx2N FKCdAaNzivE Ht7SkwgDoxU OxBuzOyGuQ9 FUWlh1dsYKE Sxeu6Siyx0A ChIlwzQS1w9 NNWR7UcrnSC Ea2fVjW9l0p UmwOg2fdl2L Gee1dLFPw2e KSuH8kGyZ9P QoR2yTii2DW BnuY7IZvHd9 Hs2KfnKTDFW Nkc6SZI86XN V8SMbn539IO If9Uzs8fShP O6CFL8uhTGO O7X0e83jsYZ NZewWGVgPPE EPmyyKpVsrH QiADX9d3qY3 Obx7nGzYVu0 B0zi4sYa14y Gnl3N0d2YMM TYeITtvNXZr O76bElqTi7I G5ydtBIIDV7 KklrWvkMYNq SnBMkEH1XfD Cv0mD2dhV5Z FGhT0Ws6XZZ FkTV5qmdWu0 SV2j9gZaM7M CWyIrrrbzE3 Uh3dFBhAHAG FgLJqmqqLxS JNxEjfEr9s7 OG1AyKHhLl3 LH7vjdVEsP2 Kx3qZ0YGyOF R2M58dQ4ep5 HPWOZUFWrhY TeQOwAuXbCo AyRvy3RZdJJ MvQ1UU9wIyn JntWpmsu9sy IZwIBZzyQUT F1sRVottffY LPX2N8wBWAI DXyIcX0atSV E54sinMyElu Lvk8wXIaSdH MyLo6EwstDT VtIiGaNFkDu AeO5zvuQtXb VfIxynJQT3i Ph4Um9esVlt Dur4IPK3nn2 VSOfl9FgR8p FKKVtum55Tp DyqY1fuydgh DyFn7C3EACy Hiqwp9usb2C J5u9yVOVVXd ONspXda4jIc MpYrGuax4n7 Aj3p7aRQeOn J89zCQTUIHh BoFv8s6qYiN BOeeRpJ4bNO N51Tfuaa372 Pir5bAzUA7f PIfnBr6Rci5 IyJxdyJz874 DQUo4ALffj1 RqOAkjyxg0y SxFh71nWbhG LCjvp44IRAu GdIf4IcCsvx FEHo9kuF7Y5 BZseSi39BSR Ut5AMmYajn5 LXgjUeszxBw IZ74EQasWrk TRmyNhz5vDc
open PySem PySem.W PyProof.Rows
set_option maxRecDepth 100000 in
set_option maxHeartbeats 0 in
theorem PySem.Challenge.cw_mapdye_k73_whole_any_ties_dyes_holds : PySem.Challenge.rw_mapdye_k73_whole_any_ties_dyes.Holds := by
 w_on;o_law;k_head;(case hw=>w_witness2)
 k_fill
 apply tQ.walk (l:=PySem.Challenge.rw_mapdye_k73_whole_any_ties_dyes) rfl rfl (λw h Y'=>PySem.W.kIn_of Y') ?F
 case F=>
  intro w mg fa h KX G Ln
  refine' tQ.all_mk KX G Ln ?_ ?_ ?_ ?_ ?_ ?_ ?_ ?_ ?_ ?_ ?_ ?_ ?_ ?_ ?_ ?_ ?_ ?_ ?_ ?_ ?_ ?_ ?_ ?_ ?_ ?_ ?_ ?_ ?_ ?_ ?_ ?_ ?_ ?_ ?_ ?_ ?_ ?_ ?_ ?_ ?_ ?_ ?_ ?_ ?_ ?_ ?_ ?_ ?_ ?_ ?_ ?_ ?_ ?_ ?_ ?_ ?_ ?_ ?_ ?_ ?_ ?_ ?_ ?_ ?_ ?_ ?_ ?_ ?_ ?_ ?_ ?_ ?_ ?_ ?_ ?_ ?_ ?_ ?_ ?_ ?_ ?_ ?_ ?_ ?_ ?_ ?_ ?_ ?_ ?_ ?_ ?_ ?_ ?_ ?_ ?_ ?_ ?_ ?_ ?_ ?_ ?_ ?_ ?_ ?_ ?_ ?_ ?_ ?_
  all_goals (try (first| (change _=_;k_is) | (refine' L2.dfH ?_ ?_ ?_ ?_<;>(try (change _=_;k_is))) | (refine' L2.mfH ?_ ?_ ?_ ?_ ?_<;>(try (change _=_;k_is))) | (refine' L2.KitX.mk ?_ ?_ ?_ ?_<;>repeat' (first|exact L2.Vi| (refine' L2.QD ?_ ?_) | (change _=_;k_is) |rfl)) | (refine' L2.XW ?_ ?_ ?_ ?_ ?_ ?_ ?_ ?_<;>(try (first| (change _=_;k_is) |rfl))) | (refine' L2.XX ?_ ?_ ?_ ?_ ?_ ?_ ?_ ?_<;>(try (first| (change _=_;k_is) |rfl))) | (refine' L2.jnH ?_ ?_ ?_ ?_ ?_ ?_ ?_ ?_<;>(try (change _=_;k_is))) | (refine' L2.Vg.mk ?_ ?_ ?_ ?_<;>(try (change _=_;k_is)))))



