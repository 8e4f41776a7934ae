import PyProof.Rows.All
import Wide.All
import OpenK.AllK
import Wide.FinOn
import Lean
import PyProof.EqAt
import PyProof.EqKinds
import PyProof.TupleCall
import PyProof.RaisesMany
import KE.KSortTup
import PyProof.NeKinds
import PyProof.SetKind
import PyProof.SetRoads
import PyProof.SetNew
import PyProof.WalksS
import PyProof.CollectWalk
import PyProof.TupleKey
import PyProof.IsRules
import PyProof.InstEq
import KE.KRevIter
import PyProof.FitsBits
import PyProof.P3Eq
import PyProof.ListRange
import PyProof.MeetsSeq
import PyProof.DictRoadsH
import PyProof.DictTruth
import PyProof.MinMaxWalk
import PyProof.Cells
import PySem.Challenge.RW_mapdye_k54_whole_five_dyes
local macro_rules|`(tactic|subst_eqs)=>`(tactic|first|exact Or.inl rfl|exact Or.inr rfl|exact Or.inr (Or.inl rfl)|exact Or.inr (Or.inr rfl)|assumption)
local macro_rules|`(tactic|bv_omega)=>`(tactic|exact ⟨rfl,rfl,rfl,by decide+kernel,rfl,by decide+kernel,by decide+kernel⟩)
local macro_rules|`(#[$x,$y,*])=>`(⟨$x,$y,*⟩)
local macro_rules|`(#[$x])=>`(⟨$x⟩)
local macro_rules|`(tactic|exists $x,*)=>`(tactic|refine⟨$x,* ,?_⟩)
local macro_rules|`(())=>`((by lia))
local macro_rules|`(∅)=>`((by decide))
local macro_rules|`(~~~$x)=>`((by simpa using $x))
local macro_rules|`($a\$b)=>`($a=some $b)
open PySem.W renaming Frag→ab,keepIn→ak,findIn→ay,emptyDict→bc,codeIn→bd,fnOf→bi,instObj→bj,isFn→bB,plainGet→bQ,hasDictIn→b4,nsIn→b5,OpenLaw→b6,lookIn→cc,plainOver→ce,methodObj→cf,takerIn→cr,makesIn→cs,kitOne→cy,WalkO→dm
open List renaming range→ac,replicate→aj,lookup→bv,length→b3,Nodup→dg
open PySem renaming Spec→bb,Within→ci,SetTable→c3,call→dc
open Array renaming replicate→cx
abbrev ir:=@if_neg
abbrev mo:=@if_pos
abbrev Gc:=@decide_eq_false
abbrev GM:=@congrArg
abbrev GT:=@decide_eq_true
abbrev IR:=@of_decide_eq_true
abbrev Pi:=@of_decide_eq_false
abbrev SC:=@if_false
abbrev aal:=@if_true
abbrev aap:=@beq_eq_false_iff_ne
abbrev aav:=@beq_iff_eq
abbrev aaC:=@decide_eq_decide
abbrev aaG:=@decide_eq_true_eq
abbrev abp:=@getElem?_pos
abbrev abS:=@bne_self_eq_false
open PySem renaming wpAny_pure→be,wpAny_holding→KF,wpAny_newObj_type→M2,wpAny_call_entry→On,wpAny_truthy_bool→P3,wpAny_setState_of→SB,codeAny_builtin→aai,wpAny_standAt→aan,plainId_quiet→aao,mem_of_lookup→aaq,wpAny_Call_Name_kw→aas,wpAny_passesOwn→aat,wpAny_rule→aau,wpAny_comprehension_free→aay,wpAny_askSetting→aaA,call_meets→aaE,wpAny_newList→aaH,wpAny_of_eq→aaI,wpAny_updateSeq→aaK,codeAny_mono→aaL,wpAny_seqItems→aaT,wpAny_tryCatch→aaU,wpAny_callSpecial?_slot→aaW,wpAny_storeSet_of→aaY,fits_of_scanBound→aaZ,wpAny_Call_method_late→aa2,codeAny_compStart_list→aa3,wpAny_forIn_list→abc,wpAny_execs_nil→abl,wpAny_ite_false→abq,pushCells_keeps→abw,wpAny_setEntries_of→abz,wpAny_ite_true→abB,sizeLine_eq→abD,wpAny_attempt→abN,wpAny_typeOf→abZ,codeAny_loop→ab2,codeAny_of_tree→acg,wpAny_specialOf→aci,wpAny_noted→acp,wpAny_letGo→acx,wpAny_setField→acB,eval_ListComp→acD
open PySem.Heap renaming get?_push_of_some→AC,lt_size→Fk,get?_push_size→GE,get?_update_other→KM,get?_update_self→SL,size_push→aax,size_update→aaB,get?_update_ne→aaD,get?_push_ne→aa1
open Option.some renaming inj→Da
open PyProof.Rows renaming wpS_bind→Do,wpS_pure→FM,wpS_mono→Os,wpS_forRange→PP,callWith_type1→aar,wpS_get→aaJ,size_push'→aaQ,args_list_sort→aaR,wpS_modify→aaS,wpS_lift→abf,slot_tuple_getitem→abk,get?_update_seq→abo,assignInOrder_cons→abE,listUpdate_at→abL,callWith_type→abO,evalArgs_nil3→abP,plain_sorted→ab3,entry_sorted→ab4,args_sorted1→ab5,subscriptTail_builtinR→aco,seqEpoch_at→acq,kind_sorted→acr,sortedAll_old→acE,sortedAll_at→acG,collect_list→acH
open Classical renaming byContradiction→FB
open PySem.PassesOwn renaming never→FS
open PySem.W renaming mg_none_of→KB,kia_one→SZ,mg_of→abb,plainGet_of→aby,callWith_K→abG,cellsFrom_some→acm
open PySem.F renaming plainAttrs_list→UF,plain_min_loop→W1,entry_min_loop→aa6,args_tuple_add_2→abY,slot_list_append→ab6,type_list_append→ab7,entry_tuple_add→acb,slot_tuple_add→acn,plainAttrs_set→acw
open PySem.Around renaming under_plainId→UV,in1_units→ab9
open List.cons renaming inj→Wp
open Prod renaming ext→aah
open PySem.Heap.SameBut renaming update→aaj
open Prod.mk renaming inj→aak
open List.Perm renaming append_left→aam,append_right→aa7
open PySem.Calls renaming call_function_entry→aaw,callWith_builtin→aaF,evalArgs_plain→abm,Name_function_global→abK
open List.Pairwise renaming imp_of_mem→aaz
open PySem.SeqAt.EqAt renaming int_int→aaM
open Array renaming size_setIfInBounds→aaN,getElem?_setIfInBounds→abA,toList_filterMap→acs
open PySem.SetTable renaming toList_insertAt→aaO,insertAt_perm→aa5
open PySem.Obj renaming data_mapFields→aaP
open Iff renaming rfl→aaV
open List renaming length_eq_zero_iff→aaX,drop_of_length_le→aa4,any_cons→aa8,map_drop→aba,isEmpty_nil→abd,append_inj'→abe,set_getElem_self→abg,countP_mono_left→abh,pairwise_flatten→abi,count_cons_of_ne→abj,pairwise_append→abn,mem_of_mem_take→abt,eq_nil_iff_forall_not_mem→abu,reverse_reverse→abv,filterMap_cons→abx,count_set→abC,mem_filterMap→abF,zip_cons_cons→abH,getElem?_take→abI,take_sublist→abR,getElem?_inj→abV,count_replicate_self→abW,map_nil→ab0,not_mem_nil→aca,pairwise_singleton→acd,of_mem_zip→ace,foldl_cons→acf,idxOf_cons→acj,getElem_replicate→acu,getElem?_eraseIdx→acv,drop_drop→acz,count_nil→acC,sum_cons→acF
open Nat renaming add_mod_right→aa0,lt_trichotomy→abU,ne_of_gt→abX,add_comm→ab1
open Bool renaming not_true→aa9,or_eq_true→abr,not_eq_true'→abT,eq_iff_iff→ack,and_false→acy,not_false→acA
open Int renaming emod_lt_of_pos→abJ,emod_nonneg→ach
open PySem.MeetsSeq3 renaming plain_eq_loop→abM
open PySem.Value renaming isInt_shape→abQ
open Nat.succ renaming inj→ab8
def ai{g:Prop}(h:∀G:Prop,(g->G)->G):g:=h g id
set_option hygiene false in
local macro_rules|`(tactic|rfl')=>`(tactic|refine ai fun G0 k0=>?_)
set_option hygiene false in
local macro_rules|`(tactic|ac_rfl)=>`(tactic|refine k0 ?_)
set_option Elab.async false
set_option linter.all false
set_option maxRecDepth 100000
abbrev aG:= @List.length_map
abbrev bK:= @List.getD_eq_getElem?_getD
abbrev cv:= @List.getElem?_eq_getElem
abbrev bF:= @List.mem_cons_self
abbrev df:= @List.getElem?_eq_some_iff
abbrev cm:= @List.mem_cons_of_mem
abbrev cA:= @List.length_append
abbrev cH:= @List.mem_singleton
abbrev bT:= @List.mem_append
abbrev eZ:= @List.mem_append_right
abbrev aY:= @Nat.le_refl
abbrev bh:= @List.mem_map
abbrev bu:= @List.mem_cons
abbrev bW:= @List.getElem?_map
abbrev b8:= @List.length_cons
abbrev cP:= @Bool.false_ne_true
abbrev b9:= @List.mem_range
abbrev cQ:= @List.size_toArray
abbrev dY:= @List.mem_of_getElem?
abbrev cU:= @List.nodup_append
abbrev bP:= @Nat.ne_of_lt
abbrev cI:= @List.nodup_cons
abbrev eN:= @List.mem_append_left
abbrev eD:= @Array.length_toList
abbrev cV:= @List.length_set
abbrev cW:= @List.map_append
abbrev fY:= @List.getElem?_set_self
abbrev fA:= @List.getElem?_set_ne
abbrev cw:= @List.map_map
abbrev fZ:= @List.getElem?_eq_none
abbrev cX:= @List.map_cons
abbrev gD:= @Array.getElem?_toList
abbrev fB:= @List.length_range
abbrev iT:= @List.take_append_drop
abbrev kU:= @List.getElem?_append_right
abbrev gQ:= @Bool.false_eq_true
abbrev kW:= @List.getElem?_append_left
abbrev iU:= @Nat.lt_of_lt_of_le
abbrev dZ:= @Nat.zero_le
abbrev h8:= @List.append_assoc
abbrev gE:= @List.mem_filter
abbrev mY:= @List.drop_eq_getElem_cons
abbrev ik:= @Nat.mod_eq_of_lt
abbrev oh:= @List.nodup_iff_pairwise_ne
abbrev gF:= @List.nodup_nil
abbrev i4:= @List.pairwise_map
abbrev jG:= @List.flatten_cons
abbrev iV:= @List.append_nil
abbrev iW:= @List.length_nil
abbrev qo:= @Array.getElem?_eq_getElem
abbrev jT:= @List.mem_flatten
abbrev kX:= @List.length_take
abbrev ur:= @List.perm_ext_iff_of_nodup
abbrev lJ:= @List.perm_append_comm
abbrev lK:= @Nat.le_of_not_lt
abbrev lN:= @List.lookup_cons
abbrev lO:= @List.getElem_mem
abbrev i5:= @Nat.le_trans
abbrev lP:= @List.nil_append
abbrev rm:= @List.length_singleton
abbrev qp:= @List.getElem?_range
abbrev uu:= @List.getElem?_cons_succ
abbrev rz:= @List.count_cons_self
abbrev uv:= @List.length_pos_of_mem
abbrev we:= @List.idxOf_lt_length_iff
abbrev qq:= @List.getElem?_set
abbrev qs:= @Nat.lt_succ_of_lt
abbrev lQ:= @Nat.lt_irrefl
abbrev qt:= @List.mem_reverse
abbrev rA:= @List.ext_getElem?
abbrev rB:= @Bool.eq_false_iff
abbrev A3:= @List.countP_eq_length_filter
abbrev rD:= @List.take_length
abbrev wg:= @List.getLast?_concat
abbrev A4:= @Array.getElem?_eq_some_iff
abbrev zC:= @List.drop_eq_nil_of_le
abbrev uw:= @List.count_append
abbrev wj:= @List.replicate_succ
abbrev wo:= @List.map_congr_left
abbrev wq:= @List.flatten_append
abbrev zD:= @List.length_replicate
abbrev ux:= @Bool.and_eq_true
abbrev A5:= @List.set_eq_of_length_le
abbrev zE:= @List.getElem?_of_mem
abbrev zF:= @List.mem_iff_getElem
abbrev A6:= @List.getElem?_replicate
abbrev wu:= @Int.toNat_natCast
abbrev E3:= @Array.getD_eq_getD_getElem?
abbrev zG:= @List.length_pos_iff
abbrev zH:= @List.pairwise_lt_range
abbrev uy:= @List.nodup_range
abbrev uz:= @List.take_succ
abbrev A7:= @List.concat_eq_append
abbrev A8:= @List.length_filter_le
abbrev E4:= @List.getElem?_take_of_lt
abbrev A9:= @Array.toList_append
abbrev qu:= @Nat.mod_lt
abbrev uA:= @Nat.sub_self
abbrev Ba:= @List.getElem_idxOf
abbrev Bb:= @List.count_pos_iff
abbrev zv:= @List.eq_nil_or_concat
abbrev CD:= @Array.perm_iff_toList_perm
abbrev vv:= @List.flatMap_cons
abbrev vw:= @Array.toList_push
abbrev nS:= @Nat.le_succ
abbrev qk:= @Nat.le_of_lt
abbrev qm:= @Nat.zero_add
abbrev vx:= @Nat.lt_succ_self
abbrev vy:= @List.length_drop
abbrev vz:= @List.filter_cons
abbrev vA:= @List.cons_append
abbrev vB:= @List.map_reverse
abbrev vC:= @List.all_eq_true
abbrev zw:= @List.length_reverse
abbrev CF:= @List.eraseIdx_cons_succ
abbrev sQ:= @List.map_take
abbrev zx:= @List.pairwise_cons
abbrev CG:= @List.take_of_length_le
abbrev CH:= @Array.getElem?_eq_none
abbrev zy:= @List.reverse_perm
abbrev sR:= @Nat.mod_self
abbrev CI:= @List.length_eraseIdx
abbrev vD:= @List.all_cons
abbrev CJ:= @List.getD_cons_succ
abbrev Hh:= @List.pairwise_iff_getElem
abbrev vE:= @List.map_set
abbrev CK:= @List.getElem?_drop
abbrev CL:= @Nat.lt_of_lt_of_eq
abbrev CM:= @List.append_of_mem
abbrev zA:= @Bool.false_and
abbrev zB:= @Nat.mul_le_mul
namespace L2
open PySem PySem.Spec PyProof.Rows
abbrev Key:=Sum Int Str
def L7:Key->Value->Bool
 | .inl k,v=>Value.isInt k v
 | .inr x,v=>Value.isStrOf x v
def Wa(w:World):Key->Int
 | .inl k=>hashInt k
 | .inr x=>hashStr w x
theorem dJ:∀{k:Key}{v:Value},L7 k v=true->(∃i t,k=Sum.inl i/\v=Value.int i t)\/(∃x t,k=Sum.inr x/\v=Value.str x t)
 | .inl i,v,h=>by
  obtain⟨t,e⟩:=abQ (k:=i) (v:=v) h;exact .inl #[i,t,rfl,e]
 | .inr x,v,h=>by
  obtain⟨t,e⟩:=Value.isStrOf_shape (x:=x) (v:=v) h;exact .inr #[x,t,rfl,e]
def OQ(a b:Int):decide ((Sum.inl a:Key)=Sum.inl b)=(a==b):=by
 by_cases e:a=b
 .subst e;simp
 .have h:¬(Sum.inl a:Key)=Sum.inl b:=λq=>e (Sum.inl.inj q)
  rw[Gc h];exact(aap.mpr e).symm
def OU(a b:Str):decide ((Sum.inr a:Key)=Sum.inr b)=decide (a=b):=by
 by_cases e:a=b
 .subst e;simp
 .have h:¬(Sum.inr a:Key)=Sum.inr b:=λq=>e (Sum.inr.inj q)
  rw[Gc h,Gc e]
def OR(a:Int)(b:Str):decide ((Sum.inl a:Key)=Sum.inr b)=false:=Gc (λq=>nomatch q)
def OT(a:Str)(b:Int):decide ((Sum.inr a:Key)=Sum.inl b)=false:=Gc (λq=>nomatch q)
def yy(prog:Program)(w:World):PySem.KeyKind prog w Key where
 is:=L7
 hash:=Wa w
 inj:=λv a b g f=>by
  rcases dJ g with ⟨i,t,rfl,rfl⟩ | ⟨x,t,rfl,rfl⟩
  .rcases dJ f with ⟨j,u,rfl,e⟩ | ⟨y,u,rfl,e⟩
   .injection e with c _;rw[c]
   .exact nomatch e
  .rcases dJ f with ⟨j,u,rfl,e⟩ | ⟨y,u,rfl,e⟩
   .exact nomatch e
   .injection e with c _;rw[c]
 byValue:=λk v h=>by
  rcases dJ h with ⟨i,t,rfl,rfl⟩ | ⟨x,t,rfl,rfl⟩<;>rfl
 pyHash:=λd h=>by
  rcases dJ d with ⟨i,t,rfl,rfl⟩ | ⟨x,t,rfl,rfl⟩
  .exact wpAny_pyHash_int h
  .exact wpAny_pyHash_str h
 eqBool:=λl d h=>by
  rcases dJ l with ⟨i,t,rfl,rfl⟩ | ⟨x,t,rfl,rfl⟩
  .rcases dJ d with ⟨j,u,rfl,rfl⟩ | ⟨y,u,rfl,rfl⟩
   .rw[OQ] at h;exact wpAny_eqBool_int h
   .rw[OR] at h;exact SeqAt.EqAt.int_str i t y u _ _ _ _ h
  .rcases dJ d with ⟨j,u,rfl,rfl⟩ | ⟨y,u,rfl,rfl⟩
   .rw[OT] at h;exact SeqAt.EqAt.str_int x t j u _ _ _ _ h
   .rw[OU] at h;exact wpAny_eqBool_str h
 «strs»:=λk x t v h=>by
  rcases dJ h with ⟨i,u,rfl,e⟩ | ⟨y,u,rfl,e⟩
  .exact nomatch e
  .injection e with c _
   subst c;cases v<;>rfl
inductive V where
 |bC|bl (b:Bool) |int (i:Int) |str (x:Str) |IB (b:Array UInt8) |Fy (b:UInt64) |ref (a:Addr) |ty (n:String)
 deriving DecidableEq
def RelV:V->Value->Prop
 | .bC,u=>u=Value.none
 | .bl b,u=>u=Value.bool b
 | .int i,u=>∃t,u=Value.int i t
 | .str x,u=>∃t,u=Value.str x t
 | .IB b,u=>∃t,u=Value.bytes b t
 | .Fy b,u=>∃t,u=Value.float b t
 | .ref a,u=>u=Value.ref a
 | .ty n,u=>u=Value.type n
abbrev Vals:List V->List Value->Prop:=Paired RelV
theorem Vals.length(r:Vals a b):a.length=b.length:=Paired.length r
theorem Vals.get:∀{a:List V}{b:List Value}{i:Nat}{x:V},Vals a b->a[i]?\x->∃u,b[i]?\u/\RelV x u
 |_,_,_,_, .nil,e=>by simp at e
 |_,_,0,_, .cons r _,e=>by simp at e;subst e;exact#[_,rfl,r]
 |_,_,i+1,x, .cons _ t,e=>by
  obtain⟨u,c,d⟩:=Vals.get (i:=i) (x:=x) t (~~~e)
  exact#[u,by simpa using c,d]
theorem Vals.set{x:V}(r:RelV x u):∀{a:List V}{b:List Value}(i:Nat),Vals a b->Vals (a.set i x) (b.set i u)
 |_,_,_, .nil=> .nil
 |_,_,0, .cons _ t=> .cons r t
 |_,_,i+1, .cons q t=> .cons q (Vals.set r i t)
theorem Vals.append:∀{a b:List V}{c d:List Value},Vals a c->Vals b d->Vals (a++b) (c++d)
 |_,_,_,_, .nil,s=>s
 |_,_,_,_, .cons r t,s=> .cons r (Vals.append t s)
theorem Vals.take:∀{xs:List V}{a:List Value}(n:Nat),Vals xs a->Vals (xs.take n) (a.take n)
 |_,_,0,_=> .nil
 |_,_,_+1, .nil=> .nil
 |_,_,n+1, .cons r t=> .cons r (Vals.take n t)
theorem Vals.drop:∀{xs:List V}{a:List Value}(n:Nat),Vals xs a->Vals (xs.drop n) (a.drop n)
 |_,_,0,r=>r
 |_,_,_+1, .nil=> .nil
 |_,_,n+1, .cons _ t=>Vals.drop n t
def oJ:Option V->Option Value->Prop
 |some v,some u=>RelV v u
 |none,none=>True
 |_,_=>False
def KV{a:Type}:List (a×V)->List (a×Value)->Prop:=Paired λ(p:a×V)(q:a×Value)=>p.1=q.1/\RelV p.2 q.2
def kV:Key->V
 | .inl i=> .int i
 | .inr x=> .str x
inductive HO where
  |lst (xs:List V)
  |tup (xs:List V)
  |dK (fL:List (Key×V)) |dT (fL:List (List Key×V))
  |set (S:Int->Bool) (n:Nat)
  |ins (C dx:Addr) (fs:List (Str×V))
  |own (x:Addr)
  |xd (fs:List (Str×V))
  |met (f x:Addr)
  |rng (lo hi:Int)
  |tE (o:Obj) (u:HO)
  |GZ (ps:Array Value)
  |ext (φ:Heap->Prop)
abbrev Hp:=Addr->Option HO
def upd(H:Hp)(a:Addr)(o:HO):Hp:=λb=>if b=a then some o else H b
def aD{H:Hp}{a:Addr}{o:HO}:upd H a o a\o:=by unfold upd;rw[mo rfl]
def aN{a b:Addr}{o:HO}(h:b≠a):upd H a o b=H b:=by unfold upd;rw[ir h]
def bI{H:Hp}{a b:Addr}{o:HO}(h:H a\o)(c:H b=none):a≠b:=by
 intro e;subst e;rw[h] at c;cases c
section
variable (P:Program) (w:World)
def dG(H:Hp)(h:Heap)(a:Addr):HO->Prop
 | .lst c=>c.length<=sizeLine/\∃(b:List Value)(n:Nat),Vals c b/\h.get? a\{cls:= .type "list",data:= .seq b.toArray n}
 | .tup c=>c.length<=sizeLine/\∃b:List Value,Vals c b/\IsTup h a b.toArray
 | .dK e=>e.length<=sizeLine/\(a==sysModules)=false/\∃j,KV e j/\h.DictOf (yy P w) a j
 | .dT e=>e.length<=sizeLine/\(a==sysModules)=false/\∃c:List (List Key×Addr×Value),
   Paired (λ(p:List Key×V)(q:List Key×Addr×Value)=>p.1=q.1/\H q.2.1\(.tup (p.1.map kV))/\RelV p.2 q.2.2) e c/\
   ∃o k r,h.get? a\o/\o.ExactDict/\o.data= .dict k r/\k.toList=c.map (entryOfKey (tupleKind (yy P w)))/\(c.map (·.1)).Nodup
 | .set S n=>h.SetOf (intKind P w) a S n
 | .ins C g fs=>H g\(.own a)/\fs.length<=1000/\g≠a/\h.get? a\(bj C g)/\
   ∃d,h.Ns1 g d/\(∀f,oJ (fs.lookup f) (d f))/\ci d (fs.map (·.1))
 | .own _=>∃o,h.get? a\o
 | .xd fs=>∃d,h.Ns1 a d/\∀f,oJ (fs.lookup f) (d f)
 | .rng lo s=>∃t u v,h.get? a\{cls:= .type "range",data:= .fields [.int lo t, .int s u, .int 1 v].toArray}
 | .tE o u=>h.get? a\o/\dG H h a u
 | .GZ y=>h.get? a\{cls:= .none,data:= .fields y}
 | .met f x=>h.get? a\(cf (.ref f) (.ref x))
 | .ext i=>i h/\(∃o,h.get? a\o)/\∀l m:Heap,i l->(∀o,l.get? a\o->m.get? a\o)->i m
def jU(H:Hp)(h:Heap):Prop:=∀a o,H a\o->dG P w H h a o
end
section
variable {P:Program} {w:World} {H H':Hp} {h h':Heap} {a:Addr} {o:HO}
theorem dG.lt(x:dG P w H h a o):a<h.objs.size:=by
 cases o with
 |lst b=>obtain⟨_,_,_,_,e⟩:=x;exact Fk e
 |tup b=>obtain⟨_,_,_,p⟩:=x;exact p.lt
 |dK c=>obtain⟨_,_,_,_,o,_,_,e,_⟩:=x;exact Fk e
 |dT c=>obtain⟨_,_,_,_,o,_,_,e,_⟩:=x;exact Fk e
 |set S n=>obtain⟨o,_,_,_,e,_⟩:=x;exact Fk e
 |ins C d fs=>obtain⟨_,_,_,e,_⟩:=x;exact Fk e
 |own y=>obtain⟨_,e⟩:=x;exact Fk e
 |xd fs=>obtain⟨_,⟨_,_,_,e,_⟩,_⟩:=x;exact Fk e
 |rng lo g=>obtain⟨_,_,_,e⟩:=x;exact Fk e
 |tE i u=>obtain⟨e,_⟩:=x;exact Fk e
 |GZ j=>exact Fk (show h.get? a\_ from x)
 |met f y=>exact Fk (show h.get? a\_ from x)
 |ext k=>obtain⟨_,⟨_,e⟩,_⟩:=x;exact Fk e
theorem Paired.QW:∀{c:List e}{d:List g},Paired F c d->(∀a b,F a b->G a b)->Paired G c d
 |_,_, .nil,_=> .nil
 |_,_, .cons r t,f=> .cons (f _ _ r) (Paired.QW t f)
theorem dG.qe(x:dG P w H h a o)(k:∀b u,(b=a\/H b\(.own a))->h.get? b\u->h'.get? b\u)
  (E:∀b,H b\(.own a)->H' b\(.own a)) (F:∀b m,H b\(.tup m)->H' b\(.tup m)):dG P w H' h' a o:=by
 induction o with
 |lst m=>obtain⟨z,l,n,r,e⟩:=x;exact#[z,l,n,r,k _ _ (.inl rfl) e]
 |tup m=>obtain⟨z,l,r,g,e,c⟩:=x;exact#[z,l,r,g,k _ _ (.inl rfl) e,c]
 |dK G=>obtain⟨z,y,I,r,g,i,j,e,c⟩:=x;exact#[z,y,I,r,g,i,j,k _ _ (.inl rfl) e,c]
 |dT G=>
  obtain⟨z,y,m,r,g,i,j,e,c⟩:=x;exact#[z,y,m,Paired.QW r λp q z=>#[z.1,F _ _ z.2.1,z.2.2],g,i,j,k _ _ (.inl rfl) e,c]
 |set S n=>obtain⟨g,i,j,t,e,c⟩:=x;exact#[g,i,j,t,k _ _ (.inl rfl) e,c]
 |ins C N fs=>
  rfl';obtain⟨d,z,ne,e,s,⟨A,i,j,L,c⟩,r⟩:=x;ac_rfl;exact#[E _ d,z,ne,k _ _ (.inl rfl) e,s,#[A,i,j,k _ _ (.inr d) L,c],r]
 |own y=>obtain⟨g,e⟩:=x;exact#[g,k _ _ (.inl rfl) e]
 |xd fs=>obtain⟨s,⟨A,i,j,e,c⟩,r⟩:=x;exact#[s,#[A,i,j,k _ _ (.inl rfl) e,c],r]
 |rng lo Q=>obtain⟨t,u,v,e⟩:=x;exact#[t,u,v,k _ _ (.inl rfl) e]
 |tE g u M=>obtain⟨e,q⟩:=x;exact#[k _ _ (.inl rfl) e,M q]
 |GZ B=>
  have e:h.get? a\{cls:= .none,data:= .fields B}:=x;show h'.get? a\{cls:= .none,data:= .fields B};exact k a _ (.inl rfl) e
 |met f y=>
  have e:h.get? a\(cf (.ref f) (.ref y)):=x;show h'.get? a\(cf (.ref f) (.ref y));exact k a _ (.inl rfl) e
 |ext R=>obtain⟨p,⟨o,e⟩,st⟩:=x;exact#[st _ _ p λo q=>k _ _ (.inl rfl) q,#[o,k _ _ (.inl rfl) e],st]
theorem jU.lt(x:jU P w H h)(e:H a\o):a<h.objs.size:=(x a o e).lt
def jU.fresh(x:jU P w H h)(e:h.objs.size<=a):H a=none:=by
 cases q:H a with
 |none=>rfl
 |some u=>exact absurd (iU (x.lt q) e) (lQ _)
def jU.kept(x:jU P w H h)(k:∀b u,h.get? b\u->h'.get? b\u):jU P w H h':=λa o e=>
 (x a o e).qe (λb u _ q=>k b u q) (λ_ q=>q) λ_ _ q=>q
def jU.laid(x:jU P w H h)(k:∀b u,h.get? b\u->h'.get? b\u)(g:h.objs.size<=a)(new:dG P w (upd H a o) h' a o):jU P w (upd H a o) h':=λb u e=>by
 have d:=x.fresh g
 by_cases f:b=a
 .subst f;rw[aD] at e;cases e;exact new
 .rw[aN f] at e
  exact(x b u e).qe (λc v _ q=>k c v q) (λc q=>by rw[aN (bI q d)];exact q) λc i q=>by rw[aN (bI q d)];exact q
end
def Rd(H:Hp)(a:Addr)(u:HO):Prop:=H a\u\/∃o,H a\(.tE o u)
def Rd.ok{P:Program}{w:World}{H:Hp}{a:Addr}(r:Rd H a u)(x:jU P w H h):dG P w H h a u:=by
 rcases r with r| ⟨o,r⟩
 .exact x a u r
 .obtain⟨_,q⟩:=x a _ r
  exact q
def N0:Option HO->Prop
 |some (.lst _)=>True
 |some (.dK _)=>True
 |some (.dT _)=>True
 |some (.set _ _)=>True
 |some (.ins _ _ _)=>True
 |some (.ext _)=>True
 |_=>False
section
variable {P:Program} {w:World} {H:Hp} {h h':Heap} {x e:Addr} {o':HO}
def jU.write(ok:jU P w H h)(a:N0 (H x))(j:e=x\/H e\(.own x))(k:∀b u,b≠e->h.get? b\u->h'.get? b\u)(n:∃u,h'.get? e\u)
  (new:dG P w (upd H x o') h' x o'):jU P w (upd H x o') h':=λb u q=>by
 have l:∀c y,H c\(.own y)->c≠x:=λc y r z=>by subst z;rw[r] at a;exact a
 have o:∀c d,H c\(.tup d)->c≠x:=λc d r z=>by subst z;rw[r] at a;exact a
 by_cases f:b=x
 .subst f;rw[aD] at q;cases q;exact new
 .rw[aN f] at q
  by_cases g:b=e
  .have m:H b\(.own x):=by
    rcases j with z|z
    .exact absurd (g.trans z) f
    .rw[g];exact z
   obtain⟨v,p⟩:=n;rw[q] at m;cases m;exact#[v,by rw[g];exact p]
  .refine(ok b u q).qe (λc v i r=>k c v ?_ r) (λc r=>by rw[aN (l c b r)];exact r) λc d r=>by rw[aN (o c d r)];exact r
   rcases i with rfl|i
   .exact g
   .rintro rfl
    rcases j with z|z
    .exact l c b i z
    .rw[i] at z;cases z;exact f rfl
end
structure Un (fs ex:List Addr) (H H':Hp) (h h':Heap):Prop where
 keep:∀b o,h.get? b\o->H b=none->b∉fs->b∉ex->h'.get? b\o
 slot:∀b o,h.get? b\o->H b=none->b∈fs->b∉ex->∃sl,h'.get? b\{o with slots:=sl}
 free:∀b o,h.get? b\o->H b=none->b∉ex->H' b=none
 there:∀b o,h.get? b\o->b∉ex->∃o',h'.get? b\o'
 tups:∀b xs,H b\(.tup xs)->H' b\(.tup xs)
 frzs:∀b o u,H b\(.tE o u)->H' b\(.tE o u)
 tbls:∀b ps,H b\(.GZ ps)->∃more,H' b\(.GZ (ps++more))
section
variable {fs YH ex ex':List Addr} {H H1 H2:Hp} {h h1 h2 h':Heap} {a x e:Addr} {o:HO}
def Un.any(u:Un fs ex H H1 h h1)(q:h.get? b\c)(n:H b=none)(d:b∉ex):∃g,h1.get? b\{c with slots:=g}:=by
 by_cases f:b∈fs
 .exact u.slot b c q n f d
 .exact#[c.slots,u.keep b c q n f d]
def Un.kept(k:∀b u,h.get? b\u->h'.get? b\u):Un fs ex H H h h':=
 #[λb c q _ _ _=>k b c q,λb c q _ _ _=>#[c.slots,k b c q],λ_ _ _ n _=>n,λb c q _=>#[c,k b c q],λ_ _ q=>q,λ_ _ _ q=>q,λ_ d q=>#[#[],by rw[q];simp]]
def Un.refl:Un fs ex H H h h:=Un.kept λ_ _ q=>q
def Un.laid(k:∀b u,h.get? b\u->h'.get? b\u)(d:h.objs.size<=a)(c:H a=none):Un fs ex H (upd H a o) h h' where
 keep:=λb u q _ _ _=>k b u q
 slot:=λb u q _ _ _=>#[u.slots,k b u q]
 free:=λb u q n _=>by rw[aN (bP (iU (Fk q) d))];exact n
 there:=λb u q _=>#[u,k b u q]
 tups:=λb f q=>by rw[aN (bI q c)];exact q
 frzs:=λb u f q=>by rw[aN (bI q c)];exact q
 tbls:=λb g q=>#[#[],by rw[aN (bI q c),q];simp]
def Un.write(c:N0 (H x))(j:e=x\/H e\(.own x))(k:∀b u,b≠e->h.get? b\u->h'.get? b\u)(l:∃u,h'.get? e\u):Un fs ex H (upd H x o) h h':=by
 have f:∀b,H b=none->b≠x:=λb n z=>by subst z;rw[n] at c;exact c
 have g:∀b,H b=none->b≠e:=λb n z=>by
  subst z
  rcases j with r|r
  .exact f b n r
  .rw[n] at r;cases r
 have d:∀b u,H b\u->¬N0 (some u)->b≠x:=λb u q m z=>by subst z;rw[q] at c;exact m c
 refine#[λb u q n _ _=>k b u (g b n) q,λb u q n _ _=>#[u.slots,k b u (g b n) q],λb u q n _=>by rw[aN (f b n)];exact n,λb u q _=>?_,
  λb p q=>by rw[aN (d b _ q λz=>z)];exact q,λb u p q=>by rw[aN (d b _ q λz=>z)];exact q,λb s q=>#[#[],by rw[aN (d b _ q λz=>z),q];simp]]
 by_cases i:b=e
 .subst i;exact l
 .exact#[u,k b u i q]
end
def Qi(h:Heap)(H:Hp):List Addr:=(ac h.objs.size).filter λa=>(H a).isSome
def tI(h:Heap)(H:Hp):Heap:=PySem.W.hideAll h (Qi h H)
def FL(h:Heap)(H:Hp):(tI h H).objs.size=h.objs.size:=PySem.W.hideAll_size _ _
def Jm(e:h.get? b\o)(n:H b=none):(tI h H).get? b\o:=
 PySem.W.hideAll_get _ e λa=>by
  have q:(H b).isSome=true:=(gE.mp a).2;rw[n] at q;simp at q
def Ms(e:(tI h H).get? b\o):h.get? b\o/\H b=none:=by
 have a:h.get? b\o:=PySem.W.of_hideAll (Qi h H) e;exists a;cases q:H b with
 |none=>rfl
 |some x=>
  have c:b∈Qi h H:=gE.mpr #[b9.mpr (Fk a),by simp[q]]
  have z:(tI h H).get? b=none:=PySem.W.hideAll_none (Qi h H) c;rw[z] at e;cases e
structure Mod (K:ab) (mg:Str->Option Value) (base:Heap):Prop where
 kin:K.In base
 glob:base.Ns mainGlobals mg
 blt:∃mb,base.Ns builtinsNs mb/\∀x:Str,x≠"__name__"->mb x=bootBuiltins x
 nolimit:base.NoLimit
structure Cx where
 prog:Program
 w:World
 K:ab
 mg:Str->Option Value
 base:Heap
 A:Around
 N:List Str
 s₀:Shared
 H₀:Hp
 env:Env
 outer:List Env
 stack:List Env
 ex:List Addr
 fn:Str->Bool
 calm:Bool
 pn:List (Addr×Obj)
 xe:Value->Shared->Prop
def xZ(l:List Env):List Addr:=l.filterMap (·.frame)
abbrev Cx.fs(X:Cx):List Addr:=xZ X.outer
def jw(a:Scope)(x:Str):Prop:=a.names.lookup x\.local\/a.names.lookup x\.cell\/a.names.lookup x\.free
def Loc(a:Scope)(x:Str):Prop:=a.names.lookup x\.local\/a.names.lookup x\.cell
def Look(env:Env)(h:Heap)(m:Str->Option Value)(x:Str)(u:Value):Prop:=
 (env.kindOf x\.local/\m x\u)\/((env.kindOf x\.cell\/env.kindOf x\.free)/\∃c,env.cells.lookup x\c/\h.IsCell c (some u))
structure Cx.Ok (X:Cx):Prop where
 mod:Mod X.K X.mg X.base
 kind:X.env.scope.kind= .function
 glob:X.env.globals=mainGlobals
 blt:X.env.builtins=builtinsNs
 above:X.s₀.heap.objs.size<=X.env.locals
 inj:∀x y c,X.env.cells.lookup x\c->X.env.cells.lookup y\c->x=y
 has:∀x,(X.env.kindOf x\.cell\/X.env.kindOf x\.free)->∃c,X.env.cells.lookup x\c
 cab:∀x c,X.fn x=true->X.env.cells.lookup x\c->X.s₀.heap.objs.size<=c
 hd:X.calm=true->X.A.handled=none
 frames:X.A.frames\X.stack
 stk:X.stack=X.outer\/(X.stack=X.env::X.outer/\X.env.frame\X.env.locals)
 exf:∀b∈X.ex,b≠X.env.locals/\∀x c,X.env.cells.lookup x\c->c≠b
 bs:∀b o,X.base.get? b\o->X.s₀.heap.get? b\o/\X.H₀ b=none
 bsz:X.base.objs.size<=X.s₀.heap.objs.size
 noex:∀b o,X.base.get? b\o->b∉X.ex
 exfs:∀b∈X.ex,b∉X.fs
 funs:X.s₀.heap.FunFrames X.base X.outer
 frf:∀b∈X.fs,X.H₀ b=none
structure Inv (X:Cx) (pins:List (Addr×Obj)) (σ:List (Option V)) (H:Hp) (s:Shared):Prop where
 ok:X.Ok
 os:s.os=X.s₀.os
 bare:AllBare s.gens
 base:Un X.fs X.ex X.H₀ H X.s₀.heap s.heap
 loc:∃m,s.heap.Ns X.env.locals m/\∀(i:Nat)(x:Str)(v:V),X.N[i]?\x->σ[i]?\(some v)->jw X.env.scope x->∃u,RelV v u/\Look X.env s.heap m x u
 cell:∀x c,X.env.cells.lookup x\c->∃v,s.heap.IsCell c v
 free:H X.env.locals=none
 freeC:∀x c,X.env.cells.lookup x\c->H c=none
 pin:∀p∈X.pn++pins,s.heap.get? p.1\p.2/\H p.1=none/\p.1≠X.env.locals/\p.1∉X.fs/\∀v,p.2.data≠ .cell v
 hok:jU X.prog X.w H s.heap
 len:σ.length=X.N.length
section
variable {X:Cx} {pins:List (Addr×Obj)} {σ:List (Option V)} {H H':Hp} {s:Shared} {h':Heap}
def Cx.Ok.Wq(ok:X.Ok)(e:X.base.get? b\o):b∉X.fs:=λa=>by
 have:=(ok.funs.mem a).1
 rw[e] at this;cases this
theorem Inv.bs(I:Inv X pins σ H s):∀b o,X.base.get? b\o->s.heap.get? b\o/\H b=none:=λb o e=>
 #[I.base.keep b o (I.ok.bs b o e).1 (I.ok.bs b o e).2 (I.ok.Wq e) (I.ok.noex b o e),I.base.free b o (I.ok.bs b o e).1 (I.ok.bs b o e).2 (I.ok.noex b o e)]
def Inv.bk(I:Inv X pins σ H s):∀b o,X.base.get? b\o->s.heap.get? b\o:=λb o e=>(I.bs b o e).1
theorem Inv.mod(I:Inv X pins σ H s):Mod X.K X.mg X.base:=I.ok.mod
def Inv.jK(I:Inv X pins σ H s):X.K.In s.heap:=I.ok.mod.kin.keeps I.bk
theorem Inv.lt(I:Inv X pins σ H s):X.env.locals<s.heap.objs.size:=let #[_,a,_]:=I.loc;a.lt
def Inv.sz(I:Inv X pins σ H s):X.s₀.heap.objs.size<=s.heap.objs.size:=i5 I.ok.above (qk I.lt)
def Inv.Q0(I:Inv X pins σ H s)(h:s.heap.objs.size<=a):a∉X.fs:=λb=>by
 obtain⟨_,o,c,_⟩:=I.ok.funs.mem b;exact absurd (iU (Fk c) (i5 I.sz h)) (lQ _)
def Inv.Fn(I:Inv X pins σ H s):∀x c,X.env.cells.lookup x\c->c≠X.env.locals:=λx c e z=>by
 obtain⟨v,o,a,b⟩:=I.cell x c e;obtain⟨m,⟨g,h,i,d,f,_⟩,_⟩:=I.loc;rw[z,d] at a;cases a;rw[f] at b;cases b
theorem Inv.funs(I:Inv X pins σ H s):s.heap.FunFrames X.base X.outer:=by
 have all:∀(l:List Env),(∀b∈xZ l,b∈X.fs)->X.s₀.heap.FunFrames X.base l->s.heap.FunFrames X.base l:=by
  intro l
  induction l with
  |nil=>intro _ _;trivial
  |cons env r g=>
   intro f h;rfl';obtain⟨j,⟨L,o,a,k,m,n⟩,p⟩:=h;have c:L∈X.fs:=f L (by unfold xZ;rw[abx,a];exact bF)
   obtain⟨t,e⟩:=I.base.slot L o m (I.ok.frf L c) c λz=>I.ok.exfs L z c;ac_rfl;exact#[j,#[L,_,a,k,e,n],g (λb d=>f b (by unfold xZ;rw[abx,a];exact cm _ d)) p]
 exact all X.outer (λ_ d=>d) I.ok.funs
theorem Inv.stack(I:Inv X pins σ H s):s.heap.FunFrames X.base X.stack:=by
 rcases I.ok.stk with e| ⟨e,a⟩
 .rw[e];exact I.funs
 .rw[e]
  obtain⟨m,b,_⟩:=I.loc;refine .cons (by rw[I.ok.kind];decide) a b ?_ I.funs
  exact Heap.get?_none_of_le (i5 I.ok.bsz I.ok.above)
def Inv.xh(I:Inv X pins σ H s):∀b∈xZ X.stack,b∈X.env.locals::X.fs:=λb a=>by
 rcases I.ok.stk with e| ⟨e,c⟩
 .rw[e] at a;exact cm _ a
 .rw[e] at a
  unfold xZ at a;rw[abx,c] at a;exact a
def Inv.zg(I:Inv X pins σ H s):∀b∈xZ X.stack,H b=none:=λb a=>by
 rcases bu.mp (I.xh b a) with e|a
 .rw[e];exact I.free
 .obtain⟨_,o,c,_⟩:=I.ok.funs.mem a
  exact I.base.free b o c (I.ok.frf b a) λz=>I.ok.exfs b z a
def Inv.step{g':Array GenState}{t':Nat}{d':Drawn}{ch:List Addr}(I:Inv X pins σ H s)
  (t:∀b∈ch,(b∈X.ex\/X.s₀.heap.objs.size<=b)/\b≠X.env.locals/\(∀x c,X.env.cells.lookup x\c->c≠b)/\∀p∈X.pn++pins,p.1≠b)
  (keep:∀b o,b≠X.env.locals->b∉X.fs->b∉ch->s.heap.get? b\o->H b=none->h'.get? b\o)
  (slot:∀b o,b≠X.env.locals->b∈X.fs->b∉ch->s.heap.get? b\o->H b=none->∃F,h'.get? b\{o with slots:=F}) (free:∀b o,b∉ch->s.heap.get? b\o->H b=none->H' b=none)
  (there:∀b o,b∉ch->s.heap.get? b\o->∃y,h'.get? b\y)
  (tups:∀b xs,H b\(.tup xs)->H' b\(.tup xs)) (frzs:∀b o u,H b\(.tE o u)->H' b\(.tE o u)) (tbls:∀b C,H b\(.GZ C)->∃more,H' b\(.GZ (C++more)))
  (P:∀m,s.heap.Ns X.env.locals m->h'.Ns X.env.locals m) (hok:jU X.prog X.w H' h') (Q:AllBare g'):
  Inv X pins σ H' {s with heap:=h',gens:=g',drawn:=d',toks:=t'}:=by
 have L:∀b o,X.s₀.heap.get? b\o->b≠X.env.locals:=λb o e=>bP (iU (Fk e) I.ok.above)
 have E:∀b o,X.s₀.heap.get? b\o->b∉X.ex->b∉ch:=λb o e a h=>by
  rcases(t b h).1 with z|z
  .exact a z
  .exact absurd (iU (Fk e) z) (lQ _)
 have f:∀x c,X.env.cells.lookup x\c->∀v,s.heap.IsCell c v->h'.IsCell c v:=λx c e v #[o,j,G]=>by
  have A:c∉ch:=λz=>(t c z).2.2.1 x c e rfl
  by_cases M:c∈X.fs
  .obtain⟨F,q⟩:=slot c o (I.Fn x c e) M A j (I.freeC x c e)
   exact#[_,q,G]
  .exact#[o,keep c o (I.Fn x c e) M A j (I.freeC x c e),G]
 refine#[I.ok,I.os,Q,#[λb o e n h a=>?_,λb o e n h a=>?_,λb o e n a=>?_,λb o e a=>?_,λb xs e=>tups b xs (I.base.tups b xs e),λb o xs e=>frzs b o xs (I.base.frzs b o xs e),λb C e=>?_],?_,λx c e=>?_,?_,λx c e=>?_,λp N=>?_,hok,I.len]
 .exact keep b o (L b o e) h (E b o e a) (I.base.keep b o e n h a) (I.base.free b o e n a)
 .obtain⟨F,g⟩:=I.base.slot b o e n h a
  obtain⟨J,B⟩:=slot b _ (L b o e) h (E b o e a) g (I.base.free b o e n a);exact#[J,B]
 .obtain⟨y,g⟩:=I.base.there b o e a
  exact free b y (E b o e a) g (I.base.free b o e n a)
 .obtain⟨y,g⟩:=I.base.there b o e a
  exact there b y (E b o e a) g
 .obtain⟨R,g⟩:=I.base.tbls b C e
  obtain⟨S,B⟩:=tbls b _ g;exact#[R++S,by rw[B,Array.append_assoc]]
 .obtain⟨m,T,U⟩:=I.loc
  refine#[m,P m T,λi x v g B Y=>?_];obtain⟨u,r,l⟩:=U i x v g B Y;exists u,r
  rcases l with l| ⟨k,c,e,z⟩
  .exact .inl l
  .exact .inr #[k,c,e,f x c e _ z]
 .obtain⟨v,z⟩:=I.cell x c e
  exact#[v,f x c e v z]
 .obtain⟨m,⟨o,_,_,j,_⟩,_⟩:=I.loc
  exact free _ o (λz=>(t _ z).2.1 rfl) j I.free
 .obtain⟨v,o,j,G⟩:=I.cell x c e
  exact free c o (λz=>(t c z).2.2.1 x c e rfl) j (I.freeC x c e)
 .obtain⟨e,n,ne,O,d⟩:=I.pin p N
  have A:p.1∉ch:=λz=>(t p.1 z).2.2.2 p N rfl;exact#[keep p.1 p.2 ne O A e n,free p.1 p.2 A e n,ne,O,d]
def Inv.un{t':Nat}(I:Inv X pins σ H s)(u:Un X.fs [] H H' s.heap h')(hok:jU X.prog X.w H' h'):Inv X pins σ H' {s with heap:=h',toks:=t'}:=by
 rfl';obtain⟨m,⟨o,p,q,d,r⟩,_⟩:=id I.loc;obtain⟨t,h⟩:=u.any d I.free (by simp)
 ac_rfl
 exact I.step (g':=s.gens) (d':=s.drawn) (ch:= []) (λ_ z=>nomatch z) (λb o _ c _ e n=>u.keep b o e n c (by simp)) (λb o _ c _ e n=>u.slot b o e n c (by simp)) (λb o _ e n=>u.free b o e n (by simp)) (λb o _ e=>u.there b o e (by simp)) u.tups u.frzs u.tbls (λv i=>by
  rfl';obtain⟨x,j,k,f,l⟩:=i;ac_rfl;rw[d] at f;cases f;exact#[_,j,k,h,l]) hok I.bare
def Inv.call{g':Array GenState}{t':Nat}{d':Drawn}{ch:List Addr}(I:Inv X pins σ H s)(u:Un (xZ X.stack) ch H H' s.heap h')(hok:jU X.prog X.w H' h')(j:AllBare g')
  (g:∀b∈ch,(b∈X.ex\/X.s₀.heap.objs.size<=b)/\b≠X.env.locals/\(∀x c,X.env.cells.lookup x\c->c≠b)/\∀p∈X.pn++pins,p.1≠b):
  Inv X pins σ H' {s with heap:=h',gens:=g',drawn:=d',toks:=t'}:=by
 rfl';obtain⟨m,⟨o,A,B,h,r⟩,_⟩:=id I.loc;obtain⟨C,f⟩:=u.any h I.free λz=>(g _ z).2.1 rfl;ac_rfl
 exact I.step (ch:=ch) g (λb o f l a e n=>u.keep b o e n (λz=>(bu.mp (I.xh b z)).elim f l) a) (λb o _ _ a e n=>u.any e n a) (λb o a e n=>u.free b o e n a) (λb o a e=>u.there b o e a) u.tups u.frzs u.tbls (λE q=>by
  rfl';obtain⟨F,t,v,i,y⟩:=q;ac_rfl;rw[h] at i;cases i;exact#[_,t,v,f,y]) hok j
def Inv.turned{t':Nat}{it:Addr}(I:Inv X pins σ H s)(k:∀b o,b≠it->s.heap.get? b\o->h'.get? b\o)(g:H it=none)(d:it≠X.env.locals)
  (h:it∈X.ex\/X.s₀.heap.objs.size<=it) (i:∀x c,X.env.cells.lookup x\c->c≠it) (j:∀p∈X.pn++pins,p.1≠it):Inv X pins σ H {s with heap:=h',toks:=t'}:=by
 have f:∀b u,H b\u->b≠it:=λb u e z=>by rw[z,g] at e;cases e
 refine I.step (g':=s.gens) (d':=s.drawn) (ch:= [it]) (λb l=>?_) (λb o _ _ a e _=>k b o (λz=>a (by simp[z])) e) (λb o _ _ a e _=>#[o.slots,k b o (λz=>a (by simp[z])) e]) (λ_ _ _ _ n=>n)
  (λb o a e=>#[o,k b o (λz=>a (by simp[z])) e]) (λ_ _ e=>e) (λ_ _ _ e=>e) (λb B e=>#[#[],by rw[e];simp]) (λm t=>?_) (λb u e=>?_) I.bare
 .have e:b=it:=by simpa using l
  subst e;exact#[h,d,i,j]
 .obtain⟨o,w,y,A,r⟩:=t
  exact#[o,w,y,k _ o (Ne.symm d) A,r]
 .refine(I.hok b u e).qe (λc v a q=>k c v ?_ q) (λ_ q=>q) λ_ _ q=>q
  rcases a with z|z
  .rw[z];exact f b u e
  .exact f c _ z
def Inv.tok(I:Inv X pins σ H s)(t:Nat):Inv X pins σ H {s with toks:=t}:=I.un (h':=s.heap) (t':=t) Un.refl I.hok
theorem Inv.kept{t':Nat}(I:Inv X pins σ H s)(k:∀b u,s.heap.get? b\u->h'.get? b\u):Inv X pins σ H {s with heap:=h',toks:=t'}:=I.un (Un.kept k) (I.hok.kept k)
theorem Inv.laid{a:Addr}{o:HO}{t':Nat}(I:Inv X pins σ H s)(k:∀b u,s.heap.get? b\u->h'.get? b\u)(c:s.heap.objs.size<=a)(new:dG X.prog X.w (upd H a o) h' a o):
  Inv X pins σ (upd H a o) {s with heap:=h',toks:=t'}:=I.un (Un.laid k c (I.hok.fresh c)) (I.hok.laid k c new)
theorem Inv.write{x e:Addr}{o:HO}{t':Nat}(I:Inv X pins σ H s)(a:N0 (H x))(c:e=x\/H e\(.own x))(k:∀b u,b≠e->s.heap.get? b\u->h'.get? b\u)(d:∃u,h'.get? e\u)
  (new:dG X.prog X.w (upd H x o) h' x o):Inv X pins σ (upd H x o) {s with heap:=h',toks:=t'}:=I.un (Un.write a c k d) (I.hok.write a c k d new)
def Inv.tY(I:Inv X pins σ H s)(h:∀p∈a,s.heap.get? p.1\p.2/\H p.1=none/\p.1≠X.env.locals/\p.1∉X.fs/\∀v,p.2.data≠ .cell v):Inv X a σ H s:=
 #[I.ok,I.os,I.bare,I.base,I.loc,I.cell,I.free,I.freeC,λp b=>(bT.mp b).elim (λz=>I.pin p (eN _ z)) (h p),I.hok,I.len]
def AO{N:List Str}(c:N.Nodup){i j:Nat}{x:Str}(a:N[i]?\x)(b:N[j]?\x):i=j:=by
 obtain⟨f,d⟩:=df.mp a;obtain⟨g,e⟩:=df.mp b;exact(List.getElem_inj c).mp (d.trans e.symm)
def store_ok2(I:Inv X pins σ H s)(hN:X.N.Nodup)(O:X.N[i]?\x)(B:Loc X.env.scope x)(r:RelV v u)
  (h:∀S,Inv X pins (σ.set i (some v)) H S->(∃a,Heap.SameBut a s.heap S.heap/\(a=X.env.locals\/X.env.cells.lookup x\a))->Q ⟨⟩ S) (hf:X.fn x=true\/X.env.scope.names.lookup x\.local:=by subst_eqs):wpAny M A (storeName X.env x u) Q E s:=by
 obtain⟨m,T,hl⟩:=id I.loc;have Vo:(X.env.scope.kind== .class|| (X.env.scope.kind== .module&&X.env.locals !=X.env.globals))=false:=by rw[I.ok.kind];rfl
 have QP:i<σ.length:=by rw[I.len];exact(df.mp O).1
 have Fn:=I.Fn
 have g:∀{a:Addr}{L:Heap},(∃o,s.heap.get? a\o/\H a=none)->Heap.SameBut a s.heap L->jU X.prog X.w H L:=λ {a L} ha f b ob e=>by
  obtain⟨_,_,BF⟩:=ha;refine(I.hok b ob e).qe (λc P t q=>(f.2 c ?_).trans q) (λ_ q=>q) λ_ _ q=>q;rintro rfl
  rcases t with rfl|t
  .rw[BF] at e;cases e
  .rw[BF] at t;cases t
 rcases B with F|F
 .refine wpAny_storeName_local F T (λL Zr f=>?_) Vo
  obtain⟨oL,_,_,tL,_⟩:=id T;refine h _ #[I.ok,I.os,I.bare,#[λb o e n G B=>?_,λb o e n G B=>?_,I.base.free,λb o e B=>?_,I.base.tups,I.base.frzs,I.base.tbls],#[_,Zr,λj y U l C Y=>?_],λy c e=>?_,I.free,I.freeC,λp Z=>?_,g #[oL,tL,I.free] f,by simpa using I.len] #[_,f, .inl rfl]
  .exact(f.2 b (bP (iU (Fk e) I.ok.above))).trans (I.base.keep b o e n G B)
  .obtain⟨sl,l⟩:=I.base.slot b o e n G B
   exact#[sl,(f.2 b (bP (iU (Fk e) I.ok.above))).trans l]
  .obtain⟨o',l⟩:=I.base.there b o e B
   exact#[o',(f.2 b (bP (iU (Fk e) I.ok.above))).trans l]
  .by_cases J:j=i
   .subst J
    rw[O] at l;cases l;rw[fY QP] at C;cases C;exact#[u,r, .inl #[F,by simp]]
   .rw[fA (Ne.symm J)] at C
    obtain⟨u',r',q⟩:=hl j y U l C Y;exists u',r'
    rcases q with ⟨k,e⟩ | ⟨k,c,e,z⟩
    .refine .inl #[k,?_]
     have:y≠x:=λe=>J (AO hN l (e▸O))
     simp[this,e]
    .exact .inr #[k,c,e,z.sameBut f (Fn y c e)]
  .obtain⟨P,z⟩:=I.cell y c e
   exact#[P,z.sameBut f (Fn y c e)]
  .obtain⟨e,n,ne,nf,d⟩:=I.pin p Z
   exact#[(f.2 p.1 ne).trans e,n,ne,nf,d]
 .have Sn:X.fn x=true:=by
   rcases hf with z|z
   .exact z
   .rw[z] at F;cases F
  obtain⟨c,t⟩:=I.ok.has x (.inl F);obtain⟨P,z⟩:=I.cell x c t;refine wpAny_storeName_cell I.ok.kind F t z (λL tG f=>?_);obtain⟨oc,VG,VH⟩:=id z;refine h {s with heap:=L} #[I.ok,I.os,I.bare,#[λb o e n G B=>?_,λb o e n G B=>?_,I.base.free,λb o e B=>?_,I.base.tups,I.base.frzs,I.base.tbls],#[m,T.sameBut f (Ne.symm (Fn x c t)),λj y U l C Y=>?_],λy R e=>?_,I.free,I.freeC,λp Z=>?_,g #[oc,VG,I.freeC x c t] f,by simpa using I.len] #[c,f, .inr t]
  .exact(f.2 b (bP (iU (Fk e) (I.ok.cab x c Sn t)))).trans (I.base.keep b o e n G B)
  .obtain⟨sl,l⟩:=I.base.slot b o e n G B
   exact#[sl,(f.2 b (bP (iU (Fk e) (I.ok.cab x c Sn t)))).trans l]
  .obtain⟨o',l⟩:=I.base.there b o e B
   exact#[o',(f.2 b (bP (iU (Fk e) (I.ok.cab x c Sn t)))).trans l]
  .by_cases J:j=i
   .subst J
    rw[O] at l;cases l;rw[fY QP] at C;cases C;exact#[u,r, .inr #[.inl F,c,t,tG]]
   .rw[fA (Ne.symm J)] at C
    obtain⟨u',r',q⟩:=hl j y U l C Y;exists u',r'
    rcases q with q| ⟨k,R,e,z'⟩
    .exact .inl q
    .refine .inr #[k,R,e,z'.sameBut f ?_]
     rintro rfl;exact J (AO hN l (I.ok.inj _ _ _ e t▸O))
  .by_cases Vl:R=c
   .subst Vl;exact#[_,tG]
   .obtain⟨w2,z2⟩:=I.cell y R e
    exact#[w2,z2.sameBut f Vl]
  .obtain⟨e,n,ne,nf,d⟩:=I.pin p Z
   refine#[(f.2 p.1 ?_).trans e,n,ne,nf,d];intro q;rw[q,VG] at e;have q':oc=p.2:=Da e;exact d P (by rw[<-q'];exact VH)
def mW{x:Str}{v:V}(I:Inv X pins σ H s)(b:X.N.Nodup)(c:X.N[i]?\x)(d:Loc X.env.scope x)(r:RelV v u)
  (h:∀a,Inv X pins (σ.set i (some v)) H a->Q ⟨⟩ a) (e:X.fn x=true\/X.env.scope.names.lookup x\.local:=by subst_eqs):wpAny M A (storeName X.env x u) Q E s:=
 store_ok2 I b c d r (λa f _=>h a f) e
def Inv.KI{ch:List Addr}(I:Inv X pins σ H s)(d:a.os=s.os)(u:Un (xZ X.stack) ch H H' s.heap a.heap)(hok:jU X.prog X.w H' a.heap)(f:AllBare a.gens)
  (g:∀b∈ch,(b∈X.ex\/X.s₀.heap.objs.size<=b)/\b≠X.env.locals/\(∀x c,X.env.cells.lookup x\c->c≠b)/\∀p∈X.pn++pins,p.1≠b):Inv X pins σ H' a:=by
 obtain⟨i,g',d',t',h⟩:=a;have e:h=s.os:=d;subst e;exact I.call (g':=g') (t':=t') (d':=d') u hok f g
end
abbrev XK:=Value->Option Addr->Hp->Prop
abbrev St:=List (Option V)
abbrev VK:=V->Hp->Prop
abbrev TE:=St->Hp->VK->Prop
abbrev TT:=St->Hp->(Bool->Hp->Prop)->Prop
abbrev TA:=St->Hp->(List V->Hp->Prop)->Prop
structure Ends where
 nx:St->Hp->Prop
 rt:VK
 bk:St->Hp->Prop:=λ_ _=>False
 ct:St->Hp->Prop:=λ_ _=>False
abbrev TS:=Ends->St->Hp->Prop
def EP(X:Cx)(a:List (Addr×Obj))(c:St)(Q:VK)(u:Value)(d:Shared):Prop:=∃v b,Inv X a c b d/\RelV v u/\Q v b
def TP(X:Cx)(a:List (Addr×Obj))(d:St)(Q:Bool->Hp->Prop)(b:Bool)(e:Shared):Prop:=∃c,Inv X a d c e/\Q b c
def AP(X:Cx)(a:List (Addr×Obj))(d:St)(Q:List V->Hp->Prop)(e:List Value)(f:Shared):Prop:=∃b c,Inv X a d c f/\Vals b e/\Q b c
def SP(X:Cx)(a:List (Addr×Obj))(D:Ends)(f:Flow)(d:Shared):Prop:=
 match f with
 | .next=>∃c b,Inv X a c b d/\D.nx c b
 | .brk=>∃c b,Inv X a c b d/\D.bk c b
 | .cont=>∃c b,Inv X a c b d/\D.ct c b
 | .ret u=>∃v c b,Inv X a c b d/\RelV v u/\D.rt v b
def PE(X:Cx)(e:Expr)(t:TE):Prop:=
 ∀(a:List (Addr×Obj))(s:Shared)(b:St)(H:Hp)(Q:VK),Inv X a b H s->t b H Q->wpAny (model X.prog X.w) X.A (eval e X.env) (EP X a b Q) X.xe s
def PT(X:Cx)(e:Expr)(t:TT):Prop:=
 ∀(a:List (Addr×Obj))(s:Shared)(b:St)(H:Hp)(Q:Bool->Hp->Prop),Inv X a b H s->t b H Q->wpAny (model X.prog X.w) X.A (isTrue e X.env (eval e X.env)) (TP X a b Q) X.xe s
def PW(X:Cx)(e:Expr)(t:TT):Prop:=
 ∀(b:Sem Value)(a:List (Addr×Obj))(s:Shared)(c:St)(H:Hp)(Q:Bool->Hp->Prop),Inv X a c H s->t c H Q->wpAny (model X.prog X.w) X.A (isTrue e X.env b) (TP X a c Q) X.xe s
def PW.pt(h:PW X e t):PT X e t:=h _
def PA(X:Cx)(d:List Expr)(t:TA):Prop:=
 ∀(b:Pos)(a:List (Addr×Obj))(s:Shared)(c:St)(H:Hp)(Q:List V->Hp->Prop),Inv X a c H s->t c H Q->wpAny (model X.prog X.w) X.A (spliced (backTo b (starEach d X.env))) (AP X a c Q) X.xe s
def PS(X:Cx)(st:Stmt)(t:TS):Prop:=
 ∀(a:List (Addr×Obj))(s:Shared)(b:St)(H:Hp)(D:Ends),Inv X a b H s->t D b H->wpAny (model X.prog X.w) X.A (exec st X.env) (SP X a D) X.xe s
def oI(X:Cx)(st:List Stmt)(t:TS):Prop:=
 ∀(a:List (Addr×Obj))(s:Shared)(b:St)(H:Hp)(D:Ends),Inv X a b H s->t D b H->wpAny (model X.prog X.w) X.A (execs st X.env) (SP X a D) X.xe s
def thn{Q c:b->Shared->Prop}(h:wpAny M A t Q E s)(d:∀a s,Q a s->c a s):wpAny M A t c E s:=wpAny_mono h d λ_ _ x=>x
section
variable {X:Cx}
def Rg(i:Nat):TE:=λa H Q=>∃v,a[i]?\(some v)/\Q v H
def tC(v:V):TE:=λ_ H Q=>Q v H
def Cb(k:X.N[i]?\x)(n:jw X.env.scope x)(f:(x==("__debug__":Str))=false:=by decide)(o:(x==("__classdict__":Str))=false:=by decide):PE X (.Name x d) (Rg i):=by
 intro b s p H Q I h;rfl';obtain⟨v,e,h⟩:=h;obtain⟨m,t,w⟩:=I.loc;obtain⟨u,r,l⟩:=w i x v k e n;have fin:EP X b p Q u s:=#[v,H,I,r,h];ac_rfl
 rcases l with ⟨a,y⟩ | ⟨a,c,g,j⟩
 .exact wpAny_Name (wpAny_loadName_local I.ok.kind a t y fin) f
 .rcases a with a|a
  .exact wpAny_Name (wpAny_loadName_cell I.ok.kind a g j fin) f
  .exact wpAny_Name (wpAny_loadName_free I.ok.kind a g j fin o) f
def Pt{i j pos}:PE X (.Constant (.int i) j pos) (tC (.int i)):=λ_ _ _ H _ I h=>wpAny_Constant_int #[.int i,H,I.tok _,#[_,rfl],h]
def Tj{b j pos}:PE X (.Constant (.bool b) j pos) (tC (.bl b)):=λ_ _ _ H _ I h=>Constant_bool #[.bl b,H,I,rfl,h]
def Px{j pos}:PE X (.Constant .none j pos) (tC .bC):=λ_ _ _ H _ I h=>Constant_none #[.bC,H,I,rfl,h]
def PB{x j pos}:PE X (.Constant (.str x) j pos) (tC (.str x)):=λ_ _ _ H _ I h=>Calls.Constant_str #[.str x,H,I.tok _,#[_,rfl],h]
def Gl(X:Cx)(x:Str):Prop:=X.env.kindOf x\.globalImplicit
def yr(I:Inv X a c H s)(d:Gl X x)(e:X.mg x\u)(h:Q u s)
  (f:(x==("__debug__":Str))=false:=by decide):wpAny (model X.prog X.w) X.A (eval (.Name x b) X.env) Q E s:=
 abK I.ok.kind d (Calls.loadGlobal_global (by rw[I.ok.glob];exact I.mod.glob.keeps I.bk) e h) f
def lh{u:Value}(I:Inv X a c H s)(d:Gl X x)(e:X.mg x=none)(f:bootBuiltins x\u)(h:Q u s)
  (g:x≠"__name__":=by decide) (i:(x==("__debug__":Str))=false:=by decide):wpAny (model X.prog X.w) X.A (eval (.Name x b) X.env) Q E s:=by
 obtain⟨l,j,k⟩:=I.mod.blt;exact abK I.ok.kind d (Calls.loadGlobal_builtin (by rw[I.ok.glob];exact I.mod.glob.keeps I.bk) e (by rw[I.ok.blt];exact j.keeps I.bk) ((k x g).trans f) h) i
def ME{v:V}(b:Gl X x)(c:X.mg x\u)(r:RelV v u)(d:(x==("__debug__":Str))=false:=by decide):PE X (.Name x a) (tC v):=
 λ_ _ _ H _ I h=>yr I b c #[v,H,I,r,h] d
def MB(b:Gl X x)(c:X.mg x=none)(d:bootBuiltins x\u)(r:RelV v u)(e:x≠"__name__":=by decide)(f:(x==("__debug__":Str))=false:=by decide):PE X (.Name x a) (tC v):=
 λ_ _ _ H _ I h=>lh I b c d #[v,H,I,r,h] e f
variable {a b:Expr} {ta tb:TE} {pos:Pos}
variable {tA Cw:TT} {rest:List Expr}
def WW(t u:TT):TT:=λd H Q=>t d H λc e=>if c=true then u d e Q else Q false e
def tOr(t u:TT):TT:=λd H Q=>t d H λc e=>if c=true then Q true e else u d e Q
def W6(t:TT):TT:=λd H Q=>t d H λc e=>Q (!c) e
def MZ(f:PT X a tA):PW X (.BoolOp .And [a] pos) tA:=by
 intro i d s g H Q I h;refine isTrue_and (thn (f d s g H Q I h) λc j e=>?_);cases c with
 |true=>exact isTrue_and_nil e
 |false=>exact e
def PM(f:PT X a tA):PW X (.BoolOp .Or [a] pos) tA:=by
 intro i d s g H Q I h;refine isTrue_or (thn (f d s g H Q I h) λc j e=>?_);cases c with
 |false=>exact isTrue_or_nil e
 |true=>exact e
def PL(j:PT X a tA)(k:PW X (.BoolOp .And (b::rest) pos) Cw):PW X (.BoolOp .And (a::b::rest) pos) (WW tA Cw):=by
 intro l d s e H Q I h;refine isTrue_and (thn (j d s e H _ I h) λc m #[f,g,i]=>?_);cases c with
 |true=>exact k l d m e f Q g i
 |false=>exact#[f,g,i]
def Tp(j:PT X a tA)(k:PW X (.BoolOp .Or (b::rest) pos) Cw):PW X (.BoolOp .Or (a::b::rest) pos) (tOr tA Cw):=by
 intro l d s e H Q I h;refine isTrue_or (thn (j d s e H _ I h) λc m #[f,g,i]=>?_);cases c with
 |true=>exact#[f,g,i]
 |false=>exact k l d m e f Q g i
def PJ(e:PT X a tA):PT X (.UnaryOp .Not a pos) (W6 tA):=by
 intro d s f H Q I h;exact isTrue_not (e d s f H (λc g=>Q (!c) g) I h)
def TK(f g:TE):TE:=λd H Q=>f d H λx e=>∃c,x= .bl c/\if c=true then g d e Q else Q (.bl false) e
def TU(d:TE):TE:=λe H Q=>d e H λx f=>∃c,x= .bl c/\Q (.bl (!c)) f
def Pz{op}(h:PE X a t):PE X (.BoolOp op [a] pos) t:=λc s d H Q I hw=>BoolOp_one (h c s d H Q I hw)
def Pn(j:PE X a ta)(k:PE X (.BoolOp .And (b::rest) pos) tb):PE X (.BoolOp .And (a::b::rest) pos) (TK ta tb):=by
 intro d s f H Q I h;refine BoolOp_and (thn (j d s f H _ I h) λv l m=>?_);rfl';obtain⟨x,g,i,o,e⟩:=m;obtain⟨c,rfl,e⟩:=e;ac_rfl;subst o;refine P3 ?_;cases c with
 |true=>exact k d l f g Q i e
 |false=>exact#[.bl false,g,i,rfl,e]
def Py(f:PE X a ta):PE X (.UnaryOp .Not a pos) (TU ta):=by
 intro d s g H Q I h;refine UnaryOp_ (thn (f d s g H _ I h) λv n i=>?_);rfl';obtain⟨x,k,l,m,e⟩:=i;obtain⟨c,rfl,e⟩:=e;ac_rfl;subst m;exact not_of (P3 #[.bl (!c),k,l,rfl,e])
end
def cG(K:ab)(H:Hp)(a:Addr)(c:List V):Prop:=
 Rd H a (.lst c)\/
  ∃(o:Obj)(b:Array Value)(n:Nat),K.lookup a\o/\o.cls= .type "list"/\o.dict=none/\o.data= .seq b n/\b.size<=sizeLine/\Vals c b.toList
def eG(K:ab)(H:Hp)(a:Addr)(c:List V):Prop:=
 Rd H a (.tup c)\/
  ∃(o:Obj)(b:Array Value)(n:Nat),K.lookup a\o/\o.cls= .type "tuple"/\o.data= .seq b n/\b.size<=sizeLine/\Vals c b.toList
def Uq:Value->Option V
 | .none=>some .bC
 | .bool b=>some (.bl b)
 | .int i _=>some (.int i)
 | .str x _=>some (.str x)
 | .bytes b _=>some (.IB b)
 | .float b _=>some (.Fy b)
 | .ref a=>some (.ref a)
 | .type n=>some (.ty n)
 |_=>none
def RelV.abs{x:V}{u:Value}(r:RelV x u):Uq u\x:=by
 cases x with
 |bC=>cases r;rfl
 |bl _=>cases r;rfl
 |int _=>obtain⟨t,rfl⟩:=r;rfl
 |str _=>obtain⟨t,rfl⟩:=r;rfl
 |IB _=>obtain⟨t,rfl⟩:=r;rfl
 |Fy _=>obtain⟨t,rfl⟩:=r;rfl
 |ref _=>cases r;rfl
 |ty _=>cases r;rfl
def RelV.inj{x y:V}(r:RelV x u)(q:RelV y u):x=y:=Da (r.abs.symm.trans q.abs)
theorem Vals.inj:∀{a b:List V}{c:List Value},Vals a c->Vals b c->a=b
 |_,_,_, .nil, .nil=>rfl
 |_,_,_, .cons r t, .cons d e=>by rw[r.inj d,Vals.inj t e]
section
variable {X:Cx} {pins:List (Addr×Obj)} {σ:St} {H:Hp} {s:Shared} {a:Addr} {xs ys:List V}
def cG.of{K:ab}(h:H a\(.lst xs)):cG K H a xs:= .inl (.inl h)
def eG.of{K:ab}(h:H a\(.tup xs)):eG K H a xs:= .inl (.inl h)
def Inv.list(I:Inv X pins σ H s)(h:cG X.K H a xs):∃its:List Value,Vals xs its/\PlainL s.heap a its.toArray/\xs.length<=sizeLine:=by
 rcases h with h| ⟨o,its,n,b,c,d,f,g,r⟩
 .obtain⟨z,its,n,r,e⟩:=h.ok I.hok
  exact#[its,r,#[_,n,e,rfl,rfl,rfl],z]
 .refine#[its.toList,r,#[o,n,I.jK a o b,c,d,by simpa using f],?_]
  have e:=r.length;simp only[eD] at e;lia
def Inv.tuple(I:Inv X pins σ H s)(h:eG X.K H a xs):∃its:List Value,Vals xs its/\IsTup s.heap a its.toArray/\xs.length<=sizeLine:=by
 rcases h with h| ⟨o,its,n,b,c,d,f,r⟩
 .obtain⟨z,its,r,p⟩:=h.ok I.hok
  exact#[its,r,p,z]
 .refine#[its.toList,r,#[o,I.jK a o b,c,n,by simpa using d],?_]
  have e:=r.length;simp only[eD] at e;lia
def Inv.uX(I:Inv X pins σ H s)(h:cG X.K H a xs)(h':cG X.K H a ys):xs=ys:=by
 rfl';obtain⟨c,r,⟨o,n,e,_,_,d⟩,_⟩:=I.list h;obtain⟨b,j,⟨m,p,f,_,_,g⟩,_⟩:=I.list h';ac_rfl;rw[e] at f;cases f;rw[d] at g
 injection g with k _
 have:c=b:=by simpa using GM Array.toList k
 subst this;exact r.inj j
def Inv.Hb(I:Inv X pins σ H s)(h:eG X.K H a xs)(h':eG X.K H a ys):xs=ys:=by
 obtain⟨c,r,⟨o,e,_,n,d⟩,_⟩:=I.tuple h;obtain⟨b,i,⟨k,f,_,l,g⟩,_⟩:=I.tuple h';rw[e] at f;cases f;rw[d] at g
 injection g with j _
 have:c=b:=by simpa using GM Array.toList j
 subst this;exact r.inj i
end
abbrev Cx.rh(X:Cx)(E:Value->Shared->Prop):Cx:={X with xe:=E}
abbrev Cx.jN(X:Cx):Cx:=X.rh λ_ _=>False
theorem Cx.Ok.rh{X:Cx}(ok:X.Ok)(E:Value->Shared->Prop):(X.rh E).Ok:=
 #[ok.mod,ok.kind,ok.glob,ok.blt,ok.above,ok.inj,ok.has,ok.cab,ok.hd,ok.frames,ok.stk,ok.exf,ok.bs,ok.bsz,ok.noex,ok.exfs,ok.funs,ok.frf]
def Cx.Ok.lI{X:Cx}(ok:(X.rh E).Ok):X.Ok:=
 #[ok.mod,ok.kind,ok.glob,ok.blt,ok.above,ok.inj,ok.has,ok.cab,ok.hd,ok.frames,ok.stk,ok.exf,ok.bs,ok.bsz,ok.noex,ok.exfs,ok.funs,ok.frf]
section
variable {X:Cx} {pins:List (Addr×Obj)} {σ:St} {H:Hp} {s:Shared} {E:Value->Shared->Prop}
theorem Inv.rh(I:Inv X pins σ H s)(E:Value->Shared->Prop):Inv (X.rh E) pins σ H s:=#[I.ok.rh E,I.os,I.bare,I.base,I.loc,I.cell,I.free,I.freeC,I.pin,I.hok,I.len]
theorem Inv.lI(I:Inv (X.rh E) pins σ H s):Inv X pins σ H s:=#[I.ok.lI,I.os,I.bare,I.base,I.loc,I.cell,I.free,I.freeC,I.pin,I.hok,I.len]
theorem SP.lI{D:Ends}{f:Flow}{s':Shared}(h:SP (X.rh E) pins D f s'):SP X pins D f s':=by
 cases f with
 |next=>obtain⟨aB,H',I,q⟩:=h;exact#[aB,H',I.lI,q]
 |brk=>obtain⟨aB,H',I,q⟩:=h;exact#[aB,H',I.lI,q]
 |cont=>obtain⟨aB,H',I,q⟩:=h;exact#[aB,H',I.lI,q]
 |ret u=>obtain⟨v,aB,H',I,r,q⟩:=h;exact#[v,aB,H',I.lI,r,q]
theorem oI.jN{st:List Stmt}{t:TS}(h:oI X.jN st t):oI X st t:=λa s b H D I hw=>
 wpAny_mono (h a s b H D (I.rh _) hw) (λ_ _ q=>q.lI) λ_ _ z=>False.elim z
end
section
variable {X:Cx} {st:Stmt} {rest:List Stmt} {t u:TS} {e:Expr} {te:TE} {pos:Pos}
def TR:TS:=λD a H=>D.nx a H
def W9(t u:TS):TS:=λD a H=>t {D with nx:=u D} a H
def MR:oI X [] TR:=λ_ _ a H _ I h=>abl #[a,H,I,h]
def mO(h1:PS X st t)(h2:oI X rest u):oI X (st::rest) (W9 t u):=by
 intro pins s σ H D I h;refine wpAny_execs_cons (thn (h1 pins s σ H {D with nx:=u D} I h) λf s1 q=>?_)
 cases f with
 |next=>
  obtain⟨aB,H',I',q⟩:=q;exact h2 pins s1 aB H' D I' q
 |ret v=>exact q
 |brk=>exact q
 |cont=>exact q
def yY(h1:PS X st t):oI X [st] t:=by
 intro pins s σ H D I h;refine wpAny_execs_cons (thn (h1 pins s σ H D I h) λf s1 q=>?_);cases f with
 |next=>exact wpAny_execs_nil q
 |ret v=>exact q
 |brk=>exact q
 |cont=>exact q
def Inv.quiet(I:Inv X a b H s):interactive X.env=false:=by simp[interactive,I.ok.kind]
def TN(b:TE):TS:=λD a H=>b a H λ_ c=>D.nx a c
def jD(c:PE X e te)(d:swapsWith e none pos.line X.env=pure false:=by rfl):PS X (.Expr e pos) (TN te):=by
 intro a s b H D I h;exact wpAny_Expr_any (thn (c a s b H _ I h) λv j #[x,f,g,k,i]=>#[b,f,g,i]) I.quiet d
def W8(a:TE):TS:=λD b H=>a b H D.rt
def t5(c:PE X e te):PS X (.Return (some e) pos) (W8 te):=by
 intro a s b H D I h;exact wpAny_Return_some (thn (c a s b H _ I h) λv j #[x,d,f,g,i]=>#[x,b,d,f,g,i])
def W4(c:TT)(t u:TS):TS:=λD a H=>c a H λb d=>if b=true then t D a d else u D a d
def To(m:PT X c tc)(n:oI X a t)(o:oI X b u):PS X (.If c a b pos) (W4 tc t u):=by
 intro f s g H D I h;refine wpAny_If (thn (m f s g H _ I h) λd i #[j,k,l]=>?_);cases d with
 |true=>exact n f i g j D k l
 |false=>exact o f i g j D k l
def Qe:TS:=λ_ _ _=>False
def JW:PS X st Qe:=λ_ _ _ _ _ _ h=>h.elim
end
abbrev TG:=V->St->Hp->(St->Hp->Prop)->Prop
abbrev zK:=List V->St->Hp->(St->Hp->Prop)->Prop
def PG(X:Cx)(a:Expr)(t:TG):Prop:=
 ∀(b:List (Addr×Obj))(s:Shared)(c:St)(H:Hp)(v:V)(u:Value)(Q:St->Hp->Prop),Inv X b c H s->RelV v u->t v c H Q->
  wpAny (model X.prog X.w) X.A (assign a X.env u) (λ_ f=>∃d e,Inv X b d e f/\Q d e) X.xe s
def Bj(X:Cx)(g:List Expr)(t:zK):Prop:=
 ∀(a:List (Addr×Obj))(s:Shared)(b:St)(H:Hp)(c:List V)(d:List Value)(Q:St->Hp->Prop),Inv X a b H s->Vals c d->t c b H Q->
  wpAny (model X.prog X.w) X.A (assignInOrder ((assignEach g X.env).map (·.2)) d) (λ_ h=>∃e f,Inv X a e f h/\Q e f) X.xe s
abbrev Ku:=V->V->V->Hp->(Hp->Prop)->Prop
def Qs(X:Cx)(t:Ku):Prop:=
 ∀(a:List (Addr×Obj))(s:Shared)(b:St)(H:Hp)(o i v:V)(c d u:Value)(Q:Hp->Prop),Inv X a b H s->RelV o c->RelV i d->RelV v u->t o i v H Q->
  wpAny (model X.prog X.w) X.A (setItem c d u) (λ_ f=>∃e,Inv X a b e f/\Q e) X.xe s
section
variable {X:Cx} {pos:Pos}
def Lv(i:Nat):TG:=λv a H Q=>Q (a.set i (some v)) H
def pL(b:X.N.Nodup)(c:X.N[i]?\x)(d:Loc X.env.scope x)(e:X.fn x=true\/X.env.scope.names.lookup x\.local:=by subst_eqs):PG X (.Name x f) (Lv i):=by
 intro a s j H v u Q I r h;exact wpAny_assign_Name (mW I b c d r (λk g=>#[_,H,g,h]) e)
def U6:zK:=λa b H Q=>a= []/\Q b H
def Sa(t:TG)(u:zK):zK:=λa b H Q=>∃v r,a=v::r/\t v b H λc d=>u r c d Q
def yV:Bj X [] U6:=by
 intro a s b H c d Q I r h;obtain⟨e,h⟩:=h;subst e;cases r;exact assignInOrder_nil #[b,H,I,h]
theorem qF(c:PG X e t)(d:Bj X b u)
  (f:(assignEach (e::b) X.env).map (·.2)=assign e X.env::(assignEach b X.env).map (·.2):=by rfl):Bj X (e::b) (Sa t u):=by
 intro a s g H w x Q I r h;obtain⟨v,y,i,h⟩:=h;subst i;cases r with
 |cons r j=>
  rw[f];refine abE (thn (c a s g H _ _ _ I r h) λ_ k l=>?_);rfl';obtain⟨n,o,p,q⟩:=l;ac_rfl;exact d a k n o _ _ Q p j q
def U8(K:ab)(n:Nat)(t:zK):TG:=λv c H Q=>∃a b,v= .ref a/\eG K H a b/\b.length=n/\t b c H Q
def Cc(i:X.calm=true)(h:Bj X d t)
  (j:(assignEach d X.env).length=n:=by rfl) (l:(assignEach d X.env).findIdx? (·.1)=none:=by rfl):PG X (.Tuple d k pos) (U8 X.K n t):=by
 intro c s f H v u Q I r hw;rfl';obtain⟨a,p,q,w,x,hw⟩:=hw;subst q;subst r;obtain⟨y,g,z,F⟩:=I.tuple w;ac_rfl;refine assign_Tuple_tuple (I.ok.hd i) z (by simp[j,<-x,g.length]) l λA B=>?_
 have C:Inv X c f H {s with heap:=A}:=I.kept (t':=s.toks) λb o e=>B b o (bP (Fk e)) e
 exact h c _ f H p _ Q C (g) hw
def U7(b c:TE)(t:Ku):TG:=λv a H Q=>b a H λo d=>c a d λi e=>t o i v e λf=>Q a f
def HY(l:PE X o g)(m:PE X i j)(n:Qs X t)
  (p:∀v,assign (.Subscript o i pos) X.env v=(do
   let b <-holding [v] (eval o X.env)
   let c <-holding [v,b] (eval i X.env)
   standAt pos
   holding [v,b,c] (setItem b c v)
   release [v,b,c] []):=by intro _;rfl):PG X (.Subscript o i pos) (U7 g j t):=by
 intro a s f H v u Q I r h;rw[p];refine wpAny_bind (KF (thn (l a s f H _ I h) λb q d=>?_));rfl';obtain⟨x,w,z,A,B⟩:=d;ac_rfl;refine wpAny_bind (KF (thn (m a q f w _ z B) λc C d=>?_));rfl';obtain⟨y,E,F,G,J⟩:=d;ac_rfl;refine wpAny_bind (aan (wpAny_bind (KF (thn (n a C f E x y v b c u _ F A G r J) λ_ O d=>?_))));rfl';obtain⟨L,M,N⟩:=d;ac_rfl;exact wpAny_release #[f,L,M,N]
def Ra(b:TE)(g:TG):TS:=λD a H=>b a H λx c=>g x a c D.nx
def xb(f:PE X e c)(i:PG X b g)(j:swapsWithSole [b] e pos.line X.env=pure false:=by rfl)(hw:swappedStores [b] e X.env=pure none:=by rfl)
  (k:(assignEach [b] X.env).map (·.2)= [assign b X.env]:=by rfl):PS X (.Assign [b] e pos) (Ra c g):=by
 intro a s d H D I h;refine wpAny_Assign_stores (thn (f a s d H _ I h) λv l #[x,m,n,o,p]=>?_) j hw;rw[k];exact thn (i a l d m x v _ n o p) λ_ r q=>q
def lB{i:Nat}(d:X.N.Nodup)(f:X.N[i]?\x)(g:Loc X.env.scope x)(j:PE X e c)(k:swapsWith e (some (.Name x a)) pos.line X.env=pure false:=by rfl)(l:X.fn x=true\/X.env.scope.names.lookup x\.local:=by subst_eqs):
  PS X (.Assign [.Name x a] e pos) (Ra c (Lv i)):=by
 intro b s m H D I h;refine wpAny_Assign_Name (thn (j b s m H _ I h) λv t #[y,n,o,p,q]=>?_) k;exact mW o d f g p (λu r=>#[_,n,r,q]) l
def W7(i j:Nat)(b:TA):TS:=λD a H=>b a H λc d=>∃v w,c= [v,w]/\D.nx ((a.set i (some v)).set j (some w)) d
theorem PH{kt k2 GF}(C:X.calm=true)(n:X.N.Nodup)(E:X.N[i]?\x)(F:X.N[j]?\y)(G:i≠j)
  (r:X.env.scope.names.lookup x\.local) (t:X.env.scope.names.lookup y\.local) (J:PA X [a,b] m)
  (hw:swappedStores [.Tuple [.Name x k, .Name y py] kt pt] (.Tuple [a,b] k2 GF) X.env=pure (some [x,y]))
  (L:swapsWithSole [.Tuple [.Name x k, .Name y py] kt pt] (.Tuple [a,b] k2 GF) pos.line X.env=pure false:=by rfl):
  PS X (.Assign [.Tuple [.Name x k, .Name y py] kt pt] (.Tuple [a,b] k2 GF) pos) (W7 i j m):=by
 intro c s u H D I h;rw[exec_Assign_arm];refine wpAny_bind (aan ?_);rw[L];refine wpAny_bind (be ?_);rw[ir ∅]
 refine wpAny_bind (Tuple_ (thn (J _ c s u H _ I h) λM d O=>?_));obtain⟨vs,z,P,Q,l⟩:=O;obtain⟨v,w,R,l⟩:=l;subst R
 obtain⟨f,g,rfl,S,T⟩:∃f g,M= [f,g]/\RelV v f/\RelV w g:=by
  cases Q with
  |cons p q=>
   cases q with
   |cons U Y=>
    cases Y;exact#[_,_,rfl,p,U]
 refine M2 ?_ (by show 2<=sizeLine;decide)
 have Z:Inv X c u z {d with heap:=d.heap.push {cls:= .type "tuple",data:= .seq [f,g].toArray}}:=P.kept (t':=d.toks) λb o e=>AC _ e
 rw[hw];refine wpAny_bind (be ?_);show wpAny (model X.prog X.w) X.A (do rule "assign.swapped-stores";let items <-unpackItems (.ref d.heap.objs.size) 2 none;assignInOrder [λv=>bindName X.env y v,λv=>bindName X.env x v] items.reverse;pure Flow.next) _ _ _
 refine wpAny_bind (aau (wpAny_bind (unpackItems_tuple (items:= [f,g].toArray) (I.ok.hd C) (IsTup.new d.heap _) λh' zT=>?_)));have I3:=Z.kept (h':=h') (t':=d.toks) λb o e=>zT b o (bP (Fk e)) e;show wpAny _ _ (assignInOrder [λv=>bindName X.env y v,λv=>bindName X.env x v] [g,f]>>=λ_=>pure Flow.next) _ _ _;refine wpAny_bind (abE (wpAny_bindName (mW I3 n F (.inl t) T (λs2 I4=>?_) (.inr t))));refine abE (wpAny_bindName (mW I4 n E (.inl r) S (λs3 B=>assignInOrder_nil (be ?_)) (.inr r)));rw[List.set_comm _ _ (Ne.symm G)] at B;exact#[_,z,B,l]
end
section
variable {X:Cx} {pos:Pos}
def Qf(c:TT)(h:TS):TS:=λD a H=>∃W:Nat->St->Hp->Prop,(∃m,W m a H)/\∀m a H,W m a H->
 c a H λb d=>if b=true then ∃N:St->Hp->Prop,(∀e f,N e f->∃g,g<m/\W g e f)/\h {D with nx:=N,ct:=N,bk:=D.nx} a d else D.nx a d
def JX{c:Expr}{body:List Stmt}{tc:TT}{tb:TS}(hp:PassesOwn (model X.prog X.w) X.A X.env X.xe)(hc:PT X c tc)(hb:oI X body tb):PS X (.While c body [] pos) (Qf tc tb):=by
 intro pins s σ H D I h;obtain⟨W,⟨m0,w0⟩,turn⟩:=h;refine wpAny_While (codeAny_whileLoop (λn s'=>∃aB H',Inv X pins aB H' s'/\W n aB H') ?_ m0 #[σ,H,I,w0]);intro n s1 T7;rfl';obtain⟨Hj,H1,I1,w1⟩:=T7;ac_rfl;refine wpAny_passesOwn hp (thn (hc pins s1 Hj H1 _ I1 (turn n Hj H1 w1)) λb s2 bx=>?_);rfl';obtain⟨H2,I2,q2⟩:=bx;ac_rfl;cases b with
 |true=>
  rfl';obtain⟨N,hN,q2⟩:=q2;ac_rfl;rw[if_pos rfl];refine wpAny_passesOwn hp (thn (hb pins s2 Hj H2 _ I2 q2) λf s3 q3=>?_);cases f with
  |next=>
   obtain⟨wN,H3,I3,n3⟩:=q3;obtain⟨m',hm,w3⟩:=hN wN H3 n3;exact#[m',hm,wN,H3,I3,w3]
  |cont=>
   obtain⟨wN,H3,I3,n3⟩:=q3;obtain⟨m',hm,w3⟩:=hN wN H3 n3;exact#[m',hm,wN,H3,I3,w3]
  |brk=>exact q3
  |ret v=>exact q3
 |false=>
  rw[if_neg cP];exact wpAny_execs_nil #[Hj,H2,I2,q2]
end
structure It where
 go:Nat->Hp->Prop
 yld:Nat->Hp->V->Hp->Prop
 stop:Nat->Hp->Prop
def dQ(X:Cx)(a:List (Addr×Obj))(H:Hp)(b:Addr):Prop:=
 H b=none/\b≠X.env.locals/\b∉X.fs/\(b∈X.ex\/X.s₀.heap.objs.size<=b)/\(∀x c,X.env.cells.lookup x\c->c≠b)/\∀p∈X.pn++a,p.1≠b
def Inv.DP(I:Inv X a g H s)(d:s.heap.objs.size<=b)(h:f b=none):dQ X a f b:=by
 refine#[h,abX (iU I.lt d),I.Q0 d, .inr (i5 I.sz d),λx c e z=>?_,λp i z=>?_]
 .obtain⟨v,q⟩:=I.cell x c e
  exact absurd (iU q.lt (by rw[z];exact d)) (lQ _)
 .exact absurd (iU (Fk (I.pin p i).1) (by rw[z];exact d)) (lQ _)
structure Turn (P:Program) (w:World) (K:ab) (tg:Expr) (J:It) (fp:List Addr) (it:Addr) (tn:Nat->Heap->Prop):Prop where
 mem:it∈fp
 obj:∀i h,tn i h->∀b∈fp,∃o,h.get? b\o/\∀v,o.data≠ .cell v
 keep:∀i h h',tn i h->(∀b∈fp,∀o,h.get? b\o->h'.get? b\o)->tn i h'
 item:∀(X:Cx),X.prog=P->X.w=w->X.K=K->X.calm=true->∀(i:Nat)(pins:List (Addr×Obj))(s:Shared)(σ:St)(H:Hp)(E:Value->Shared->Prop),Inv X pins σ H s->(∀b∈fp,dQ X pins H b)->tn i s.heap->J.go i H->
  wpAny (model P w) X.A (pyNext (.ref it)) (λr s1=>∃u,r\u/\
   wpAny (model P w) X.A (letOwnedTupleGo tg (.ref it) u) (λ_ s2=>∃x H',Inv X pins σ H' s2/\RelV x u/\J.yld i H x H'/\tn (i+1) s2.heap/\∀b∈fp,H' b=none) E s1) E s
 done:∀(X:Cx),X.prog=P->X.w=w->X.K=K->X.calm=true->∀(i:Nat)(pins:List (Addr×Obj))(s:Shared)(σ:St)(H:Hp)(E:Value->Shared->Prop),Inv X pins σ H s->(∀b∈fp,dQ X pins H b)->tn i s.heap->J.stop i H->
  wpAny (model P w) X.A (pyNext (.ref it)) (λr s1=>r=none/\Inv X pins σ H s1) E s
 self:∀(A:Around)(i:Nat)(s:Shared)(Q:Value->Shared->Prop)(E:Value->Shared->Prop),tn i s.heap->Q (.ref it) s->wpAny (model P w) A (pyIter (.ref it)) Q E s
abbrev TI:=St->Hp->(It->Hp->Prop)->Prop
def Uj(X:Cx)(a:List (Addr×Obj))(h:St)(i:Expr)(R:It->Hp->Prop)(j:Value)(d:Shared):Prop:=
 ∃(e:Addr)(f:List Addr)(g:Nat->Heap->Prop)(J:It)(c:Hp),j= .ref e/\Inv X a h c d/\Turn X.prog X.w X.K i J f e g/\g 0 d.heap/\(∀b∈f,dQ X a c b)/\R J c
def PI(X:Cx)(c iter:Expr)(d:TI):Prop:=
 ∀(a:List (Addr×Obj))(s:Shared)(b:St)(H:Hp)(R:It->Hp->Prop),Inv X a b H s->d b H R->
  wpAny (model X.prog X.w) X.A (eval iter X.env) (λv e=>wpAny (model X.prog X.w) X.A (pyIter v) (Uj X a b c R) X.xe e) X.xe s
theorem BC{M:Model}{A:Around}{E:Value->Shared->Prop}{s:Shared}{b:Expr}{c:Addr}{u:Value}{o:Obj}{n:String}{d:Array Value}{Q:Unit->Shared->Prop}(e:s.heap.get? c\o)(f:o.cls= .type n)(g:o.data= .fields d)
  (i: ["enumerate","zip","dict_itemiterator","dict_reverseitemiterator","odict_iterator","itertools.zip_longest","itertools.pairwise"].contains n=false) (a:Q ⟨⟩ s):wpAny M A (letOwnedTupleGo b (.ref c) u) Q E s:=by
 unfold letOwnedTupleGo
 cases b<;>first
  |exact wpAny_pure a
  | (cases u<;>first
    |exact wpAny_pure a
    | (refine wpAny_bind (wpAny_load e ?_)
       rw[f,g];show wpAny M A (if (["enumerate","zip","dict_itemiterator","dict_reverseitemiterator","odict_iterator","itertools.zip_longest","itertools.pairwise"].contains n&&d[0]? ==some (rawInt _))=true then _ else _) Q E s;rw[if_neg (by intro h;rw[i,zA] at h;cases h)]
       exact wpAny_pure a))
def Rk(K:ab)(a:Addr):It:=
 #[λi H=>∃b x,cG K H a b/\b[i]?\x,λi H x c=>c=H/\∀b,cG K H a b->b[i]?\x,λi H=>∃b,cG K H a b/\b.length<=i]
def Ko(K:ab)(a:Addr):It:=
 #[λi H=>∃b x,eG K H a b/\b[i]?\x,λi H x c=>c=H/\∀b,eG K H a b->b[i]?\x,λi H=>∃b,eG K H a b/\b.length<=i]
def NZ(lo:Int)(n:Nat):It:=#[λi _=>i<n,λi H x a=>a=H/\x= .int (lo+i),λi _=>n<=i]
def Hd{P:Program}{w:World}{K:ab}{R:Expr}(a g:Addr):Turn P w K R (Rk K a) [g] g (λi h=>h.IsListIter g a i) where
 mem:=by simp
 obj:=λi h st b j=>by
  have e:b=g:=by simpa using j
  subst e;obtain⟨o,e,c,d⟩:=st;exact#[o,e,λv z=>by rw[d] at z;cases z]
 keep:=λi h l st k=>st.at λo e=>k g (by simp) o e
 item:=by
  intro X q hw r N i f s O H E I m st t;rfl';subst q hw r;obtain⟨T,x,n,A⟩:=t;obtain⟨B,C,p,U⟩:=I.list n;obtain⟨u,Y,Z⟩:=C.get A;obtain⟨F,G,f2,J,L,M⟩:=m g (by simp)
  ac_rfl;refine wpAny_pyNext_list_item st p.isList (x:=u) (~~~Y) λl Q sb=>?_
  have I1:Inv X f O H {s with heap:=l}:=I.turned (t':=s.toks) (λb o j e=>(sb.2 b j).trans e) F G J L M
  obtain⟨o,e,c,d⟩:=id Q;exact#[u,rfl,BC (s:={s with heap:=l}) e c d ∅ #[x,H,I1,Z,#[rfl,λys hy=>by rw[I.uX hy n];exact A],Q,λb j=>(m b j).1]]
 done:=by
  intro X q hw r N i f s O H E I m st t;rfl';subst q hw r;obtain⟨T,n,A⟩:=t;obtain⟨B,C,p,U⟩:=I.list n;obtain⟨F,G,f2,J,L,M⟩:=m g (by simp)
  have hl:=C.length;ac_rfl;exact wpAny_pyNext_list_end (I.ok.hd N) st p.isList (by simp;lia) λl eb=>#[rfl,I.turned (t':=s.toks) (λb o j e=>eb b o j e) F G J L M]
 self:=λ_ _ _ _ _ st h=>wpAny_pyIter_listiter st h
def EW{P:Program}{w:World}{K:ab}{Q:Expr}(a g:Addr):Turn P w K Q (Ko K a) [g] g (λi h=>h.IsTupleIter g a i) where
 mem:=by simp
 obj:=λi h st b j=>by
  have e:b=g:=by simpa using j
  subst e;obtain⟨o,e,c,d⟩:=st;exact#[o,e,λv z=>by rw[d] at z;cases z]
 keep:=λi h m st k=>st.at λo e=>k g (by simp) o e
 item:=by
  intro X r hw t M i f s N H E I n st y;subst r hw t;obtain⟨R,x,q,A⟩:=y;obtain⟨l,B,p,S⟩:=I.tuple q;obtain⟨u,T,U⟩:=B.get A;obtain⟨C,F,Y,G,J,L⟩:=n g (by simp)
  refine wpAny_pyNext_tuple_item st (show s.heap.IsTuple a l.toArray from p) (x:=u) (~~~T) λm O Z=>?_
  have I1:Inv X f N H {s with heap:=m}:=I.turned (t':=s.toks) (λb o j e=>(Z.2 b j).trans e) C F G J L
  obtain⟨o,e,c,d⟩:=id O;exact#[u,rfl,BC (s:={s with heap:=m}) e c d ∅ #[x,H,I1,U,#[rfl,λys hy=>by rw[I.Hb hy q];exact A],O,λb j=>(n b j).1]]
 done:=by
  intro X r hw t M i f s N H E I n st y;subst r hw t;obtain⟨R,q,A⟩:=y;obtain⟨l,B,p,S⟩:=I.tuple q;obtain⟨C,F,Y,G,J,L⟩:=n g (by simp)
  have hl:=B.length;exact wpAny_pyNext_tuple_end (I.ok.hd M) st (show s.heap.IsTuple a l.toArray from p) (by simp;lia) λm eb=>#[rfl,I.turned (t':=s.toks) (λb o j e=>eb b o j e) C F G J L]
 self:=λ_ _ _ _ _ st h=>wpAny_pyIter_tupleiter st h
def EU{P:Program}{w:World}{K:ab}{G:Expr}(a:Addr)(lo:Int)(n:Nat):Turn P w K G (NZ lo n) [a] a (λi h=>IsRangeIter h a (lo+(i:Nat)*1) ((n:Int)-(i:Nat)) 1) where
 mem:=by simp
 obj:=λi h st b d=>by
  have e:b=a:=by simpa using d
  subst e
  exact#[_,st,λv z=>by
   have J:Data.fields _=Data.cell v:=z;cases J]
 keep:=λi h f st k=>k a (by simp) _ st
 item:=by
  intro X j hw l m i c s B H E I g st p;subst j hw l;rfl';obtain⟨r,u,M,x,y,A⟩:=g a (by simp)
  ac_rfl;have W:=Walks.range (prog:=X.prog) (w:=X.w) (I.ok.hd m) a lo 1 n;refine W.item i s _ _ p st λv f C N F O=>?_;obtain⟨t,rfl⟩:=N;have Q:Inv X c B H {s with heap:=f,toks:=C}:=I.turned (λb o d e=>O b o (~~~d) e) r u x y A
  refine#[_,rfl,BC (s:={s with heap:=f,toks:=C}) (n:="range_iterator") F rfl rfl ∅ #[.int (lo+i),H,Q,#[t,?_],#[rfl,rfl],F,λb d=>(g b d).1]]
  rw[Int.mul_one]
 done:=by
  intro X j hw l m i c s B H E I g st p;subst j hw l;rfl';obtain⟨r,u,M,x,y,A⟩:=g a (by simp)
  ac_rfl;exact wpAny_pyNext_range_end (I.ok.hd m) st (by have:n<=i:=p;lia) λf R=>#[rfl,I.turned (t':=s.toks) (λb o d e=>R b o d e) r u x y A]
 self:=λ_ _ _ _ _ st h=>wpAny_pyIter_rangeiter st h
section
variable {X:Cx} {tg:Expr}
def SN(K:ab)(c:TE):TI:=λd H R=>c d H λx b=>∃a,x= .ref a/\(∃e,cG K b a e)/\R (Rk K a) b
def V0(K:ab)(c:TE):TI:=λd H R=>c d H λx b=>∃a,x= .ref a/\(∃e,eG K b a e)/\R (Ko K a) b
def EB(j:PE X l i):PI X tg l (SN X.K i):=by
 intro c s k H R I h;refine thn (j c s k H _ I h) λv d m=>?_;rfl';obtain⟨x,r,f,t,u⟩:=m;ac_rfl;rfl';obtain⟨a,e,⟨A,w⟩,q⟩:=u;subst e;subst t;obtain⟨y,B,p,C⟩:=f.list w;ac_rfl;refine wpAny_pyIter_list p.isList ?_;refine#[d.heap.objs.size,[d.heap.objs.size],_,_,r,rfl,f.kept (t':=d.toks) λb o e=>AC _ e,Hd a _,#[_,GE _ rfl,rfl,rfl],λb z=>?_,q];have e:b=d.heap.objs.size:=by simpa using z
 subst e;exact f.DP (aY _) (f.hok.fresh (aY _))
def PC(j:PE X l i):PI X tg l (V0 X.K i):=by
 intro c s k H R I h;refine thn (j c s k H _ I h) λv d #[x,m,f,n,r]=>?_;obtain⟨a,e,⟨w,t⟩,q⟩:=r;subst e;cases n;obtain⟨g,y,p,z⟩:=f.tuple t;refine wpAny_pyIter_tuple (show d.heap.IsTuple a g.toArray from p) ?_;refine#[d.heap.objs.size,[d.heap.objs.size],_,_,m,rfl,f.kept (t':=d.toks) λb o e=>AC _ e,EW a _,#[_,GE _ rfl,rfl,rfl],λb u=>?_,q];have e:b=d.heap.objs.size:=by simpa using u
 subst e;exact f.DP (aY _) (f.hok.fresh (aY _))
def J0{c:List (Addr×Obj)}{d:St}{H:Hp}{s:Shared}{R:It->Hp->Prop}{E:Value->Shared->Prop}{lo a:Int}{t u v:Tok}{f:Nat}(I:Inv X c d H s)(h: -(2^62)<=lo)(i:lo<2^62)(j: -(2^62)<=a)(k:a<2^62)
  (q:R (NZ lo (a-lo).toNat) H):wpAny (model X.prog X.w) X.A (pyIter (.ref s.heap.objs.size)) (Uj X c d tg R) E {s with heap:=s.heap.push {cls:= .type "range",data:= .fields [.int lo t, .int a u, .int 1 v].toArray},toks:=f}:=by
 refine wpAny_pyIter_range (IsRange.new ..) (small_one h i j k) ?_;have g:Inv X c d H {s with heap:=s.heap.push {cls:= .type "range",data:= .fields [.int lo t, .int a u, .int 1 v].toArray},toks:=f}:=I.kept λb o e=>AC _ e
 refine#[(s.heap.push {cls:= .type "range",data:= .fields [.int lo t, .int a u, .int 1 v].toArray}).objs.size,[(s.heap.push {cls:= .type "range",data:= .fields [.int lo t, .int a u, .int 1 v].toArray}).objs.size],_,_,H,rfl,
  g.kept (t':=f) λb o e=>AC _ e,EU _ lo (a-lo).toNat,?_,λb l=>?_,q]
 .have m:lo+((0:Nat):Int)*1=lo:=by simp
  have n:(((a-lo).toNat:Nat):Int)-((0:Nat):Int)=Builtin.Range.rangeSize lo a 1:=by rw[rangeSize_one];split<;>lia
  show IsRangeIter _ _ (lo+((0:Nat):Int)*1) ((((a-lo).toNat:Nat):Int)-((0:Nat):Int)) 1;rw[m,n];exact GE _ rfl
 .have e:b=(s.heap.push {cls:= .type "range",data:= .fields [.int lo t, .int a u, .int 1 v].toArray}).objs.size:=by simpa using l
  subst e;exact g.DP (aY _) (g.hok.fresh (aY _))
def SO(a:TA):TI:=λb H R=>a b H λc d=>∃j:Int,c= [.int j]/\-(2^62)<=j/\j<2^62/\R (NZ 0 j.toNat) d
def yX(g:Gl X "range")(i:X.mg "range"=none)(k:PA X [a] f)(l:starEach [a] X.env= [(false,eval a X.env)]:=by rfl):PI X tg (.Call (.Name "range" p) [a] [] b) (SO f):=by
 intro c s m H R I h;refine Call_ (lh I g i boot_range (aar (thn (k b c s m H _ I h) λw x #[y,z,n,o,d]=>?_) l rfl));obtain⟨j,e,d,u,q⟩:=d;subst e;cases o with
 |cons r v=>
  cases v;obtain⟨t,rfl⟩:=r;exact call_range_1 (J0 n () () d u (~~~q))
def W3(e:TI)(g:TG)(f:TS):TS:=λD a H=>e a H λJ h=>∃W:Nat->Nat->St->Hp->Prop,(∃m,W 0 m a h)/\∀i m a H,W i m a H->
 (J.stop i H/\D.nx a H)\/(J.go i H/\∃N:St->Hp->Prop,(∀c b,N c b->∃d,d<m/\W (i+1) d c b)/\∀x b,J.yld i H x b->g x a b λj k=>f {D with nx:=N,ct:=N,bk:=D.nx} j k)
def lA(a:List Addr)(h:Heap):List (Addr×Obj):=a.filterMap λb=>(h.get? b).map λo=>(b,o)
def dM(c:b∈a)(e:h.get? b\o):(b,o)∈lA a h:=abF.mpr #[b,c,by rw[e];rfl]
def Gv(c:p∈lA a h):p.1∈a/\h.get? p.1\p.2:=by
 obtain⟨b,d,e⟩:=abF.mp c;cases q:h.get? b with
 |none=>rw[q] at e;cases e
 |some o=>
  rw[q] at e;have f:(b,o)=p:=Da e;subst f;exact#[d,q]
def Inv.pinned(I:Inv X a f H s)(i:∀b∈c,dQ X a H b)(j:∀b∈c,∃o,s.heap.get? b\o/\∀v,o.data≠ .cell v):Inv X (a++lA c s.heap) f H s:=
 I.tY λp k=>(bT.mp k).elim (λz=>I.pin p (eZ _ z)) λz=>by
  rfl';obtain⟨g,e⟩:=Gv z;obtain⟨m,n,q,_⟩:=i p.1 g;obtain⟨o,h,d⟩:=j p.1 g;ac_rfl;rw[e] at h;cases h;exact#[e,m,n,q,d]
def Inv.ji(I:Inv X (a++c) b H s):Inv X a b H s:=I.tY λp d=>I.pin p (eZ _ (eN _ d))
theorem tZ(C:PassesOwn (model X.prog X.w) X.A X.env X.xe)(hc:X.calm=true)(hi:PI X tg iter Y)(hg:PG X tg g)(c:oI X t Z)
  (hs:∀x,foldedSetIterable iter X.env x=pure x:=by intro _;rfl):PS X (.For tg iter t [] O) (W3 Y g Z):=by
 intro a s σ H D I h;refine wpAny_For (thn (hi a s σ H _ I h) λv s1 h1=>thn h1 λmI s2 h2=>?_) hs;rfl';obtain⟨it,E,tn,J,H2,e,I2,T,iZ,f2,W,⟨m0,w0⟩,turn⟩:=h2;subst e;ac_rfl;have j:∀{q:Hp},(∀b∈E,q b=none)->∀b∈E,dQ X a q b:=λhn b c=>#[hn b c,(f2 b c).2];refine codeAny_forLoop_any (λn s'=>∃i F q,Inv X a F q s'/\tn i s'.heap/\(∀b∈E,q b=none)/\W i n F q) ?_ m0 #[0,σ,H2,I2,iZ,λb c=>(f2 b c).1,w0];intro n s3 T7;rfl';obtain⟨i,G,M,I3,sF,U4,w3⟩:=T7;ac_rfl
 rcases turn i n G M w3 with ⟨stop,qn⟩ | ⟨go,N,hN,step⟩
 .refine aat C (thn (T.done X rfl rfl rfl hc i a s3 G M X.xe I3 (j U4) sF stop) λr s4 B=>?_)
  obtain⟨Q,I4⟩:=B;subst Q;exact abl #[G,M,I4,qn]
 .refine aat C (thn (T.item X rfl rfl rfl hc i a s3 G M X.xe I3 (j U4) sF go) λr s4 B=>?_)
  obtain⟨u,Q,h4⟩:=B;subst Q;refine aat C (thn h4 λ_ s5 B=>?_);rfl';obtain⟨x,H5,I5,r5,y5,R,uN⟩:=B;ac_rfl;have Ri:=I5.pinned (j uN) (T.obj _ _ R);refine aat C (thn (hg _ s5 G H5 x u _ Ri r5 (step x H5 y5)) λ_ s6 B=>?_);rfl';obtain⟨S,H6,I6,q6⟩:=B;ac_rfl;refine aat C (thn (c _ s6 S H6 _ I6 q6) λf U y=>?_)
  have again:∀{k:St}{l:Hp},Inv X (a++lA E s5.heap) k l U->N k l->∃m,m<n/\∃i F q,Inv X a F q U/\tn i U.heap/\(∀b∈E,q b=none)/\W i m F q:=λ {k l} p L=>by
   obtain⟨m',hm,w7⟩:=hN k l L;refine#[m',hm,i+1,k,l,p.ji,T.keep _ _ _ R λb c o e=>(p.pin (b,o) (eZ _ (eZ _ (dM c e)))).1,λb c=>?_,w7];obtain⟨o,e,d⟩:=T.obj _ _ R b c;exact(p.pin (b,o) (eZ _ (eZ _ (dM c e)))).2.1
  cases f with
  |next=>obtain⟨k,l,p,L⟩:=y;exact again p L
  |cont=>obtain⟨k,l,p,L⟩:=y;exact again p L
  |brk=>obtain⟨k,l,p,y⟩:=y;exact#[k,l,p.ji,y]
  |ret v=>obtain⟨x7,k,l,p,r7,y⟩:=y;exact#[x7,k,l,p.ji,r7,y]
end
def Ls{K:ab}{a:Addr}{c:List V}{g:TG}{l:TS}{D:Ends}{b:St}{H:Hp}(d:Nat->St->Hp->Prop)(r:d 0 b H)(s:∀i b H,i<=c.length->d i b H->eG K H a c)
  (t:∀i x b H,c[i]?\x->d i b H->g x b H λh j=>l {D with nx:=d (i+1),ct:=d (i+1),bk:=D.nx} h j) (u:∀b H,d c.length b H->D.nx b H):
  ∃W:Nat->Nat->St->Hp->Prop,(∃m,W 0 m b H)/\∀i m b H,W i m b H->
   ((Ko K a).stop i H/\D.nx b H)\/((Ko K a).go i H/\∃N:St->Hp->Prop,(∀k f,N k f->∃n,n<m/\W (i+1) n k f)/\∀x f,(Ko K a).yld i H x f->g x b f λh j=>l {D with nx:=N,ct:=N,bk:=D.nx} h j):=by
 refine#[λi m b H=>m=c.length-i/\i<=c.length/\d i b H,#[c.length,by simp,dZ _,r],?_]
 rintro i m b H ⟨rfl,v,p⟩;have q:=s i b H v p
 by_cases o:i<c.length
 .refine .inr #[#[c,c[i],q,by simp[o]],d (i+1),λk f w=>#[c.length-(i+1),(),rfl,o,w],λx f y=>?_]
  obtain⟨e,y⟩:=y;subst e;exact t i x b _ (y c q) p
 .have e:i=c.length:=()
  subst e;exact .inl #[#[c,q,aY _],u b H p]
abbrev R2:=V->V->Hp->VK->Prop
def OpR(X:Cx)(f:Value->Value->Sem Value)(r:R2):Prop:=
 ∀(a:List (Addr×Obj))(s:Shared)(b:St)(H:Hp)(x y:V)(v u:Value)(Q:VK),Inv X a b H s->RelV x v->RelV y u->r x y H Q->
  wpAny (model X.prog X.w) X.A (f v u) (EP X a b Q) X.xe s
def cB(X:Cx)(f:Value)(r:List V->Hp->VK->Prop):Prop:=
 ∀(a:List (Addr×Obj))(s:Shared)(b:St)(H:Hp)(c:List V)(d:List Value)(Q:VK),Inv X a b H s->Vals c d->r c H Q->
  wpAny (model X.prog X.w) X.A (call f d) (EP X a b Q) X.xe s
def Um(X:Cx)(r:V->Hp->(Bool->Hp->Prop)->Prop):Prop:=
 ∀(a:List (Addr×Obj))(s:Shared)(b:St)(H:Hp)(x:V)(v:Value)(Q:Bool->Hp->Prop),Inv X a b H s->RelV x v->r x H Q->
  wpAny (model X.prog X.w) X.A (truthy v) (TP X a b Q) X.xe s
def NL(r:R2)(b c:TE):TE:=λa H Q=>b a H λx d=>c a d λy e=>r x y e Q
def rI(C:Int->Int->Prop)(g:Int->Int->V):R2:=λx y H Q=>∃i j,x= .int i/\y= .int j/\C i j/\Q (g i j) H
def Cf(g:Int->Int->V):R2:=λx y H Q=>∃i j,x= .int i/\y= .int j/\Q (g i j) H
section
variable {X:Cx} {a b c:Expr} {ta tb tc:TE} {pos:Pos}
def KC(l:PE X a ta)(m:PE X b tb){d:List (Addr×Obj)}{s:Shared}{e:St}{H:Hp}{R:V->V->Hp->Prop}(I:Inv X d e H s)
  (h:ta e H λx k=>tb e k λy g=>R x y g) {Q:Value->Shared->Prop} {f:Value->Value->Sem Value}
  (n:∀v u j x y g,Inv X d e g j->RelV x v->RelV y u->R x y g->wpAny (model X.prog X.w) X.A (f v u) Q X.xe j):
  wpAny (model X.prog X.w) X.A (eval a X.env) (λv i=>wpAny (model X.prog X.w) X.A (eval b X.env) (λu o=>wpAny (model X.prog X.w) X.A (f v u) Q X.xe o) X.xe i) X.xe s:=by
 refine thn (l d s e H _ I h) λv p #[x,k,q,r,t]=>?_;refine thn (m d p e k _ q t) λu j #[y,g,z,B,C]=>?_;exact n v u j x y g z r B C
def MH(f:OpR X (binaryOp e) r)(g:PE X a ta)(i:PE X b tb):PE X (.BinOp a e b pos) (NL r ta tb):=by
 intro d s j H Q I h;exact wpAny_BinOp (KC g i I h λv u k x y l m n o q=>f d k j l x y v u Q m n o q)
def Pb{f:Value->Value->Sem Value}{C:Int->Int->Prop}{g:Int->Int->Int}
  (rule:∀(i j:Int)(t u:Tok)(s:Shared)(Q:Value->Shared->Prop)(E:Value->Shared->Prop),C i j->Q (.int (g i j) s.toks) {s with toks:=s.toks+1}->wpAny (model X.prog X.w) X.A (f (.int i t) (.int j u)) Q E s):
  OpR X f (rI C λi j=> .int (g i j)):=by
 intro d s n H x y v u Q I e k h;obtain⟨i,j,rfl,rfl,l,q⟩:=h;obtain⟨t,rfl⟩:=e;obtain⟨m,rfl⟩:=k;exact rule i j t m s _ _ l #[.int (g i j),H,I.tok _,#[_,rfl],q]
def Q5{f:Value->Value->Sem Value}{g:Int->Int->Int}
  (rule:∀(i j:Int)(t u:Tok)(s:Shared)(Q:Value->Shared->Prop)(E:Value->Shared->Prop),Q (.int (g i j) s.toks) {s with toks:=s.toks+1}->wpAny (model X.prog X.w) X.A (f (.int i t) (.int j u)) Q E s):
  OpR X f (Cf λi j=> .int (g i j)):=by
 intro d s m H x y v u Q I e k h;obtain⟨i,j,rfl,rfl,q⟩:=h;obtain⟨t,rfl⟩:=e;obtain⟨l,rfl⟩:=k;exact rule i j t l s _ _ #[.int (g i j),H,I.tok _,#[_,rfl],q]
def Mu{f:Value->Value->Sem Value}{g:Int->Int->Bool}
  (rule:∀(i j:Int)(t u:Tok)(s:Shared)(Q:Value->Shared->Prop)(E:Value->Shared->Prop),Q (.bool (g i j)) s->wpAny (model X.prog X.w) X.A (f (.int i t) (.int j u)) Q E s):
  OpR X f (Cf λi j=> .bl (g i j)):=by
 intro d s m H x y v u Q I e k h;obtain⟨i,j,rfl,rfl,q⟩:=h;obtain⟨t,rfl⟩:=e;obtain⟨l,rfl⟩:=k;exact rule i j t l s _ _ #[.bl (g i j),H,I,rfl,q]
def Qq(i j:Int):Prop:=0<j/\j<1073741824
def Qr(i j:Int):Prop:=0<=j/\j<=1000000/\i.natAbs<2^64
def Hk(i j:Int):Prop:=(-(2^64)<i/\i<2^64)\/(-(2^64)<j/\j<2^64)
def Hk.ok(h:Hk i j):IntMulOk i j:=by
 rcases h with ⟨d,e⟩ | ⟨d,e⟩
 .exact .of_left (intBits_le_64 d e)
 .exact .of_right (intBits_le_64 d e)
def Pc:OpR X (binaryOp .Add) (Cf λi j=> .int (i+j)):=Q5 λ_ _ _ _ _ _ _ q=>add_int q
def Pl:OpR X (binaryOp .Sub) (Cf λi j=> .int (i-j)):=Q5 λ_ _ _ _ _ _ _ q=>sub_int q
def Pg:OpR X (binaryOp .Mult) (rI Hk λi j=> .int (i*j)):=Pb λ_ _ _ _ _ _ _ d q=>mul_int q d.ok
def Mw:OpR X (binaryOp .FloorDiv) (rI Qq λi j=> .int (i / j)):=Pb λi j _ _ _ _ _ d q=>by
 have e:(0:Int)<j:=d.1;have f:j<1073741824:=d.2;exact floordiv_int () (by rw[Int.fdiv_eq_ediv_of_nonneg i ()];exact q) (.inl (PyProof.noPylong_small ()))
def Pf:OpR X (binaryOp .Mod) (rI (λ_ j=>0<j) λi j=> .int (i%j)):=Pb λi j _ _ _ _ _ d q=>by
 have e:(0:Int)<j:=d;exact mod_int' () (by rw[Int.fmod_eq_emod_of_nonneg i ()];exact q)
def Pj:OpR X (binaryOp .Pow) (rI Qr λi j=> .int (i^j.toNat)):=Pb λ_ _ _ _ _ _ _ d q=>pow_int_small d.1 d.2.1 d.2.2 q
end
section
variable {X:Cx} {a b c:Expr} {ta tb tc:TE} {pos:Pos}
def HF(I:Inv X d f H s)(q:Q (.bl k) H)(e:k=g):EP X d f Q (.bool g) s:=by
 subst e;exact#[.bl k,H,I,rfl,q]
def Te:OpR X (compareOp .Lt) (Cf λi j=> .bl (decide (i<j))):=Mu λ_ _ _ _ _ _ _ q=>lt_int q
def Td:OpR X (compareOp .LtE) (Cf λi j=> .bl (decide (i<=j))):=Mu λ_ _ _ _ _ _ _ q=>le_int q
def Tc:OpR X (compareOp .Gt) (Cf λi j=> .bl (decide (j<i))):=Mu λ_ _ _ _ _ _ _ q=>gt_int q
def Pe:OpR X (compareOp .Is) (λx y H Q=>y= .bC/\Q (.bl (decide (x= .bC))) H):=by
 intro d s g H x y v u Q I e f h;obtain⟨rfl,q⟩:=h;subst f;refine is_none_gen (HF I q ?_)
 cases x<;>first
  | (cases e;rfl)
  | (obtain⟨t,rfl⟩:=e;rfl)
def My:OpR X (compareOp .IsNot) (λx y H Q=>y= .bC/\Q (.bl (!decide (x= .bC))) H):=by
 intro d s g H x y v u Q I e f h;obtain⟨rfl,q⟩:=h;subst f;refine isnot_none_gen (HF I q ?_)
 cases x<;>first
  | (cases e;rfl)
  | (obtain⟨t,rfl⟩:=e;rfl)
def OpR.or(h:OpR X f r)(k:OpR X f e):OpR X f (λx y H Q=>r x y H Q\/e x y H Q):=by
 intro d s g H x y v u Q I i j q
 rcases q with q|q
 .exact h d s g H x y v u Q I i j q
 .exact k d s g H x y v u Q I i j q
def aT(b:Expr)(h:d≠ .In:=by decide)(e:d≠ .NotIn:=by decide):behindInMarks d b=false:=by
 have f:(d==CmpOp.In)=false:=by cases d<;>first|rfl|exact absurd rfl h
 have g:(d==CmpOp.NotIn)=false:=by cases d<;>first|rfl|exact absurd rfl e
 cases b<;>simp[behindInMarks,f,g]
def MC(f:OpR X (compareOp e) r)(g:PE X a ta)(i:PE X b tb)(j:behindInMarks e b=false):PE X (.Compare a [e] [b] pos) (NL r ta tb):=by
 intro d s k H Q I h;exact wpAny_Compare1 (KC g i I h λv u l x y m n o p q=>f d l k m x y v u Q n o p q) j
def GY(t:TE):TT:=λd H Q=>t d H λx e=>∃k,x= .bl k/\Q k e
def MS(i:OpR X (compareOp f) r)(j:PE X a ta)(l:PE X b tb)(m:behindInMarks f b=false):PT X (.Compare a [f] [b] pos) (GY (NL r ta tb)):=by
 intro d s g H Q I h
 refine wpAny_isTrue_Compare1 (thn (j d s g H _ I h) λv n #[x,o,p,q,t]=>thn (l d n g o _ p t) λu w #[y,A,B,C,E]=>
  thn (i d w g A x y v u _ B q C E) λc M #[z,F,G,J,k,e,L]=>?_) m
 subst e;subst J;exact P3 #[F,G,L]
def Cy(r f:R2)(g h tc:TE):TE:=λd H Q=>g d H λx i=>h d i λy j=>r x y j λz e=>∃k,z= .bl k/\
 (if k=true then tc d e λl m=>f y l m Q else Q (.bl false) e)
theorem JN(q:OpR X (compareOp i) r)(t:OpR X (compareOp j) l)(w:PE X a ta)(A:PE X b tb)(B:PE X c tc)
  (C:lastMarks [i,j] [b,c]=false:=by with_unfolding_all rfl):PE X (.Compare a [i,j] [b,c] pos) (Cy r l ta tb tc):=by
 intro f s g H Q I h
 refine Compare_chain (thn (w f s g H _ I h) λv E #[x,F,G,J,L]=>chain_link (thn (A f E g F _ G L) λu M #[y,N,O,m,P]=>
  thn (q f M g N x y v u _ O J m P) λd R #[z,n,o,S,k,e,p]=>?_)) C
 subst e;subst S;refine P3 ?_;cases k with
 |false=>exact ite_ff #[.bl false,n,o,rfl,p]
 |true=>exact ite_tt (chain_last (thn (B f R g n _ o p) λT U #[Y,Z,I4,r4,q4]=>t f U g Z y Y u T Q I4 m r4 q4))
theorem JY(q:OpR X (compareOp i) r)(t:OpR X (compareOp j) l)(w:PE X a ta)(A:PE X b tb)(B:PE X c tc)
  (C:lastMarks [i,j] [b,c]=false:=by with_unfolding_all rfl):PT X (.Compare a [i,j] [b,c] pos) (GY (Cy r l ta tb tc)):=by
 intro f s g H Q I h
 refine isTrue_chain (thn (w f s g H _ I h) λv E #[x,F,G,J,L]=>test_link (thn (A f E g F _ G L) λu M #[y,N,O,m,P]=>
  thn (q f M g N x y v u _ O J m P) λd R #[z,n,o,S,k,e,p]=>?_)) C
 subst e;subst S;refine P3 ?_;cases k with
 |false=>
  rfl';obtain⟨k',U,Y⟩:=p;cases U;ac_rfl;exact ite_ff #[n,o,Y]
 |true=>
  refine ite_tt (test_last (thn (B f R g n _ o p) λZ s4 #[z',H4,I4,r4,q4]=>thn (t f s4 g H4 y z' u Z _ I4 m r4 q4) λd' s5 #[z2,H5,I5,r5,k2,e2,q5]=>?_));subst e2;subst r5;exact P3 #[H5,I5,q5]
def Qt(K:ab)(x:V)(H:Hp)(k:Bool):Prop:=
 match x with
 | .bC=>k=false
 | .bl b=>k=b
 | .int i=>k=(i !=0)
 | .str y=>y.length<=sizeLine/\k=((y.length:Int) !=0)
 | .IB y=>y.size<=sizeLine/\k=((y.size:Int) !=0)
 | .ref p=>(∃d,cG K H p d/\k= !d.isEmpty)\/(∃d,eG K H p d/\k= !d.isEmpty)\/∃e,H p\(.dK e)/\k= !e.isEmpty
 |_=>False
def D8(r:KV e f):(!f.isEmpty)= !e.isEmpty:=by
 cases r<;>rfl
def vU(r:Vals e d):(!d.toArray.isEmpty)= !e.isEmpty:=by
 cases r<;>simp
def qA:(sizeLine:Nat)<2^63:=by rw[abD];decide
def Qj:Um X (λx H Q=>∃k,Qt X.K x H k/\Q k H):=by
 intro pins s σ H x v Q I rx h;obtain⟨k,e,q⟩:=h;have hl:=qA;have hs:sizeLine=16777216:=sizeLine_eq;cases x with
 |bC=>
  cases rx;have e':k=false:=e;subst e';exact truthy_none #[H,I,q]
 |bl b=>
  cases rx;have e':k=b:=e;subst e';exact wpAny_truthy_bool #[H,I,q]
 |int i=>
  obtain⟨t,rfl⟩:=rx;have e':k=(i !=0):=e;subst e';exact PySem.P.truthy_int #[H,I,q]
 |str y=>
  obtain⟨t,rfl⟩:=rx;obtain⟨hy,e'⟩:y.length<=sizeLine/\k=((y.length:Int) !=0):=e;subst e';exact PySem.P.truthy_str () #[H,I.tok _,q]
 |IB y=>
  obtain⟨t,rfl⟩:=rx;obtain⟨hy,e'⟩:y.size<=sizeLine/\k=((y.size:Int) !=0):=e;subst e';exact PySem.W.truthy_bytes () #[H,I.tok _,q]
 |ref p=>
  subst rx;have e':(∃xs,cG X.K H p xs/\k= !xs.isEmpty)\/(∃xs,eG X.K H p xs/\k= !xs.isEmpty)\/∃fL,H p\(.dK fL)/\k= !fL.isEmpty:=e
  rcases e' with ⟨xs,hx,e'⟩ | ⟨xs,hx,e'⟩ | ⟨fL,hx,e'⟩
  .subst e'
   obtain⟨its,r,pl,hz⟩:=I.list hx;have hlen:=r.length;exact wpAny_truthy_list pl.isList (by simp only[cQ];lia) #[H,I.tok _,by rw[vU r];exact q]
  .subst e'
   obtain⟨its,r,pl,hz⟩:=I.tuple hx;have hlen:=r.length;exact truthy_tuple pl (by simp only[cQ];lia) #[H,I.tok _,by rw[vU r];exact q]
  .subst e'
   obtain⟨hz,hS,vs,r,m⟩:fL.length<=sizeLine/\(p==sysModules)=false/\∃vs,KV fL vs/\s.heap.DictOf (yy X.prog X.w) p vs:=I.hok p _ hx;have hlen:fL.length=vs.length:=Paired.length r;exact wpAny_truthy_dict hS m () #[H,I.tok _,by rw[D8 r];exact q]
 |_=>exact(show False from e).elim
def JZ(i:PE X a ta)(j:∀d,isTrue a X.env d=(do let v <-d;standAt a.pos;holding [v] (truthy v))):
  PT X a (λf H Q=>ta f H λx g=>∃k,Qt X.K x g k/\Q k g):=by
 intro e s f H Q I h;exact isTrue_plain (thn (i e s f H _ I h) λv l #[x,m,n,o,p]=>Qj e l f m x v Q n o p) (j _)
def vals1(r:Vals [x] d):∃u,d= [u]/\RelV x u:=by
 cases r with
 |cons e f=>cases f;exact#[_,rfl,e]
def vals2(r:Vals [x,y] d):∃u e,d= [u,e]/\RelV x u/\RelV y e:=by
 cases r with
 |cons f g=>
  cases g with
  |cons h i=>cases i;exact#[_,_,rfl,f,h]
def Fh(g:X.calm=true):cB X (.builtin "max") (λe H Q=>∃i j,e= [.int i, .int j]/\Q (.int (if j>i then j else i)) H):=by
 intro f s m H e n Q I r h;rfl';obtain⟨i,j,rfl,q⟩:=h;obtain⟨u,p,rfl,⟨t,rfl⟩,⟨v,rfl⟩⟩:=vals2 r;ac_rfl;refine max_two_ints (I.ok.hd g) λw x k=>#[_,H,I.kept k,?_,q]
 by_cases d:j>i
 .rw[mo d,mo d];exact#[_,rfl]
 .rw[ir d,ir d];exact#[_,rfl]
def Fj(g:X.calm=true):cB X (.builtin "min") (λe H Q=>∃i j,e= [.int i, .int j]/\Q (.int (if j<i then j else i)) H):=by
 intro f s m H e n Q I r h;rfl';obtain⟨i,j,rfl,q⟩:=h;obtain⟨u,p,rfl,⟨t,rfl⟩,⟨v,rfl⟩⟩:=vals2 r;ac_rfl;refine min_two_ints (I.ok.hd g) λw x k=>#[_,H,I.kept k,?_,q]
 by_cases d:j<i
 .rw[mo d,mo d];exact#[_,rfl]
 .rw[ir d,ir d];exact#[_,rfl]
end
structure xp (h:Heap) (x dx C:Addr) (mA:Str->Option Value):Prop where
 obj:h.get? x\(bj C dx)
 ns:h.Ns1 dx mA
 ne:dx≠x
def Ge{h:Heap}(n:h.Ns1 c d):∃f,h.get? c\f/\∀b,cc b f\(d b):=by
 rfl';obtain⟨o,g,v,j,k,l,_,m⟩:=n;ac_rfl;refine#[o,j,λb=>?_];have e:=m b;unfold nsFind findBy at e;rw[<-Array.find?_toList] at e;unfold cc;rw[k];dsimp only
 split
 .rename_i y q
  rw[q] at e;exact GM some e
 .rename_i q
  rw[q] at e
  have a:g.toList.any (·.refKey)=false:=by
   rw[List.any_eq_false];intro y p;obtain⟨z,t,r⟩:=l y (Array.mem_toList_iff.mp p);simp[DictEntry.refKey,r]
  have s:¬g.toList.any (·.refKey)=true:=by rw[a];exact cP
  rw[ir s];exact GM some e
def xp.look(I:xp h x c C d):∃b,PySem.W.InstAt h x (bj C c) C (some b)/\∀a,cc a b\(d a):=
 let #[b,e,f]:=Ge I.ns
 #[b,#[I.obj,rfl,rfl,e],f]
section
variable {prog:Program} {w:World} {A:Around} {E:Value->Shared->Prop} {s:Shared} {K:ab} {x dx C f:Addr} {mA:Str->Option Value} {name:Str} {v:Value}
def get_map(X:K.In s.heap)(I:xp s.heap x dx C mA)(b:bQ K C name=true)(c:b4 K C=true)
  (d:ay K (.ref C) name\none) (e:mA name\v) (g:PySem.W.handedIn v=true) (h:Q v {s with toks:=s.toks+1}):
  wpAny (model prog w) A (getAttr (.ref x) name a) Q E s:=by
 obtain⟨j,J,i⟩:=I.look;exact PySem.W.get_value X J (aby b).1 (PySem.W.findObj_own c d rfl (by rw[i,e])) g h
def Jd(X:K.In s.heap)(I:xp s.heap x dx C mA)(a:bQ K C name=true)
  (c:ay K (.ref C) name\(some (.ref f))) (d:bB K (.ref f)=true) (e:mA name=none) (h:Q (.ref f,[.ref x]) s):
  wpAny (model prog w) A (getMethod (.ref x) name b) Q E s:=by
 obtain⟨g,J,i⟩:=I.look;exact PySem.W.method_fn X J (aby a).1 (aby a).2 c (aav.mp d) (by show(cc name g).map (·.isSome)\false;rw[i,e];rfl) h
def Nf{e:List Str}(X:K.In s.heap)(I:xp s.heap x dx C mA)
  (j:ay K (.ref C) "__setattr__"\(some (.builtin "object.__setattr__"))) (k:ce K C=true) (l:cr K C name\none) (m:b4 K C=true)
  (hw:ci mA e) (F:e.length<=sizeLine)
  (h:∀c,xp c x dx C (λy=>if y=name then some v else mA y)->Heap.SameBut dx s.heap c->Q ⟨⟩ {s with heap:=c,toks:=s.toks+2}):
  wpAny (model prog w) A (setAttr (.ref x) name v) Q E s:=by
 rfl';obtain⟨G,J,H⟩:=I.look;obtain⟨L,o,p⟩:=PySem.W.any_some m;ac_rfl;refine PySem.W.set_plain X J j (PySem.W.osa_open (s:={s with toks:=s.toks+1}) (r:=none) X J k l λb=>?_)
 have q:s.heap.get? x\#[.ref C,some dx, .plain, #[]]:=I.obj;refine wpAny_bind (be (wpAny_bind (wpAny_bind (wpAny_loadPart q (wpAny_bind (PySem.W.Looks.here (s:={s with toks:=s.toks+1}) (PySem.W.looks_clsIn X o) ?_))))))
 rw[p];refine be (a:=some dx) (wpAny_bind (be (wpAny_bind ?_)));refine wpAny_nsSet1 (s:={s with toks:=s.toks+1}) I.ns λc g i=>?_
 rfl';obtain⟨oD,t,u,z,bL,B⟩:=g.count (PySem.Within.cons name v hw);ac_rfl;refine wpAny_bind (wpAny_lookBehind z (by rw[bL];exact pastItsLine_dict (i5 B (by rw[b8];lia))) ?_)
 exact be (h _ #[(i.2 _ (Ne.symm I.ne)).trans I.obj,g,I.ne] i)
def Jy(X:K.In s.heap)(c:cs K C=true)
  (e:ay K (.ref C) "__init__"\(some (.ref f))) (i:PySem.W.typeIn K (.ref f)\(.type "function"))
  (h:codeAny (model prog w) (A.under (.builtin "type.__call__" #[.ref C::a,b])) (.call (.ref f) #[.ref (s.heap.objs.size+1)::a,b]) (PySem.W.InitBack (s.heap.objs.size+1) R)
   {s with heap:=(s.heap.push bc).push (bj C s.heap.objs.size)}):
  codeAny (model prog w) A (.call (.ref C) #[a,b]) R s:=by
 obtain⟨j,g,d,t,os⟩:=s;exact PySem.W.make_core (PySem.W.makes_of X c) (PySem.W.looks_findIn X e) (λself=>PySem.W.bind_fn X self i) (.inl rfl) h
end
def jS(f:Str)(v:V):List (Str×V)->List (Str×V)
 | []=> [(f,v)]
 | (g,x)::r=>if g=f then(g,v)::r else(g,x)::jS f v r
theorem tR(f g:Str)(v:V):∀fs:List (Str×V),(jS f v fs).lookup g=if g=f then some v else fs.lookup g
 | []=>by
  show bv g [(f,v)]=_
  by_cases h:g=f
  .have a:(g==f)=true:=aav.mpr h
   simp only[bv,a,mo h]
  .have a:(g==f)=false:=aap.mpr h
   simp only[bv,a,ir h]
 | (k,x)::r=>by
  have c:=tR f g v r;rw[show jS f v ((k,x)::r)=(if k=f then(k,v)::r else(k,x)::jS f v r) from rfl]
  by_cases b:k=f
  .rw[mo b]
   by_cases h:g=k
   .have a:(g==k)=true:=aav.mpr h
    simp only[bv,a,mo (h.trans b)]
   .have a:(g==k)=false:=aap.mpr h
    simp only[bv,a,ir (λe:g=f=>h (e.trans b.symm))]
  .rw[ir b]
   by_cases h:g=k
   .have a:(g==k)=true:=aav.mpr h
    simp only[bv,a,ir (λe:g=f=>b (h.symm.trans e))]
   .have a:(g==k)=false:=aap.mpr h
    simp only[bv,a];exact c
theorem rX(f:Str)(v:V):∀fs:List (Str×V),f∈(jS f v fs).map (·.1)/\∀g,g∈fs.map (·.1)->g∈(jS f v fs).map (·.1)
 | []=>#[by simp[jS],λg h=>by simp at h]
 | (k,x)::r=>by
  obtain⟨b,c⟩:=rX f v r;rw[show jS f v ((k,x)::r)=(if k=f then(k,v)::r else(k,x)::jS f v r) from rfl]
  by_cases a:k=f
  .rw[mo a]
   subst a;exact#[by simp,λg h=>h]
  .rw[ir a]
   refine#[?_,λg h=>?_]
   .rw[cX]
    exact cm _ b
   .rw[cX] at h ⊢
    rcases bu.mp h with e|e
    .exact bu.mpr (.inl e)
    .exact cm _ (c g e)
theorem tP(f:Str)(v:V):∀fs:List (Str×V),(jS f v fs).length<=fs.length+1
 | []=>by simp[jS]
 | (k,x)::r=>by
  have b:=tP f v r;rw[show jS f v ((k,x)::r)=(if k=f then(k,v)::r else(k,x)::jS f v r) from rfl]
  by_cases a:k=f
  .rw[mo a,b8,b8];lia
  .rw[ir a,b8,b8];lia
def oJ.some_of{v:V}{o:Option Value}(r:oJ (some v) o):∃u,o\u/\RelV v u:=by
 cases o with
 |none=>exact(show False from r).elim
 |some u=>exact#[u,rfl,r]
def oJ.none_of(r:oJ none o):o=none:=by
 cases o with
 |none=>rfl
 |some u=>exact(show False from r).elim
def FH{v:V}{u:Value}(r:RelV v u):PySem.W.handedIn u=true:=by
 cases v with
 |bC=>cases(show u=Value.none from r);rfl
 |bl b=>cases(show u=Value.bool b from r);rfl
 |int i=>obtain⟨t,e⟩:=(show ∃t,u=Value.int i t from r);cases e;rfl
 |str x=>obtain⟨t,e⟩:=(show ∃t,u=Value.str x t from r);cases e;rfl
 |IB b=>obtain⟨t,e⟩:=(show ∃t,u=Value.bytes b t from r);cases e;rfl
 |Fy b=>obtain⟨t,e⟩:=(show ∃t,u=Value.float b t from r);cases e;rfl
 |ref a=>cases(show u=Value.ref a from r);rfl
 |ty n=>cases(show u=Value.type n from r);rfl
section
variable {P:Program} {w:World} {H H':Hp} {h h':Heap} {a C dx:Addr} {fs YH:List (Str×V)}
def tM(hok:jU P w H h)(e:H a\(.ins C dx fs)):∃b,xp h a dx C b/\(∀f,oJ (fs.lookup f) (b f))/\ci b (fs.map (·.1))/\fs.length<=1000/\H dx\(.own a):=by
 obtain⟨d,z,ne,c,b,n,r,q⟩:=(show dG P w H h a (.ins C dx fs) from hok a _ e);exact#[b,#[c,n,ne],r,q,z,d]
end
structure xj (K:ab) (C:Addr):Prop where
 pg:bQ K C Str.empty=true
 hd:b4 K C=true
 po:ce K C=true
 sa:ay K (.ref C) "__setattr__"\(some (.builtin "object.__setattr__"))
def xj.get{K:ab}{C:Addr}(c:xj K C)(f:Str):bQ K C f=true:=c.pg
def mZ(K:ab)(C:Addr)(f:Str):Prop:=ay K (.ref C) f\none
def mZ.TY{K:ab}{C:Addr}{f:Str}(n:mZ K C f):cr K C f\none:=by
 unfold cr;rw[show ay K (.ref C) f\none from n];rfl
structure Meth (K:ab) (C:Addr) (m:Str) (f:Addr):Prop where
 at_:ay K (.ref C) m\(some (.ref f))
 fn:bB K (.ref f)=true
 kp:ak K (.ref f)=true
section
variable {X:Cx} {pins:List (Addr×Obj)} {σ:St} {H:Hp} {s:Shared} {a C dx:Addr} {fs:List (Str×V)} {f:Str} {v:V} {A:Around} {E:Value->Shared->Prop}
def DU(I:Inv X pins σ H s)(e:H a\(.ins C dx fs))(c:xj X.K C)(n:mZ X.K C f)(l:fs.lookup f\v)
  (h:∀u d,Inv X pins σ H d->RelV v u->Q u d):wpAny (model X.prog X.w) A (getAttr (.ref a) f b) Q E s:=by
 obtain⟨i,O,r,_,_,_⟩:=tM I.hok e;obtain⟨u,j,g⟩:=oJ.some_of (v:=v) (o:=i f) (by rw[<-l];exact r f)
 exact get_map I.jK O (c.get f) c.hd n j (FH g) (h u _ (I.tok _) g)
def vQ{pl:Sem Bool}(I:Inv X pins σ H s)(e:H a\(.ins C dx fs))(c:xj X.K C)(k:Meth X.K C m g)(l:fs.lookup m=none)
  (h:Q (.ref g,[.ref a]) s):wpAny (model X.prog X.w) A (getMethod (.ref a) m pl) Q E s:=by
 obtain⟨b,O,r,_,_,_⟩:=tM I.hok e;have d:b m=none:=oJ.none_of (by rw[<-l];exact r m)
 exact Jd I.jK O (c.get m) k.at_ k.fn d h
def EL(I:Inv X pins σ H s)(e:H a\(.ins C dx fs))(c:xj X.K C)(n:mZ X.K C f)(N:fs.length<1000)(m:RelV y u)
  (h:∀i,Inv X pins σ (upd H a (.ins C dx (jS f y fs))) i->Q ⟨⟩ i):wpAny (model X.prog X.w) A (setAttr (.ref a) f u) Q E s:=by
 rfl';obtain⟨j,O,r,k,_,l⟩:=tM I.hok e;have t:(fs.map (·.1)).length<=sizeLine:=by rw[aG,abD];lia
 ac_rfl;refine Nf I.jK O c.sa c.po n.TY c.hd k t λB d F=>h _ ?_;have G:∃o,B.get? dx\o:=let #[o,_,_,J,_]:=d.ns;#[o,J];refine I.write (x:=a) (e:=dx) (by rw[e];exact True.intro) (.inr l) (λb q L z=>(F.2 b L).trans z) G ?_
 refine#[by rw[aN O.ne];exact l,?_,O.ne,d.obj,_,d.ns,λg=>?_,λg M=>?_]
 .have:=tP f y fs;lia
 .show oJ ((jS f y fs).lookup g) (if g=f then some u else j g)
  rw[tR]
  by_cases q:g=f
  .rw[mo q,mo q];exact m
  .rw[ir q,ir q];exact r g
 .by_cases q:g=f
  .rw[q];exact(rX f y fs).1
  .refine(rX f y fs).2 g (k g λz=>M ?_)
   show(if g=f then some u else j g)=none;rw[ir q];exact z
def Inv.made(I:Inv X pins σ H s):Inv X pins σ (upd (upd H s.heap.objs.size (.own (s.heap.objs.size+1))) (s.heap.objs.size+1) (.ins C s.heap.objs.size []))
  {s with heap:=(s.heap.push bc).push (bj C s.heap.objs.size)}:=by
 have c:(s.heap.push bc).get? s.heap.objs.size\bc:=GE s.heap rfl
 have d:((s.heap.push bc).push (bj C s.heap.objs.size)).get? (s.heap.objs.size+1)\(bj C s.heap.objs.size):=by
  have:=GE (s.heap.push bc) (o:=bj C s.heap.objs.size) rfl
  rwa [aax] at this
 have g:(s.heap.push bc).Ns s.heap.objs.size (λ_=>none):=#[bc, #[],_,c,rfl,(λe h=>absurd h (by simp)),λ_=>rfl]
 have i:=I.laid (a:=s.heap.objs.size) (o:= .own (s.heap.objs.size+1)) (h':=s.heap.push bc) (t':=s.toks) (λb u q=>AC _ q) (aY _) #[_,c];refine i.laid (a:=s.heap.objs.size+1) (o:= .ins C s.heap.objs.size []) (t':=s.toks) (λb u q=>AC _ q) (Nat.le_of_eq (aax _ _)) ?_;have ne:s.heap.objs.size≠s.heap.objs.size+1:=bP (vx _);refine#[by rw[aN ne,aD],dZ _,ne,d,λ_=>none,(Heap.Ns1.of_empty g).at λo q=>AC _ q,λ_=>True.intro,λy j=>absurd rfl j]
def Kx{f:Str}{s:Shared}(d:attributeBase e f env (eval e env)=eval e env)
  (h:wpAny (model prog w) A (eval e env) (λo b=>wpAny (model prog w) A (getAttr o f true) Q E b) E s):wpAny (model prog w) A (eval (.Attribute e f c) env) Q E s:=
 Attribute_any_ h (by rw[arm_eval_Attribute,d])
end
def W2(K:ab)(c:TE)(f:Str):TE:=λd H Q=>c d H λx b=>∃a C e fs v,x= .ref a/\b a\(.ins C e fs)/\xj K C/\mZ K C f/\fs.lookup f\v/\Q v b
def WO(K:ab)(e g:TE)(f:Str):TS:=λD b H=>g b H λy h=>e b h λx c=>∃a C d fs,x= .ref a/\c a\(.ins C d fs)/\xj K C/\mZ K C f/\fs.length<1000/\
 D.nx b (upd c a (.ins C d (jS f y fs)))
section
variable {X:Cx} {o e value:Expr} {f:Str} {pos pos' Xg:Pos} {ta tv:TE}
def Pq(d:PE X e ta)(g:attributeBase e f X.env (eval e X.env)=eval e X.env):PE X (.Attribute e f pos) (W2 X.K ta f):=by
 intro b s i H Q I h;refine Kx g (thn (d b s i H _ I h) λu A j=>?_);rfl';obtain⟨x,m,p,r,a,C,E,fs,v,t,w,c,n,l,q⟩:=j;ac_rfl;subst t;obtain rfl:u=Value.ref a:=r;exact DU p w c n l λF G y z=>#[v,m,y,z,q]
def PF(g:PE X o ta)(i:PE X value tv)(j:swapsWith value (some (.Attribute o f pos')) pos.line X.env=pure false):PS X (.Assign [.Attribute o f pos'] value pos) (WO X.K ta tv f):=by
 intro b s d H D I h;refine plainObj_wpAny_Assign_Attribute (thn (i b s d H _ I h) λu k #[y,m,p,r,q]=>thn (g b k d m _ p q) λt F #[x,G,v,w,a,C,J,fs,z,A,c,n,l,B]=>?_) j;subst z;obtain rfl:t=Value.ref a:=w;exact EL v A c n l r λL E=>#[d,_,E,B]
end
section
variable {X:Cx} {pins:List (Addr×Obj)} {σ:St} {H:Hp} {s:Shared} {A:Around} {E:Value->Shared->Prop} {Q:Value->Shared->Prop} {c:Value} {b:Bool}
inductive k6 (K:ab) (H:Hp):V->Value->Prop where
 |bC:k6 K H .bC (.type "NoneType")
 |bl (x:Bool):k6 K H (.bl x) (.type "bool")
 |int (i:Int):k6 K H (.int i) (.type "int")
 |str (x:Str):k6 K H (.str x) (.type "str")
 |Fy (x:UInt64):k6 K H (.Fy x) (.type "float")
 |lst {a:Addr} {xs:List V} (e:H a\(.lst xs)):k6 K H (.ref a) (.type "list")
 |tE {a:Addr} {o:Obj} {xs:List V} (e:H a\(.tE o (.lst xs))):k6 K H (.ref a) (.type "list")
 |tup {a:Addr} {xs:List V} (e:H a\(.tup xs)):k6 K H (.ref a) (.type "tuple")
 |dK {a:Addr} {fL:List (Key×V)} (e:H a\(.dK fL)):k6 K H (.ref a) (.type "dict")
 |dT {a:Addr} {fL:List (List Key×V)} (e:H a\(.dT fL)):k6 K H (.ref a) (.type "dict")
 |ins {a C dx:Addr} {fs:List (Str×V)} (e:H a\(.ins C dx fs)) (cl:xj K C) (ha:ay K (.ref C) "__class__"\(some (.builtin "object.__class__")))
   (hn:PySem.W.specialIn K (.builtin "object.__class__") "__get__"\(some (.builtin "getset_descriptor.__get__"))) (VR:PySem.W.takesIn K (.builtin "object.__class__")\true)
   (hm:PySem.W.mroIn K C (.type "object")\true):k6 K H (.ref a) (.ref C)
def F6{x:V}{u t:Value}(I:Inv X pins σ H s)(rx:RelV x u)(ty:k6 X.K H x t)(e:cy X.K t c\b)(h:∀tk,Q (.bool b) {s with toks:=tk}):
  wpAny (model X.prog X.w) A (call (.builtin "isinstance") [u,c]) Q E s:=by
 cases ty with
 |bC=>cases(show u=Value.none from rx);exact PySem.W.kia_one PySem.W.kitx_none I.jK True.intro e (λz=>nomatch z) h
 |bl y=>cases(show u=Value.bool y from rx);exact PySem.W.kia_one PySem.W.kitx_bool I.jK True.intro e (λz=>nomatch z) h
 |int i=>obtain⟨t,q⟩:=(show ∃t,u=Value.int i t from rx);cases q;exact PySem.W.kia_one PySem.W.kitx_int I.jK True.intro e (λz=>nomatch z) h
 |str y=>obtain⟨t,q⟩:=(show ∃t,u=Value.str y t from rx);cases q;exact PySem.W.kia_one PySem.W.kitx_str I.jK True.intro e (λz=>nomatch z) h
 |Fy y=>obtain⟨t,q⟩:=(show ∃t,u=Value.float y t from rx);cases q;exact PySem.W.kia_one PySem.W.kitx_float I.jK True.intro e (λz=>nomatch z) h
 | @lst a xs ea=>
  cases(show u=Value.ref a from rx);obtain⟨_,_,n,_,h1⟩:=(show dG X.prog X.w H s.heap a (.lst xs) from I.hok a _ ea);exact PySem.W.kia_one PySem.W.kitx_list I.jK #[_,h1,rfl] e (λz=>nomatch z) h
 | @tE a ob xs ea=>
  cases(show u=Value.ref a from rx);obtain⟨_,_,_,n,_,h1⟩:=(show dG X.prog X.w H s.heap a (.tE ob (.lst xs)) from I.hok a _ ea);exact PySem.W.kia_one PySem.W.kitx_list I.jK #[_,h1,rfl] e (λz=>nomatch z) h
 | @tup a xs ea=>
  cases(show u=Value.ref a from rx);obtain⟨_,_,_,p⟩:=(show dG X.prog X.w H s.heap a (.tup xs) from I.hok a _ ea);obtain⟨o,h1,h2,_⟩:=p;exact PySem.W.kia_one PySem.W.kitx_tuple I.jK #[o,h1,h2] e (λz=>nomatch z) h
 | @dK a fL ea=>
  cases(show u=Value.ref a from rx);obtain⟨_,_,vs,_,p⟩:=(show dG X.prog X.w H s.heap a (.dK fL) from I.hok a _ ea);obtain⟨o,es,ep,h1,h2,_⟩:=p;exact PySem.W.kia_one PySem.W.kitx_dict I.jK #[o,h1,h2.1] e (λz=>nomatch z) h
 | @dT a fL ea=>
  cases(show u=Value.ref a from rx);obtain⟨_,_,xs,_,o,es,ep,h1,h2,_⟩:=(show dG X.prog X.w H s.heap a (.dT fL) from I.hok a _ ea);exact PySem.W.kia_one PySem.W.kitx_dict I.jK #[o,h1,h2.1] e (λz=>nomatch z) h
 | @ins a C dx fs ea cl ha hn VR hm=>
  rfl';cases(show u=Value.ref a from rx);obtain⟨mA,O,_⟩:=tM I.hok ea;obtain⟨od,J,_⟩:=O.look;ac_rfl;exact PySem.W.kia_one (PySem.W.kitx_own (cl.get _) cl.hd ha hn VR hm) I.jK J e (λz=>nomatch z) h
end
structure c7 (k:Nat) (A:Around):Prop where
 hd:A.handled=none
 dp:A.depth+3*k+5<recursionLimit
 un:A.units+16*k+200<cLine
def c7.mono(r:c7 k A)(h:j<=k):c7 j A:=#[r.hd,by have:=r.dp;lia,by have:=r.un;lia]
theorem c7.deeper(r:c7 (k+1) A)(env:Env):c7 k (A.deeper env):=
 #[r.hd,by have:=r.dp;show A.depth+1+3*k+5<_;lia,by have:=r.un;show A.units+3+16*k+200<_;lia]
def Ei{A:Around}:(A.under (.builtin "type.__call__" #[.ref C::a,b])).depth=A.depth+1:=by
 first|rfl|simp[Around.under,Code.weight,Code.isCreation,Code.isGuard,Code.isCaller,Code.frames,Code.isFrame,guardIds]
def Ej{A:Around}:(A.under (.builtin "type.__call__" #[.ref C::a,b])).units=A.units+1:=by
 first|rfl|simp[Around.under,Code.cUnits,Code.frames,Code.isFrame]
def c7.make(r:c7 (k+1) A)(C:Addr)(a:List Value)(b:List (Str×Value)):c7 k (A.under (.builtin "type.__call__" #[.ref C::a,b])):=
 #[r.hd,by have:=r.dp;rw[Ei];lia,by have:=r.un;rw[Ej];lia]
theorem c7.depth{k:Nat}(r:c7 k A):A.depth<recursionLimit:=by have:=r.dp;lia
theorem c7.units{k:Nat}(r:c7 k A):A.units+64<cLine:=by have:=r.un;lia
def Rc:TA:=λ_ H Q=>Q [] H
def TM(b:TE)(c:TA):TA:=λa H Q=>b a H λx d=>c a d λe f=>Q (x::e) f
section
variable {X:Cx} {e:Expr} {es:List Expr} {te:TE} {t:TA} {pos:Pos}
def e9:PA X [] Rc:=λ_ _ _ _ H Q I h=>Calls.spliced_nil #[[],H,I, .nil,h]
def cE(d:PE X e te)(f:PA X es t)(g:starEach (e::es) X.env=(false,eval e X.env)::starEach es X.env:=by rfl):PA X (e::es) (TM te t):=by
 intro b a s c H Q I h;rw[g];show wpAny _ _ (spliced ((false,eval e X.env)::backTo b (starEach es X.env))) _ _ s;refine Calls.spliced_cons (thn (d a s c H _ I h) λu i j=>?_);rfl';obtain⟨x,l,m,n,o⟩:=j;ac_rfl;exact thn (f b a i c l _ m o) λz A #[p,q,r,v,w]=>#[x::p,q,r, .cons n v,w]
def Xa(t:TA):TE:=λc H Q=>t c H λa b=>a.length<=sizeLine/\∀p,b p=none->Q (.ref p) (upd b p (.tup a))
def W5(t:TA):TE:=λc H Q=>t c H λa b=>a.length<=sizeLine/\∀p,b p=none->Q (.ref p) (upd b p (.lst a))
def Ca{x1}(h:PA X es t):PE X (.Tuple es x1 pos) (Xa t):=by
 intro a s g H Q I i;refine wpAny_Tuple_spliced (thn (h pos a s g H _ I i) λj c #[k,d,f,r,z,q]=>#[r.length▸z,?_]);have l:d c.heap.objs.size=none:=f.hok.fresh (aY _);refine#[.ref c.heap.objs.size,upd d c.heap.objs.size (.tup k),f.laid (t':=c.toks) (λb u e=>AC _ e) (aY _) ?_,rfl,q _ l];exact#[z,j,r,#[_,GE _ rfl,rfl,_,rfl]]
def HX(h:PA X es t):PE X (.List es pos) (W5 t):=by
 intro a s g H Q I i;refine wpAny_List_spliced (thn (h pos a s g H _ I i) λj c #[k,d,f,r,z,q]=>#[r.length▸z,?_]);have l:d c.heap.objs.size=none:=f.hok.fresh (aY _);refine#[.ref c.heap.objs.size,upd d c.heap.objs.size (.lst k),f.laid (t':=c.toks) (λb u e=>AC _ e) (aY _) ?_,rfl,q _ l];exact#[z,j,0,r,GE _ rfl]
end
abbrev Sp:=List V->Hp->VK->XK->Prop
abbrev uC:=List Env->Hp->Shared->XK->Value->Shared->Prop
structure Env0 (P:Program) (w:World) (K:ab) (mg:Str->Option Value) (base:Heap) (A:Around) (outer:List Env) (s:Shared) (H:Hp):Prop where
 frames:A.frames\outer
 mod:Mod K mg base
 bs:∀b o,base.get? b\o->s.heap.get? b\o/\H b=none
 bsz:base.objs.size<=s.heap.objs.size
 funs:s.heap.FunFrames base outer
 frf:∀b∈xZ outer,H b=none
 hok:jU P w H s.heap
 bare:AllBare s.gens
def CE(outer:List Env)(P:Program)(w:World)(H:Hp)(s:Shared)(Q:VK)(u:Value)(a:Shared):Prop:=
 ∃v b,a.os=s.os/\AllBare a.gens/\Un (xZ outer) [] H b s.heap a.heap/\jU P w b a.heap/\RelV v u/\Q v b
def CR(b:uC)(outer:List Env)(P:Program)(w:World)(H:Hp)(s:Shared)(Q:VK)(E:XK)(r:Result)(a:Shared):Prop:=
 match r with
 | .ok (.ret u)=>CE outer P w H s Q u a
 | .ok _=>False
 | .error e=>b outer H s E e a
structure FnOk (P:Program) (w:World) (K:ab) (mg:Str->Option Value) (base:Heap) (CX:uC) (k:Nat) (f:Addr) (fd:FuncData) (ps:List Str) (sp:Sp):Prop where
 len:∀vs H Q E,sp vs H Q E->vs.length=ps.length
 run:∀(A:Around)(outer:List Env)(s:Shared)(H:Hp)(args:Args)(us:List Value)(vs:List V)(Q:VK)(E:XK),c7 k A->Env0 P w K mg base A outer s H->BindsTo s fd args (ps.zip us)->Vals vs us->sp vs H Q E->
  codeAny (model P w) A (.call (.ref f) args) (CR CX outer P w H s Q E) s
theorem FnOk.mono{P:Program}{w:World}{K:ab}{b:Str->Option Value}{base:Heap}(F:FnOk P w K b base c j f d ps e)(h:j<=k):
  FnOk P w K b base c k f d ps e:=#[F.len,λA outer s H a g i Q E l=>F.run A outer s H a g i Q E (l.mono h)]
def FnOk.imp{P:Program}{w:World}{K:ab}{base:Heap}{d:uC}{f:Addr}{g i:Sp}(F:FnOk P w K c base d k f e ps g)
  (h:∀a H Q E,i a H Q E->g a H Q E):FnOk P w K c base d k f e ps i:=
 #[λa H Q E q=>F.len a H Q E (h _ _ _ _ q),λA outer s H b j a Q E l m n o p=>F.run A outer s H b j a Q E l m n o (h _ _ _ _ p)]
def Env0.make{P:Program}{w:World}{K:ab}{a:Str->Option Value}{base:Heap}{A:Around}{outer:List Env}{s:Shared}{H:Hp}(e:Env0 P w K a base A outer s H)(C:Addr)(b:List Value)(c:List (Str×Value)):
  Env0 P w K a base (A.under (.builtin "type.__call__" #[.ref C::b,c])) outer s H:=#[by first|exact e.frames| (simpa [Around.under,Code.envs,Code.isFrame,pushEnvs] using e.frames),e.mod,e.bs,e.bsz,e.funs,e.frf,e.hok,e.bare]
section
variable {X:Cx} {pins:List (Addr×Obj)} {σ:St} {H:Hp} {s s':Shared}
def Inv.QK(I:Inv X pins σ H s):Env0 X.prog X.w X.K X.mg X.base X.A X.stack s H:=
 #[I.ok.frames,I.ok.mod,I.bs,i5 I.ok.bsz I.sz,I.stack,I.zg,I.hok,I.bare]
def Inv.after(I:Inv X pins σ H s)(h:CE X.stack X.prog X.w H s Q u s'):EP X pins σ Q u s':=by
 obtain⟨v,a,os,bare,un,hok,r,q⟩:=h;obtain⟨c,g,d,t,e⟩:=s';obtain rfl:e=s.os:=os;exact#[v,a,I.call (h':=c) (g':=g) (d':=d) (t':=t) (ch:= []) un hok bare (λb z=>absurd z (by simp)),r,q]
end
def TL(a:Sp)(b:List V)(E:XK)(t:TA):TE:=λc H Q=>t c H λd e=>a (d++b) e Q E
def GX(C:Addr)(m:Str)(d:Sp)(e:List V)(E:XK)(f:TE)(t:TA):TE:=λb H Q=>f b H λx c=>∃a g fs,x= .ref a/\c a\(.ins C g fs)/\fs.lookup m=none/\
 t b c λh i=>d (x::(h++e)) i Q E
def TQ(C:Addr)(c:Sp)(d:List V)(E:XK)(t:TA):TE:=λe H Q=>t e H λf b=>∀x a,b x=none->b a=none->a≠x->
 c (.ref x::(f++d)) (upd (upd b a (.own x)) x (.ins C a [])) (λv g=>v= .bC/\Q (.ref x) g) E
def Binds(K:ab)(d:FuncData)(b:List Str)(c:List Value):Prop:=
 ∀(s:Shared)(a:List Value),K.In s.heap->(a++c).length=b.length->BindsTo s d #[a,[]] (b.zip (a++c))
def Binds.all{K:ab}{c:FuncData}{b:List Str}(h:∀a:List Value,a.length=b.length->bindArgs c #[a,[]]=pure (b.zip a)):Binds K c b []:=λs a _ d=>by
 rw[iV] at d ⊢;exact .of_eq (h a d)
def Passes(c:uC)(X:Cx)(E:XK):Prop:=∀(a:List (Addr×Obj))(d:St)(H:Hp)(s:Shared)(e:Value)(b:Shared),Inv X a d H s->c X.stack H s E e b->X.xe e b
section
variable {X:Cx} {CX:uC} {k:Nat} {f C:Addr} {fd:FuncData} {ps:List Str} {sp:Sp} {bE:List V} {ds:List Value} {E:XK} {x m:Str} {p pos apos:Pos} {e o:Expr} {es:List Expr} {ta:TE} {t:TA}
theorem Cj{pins:List (Addr×Obj)}{σ:St}{H:Hp}{s:Shared}{Q:VK}{us:List Value}{vs:List V}(F:FnOk X.prog X.w X.K X.mg X.base CX k f fd ps sp)(hr:c7 k X.A)(hb:Binds X.K fd ps ds)(hd:Vals bE ds)(hx:Passes CX X E)
  (I:Inv X pins σ H s) (r:Vals vs us) (h:sp (vs++bE) H Q E):wpAny (model X.prog X.w) X.A (call (.ref f) us) (EP X pins σ Q) X.xe s:=by
 have r2:Vals (vs++bE) (us++ds):=r.append hd;have hl:(us++ds).length=ps.length:=by rw[<-r2.length];exact F.len _ _ _ _ h
 refine wpAny_call (codeAny_mono (F.run X.A X.stack s H #[us,[]] (us++ds) (vs++bE) Q E hr I.QK (hb s us I.jK hl) r2 h) λr s' hq=>?_);cases r with
 |error e=>exact hx pins σ H s e s' I hq
 |ok fl=>
  cases fl with
  |ret u=>exact I.after hq
  |next=>exact False.elim hq
  |brk=>exact False.elim hq
  |cont=>exact False.elim hq
def tX(F:FnOk X.prog X.w X.K X.mg X.base CX k f fd ps sp)(c:c7 k X.A)(d:Gl X x)(g:X.mg x\(.ref f))(i:ak X.K (.ref f)=true)(j:Binds X.K fd ps ds)(l:Vals bE ds)(n:Passes CX X E)
  (u:PA X (e::es) t) (v:(x==("__debug__":Str))=false:=by decide) (y:starEach (e::es) X.env=(false,eval e X.env)::starEach es X.env:=by rfl) (z:(backTo pos (starEach es X.env)).any (·.1)=false:=by rfl):
  PE X (.Call (.Name x p) (e::es) [] pos) (TL sp bE E t):=by
 intro a s B H Q I h;refine aas (yr I d g ?_ v);refine abG (h₀:=X.base) I.ok.mod.kin i (thn (u pos a s B H _ I h) λG J #[L,M,b,r,q]=>#[b.jK,?_]) y z;exact Cj F c j l n b r q
def MG{pl:Sem Bool}(v:PE X o ta)(c:xj X.K C)(d:Meth X.K C m f)(F:FnOk X.prog X.w X.K X.mg X.base CX k f fd ps sp)(y:c7 k X.A)(z:Binds X.K fd ps ds)(B:Vals bE ds)(G:Passes CX X E)(J:PA X (e::es) t)
  (L:starEach (e::es) X.env=(false,eval e X.env)::starEach es X.env:=by rfl) (M:(backTo pos (starEach es X.env)).any (·.1)=false:=by rfl)
  (N:eval (.Call (.Attribute o m apos) (e::es) [] pos) X.env=(do
   let g <-eval o X.env
   standAt apos.atName
   let (f,first) <-holding [g] (getMethod g m pl)
   callWith pos f first (backTo pos (starEach (e::es) X.env)) (backToKw pos (keywordEach [] X.env))):=by rfl):
  PE X (.Call (.Attribute o m apos) (e::es) [] pos) (GX C m sp bE E ta t):=by
 intro b s i H Q I h;refine PySem.W.methodCall_KW (pl:=pl) (thn (v b s i H _ I h) λu O #[x,P,j,R,a,Y,fs,S,T,l,q]=>?_) N;subst S;obtain rfl:u=Value.ref a:=R;refine vQ j T c d l ?_;refine abG (first:= [.ref a]) (h₀:=X.base) I.ok.mod.kin d.kp (thn (J pos b O i P _ j q) λus Z #[vs,p,n,r,U]=>#[n.jK,?_]) L M;exact Cj (us:= .ref a::us) (vs:= .ref a::vs) F y z B G n (.cons rfl r) U
def JO{pl:Sem Bool}(j:PE X o ta)(c:xj X.K C)(g:Meth X.K C m f)(F:FnOk X.prog X.w X.K X.mg X.base CX k f fd ps sp)(n:c7 k X.A)(r:Binds X.K fd ps ds)(v:Vals bE ds)(y:Passes CX X E)
  (z:eval (.Call (.Attribute o m apos) [] [] pos) X.env=(do
   let i <-eval o X.env
   standAt apos.atName
   let (f,first) <-holding [i] (getMethod i m pl)
   callWith pos f first (backTo pos (starEach [] X.env)) (backToKw pos (keywordEach [] X.env))):=by rfl):
  PE X (.Call (.Attribute o m apos) [] [] pos) (GX C m sp bE E ta Rc):=by
 intro b s B H Q I h;refine PySem.W.methodCall_KW (pl:=pl) (thn (j b s B H _ I h) λu M #[x,N,d,G,a,O,fs,J,L,l,q]=>?_) z;subst J;obtain rfl:u=Value.ref a:=G;refine vQ d L c g l ?_;exact PySem.W.callWith_K0 (first:= [.ref a]) d.jK g.kp (Cj (us:= [.ref a]) (vs:= [.ref a]) F n r v y d (.cons rfl .nil) q)
structure Mk (K:ab) (C f:Addr):Prop where
 makes:cs K C=true
 init:ay K (.ref C) "__init__"\(some (.ref f))
 fn:bB K (.ref f)=true
 kp:ak K (.ref C)=true
theorem J5{pins:List (Addr×Obj)}{σ:St}{H:Hp}{s:Shared}{Q:VK}{us:List Value}{vs:List V}(M:Mk X.K C f)(F:FnOk X.prog X.w X.K X.mg X.base CX k f fd ps sp)(hr:c7 (k+1) X.A)(hb:Binds X.K fd ps ds)(hd:Vals bE ds)
  (hx:Passes CX X E) (I:Inv X pins σ H s) (r:Vals vs us)
  (h:∀x dx,H x=none->H dx=none->dx≠x->sp (.ref x::(vs++bE)) (upd (upd H dx (.own x)) x (.ins C dx [])) (λv H2=>v= .bC/\Q (.ref x) H2) E):
  wpAny (model X.prog X.w) X.A (call (.ref C) us) (EP X pins σ Q) X.xe s:=by
 have hq:=h (s.heap.objs.size+1) s.heap.objs.size (I.hok.fresh (nS _)) (I.hok.fresh (aY _)) (bP (vx _));have I2:=Inv.made (C:=C) I;have r2:Vals (V.ref (s.heap.objs.size+1)::(vs++bE)) (Value.ref (s.heap.objs.size+1)::(us++ds)):= .cons rfl (r.append hd)
 have hl:(Value.ref (s.heap.objs.size+1)::us++ds).length=ps.length:=by
  have e:=r2.length;rw[F.len _ _ _ _ hq] at e;exact e.symm
 refine wpAny_call (Jy (f:=f) I.jK M.makes M.init (beq_iff_eq.mp M.fn) (codeAny_mono (F.run _ X.stack _ _ #[Value.ref (s.heap.objs.size+1)::us,[]] (Value.ref (s.heap.objs.size+1)::(us++ds)) _ _ E (hr.make C us [])
  (I2.QK.make C us []) (hb _ (Value.ref (s.heap.objs.size+1)::us) I2.jK hl) r2 hq) λr s' BL=>?_))
 cases r with
 |error e=>exact hx pins σ _ _ e s' I2 BL
 |ok fl=>
  cases fl with
  |ret u=>
   rfl';obtain⟨v,H',I3,rv,ev,q3⟩:=I2.after BL;subst ev;ac_rfl;exact#[rv,#[V.ref (s.heap.objs.size+1),H',I3,rfl,q3]]
  |next=>exact False.elim BL
  |brk=>exact False.elim BL
  |cont=>exact False.elim BL
def MF(M:Mk X.K C f)(F:FnOk X.prog X.w X.K X.mg X.base CX k f fd ps sp)(c:c7 (k+1) X.A)(d:Gl X x)(g:X.mg x\(.ref C))(i:Binds X.K fd ps ds)(j:Vals bE ds)(l:Passes CX X E)
  (n:PA X (e::es) t) (u:(x==("__debug__":Str))=false:=by decide) (v:starEach (e::es) X.env=(false,eval e X.env)::starEach es X.env:=by rfl) (y:(backTo pos (starEach es X.env)).any (·.1)=false:=by rfl):
  PE X (.Call (.Name x p) (e::es) [] pos) (TQ C sp bE E t):=by
 intro a s z H Q I h;refine aas (yr I d g ?_ u);refine abG (h₀:=X.base) I.ok.mod.kin M.kp (thn (n pos a s z H _ I h) λB G #[J,L,b,r,q]=>#[b.jK,?_]) v y;exact J5 M F c i j l b r q
end
section
variable {X:Cx} {CX:uC} {k:Nat} {f C:Addr} {fd:FuncData} {ps ks:List Str} {sp:Sp} {E:XK} {x m:Str} {p pos apos aaf:Pos} {e o:Expr} {es:List Expr} {kws:List Keyword} {te ta:TE} {t tk:TA} {nm:Option Str}
variable {g:List Value->List Value->List Value} {gV:List V->List V->List V}
end
structure aI (N P:List Str) (sc:Scope):Prop where
 kind:sc.kind= .function
 co:sc.isCoroutine=false
 gen:sc.isGenerator=false
 nd:N.Nodup
 pre:N.take P.length=P
 par:∀x∈P,sc.names.lookup x\.local\/sc.names.lookup x\.cell
 nofree:∀y∈sc.names,y.2≠ .free
theorem xD{kindOf:Str->Option NameKind}{x:Str}:∀{binds:List (Str×Value)}{m:Str->Option Value},(∀v,(x,v)∉binds)->bindL kindOf binds m x=m x
 | [],_,_=>rfl
 | (n,v)::r,m,h=>by
  unfold bindL;rw[xD λw hw=>h w (cm _ hw)]
  split
  .have:x≠n:=by rintro rfl;exact h v bF
   simp[this]
  .rfl
theorem xB{kindOf:Str->Option NameKind}{x:Str}:∀{binds:List (Str×Value)}{m:Str->Option Value},(∀v,(x,v)∉binds)->bindC kindOf binds m x=m x
 | [],_,_=>rfl
 | (n,v)::r,m,h=>by
  unfold bindC;rw[xB λw hw=>h w (cm _ hw)]
  split
  .rfl
  .have:x≠n:=by rintro rfl;exact h v bF
   simp[this]
theorem xC{kindOf:Str->Option NameKind}{x:Str}{v:Value}:∀{P:List Str}{a:List Value}{i:Nat}{m:Str->Option Value},P.Nodup->P[i]?\x->a[i]?\v->kindOf x\.local->
  bindL kindOf (P.zip a) m x\v
 | [],_,_,_,_,h,_,_=>by simp at h
 |_::_,[],_,_,_,_,h,_=>by simp at h
 |p::P,w::a,0,m,d,b,c,e=>by
  simp at b c;subst b;subst c;show bindL kindOf ((p,w)::P.zip a) m p=_;unfold bindL;rw[xD λv f=>(cI.mp d).1 (ace f).1,mo e];simp
 |p::P,w::a,i+1,m,d,b,c,e=>by
  show bindL kindOf ((p,w)::P.zip a) m x=_;unfold bindL;exact xC (i:=i) (cI.mp d).2 (~~~b) (~~~c) e
theorem xy{kindOf:Str->Option NameKind}{x:Str}{v:Value}:∀{P:List Str}{a:List Value}{i:Nat}{m:Str->Option Value},P.Nodup->P[i]?\x->a[i]?\v->kindOf x≠some .local->
  bindC kindOf (P.zip a) m x\v
 | [],_,_,_,_,h,_,_=>by simp at h
 |_::_,[],_,_,_,_,h,_=>by simp at h
 |p::P,w::a,0,m,d,b,c,e=>by
  simp at b c;subst b;subst c;show bindC kindOf ((p,w)::P.zip a) m p=_;unfold bindC;rw[xB λv f=>(cI.mp d).1 (ace f).1,ir e];simp
 |p::P,w::a,i+1,m,d,b,c,e=>by
  show bindC kindOf ((p,w)::P.zip a) m x=_;unfold bindC;exact xy (i:=i) (cI.mp d).2 (~~~b) (~~~c) e
def start(N:List Str)(a:List V):St:=a.map some++aj (N.length-a.length) none
def vM(g:uC)(P:Program)(w:World)(K:ab)(mg:Str->Option Value)(base:Heap)(N:List Str)(b:Str)(a:Scope)(f:Addr)(c:Value)(A:Around)(outer:List Env)(s:Shared)(H:Hp)(E:XK):Cx where
 prog:=P
 w:=w
 K:=K
 mg:=mg
 base:=base
 A:=A.deeper (envOfC b a s.heap.objs.size f c)
 N:=N
 s₀:=s
 H₀:=H
 env:=envOfC b a s.heap.objs.size f c
 outer:=outer
 stack:=envOfC b a s.heap.objs.size f c::outer
 ex:= []
 calm:=true
 fn:=λ_=>true
 pn:= []
 xe:=λe h=>wpAny (model P w) (A.deeper (envOfC b a s.heap.objs.size f c)) (leaving (envOfC b a s.heap.objs.size f c) e) (λ_ d=>g outer H s E e d) (λi d=>g outer H s E i d) h
def Ah{a:Scope}{n:Nat}(h:a.names.lookup x\.cell):∃c,(cellsFrom n a.names []).lookup x\c:=by
 have q:=acm a.names n [] (.inl h);exact Option.isSome_iff_exists.mp q
theorem F4{M:uC}{P:Program}{w:World}{K:ab}{I:Str->Option Value}{base:Heap}{N m:List Str}{g:Str}{d:Scope}{f:Addr}{C:Value}{A:Around}{outer:List Env}{s O:Shared}{H:Hp}{E:XK}{J:List Value}{o:List V}
  (S:aI N m d) (U:A.handled=none) (l:Env0 P w K I base A outer s H) (Z:o.length=m.length) (r:Vals o J)
  (x:InCallC s s.heap.objs.size (bindL (envOfC g d s.heap.objs.size f C).kindOf (m.zip J) λ_=>none) (cellsFrom (s.heap.objs.size+1) d.names []) (bindC (envOfC g d s.heap.objs.size f C).kindOf (m.zip J) λ_=>none) O):
  Inv (vM M P w K I base N g d f C A outer s H E) [] (start N o) H O:=by
 have eU:m.length<=N.length:=by have:=GM b3 S.pre;rw[kX] at this;lia
 obtain⟨F,tk,rfl,Q⟩:=x.done;have L:∀b:Addr,b∉(vM M P w K I base N g d f C A outer s H E).ex:=λb z=>absurd (show b∈([]:List Addr) from z) (by simp)
 refine#[#[l.mod,S.kind,rfl,rfl,aY _,λy z c F j=>?_,λy t=>?_,λy c _ h=>?_,λ_=>U,Around.frames_deeper l.frames, .inr #[rfl,rfl],λb z=>absurd z (L b),l.bs,l.bsz,λb _ _=>L b,λb z=>absurd z (L b),l.funs,l.frf],
  rfl,l.bare,Un.kept Q,#[_,x.toInCall.ns,λi y v F j h3=>?_],λy c h=>#[_,x.cell y c h],l.hok.fresh (aY _),λy c h=>?_,λp B=>absurd (show p∈([]:List (Addr×Obj)) from B) (by simp),l.hok.kept Q,?_]
 .exact name_of_addr x.apart (aaq F) (aaq j)
 .have t:d.names.lookup y\.cell\/d.names.lookup y\.free:=t
  rcases t with t|t
  .exact Ah t
  .exact absurd rfl (S.nofree _ (aaq t))
 .exact qk (x.above y c (aaq h))
 .have G:i<o.length:=by
   unfold start at j
   by_cases G:i<o.length
   .exact G
   .rw[kU (~~~G)] at j
    rw[A6] at j
    split at j<;>cases j
  have X:o[i]?\v:=by
   unfold start at j;rw[kW (~~~G),bW] at j
   cases e:o[i]? with
   |none=>rw[e] at j;cases j
   |some a=>rw[e] at j;cases j;rfl
  obtain⟨u,R,Y⟩:=r.get X
  have B:m[i]?\y:=by
   rw[<-S.pre,E4 ()];exact F
  have T:m.Nodup:=by rw[<-S.pre];exact S.nd.sublist (abR _ _)
  exists u,Y
  rcases S.par y (dY B) with k|k
  .exact .inl #[k,xC T B R k]
  .obtain⟨c,e⟩:=Ah (n:=s.heap.objs.size+1) k
   refine .inr #[.inl k,c,e,?_];have q:=x.cell y c e;rw[xy T B R (by show d.names.lookup y≠_;rw[k];decide)] at q
   exact q
 .exact l.hok.fresh (qk (x.above y c (aaq h)))
 .unfold start
  show _=N.length;rw[cA,aG,zD];lia
theorem R8{B:uC}{P:Program}{w:World}{K:ab}{C:Str->Option Value}{base:Heap}{k:Nat}{f:Addr}{i c:Str}{d:Arguments}{g:List Stmt}{a:Scope}{U kV p X l Y oc:Value}{Z od:Option Addr}
  {Ey:Array (Option Value)} {N F:List Str} {L:Sp} (lk:K.lookup f\#[oc,od, .func (bi i c d g a U kV p X Z l Y),Ey]) (dU:bd K l c=true) (S:aI N F a)
  (len:∀h H Q E,L h H Q E->h.length=F.length)
  (rP:∀(A:Around)(outer:List Env)(s:Shared)(H:Hp)(h:List V)(Q:VK)(E:XK),c7 k (A.deeper (envOfC c a s.heap.objs.size f l))->L h H Q E->
   ∃t,oI (vM B P w K C base N c a f l A outer s H E) g t/\t {nx:=λ_ j=>Q .bC j,rt:=Q} (start N h) H):
  FnOk P w K C base B (k+1) f (bi i c d g a U kV p X Z l Y) F L:=by
 refine#[len,λA outer s H args us h Q E M z hb r D3=>?_];have hl:=len _ _ _ _ D3;have KX:K.In s.heap:=z.mod.kin.keeps λb o e=>(z.bs b o e).1;have O:s.heap.NoLimit:=z.mod.nolimit.keeps λb o e=>(z.bs b o e).1
 have Sw:∀y∈F.zip us,a.names.lookup y.1\.local\/(a.names.lookup y.1\.cell/\((cellsFrom (s.heap.objs.size+1) a.names []).lookup y.1).isSome=true):=λ#[n,v] hy=>by
  rcases S.par n (ace hy).1 with q|q
  .exact .inl q
  .exact .inr #[q,acm _ _ _ (.inl q)]
 refine codeAny_call_function M.depth (KX _ _ lk) rfl S.co S.gen rfl (PySem.W.codeRec_of KX dU) (hb _ _ _ _ ?_);refine wpAny_newFunctionEnv_cells S.kind Sw λenv he s1 x=>?_;subst he;obtain⟨t,ht,hq⟩:=rP A outer s H h Q E (M.deeper _) D3;refine#[O.keeps x.toInCall.keep,codeAny_func ?_];have I:Inv (vM B P w K C base N c a f l A outer s H E) [] (start N h) H s1:=F4 S M.hd z hl r x;refine wpAny_mono (ht [] s1 (start N h) H _ I hq) (λfl R m=>?_) λe R m=>m
 have fin:∀{G:St}{j:Hp}{v:V}{u:Value},Inv (vM B P w K C base N c a f l A outer s H E) [] G j R->RelV v u->Q v j->CE outer P w H s Q u R:=
  λ {G j v u} J T q=>#[v,j,J.os,J.bare,J.base,J.hok,T,q]
 cases fl with
 |ret u=>
  obtain⟨v,G,j,J,T,q⟩:=m;exact fin J T q
 |next=>
  obtain⟨G,j,J,q⟩:=m;exact fin (v:=V.bC) (u:=Value.none) J rfl q
 |brk=>
  obtain⟨_,_,_,q⟩:=m;exact False.elim q
 |cont=>
  obtain⟨_,_,_,q⟩:=m;exact False.elim q
section
variable {X:Cx} {x:Str} {p pos:Pos} {e:Expr} {es:List Expr} {t:TA} {id T:String} {r:List V->Hp->VK->Prop}
def W0(r:List V->Hp->VK->Prop)(t:TA):TE:=λa H Q=>t a H λb c=>r b c Q
def qE(c:cB X (.builtin id) r)(d:Gl X x)(f:X.mg x=none)(g:bootBuiltins x\(.builtin id))(i:PA X (e::es) t)(j:x≠"__name__":=by decide)(k:(x==("__debug__":Str))=false:=by decide)
  (l:starEach (e::es) X.env=(false,eval e X.env)::starEach es X.env:=by rfl) (m:(backTo pos (starEach es X.env)).any (·.1)=false:=by rfl):PE X (.Call (.Name x p) (e::es) [] pos) (W0 r t):=by
 intro a s b H Q I h;refine aas (lh I d f g ?_ j k);exact PyProof.Rows.callWith_builtin1 (thn (i pos a s b H _ I h) λn o #[q,u,v,w,y]=>c a o b u q n Q v w y) l m
def sA(c:cB X (.type T) r)(d:Gl X x)(f:X.mg x=none)(g:bootBuiltins x\(.type T))(i:PA X (e::es) t)(j:x≠"__name__":=by decide)(k:(x==("__debug__":Str))=false:=by decide)
  (l:starEach (e::es) X.env=(false,eval e X.env)::starEach es X.env:=by rfl) (m:(backTo pos (starEach es X.env)).any (·.1)=false:=by rfl):PE X (.Call (.Name x p) (e::es) [] pos) (W0 r t):=by
 intro a s b H Q I h;refine aas (lh I d f g ?_ j k);exact aar (thn (i pos a s b H _ I h) λn o #[q,u,v,w,y]=>c a o b u q n Q v w y) l m
end
end L2
namespace HT
open PySem PyProof.Rows
def lexLt:List Int->List Int->Bool
 | [],[]=>false
 | [],_::_=>true
 |_::_,[]=>false
 |x::a,y::b=>if x=y then lexLt a b else decide (x<y)
def jC(x y:Int)(a b:List Int):lexLt (x::a) (y::b)=if x=y then lexLt a b else decide (x<y):=rfl
def oZ:lexLt [] []=false:=rfl
def nV(y:Int)(a:List Int):lexLt [] (y::a)=true:=rfl
def nU(x:Int)(a:List Int):lexLt (x::a) []=false:=rfl
def Aq(A:Around)(s:Shared)(a:Int)(t:Tok)(c:Int)(u:Tok):∃e,SeqAt.EqAt A s (.int a t) (.int c u) e/\(e=true↔a=c):=
 #[(a==c),aaM a t c u,by simp]
def ve(A:Around)(s:Shared)(a:Int)(t:Tok)(c:Int)(u:Tok)(prog:Program)(w:World)(E:Value->Shared->Prop)(Q:Value->Shared->Prop)(h:Q (.bool (decide (a<c))) s):
  wpAny (model prog w) A (richCompare .Lt (.int a t) (.int c u)) Q E s:=
 (PyProof.Rows.lt_int h:wpAny (model prog w) A (compareOp .Lt (.int a t) (.int c u)) Q E s)
section
open PySem.SeqAt
open PySem.AutoSeq1 (wpAny_loadPart')
open PySem.MeetsSeq PySem.MeetsSeq2 PySem.MeetsSeq3
theorem zo(l b:Addr)(f o:Array Value)(n Q:Nat)(S T:Option Addr)(U X:Array (Option Value))(v z:List Int)(M:IntsAre f.toList v)(N:IntsAre o.toList z):
  Meets (Builtin.«tuple.__lt__» #[[.ref l, .ref b],[]])
   (λ_ R s=>s.heap.get? l\{cls:= .type "tuple",dict:=S,data:= .seq f n,slots:=U}/\s.heap.get? b\{cls:= .type "tuple",dict:=T,data:= .seq o Q,slots:=X}/\
    R (.ok (.ret (.bool (lexLt v z)))) s):=
 .of_wp λprog w A R s h=>by
  obtain⟨B,g,d,C,os⟩:=s;obtain⟨Y,Z,h⟩:=h;have f2:=AutoSeq1.sub_tuple_tuple;have z1:f.size=v.length:=by rw[<-M.length];simp
  have z2:o.size=z.length:=by rw[<-N.length];simp
  wp_walk using wpAny_loadPart' Y,wpAny_loadPart' Z,abc _ (λk b H=>b.1=none/\H=#[B,g,d,C,os]/\∃(E F:List Value)(p r:List Int),k=E.zip F/\
   IntsAre E p/\IntsAre F r/\p.length+o.size=r.length+f.size/\R (.ok (.ret (.bool (lexLt p r)))) #[B,g,d,C,os]) _
  case turn=>
   intro I k b H iS;obtain⟨y,x⟩:=I;rfl';obtain⟨J,rfl,E,F,p,r,j,L,G,i,m⟩:=iS;ac_rfl;cases L with
   |nil=>rw[List.zip_nil_left] at j;cases j
   |cons a t VT=>
    cases G with
    |nil=>rw[List.zip_nil_right] at j;cases j
    |cons c u VU=>
     rw[abH] at j
     injection j with ZP SA
     injection ZP with hy hx
     subst hy hx;rw[jC] at m;simp only[b8] at i;obtain⟨e,he,O⟩:=Aq A.in1 #[B,g,d,C,os] a t c u;refine wpAny_bind (he prog w _ _ ?_);cases e with
     |true=>
      rw[mo (O.mp rfl)] at m
      wp_walk
      exact#[rfl,rfl,_,_,_,_,SA,VT,VU,(),m]
     |false=>
      rw[ir (λq=>absurd (O.mpr q) cP)] at m;have SD:=ve A.in1 #[B,g,d,C,os] a t c u prog w
      wp_walk using SD
      exact#[_,rfl,by simpa using m]
  case fin=>
   rintro⟨b1,b2⟩ H ⟨J,rfl,E,F,p,r,j,L,G,i,m⟩;simp only at J;subst J
   have P:lexLt p r=decide (f.size<o.size):=by
    cases L with
    |nil=>
     cases G with
     |nil=>
      simp only[iW] at i;rw[oZ];exact(Gc ()).symm
     |cons c u hw=>
      simp only[iW,b8] at i;rw[nV];exact(GT ()).symm
    |cons a t P=>
     cases G with
     |nil=>
      simp only[iW,b8] at i;rw[nU];exact(Gc ()).symm
     |cons c u hw=>
      rw[abH] at j;cases j
   rw[P] at m
   wp_walk
   exact#[_,rfl,by simpa [Builtin.Tuple.tupleCompareSizes] using m]
  case h=>
   exact#[rfl,rfl,f.toList,o.toList,v,z,rfl,M,N,(),h]
end
section
variable {prog:Program} {w:World} {A:Around} {E:Value->Shared->Prop} {s:Shared}
def Eh(p:IsTup s.heap l a)(q:IsTup s.heap b f)(r:IntsAre a.toList c)(t:IntsAre f.toList d)
  (u:A.units<cLine) (h:Q (.bool (lexLt c d)) s):wpAny (model prog w) A (compareOp .Lt (.ref l) (.ref b)) Q E s:=by
 rfl';obtain⟨⟨y,z,g,B⟩,i,j,n,k⟩:=id p;obtain⟨⟨J,C,data2,G⟩,m,o,H,e⟩:=id q;ac_rfl;simp only at j k o e;subst j k o e
 exact richCompare_meets_room (op:= .Lt) #[_,i,rfl] #[_,m,rfl] PySem.F.slot_tuple_lt PySem.F.entry_tuple_lt (PySem.F.args_tuple_lt_2 _ _) (zo l b a f n H z C B G c d r t)
  #[i,m,show Value.bool (lexLt c d)≠Value.notImplemented/\Q (.bool (lexLt c d)) s from#[(λx=>nomatch x),h]] u
def KJ(r:IsTup s.heap t c.toArray)(u:IsTup s.heap b a.toArray)(h:c≠ [])
  (v:a= []->Q (.ref t) s) (x:a≠ []->Q (.ref s.heap.objs.size) {s with heap:=s.heap.push {cls:= .type "tuple",data:= .seq (c++a).toArray}})
  (y:c.length+a.length<=sizeLine):wpAny (model prog w) A (binaryOp .Add (.ref t) (.ref b)) Q E s:=by
 rfl';obtain⟨⟨cls,i,data,j⟩,f,k,n,l⟩:=id r;obtain⟨⟨C,m,data2,o⟩,g,p,q,d⟩:=id u;ac_rfl;simp only at k l p d;subst k l p d;have e:c.toArray++a.toArray=(c++a).toArray:=by simp
 by_cases hw:a= []
 .exact concat_meets #[_,f,rfl] #[_,g,rfl] noFill_tuple_add seq_tuple_add acn acb (abY _ _)
   (tuple_addW1 t b c.toArray a.toArray n q i m j o (~~~h) (by simp[hw])) #[f,g,v hw]
 .refine concat_meets #[_,f,rfl] #[_,g,rfl] noFill_tuple_add seq_tuple_add acn acb (abY _ _)
   (tuple_addW2 t b c.toArray a.toArray n q i m j o (~~~h) (~~~hw) (by rw[cQ,cQ];exact y)) #[f,g,?_]
  rw[e];exact x hw
def cC(n d:Nat):Option Int->Nat
 |none=>d
 |some v=>if v<0 then(v+(n:Int)).toNat else min v.toNat n
def PY(n d:Nat)(b:d<=n)(o:Option Int):cC n d o<=n:=by
 cases o with
 |none=>exact b
 |some v=>
  show(if v<0 then(v+(n:Int)).toNat else min v.toNat n)<=n
  by_cases a:v<0
  .rw[mo a];lia
  .rw[ir a];exact Nat.min_le_right _ _
def Dc(v:Int)(n d:Nat):(if v<0 then max (v+(n:Int)) 0 else min v (n:Int))=((cC n d (some v):Nat):Int):=by
 show(if v<0 then max (v+(n:Int)) 0 else min v (n:Int))=(((if v<0 then(v+(n:Int)).toNat else min v.toNat n):Nat):Int)
 by_cases a:v<0
 .simp only[mo a];lia
 .simp only[ir a];lia
def CW(lo a:Option Int)(n:Nat):Builtin.Slice.sliceAdjust lo a 1 (n:Int)=(((cC n 0 lo:Nat):Int),((cC n n a:Nat):Int)):=by
 have b:¬((1:Int)<0):=()
 unfold Builtin.Slice.sliceAdjust;simp only[b,SC];refine aah ?_ ?_
 .cases lo with
  |none=>rfl
  |some v=>exact Dc v n 0
 .cases a with
  |none=>rfl
  |some v=>exact Dc v n n
def ED(i j:Nat):Builtin.Slice.slicePlaces (i:Int) (j:Int) 1=j-i:=by
 unfold Builtin.Slice.slicePlaces;have a:(1:Int)>0:=()
 simp only[a,aal,Int.ediv_one]
 split<;>lia
def wa(p:IsPart v o)(h:Q o s):wpAny (model prog w) A (Builtin.Slice.slicePartIndex v) Q E s:=by
 cases p with
 |none=>exact slicePart_none h
 |int i t=>exact slicePart_int h
def uf{f:Addr}{b c:Value}{lo a:Option Int}{n:Nat}{Q:Int×Int×Nat->Shared->Prop}(g:s.heap.IsSliceOf f b c .none)(i:IsPart b lo)(j:IsPart c a)
  (h:Q (((cC n 0 lo:Nat):Int),1,cC n n a-cC n 0 lo) s):wpAny (model prog w) A (Builtin.Slice.sliceApplied (.ref f) (pure (n:Int))) Q E s:=by
 rfl';obtain⟨os,d,m,e⟩:=id g;ac_rfl;unfold Builtin.Slice.sliceApplied Builtin.Slice.sliceFields;refine wpAny_bind (wpAny_bind (wpAny_field d e (x:=b) rfl (wpAny_bind (wpAny_field d e (x:=c) rfl (wpAny_bind (wpAny_field d e (x:= .none) rfl (be ?_)))))));refine wpAny_bind (slicePart_none ?_);rw[ir ∅]
 refine wpAny_bind (wa i (wpAny_bind (wa j (wpAny_bind (be ?_)))));show wpAny _ _ (match Builtin.Slice.sliceAdjust lo a 1 (n:Int) with| (lo,a)=>pure (lo,(1:Int),Builtin.Slice.slicePlaces lo a 1)) _ _ s
 rw[CW lo a n];show wpAny _ _ (pure (((cC n 0 lo:Nat):Int),(1:Int),Builtin.Slice.slicePlaces ((cC n 0 lo:Nat):Int) ((cC n n a:Nat):Int) 1)) _ _ s;rw[ED];exact be h
def JR(a:Array Value)(i k:Nat):((ac k).filterMap λ(m:Nat)=>a[((i:Int)+(m:Int)*1).toNat]?).toArray=((a.toList.drop i).take k).toArray:=by
 have e:(λ(m:Nat)=>a[((i:Int)+(m:Int)*1).toNat]?)=λm=>a[i+m]? :=by
  funext m
  have:((i:Int)+(m:Int)*1).toNat=i+m:=()
  rw[this]
 rw[e]
 have:=pick_run a i k
 rw[List.filterMap_map] at this;have b:((λx=>a[x]?)∘λx=>i+x)=λm=>a[i+m]? :=rfl;rw[b] at this;rw[this]
theorem rN{t e:Addr}{a:Array Value}{f g:Value}{lo b:Option Int}{Q:Value->Shared->Prop}(c:IsTup s.heap t a)(i:s.heap.IsSliceOf e f g .none)(j:IsPart f lo)(k:IsPart g b)
  (hw:¬(cC a.size 0 lo=0/\cC a.size a.size b=a.size))
  (h:Q (.ref s.heap.objs.size) {s with heap:=s.heap.push {cls:= .type "tuple",data:= .seq ((a.toList.drop (cC a.size 0 lo)).take (cC a.size a.size b-cC a.size 0 lo)).toArray}})
  (r:a.size<=sizeLine):wpAny (model prog w) A (getItem (.ref t) (.ref e)) Q E s:=by
 have d:sizeOk (.seq ((a.toList.drop (cC a.size 0 lo)).take (cC a.size a.size b-cC a.size 0 lo)).toArray):=by
  show((a.toList.drop (cC a.size 0 lo)).take (cC a.size a.size b-cC a.size 0 lo)).toArray.size<=sizeLine;rw[cQ,kX,vy,eD];lia
 have u:cC a.size a.size b<=a.size:=PY _ _ (aY _) b;obtain⟨os,l,n,v⟩:=id i;have o:s.TypeIs (.ref e) "slice":=#[os,l,n];unfold getItem
 try with_reducible refine wpAny_holding ?_
 first|refine wpAny_bind (wpAny_pure ?_) |skip
 refine wpAny_bind (wpAny_sequenceKey c.typeIs ∅ ?_)
 refine wpAny_bind (wpAny_callSpecial?_slot (name:=Str.ofString "__getitem__") c.typeIs PyProof.Rows.slot_tuple_getitem
  (wpAny_call_entry PyProof.Rows.slot_tuple_getitem c.typeIs entry_tuple_getitem ?_ (args_tuple_getitem _ _)))
 show wpAny _ _ (Builtin.Tuple.tupleItemsOf (.ref t)>>=_) _ _ s;refine wpAny_bind (tupleItemsOf_ c ?_);refine wpAny_bind (wpAny_typeOf o ?_);rw[if_pos ∅]
 refine wpAny_bind (uf i j k ?_)
 have p:¬((((cC a.size 0 lo:Nat):Int)==0&&(1:Int)==1&&(cC a.size a.size b-cC a.size 0 lo)==a.size)=true):=by
  intro q;rw[ux,ux] at q;have x:((cC a.size 0 lo:Nat):Int)=0:=eq_of_beq q.1.1;have y:cC a.size a.size b-cC a.size 0 lo=a.size:=eq_of_beq q.2;exact hw #[(),()]
 show wpAny _ _ (if (((cC a.size 0 lo:Nat):Int)==0&&(1:Int)==1&&(cC a.size a.size b-cC a.size 0 lo)==a.size)=true then _ else _) _ _ s;rw[if_neg p,JR]
 first
  |exact wpAny_bind (m:=Builtin.Tuple.tupleExact _) (wpAny_newObj_type (wpAny_pure #[_,rfl,wpAny_pure h]) d)
  |exact wpAny_bind (m:=Builtin.Tuple.tupleExact _) (wpAny_newObj_type (wpAny_bind (wpAny_pure (wpAny_pure #[_,rfl,wpAny_pure h]))) d)
  |exact wpAny_bind (wpAny_bind (m:=Builtin.Tuple.tupleExact _) (wpAny_newObj_type (wpAny_pure (wpAny_pure #[_,rfl,wpAny_pure h])) d))
  |exact wpAny_bind (wpAny_bind (m:=Builtin.Tuple.tupleExact _) (wpAny_newObj_type (wpAny_pure #[_,rfl,wpAny_pure h]) d))
end
end HT
namespace L2
open PySem PySem.Spec PyProof.Rows
abbrev TO:=St->Hp->(Option Int->Hp->Prop)->Prop
def PO(X:Cx)(e:Option Expr)(t:TO):Prop:=
 ∀(a:List (Addr×Obj))(s:Shared)(b:St)(H:Hp)(Q:Option Int->Hp->Prop),Inv X a b H s->t b H Q->
  wpAny (model X.prog X.w) X.A (evalPart e X.env) (λu d=>∃o c,Inv X a b c d/\IsPart u o/\Q o c) X.xe s
def NK:TO:=λ_ H Q=>Q none H
def TV(t:TE):TO:=λa H Q=>t a H λx b=>∃i,x= .int i/\Q (some i) b
def intsAre_of:∀{b:List Value},Vals (a.map V.int) b->IntsAre b a:=by
 induction a with
 |nil=>intro b r;rw[ab0] at r;cases r;exact .nil
 |cons n a c=>
  intro b r;rw[cX] at r;cases r with
  |cons d f=>
   obtain⟨t,e⟩:=d;subst e;exact .cons n t (c f)
section
variable {X:Cx} {e:Expr} {te:TE} {lo hi:Option Expr} {tl th:TO} {pos p2:Pos}
def MN:PO X none NK:=by
 intro a s b H Q I h;rw[evalPart_none];exact be #[none,H,I, .none,h]
def MO(h:PE X e te):PO X (some e) (TV te):=by
 intro a s b H Q I hw;rw[evalPart_some];refine thn (h a s b H _ I hw) λu l c=>?_;rfl';obtain⟨x,f,g,j,k⟩:=c;obtain⟨i,rfl,q⟩:=k;obtain⟨t,rfl⟩:=j;ac_rfl;exact#[some i,f,g, .int i t,q]
def Fe(X:Cx)(r:V->Option Int->Option Int->Hp->VK->Prop):Prop:=
 ∀(a:List (Addr×Obj))(s:Shared)(b:St)(H:Hp)(x:V)(v c d:Value)(lo f:Option Int)(g:Addr)(Q:VK),Inv X a b H s->RelV x v->s.heap.IsSliceOf g c d .none->IsPart c lo->IsPart d f->r x lo f H Q->
  ∃T id,typeLookup (.type T) "__getitem__"=pure (some (.builtin id))/\s.TypeIs v T/\wpAny (model X.prog X.w) X.A (getItem v (.ref g)) (EP X a b Q) X.xe s
def Fe.or(h:Fe X r)(n:Fe X c):Fe X (λx lo b H Q=>r x lo b H Q\/c x lo b H Q):=by
 intro a s d H x v f g lo b i Q I j k l m q
 rcases q with q|q
 .exact h a s d H x v f g lo b i Q I j k l m q
 .exact n a s d H x v f g lo b i Q I j k l m q
def tSl(r:V->Option Int->Option Int->Hp->VK->Prop)(b:TE)(c d:TO):TE:=λa H Q=>b a H λx f=>c a f λl g=>d a g λu h=>r x l u h Q
def JQ(m:Fe X r)(n:PE X e te)(o:PO X lo tl)(p:PO X hi th):PE X (.Subscript e (.Slice lo hi none p2) pos) (tSl r te tl th):=by
 intro a s d H Q I h;refine Subscript_ (thn (n a s d H _ I h) λv t f=>?_);rfl';obtain⟨x,y,z,A,B⟩:=f;ac_rfl;refine wpAny_Slice (thn (o a t d y _ z B) λi C #[l,E,F,G,J]=>thn (p a C d E _ F J) λj c f=>?_);rfl';obtain⟨u,k,L,M,N⟩:=f;ac_rfl;rw[evalPart_none];refine be ?_;have O:Inv X a d k {c with heap:=c.heap.push {cls:= .type "slice",data:= .fields [i,j, .none].toArray}}:=L.kept (t':=c.toks) λb U q=>AC _ q
 obtain⟨T,id,P,R,S⟩:=m a {c with heap:=c.heap.push {cls:= .type "slice",data:= .fields [i,j, .none].toArray}} d k x v i j l u c.heap.objs.size Q O A (Heap.IsSliceOf.new ..) G M N
 exact tail_any (ops:= [.ref c.heap.objs.size,v]) R P S (by with_unfolding_all rfl)
def vL(a:List V)(lo b:Option Int):List V:=(a.drop (HT.cC a.length 0 lo)).take (HT.cC a.length a.length b-HT.cC a.length 0 lo)
def sX(a:List V)(lo b:Option Int):(vL a lo b).length<=a.length:=by
 unfold vL;rw[kX,vy];lia
def WL(K:ab):V->Option Int->Option Int->Hp->VK->Prop:=λx lo c H Q=>∃a b,x= .ref a/\eG K H a b/\
 ¬(HT.cC b.length 0 lo=0/\HT.cC b.length b.length c=b.length)/\∀p,H p=none->Q (.ref p) (upd H p (.tup (vL b lo c)))
def PZ:Fe X (WL X.K):=by
 intro i s w H x v y z lo f A Q I l m n p h;rfl';obtain⟨a,d,rfl,u,hw,q⟩:=h;subst l;obtain⟨g,r,j,k⟩:=I.tuple u;have c:g.toArray.size=d.length:=by rw[cQ];exact r.length.symm
 ac_rfl;exists "tuple",_,abk.lookup,j.typeIs;refine HT.rN j m n p (by rw[c];exact hw) ?_ (by rw[c];exact k)
 rw[c];refine#[.ref s.heap.objs.size,_,I.laid (t':=s.toks) (o:= .tup (vL d lo f)) (λb C q=>AC _ q) (aY _) ?_,rfl,q _ (I.hok.fresh (aY _))];exact#[i5 (sX d lo f) k,_,(r.drop (HT.cC d.length 0 lo)).take (HT.cC d.length d.length f-HT.cC d.length 0 lo),IsTup.new _ _]
def Tr(K:ab):R2:=λx y H Q=>∃a b d c,x= .ref a/\y= .ref b/\eG K H a d/\eG K H b c/\d≠ []/\d.length+c.length<=sizeLine/\
 (c= []->Q (.ref a) H)/\(c≠ []->∀p,H p=none->Q (.ref p) (upd H p (.tup (d++c))))
def Vals.yD(r:Vals a b):b= []↔a= []:=by
 cases r with
 |nil=>simp
 |cons _ _=>simp
def Mv:OpR X (binaryOp .Add) (Tr X.K):=by
 intro f s F H x y v u Q I i j h;rfl';obtain⟨a,b,l,m,rfl,rfl,n,p,r,g,t,A⟩:=h;subst i;subst j;obtain⟨B,d,C,_⟩:=I.tuple n;obtain⟨J,c,E,_⟩:=I.tuple p;ac_rfl;refine HT.KJ C E (λz=>r (d.yD.mp z)) (λz=>#[.ref a,H,I,rfl,t (c.yD.mp z)]) (λz=>?_) (by rw[<-d.length,<-c.length];exact g)
 refine#[.ref s.heap.objs.size,_,I.laid (t':=s.toks) (o:= .tup (l++m)) (λb L q=>AC _ q) (aY _) ?_,rfl,A (λw=>z (c.yD.mpr w)) _ (I.hok.fresh (aY _))];exact#[by rw[cA];exact g,_,d.append c,IsTup.new _ _]
end
def k4(n:Nat)(i:Int):Option Nat:=if 0<=i then(if i<n then some i.toNat else none) else if-(n:Int)<=i then some (i+n).toNat else none
def fc{a:Type}(b:List a)(i:Int):Option a:=(k4 b.length i).bind λj=>b[j]?
def Eb(h:k4 n i\j):seqIndex? i n\j/\j<n/\-(n:Int)<=i/\i<n:=by
 unfold k4 at h
 by_cases b:0<=i
 .rw[mo b] at h
  by_cases a:i<n
  .rw[mo a] at h
   have e:i.toNat=j:=Da h;exact#[by rw[seqIndex_of b a,e],(),(),a]
  .rw[ir a] at h;cases h
 .rw[ir b] at h
  by_cases a: -(n:Int)<=i
  .rw[mo a] at h
   have e:(i+n).toNat=j:=Da h;exact#[by rw[seqIndex_neg () a,e],(),a,()]
  .rw[ir a] at h;cases h
def C0(h:fc a i\v):∃j,seqIndex? i a.length\j/\a[j]?\v/\j<a.length/\-(a.length:Int)<=i/\i<a.length:=by
 unfold fc at h;cases e:k4 a.length i with
 |none=>rw[e] at h;cases h
 |some j=>
  rw[e] at h;obtain⟨c,d,f,g⟩:=Eb e;exact#[j,c,h,d,f,g]
def oN{j:Nat}(h:a[j]?\v):fc a (j:Int)\v:=by
 have c:j<a.length:=(df.mp h).1
 have e:k4 a.length (j:Int)\j:=by
  unfold k4;rw[mo (),mo ()];simp
 unfold fc;rw[e];exact h
def sS(b:Expr):Prop:=∀o i,subscripted b false o i=operate [o,i] (getItem o i)
def E8(X:Cx)(r:R2):Prop:=
 ∀(c a:Expr)(b:List (Addr×Obj))(s:Shared)(d:St)(H:Hp)(x y:V)(v u:Value)(Q:VK),Inv X b d H s->RelV x v->RelV y u->r x y H Q->
  subscripted a false v u=operate [v,u] (getItem v u)->wpAny (model X.prog X.w) X.A (subscriptTail c a v u) (EP X b d Q) X.xe s
def Iw(X:Cx)(id:String)(r:V->List V->Hp->VK->Prop):Prop:=
 ∀(a:List (Addr×Obj))(s:Shared)(b:St)(H:Hp)(x:V)(c:List V)(v:Value)(d:List Value)(Q:VK),Inv X a b H s->RelV x v->Vals c d->r x c H Q->
  wpAny (model X.prog X.w) X.A (call (.builtin id) (v::d)) (EP X a b Q) X.xe s
section
variable {X:Cx} {a b:Expr} {ta tb:TE} {pos:Pos}
def E8.or(h:E8 X r)(l:E8 X f):E8 X (λx y H Q=>r x y H Q\/f x y H Q):=by
 intro c d e s g H x y v u Q I i j q k
 rcases q with q|q
 .exact h c d e s g H x y v u Q I i j q k
 .exact l c d e s g H x y v u Q I i j q k
def GA(d:E8 X r)(e:PE X a ta)(f:PE X b tb)(g:sS b):PE X (.Subscript a b pos) (NL r ta tb):=by
 intro c s i H Q I h;exact Subscript_ (KC e f I h λv u j x y k l m n q=>d a b c j i k x y v u Q l m n q (g _ _))
def WE(K:ab):R2:=λx y H Q=>∃p c i v,x= .ref p/\y= .int i/\cG K H p c/\fc c i\v/\Q v H
def WG(K:ab):R2:=λx y H Q=>∃p c i v,x= .ref p/\y= .int i/\eG K H p c/\fc c i\v/\Q v H
def yq:E8 X (WE X.K):=by
 intro e f c s m H x y v u Q I B C h n;rfl';obtain⟨p,S,i,z,rfl,rfl,F,G,q⟩:=h;subst B;obtain⟨t,rfl⟩:=C;obtain⟨g,r,k,T⟩:=I.list F;obtain⟨j,d,J,U,L,M⟩:=C0 G;obtain⟨w,o,N⟩:=r.get J;have O:=r.length;have Y:=qA;have fin:EP X c m Q w s:=#[z,H,I,N,q];ac_rfl
 by_cases A:0<=i
 .have l:i.toNat=j:=by
   rw[seqIndex_of A M] at d;exact Da d
  exact item_listR k.isList A () (by rw[l];simpa using o) fin n
 .have l:(i+(g.toArray.size:Int)).toNat=j:=by
   rw[seqIndex_neg () L] at d
   rw[cQ,<-O];exact Da d
  exact aco (x:=w) k.isList.typeIs slot_list_getitem.lookup
   (wpAny_getItem_list_neg (Q:=λr P=>r=w/\EP X c m Q r P) k.isList () (by rw[cQ]<;>lia) () (by rw[l];simpa using o) #[rfl,fin]) n
def OO:E8 X (WG X.K):=by
 intro d e c s f H x y v u Q I k l h m;rfl';obtain⟨p,N,i,z,rfl,rfl,o,A,q⟩:=h;subst k;obtain⟨t,rfl⟩:=l;obtain⟨B,r,g,O⟩:=I.tuple o;obtain⟨j,C,E,P,R,S⟩:=C0 A;obtain⟨w,F,G⟩:=r.get E;have J:=r.length;have T:=qA;have fin:EP X c f Q w s:=#[z,H,I,G,q];ac_rfl
 exact aco (x:=w) g.typeIs slot_tuple_getitem.lookup
  (getItem_tuple (j:=j) (Q:=λr L=>r=w/\EP X c f Q r L) g () () (by rw[cQ,<-J];exact C) (~~~F) #[rfl,fin]) m
def Ek(c:List Value)(n j:Nat)(u:Value):Obj.mapSeq (·.setIfInBounds j u) {cls:= .type "list",data:= .seq c.toArray n}={cls:= .type "list",data:= .seq (c.set j u).toArray n}:=by
 simp[Obj.mapSeq]
theorem Inv.lst{c:List (Addr×Obj)}{d:St}{H:Hp}{s:Shared}{p:Addr}{xs:List V}(I:Inv X c d H s)(h:H p\(.lst xs)):
  ∃(its:List Value)(n:Nat),Vals xs its/\s.heap.get? p\{cls:= .type "list",data:= .seq its.toArray n}/\xs.length<=sizeLine:=by
 obtain⟨z,its,n,r,e⟩:=I.hok p _ h;exact#[its,n,r,e,z]
def Inv.O3{its c:List Value}(I:Inv X d j H s)(h:H p\(.lst xs))
  (l:s.heap.get? p\{cls:= .type "list",data:= .seq its.toArray n}) (k:f {cls:= .type "list",data:= .seq its.toArray n}={cls:= .type "list",data:= .seq c.toArray i}) (r:Vals g c) (m:g.length<=sizeLine) (t:Nat):
  Inv X d j (upd H p (.lst g)) {s with heap:=s.heap.update p f,toks:=t}:=by
 have e:(s.heap.update p f).get? p\{cls:= .type "list",data:= .seq c.toArray i}:=by
  rw[SL f l (by rw[k]<;>rfl),k]
 refine I.write (x:=p) (e:=p) (by rw[h];trivial) (.inl rfl) (λb u o q=>(KM _ _ (Ne.symm o)).trans q) #[_,e] ?_
 exact#[m,c,i,r,e]
def Tt:V->V->V->Hp->(Hp->Prop)->Prop:=λo i v H Q=>∃p c k j,o= .ref p/\i= .int k/\H p\(.lst c)/\k4 c.length k\j/\Q (upd H p (.lst (c.set j v)))
def set_list:Qs X Tt:=by
 intro c s A H o i v M N u Q I B C E h;rfl';obtain⟨p,G,k,j,rfl,rfl,m,J,q⟩:=h;subst B;obtain⟨t,rfl⟩:=C;obtain⟨d,n,r,f,L⟩:=I.lst m;obtain⟨e,P,w,x⟩:=Eb J;have g:=r.length;have R:=qA;ac_rfl
 have y:Inv X c A (upd H p (.lst (G.set j v))) {s with heap:=s.heap.update p (Obj.mapSeq (·.setIfInBounds j u))}:=
  I.O3 m f (Ek d n j u) (r.set E j) (by rw[cV];exact L) s.toks
 by_cases z:0<=k
 .have l:k.toNat=j:=by
   rw[seqIndex_of z x] at e;exact Da e
  exact PySem.W.ki_setAt f z () (by rw[cQ,<-g];exact x) (by rw[l];exact#[_,y,q])
 .have l:(k+(d.toArray.size:Int)).toNat=j:=by
   rw[seqIndex_neg () w] at e
   rw[cQ,<-g];exact Da e
  exact PySem.W.ki_setBack f () (by rw[cQ,<-g];exact w) () (by rw[l];exact#[_,y,q])
def z8(lo c:Option Int)(n:Nat):(sliceBounds lo c none n).1=((HT.cC n 0 lo:Nat):Int)/\(sliceBounds lo c none n).2.1=((HT.cC n n c:Nat):Int)/\(sliceBounds lo c none n).2.2=1:=by
 refine#[?_,?_,rfl]
 .cases lo with
  |none=>simp[sliceBounds,HT.cC]
  |some i=>
   simp only[sliceBounds,HT.cC,Option.getD_none,show(1:Int)>0 by decide,aal]
   by_cases h:i<0
   .simp only[h,aal]<;>lia
   .simp only[h,SC]<;>lia
 .cases c with
  |none=>simp[sliceBounds,HT.cC]
  |some i=>
   simp only[sliceBounds,HT.cC,Option.getD_none,show(1:Int)>0 by decide,aal]
   by_cases h:i<0
   .simp only[h,aal]<;>lia
   .simp only[h,SC]<;>lia
def zb(c:List Value)(lo d:Option Int):slicePick c.toArray lo d none=((c.drop (HT.cC c.length 0 lo)).take (HT.cC c.length c.length d-HT.cC c.length 0 lo)).toArray:=by
 obtain⟨e,f,g⟩:=z8 lo d c.toArray.size;unfold slicePick;rw[e,f,g];simp only[sliceRange_one,pick_run,cQ]<;>rfl
def WK(K:ab):V->Option Int->Option Int->Hp->VK->Prop:=λx lo d H Q=>∃a c,x= .ref a/\cG K H a c/\∀p,H p=none->Q (.ref p) (upd H p (.lst (vL c lo d)))
def Nh:Fe X (WK X.K):=by
 intro f s u H x v w y lo e z Q I i j k l h;rfl';obtain⟨a,c,rfl,n,q⟩:=h;subst i;obtain⟨p,r,g,t⟩:=I.list n;have d:=r.length;ac_rfl;exists "list",_,slot_list_getitem.lookup,g.isList.typeIs;refine wpAny_getItem_list_slice g.isList j k l .none (by simp) ?_ (by rw[cQ]<;>lia)
 rw[zb,<-d];refine#[.ref s.heap.objs.size,_,I.laid (t':=s.toks) (o:= .lst (vL c lo e)) (λb B q=>AC _ q) (aY _) ?_,rfl,q _ (I.hok.fresh (aY _))];exact#[i5 (sX c lo e) t,_,0,(r.drop (HT.cC c.length 0 lo)).take (HT.cC c.length c.length e-HT.cC c.length 0 lo),GE _ rfl]
def iD:V->Bool
 | .bC=>true
 | .bl _=>true
 | .int _=>true
 | .str _=>true
 |_=>false
def xU:V->V->Bool
 | .bC, .bC=>true
 | .bl a, .bl b=>a==b
 | .bl a, .int b=>(if a then 1 else 0)==b
 | .int a, .bl b=>a==(if b then 1 else 0)
 | .int a, .int b=>a==b
 | .str a, .str b=>a==b
 |_,_=>false
def Ot{A:Around}{s:Shared}{y x:V}{u v:Value}(ry:RelV y u)(rx:RelV x v)(fy:iD y=true)(fx:iD x=true):SeqAt.EqAt A s u v (xU y x):=by
 cases y with
 |bC=>
  cases ry;cases x with
  |bC=>cases rx;exact SeqAt.EqAt.same _
  |bl b=>cases rx;exact SeqAt.EqAt.none_bool b
  |int b=>obtain⟨t,rfl⟩:=rx;exact SeqAt.EqAt.none_int b t
  |str b=>obtain⟨t,rfl⟩:=rx;exact SeqAt.EqAt.none_str b t
  |_=>exact absurd (show false=true from fx) cP
 |bl a=>
  subst ry;cases x with
  |bC=>cases rx;exact SeqAt.EqAt.bool_none a
  |bl b=>cases rx;exact SeqAt.EqAt.bool_bool a b
  |int b=>obtain⟨t,rfl⟩:=rx;exact SeqAt.EqAt.bool_int a b t
  |str b=>obtain⟨t,rfl⟩:=rx;exact SeqAt.EqAt.bool_str a b t
  |_=>exact absurd (show false=true from fx) cP
 |int a=>
  obtain⟨t',rfl⟩:=ry;cases x with
  |bC=>cases rx;exact SeqAt.EqAt.int_none a t'
  |bl b=>cases rx;exact SeqAt.EqAt.int_bool a t' b
  |int b=>obtain⟨t,rfl⟩:=rx;exact SeqAt.EqAt.int_int a t' b t
  |str b=>obtain⟨t,rfl⟩:=rx;exact SeqAt.EqAt.int_str a t' b t
  |_=>exact absurd (show false=true from fx) cP
 |str a=>
  obtain⟨t',rfl⟩:=ry;cases x with
  |bC=>cases rx;exact SeqAt.EqAt.str_none a t'
  |bl b=>cases rx;exact SeqAt.EqAt.str_bool a t' b
  |int b=>obtain⟨t,rfl⟩:=rx;exact SeqAt.EqAt.str_int a t' b t
  |str b=>obtain⟨t,rfl⟩:=rx;exact SeqAt.EqAt.str_str a t' b t
  |_=>exact absurd (show false=true from fx) cP
 |_=>exact absurd (show false=true from fy) cP
def qK(x:V)(u:Value):Bool:=match u with
 | .none=>xU .bC x
 | .bool b=>xU (.bl b) x
 | .int i _=>xU (.int i) x
 | .str z _=>xU (.str z) x
 |_=>false
def wW{x y:V}{u:Value}(r:RelV y u)(f:iD y=true):qK x u=xU y x:=by
 cases y with
 |bC=>cases r;rfl
 |bl b=>cases r;rfl
 |int i=>obtain⟨t,rfl⟩:=r;rfl
 |str z=>obtain⟨t,rfl⟩:=r;rfl
 |_=>exact absurd (show false=true from f) cP
theorem oM:∀{c:List V}{d:List Value},Vals c d->c.all iD=true->d.any (qK x)=c.any λy=>xU y x
 |_,_, .nil,_=>rfl
 |y::c,u::d, .cons r t,f=>by
  rw[vD,ux] at f;rw[aa8,aa8,wW r f.1,oM t f.2]
theorem kh(g:RelV x v)(h:iD x=true):∀{d:List V}{e:List Value},Vals d e->d.all iD=true->∀u∈e,SeqAt.EqAt A s u v (qK x u)
 |_,_, .nil,_=>λu c=>by cases c
 |y::d,u::e, .cons r t,f=>λi c=>by
  rw[vD,ux] at f
  rcases bu.mp c with rfl|c
  .rw[wW r f.1];exact Ot r g f.1 h
  .exact kh g h t f.2 i c
def ON(x:V)(c:List V):Bool:=c.any λy=>xU y x
def Ts(K:ab)(d:Bool):R2:=λx y H Q=>∃p c,y= .ref p/\(cG K H p c\/eG K H p c)/\iD x=true/\c.all iD=true/\Q (.bl (if d then !ON x c else ON x c)) H
def Gw:OpR X (compareOp .In) (Ts X.K false):=by
 intro f s m H x y v u Q I g j h;rfl';obtain⟨p,o,rfl,d,i,fs,q⟩:=h;subst j;ac_rfl
 rcases d with d|d
 .obtain⟨c,r,e,l⟩:=I.list d
  refine SeqAt.in_listAt (qK x) e.isList (λw hw=>kh g i r fs w (~~~hw)) #[.bl _,H,I,rfl,?_]
  rw[show c.toArray.any (qK x)=c.any (qK x) by simp,oM r fs]
  exact q
 .obtain⟨c,r,e,l⟩:=I.tuple d
  refine SeqAt.in_tupleAt (qK x) e (λw hw=>kh g i r fs w (~~~hw)) #[.bl _,H,I,rfl,?_]
  rw[show c.toArray.any (qK x)=c.any (qK x) by simp,oM r fs]
  exact q
def z7:OpR X (compareOp .NotIn) (Ts X.K true):=by
 intro f s m H x y v u Q I g j h;rfl';obtain⟨p,o,rfl,d,i,fs,q⟩:=h;subst j;ac_rfl
 rcases d with d|d
 .obtain⟨c,r,e,l⟩:=I.list d
  refine SeqAt.notIn_listAt (qK x) e.isList (λw hw=>kh g i r fs w (~~~hw)) #[.bl _,H,I,rfl,?_]
  rw[show c.toArray.any (qK x)=c.any (qK x) by simp,oM r fs]
  exact q
 .obtain⟨c,r,e,l⟩:=I.tuple d
  refine SeqAt.notIn_tupleAt (qK x) e (λw hw=>kh g i r fs w (~~~hw)) #[.bl _,H,I,rfl,?_]
  rw[show c.toArray.any (qK x)=c.any (qK x) by simp,oM r fs]
  exact q
def zN:cB X (.builtin "len") (λj H Q=>∃p d,j= [.ref p]/\(cG X.K H p d\/eG X.K H p d)/\Q (.int d.length) H):=by
 intro k s o H j t Q I r h;rfl';obtain⟨p,d,rfl,e,q⟩:=h;obtain⟨u,rfl,m⟩:=vals1 r;subst m;have w:=qA;ac_rfl
 rcases e with e|e
 .obtain⟨f,g,i,n⟩:=I.list e
  have c:=g.length;exact Calls.call_len_list i.isList (by simp only[cQ]<;>lia) #[.int d.length,H,I.tok _,#[s.toks+1,by rw[cQ,c]],q]
 .obtain⟨f,g,i,n⟩:=I.tuple e
  have c:=g.length;exact len_tuple i (by simp only[cQ]<;>lia) #[.int d.length,H,I.tok _,#[s.toks+1,by rw[cQ,c]],q]
def qN:cB X (.type "list") (λB H Q=>∃p f,B= [.ref p]/\(cG X.K H p f\/eG X.K H p f)/\∀l,H l=none->Q (.ref l) (upd H l (.lst f))):=by
 intro j s E H B G Q I r h;obtain⟨p,f,rfl,k,q⟩:=h;obtain⟨u,rfl,F⟩:=vals1 r;subst F
 have fin:∀(c:List Value),Vals f c->f.length<=sizeLine->∀(d:Heap)(g:Nat),(∀b C,s.heap.get? b\C->d.get? b\C)->
   d.get? s.heap.objs.size\{cls:= .type "list",dict:=none,data:= .seq c.toArray g,slots:= #[]}->EP X j E Q (.ref s.heap.objs.size) {s with heap:=d}:=λc i m d g t e=>
  #[.ref s.heap.objs.size,_,I.laid (t':=s.toks) t (aY _) (show dG X.prog X.w _ d _ (.lst f) from#[m,c,g,i,e]),rfl,q _ (I.hok.fresh (aY _))]
 rcases k with k|k
 .obtain⟨c,i,x,m⟩:=I.list k
  have v:=i.length;obtain⟨o,y,z,n,A⟩:=x.isList;exact call_list_seq p (.inl rfl) y z A (λd g t e=>fin c i m d g t e) (by simp only[cQ]<;>lia)
 .obtain⟨c,i,x,m⟩:=I.tuple k
  have v:=i.length;obtain⟨o,y,z,n,A⟩:=x;exact call_list_seq p (.inr rfl) y z A (λd g t e=>fin c i m d g t e) (by simp only[cQ]<;>lia)
def Qk(K:ab)(T:String)(x:V)(H:Hp):Prop:=match x with
 | .str _=>T="str"
 | .int _=>T="int"
 | .ref p=>(T="list"/\∃d,cG K H p d)\/(T="tuple"/\∃o,K.lookup p\o/\o.cls= .type "tuple"/\o.dict=none)\/
   (T="dict"/\((∃c,H p\(.dK c))\/∃c,H p\(.dT c)))\/(T="set"/\∃S n,H p\(.set S n))
 |_=>False
theorem Io(I:Inv X g q H s)(r:RelV x v)(h:Qk X.K T x H):
  s.TypeIs v T/\∀a,v= .ref a->∃l,s.heap.get? a\l/\l.dict=none:=by
 cases x with
 |str z=>
  obtain⟨t,rfl⟩:=r;cases(show T="str" from h);exact#[typeIs_str s z t,λ_ e=>nomatch e]
 |int i=>
  obtain⟨t,rfl⟩:=r;cases(show T="int" from h);exact#[typeIs_int s i t,λ_ e=>nomatch e]
 |ref p=>
  subst r
  rcases h with ⟨rfl,B,u⟩ | ⟨rfl,o,d,w,j⟩ | ⟨rfl,d⟩ | ⟨rfl,S,n,d⟩
  .obtain⟨y,_,m,_⟩:=I.list u
   refine#[m.isList.typeIs,λa e=>?_];cases e;obtain⟨o,n,e,c,j,_⟩:=m;exact#[o,e,j]
  .refine#[#[o,I.jK p o d,w],λa e=>?_]
   cases e;exact#[o,I.jK _ o d,j]
  .have z:∃o,s.heap.get? p\o/\o.ExactDict:=by
    rcases d with ⟨A,d⟩ | ⟨A,d⟩
    .obtain⟨_,_,_,_,o,_,_,e,f,_⟩:=I.hok p _ d
     exact#[o,e,f]
    .obtain⟨_,_,_,_,o,_,_,e,f,_⟩:=I.hok p _ d
     exact#[o,e,f]
   obtain⟨o,e,f⟩:=z;refine#[#[o,e,f.1],λa k=>?_];cases k;exact#[o,e,f.2.1]
  .obtain⟨o,_,_,_,e,f,_⟩:=I.hok p _ d
   refine#[#[o,e,f.1],λa k=>?_];cases k;exact#[o,e,f.2.1]
 |_=>exact False.elim h
def WX(K:ab)(T:String)(r:V->List V->Hp->VK->Prop)(d:TE):TE:=λe H Q=>d e H λx c=>Qk K T x c/\r x [] c Q
def tBM(K:ab)(T:String)(r:V->List V->Hp->VK->Prop)(e:TE)(t:TA):TE:=λc H Q=>e c H λx d=>Qk K T x d/\t c d λf g=>r x f g Q
variable {o e:Expr} {es:List Expr} {to:TE} {t:TA} {name:Str} {apos aV:Pos} {T id:String} {r:V->List V->Hp->VK->Prop}
def HW(i:PlainAttrs T)(slot:Slot T name id)(j:typeOf (.builtin id)=pure (.type "method_descriptor"))(k:Iw X id r)(l:PE X o to)
  (m:attributeBase o name X.env (eval o X.env)=eval o X.env:=by rfl) (n:(apos.endLine==aV.line)=true:=by rfl):PE X (.Call (.Attribute o name apos) [] [] aV) (WX X.K T r to):=by
 intro c s d H Q I h;refine wpAny_Call_method0_late m n (thn (l c s d H _ I h) λv p q=>?_);rfl';obtain⟨x,w,f,g,y,z⟩:=q;obtain⟨A,B⟩:=Io f g y;ac_rfl;exact#[T,id,i,slot,j,A,B,aaF rfl (PySem.evalArgs_none (k c p d w x [] v [] Q f g .nil z))]
def yU(l:PlainAttrs T)(slot:Slot T name id)(m:typeOf (.builtin id)=pure (.type "method_descriptor"))(n:Iw X id r)(p:PE X o to)(q:PA X (e::d) t)
  (u:attributeBase o name X.env (eval o X.env)=eval o X.env:=by rfl)
  (w:((backTo f (starEach (e::d) X.env)).all (λx=>!x.1)&&(backToKw f (keywordEach [] X.env)).all (λx=>x.1.isSome)
   &&decide ((e::d).length+([]:List Keyword).length+(if ([]:List Keyword).isEmpty then 0 else 1)<30))=true:=by rfl)
  (y:(apos.endLine==f.line)=true:=by rfl) (z:starEach (e::d) X.env=(false,eval e X.env)::starEach d X.env:=by rfl) (A:(backTo f (starEach d X.env)).any (·.1)=false:=by rfl):
  PE X (.Call (.Attribute o name apos) (e::d) [] f) (tBM X.K T r to t):=by
 intro c s g H Q I h;refine aa2 u w y rfl (thn (p c s g H _ I h) λv B C=>?_);rfl';obtain⟨x,F,i,j,G,J⟩:=C;obtain⟨L,M⟩:=Io i j G;ac_rfl;exists T,id,l,slot,m,L,M;have k:=q f c B g F _ i J;rw[z] at k ⊢;refine aaF (by show(false|| (backTo f (starEach d X.env)).any (·.1))=false;rw[A]<;>rfl) (abm ?_)
 exact thn k λN O #[P,R,S,U,Y]=>n c O g R x P v N Q S j U Y
end
def Iv(X:Cx)(id:String)(r:V->List V->Hp->VK->Prop):Prop:=
 ∀(a:List (Addr×Obj))(s:Shared)(b:St)(H:Hp)(x:V)(c:List V)(v:Value)(d:List Value)(Q:VK),Inv X a b H s->RelV x v->Vals c d->r x c H Q->
  wpAny (model X.prog X.w) X.A (call (.builtin id) (v::d)) (EP X a b Q) X.xe s
def Vals.one(h:Vals [x] a):∃u,a= [u]/\RelV x u:=by
 cases h with|cons r t=>cases t;exact#[_,rfl,r]
def Vals.two(h:Vals [x,y] a):∃u v,a= [u,v]/\RelV x u/\RelV y v:=by
 cases h with
 |cons r t=>
  obtain⟨v,rfl,q⟩:=Vals.one t;exact#[_,v,rfl,r,q]
theorem Vals.zero:∀{a:List Value},Vals [] a->a= []
 |_, .nil=>rfl
theorem Vals.dropLast(h:Vals a b):Vals a.dropLast b.dropLast:=by
 induction h with
 |nil=>exact .nil
 |cons r t c=>
  cases t with
  |nil=>exact .nil
  |cons q d=>exact .cons r c
theorem Vals.rep(h:Vals a b):∀k:Nat,Vals (aj k a).flatten (aj k b).flatten
 |0=> .nil
 |k+1=>by
  rw[wj,wj,jG,jG];exact Vals.append h (Vals.rep h k)
def DD(l:List c):l.eraseIdx (l.length-1)=l.dropLast:=by
 induction l with
 |nil=>rfl
 |cons a r d=>
  cases r with
  |nil=>rfl
  |cons b r=>
   have e:(a::b::r).length-1=((b::r).length-1)+1:=by
    have f:(a::b::r).length=r.length+2:=rfl;have g:(b::r).length=r.length+1:=rfl;lia
   rw[e,CF,d]
   all_goals rfl
theorem foldl_rep(a:List Value):∀(k:Nat)(acc:List Value),
  List.foldl (λb c=>b++c) acc.toArray (aj k a.toArray)=(acc++(aj k a).flatten).toArray
 |0,acc=>by simp
 |k+1,acc=>by
  have e:acc.toArray++a.toArray=(acc++a).toArray:=by simp
  have d:(acc++a)++(aj k a).flatten=acc++(aj (k+1) a).flatten:=by
   rw[wj,jG,h8]
  rw[<-d,<-foldl_rep a k (acc++a),<-e,wj,acf]
section
variable {X:Cx} {pins:List (Addr×Obj)} {σ:St} {H:Hp} {s:Shared} {l b:Addr} {xs ys zs:List V}
def Inv.Ef{its its':List Value}{f:Array Value->Array Value}(I:Inv X pins σ H s)(a:H l\(.lst xs))
  (e:s.heap.get? l\{cls:= .type "list",data:= .seq its.toArray n}) (c:f its.toArray=its'.toArray) (d:Vals ys its') (g:ys.length<=sizeLine):
  Inv X pins σ (upd H l (.lst ys)) {s with heap:=s.heap.update l (Obj.mapSeq f),toks:=t'}:=by
 have q:=PySem.IsL.update e f;rw[c] at q;refine I.write (x:=l) (e:=l) (by rw[a];exact trivial) (.inl rfl) (λj u h i=>(KM s.heap (Obj.mapSeq f) (Ne.symm h)).trans i) #[_,q] ?_
 exact#[g,its',_,d,q]
def Inv.Ed{its:List Value}{t':Nat}(I:Inv X pins σ H s)(a:Vals ys its)(c:ys.length<=sizeLine):
  Inv X pins σ (upd H s.heap.objs.size (.lst ys)) {s with heap:=s.heap.push {cls:= .type "list",data:= .seq its.toArray},toks:=t'}:=
 I.laid (λ_ _ q=>AC _ q) (aY _) #[c,its,0,a,GE _ rfl]
theorem Inv.fresh(I:Inv X pins σ H s):H s.heap.objs.size=none:=I.hok.fresh (aY _)
def Inv.pk(I:Inv X pins σ H s)(a:H l\(.lst xs)):xs.length<=sizeLine/\∃(its:List Value)(n:Nat),Vals xs its/\xs.length=its.length/\s.heap.get? l\{cls:= .type "list",data:= .seq its.toArray n}:=by
 obtain⟨z,its,n,r,e⟩:=I.hok l _ a;exact#[z,its,n,r,r.length,e]
def AQ(h:n<=sizeLine):Builtin.List.listTooLong n=false:=by
 unfold Builtin.List.listTooLong;exact Gc ()
end
section
variable {X:Cx}
def M4:V->List V->Hp->VK->Prop:=λx b H Q=>∃l a y,x= .ref l/\b= [y]/\H l\(.lst a)/\a.length<sizeLine/\Q .bC (upd H l (.lst (a++ [y])))
def kC:Iv X "list.append" M4:=by
 intro b s j H x k v m Q I d f h;rfl';obtain⟨l,p,y,rfl,rfl,c,t,q⟩:=h;subst d;obtain⟨u,rfl,i⟩:=f.one;obtain⟨z,a,n,r,w,e⟩:=I.pk c;ac_rfl;refine aaE F.slot_list_append #[_,e,rfl] F.entry_list_append (F.args_list_append_2 _ _) (PySem.list_append l a.toArray n u (by rw[cQ];lia)) #[e,?_]
 refine#[.bC,_,I.Ef (its':=a++ [u]) c e (by simp) (r.append (.cons i .nil)) ?_,rfl,q]
 rw[cA,rm];lia
def M5:V->List V->Hp->VK->Prop:=λx d H Q=>∃l b a c,x= .ref l/\d= [.ref b]/\H l\(.lst a)/\H b\(.lst c)/\a.length+c.length<=sizeLine/\Q .bC (upd H l (.lst (a++c)))
def Gi:Iv X "list.extend" M5:=by
 intro d s y H x A v B Q I g i h;obtain⟨l,b,C,E,rfl,rfl,f,j,G,q⟩:=h;cases g;obtain⟨u,rfl,k⟩:=i.one;cases k;obtain⟨z,a,n,r,J,e⟩:=I.pk f;obtain⟨L,c,m,o,M,p⟩:=I.pk j;have t:a.toArray.size+c.toArray.size<=sizeLine:=by rw[cQ,cQ];lia
 have w:¬(!a.toArray.isEmpty&&Builtin.List.listTooLong (a.toArray.size+c.toArray.size))=true:=by
  rw[AQ t,acy];exact cP
 refine aaE F.slot_list_extend #[_,e,rfl] F.entry_list_extend (F.args_list_extend_2 _ _)
  (AutoSeq1.list_extend_list_list_0 l a.toArray n b c.toArray m w (by rw[cQ];lia) ()) #[e,p,?_]
 refine#[.bC,_,I.Ef (its':=a++c) f e (by simp) (r.append o) ?_,rfl,q]
 rw[cA];lia
def WI:V->List V->Hp->VK->Prop:=λx b H Q=>∃l a y,x= .ref l/\b= []/\H l\(.lst a)/\a[a.length-1]?\y/\Q y (upd H l (.lst a.dropLast))
def O5:Iv X "list.pop" WI:=by
 intro b s t H x w v A Q I d f h;rfl';obtain⟨l,C,y,rfl,rfl,c,i,q⟩:=h;subst d;have j:=f.zero;subst j;obtain⟨z,a,n,r,k,e⟩:=I.pk c;obtain⟨u,m,o⟩:=r.get i;ac_rfl
 have p:a.toArray[a.toArray.size-1]?\u:=by
  show a.toArray[a.length-1]?\u;rw[<-gD,<-k];exact m
 refine aaE F.slot_list_pop #[_,e,rfl] F.entry_list_pop (F.args_list_pop_1 _) (MeetsSeq.list_pop_last l a.toArray n u p (by rw[cQ];lia)) #[e,?_]
 refine#[y,_,I.Ef (its':=a.dropLast) c e ?_ r.dropLast ?_,o,q]
 .show a.toArray.eraseIdxIfInBounds (a.toArray.size-1)=a.dropLast.toArray
  rw[cQ,List.eraseIdxIfInBounds_toArray,DD]
 .rw[List.length_dropLast]
  lia
def PN:V->List V->Hp->VK->Prop:=λx a H Q=>∃l b,x= .ref l/\a= []/\H l\(.lst b)/\Q .bC (upd H l (.lst []))
def JD:Iv X "list.clear" PN:=by
 intro b s i H x j v k Q I d f h;obtain⟨l,m,rfl,rfl,c,q⟩:=h;cases d;have g:=f.zero;subst g;obtain⟨z,a,n,r,o,e⟩:=I.pk c;refine aaE F.slot_list_clear #[_,e,rfl] F.entry_list_clear (F.args_list_clear_1 _) (AutoSeq1.list_clear_list_0 l a.toArray n (by rw[cQ];lia)) #[e,?_]
 exact#[.bC,_,I.Ef (its':= []) (ys:= []) c e rfl .nil (dZ _),rfl,q]
def WC:R2:=λx y H Q=>∃l b a c,x= .ref l/\y= .ref b/\H l\(.lst a)/\H b\(.lst c)/\a.length+c.length<=sizeLine/\∀p,H p=none->Q (.ref p) (upd H p (.lst (a++c)))
def HV:OpR X (binaryOp .Add) WC:=by
 intro c s t H x y v u Q I f g h;rfl';obtain⟨l,b,A,B,rfl,rfl,j,k,C,q⟩:=h;subst f;subst g;obtain⟨z,a,n,r,E,e⟩:=I.pk j;obtain⟨F,d,G,m,J,o⟩:=I.pk k;ac_rfl;refine PySem.P.add_list e o ?_ (by rw[cQ,cQ];lia)
 have p:a.toArray++d.toArray=(a++d).toArray:=by simp
 rw[p];exact#[.ref _,_,I.Ed (t':=s.toks) (r.append m) (by rw[cA];lia),rfl,q _ I.fresh]
def WJ:R2:=λx y H Q=>∃l k a,x= .ref l/\y= .int k/\H l\(.lst a)/\-(2^63)<=k/\k<2^63/\a.length*k.toNat<=sizeLine/\
 ∀p,H p=none->Q (.ref p) (upd H p (.lst (aj k.toNat a).flatten))
def len_rep(a:List b)(k:Nat):(aj k a).flatten.length=k*a.length:=by
 induction k with
 |zero=>simp
 |succ k c=>rw[wj,jG,cA,c,Nat.succ_mul,ab1]
def Pk:OpR X (binaryOp .Mult) WJ:=by
 intro g s O H x y v u Q I j o h;rfl';obtain⟨l,k,R,rfl,rfl,w,A,B,i,q⟩:=h;subst j;obtain⟨t,rfl⟩:=o;obtain⟨z,b,n,r,C,e⟩:=I.pk w;have c:b.toArray.size*k.toNat<=sizeLine:=by rw[cQ,<-C];exact i
 ac_rfl
 have E:¬b.toArray.size*k.toNat>(2^63-1) / 8:=by
  have:(sizeLine:Nat)<=(2^63-1) / 8:=∅
  lia
 have G:¬(!Builtin.List.listFitsIndex k)=true:=by
  rw[fitsIndex_both A B];exact cP
 have J:¬Builtin.List.listTooLong (b.toArray.size*k.toNat)=true:=by
  rw[AQ c];exact cP
 have L:List.foldl (λd f=>d++f) #[] (aj (if b.toArray.isEmpty=true then 0 else k.toNat) b.toArray)=(aj k.toNat b).flatten.toArray:=by
  have M:∀m:Nat,List.foldl (λd f=>d++f) #[] (aj m b.toArray)=(aj m b).flatten.toArray:=λm=>by
   have:=foldl_rep b m []
   rw[lP] at this;exact this
  rw[M];cases b with
  |nil=>simp
  |cons a S=>rw[ir (by simp)]
 refine wpAny_binaryOp_repeat_ref (T:="list") (U:="int") ∅ #[_,e,rfl] (λN=>typeIs_int N k t) noFill_list_mul F.fills_int_mul F.slot_int_rmul repeat_list F.slot_int_index.lookup
  (aaE F.slot_int_rmul (typeIs_int s k t) F.entry_int_rmul (F.args_int_rmul_2 _ _) (int___rmul___int_list k t l b.toArray n)
   #[e,rfl,#[_,e,rfl],aaE F.slot_list_mul #[_,e,rfl] F.entry_list_mul (F.args_list_mul_2 _ _) (AutoListH.list___mul___list_int_3 l b.toArray n k t G E J) #[e,?_]])
 rw[L];exact#[.ref _,_,I.Ed (t':=s.toks) (r.rep k.toNat) (by rw[len_rep,Nat.mul_comm];exact i),rfl,q _ I.fresh]
end
section
variable {prog:Program} {w:World} {A:Around} {E:Value->Shared->Prop} {s:Shared}
end
section
variable {X:Cx}
end
end L2
namespace Ub
open PySem PySem.W PySem.Calls PyProof.Rows
def uS:∀(c:List Int)(d:List Value),WellAll P h d (c.map WData.int)->IntsAre d c:=by
 intro c
 induction c with
 |nil=>
  intro d w;rw[ab0] at w;cases w;exact .nil
 |cons n c e=>
  intro d w;rw[cX] at w;cases w with
  |cons a b=>
   cases a;exact .cons _ _ (e _ b)
theorem GN{l:OpenLaw}(m:l.most\n) 
  (i:l.row.toRowW.claim.pre args=true) (o:WellAll P h c args):
  ∃a j b,c= [Value.ref a]/\args= [WData.list (b.map WData.int)]/\h.get? a\{cls:= .type "list",data:= .seq j.toArray}/\IntsAre j b/\b.length<=n:=by
 have p:WShape.hasAll [] args [.list .int]=true:=(pre_splitW i).1;have k:l.pre.holds [] {args:=args}=true:=(pre_splitW i).2;obtain⟨d,r,rfl,s,t⟩:=hasAllW_cons p;obtain rfl:=hasAllW_nil t;obtain⟨A,rfl,u⟩:=hasW_list s;obtain⟨b,rfl⟩:=items_int u
 have e:b.length<=n:=by
  unfold OpenLaw.pre at k
  have f:(WTm.not (.lt (.lit (.int (n:Int))) (.len (.arg 0)))).holds [] {args:= [.list (b.map .int)]}=true:=by
   have f:=(holds_andW k).1;rw[m] at f;exact f
  have g:=condW_of f (w_not (w_lt w_lit (w_len_list (w_arg rfl))));rw[aG] at g;refine lK λq=>?_;have v:(n:Int)<((b.length:Nat):Int):=()
  first
   | (rw[B v] at g;exact absurd g ∅)
   | (simp at g;lia)
 cases o with
 |cons w x=>
  cases x;cases w with
  |list y z=>exact#[_,_,b,rfl,rfl,y,uS b _ z,e]
def GC(l:OpenLaw)(args:List WData):l.row.toRowW.claim.post args (.bool true) args=true:=
 postW_of (r:=l.row.toRowW) (X:=(true==true))
  (show WShape.has [] (.bool true) .bool=true by first|rfl|decide|simp[WShape.has,WShape.arms,WShape.armsAll])
  (show(WTm.eq .res (.lit (.bool true))).value [] {args:=args,res:=some (.bool true),after:=args}\(.bool (true==true)) from w_eq_bool (w_res rfl) w_lit) rfl
def Bk{l:OpenLaw} 
  (C:l.most\n) (E:d.params.defaults= [])
  (call:∀(w:World)(e b:Shared)(m u:Str->Option Value)(j:Addr)(o:Obj)(v p g:Value)(a:Addr)(i:List Value)(s:List Int),
   Ground q c [] x w e m u b.heap->y w b.heap->
   b.heap.get? j\o->o.data= .func (docDef d.name d.params d.body d.scope v p g)->b.heap.CodeRec p d.name->m d.name\(.ref j)->
   b.heap.get? a\{cls:= .type "list",data:= .seq i.toArray}->IntsAre i s->s.length<=n->b.gens= #[]->
   codeAny (model l.prog w) callerA (.call (.ref j) #[[.ref a],[]]) (λr t=>r= .ok (.ret (.bool true))/\OldK b.heap t.heap/\t.os=b.os/\AllBare t.gens) b):
  WalkO q c x y l.row.toRowW d [] (λf i=>dc f i):=by
 intro w e b m u G Y j o v p g F kV H I J z L M A B as N O VM P Zo;obtain rfl:F= .none:=Dflts.none z E;obtain rfl:kV= .none:=Dflts.noKw z;rfl';obtain⟨a,i,s,rfl,rfl,R,h,k⟩:=GN C N P;ac_rfl;refine enter_call (aaL (call w e b m u j o v p g a i s G Y H (fd_plain I) J L R h k M) λr t S=>?_);obtain⟨rfl,T,U,X⟩:=S;exact#[.inl #[.bool true, .bool true,[],rfl,λ_=>rfl, .bool true,GC l _,λ_=>#[List.Pairwise.nil,λ_ Z=>(nomatch Z)]],T,U,X]
section
variable {prog:Program} {w:World} {A:Around} {E:Value->Shared->Prop} {s:Shared} {K:Frag}
end
end Ub
namespace L2
open PySem PySem.Spec PyProof.Rows
theorem nP:∀{a:List Value}{b:List Int},IntsAre a b->Vals (b.map V.int) a
 |_,_, .nil=> .nil
 |_,_, .cons n t h=> .cons #[t,rfl] (nP h)
def Kr(H:Hp):Prop:=∀b,H b=none\/∃o a,H b\(.tE o (.lst a))
theorem Ju{P:Program}{w:World}{K:ab}{l E:Str->Option Value}{L:uC}{k:Nat}{G a:Addr}{M:FuncData}{x:Str}{N:Sp}{c:Shared}{j:List Value}{p:List Int}
  (O:K.In c.heap) (Q:c.heap.Ns mainGlobals l) (f:c.heap.Ns builtinsNs E) (YZ:∀x:Str,x≠"__name__"->E x=bootBuiltins x) (VD:c.heap.NoLimit) (hg:c.gens= #[])
  (B:c.heap.get? a\{cls:= .type "list",data:= .seq j.toArray}) (R:IntsAre j p) (S:p.length<=sizeLine) (hr:c7 k callerA)
  (F:∀base:Heap,K.In base->base.Ns mainGlobals l->FnOk P w K l base L k G M [x] N) (Sj:∀(s:Shared)(u:Value),BindsTo s M #[[u],[]] [(x,u)])
  (D3:∀H:Hp,Kr H->cG K H a (p.map V.int)->N [.ref a] H (λv _=>v= .bl true) λ_ _ _=>False)
  (Sd:∀H e g,L [] H c (λ_ _ _=>False) e g->False):
  codeAny (model P w) callerA (.call (.ref G) #[[.ref a],[]]) (λr g=>r= .ok (.ret (.bool true))/\OldK c.heap g.heap/\g.os=c.os/\AllBare g.gens) c:=by
 have T:=nP R;have Wf:=R.length
 have i:∀H:Hp,Kr H->cG K H a (p.map V.int)->jU P w H c.heap->(∀b,H b≠none->b=a)->(H a≠none->K.lookup a=none)->
   codeAny (model P w) callerA (.call (.ref G) #[[.ref a],[]]) (λr g=>r= .ok (.ret (.bool true))/\OldK c.heap g.heap/\g.os=c.os/\AllBare g.gens) c:=by
  intro H U hS hok X hK;have Y:∀{b:Addr}{o:Obj},c.heap.get? b\o->H b=none->(tI c.heap H).get? b\o:=λe n=>Jm e n
  have Mo:∀{b:Addr}{o:Obj}{t:Array DictEntry}{y:Nat},c.heap.get? b\o->o.data= .dict t y->H b=none:=λ {b o t y} e d=>by
   cases q:H b with
   |none=>rfl
   |some u=>
    have I:b=a:=X b (by rw[q];simp)
    subst I;rw[B] at e;cases e;have d':Data.seq j.toArray _=Data.dict t y:=d;cases d'
  have C:∀{b:Addr}{m:Str->Option Value},c.heap.Ns b m->(tI c.heap H).Ns b m:=λ {b m} #[o,t,y,e,d,r]=>#[o,t,y,Y e (Mo e d),d,r]
  have Z:K.In (tI c.heap H):=λb o e=>Y (O b o e) (by
   cases q:H b with
   |none=>rfl
   |some u=>
    have I:b=a:=X b (by rw[q];simp)
    subst I;rw[hK (by rw[q];simp)] at e;cases e)
  have hM:Mod K l (tI c.heap H):=#[Z,C Q,#[E,C f,YZ],let #[mc,h1,h2]:=VD;#[mc,C h1,h2]];have e0:Env0 P w K l (tI c.heap H) callerA [] c H:=#[rfl,hM,λb o e=>Ms e,Nat.le_of_eq (FL _ _),trivial,λb f=>absurd (show b∈([]:List Addr) from f) (by simp),hok, .of_eq hg]
  refine aaL ((F _ Z (C Q)).run callerA [] c H #[[.ref a],[]] [.ref a] [.ref a] _ _ hr e0 (Sj c (.ref a)) (.cons rfl .nil) (D3 H U hS)) λr g h=>?_;cases r with
  |error e=>exact(Sd H e g h).elim
  |ok fl=>
   cases fl with
   |next=>exact False.elim h
   |brk=>exact False.elim h
   |cont=>exact False.elim h
   |ret u=>
    rfl';obtain⟨v,H',os,bare,un,VI,r',q⟩:=h;have q':v= .bl true:=q;subst q';ac_rfl;obtain rfl:u=Value.bool true:=r';refine#[rfl,OldK.of_keep λb o e=>?_,os,bare];cases q:H b with
    |none=>exact un.keep b o e q (by intro z;exact absurd (show b∈([]:List Addr) from z) (by simp)) (by simp)
    |some u=>
     rcases U b with z| ⟨ob,xs,z⟩
     .rw[q] at z;cases z
     .have z2:=un.frzs b ob _ z
      obtain⟨e1,_⟩:=hok b _ z;obtain⟨e2,_⟩:=VI b _ z2;rw[e] at e1;cases e1;exact e2
 cases J:K.lookup a with
 |some o=>
  have e:=O a o J;rw[B] at e;cases Da e;refine i (λ_=>none) (λ_=> .inl rfl) (.inr #[_,j.toArray,_,J,rfl,rfl,rfl,by rw[cQ,Wf];exact S,by simpa using T]) (λb u z=>by have A:(none:Option HO)\u:=z;cases A) (λb z=>absurd rfl z) λz=>absurd rfl z
 |none=>
  refine i (λb=>if b=a then some (.tE {cls:= .type "list",data:= .seq j.toArray} (.lst (p.map V.int))) else none) (λb=>?_) (.inl (.inr #[{cls:= .type "list",data:= .seq j.toArray},mo rfl])) (λb u z=>?_) (λb z=>?_) λ_=>J
  .by_cases f:b=a
   .exact .inr #[_,_,mo f]
   .exact .inl (ir f)
  .by_cases f:b=a
   .have A:=(mo f).symm.trans z
    obtain rfl:=Da A;subst f;exact#[B,by rw[aG];exact S,j,_,T,B]
   .have A:=(ir f).symm.trans z
    cases A
  .by_cases f:b=a
   .exact f
   .exact absurd (ir f) z
def NQ{l:b6}{n k:Nat}{q:Program}{i:List Str}{I:(Str->Option Value)->Heap->Prop}{A:World->Heap->Prop}{d:DefRec}{K:Params->ab}{CX:World->uC}{sp:World->Sp}{x:Str}
  (J:l.most\n) (L:n<=sizeLine) (M:d.params.defaults= []) (N:c7 k callerA)
  (O:∀(w:World)(h:Heap),A w h->(K w.params).In h)
  (F:∀(w:World)(m:Str->Option Value)(r:Addr)(h:Heap),(K w.params).In h->h.Ns mainGlobals m->m d.name\(.ref r)->
   ∃y:FuncData,(∀(s:Shared)(u:Value),BindsTo s y #[[u],[]] [(x,u)])/\
    ∀base:Heap,(K w.params).In base->base.Ns mainGlobals m->FnOk l.prog w (K w.params) m base (CX w) k r y [x] (sp w))
  (P:∀(w:World)(H:Hp)(a:Addr)(t:List Int),t.length<=n->Kr H->cG (K w.params) H a (t.map V.int)->sp w [.ref a] H (λv _=>v= .bl true) λ_ _ _=>False)
  (Q:∀(w:World)(H:Hp)(s:Shared)(e:Value)(z:Shared),CX w [] H s (λ_ _ _=>False) e z->False):
  dm q i I A l.row.toRowW d [] (λf B=>dc f B):=by
 refine Ub.Bk J M λw C p m mb r o pm cd R a B t G Y ho hd dU S U j c X=>?_;have E:=O w _ Y;obtain⟨y,Z,hF⟩:=F w m r _ E G.T.g S;exact Ju E G.T.g G.T.b G.T.builtins G.T.nolimit X U j (i5 c L) N hF Z (λH hO hS=>P w H a t c hO hS) λH e z=>Q w H p e z
def inClass(s:Stmt)(j:Nat):Stmt:=match s with
 | .ClassDef _ _ _ body _ _ _ _ _ _ _=>body.getD j (.Pass #[0,0,0,0])
 |_=> .Pass #[0,0,0,0]
def iz(s:Stmt):Arguments:=match s with
 | .FunctionDef _ a _ _ _ _ _ _ _ _=>a
 |_=>{posonlyargs:= [],args:= [],vararg:=none,kwonlyargs:= [],kw_defaults:= [],kwarg:=none,defaults:= []}
def fI(s:Stmt):List Stmt:=match s with
 | .FunctionDef _ _ b _ _ _ _ _ _ _=>b
 |_=> []
def au(s:Stmt):Scope:=match s with
 | .FunctionDef _ _ _ _ _ _ sc _ _ _=>sc
 |_=>{kind:= .function,names:= [],isGenerator:=false,isCoroutine:=false}
abbrev cg:uC:=λ_ _ _ _ _ _=>False
abbrev E0:XK:=λ_ _ _=>False
def sv:Passes cg X E0:=λ_ _ _ _ _ _ _ h=>h.elim
structure zJ (K:ab) (x qual:Str) (st:Stmt) (f:Addr) (fd:FuncData):Prop where
 ex:∃(oc:Value)(od:Option Addr)(kV doc pm:Value)(an:Option Addr)(bD ct:Value)(Ey:Array (Option Value)),
  fd=bi x qual (iz st) (fI st) (au st) .none kV doc pm an bD ct/\K.lookup f\#[oc,od, .func fd,Ey]/\bd K bD qual=true
 kp:ak K (.ref f)=true
section
variable {P:Program} {w:World} {K:ab} {mg:Str->Option Value} {base:Heap}
def zJ.ok{x a:Str}{st:Stmt}{f:Addr}{e:FuncData}{N c:List Str}{k:Nat}{d:Sp}(F:zJ K x a st f e)(S:aI N c (au st))(len:∀vs H Q E,d vs H Q E->vs.length=c.length)
  (g:∀(b:Value)(A:Around)(outer:List Env)(s:Shared)(H:Hp)(vs:List V)(Q:VK)(E:XK),c7 k (A.deeper (envOfC a (au st) s.heap.objs.size f b))->d vs H Q E->
   ∃t,oI (vM cg P w K mg base N a (au st) f b A outer s H E).jN (fI st) t/\t {nx:=λ_ i=>Q .bC i,rt:=Q} (start N vs) H):FnOk P w K mg base cg (k+1) f e c d:=by
 rfl';obtain⟨u,v,kV,l,y,z,b,B,C,rfl,m,n⟩:=F.ex;ac_rfl;refine R8 m n S len λA outer s H vs Q E o p=>?_;obtain⟨t,h,q⟩:=g b A outer s H vs Q E o p;exact#[t,h.jN,q]
def zJ.binds{st:Stmt}{ps:List Str}(F:zJ K x a st f j)
  (h:∀(kV b c:Value)(d:Option Addr)(e g:Value)(i:List Value),i.length=ps.length->bindArgs (bi x a (iz st) (fI st) (au st) .none kV b c d e g) #[i,[]]=pure (ps.zip i)):Binds K j ps []:=by
 rfl';obtain⟨m,n,kV,b,c,d,e,g,o,rfl,p,q⟩:=F.ex;ac_rfl;exact .all (h kV b c d e g)
def tF{x a:Str}{st:Stmt}{f:Addr}{i:Value}{j e:Option Addr}{m:Array (Option Value)}{kV b g d h:Value}(l:K.lookup f\#[i,j, .func (bi x a (iz st) (fI st) (au st) .none kV b g e d h),m])
  (c:bd K d a=true) (k:ak K (.ref f)=true):zJ K x a st f (bi x a (iz st) (fI st) (au st) .none kV b g e d h):=#[#[i,j,kV,b,g,e,d,h,m,rfl,l,c],k]
end
def cD(h:n<=1000):n<sizeLine:=Nat.lt_of_le_of_lt h ∅
section
variable {X:Cx}
def pv(i:Nat)(b:X.N[i]?\x:=by rfl)(c:jw X.env.scope x:=by subst_eqs)(d:(x==("__debug__":Str))=false:=by decide)
  (e:(x==("__classdict__":Str))=false:=by decide):PE X (.Name x a) (Rg i):=Cb b c d e
end
def bM{A B:Prop}(h:B):if false=true then A else B:=by
 rw[ir cP];exact h
def eC{A B:Prop}(h:A):if true=true then A else B:=by
 rw[mo rfl];exact h
def bg(H a:Hp):Prop:=∀b o,H b\o->a b\o
def bg.refl(H:Hp):bg H H:=λ_ _ h=>h
def bg.trans{H d e:Hp}(a:bg H d)(b:bg d e):bg H e:=λc o h=>b c o (a c o h)
def bg.free(e:bg H a)(h:a l=Option.none):H l=Option.none:=by
 cases q:H l with
 |none=>rfl
 |some o=>
  rw[e l o q] at h;cases h
def fV(env:Env):List (Str×NameKind)->List (Str×Addr)->List (Str×Addr)
 | [],a=>a
 | (n,k)::r,a=>if k==NameKind.free then fV env r ((n,(env.cells.lookup n).getD 0)::a) else fV env r a
def gq(h:∀x∈b.names,x.2= .free->∃c,env.cells.lookup x.1\c):closureFor b env=pure (fV env b.names []):=by
 simp only[closureFor]
 have j:∀(names:List (Str×NameKind))(d:List (Str×Addr)),(∀x∈names,x.2= .free->∃c,env.cells.lookup x.1\c)->
   (forIn names d λx e=>if (x.snd==NameKind.free)=true then(do let a <-cellOf env x.fst;pure (ForInStep.yield ((x.fst,a)::e))) else pure (ForInStep.yield e))=(pure (fV env names d):Sem _):=by
  intro names
  induction names with
  |nil=>intro d _;rfl
  |cons x r l=>
   obtain⟨n,k⟩:=x;intro d h;rw[List.forIn_cons,fV];have f:=λd=>l d λy m=>h y (cm _ m);cases g:k==NameKind.free with
   |false=>
    simp only[g,gQ,SC];exact f d
   |true=>
    have o:k= .free:=by simpa using g
    obtain⟨c,i⟩:=h (n,k) bF o;simp only at i;simp only[aal,cellOf,i];exact f _
 rw[j _ _ h];rfl
theorem cY:∀(names:List (Str×NameKind))(a:List (Str×Addr)),(∀x∈names,x.2= .free->∃c,env.cells.lookup x.1\c)->(∀x c,a.lookup x\c->env.cells.lookup x\c)->
  ∀x c,(fV env names a).lookup x\c->env.cells.lookup x\c
 | [],a,_,b=>b
 | (n,k)::r,a,h,b=>by
  rw[fV]
  split
  .rename_i g
   refine cY r _ (λy d=>h y (cm _ d)) λx c e=>?_;obtain⟨l,f⟩:=h (n,k) bF (~~~g)
   rw[lN] at e
   split at e
   .rename_i i
    have j:x=n:=by simpa using i
    subst j;simp only at f;rw[f] at e ⊢;exact e
   .exact b x c e
  .exact cY r a (λy d=>h y (cm _ d)) b
theorem j9{env:Env}:∀(names:List (Str×NameKind))(a:List (Str×Addr))(x:Str),((x,NameKind.free)∈names\/∃c,a.lookup x\c)->∃c,(fV env names a).lookup x\c
 | [],a,x,h=>by
  rcases h with h|h
  .cases h
  .exact h
 | (n,k)::r,a,x,h=>by
  rw[fV]
  split
  .rename_i b
   refine j9 r _ x ?_
   by_cases e:x=n
   .subst e;exact .inr #[(env.cells.lookup x).getD 0,by simp[lN]]
   .have ne:(x==n)=false:=by simpa using e
    rcases h with h| ⟨c,h⟩
    .rcases bu.mp h with z|z
     .cases z;exact absurd rfl e
     .exact .inl z
    .exact .inr #[c,by rw[lN,ne];exact h]
  .rename_i b
   refine j9 r a x ?_
   rcases h with h|h
   .rcases bu.mp h with z|z
    .cases z;exact absurd rfl b
    .exact .inl z
   .exact .inr h
def iQ(src:List (Option Nat))(a:St):St:=src.map λo=>o.bind λi=>(a[i]?).bind id
def c8(a:Scope)(b:List Str):List (Option Nat)->List Str->Prop
 | [],[]=>True
 |none::r,_::n=>c8 a b r n
 |some i::r,x::n=>b[i]?\x/\a.names.lookup x\.free/\c8 a b r n
 |_,_=>False
theorem c8.len:∀{src:List (Option Nat)}{NC:List Str},c8 a b src NC->src.length=NC.length
 | [],[],_=>rfl
 |none::r,_::n,h=>by have:=c8.len (src:=r) (NC:=n) h;simp[this]
 |some i::r,_::n,h=>by have:=c8.len (src:=r) (NC:=n) h.2.2;simp[this]
 | [],_::_,h=>h.elim
 |none::_,[],h=>h.elim
 |some _::_,[],h=>h.elim
theorem c8.at{a:Scope}:∀{src:List (Option Nat)}{NC:List Str}{j i:Nat}{x:Str},c8 a d src NC->src[j]?\(some i)->NC[j]?\x->d[i]?\x/\a.names.lookup x\.free
 | [],[],_,_,_,_,h,_=>by simp at h
 |none::r,_::n,0,_,_,_,h,_=>by simp at h
 |none::r,_::n,j+1,i,x,h,b,c=>c8.at (src:=r) (NC:=n) (j:=j) h (~~~b) (~~~c)
 |some k::r,y::n,0,i,x,h,b,c=>by
  have e:k=i:=by simpa using b
  have f:y=x:=by simpa using c
  subst e f;exact#[h.1,h.2.1]
 |some k::r,_::n,j+1,i,x,h,b,c=>c8.at (src:=r) (NC:=n) (j:=j) h.2.2 (~~~b) (~~~c)
 | [],_::_,_,_,_,h,_,_=>h.elim
 |none::_,[],_,_,_,h,_,_=>h.elim
 |some _::_,[],_,_,_,h,_,_=>h.elim
structure ck (X:Cx) (scope:Scope):Prop where
 kind:scope.kind= .function
 names:∀x∈scope.names,x.2= .local->scope.names.lookup x.1\.local
 nocell:∀x∈scope.names,x.2≠ .cell
 free:∀x∈scope.names,x.2= .free->X.env.kindOf x.1\.cell\/X.env.kindOf x.1\.free
theorem dA{env:Env}:∀(names:List (Str×NameKind))(x:Str),
  (names.map λ(n,k)=>if (k==NameKind.free&&env.scope.kind== .function&&env.kindOf n==some .cell) then(n,NameKind.cell) else(n,k)).lookup x=
   (names.lookup x).map λk=>if (k==NameKind.free&&env.scope.kind== .function&&env.kindOf x==some .cell) then NameKind.cell else k
 | [],_=>rfl
 | (n,k)::r,x=>by
  have c:=dA (env:=env) r x;show bv x ((if (k==NameKind.free&&env.scope.kind== .function&&env.kindOf n==some .cell)=true then(n,NameKind.cell) else(n,k))::_)=_;cases b:x==n with
  |true=>
   have e:x=n:=by simpa using b
   subst e
   by_cases a:(k==NameKind.free&&env.scope.kind== .function&&env.kindOf x==some .cell)=true
   .rw[mo a,lN,lN]
    simp only[b];show some NameKind.cell\(if _ then _ else _);rw[mo a]
   .rw[ir a,lN,lN]
    simp only[b];show some k\(if _ then _ else _);rw[ir a]
  |false=>
   by_cases a:(k==NameKind.free&&env.scope.kind== .function&&env.kindOf n==some .cell)=true
   .rw[mo a];simp only[lN,b];exact c
   .rw[ir a];simp only[lN,b];exact c
def mem_lookup{names:List (Str×NameKind)}{x:Str}{k:NameKind}(h:names.lookup x\k):(x,k)∈names:=aaq h
def cO(X:Cx)(a:Scope)(NC:List Str)(ex:List Addr)(s:Shared)(H:Hp):Cx:=
 {X with N:=NC,s₀:=s,H₀:=H,env:=compEnvC a (fV X.env a.names []) s.heap.objs.size X.env,outer:=X.stack,stack:=X.stack,ex:=ex,fn:=λ_=>false,pn:= [],xe:=λ_ _=>False}
section
variable {X:Cx} {pins:List (Addr×Obj)} {σ:St} {H:Hp} {s:Shared} {scope:Scope} {NC:List Str} {ex:List Addr} {src:List (Option Nat)}
theorem ck.cells(c:ck X scope)(ok:X.Ok):∀x∈scope.names,x.2= .free->∃c,X.env.cells.lookup x.1\c:=λx a e=>ok.has x.1 (c.free x a e)
def ck.F7(c:ck X scope)(h:(compEnvC scope (fV X.env scope.names []) C X.env).kindOf x\k)(i:k= .cell\/k= .free):scope.names.lookup x\.free:=by
 have a:(relabel scope X.env).names.lookup x\k:=h;unfold relabel at a;rw[dA] at a;cases e:scope.names.lookup x with
 |none=>rw[e] at a;cases a
 |some b=>
  have g:=c.nocell _ (mem_lookup e);rw[e] at a;have f:(if (b==NameKind.free&&X.env.scope.kind== .function&&X.env.kindOf x==some .cell) then NameKind.cell else b)=k:=Da a
  by_cases d:b= .free
  .rw[d]
  .have j:(b==NameKind.free)=false:=by simpa using d
   rw[j,zA,zA,ir cP] at f
   rcases i with z|z
   .rw[f] at g;exact absurd z g
   .rw[f] at d;exact absurd z d
def KP(I:Inv X pins σ H s)(c:ck X scope)(f:∀b∈ex,dQ X pins H b)(g:∀b∈ex,b<s.heap.objs.size):(cO X scope NC ex s H).Ok where
 mod:=I.ok.mod
 kind:=c.kind
 glob:=I.ok.glob
 blt:=I.ok.blt
 above:=aY _
 inj:=λx y d i j=>I.ok.inj x y d (cY _ _ (c.cells I.ok) (λ_ _ z=>by cases z) x d i) (cY _ _ (c.cells I.ok) (λ_ _ z=>by cases z) y d j)
 has:=λx k=>j9 _ _ x (.inl (mem_lookup (by rcases k with h|h<;>exact c.F7 h (by simp))))
 cab:=λ_ _ z=>by cases z
 hd:=I.ok.hd
 frames:=I.ok.frames
 stk:= .inl rfl
 exf:=λb a=>#[bP (g b a),λx d e=>(f b a).2.2.2.2.1 x d (cY _ _ (c.cells I.ok) (λ_ _ z=>by cases z) x d e)]
 bs:=I.bs
 bsz:=i5 I.ok.bsz I.sz
 noex:=λb o e a=>by
  rcases(f b a).2.2.2.1 with z|z
  .exact I.ok.noex b o e z
  .exact absurd (iU (Fk e) (i5 I.ok.bsz z)) (lQ _)
 exfs:=λb a z=>(bu.mp (I.xh b z)).elim (f b a).2.1 (f b a).2.2.1
 funs:=I.stack
 frf:=I.zg
theorem Ai{tk:Nat}(I:Inv X pins σ H s)(c:ck X scope)(A:c8 scope X.N src NC)(E:∀b∈ex,dQ X pins H b)(F:∀b∈ex,b<s.heap.objs.size)
  (G:h.Ns s.heap.objs.size (λ_=>none)) (J:Heap.SameBut s.heap.objs.size (s.heap.push C) h):
  Inv (cO X scope NC ex s H) [] (iQ src σ) H {s with heap:=h,toks:=tk}:=by
 have f:∀b o,s.heap.get? b\o->h.get? b\o:=λb o e=>J.extBut b o (bP (Fk e)) (AC _ e);have t:∀x d,(fV X.env scope.names []).lookup x\d->X.env.cells.lookup x\d:=λx d=>cY _ _ (c.cells I.ok) (λ_ _ z=>by cases z) x d
 have a:∀d v,s.heap.IsCell d v->h.IsCell d v:=λd v #[o,L,k]=>#[o,f d o L,k];refine#[KP I c E F,rfl,I.bare,Un.kept f,#[_,G,λj x v M O U=>?_],λx d e=>?_,I.hok.fresh (aY _),λx d e=>I.freeC x d (t x d e),λp P=>absurd (show p∈([]:List (Addr×Obj)) from P) (by simp),I.hok.kept f,?_]
 .have g:(iQ src σ)[j]?\(some v):=O
  unfold iQ at g;rw[bW] at g;cases w:src[j]? with
  |none=>rw[w] at g;cases g
  |some o=>
   rw[w] at g;cases o with
   |none=>cases g
   |some i=>
    have n:(σ[i]?).bind id\v:=Da g
    have Q:σ[i]?\(some v):=by
     cases q:σ[i]? with
     |none=>rw[q] at n;cases n
     |some z=>rw[q] at n;exact GM some n
    rfl';obtain⟨S,y⟩:=A.at w M;have B:=c.free _ (mem_lookup y) rfl;obtain⟨m,Z,T⟩:=I.loc;obtain⟨u,r,l⟩:=T i x v S Q (B.elim (λz=> .inr (.inl z)) (λz=> .inr (.inr z)));ac_rfl;refine#[u,r, .inr #[?_,?_]]
    .show(relabel scope X.env).names.lookup x=_\/(relabel scope X.env).names.lookup x=_
     unfold relabel;rw[dA,y]
     by_cases z:(NameKind.free==NameKind.free&&X.env.scope.kind== .function&&X.env.kindOf x==some .cell)=true
     .left;simp only[Option.map_some,z,aal]
     .right;simp only[Option.map_some,z];rfl
    .obtain⟨d,k⟩:=j9 (env:=X.env) scope.names [] x (.inl (mem_lookup y))
     exists d,k
     rcases l with ⟨l,_⟩ | ⟨_,d',e,z⟩
     .exfalso;rcases B with z|z<;>(rw[l] at z;cases z)
     .rw[t x d k] at e;cases e;exact a d _ z
 .obtain⟨v,z⟩:=I.cell x d (t x d e)
  exact#[v,a d v z]
 .show(iQ src σ).length=NC.length
  unfold iQ;rw[aG];exact A.len
def comp_back(I:Inv X pins σ H s)(p:∀b∈ex,dQ X pins H b)(J:Inv (cO X scope NC ex s H) m l g c)
  (r:Heap.SameBut s.heap.objs.size c.heap i):Inv X pins σ g {c with heap:=i}:=by
 have h:∀b o,b≠s.heap.objs.size->c.heap.get? b\o->i.get? b\o:=λb o a e=>r.extBut b o a e;have ne:∀b o,s.heap.get? b\o->b≠s.heap.objs.size:=λb o e=>bP (Fk e);have u:=J.base;refine I.KI (ch:=ex) (show c.os=s.os from J.os) #[λb o e n a f=>h b o (ne b o e) (u.keep b o e n a f),λb o e n a f=>?_,u.free,λb o e f=>?_,u.tups,u.frzs,u.tbls] ?_ J.bare λb a=>?_
 .obtain⟨t,q⟩:=u.slot b o e n a f
  exact#[t,h b _ (ne b o e) q]
 .obtain⟨j,q⟩:=u.there b o e f
  exact#[j,h b j (ne b o e) q]
 .intro b o e
  have k:∀b o,g b\o->b≠s.heap.objs.size:=λb o e z=>by
   have:=J.free
   rw[z] at e;have w:g s.heap.objs.size=none:=this;rw[w] at e;cases e
  refine(J.hok b o e).qe (λd v x q=>h d v ?_ q) (λ_ q=>q) λ_ _ q=>q
  rcases x with z|z
  .rw[z];exact k b o e
  .exact k d _ z
 .obtain⟨_,y,_,A,B,C⟩:=p b a
  exact#[A,y,B,C]
end
def kY(X:Cx)(b:List Expr)(t:TT):Prop:=
 ∀(a:List (Addr×Obj))(s:Shared)(d:St)(H:Hp)(Q:Bool->Hp->Prop),Inv X a d H s->t d H Q->
  wpAny (model X.prog X.w) X.A (forIn b true λc r=>if r=true then do let ok <-isTrue c X.env (eval c X.env);pure (ForInStep.yield ok) else pure (ForInStep.yield r)) (TP X a d Q) X.xe s
def Xb:TT:=λ_ H Q=>Q true H
def MT:kY X [] Xb:=λ_ _ _ H _ I h=>wpAny_tests_nil #[H,I,h]
def MU(h:PT X c t):kY X [c] t:=λa s b H Q I q=>wpAny_tests_one (h a s b H Q I q)
def Xz(J:It)(g:TG)(o:TT)(p:TE)(D:Addr)(Q:VK)(q:St)(H:Hp):Prop:=
 ∃W:Nat->Nat->St->Hp->Prop,(∃m,W 0 m q H)/\∀i m e a,W i m e a->
  (J.stop i a/\Q (.ref D) a)\/
  (J.go i a/\∃N:St->Hp->Prop,(∀f h,N f h->∃j,j<m/\W (i+1) j f h)/\∀x k,J.yld i a x k->g x e k λc r=>o c r λb l=>
   if b=true then p c l λv n=>∃d,n D\(.lst d)/\d.length<sizeLine/\N c (upd n D (.lst (d++ [v]))) else N c l)
def NJ(c:TI)(g:TG)(d:TT)(e:TE)(src:List (Option Nat)):TE:=λa H Q=>c a H λJ b=>∀D,b D=none->Xz J g d e D Q (iQ src a) (upd b D (.lst []))
section
variable {X:Cx} {elt iter tg:Expr} {ifs:List Expr} {scope:Scope} {pos:Pos} {wi:TI} {g:TG} {tt:TT} {te:TE} {src:List (Option Nat)} {NC:List Str}
theorem vK{RR:Value->Addr->Result->Shared->Prop}{Q:VK}
  (hc:X.calm=true) (c:ck X scope) (dB:c8 scope X.N src NC) (I2:Inv X j σ I B) (T:Turn X.prog X.w X.K tg J F it Z) (iZ:Z 0 B.heap) (f2:∀b∈F,dQ X j I b)
  (hg:∀s H,PG (cO X scope NC F s H) tg g) (ht:∀s H,kY (cO X scope NC F s H) ifs tt) (he:∀s H,PE (cO X scope NC F s H) elt te)
  (hW:∀D,I D=none->∃W:Nat->Nat->St->Hp->Prop,(∃m,W 0 m (iQ src σ) (upd I D (.lst [])))/\∀i m eO I,W i m eO I->
   (J.stop i I/\Q (.ref D) I)\/
   (J.go i I/\∃N:St->Hp->Prop,(∀G a,N G a->∃m',m'<m/\W (i+1) m' G a)/\∀x U,J.yld i I x U->g x eO U λfw H4=>tt fw H4 λb H5=>
    if b=true then te fw H5 λv H6=>∃ys,H6 D\(.lst ys)/\ys.length<sizeLine/\N fw (upd H6 D (.lst (ys++ [v]))) else N fw H5))
  (FG:∀D C U G a M,Inv X j σ U C->(∀b∈F,dQ X j U b)->Inv (cO X scope NC F C U) [] G a M->Q (.ref D) a->RR (.ref D) C.heap.objs.size (.ok .next) M):
  wpAny (model X.prog X.w) X.A (newList []) (λacc zj=>wpAny (model X.prog X.w) X.A (newFunctionEnv scope X.env.globals (fV X.env scope.names []) [] X.env.qual none .none (some X.env)) (λjA qf=>
   codeAny (model X.prog X.w) X.A (.compStart (.ListComp elt [#[tg,iter,ifs,0]] scope pos) 0 (.ref it) acc {jA with scope:=relabel scope X.env}) (RR acc jA.locals) qf) E zj) E B:=by
 rfl';obtain⟨W,⟨m0,w0⟩,turn⟩:=hW B.heap.objs.size I2.fresh;have I3:Inv X j σ (upd I B.heap.objs.size (.lst [])) {B with heap:=B.heap.push {cls:= .type "list",data:= .seq ([]:List Value).toArray}}:=I2.Ed (its:= []) (t':=B.toks) .nil (dZ _)
 ac_rfl
 have Mf:∀b∈F,b<B.heap.objs.size:=λb l=>by
  obtain⟨o,e,_⟩:=T.obj _ _ iZ b l;exact Fk e
 have f3:∀b∈F,dQ X j (upd I B.heap.objs.size (.lst [])) b:=λb l=>#[by rw[aN (bP (Mf b l))];exact(f2 b l).1,(f2 b l).2]
 refine M2 ?_
 suffices key:∀C:Shared,Inv X j σ (upd I B.heap.objs.size (.lst [])) C->(∀b o,B.heap.get? b\o->C.heap.get? b\o)->
   wpAny (model X.prog X.w) X.A (newFunctionEnv scope X.env.globals (fV X.env scope.names []) [] X.env.qual none .none (some X.env)) (λjA qf=>
    codeAny (model X.prog X.w) X.A (.compStart (.ListComp elt [#[tg,iter,ifs,0]] scope pos) 0 (.ref it) (.ref B.heap.objs.size) {jA with scope:=relabel scope X.env}) (RR (.ref B.heap.objs.size) jA.locals) qf) E C from
  key _ I3 λb o e=>AC _ e
 intro C I3 NP;have sF:Z 0 C.heap:=T.keep _ _ _ iZ λb _ o e=>NP b o e
 have zV:∀b∈F,b<C.heap.objs.size:=λb l=>by
  obtain⟨o,e,_⟩:=T.obj _ _ sF b l;exact Fk e
 generalize Va:upd I B.heap.objs.size (.lst [])=U at I3 f3 w0;refine wpAny_newFunctionEnv c.nocell (by intro y hy;simp at hy) (λh1 yf yh=>?_) c.kind
 have I4:=Ai (src:=src) (NC:=NC) (ex:=F) (tk:=C.toks+([]:List (Str×Value)).length) I3 c dB f3 zV yf yh;have ET:Z 0 h1:=T.keep _ _ _ sF λb l o e=>yh.extBut b o (bP (zV b l)) (AC _ e);generalize L:cO X scope NC F C U=k at I4
 have R:∀{a:Hp},(∀b∈F,a b=none)->∀b∈F,dQ k [] a b:=λ {a} hn b l=>by
  subst L;refine#[hn b l,bP (zV b l),λz=>?_, .inl l,λx d e=>?_,λp hp=>absurd (show p∈([]:List (Addr×Obj)) from hp) (by simp)]
  .exact(I4.ok.exfs b l) z
  .exact(I4.ok.exf b l).2 x d e
 have loop:codeAny (model X.prog X.w) X.A (.compLoop (.ListComp elt [#[tg,iter,ifs,0]] scope pos) 0 (.ref it) (.ref B.heap.objs.size) k.env) (RR (.ref B.heap.objs.size) C.heap.objs.size)
   {C with heap:=h1,toks:=C.toks+([]:List (Str×Value)).length}:=by
  refine ab2 rfl (λn M=>∃i G a,Inv k [] G a M/\Z i M.heap/\(∀b∈F,a b=none)/\W i n G a) (λn M hI=>?_) m0 #[0,_,_,I4,ET,λb l=>(f3 b l).1,w0];obtain⟨i,G,a,I5,sH,uN,w5⟩:=hI;show wpAny _ X.A ((compTurn (.ListComp elt [#[tg,iter,ifs,0]] scope pos) 0 (.ref it) (.ref B.heap.objs.size) k.env).onRaise (λx=>do noteFrame x k.env;theTreesLotGoes x)) _ _ M
  refine acp ?_;rw[compTurn_list]
  have jN:∀{α:Type}{t:Sem α}{Q:α->Shared->Prop}{E:Value->Shared->Prop}{s:Shared},wpAny (model k.prog k.w) k.A t Q k.xe s->wpAny (model X.prog X.w) X.A t Q E s:=λ {α t Q E s} h=>by
   subst L;exact wpAny_mono h (λ_ _ q=>q) λ_ _ f=>f.elim
  have BE:k.calm=true:=by subst L;exact hc
  have eP:k.prog=X.prog:=by subst L;rfl
  have ew:k.w=X.w:=by subst L;rfl
  have eK:k.K=X.K:=by subst L;rfl
  have eA:k.A=X.A:=by subst L;rfl
  have LM:PG k tg g:=by subst L;exact hg _ _
  have LY:kY k ifs tt:=L▸ht _ _;have LK:PE k elt te:=L▸he _ _;refine wpAny_bind (aan (wpAny_bind ?_))
  rcases turn i n G a w5 with ⟨stop,qn⟩ | ⟨go,N,hN,step⟩
  .have hd:=T.done k eP ew eK BE i [] M G a (notedBy (model X.prog X.w) X.A k.env λe M=>RR (.ref B.heap.objs.size) C.heap.objs.size (.error e) M) I5 (R uN) sH stop
   rw[eA] at hd;refine thn hd λr s6 O=>?_;obtain⟨hr,I6⟩:=O;subst hr;refine be ?_;subst L;exact FG _ C U G a s6 I3 f3 I6 qn
  .have hd:=T.item k eP ew eK BE i [] M G a (notedBy (model X.prog X.w) X.A k.env λe M=>RR (.ref B.heap.objs.size) C.heap.objs.size (.error e) M) I5 (R uN) sH go
   rw[eA] at hd;refine thn hd λr s6 O=>?_;rfl';obtain⟨u,hr,h6⟩:=O;ac_rfl;subst hr;refine wpAny_bind (thn h6 λ_ s7 O=>?_);rfl';obtain⟨x,H7,I7,r7,y7,sI,FA⟩:=O;ac_rfl;have E7:=I7.pinned (R FA) (T.obj _ _ sI)
   have again:∀{S:St}{Y:Hp}{s8:Shared},Inv k ([]++lA F s7.heap) S Y s8->N S Y->∃m,m<n/\∃i G a,Inv k [] G a s8/\Z i s8.heap/\(∀b∈F,a b=none)/\W i m G a:=λ {S Y s8} I8 n8=>by
    obtain⟨m',hm,w8⟩:=hN S Y n8;refine#[m',hm,i+1,S,Y,I8.ji,T.keep _ _ _ sI λb l o e=>(I8.pin (b,o) (eZ _ (eZ _ (dM l e)))).1,λb l=>?_,w8];obtain⟨o,e,d⟩:=T.obj _ _ sI b l;exact(I8.pin (b,o) (eZ _ (eZ _ (dM l e)))).2.1
   refine wpAny_bind (jN (thn (LM _ s7 G H7 x u _ E7 r7 (step x H7 y7)) λ_ s8 O=>?_));rfl';obtain⟨S,Y,I8,q8⟩:=O;ac_rfl;refine wpAny_bind (jN (thn (LY _ s8 S Y _ I8 q8) λb s9 O=>?_));obtain⟨H9,I9,q9⟩:=O;cases b with
   |false=>
    rw[ir cP] at q9;exact be #[L▸rfl,again I9 q9]
   |true=>
    rw[mo rfl] at q9;refine wpAny_bind (wpAny_bind (jN (thn (LK _ s9 S H9 _ I9 q9) λy J6 O=>?_)));rfl';obtain⟨v,Iq,Kn,M3,ys,hD,hz,M1⟩:=O;ac_rfl;refine wpAny_bind (jN (thn (kC _ J6 S Iq (.ref B.heap.objs.size) [v] _ [y] (λ_ a=>N S a) Kn rfl (.cons M3 .nil) #[_,ys,v,rfl,rfl,hD,hz,M1]) λ_ J7 O=>?_));rfl';obtain⟨_,Ir,Bf,_,GJ⟩:=O;ac_rfl;exact be (be #[L▸rfl,again Bf GJ])
 subst L;exact aa3 loop (T.self _ 0 _ _ _ ET loop)
def Tn(i:X.calm=true)(c:ck X scope)(j:c8 scope X.N src NC)(k:PI X tg iter wi)
  (l:∀b s H,PG (cO X scope NC b s H) tg g) (n:∀b s H,kY (cO X scope NC b s H) ifs tt) (o:∀b s H,PE (cO X scope NC b s H) elt te)
  (p:∀x,foldedSetIterable iter X.env x=pure x:=by intro _;rfl):PE X (.ListComp elt [#[tg,iter,ifs,0]] scope pos) (NJ wi g tt te src):=by
 intro a s e H Q I h;rw[acD];refine aay (use:=none) rfl p (gq (c.cells I.ok)) c.kind c.names (thn (k a s e H _ I h) λv P r=>thn r λR S t=>?_);rfl';obtain⟨Y,d,Z,J,H2,rfl,y,T,z,B,E⟩:=t;ac_rfl;refine vK (RR:=λacc C=>compPost (model X.prog X.w) X.A X.xe none (EP X a e Q) acc C) (Q:=Q) i c j y T z B (l d) (n d) (o d) E ?_;intro D s3 H3 aB F s' G L f q;obtain⟨m,M,_⟩:=f.loc;exact#[m,M,λh' O=>#[.ref D,F,comp_back G L f O,rfl,q]]
def Qd(b:TI)(g:TG)(c:TT)(d:TE)(src:List (Option Nat))(i:Nat):TS:=λD a H=>NJ b g c d src a H λv e=>D.nx (a.set i (some v)) e
def vc(Z:X.calm=true)(hN:X.N.Nodup)(m8:X.N[i]?\x)(hx:Loc X.env.scope x)(c:ck X scope)(dB:c8 scope X.N src NC)(hi:PI X tg iter wi)
  (hg:∀t s H,PG (cO X scope NC t s H) tg g) (ht:∀t s H,kY (cO X scope NC t s H) ifs tt) (he:∀t s H,PE (cO X scope NC t s H) elt te)
  (lW:swapsWith (.ListComp elt [#[tg,iter,ifs,0]] scope pos) (some (.Name x r)) O.line X.env=pure true)
  (hf:X.fn x=true\/X.env.scope.names.lookup x\.local:=by subst_eqs)
  (hs:∀x,foldedSetIterable iter X.env x=pure x:=by intro _;rfl):PS X (.Assign [.Name x r] (.ListComp elt [#[tg,iter,ifs,0]] scope pos) O) (Qd wi g tt te src i):=by
 intro f s u H D I h;rw[exec_Assign_Name_used _ _ _ _ lW];refine wpAny_bind (aan (wpAny_bind ?_));show wpAny _ X.A (do let _ <-comprehension (.ListComp elt [#[tg,iter,ifs,0]] scope pos) scope X.env _ (newList []) false (eval iter X.env) (some (assign (.Name x r) X.env))) _ _ s
 refine wpAny_bind (wpAny_mono (aay (use:=some (assign (.Name x r) X.env)) (Q:=λ_ j=>SP X f D .next j) rfl hs (gq (c.cells I.ok)) c.kind c.names
  (thn (hi f s u H _ I h) λv s1 h1=>thn h1 λmI s2 h2=>?_)) (λ_ j hq=>be (be hq)) λ_ _ e=>e)
 rfl';obtain⟨it,F,tn,J,H2,rfl,I2,T,iZ,f2,hW⟩:=h2;ac_rfl;refine vK (RR:=λacc C=>compPost (model X.prog X.w) X.A X.xe (some (assign (.Name x r) X.env)) (λ_ j=>SP X f D .next j) acc C) (Q:=λv k=>D.nx (u.set i (some v)) k) Z c dB I2 T iZ f2 (hg F) (ht F) (he F) hW ?_;intro a l H3 aB k j n f3 G q;obtain⟨m,hn,_⟩:=G.loc;have P:Inv X f u k j:=comp_back n f3 G (.refl ..);have R:l.heap.objs.size≠X.env.locals:=abX n.lt
 have nc:∀y d,X.env.cells.lookup y\d->d≠l.heap.objs.size:=λy d e z=>by
  obtain⟨v,hv⟩:=n.cell y d e
  have:=hv.lt
  rw[z] at this;exact absurd this (lQ _)
 have np:∀p∈X.pn++f,p.1≠l.heap.objs.size:=λp B z=>by
  have:=Fk (n.pin p B).1
  rw[z] at this;exact absurd this (lQ _)
 rfl';obtain⟨L,es,ep,Zu,S,rC⟩:=id hn;have U:k l.heap.objs.size=none:=G.free;ac_rfl
 have IP:Inv X ((l.heap.objs.size,L)::f) u k j:=P.tY λp B=>by
  rcases bu.mp B with z|z
  .rw[z]
   exact#[Zu,U,R,n.Q0 (aY _),λv w=>by rw[S] at w;cases w]
  .exact P.pin p (eZ _ z)
 refine wpAny_assign_Name (mW (x:=x) IP hN m8 hx (v:= .ref a) rfl (λY M=>?_) hf);have YU:=(M.pin (l.heap.objs.size,L) (eZ _ bF)).1;refine#[m,#[L,es,ep,YU,S,rC],λh6 sb=>?_];have Ri:Inv X f (u.set i (some (.ref a))) k Y:=M.tY λp B=>M.pin p (eZ _ (cm _ B));exact#[_,k,Ri.turned (t':=Y.toks) (it:=l.heap.objs.size) (λb o hb e=>sb.extBut b o hb e) U R (.inr n.sz) nc np,q]
end
section
variable {X:Cx} {pins:List (Addr×Obj)} {σ:St} {H:Hp} {s:Shared} {h':Heap} {fp:List Addr}
def Inv.EX{t':Nat}(I:Inv X pins σ H s)(d:∀b∈fp,dQ X pins H b)(k:∀b o,b∉fp->s.heap.get? b\o->h'.get? b\o):Inv X pins σ H {s with heap:=h',toks:=t'}:=by
 refine I.step (g':=s.gens) (d':=s.drawn) (ch:=fp) (λb g=>?_) (λb o _ _ a e _=>k b o a e) (λb o _ _ a e _=>#[o.slots,k b o a e]) (λ_ _ _ _ n=>n)
  (λb o a e=>#[o,k b o a e]) (λ_ _ e=>e) (λ_ _ _ e=>e) (λb y e=>#[#[],by rw[e];simp]) (λm h=>?_) (λb u e=>?_) I.bare
 .obtain⟨_,i,_,j,l,p⟩:=d b g
  exact#[j,i,l,p]
 .obtain⟨o,t,w,x,r⟩:=h
  exact#[o,t,w,k _ o (λz=>(d _ z).2.1 rfl) x,r]
 .have f:∀b u,H b\u->b∉fp:=λb u e z=>by rw[(d b z).1] at e;cases e
  refine(I.hok b u e).qe (λc v a q=>k c v ?_ q) (λ_ q=>q) λ_ _ q=>q
  rcases a with z|z
  .rw[z];exact f b u e
  .exact f c _ z
def Inv.NO(I:Inv X pins σ H s)(g:∀b∈fp,dQ X pins H b)(k:∀b o,b∉fp->s.heap.get? b\o->h'.get? b\o)(i:s.heap.objs.size<=t)
  (new:dG X.prog X.w (upd H t o) h' t o):Inv X pins σ (upd H t o) {s with heap:=h',toks:=t'}:=by
 have l:H t=none:=I.hok.fresh i;have d:∀b u,H b\u->upd H t o b\u:=λb u e=>by rw[aN (bI e l)];exact e
 refine I.step (g':=s.gens) (d':=s.drawn) (ch:=fp) (λb f=>?_) (λb o _ _ a e _=>k b o a e) (λb o _ _ a e _=>#[o.slots,k b o a e]) (λb o _ e n=>?_)
  (λb o a e=>#[o,k b o a e]) (λb G e=>d b _ e) (λb _ _ e=>d b _ e) (λb J e=>#[#[],by rw[d b _ e];simp]) (λm p=>?_) (λb u e=>?_) I.bare
 .obtain⟨_,x,_,y,A,B⟩:=g b f
  exact#[y,x,A,B]
 .rw[aN (bP (iU (Fk e) i))];exact n
 .obtain⟨o,C,E,F,r⟩:=p
  exact#[o,C,E,k _ o (λz=>(g _ z).2.1 rfl) F,r]
 .by_cases f:b=t
  .subst f
   rw[aD] at e;cases Da e;exact new
  .rw[aN f] at e
   have j:∀b u,H b\u->b∉fp:=λb u e z=>by rw[(g b z).1] at e;cases e
   refine(I.hok b u e).qe (λc v a q=>k c v ?_ q) (λh q=>d h _ q) λh _ q=>d h _ q
   rcases a with z|z
   .rw[z];exact j b u e
   .exact j c _ z
end
def Rj(K:ab)(a:Addr):It:=
 #[λi H=>∃b x,cG K H a b/\b[i]?\x,λi H y c=>∃t x,y= .ref t/\H t=none/\c=upd H t (.tup [.int i,x])/\∀b,cG K H a b->b[i]?\x,λi H=>∃b,cG K H a b/\b.length<=i]
def D9(e:h.get? t\{cls:= .type "tuple",data:= .seq [u,v].toArray}):IsTup h t [u,v].toArray:=#[_,e,rfl,_,rfl]
def Hc{P:Program}{w:World}{K:ab}{T:List Expr}{k1}{U:Pos}(a e l:Addr)(ne:e≠l):
  Turn P w K (.Tuple T k1 U) (Rj K a) [e,l] e (λi h=>(∃g,IsEnum h e l i g)/\h.IsListIter l a i) where
 mem:=by simp
 obj:=λi h st b f=>by
  obtain⟨⟨g,m⟩,o,A,c,d⟩:=st
  rcases bu.mp f with z|z
  .subst z
   exact#[_,m,λv w=>by cases w]
  .have B:b=l:=by simpa using z
   subst B;exact#[o,A,λv z=>by rw[d] at z;cases z]
 keep:=λi h t st k=>by
  obtain⟨⟨g,m⟩,Y⟩:=st;exact#[#[g,k e (by simp) _ m],Y.at λo q=>k l (by simp) o q]
 item:=by
  intro X C hw F O i j s Q H E I r st G;rfl';subst C hw F;obtain⟨xs,x,y,L⟩:=G;obtain⟨M,N,p,hz⟩:=I.list y;obtain⟨u,hu,ru⟩:=N.get L;obtain⟨⟨g,m⟩,n⟩:=st;ac_rfl;refine wpAny_pyNext_enum_item m n p.isList (x:=u) (~~~hu) ne λt yb LN Jq aad kk=>?_
  have k2:∀b o,b∉ [e,l]->s.heap.get? b\o->t.get? b\o:=λb o f q=>kk b o (λz=>f (by simp[z])) (λz=>f (by simp[z])) q
  have I1:Inv X j Q (upd H s.heap.objs.size (.tup [.int i,x])) {s with heap:=t,toks:=s.toks+1}:=
   I.NO r k2 (aY _) #[by show 2<=sizeLine;decide,[.int i s.toks,u], .cons #[_,rfl] (.cons ru .nil),D9 Jq]
  refine#[_,rfl,wpAny_letOwnedTupleGo_enum yb λh2 LJ R=>?_]
  have lt:∀b∈ [e,l],b<s.heap.objs.size:=λb f=>by
   rcases bu.mp f with z|z
   .rw[z];exact Fk m
   .obtain⟨o,A,_⟩:=n
    have B:b=l:=by simpa using z
    rw[B];exact Fk A
  have S:∀b∈ [e,l],dQ X j (upd H s.heap.objs.size (.tup [.int i,x])) b:=λb f=>#[by rw[aN (bP (lt b f))];exact(r b f).1,(r b f).2]
  refine#[.ref s.heap.objs.size,_,I1.EX (t':=s.toks+1) S (λb o f q=>R.extBut b o (λz=>f (by simp[z])) q),rfl,#[_,x,rfl,I.hok.fresh (aY _),rfl,λys hy=>by rw[I.uX hy y];exact L],#[#[u,?_],LN.extBut R.extBut (Ne.symm ne)],λb f=>(S b f).1]
  have z:((i+1:Nat):Int)=(i:Int)+1:=()
  rw[z];exact LJ
 done:=by
  intro X C hw F O i j s Q H E I r st G;rfl';subst C hw F;obtain⟨xs,y,L⟩:=G;obtain⟨M,N,p,hz⟩:=I.list y;have hl:=N.length;obtain⟨⟨g,m⟩,n⟩:=st;ac_rfl;exact wpAny_pyNext_enum_end (I.ok.hd O) m n p.isList (by simp;lia) λt eb=>#[rfl,I.EX (t':=s.toks) r λb o f q=>eb b o (λz=>f (by simp[z])) q]
 self:=λ_ _ _ _ _ st h=>by
  obtain⟨⟨g,m⟩,_⟩:=st;exact wpAny_pyIter_enum m h
section
variable {X:Cx}
def SM(K:ab)(c:TA):TI:=λd H R=>c d H λe b=>∃a,e= [.ref a]/\(∃f,b a\(.lst f))/\R (Rj K a) b
def MK{k1}(v:Gl X "enumerate")(w:X.mg "enumerate"=none)(x:PA X [a] j)(y:starEach [a] X.env= [(false,eval a X.env)]:=by rfl):
  PI X (.Tuple r k1 t) (.Call (.Name "enumerate" p) [a] [] d) (SM X.K j):=by
 intro f s A H R I h;refine Call_ (lh I v w boot_enumerate (aar (thn (x d f s A H _ I h) λQ c #[S,B,g,C,E]=>?_) y rfl));rfl';obtain⟨l,e,⟨U,G⟩,q⟩:=E;subst e;obtain⟨u,rfl,J⟩:=C.one;subst J;obtain⟨z,L,n,Y,k,e⟩:=g.pk G;ac_rfl;refine call_enumerate_1 e λZ m i mH M=>?_;refine wpAny_pyIter_enum m ?_;have N:c.heap.objs.size+1≠c.heap.objs.size:=Nat.succ_ne_self _;refine#[c.heap.objs.size+1,[c.heap.objs.size+1,c.heap.objs.size],_,_,B,rfl,g.kept (t':=c.toks) M,Hc l _ _ N,#[#[_,m],i],λb O=>?_,q]
 have o:c.heap.objs.size<=b:=by
  rcases bu.mp O with z|z
  .rw[z];exact nS _
  .have P:b=c.heap.objs.size:=by simpa using z
   rw[P];exact aY _
 exact g.DP o (g.hok.fresh o)
end
end L2
namespace Wb
abbrev W:=List (List Nat)
def row(w:W)(p:Nat):List Nat:=w.getD p []
inductive Reach (w:W):Nat->Nat->Prop
 |refl (p):Reach w p p
 |step {p q r}:Reach w p q->r∈row w q->Reach w p r
structure Good (w:W):Prop where
 rng:∀p q,q∈row w p->q<w.length
 irr:∀p,p∉row w p
 nod:∀p,(row w p).Nodup
 sym:∀p q,q∈row w p->p∈row w q
 con:∀p,p<w.length->Reach w 0 p
def bJ(h:q∈row w p):p<w.length:=by
 apply FB;intro a;unfold row at h;rw[bK,fZ ()] at h
 simp at h
def EJ(h:p<w.length):w[p]?\(row w p):=by
 unfold row;rw[bK,cv h];rfl
def PX(h:w[p]?\r):row w p=r:=by
 unfold row;rw[bK,h];rfl
def Nb(h:w.length<=p):row w p= []:=by
 unfold row;rw[bK,fZ h];rfl
def Reach.trans{w:W}(h:Reach w p q)(h':Reach w q r):Reach w p r:=by
 induction h' with
 |refl=>exact h
 |step _ a b=>exact .step b a
def Reach.symm{w:W}(a:∀p q,q∈row w p->p∈row w q)(h:Reach w p q):Reach w q p:=by
 induction h with
 |refl=>exact .refl _
 |step _ b c=>exact(Reach.step (.refl _) (a _ _ b)).trans c
def ins{a:Type}(b:List a)(i:Nat)(x:a):List a:=b.take i++x::b.drop i
def uR(a:List b)(i:Nat)(x:b):(ins a i x).Perm (x::a):=by
 unfold ins;have h:= @List.perm_middle _ x (a.take i) (a.drop i);rw[iT] at h;exact h
def El:a∈ins b i x↔a=x\/a∈b:=by
 rw[(uR b i x).mem_iff,bu]
def yF(h:a.Nodup)(c:x∉a):(ins a i x).Nodup:=by
 rw[(uR a i x).nodup_iff,cI];exact#[c,h]
def yj(a:List b)(i:Nat)(x:b):(ins a i x).length=a.length+1:=by
 rw[(uR a i x).length_eq];rfl
def Nc(h:p<w.length):row (w.set p r) x=if p=x then r else row w x:=by
 unfold row;rw[bK,qq]
 by_cases e:p=x
 .rw[mo e,mo e,mo h];rfl
 .rw[ir e,ir e,bK]
theorem Jf{ord:Nat->Nat}(g:Good w)(k:i.length=w.length)(j:∀p,p<w.length->ord p<w.length)
  (inj:∀p q,p<w.length->q<w.length->ord p=ord q->p=q) (sur:∀y,y<w.length->∃p,p<w.length/\ord p=y)
  (l:∀p,p<w.length->(row i (ord p)).Perm ((row w p).map ord)):Good i:=by
 have mem:∀p q,p<w.length->(q∈row i (ord p)↔∃a,a∈row w p/\ord a=q):=λp q d=>by
  rw[(l p d).mem_iff,bh]
 have reach:∀{p q},Reach w p q->Reach i (ord p) (ord q):=λ {p q} h=>by
  induction h with
  |refl=>exact .refl _
  |step _ m o=>exact .step o ((mem _ _ (bJ m)).mpr #[_,m,rfl])
 refine#[λy q c=>?_,λy c=>?_,λy=>?_,λy q c=>?_,λy c=>?_]
 .obtain⟨p,d,rfl⟩:=sur y (by have:=bJ c;lia)
  obtain⟨a,f,rfl⟩:=(mem p q d).mp c;rw[k];exact j a (g.rng _ _ f)
 .obtain⟨p,d,rfl⟩:=sur y (by have:=bJ c;lia)
  obtain⟨a,f,e⟩:=(mem p _ d).mp c
  have:=inj a p (g.rng _ _ f) d e
  subst this;exact g.irr _ f
 .by_cases c:y<w.length
  .obtain⟨p,d,rfl⟩:=sur y c
   rw[(l p d).nodup_iff];unfold dg;rw[i4];refine aaz ?_ (g.nod p);intro a b f r ne e;exact ne (inj a b (g.rng _ _ f) (g.rng _ _ r) e)
  .rw[Nb ()];exact gF
 .obtain⟨p,d,rfl⟩:=sur y (by have:=bJ c;lia)
  obtain⟨a,f,rfl⟩:=(mem p q d).mp c;exact(mem a _ (g.rng _ _ f)).mpr #[p,g.sym _ _ f,rfl]
 .rw[k] at c
  obtain⟨p,d,rfl⟩:=sur y c;obtain⟨z,s,t⟩:=sur 0 ()
  have n:=reach (((g.con z s).symm g.sym).trans (g.con p d));rw[t] at n;exact n
def aO(l:List Nat)(x:Nat):Nat:=l.getD ((l.idxOf x+1)%l.length) 0
def fk(w:W)(d:Nat×Nat):Nat×Nat:=(d.2,aO (row w d.2) d.1)
def aL(w:W)(d:Nat×Nat):Prop:=d.2∈row w d.1
def kS(h:x∈l):l[(l.idxOf x+1)%l.length]?\(aO l x):=by
 have a:0<l.length:=uv h;unfold aO;rw[bK,cv (qu _ a)];rfl
def GW(h:x∈l):aO l x∈l:=dY (kS h)
def Mj(f:a<n)(g:b<n)(e:(a+1)%n=(b+1)%n):a=b:=by
 by_cases d:a+1=n
 .by_cases c:b+1=n
  .lia
  .rw[d,sR,ik ()] at e;lia
 .by_cases c:b+1=n
  .rw[c,sR,ik ()] at e;lia
  .rw[ik (),ik ()] at e;lia
def zh(g:l.Nodup)(a:x∈l)(b:y∈l)(e:aO l x=aO l y):x=y:=by
 have o:0<l.length:=uv a;have c:=kS a;have h:=kS b;rw[e] at c;have d:=we.mpr a;have f:=we.mpr b;obtain⟨p,i⟩:=df.mp c;obtain⟨r,j⟩:=df.mp h;have q:=(List.getElem_inj g).mp (i.trans j.symm);have k:=Mj d f q;have m:=Ba d;have n:=Ba f;rw[<-m,<-n];simp only[k]
def JH(g:Good w)(h:aL w d):aL w (fk w d):=GW (g.sym _ _ h)
def yG(g:Good w)(h:aL w d)(c:aL w e)(q:fk w d=fk w e):d=e:=by
 have a:d.2=e.2:=GM Prod.fst q;have b:aO (row w d.2) d.1=aO (row w e.2) e.1:=GM Prod.snd q;rw[<-a] at b;have f:d.1∈row w d.2:=g.sym _ _ h;have i:e.1∈row w d.2:=by rw[a];exact g.sym _ _ c
 exact aah (zh (g.nod _) f i b) a
def bf(w:W):List (Nat×Nat):=(ac w.length).flatMap λp=>(row w p).map λq=>(p,q)
def aR{w:W}:d∈bf w↔aL w d:=by
 unfold bf aL;rw[List.mem_flatMap]
 constructor
 .rintro⟨p,_,h⟩
  obtain⟨q,a,rfl⟩:=bh.mp h;exact a
 .intro h
  exact#[d.1,b9.mpr (bJ h),bh.mpr #[d.2,h,rfl]]
theorem az [DecidableEq b]:∀{l m:List b},l.Nodup->(∀x∈l,x∈m)->l.length<=m.length
 | [],_,_,_=>dZ _
 |a::r,m,g,h=>by
  have c:=cI.mp g;have d:=h a bF;have i:=az (l:=r) (m:=m.erase a) c.2 λx f=>(List.mem_erase_of_ne (λ(e:x=a)=>c.1 (by rw[<-e];exact f))).mpr (h x (cm _ f))
  rw[List.length_erase_of_mem d] at i
  have:=uv d
  simp only[b8];lia
def dF(g:Good w)(p:Nat):(row w p).length<=w.length:=by
 have:=az (m:=ac w.length) (g.nod p) λx a=>b9.mpr (g.rng _ _ a)
 simpa using this
theorem Ax{f:b->List c}{k:Nat}:∀{l:List b},(∀x∈l,(f x).length<=k)->(l.flatMap f).length<=l.length*k
 | [],_=>by simp
 |a::r,h=>by
  have e:=Ax (f:=f) (k:=k) (l:=r) λx d=>h x (cm _ d)
  have:=h a bF
  rw[vv,cA,b8,Nat.succ_mul];lia
def ku(g:Good w):(bf w).length<=w.length*w.length:=by
 have:=Ax (f:=λp=>(row w p).map λq=>(p,q)) (k:=w.length) (l:=ac w.length) λx _=>by rw[aG];exact dF g x
 rw[fB] at this;exact this
def bo(w:W):Nat->Nat×Nat->Nat×Nat
 |0,d=>d
 |n+1,d=>fk w (bo w n d)
theorem cK(g:Good w)(h:aL w d):∀n,aL w (bo w n d)
 |0=>h
 |n+1=>JH g (cK g h n)
theorem fi{w:W}{d:Nat×Nat}(m:Nat):∀n,bo w (n+m) d=bo w n (bo w m d)
 |0=>by rw[qm];rfl
 |n+1=>by rw[Nat.succ_add];show fk w (bo w (n+m) d)=fk w (bo w n (bo w m d));rw[fi m n]
theorem tN(g:Good w)(h:aL w d)(a:aL w e):∀n,bo w n d=bo w n e->d=e
 |0,q=>q
 |n+1,q=>tN g h a n (yG g (cK g h n) (cK g a n) q)
def walk(w:W)(d:Nat×Nat)(k:Nat):List (Nat×Nat):=(ac k).map λi=>bo w i d
def sN(w:W)(d:Nat×Nat)(k:Nat):walk w d (k+1)=walk w d k++ [bo w k d]:=by
 unfold walk;rw[List.range_succ,cW];rfl
def dO(w:W)(d:Nat×Nat)(k:Nat):(walk w d k).length=k:=by unfold walk;simp
def nQ(g:Good w)(h:aL w d):∀e∈walk w d k,aL w e:=λe a=>by
 obtain⟨i,_,rfl⟩:=bh.mp a;exact cK g h i
def qh(g:Good w)(h:aL w d)(a:∀j,0<j->j<k->bo w j d≠d):(walk w d k).Nodup:=by
 unfold walk dg;rw[i4];refine aaz ?_ zH;intro i j f b lt e;have l:=b9.mp b;have c:bo w i d=bo w i (bo w (j-i) d):=by rw[<-fi (j-i) i,show i+(j-i)=j by lia];exact e
 exact a (j-i) () () (tN g h (cK g h _) i c).symm
def zt(g:Good w)(h:aL w d){k:Nat}(a:∀j,0<j->j<k->bo w j d≠d):k<=(bf w).length:=by
 have:=az (m:=bf w) (qh g h a) λe b=>aR.mpr (nQ g h e b)
 rwa [dO] at this
def vJ(g:Good w){S:Nat->Prop}(c:S 0)(d:∀p q,S p->q∈row w p->S q):∀p,p<w.length->S p:=λp e=>by
 have:∀{a b},Reach w a b->S a->S b:=λ {a b} h f=>by
  induction h with
  |refl=>exact f
  |step _ i j=>exact d _ _ j i
 exact this (g.con p e) c
def lexLe(a b:Nat×Nat):Prop:=a.1<b.1\/(a.1=b.1/\a.2<=b.2)
def Jv(h:lexLe a b)(c:lexLe b a):a=b:=by
 unfold lexLe at h c;exact aah () ()
def j7(a:Nat->List Nat)(n:Nat):List (Nat×Nat):=(ac n).flatMap λp=>((a p).filter λq=>decide (p<q)).map λq=>(p,q)
theorem pJ{e c:Type}{R:c->c->Prop}{f:e->List c}:∀{l:List e},(∀x∈l,(f x).Pairwise R)->l.Pairwise (λa b=>∀x∈f a,∀y∈f b,R x y)->(l.flatMap f).Pairwise R
 | [],_,_=>List.Pairwise.nil
 |a::r,h,p=>by
  have g:=zx.mp p;rw[vv,abn];refine#[h a bF,pJ (λx d=>h x (cm _ d)) g.2,λx d y i=>?_];obtain⟨b,j,k⟩:=List.mem_flatMap.mp i;exact g.1 b j x d y k
end Wb
namespace L2
open PySem PySem.Spec PyProof.Rows
section
variable {X:Cx}
def PQ(K:ab):V->List V->Hp->VK->Prop:=λx b H Q=>∃(l:Addr)(a:List V)(y:V)(j:Nat)(z:V),x= .ref l/\b= [y]/\H l\(.lst a)/\iD y=true/\a.all iD=true/\a[j]?\z/\xU z y=true/\
 (∀(m:Nat) z,m<j->a[m]?\z->xU z y=false)/\Q (.int j) H
def JE:Iv X "list.index" (PQ X.K):=by
 intro o s U H x Y v Z Q I p t h;rfl';obtain⟨l,d,y,j,z,rfl,rfl,B,C,fs,f,E,G,q⟩:=h;subst p;obtain⟨u,rfl,J⟩:=t.one;obtain⟨mH,a,n,r,hl,e⟩:=I.pk B;obtain⟨w,hw,L⟩:=r.get f;ac_rfl
 have M:j<a.toArray.size:=by
  obtain⟨b,_⟩:=df.mp hw;simpa using b
 have flat:∀(m:Nat) z,d[m]?\z->iD z=true:=λm z h=>(vC.mp fs) z (dY h)
 have N:a.toArray[j]=w:=by
  obtain⟨b,g⟩:=df.mp hw;simpa using g
 have cS:=qA
 have Zl:j<d.length:=by
  obtain⟨b,_⟩:=df.mp f;exact b
 refine aaE F.slot_list_index #[_,e,rfl] F.entry_list_index (F.args_list_index_2 _ _) (SeqAt.list_indexAt l a.toArray n none #[] u (qK y) j M () ?_ ?_) #[e,λw hw=>kh J C r fs w (~~~hw),?_]
 .rw[N,wW L (flat j z f)];exact E
 .intro m O P
  have uP:m<a.length:=by simpa using O
  obtain⟨c,i⟩:∃c,d[m]?\c:=#[_,cv ()]
  obtain⟨R,S,k⟩:=r.get i
  have T:a.toArray[m]=R:=by
   obtain⟨b,g⟩:=df.mp S;simpa using g
  rw[T,wW k (flat m c i)];exact G m c P i
 .exact#[.int j,H,I.tok _,#[_,rfl],q]
end
mutual
inductive Dp (K:ab) (H:Hp):V->PyData->Prop
 |bC:Dp K H .bC .none
 |bl (b:Bool):Dp K H (.bl b) (.bool b)
 |int (i:Int):Dp K H (.int i) (.int i)
 |str (x:Str) (h:PyData.strOk x=true):Dp K H (.str x) (.str x)
 |lst {a:Addr} {xs:List V} {ds:List PyData}:cG K H a xs->jI K H xs ds->Dp K H (.ref a) (.list ds)
 |tup {a:Addr} {xs:List V} {ds:List PyData}:eG K H a xs->jI K H xs ds->Dp K H (.ref a) (.tuple ds)
inductive jI (K:ab) (H:Hp):List V->List PyData->Prop
 |nil:jI K H [] []
 |cons {v:V} {vs:List V} {d:PyData} {ds:List PyData}:Dp K H v d->jI K H vs ds->jI K H (v::vs) (d::ds)
end
section
variable {X:Cx} {pins:List (Addr×Obj)} {σ:St} {H:Hp} {s:Shared}
mutual
theorem Dp.reads(I:Inv X pins σ H s):∀{v:V}{d:PyData}{u:Value},Dp X.K H v d->RelV v u->(∃as,Reads s.heap u d as)/\d.canLay0=true
 |_,_,_, .bC,r=>by cases r;exact#[#[_, .none],rfl]
 |_,_,_, .bl b,r=>by cases r;exact#[#[_, .bool b],rfl]
 |_,_,_, .int i,r=>by obtain⟨t,rfl⟩:=r;exact#[#[_, .int i t],rfl]
 |_,_,_, .str x h,r=>by obtain⟨t,rfl⟩:=r;exact#[#[_, .str x t],by simpa [PyData.canLay0] using h]
 |_,_,_, .lst h a,r=>by
  cases r;obtain⟨its,rv,pl,hz⟩:=I.list h;obtain⟨⟨as,ra⟩,c⟩:=jI.reads I a rv;obtain⟨o,ho,hc,n,hd⟩:=pl.isList;exact#[#[_, .list ho hc hd (~~~ra)],by simpa [PyData.canLay0] using c]
 |_,_,_, .tup h a,r=>by
  cases r;obtain⟨its,rv,pl,hz⟩:=I.tuple h;obtain⟨⟨as,ra⟩,c⟩:=jI.reads I a rv;obtain⟨o,ho,hc,n,hd⟩:=pl;exact#[#[_, .tuple ho hc hd (~~~ra)],by simpa [PyData.canLay0] using c]
theorem jI.reads(I:Inv X pins σ H s):∀{vs:List V}{ds:List PyData}{us:List Value},jI X.K H vs ds->Vals vs us->(∃as,ReadsAll s.heap us ds as)/\PyData.canLayAll0 ds=true
 |_,_,_, .nil, .nil=>#[#[_, .nil],by simp[PyData.canLayAll0]]
 |_,_,_, .cons a as, .cons r rs=>by
  obtain⟨⟨x,h1⟩,c1⟩:=Dp.reads I a r;obtain⟨⟨y,h2⟩,c2⟩:=jI.reads I as rs;exact#[#[_, .cons h1 h2],by simp[PyData.canLayAll0,c1,c2]]
end
end
section
variable {X:Cx}
def WD(K:ab):R2:=λx y H Q=>∃d e,Dp K H x d/\Dp K H y e/\d.depth<=64/\Q (.bl (PyData.eqv d e)) H
def WH(K:ab):R2:=λx y H Q=>∃d e,Dp K H x d/\Dp K H y e/\d.depth<=64/\Q (.bl (!PyData.eqv d e)) H
def Pd(n:X.A.units+64<cLine):OpR X (compareOp .Eq) (WD X.K):=by
 intro a s o H x y v u Q I b c h;rfl';obtain⟨d,e,g,i,r,q⟩:=h;obtain⟨⟨t,j⟩,k⟩:=g.reads I b;obtain⟨⟨bs,l⟩,m⟩:=i.reads I c;ac_rfl;exact SeqAt.compareEq_reads j l k m (by have:=Nat.min_le_left d.depth e.depth;lia) #[.bl _,H,I,rfl,q]
def Ph(n:X.A.units+64<cLine):OpR X (compareOp .NotEq) (WH X.K):=by
 intro a s o H x y v u Q I b c h;rfl';obtain⟨d,e,g,i,r,q⟩:=h;obtain⟨⟨t,j⟩,k⟩:=g.reads I b;obtain⟨⟨bs,l⟩,m⟩:=i.reads I c;ac_rfl;exact SeqAt.compareNe_reads j l k m (by have:=Nat.min_le_left d.depth e.depth;lia) #[.bl _,H,I,rfl,q]
end
def nD(n:Nat):PyData:= .int n
def nY(r:List Nat):PyData:= .list (r.map nD)
theorem k8{e:Type}{f:e->PyData}(g:∀a b,PyData.eqv (f a) (f b)=true↔a=b):∀c d:List e,PyData.eqvAll (c.map f) (d.map f)=true↔c=d
 | [],[]=>by simp[PyData.eqvAll]
 | [],_::_=>by simp[PyData.eqvAll]
 |_::_,[]=>by simp[PyData.eqvAll]
 |a::c,b::d=>by
  have h:=k8 g c d;simp[PyData.eqvAll,g,h]
def Ov(a b:Nat):PyData.eqv (nD a) (nD b)=true↔a=b:=by
 simp[nD,PyData.eqv];lia
def uL(a b:List Nat):PyData.eqv (nY a) (nY b)=true↔a=b:=by
 unfold nY;rw[PyData.eqv];exact k8 Ov a b
theorem fQ{f:c->PyData}{k:Nat}(d:∀a,(f a).depth<=k):∀b:List c,PyData.depthAll (b.map f)<=k
 | []=>by simp[PyData.depthAll]
 |a::b=>by
  have:=d a
  have e:=fQ d b;simp[PyData.depthAll];lia
def oR(a:List Nat):(nY a).depth<=2:=by
 unfold nY;rw[PyData.depth]
 have:=fQ (f:=nD) (k:=1) (λn=>by simp[nD,PyData.depth]) a
 lia
def uh(w:List (List Nat)):PyData:= .list (w.map nY)
def Au(a b:List (List Nat)):PyData.eqv (uh a) (uh b)=true↔a=b:=by
 unfold uh;rw[PyData.eqv];exact k8 uL a b
def Du(a:List (List Nat)):(uh a).depth<=3:=by
 unfold uh;rw[PyData.depth]
 have:=fQ (f:=nY) (k:=2) oR a
 lia
end L2
namespace L2
open PySem PySem.Spec PyProof.Rows
theorem Vals.of_get:∀{a:List V}{b:List Value},a.length=b.length->(∀(k:Nat) x u,a[k]?\x->b[k]?\u->RelV x u)->Vals a b
 | [],[],_,_=> .nil
 | [],_::_,h,_=>by simp at h
 |_::_,[],h,_=>by simp at h
 |x::a,u::b,h,r=> .cons (r 0 x u rfl rfl) (Vals.of_get (~~~h) λk y w c d=>r (k+1) y w (~~~c) (~~~d))
section
variable {X:Cx}
def Bm:cB X (.builtin "isinstance") (λa H Q=>∃(x:V)(n:String)(t:Value)(b:Bool),a= [x, .ty n]/\k6 X.K H x t/\cy X.K t (.type n)\b/\Q (.bl b) H):=by
 intro c s k H a l Q I d h;rfl';obtain⟨x,n,t,b,rfl,g,e,q⟩:=h;obtain⟨o,p,rfl,i,j⟩:=d.two;subst j;ac_rfl;exact F6 I i g e λr=>#[.bl b,H,I.tok _,rfl,q]
def qO:cB X (.builtin "sorted") (λf H Q=>∃(p:Addr)(c:List Int),f= [.ref p]/\cG X.K H p (c.map V.int)/\c.length<64/\∀(q:Addr)(a:List Int),H q=none->a.Perm c->a.Pairwise (·<=·)->Q (.ref q) (upd H q (.lst (a.map V.int)))):=by
 intro g s A H f B Q I j h;rfl';obtain⟨p,c,rfl,l,E,q⟩:=h;obtain⟨u,rfl,m⟩:=j.one;subst m;obtain⟨d,r,n,_⟩:=I.list l;have t:=r.length;rw[aG] at t;ac_rfl;refine sorted_ints n.isList (intsAre_of r) () λout a v i w=>?_
 obtain⟨e,x⟩:=acG s.heap d out;have y:H (s.heap.objs.size+1)=none:=I.hok.fresh (nS _);have F:=i.length_eq;have G:64<=sizeLine:=∅
 refine#[.ref (s.heap.objs.size+1),_,I.laid (t':=s.toks) (λb o z=>acE z) (nS _) (o:= .lst (a.map V.int)) #[by rw[aG];lia,out.toList,e,nP v,by simpa using x],rfl,q _ a y i w]
def nF(i:Int)(n:Nat):List V:=(ac n).map λ(k:Nat)=>V.int (i+(k:Int))
theorem oQ(m:X.calm=true):cB X (.type "list") (λf H Q=>∃(p:Addr)(i j:Int),f= [.ref p]/\H p\(.rng i j)/\-(2^62)<=i/\i<2^62/\-(2^62)<=j/\j<2^62/\(j-i).toNat<=1000/\
  ∀q,H q=none->Q (.ref q) (upd H q (.lst (nF i (j-i).toNat)))):=by
 intro g s P H f R Q I r h;rfl';obtain⟨p,i,j,rfl,A,B,C,E,F,T,q⟩:=h;obtain⟨u,rfl,G⟩:=r.one;subst G;obtain⟨t,u,v,e⟩:=(show dG X.prog X.w H s.heap p (.rng i j) from I.hok p _ A);ac_rfl;refine call_list_range (n:=(j-i).toNat) (I.ok.hd m) e (small_one B C E F) ?_ () λU Y acc c J L l=>?_
 .rw[rangeSize_one];split<;>lia
 .have Z:1000<=sizeLine:=∅
  refine#[.ref s.heap.objs.size,_,I.laid J (aY _) (o:= .lst (nF i (j-i).toNat)) #[by unfold nF;simp;lia,acc.toList,c,?_,by simpa using L],rfl,q _ (I.hok.fresh (aY _))]
  refine Vals.of_get (by unfold nF;simp[l.1]) λk x w d hw=>?_
  unfold nF at d;rw[bW] at d;obtain⟨M,N⟩:=l.2 k w (by rw[<-gD];exact hw)
  have O:(ac (j-i).toNat)[k]?\k:=by
   cases q:(ac (j-i).toNat)[k]? with
   |none=>rw[q] at d;cases d
   |some z=>
    obtain⟨a,b⟩:=df.mp q;rw[List.getElem_range] at b;rw[b]
  rw[O] at d;obtain rfl:=Da d;exact#[M,by rw[N,Int.mul_one]]
end
structure uF (C:Expr) (t0 i0 t1 i1:Expr) (f0 f1:List Expr) (el:Addr->Env->Sem Unit):Prop where
 u:∀(A:Around)(k:Nat)(it:Value)(D:Addr)(env:Env),A.under (.compLoop C k it (.ref D) env)=A
 z0:∀(P:Program)(w:World)(it:Value)(D:Addr)(env:Env),(model P w).den (.compLoop C 0 it (.ref D) env)=Sem.onRaise (do
   standAt i0.pos
   match <-pyNext it with
   |none=>pure (.done .next)
   |some v=>
    letOwnedTupleGo t0 it v
    assign t0 env v
    let ok <-forIn f0 true λc r=>if r=true then do let ok <-isTrue c env (eval c env);pure (ForInStep.yield ok) else pure (ForInStep.yield r)
    if ok=true then
     let x <-eval i1 env
     standAt i1.pos
     let x <-foldedSetIterable i1 env x
     let L4 <-holding [x] (pyIter x)
     let _ <-runOwn (.compStart C 1 L4 (.ref D) env) env
     again (.compLoop C 0 it (.ref D) env)
    else again (.compLoop C 0 it (.ref D) env)) (λx=>do noteFrame x env;theTreesLotGoes x)
 z1:∀(P:Program)(w:World)(it:Value)(D:Addr)(env:Env),(model P w).den (.compLoop C 1 it (.ref D) env)=Sem.onRaise (do
   standAt i1.pos
   match <-pyNext it with
   |none=>pure (.done .next)
   |some v=>
    letOwnedTupleGo t1 it v
    assign t1 env v
    let ok <-forIn f1 true λc r=>if r=true then do let ok <-isTrue c env (eval c env);pure (ForInStep.yield ok) else pure (ForInStep.yield r)
    if ok=true then
     el D env
     again (.compLoop C 1 it (.ref D) env)
    else again (.compLoop C 1 it (.ref D) env)) (λx=>do noteFrame x env;theTreesLotGoes x)
 b0:∀{P:Program}{w:World}{A:Around}{R:Result->Shared->Prop}{s:Shared}{it:Value}{D:Addr}{env:Env},codeAny (model P w) A (.compLoop C 0 it (.ref D) env) R s->
  (∀(Q:Value->Shared->Prop)(E:Value->Shared->Prop),Q it s->wpAny (model P w) A (pyIter it) Q E s)->codeAny (model P w) A (.compStart C 0 it (.ref D) env) R s
 b1:∀{P:Program}{w:World}{A:Around}{R:Result->Shared->Prop}{s:Shared}{it:Value}{D:Addr}{env:Env},codeAny (model P w) A (.compLoop C 1 it (.ref D) env) R s->
  (∀(Q:Value->Shared->Prop)(E:Value->Shared->Prop),Q it s->wpAny (model P w) A (pyIter it) Q E s)->codeAny (model P w) A (.compStart C 1 it (.ref D) env) R s
abbrev Kt:=Addr->St->Hp->(Hp->Prop)->Prop
def N3(X:Cx)(d:Addr->Env->Sem Unit)(e:Kt):Prop:=∀(D:Addr)(a:List (Addr×Obj))(s:Shared)(b:St)(H:Hp)(N:Hp->Prop),Inv X a b H s->e D b H N->wpAny (model X.prog X.w) X.A (d D X.env) (λ_ f=>∃c,Inv X a b c f/\N c) X.xe s
section
variable {X XC:Cx} {C elt i0 t0 i1 t1:Expr} {f0 f1:List Expr} {scope:Scope} {pos:Pos} {wi gy:TI} {g g1:TG} {tt dX:TT} {te:TE} {ta:Kt} {el:Addr->Env->Sem Unit} {src:List (Option Nat)} {NC:List Str}
theorem Hf{a:List (Addr×Obj)}{s:Shared}{Z:St}{H:Hp}{g D:Addr}{z:List Addr}{P:Nat->Heap->Prop}{J:It}{R:Result->Shared->Prop}{N:St->Hp->Prop}
  (OM:XC.xe=λ_ _=>False) (hc:XC.calm=true) (I:Inv XC a Z H s) (T:Turn XC.prog XC.w XC.K t1 J z g P) (st:P 0 s.heap) (f2:∀b∈z,dQ XC a H b)
  (X:uF C t0 i0 t1 i1 f0 f1 el) (hg:PG XC t1 g1) (ht:kY XC f1 dX) (he:N3 XC el ta)
  (hW:∃W:Nat->Nat->St->Hp->Prop,(∃m,W 0 m Z H)/\∀i m eO L,W i m eO L->(J.stop i L/\N eO L)\/
   (J.go i L/\∃M:St->Hp->Prop,(∀j c,M j c->∃S,S<m/\W (i+1) S j c)/\∀x H3,J.yld i L x H3->g1 x eO H3 λU H4=>dX U H4 λb H5=>
    if b=true then ta D U H5 (M U) else M U H5))
  (hR:∀j c v,Inv XC a j c v->N j c->R (.ok .next) v):
  codeAny (model XC.prog XC.w) XC.A (.compStart C 1 (.ref g) (.ref D) XC.env) R s:=by
 obtain⟨W,⟨m0,w0⟩,turn⟩:=hW
 have jN:∀{α:Type}{t:Sem α}{Q:α->Shared->Prop}{E:Value->Shared->Prop}{s:Shared},wpAny (model XC.prog XC.w) XC.A t Q XC.xe s->wpAny (model XC.prog XC.w) XC.A t Q E s:=λ {α t Q E s} h=>
  wpAny_mono h (λ_ _ q=>q) λ_ _ f=>by rw[OM] at f;exact f.elim
 have k:∀{c:Hp},(∀b∈z,c b=none)->∀b∈z,dQ XC a c b:=λhn b p=>#[hn b p,(f2 b p).2]
 have loop:codeAny (model XC.prog XC.w) XC.A (.compLoop C 1 (.ref g) (.ref D) XC.env) R s:=by
  refine ab2 rfl (λn v=>∃i j c,Inv XC a j c v/\P i v.heap/\(∀b∈z,c b=none)/\W i n j c) (λn v hI=>?_) m0 #[0,Z,H,I,st,λb p=>(f2 b p).1,w0];rfl';obtain⟨i,j,c,I5,sH,uN,w5⟩:=hI;ac_rfl;rw[X.u,X.z1];refine acp ?_;refine wpAny_bind (aan (wpAny_bind ?_))
  rcases turn i n j c w5 with ⟨stop,qn⟩ | ⟨go,M,hN,step⟩
  .refine thn (T.done XC rfl rfl rfl hc i a v j c _ I5 (k uN) sH stop) λr s6 l=>?_
   obtain⟨hr,I6⟩:=l;subst hr;exact be (hR j c s6 I6 qn)
  .refine thn (T.item XC rfl rfl rfl hc i a v j c _ I5 (k uN) sH go) λr s6 l=>?_
   rfl';obtain⟨u,hr,h6⟩:=l;ac_rfl;subst hr;refine wpAny_bind (thn h6 λ_ s7 l=>?_);rfl';obtain⟨x,H7,I7,r7,y7,sI,FA⟩:=l;ac_rfl;have E7:=I7.pinned (k FA) (T.obj _ _ sI)
   have nextT:∀{y:St}{F:Hp}{G:Shared},Inv XC (a++lA z s7.heap) y F G->M y F->∃m,m<n/\∃i j c,Inv XC a j c G/\P i G.heap/\(∀b∈z,c b=none)/\W i m j c:=λ {y F G} O n8=>by
    obtain⟨S,hm,w8⟩:=hN y F n8;refine#[S,hm,i+1,y,F,O.ji,T.keep _ _ _ sI λb p o e=>(O.pin (b,o) (eZ _ (eZ _ (dM p e)))).1,λb p=>?_,w8];obtain⟨o,e,d⟩:=T.obj _ _ sI b p;exact(O.pin (b,o) (eZ _ (eZ _ (dM p e)))).2.1
   refine wpAny_bind (jN (thn (hg _ s7 j H7 x u _ E7 r7 (step x H7 y7)) λ_ G l=>?_));rfl';obtain⟨y,F,O,q8⟩:=l;ac_rfl;refine wpAny_bind (jN (thn (ht _ G y F _ O q8) λb s9 l=>?_));obtain⟨H9,I9,Y⟩:=l;cases b with
   |false=>
    rw[ir cP] at Y;exact be #[rfl,nextT I9 Y]
   |true=>
    rw[mo rfl] at Y;refine wpAny_bind (jN (thn (he D _ s9 y H9 _ I9 Y) λ_ J7 l=>?_));obtain⟨Ir,Bf,GJ⟩:=l;exact be #[rfl,nextT Bf GJ]
 exact X.b1 loop λQ E q=>T.self _ 0 _ _ _ st q
def YK(n:TG)(o:TT)(p:Kt)(D:Addr)(J:It)(N:St->Hp->Prop):St->Hp->Prop:=λq H=>
 ∃W:Nat->Nat->St->Hp->Prop,(∃m,W 0 m q H)/\∀i m d a,W i m d a->(J.stop i a/\N d a)\/
  (J.go i a/\∃e:St->Hp->Prop,(∀f h,e f h->∃j,j<m/\W (i+1) j f h)/\∀x k,J.yld i a x k->n x d k λc r=>o c r λb l=>
   if b=true then p D c l (e c) else e c l)
def QO(g:TG)(l:TT)(n:TI)(o:TG)(p:TT)(q:Kt)(D:Addr)(J:It)(Q:VK)(r:St)(H:Hp):Prop:=
 ∃W:Nat->Nat->St->Hp->Prop,(∃m,W 0 m r H)/\∀i m d a,W i m d a->
  (J.stop i a/\Q (.ref D) a)\/
  (J.go i a/\∃N:St->Hp->Prop,(∀e f,N e f->∃h,h<m/\W (i+1) h e f)/\∀x j,J.yld i a x j->g x d j λc s=>l c s λb k=>
   if b=true then n c k λt u=>YK o p q D t N c u else N c k)
theorem He{k:List (Addr×Obj)}{σ:St}{v:Shared}{U:Hp}{it:Addr}{G:List Addr}{Z:Nat->Heap->Prop}{J:It}{RR:Value->Addr->Result->Shared->Prop}{E:Value->Shared->Prop}{Q:VK}{o0:Addr->HO}{new:Sem Value}
  (Tw:uF C t0 i0 t1 i1 f0 f1 el)
  (hc:X.calm=true) (c:ck X scope) (dB:c8 scope X.N src NC) (I2:Inv X k σ U v) (T:Turn X.prog X.w X.K t0 J G it Z) (iZ:Z 0 v.heap) (f2:∀b∈G,dQ X k U b)
  (hg:∀ex s H,PG (cO X scope NC ex s H) t0 g) (ht:∀ex s H,kY (cO X scope NC ex s H) f0 tt) (qL:∀ex s H,PI (cO X scope NC ex s H) t1 i1 gy) (FK:∀ex s H,PG (cO X scope NC ex s H) t1 g1)
  (FW:∀ex s H,kY (cO X scope NC ex s H) f1 dX) (he:∀ex s H,N3 (cO X scope NC ex s H) el ta) (zS:∀env x,foldedSetIterable i1 env x=pure x)
  (hn:∀(Q':Value->Shared->Prop)(E':Value->Shared->Prop),(∀B:Shared,Inv X k σ (upd U v.heap.objs.size (o0 v.heap.objs.size)) B->(∀b o,v.heap.get? b\o->B.heap.get? b\o)->Q' (.ref v.heap.objs.size) B)->wpAny (model X.prog X.w) X.A new Q' E' v)
  (hW:∀D,U D=none->QO g tt gy g1 dX ta D J Q (iQ src σ) (upd U D (o0 D)))
  (FG:∀D B H3 I l L,Inv X k σ H3 B->(∀b∈G,dQ X k H3 b)->Inv (cO X scope NC G B H3) [] I l L->Q (.ref D) l->RR (.ref D) B.heap.objs.size (.ok .next) L):
  wpAny (model X.prog X.w) X.A new (λacc zj=>wpAny (model X.prog X.w) X.A (newFunctionEnv scope X.env.globals (fV X.env scope.names []) [] X.env.qual none .none (some X.env)) (λjA qf=>
   codeAny (model X.prog X.w) X.A (.compStart C 0 (.ref it) acc {jA with scope:=relabel scope X.env}) (RR acc jA.locals) qf) E zj) E v:=by
 rfl';obtain⟨W,⟨m0,w0⟩,turn⟩:=hW v.heap.objs.size I2.fresh;ac_rfl
 have Mf:∀b∈G,b<v.heap.objs.size:=λb j=>by
  obtain⟨o,e,_⟩:=T.obj _ _ iZ b j;exact Fk e
 have f3:∀b∈G,dQ X k (upd U v.heap.objs.size (o0 v.heap.objs.size)) b:=λb j=>#[by rw[aN (bP (Mf b j))];exact(f2 b j).1,(f2 b j).2]
 refine hn _ _ λB I3 NP=>?_;have sF:Z 0 B.heap:=T.keep _ _ _ iZ λb _ o e=>NP b o e
 have zV:∀b∈G,b<B.heap.objs.size:=λb j=>by
  obtain⟨o,e,_⟩:=T.obj _ _ sF b j;exact Fk e
 generalize Va:upd U v.heap.objs.size (o0 v.heap.objs.size)=H3 at I3 f3 w0;refine wpAny_newFunctionEnv c.nocell (by intro y hy;simp at hy) (λh1 yf yh=>?_) c.kind
 have I4:=Ai (src:=src) (NC:=NC) (ex:=G) (tk:=B.toks+([]:List (Str×Value)).length) I3 c dB f3 zV yf yh;have ET:Z 0 h1:=T.keep _ _ _ sF λb j o e=>yh.extBut b o (bP (zV b j)) (AC _ e);generalize F:cO X scope NC G B H3=a at I4
 have M:∀{l:Hp},(∀b∈G,l b=none)->∀b∈G,dQ a [] l b:=λ {l} hn b j=>by
  subst F;refine#[hn b j,bP (zV b j),λz=>?_, .inl j,λx d e=>?_,λp hp=>absurd (show p∈([]:List (Addr×Obj)) from hp) (by simp)]
  .exact(I4.ok.exfs b j) z
  .exact(I4.ok.exf b j).2 x d e
 have BE:a.calm=true:=by subst F;exact hc
 have eP:a.prog=X.prog:=by subst F;rfl
 have ew:a.w=X.w:=by subst F;rfl
 have eK:a.K=X.K:=by subst F;rfl
 have eA:a.A=X.A:=by subst F;rfl
 have OM:a.xe=λ_ _=>False:=by subst F;rfl
 have LM:PG a t0 g:=by subst F;exact hg _ _ _
 have LY:kY a f0 tt:=F▸ht _ _ _;have Zg:PI a t1 i1 gy:=F▸qL _ _ _;have Vz:PG a t1 g1:=F▸FK _ _ _;have VQ:kY a f1 dX:=F▸FW _ _ _;have LK:N3 a el ta:=F▸he _ _ _
 have jN:∀{α:Type}{t:Sem α}{Q:α->Shared->Prop}{E:Value->Shared->Prop}{s:Shared},wpAny (model a.prog a.w) a.A t Q a.xe s->wpAny (model X.prog X.w) X.A t Q E s:=λ {α t Q E s} h=>by
  rw[<-eP,<-ew,<-eA];exact wpAny_mono h (λ_ _ q=>q) λ_ _ f=>by rw[OM] at f;exact f.elim
 have loop:codeAny (model X.prog X.w) X.A (.compLoop C 0 (.ref it) (.ref v.heap.objs.size) a.env) (RR (.ref v.heap.objs.size) B.heap.objs.size)
   {B with heap:=h1,toks:=B.toks+([]:List (Str×Value)).length}:=by
  refine ab2 rfl (λn L=>∃i I l,Inv a [] I l L/\Z i L.heap/\(∀b∈G,l b=none)/\W i n I l) (λn L hI=>?_) m0 #[0,_,_,I4,ET,λb j=>(f3 b j).1,w0];rfl';obtain⟨i,I,l,I5,sH,uN,w5⟩:=hI;ac_rfl;rw[Tw.u,Tw.z0];refine acp ?_;refine wpAny_bind (aan (wpAny_bind ?_))
  rcases turn i n I l w5 with ⟨stop,qn⟩ | ⟨go,N,hN,step⟩
  .have hd:=T.done a eP ew eK BE i [] L I l (notedBy (model X.prog X.w) X.A a.env λe L=>RR (.ref v.heap.objs.size) B.heap.objs.size (.error e) L) I5 (M uN) sH stop
   rw[eA] at hd;refine thn hd λr s6 P=>?_;obtain⟨hr,I6⟩:=P;subst hr;refine be ?_;subst F;exact FG _ B _ I l s6 I3 f3 I6 qn
  .have hd:=T.item a eP ew eK BE i [] L I l (notedBy (model X.prog X.w) X.A a.env λe L=>RR (.ref v.heap.objs.size) B.heap.objs.size (.error e) L) I5 (M uN) sH go
   rw[eA] at hd;refine thn hd λr s6 P=>?_;obtain⟨u,hr,h6⟩:=P;subst hr;refine wpAny_bind (thn h6 λ_ s7 P=>?_);rfl';obtain⟨x,H7,I7,r7,y7,sI,FA⟩:=P;ac_rfl;have E7:=I7.pinned (M FA) (T.obj _ _ sI)
   have nextT:∀{S:St}{Y:Hp}{s8:Shared},Inv a ([]++lA G s7.heap) S Y s8->N S Y->∃m,m<n/\∃i I l,Inv a [] I l s8/\Z i s8.heap/\(∀b∈G,l b=none)/\W i m I l:=λ {S Y s8} I8 n8=>by
    obtain⟨m',hm,w8⟩:=hN S Y n8;refine#[m',hm,i+1,S,Y,I8.ji,T.keep _ _ _ sI λb j o e=>(I8.pin (b,o) (eZ _ (eZ _ (dM j e)))).1,λb j=>?_,w8];obtain⟨o,e,d⟩:=T.obj _ _ sI b j;exact(I8.pin (b,o) (eZ _ (eZ _ (dM j e)))).2.1
   refine wpAny_bind (jN (thn (LM _ s7 I H7 x u _ E7 r7 (step x H7 y7)) λ_ s8 P=>?_));rfl';obtain⟨S,Y,I8,q8⟩:=P;ac_rfl;refine wpAny_bind (jN (thn (LY _ s8 S Y _ I8 q8) λb s9 P=>?_));obtain⟨H9,I9,q9⟩:=P;cases b with
   |false=>
    rw[ir cP] at q9;exact be #[F▸rfl,nextT I9 q9]
   |true=>
    rw[mo rfl] at q9;refine wpAny_bind (jN (thn (Zg _ s9 S H9 _ I9 q9) λv1 J6 YO=>?_));refine wpAny_bind (aan (wpAny_bind (aaI (zS _ v1) (wpAny_bind (KF (jN (thn YO λmI J7 YQ=>?_)))))));rfl';obtain⟨L4,fp1,tn1,J1,Ir,rfl,Bf,T1,WS,YG,Zk⟩:=YQ;ac_rfl;refine wpAny_bind (wpAny_runOwn ?_);have tr:∀(cd:Code)(R:Result->Shared->Prop),codeAny (model a.prog a.w) a.A cd R J7->codeAny (model X.prog X.w) X.A cd R J7:=λcd R h=>by rw[eP,ew,eA] at h;exact h
    exact tr _ _ (Hf OM BE Bf T1 WS YG Tw Vz VQ LK Zk λI l L Xw n12=>be #[F▸rfl,nextT Xw n12])
 subst F;exact Tw.b0 loop λQ E q=>T.self _ 0 _ _ _ ET q
def Ur(c:TE):Kt:=λD d H N=>c d H λv b=>∃a,b D\(.lst a)/\a.length<sizeLine/\N (upd b D (.lst (a++ [v])))
theorem Kj:uF (.ListComp elt [#[t0,i0,f0,0],#[t1,i1,f1,0]] scope pos) t0 i0 t1 i1 f0 f1 (λD env=>do let _ <-call (.builtin "list.append") [.ref D,<-eval elt env]) where
 u:=λ_ _ _ _ _=>rfl
 z0:=λ_ _ _ _ _=>rfl
 z1:=λ_ _ _ _ _=>rfl
 b0:=λa b=>codeAny_compStart_list a (b _ _ a)
 b1:=λa b=>by
  refine codeAny_of_tree ?_;refine wpAny_notedAt ?_;unfold compStart;refine wpAny_bind (wpAny_askSetting (wpAny_ite ?_))
  split
  .first
    |exact wpAny_bind (wpAny_pure (wpAny_pure #[rfl,a]))
    |exact wpAny_pure #[rfl,a]
  .refine wpAny_bind (wpAny_rule ?_)
   exact wpAny_bind (wpAny_standAt (wpAny_bind (b _ _ (wpAny_pure #[rfl,a]))))
def JL(e:PE X elt te):N3 X (λD env=>do let _ <-call (.builtin "list.append") [.ref D,<-eval elt env]) (Ur te):=λD a s d H N I h=>
 wpAny_bind (thn (e a s d H _ I h) λy f b=>by
  rfl';obtain⟨v,j,k,l,m,n,o,p⟩:=b;ac_rfl;refine wpAny_bind (thn (kC _ f d j (.ref D) [v] _ [y] (λ_ q=>N q) k rfl (.cons l .nil) #[_,m,v,rfl,rfl,n,o,p]) λ_ w b=>?_);rfl';obtain⟨_,r,t,_,u⟩:=b;ac_rfl;exact be #[r,t,u])
def Rf(g:TG)(a:TT)(b:TI)(c:TG)(d:TT)(e:TE)(D:Addr)(J:It)(Q:VK)(f:St)(H:Hp):Prop:=QO g a b c d (Ur e) D J Q f H
def Rb(c:TI)(g:TG)(d:TT)(e:TI)(f:TG)(h:TT)(i:TE)(src:List (Option Nat)):TE:=λa H Q=>c a H λJ b=>∀D,b D=none->Rf g d e f h i D J Q (iQ src a) (upd b D (.lst []))
def Bo{a:List (Addr×Obj)}{j:St}{f:Shared}{h:Hp}{m:Addr}{i:List Addr}{n:Nat->Heap->Prop}{J:It}{p:Value->Addr->Result->Shared->Prop}{E:Value->Shared->Prop}{Q:VK}
  (y:X.calm=true) (c:ck X scope) (z:c8 scope X.N src NC) (r:Inv X a j h f) (T:Turn X.prog X.w X.K t0 J i m n) (B:n 0 f.heap) (F:∀b∈i,dQ X a h b)
  (G:∀d s H,PG (cO X scope NC d s H) t0 g) (I:∀d s H,kY (cO X scope NC d s H) f0 tt) (qL:∀d s H,PI (cO X scope NC d s H) t1 i1 gy) (L:∀d s H,PG (cO X scope NC d s H) t1 g1)
  (M:∀d s H,kY (cO X scope NC d s H) f1 dX) (O:∀d s H,PE (cO X scope NC d s H) elt te) (P:∀env x,foldedSetIterable i1 env x=pure x)
  (R:∀D,h D=none->Rf g tt gy g1 dX te D J Q (iQ src j) (upd h D (.lst [])))
  (S:∀D k l U t u,Inv X a j l k->(∀b∈i,dQ X a l b)->Inv (cO X scope NC i k l) [] U t u->Q (.ref D) t->p (.ref D) k.heap.objs.size (.ok .next) u):
  wpAny (model X.prog X.w) X.A (newList []) (λacc Y=>wpAny (model X.prog X.w) X.A (newFunctionEnv scope X.env.globals (fV X.env scope.names []) [] X.env.qual none .none (some X.env)) (λv Z=>
   codeAny (model X.prog X.w) X.A (.compStart (.ListComp elt [#[t0,i0,f0,0],#[t1,i1,f1,0]] scope pos) 0 (.ref m) acc {v with scope:=relabel scope X.env}) (p acc v.locals) Z) E Y) E f:=by
 refine He (o0:=λ_=> .lst []) Kj y c z r T B F G I qL L M (λd s H=>JL (O d s H)) P (λC E' q=>?_) R S;exact M2 (q _ (r.Ed (its:= []) (t':=f.toks) .nil (dZ _)) λb o e=>AC _ e)
def Pu(e:X.calm=true)(c:ck X scope)(f:c8 scope X.N src NC)(i:PI X t0 i0 wi)
  (j:∀a s H,PG (cO X scope NC a s H) t0 g) (k:∀a s H,kY (cO X scope NC a s H) f0 tt) (qL:∀a s H,PI (cO X scope NC a s H) t1 i1 gy) (l:∀a s H,PG (cO X scope NC a s H) t1 g1)
  (n:∀a s H,kY (cO X scope NC a s H) f1 dX) (o:∀a s H,PE (cO X scope NC a s H) elt te)
  (p:∀x,foldedSetIterable i0 X.env x=pure x:=by intro _;rfl) (q:∀env x,foldedSetIterable i1 env x=pure x:=by intro _ _;rfl):
  PE X (.ListComp elt [#[t0,i0,f0,0],#[t1,i1,f1,0]] scope pos) (Rb wi g tt gy g1 dX te src):=by
 intro b s r H Q I h;rw[acD];refine aay (use:=none) rfl p (gq (c.cells I.ok)) c.kind c.names (thn (i b s r H _ I h) λv P t=>thn t λR S u=>?_);rfl';obtain⟨Y,Z,C,J,H2,rfl,y,T,z,A,B⟩:=u;ac_rfl
 exact Bo e c f y T z A j k qL l n o q B λD s3 H3 aB E s' F G d L=>by
  obtain⟨m,M,_⟩:=d.loc;exact#[m,M,λh' O=>#[.ref D,E,comp_back F G d O,rfl,L]]
end
end L2
namespace KS
open PySem PySem.W PyProof.Rows
section
variable {prog:Program} {w:World} {A:Around} {E:Value->Shared->Prop} {s:Shared}
def wb(c:s.heap.get? a\(seqObj "list" b.toArray n))(i:b.length<2)
  (h:G (.done (.ret .none)) {s with heap:=sortedHeap s.heap a b b.toArray}):wpAny (model prog w) A (Builtin.«list.sort» #[[.ref a],[]]) G E s:=by
 rw[list_sort_plain];have l:a<s.heap.objs.size:=Fk c;refine wpAny_bind (listItems_at c rfl (wpAny_bind (abL c rfl ?_)));obtain⟨j,d⟩:∃k,(s.heap.update a (Obj.mapSeq λ_=> #[])).get? a\(seqObj "list" #[] k):=#[_,abo c (λ_=> #[])];refine wpAny_bind (acq d rfl (wpAny_bind (wpAny_newTuple (wpAny_bind (aaH (KF ?_))))));have e:(((s.heap.update a (Obj.mapSeq λ_=> #[])).push (seqObj "tuple" b.toArray 0)).push (seqObj "list" #[] 0)).get? a\(seqObj "list" #[] j):=AC _ (AC _ d);show wpAny (model prog w) A _ G E {s with heap:=((s.heap.update a (Obj.mapSeq λ_=> #[])).push (seqObj "tuple" b.toArray 0)).push (seqObj "list" #[] 0)}
 dsimp only;have lz:b.toArray.size<2:=i;rw[mo lz,mo lz];refine wpAny_bind (be ?_);rw[StateT.run_pure];refine wpAny_bind (be ?_);dsimp only
 have f:(arrOf (SortSt.mk' general' (b.toArray.zip b.toArray) #[] 7 none)).map (·.2)=b.toArray:=by
  show(b.toArray.zip b.toArray).map (·.2)=b.toArray;apply Array.toList_inj.mp;simp[List.map_snd_zip]
 refine wpAny_bind (acq e rfl (wpAny_bind (abL e rfl ?_ (hsz2:=by rw[f];rw[abD];lia))))
 simp only[abS,gQ,SC];have g:=h;unfold sortedHeap at g;rw[f];exact be g
def z9(e:s.heap.IsList l a.toArray)(f:a.length<2)(h:G (.ref (s.heap.objs.size+1)) {s with heap:=sortedAll s.heap a a.toArray}):
  wpAny (model prog w) A (call (.builtin "sorted") [.ref l]) G E s:=by
 refine aaw acr ab3 ab4 (ab5 (.ref l)) ?_;unfold Builtin.«sorted»;have b:a.length<=sizeLine:=by rw[abD];lia
 refine wpAny_bind (m:=checkCount "sorted" 1 1 _) (be (wpAny_bind (acH e (wpAny_bind (aaH ?_ b)) b)));have c:((s.heap.push (seqObj "list" #[] 0)).update s.heap.objs.size (Obj.mapSeq (·++a.toArray))).objs.size=s.heap.objs.size+1:=by rw[aaB,aaQ]
 have d:(((s.heap.push (seqObj "list" #[] 0)).update s.heap.objs.size (Obj.mapSeq (·++a.toArray))).push (seqObj "list" a.toArray 0)).get? (s.heap.objs.size+1)\(seqObj "list" a.toArray 0):=by
  rw[<-c];exact GE _ rfl
 show wpAny (model prog w) _ _ _ E {s with heap:=((s.heap.push (seqObj "list" #[] 0)).update s.heap.objs.size (Obj.mapSeq (·++a.toArray))).push (seqObj "list" a.toArray 0)}
 rw[c];exact wpAny_bind (KF (On slot_list_sort #[_,d,rfl] entry_list_sort (wb d f #[_,rfl,be #[_,rfl,h]]) (aaR _)))
end
end KS
namespace L2
open PySem PySem.Spec PyProof.Rows
section
variable {X:Cx} {pins:List (Addr×Obj)} {σ:St} {H:Hp} {s:Shared} {h':Heap}
end
def Gz(k:Nat×Nat):List V:= [.int (k.1:Nat), .int (k.2:Nat)]
def Fb(H:Hp)(L:List (Addr×(Nat×Nat))):Prop:=∀p∈L,H p.1\(.tup (Gz p.2))
def OS 
  (l:IsTup s.heap x [.int a f, .int b g].toArray) (m:IsTup s.heap y [.int c i, .int d j].toArray)
  (h:C (if a=c then decide (b<d) else decide (a<c)) s):wpAny (model prog w) A (keyLt' (tuples' true) (.ref x) (.ref y)) C E s:=by
 rfl';obtain⟨u,o,_,v,p⟩:=l;obtain⟨z,q,_,B,r⟩:=m;ac_rfl;refine PySem.W.kat_lt o p q r ?_;refine PySem.W.kat_cons (aaM a f c i prog w _ _ ?_)
 by_cases e:a=c
 .rw[mo e] at h
  rw[show(a==c)=true by simpa using e]
  refine PySem.W.kat_yes (PySem.W.kat_cons (aaM b g d j prog w _ _ ?_))
  by_cases k:b=d
  .rw[show(b==d)=true by simpa using k]
   refine PySem.W.kat_yes (PySem.W.kat_nil ?_);rw[show decide (b<d)=false by simp;lia] at h
   simpa using h
  .rw[show(b==d)=false by simpa using k]
   refine PySem.W.kat_no (PySem.W.kat_one _ _ ?_);exact lt_int h
 .rw[ir e] at h
  rw[show(a==c)=false by simpa using e]
  exact PySem.W.kat_no (oneLt_int h)
section
variable {X:Cx}
theorem sL:∀{as:List Addr}{us:List Value},Vals (as.map V.ref) us->us=as.map Value.ref
 | [],_, .nil=>rfl
 |a::as,_, .cons r t=>by cases r;rw[sL t];rfl
theorem sD:∀b:List Addr,Vals (b.map V.ref) (b.map Value.ref)
 | []=> .nil
 |a::b=> .cons rfl (sD b)
def JM(I:Inv X b c H s)(h:H a\(.tup (Gz k))):
  ∃t u,IsTup s.heap a [.int (k.1:Nat) t, .int (k.2:Nat) u].toArray:=by
 rfl';obtain⟨e,r,p,_⟩:=I.tuple (eG.of h);obtain⟨g,i,rfl,⟨t,rfl⟩,⟨u,rfl⟩⟩:=Vals.two r;ac_rfl;exact#[t,u,p]
end
end L2
set_option maxHeartbeats 4000000
namespace L2
open PySem PySem.Spec PyProof.Rows
def XE(a:Addr)(fs:List (Str×V)):HO:= .ext λh=>fs.length<=1000/\∃b,h.Ns1 a b/\(∀f,oJ (fs.lookup f) (b f))/\ci b (fs.map (·.1))
section
variable {P:Program} {w:World} {H:Hp} {h:Heap} {a C:Addr} {d:Option Addr} {fs:List (Str×V)}
end
section
variable {X:Cx} {pins:List (Addr×Obj)} {σ:St} {H:Hp} {s:Shared}
variable {a C:Addr} {fs:List (Str×V)} {f:Str} {v:V} {A:Around} {E:Value->Shared->Prop}
end
section
variable {X:Cx} {o e value:Expr} {f:Str} {pos pos' Xg:Pos} {ta tv:TE}
end
def ck.of(f:Scope)(e:X.env.scope=f)(k:d.kind= .function)(a:∀x∈d.names,x.2= .local->d.names.lookup x.1\.local)(b:∀x∈d.names,x.2≠ .cell)
  (c:∀x∈d.names,x.2= .free->f.names.lookup x.1\.cell\/f.names.lookup x.1\.free):ck X d:=#[k,a,b,λx g h=>by rw[<-e] at c;exact c x g h]
structure dN (K:ab) (mg:Str->Option Value) (x:Str) (st:Stmt) (ps:List Str) where
 f:Addr
 fd:FuncData
 F:zJ K x x st f fd
 b:Binds K fd ps []
 m:mg x\(.ref f)
def bp(h:H p=none)(o:HO):bg H (upd H p o):=λb u q=>by rw[aN (bI q h)];exact q
def small(h:n<=1000):n<=sizeLine:=qk (cD h)
open PySem.Calls
abbrev QL(C t:Addr)(a:Value)(d:Option Addr):Obj:={cls:= .ref C,dict:=d,data:= .fields [.ref t,a, .none, .none, .bool false, .none].toArray}
def Ue(C a:Addr)(d:Option Addr):HO:= .ext λh=>∃t b,h.get? a\(QL C t b d)
section
variable {P:Program} {w:World} {H:Hp} {h:Heap} {a C:Addr} {d:Option Addr}
end
def Uk(h:Heap)(T:Addr):Prop:=∃o a,h.get? T\o/\o.data= .fields a/\a[3]?\.none
section
variable {M:Model} {A:Around} {E:Value->Shared->Prop} {s:Shared}
end
def Ul(X:Cx)(H:Hp)(h:Heap)(a:Value):Prop:=a= .none\/∃T,a= .ref T/\X.s₀.heap.objs.size<=T/\T≠X.env.locals/\(∀x c,X.env.cells.lookup x\c->c≠T)/\(∀p∈X.pn,p.1≠T)/\H T=none/\Uk h T
def Ug(X:Cx)(H:Hp)(s:Shared)(a:Addr):Prop:=∃C t b d,H a\(Ue C a d)/\s.heap.get? a\(QL C t b d)/\Ul X H s.heap b
section
variable {X:Cx} {pins:List (Addr×Obj)} {σ:St} {H H':Hp} {s s':Shared} {a:Addr}
end
def Uo(X:Cx)(b:St)(H:Hp)(a:Addr):Prop:=∀s,Inv X [] b H s->Ug X H s a->X.xe (.ref a) s
end L2
namespace TS
open PySem PyProof.Rows
def fJ:Bool->Keyed->Array Keyed->Nat->Nat->Nat->StateT SortSt Sem (Option Nat):=sortPriv%PySem.Builtin.gallop
def qC:Array Keyed->Array Keyed->StateT SortSt Sem (Array Keyed):=sortPriv%PySem.Builtin.mergeLo
def qB:Array Keyed->Array Keyed->StateT SortSt Sem (Array Keyed):=sortPriv%PySem.Builtin.mergeHi
def setMinGallop':Nat->StateT SortSt Sem Unit:=sortPriv%PySem.Builtin.setMinGallop
def jz(left:Bool)(key:Keyed)(arr:Array Keyed)(base i:Nat):StateT SortSt Sem (Option Bool):=do
 let x <-elem' arr (base+i)
 if left then lt' x key else return (<-lt' key x).map (!·)
def DQ(left:Bool)(key:Keyed)(arr:Array Keyed)(base n a:Nat):fJ left key arr base n a=(do
 let mut lastofs:=0
 let mut ofs:=1
 let mut lo:=0
 let mut hi:=0
 let some right <-jz left key arr base a|return none
 if right then
  let b:=n-a
  for _ in [0:n] do
   if ofs>=b then break
   let some more <-jz left key arr base (a+ofs) |return none
   if !more then break
   lastofs:=ofs
   ofs:=2*ofs+1
  lo:=a+lastofs+1
  hi:=a+min ofs b
 else
  let b:=a+1
  for _ in [0:n] do
   if ofs>=b then break
   let some found <-jz left key arr base (a-ofs) |return none
   if found then break
   lastofs:=ofs
   ofs:=2*ofs+1
  lo:=a+1-min ofs b
  hi:=a-lastofs
 for _ in [0:n] do
  if lo>=hi then break
  let m:=lo+(hi-lo) / 2
  let some more <-jz left key arr base m|return none
  if more then lo:=m+1 else hi:=m
 return some hi):=rfl
section
variable {O:KeyOrd} {key:Keyed->O.α} {S:Keyed->Prop} {k0:SortKind} {M:Model} {A:Around} {E:Value->Shared->Prop} {s:Shared} {st:SortSt}
def bH{i:Nat}(h:arr[i]?\x)(q:Q x st):wpS M A E s (elem' arr i) Q st:=by
 rw[elem'_eq,h];exact FM q
end
section
variable {O:KeyOrd} {key:Keyed->O.α} {S:Keyed->Prop} {k0:SortKind} {M:Model} {A:Around} {E:Value->Shared->Prop} {s:Shared} {st b7:SortSt}
structure gT (b7 st:SortSt) (lo hi:Nat):Prop where
 perm:(arrOf st).Perm (arrOf b7)
 kind:kindOf st=kindOf b7
 failed:failedOf st=failedOf b7
 pend:pendingOf st=pendingOf b7
 out:∀i,i<lo\/hi<=i->(arrOf st)[i]? =(arrOf b7)[i]?
theorem gT.refl(st:SortSt)(lo a:Nat):gT st st lo a:=#[.refl _,rfl,rfl,rfl,λ_ _=>rfl]
theorem gT.trans{d e:SortSt}{lo c:Nat}(a:gT b7 d lo c)(b:gT d e lo c):gT b7 e lo c:=
 #[b.perm.trans a.perm,b.kind.trans a.kind,b.failed.trans a.failed,b.pend.trans a.pend,λi h=>(b.out i h).trans (a.out i h)]
theorem gT.size{lo b:Nat}(a:gT b7 st lo b):(arrOf st).size=(arrOf b7).size:=a.perm.size_eq
theorem gT.mirror{lo a i j:Nat}(c:lo<=i)(d:j<=a)(b:j<=(arrOf st).size):gT st (setArr st (mirror (arrOf st) i j ((j-i) / 2))) lo a:=
 #[mirror_perm _ _ _ _,rfl,rfl,rfl,λk h=>by
  show(PyProof.Rows.mirror (arrOf st) i j ((j-i) / 2))[k]? =_;rw[getElem?_mirror_all b,ir ()]]
theorem gT.bubble{lo a src d:Nat}(b:d<=src)(e:lo<=src-d)(f:src<a)(c:src<(arrOf st).size):gT st (setArr st (bubble (arrOf st) src d)) lo a:=
 #[bubble_perm _ _ _,rfl,rfl,rfl,λk h=>by
  show(PyProof.Rows.bubble (arrOf st) src d)[k]? =_;rw[getElem?_bubble c d b,ir (),ir ()]]
structure Ok (S:Keyed->Prop) (k0:SortKind) (st:SortSt):Prop where
 mem:∀p,p∈(arrOf st).toList->S p
 kind:kindOf st=k0
def Ok.step{lo b:Nat}(o:Ok S k0 b7)(a:gT b7 st lo b):Ok S k0 st:=
 #[λp c=>o.mem p ((CD.mp a.perm).mem_iff.mp c),a.kind.trans o.kind]
def Ok.at{i:Nat}(o:Ok S k0 st)(a:i<(arrOf st).size):(arrOf st)[i]?\((arrOf st)[i]?.getD (.none, .none))/\S ((arrOf st)[i]?.getD (.none, .none)):=by
 have e:(arrOf st)[i]? =some (arrOf st)[i]:=abp _ i a;rw[e];exact#[rfl,o.mem _ (by simp)]
end
def CZ(lo a d:Nat):StateT SortSt Sem AscSt:=
 forIn [a:d] ((none,a):AscSt) λ_ b=>do
  let c <-ltAt' (lo+b.snd) (lo+b.snd-1)
  match c with
  |some e=>if e=true then pure (ForInStep.done (none,b.snd)) else pure (ForInStep.yield (none,b.snd+1))
  |_=>pure (ForInStep.done (some none,b.snd))
def tailL(lo n b:Nat):StateT SortSt Sem (Option Nat):=do
 reverseSlice' lo (lo+n)
 let a <-CZ lo n b
 match a.fst with
 |some r=>pure r
 |none=>pure (some a.snd)
def Ft(lo n c:Nat):StateT SortSt Sem DescSt:=
 forIn [n:c] ((none,n,0):DescSt) λ_ a=>do
  let b <-ltAt' (lo+a.snd.fst) (lo+a.snd.fst-1)
  match b with
  |some d=>
   if d=true then
    if a.snd.snd>0 then do
     reverseSlice' (lo+a.snd.fst-(a.snd.snd+1)) (lo+a.snd.fst)
     pure (ForInStep.yield (none,a.snd.fst+1,0))
    else pure (ForInStep.yield (none,a.snd.fst+1,0))
   else do
    let b <-ltAt' (lo+a.snd.fst-1) (lo+a.snd.fst)
    match b with
    |some e=>
     if e=true then pure (ForInStep.done (none,a.snd.fst,a.snd.snd))
     else pure (ForInStep.yield (none,a.snd.fst+1,a.snd.snd+1))
    |_=>pure (ForInStep.done (some none,a.snd.fst,a.snd.snd))
  |_=>pure (ForInStep.done (some none,a.snd.fst,a.snd.snd))
def descP(lo n b:Nat):StateT SortSt Sem (Option Nat):=do
 liftM (rule "list.sort.descending-run")
 let a <-Ft lo (n+1) b
 match a.fst with
 |some r=>pure r
 |none=>
  if a.snd.snd>0 then do
   reverseSlice' (lo+a.snd.fst-(a.snd.snd+1)) (lo+a.snd.fst)
   tailL lo a.snd.fst b
  else tailL lo a.snd.fst b
theorem zP(lo c:Nat):countRun' lo c=(do
  let a <-CZ lo 1 c
  match a.fst with
  |some r=>pure r
  |none=>
   if (a.snd==c)=true then pure (some a.snd)
   else if a.snd>1 then do
    let e <-ltAt' lo (lo+a.snd-1)
    match e with
    |some g=>if g=true then pure (some a.snd) else do
      reverseSlice' lo (lo+a.snd)
      descP lo a.snd c
    |_=>pure none
   else descP lo a.snd c):=by
 rw[countRun'_eq];dsimp only;unfold descP tailL Ft CZ
 congr 1
 funext a
 obtain⟨r,n⟩:=a;cases r with
 |some r=>rfl
 |none=>
  dsimp only
  split
  .rfl
  .split
   .congr 1
    funext x
    cases x with
    |none=>rfl
    |some g=>
     dsimp only
     split
     .rfl
     .congr 1
      funext _r
      (congr 1;funext _u;congr 1;congr 1;funext s2;obtain⟨d,h,i⟩:=s2;cases d with
 |some d=>rfl
 |none=>(dsimp only;split;(congr 1;funext _v;(congr 1;funext _w;congr 1;(funext s3;obtain⟨b,f⟩:=s3;cases b<;>rfl)));(congr 1;funext _w;congr 1;(funext s3;obtain⟨b,f⟩:=s3;cases b<;>rfl))))
   ·(congr 1;funext _u;congr 1;congr 1;funext s2;obtain⟨d,h,i⟩:=s2;cases d with
 |some d=>rfl
 |none=>(dsimp only;split;(congr 1;funext _v;(congr 1;funext _w;congr 1;(funext s3;obtain⟨b,f⟩:=s3;cases b<;>rfl)));(congr 1;funext _w;congr 1;(funext s3;obtain⟨b,f⟩:=s3;cases b<;>rfl))))
section
variable {O:KeyOrd} {key:Keyed->O.α} {S:Keyed->Prop} {k0:SortKind} {prog:Program} {w:World} {A:Around} {E:Value->Shared->Prop} {s:Shared} {st b7:SortSt}
def um(h:Q ⟨⟩ (setArr st (mirror (arrOf st) i j ((j-i) / 2)))):wpS (model prog w) A E s (reverseSlice' i j) Q st:=by
 rw[reverseSlice'_eq];exact aaS h
end
section lists
variable (O:KeyOrd) (key:Keyed->O.α)
variable {O key}
end lists
def BZ(a b:Array Keyed)(h e f d:Nat)(out:Array Keyed)(g:Nat):StateT SortSt Sem (ForInStep (Option (Array Keyed)×Array Keyed×Nat×Nat×Nat×Nat×Nat)):=do
 let c <-elem' a d
 let out:Array Keyed:=out.push c
 let d:Nat:=d+1
 if (d+1==a.size)=true then pure (ForInStep.done (some (out++b.extract g b.size++a.extract d a.size),out,d,g,h,e,f))
 else if (decide (e<7)&&decide (f<7))=true then pure (ForInStep.done (none,out,d,g,h,e,f))
 else pure (ForInStep.yield (none,out,d,g,h,e,f))
def uY(a b:Array Keyed)(f g i d:Nat)(out:Array Keyed)(e:Nat):StateT SortSt Sem (ForInStep (Option (Array Keyed)×Array Keyed×Nat×Nat×Nat×Nat×Nat)):=do
 let c <-elem' b d
 let out:Array Keyed:=out.push c
 let d:Nat:=d+1
 if (d==b.size)=true then pure (ForInStep.done (some (out++a.extract e a.size++b.extract d b.size),out,e,d,f,g,i))
 else do
  let c <-elem' a e
  let h <-fJ true c b d (b.size-d) 0
  match h with
  |some k=>
   if k>0 then
    if (d+k==b.size)=true then pure (ForInStep.done (some (out++b.extract d (d+k)++a.extract e a.size++b.extract (d+k) b.size),out++b.extract d (d+k),e,d+k,f,g,k))
    else BZ a b f g k e (out++b.extract d (d+k)) (d+k)
   else BZ a b f g k e out d
  |_=>pure (ForInStep.done (some (out++a.extract e a.size++b.extract d b.size),out,e,d,f,g,i))
def rZ(a b:Array Keyed)(g i c e:Nat)(out:Array Keyed)(f:Nat):StateT SortSt Sem (ForInStep (Option (Array Keyed)×Array Keyed×Nat×Nat×Nat×Nat×Nat)):=do
 setMinGallop' f
 let d <-elem' b e
 let h <-fJ false d a c (a.size-c) 0
 match h with
 |some k=>
  if k>0 then
   if (c+k+1==a.size)=true then pure (ForInStep.done (some (out++a.extract c (c+k)++b.extract e b.size++a.extract (c+k) a.size),out++a.extract c (c+k),c+k,e,f,k,g))
   else if (c+k==a.size)=true then pure (ForInStep.done (some (out++a.extract c (c+k)++a.extract (c+k) a.size++b.extract e b.size),out++a.extract c (c+k),c+k,e,f,k,g))
   else uY a b f k g e (out++a.extract c (c+k)) (c+k)
  else uY a b f k g e out c
 |_=>pure (ForInStep.done (some (out++a.extract c a.size++b.extract e b.size),out,c,e,f,i,g))
def B2(a b:Array Keyed)(c:Option (Array Keyed)×Array Keyed×Nat×Nat×Nat×Nat×Nat):StateT SortSt Sem (ForInStep (Option (Array Keyed)×Array Keyed×Nat×Nat×Nat×Nat×Nat)):=
 if c.2.2.2.2.1>1 then rZ a b c.2.2.2.2.2.2 c.2.2.2.2.2.1 c.2.2.1 c.2.2.2.1 c.2.1 (c.2.2.2.2.1-1) else rZ a b c.2.2.2.2.2.2 c.2.2.2.2.2.1 c.2.2.1 c.2.2.2.1 c.2.1 c.2.2.2.2.1
def B0(a b:Array Keyed)(e:Nat)(c:Option (Array Keyed)×Array Keyed×Nat×Nat×Nat×Nat):StateT SortSt Sem (ForInStep (Option (Array Keyed)×Array Keyed×Nat×Nat×Nat×Nat)):=do
 let y <-elem' b c.2.2.2.1
 let x <-elem' a c.2.2.1
 let d <-lt' y x
 match d with
 |some f=>
  if f=true then do
   let y <-elem' b c.2.2.2.1
   if (c.2.2.2.1+1==b.size)=true then pure (ForInStep.done (some (c.2.1.push y++a.extract c.2.2.1 a.size++b.extract (c.2.2.2.1+1) b.size),c.2.1.push y,c.2.2.1,c.2.2.2.1+1,0,c.2.2.2.2.2+1))
   else if c.2.2.2.2.2+1>=e then pure (ForInStep.done (none,c.2.1.push y,c.2.2.1,c.2.2.2.1+1,0,c.2.2.2.2.2+1))
   else pure (ForInStep.yield (none,c.2.1.push y,c.2.2.1,c.2.2.2.1+1,0,c.2.2.2.2.2+1))
  else do
   let x <-elem' a c.2.2.1
   if (c.2.2.1+1+1==a.size)=true then pure (ForInStep.done (some (c.2.1.push x++b.extract c.2.2.2.1 b.size++a.extract (c.2.2.1+1) a.size),c.2.1.push x,c.2.2.1+1,c.2.2.2.1,c.2.2.2.2.1+1,0))
   else if c.2.2.2.2.1+1>=e then pure (ForInStep.done (none,c.2.1.push x,c.2.2.1+1,c.2.2.2.1,c.2.2.2.2.1+1,0))
   else pure (ForInStep.yield (none,c.2.1.push x,c.2.2.1+1,c.2.2.2.1,c.2.2.2.2.1+1,0))
 |_=>pure (ForInStep.done (some (c.2.1++a.extract c.2.2.1 a.size++b.extract c.2.2.2.1 b.size),c.2.1,c.2.2.1,c.2.2.2.1,c.2.2.2.2.1,c.2.2.2.2.2))
def tQ(a b:Array Keyed)(f:Option (Array Keyed)×Array Keyed×Nat×Nat×Nat):StateT SortSt Sem (ForInStep (Option (Array Keyed)×Array Keyed×Nat×Nat×Nat)):=do
 let e <-forIn [0:a.size+b.size] (none,f.2.1,f.2.2.1,f.2.2.2.1,0,0) λ_ c=>B0 a b f.2.2.2.2 c
 match e.1 with
 |some r=>pure (ForInStep.done (some r,e.2.1,e.2.2.1,e.2.2.2.1,f.2.2.2.2))
 |none=>do
  liftM (rule "list.sort.gallop")
  let d <-forIn [0:a.size+b.size] (none,e.2.1,e.2.2.1,e.2.2.2.1,f.2.2.2.2+1,e.2.2.2.2.1,e.2.2.2.2.2) λ_ c=>B2 a b c
  match d.1 with
  |some r=>pure (ForInStep.done (some r,d.2.1,d.2.2.1,d.2.2.2.1,d.2.2.2.2.1))
  |none=>do
   setMinGallop' (d.2.2.2.2.1+1)
   pure (ForInStep.yield (none,d.2.1,d.2.2.1,d.2.2.2.1,d.2.2.2.2.1+1))
def dR{b d:Type}{m c:StateT SortSt Sem b}{f a:b->StateT SortSt Sem d}(h:m=c)(g:∀x,f x=a x):m>>=f=c>>=a:=by rw[h,show f=a from funext g]
def BB{a:Type}{n:Nat}{d:a}{f b:Nat->a->StateT SortSt Sem (ForInStep a)}(h:∀i c,f i c=b i c):forIn [0:n] d f=forIn [0:n] d b:=by rw[show f=b from funext λi=>funext (h i)]
def fX [Decidable c] (h:c->x=a) (g:¬c->y=b):(if c then x else y)=if c then a else b:=by
 by_cases e:c
 .rw[mo e,mo e];exact h e
 .rw[ir e,ir e];exact g e
def zX(a b:Array Keyed):qC a b=(do
 rule "list.sort.merge-lo"
 let e:=a.size+b.size
 let done (out:Array Keyed) (c d:Nat):=out++a.extract c a.size++b.extract d b.size
 let f (out:Array Keyed) (c d:Nat):=out++b.extract d b.size++a.extract c a.size
 let mut out:Array Keyed:= [<-elem' b 0].toArray
 let mut c:=0
 let mut d:=1
 if d==b.size then return done out c d
 if c+1==a.size then return f out c d
 let mut minGallop:=gallopOf (<-get)
 for _ in [0:e] do
  let mut acount:=0
  let mut bcount:=0
  for _ in [0:e] do
   let some Fg <-lt' (<-elem' b d) (<-elem' a c) |return done out c d
   if Fg then
    out:=out.push (<-elem' b d);d:=d+1;bcount:=bcount+1;acount:=0
    if d==b.size then return done out c d
    if bcount>=minGallop then break
   else
    out:=out.push (<-elem' a c);c:=c+1;acount:=acount+1;bcount:=0
    if c+1==a.size then return f out c d
    if acount>=minGallop then break
  rule "list.sort.gallop"
  minGallop:=minGallop+1
  for _ in [0:e] do
   if minGallop>1 then minGallop:=minGallop-1
   setMinGallop' minGallop
   let some k <-fJ false (<-elem' b d) a c (a.size-c) 0|return done out c d
   acount:=k
   if k>0 then
    out:=out++a.extract c (c+k);c:=c+k
    if c+1==a.size then return f out c d
    if c==a.size then return done out c d
   out:=out.push (<-elem' b d);d:=d+1
   if d==b.size then return done out c d
   let some k <-fJ true (<-elem' a c) b d (b.size-d) 0|return done out c d
   bcount:=k
   if k>0 then
    out:=out++b.extract d (d+k);d:=d+k
    if d==b.size then return done out c d
   out:=out.push (<-elem' a c);c:=c+1
   if c+1==a.size then return f out c d
   if acount<7&&bcount<7 then break
  minGallop:=minGallop+1
  setMinGallop' minGallop
 unsupported "internal:list.sort.merge-bound"):=rfl
theorem B5(a b:Array Keyed):qC a b=(do
 liftM (rule "list.sort.merge-lo")
 let y <-elem' b 0
 if (1==b.size)=true then pure ([y].toArray++a.extract 0 a.size++b.extract 1 b.size)
 else if (0+1==a.size)=true then pure ([y].toArray++b.extract 1 b.size++a.extract 0 a.size)
 else do
  let d <-get
  let e <-forIn [0:a.size+b.size] (none, [y].toArray,0,1,gallopOf d) λ_ c=>tQ a b c
  match e.1 with
  |some r=>pure r
  |none=>liftM (unsupported (α:=Array Keyed) "internal:list.sort.merge-bound")):=by
 rw[zX];dsimp only;refine dR rfl λ_=>dR rfl λy=>?_;refine GM (ite _ _) (GM (ite _ _) ?_);refine dR rfl λg=>dR (BB λ_ c=>?_) λu=>?_
 .unfold tQ
  refine dR (BB λ_ t=>?_) λt=>?_
  .unfold B0
   refine dR rfl λ_=>dR rfl λ_=>dR rfl λz=>?_;cases z<;>rfl
  .obtain⟨i,l⟩:=t
   cases i with
   |some r=>rfl
   |none=>
    dsimp only;refine dR rfl λ_=>dR (BB λ_ u=>?_) λu=>?_
    .unfold B2
     have m:∀h,rZ a b u.2.2.2.2.2.2 u.2.2.2.2.2.1 u.2.2.1 u.2.2.2.1 u.2.1 h=rZ a b u.2.2.2.2.2.2 u.2.2.2.2.2.1 u.2.2.1 u.2.2.2.1 u.2.1 h:=λ_=>rfl;refine fX (λ_=>?_) (λ_=>?_)
     all_goals
      unfold rZ;refine dR rfl λ_=>dR rfl λ_=>dR rfl λz=>?_;cases z with
      |none=>rfl
      |some k=>
       dsimp only;refine fX (λ_=>?_) (λ_=>?_)
       .refine fX (λ_=>rfl) (λ_=>fX (λ_=>rfl) (λ_=>?_))
        unfold uY;refine dR rfl λ_=>fX (λ_=>rfl) (λ_=>dR rfl λ_=>dR rfl λz=>?_);cases z with
        |none=>rfl
        |some k=>rfl
       .unfold uY
        refine dR rfl λ_=>fX (λ_=>rfl) (λ_=>dR rfl λ_=>dR rfl λz=>?_);cases z with
        |none=>rfl
        |some k=>rfl
    .obtain⟨f,j⟩:=u
     cases f<;>rfl
 .obtain⟨f,j⟩:=u
  cases f<;>rfl
structure GS (st aA:SortSt):Prop where
 arr:arrOf aA=arrOf st
 kind:kindOf aA=kindOf st
 failed:failedOf aA=failedOf st
 pend:pendingOf aA=pendingOf st
def GS.refl(st:SortSt):GS st st:=#[rfl,rfl,rfl,rfl]
theorem GS.trans(x:GS a b)(y:GS b c):GS a c:=#[y.arr.trans x.arr,y.kind.trans x.kind,y.failed.trans x.failed,y.pend.trans x.pend]
def ue(g:Nat):setMinGallop' g=modify λs=>SortSt.mk' (kindOf s) (arrOf s) (pendingOf s) g (failedOf s):=rfl
def ext_toList(a:Array Keyed)(i j:Nat):(a.extract i j).toList=(a.toList.drop i).take (j-i):=by
 rw[Array.toList_extract]
def DH(a:Array Keyed)(i:Nat):(a.extract i a.size).toList=a.toList.drop i:=by
 rw[ext_toList,CG (by simp)]
def drop_cons{xs:Array Keyed}(h:xs[i]?\x):xs.toList.drop i=x::xs.toList.drop (i+1):=by
 have a:xs.toList[i]?\x:=by rw[<-h];simp
 obtain⟨b,e⟩:=df.mp a;rw[mY b,e]
def vN(l:List Keyed)(i k:Nat):l.drop i=(l.drop i).take k++l.drop (i+k):=by
 rw[<-acz,iT]
section
variable {O:KeyOrd} {key:Keyed->O.α} {S:Keyed->Prop} {k0:SortKind} {M:Model} {A:Around} {E:Value->Shared->Prop} {s:Shared} {st b7:SortSt}
def qH(h:∀a,GS st a->Q ⟨⟩ a):wpS M A E s (setMinGallop' g) Q st:=by
 rw[ue];exact aaS (h _ #[rfl,rfl,rfl,rfl])
def eI{xs:Array Keyed}{i:Nat}(h:i<xs.size):∃x,xs[i]?\x/\x∈xs.toList/\xs.toList[i]?\x:=by
 refine#[xs[i],abp xs i h,by simp,?_]
 rw[gD];exact abp xs i h
def Md{a:Array Keyed}{i:Nat}{x:Keyed}(h:a[i]?\x):a.toList[i]?\x:=by rw[gD];exact h
end
def zW(a b:Array Keyed):qB a b=(do
 rule "list.sort.merge-hi"
 let c:=a.size+b.size
 let done (out:Array Keyed) (na nb:Nat):=a.extract 0 na++b.extract 0 nb++out.reverse
 let d (out:Array Keyed) (na nb:Nat):=b.extract 0 nb++a.extract 0 na++out.reverse
 let mut na:=a.size-1
 let mut nb:=b.size
 let mut out:Array Keyed:= [<-elem' a na].toArray
 if na==0 then return done out na nb
 if nb==1 then return d out na nb
 let mut minGallop:=gallopOf (<-get)
 for _ in [0:c] do
  let mut acount:=0
  let mut bcount:=0
  for _ in [0:c] do
   let some Ff <-lt' (<-elem' b (nb-1)) (<-elem' a (na-1)) |return done out na nb
   if Ff then
    na:=na-1;out:=out.push (<-elem' a na);acount:=acount+1;bcount:=0
    if na==0 then return done out na nb
    if acount>=minGallop then break
   else
    nb:=nb-1;out:=out.push (<-elem' b nb);bcount:=bcount+1;acount:=0
    if nb==1 then return d out na nb
    if bcount>=minGallop then break
  rule "list.sort.gallop"
  minGallop:=minGallop+1
  for _ in [0:c] do
   if minGallop>1 then minGallop:=minGallop-1
   setMinGallop' minGallop
   let some at_ <-fJ false (<-elem' b (nb-1)) a 0 na (na-1) |return done out na nb
   let k:=na-at_
   acount:=k
   if k>0 then
    out:=out++(a.extract at_ na).reverse;na:=at_
    if na==0 then return done out na nb
   nb:=nb-1;out:=out.push (<-elem' b nb)
   if nb==1 then return d out na nb
   let some at_ <-fJ true (<-elem' a (na-1)) b 0 nb (nb-1) |return done out na nb
   let k:=nb-at_
   bcount:=k
   if k>0 then
    out:=out++(b.extract at_ nb).reverse;nb:=at_
    if nb==1 then return d out na nb
    if nb==0 then return done out na nb
   na:=na-1;out:=out.push (<-elem' a na)
   if na==0 then return done out na nb
   if acount<7&&bcount<7 then break
  minGallop:=minGallop+1
  setMinGallop' minGallop
 unsupported "internal:list.sort.merge-bound"):=rfl
abbrev S7:=Option (Array Keyed)×Nat×Nat×Array Keyed×Nat×Nat×Nat
abbrev S6:=Option (Array Keyed)×Nat×Nat×Array Keyed×Nat×Nat
abbrev S5:=Option (Array Keyed)×Nat×Nat×Array Keyed×Nat
def lV(a b out:Array Keyed)(c d:Nat):Array Keyed:=a.extract 0 c++b.extract 0 d++out.reverse
def wY(a b out:Array Keyed)(c d:Nat):Array Keyed:=b.extract 0 d++a.extract 0 c++out.reverse
def BG(a b:Array Keyed)(g d e c:Nat)(out:Array Keyed)(f:Nat):StateT SortSt Sem (ForInStep S7):=do
 let x <-elem' a (c-1)
 if (c-1==0)=true then pure (ForInStep.done (some (lV a b (out.push x) (c-1) f),c-1,f,out.push x,g,d,e))
 else if (decide (d<7)&&decide (e<7))=true then pure (ForInStep.done (none,c-1,f,out.push x,g,d,e))
 else pure (ForInStep.yield (none,c-1,f,out.push x,g,d,e))
def uO(a b:Array Keyed)(e f h c:Nat)(out:Array Keyed)(d:Nat):StateT SortSt Sem (ForInStep S7):=do
 let y <-elem' b (c-1)
 if (c-1==1)=true then pure (ForInStep.done (some (wY a b (out.push y) d (c-1)),d,c-1,out.push y,e,f,h))
 else do
  let x <-elem' a (d-1)
  let g <-fJ true x b 0 (c-1) (c-1-1)
  match g with
  |some p=>
   if c-1-p>0 then
    if (p==1)=true then pure (ForInStep.done (some (wY a b (out.push y++(b.extract p (c-1)).reverse) d p),d,p,out.push y++(b.extract p (c-1)).reverse,e,f,c-1-p))
    else if (p==0)=true then pure (ForInStep.done (some (lV a b (out.push y++(b.extract p (c-1)).reverse) d p),d,p,out.push y++(b.extract p (c-1)).reverse,e,f,c-1-p))
    else BG a b e f (c-1-p) d (out.push y++(b.extract p (c-1)).reverse) p
   else BG a b e f (c-1-p) d (out.push y) (c-1)
  |_=>pure (ForInStep.done (some (lV a b (out.push y) d (c-1)),d,c-1,out.push y,e,f,h))
def ye(a b:Array Keyed)(f h c d:Nat)(out:Array Keyed)(e:Nat):StateT SortSt Sem (ForInStep S7):=do
 setMinGallop' e
 let y <-elem' b (d-1)
 let g <-fJ false y a 0 c (c-1)
 match g with
 |some p=>
  if c-p>0 then
   if (p==0)=true then pure (ForInStep.done (some (lV a b (out++(a.extract p c).reverse) p d),p,d,out++(a.extract p c).reverse,e,c-p,f))
   else uO a b e (c-p) f d (out++(a.extract p c).reverse) p
  else uO a b e (c-p) f d out c
 |_=>pure (ForInStep.done (some (lV a b out c d),c,d,out,e,h,f))
def BI(a b:Array Keyed)(c:S7):StateT SortSt Sem (ForInStep S7):=
 if c.2.2.2.2.1>1 then ye a b c.2.2.2.2.2.2 c.2.2.2.2.2.1 c.2.1 c.2.2.1 c.2.2.2.1 (c.2.2.2.2.1-1) else ye a b c.2.2.2.2.2.2 c.2.2.2.2.2.1 c.2.1 c.2.2.1 c.2.2.2.1 c.2.2.2.2.1
def BH(a b:Array Keyed)(e:Nat)(c:S6):StateT SortSt Sem (ForInStep S6):=do
 let y <-elem' b (c.2.2.1-1)
 let x <-elem' a (c.2.1-1)
 let d <-lt' y x
 match d with
 |some f=>
  if f=true then do
   let x <-elem' a (c.2.1-1)
   if (c.2.1-1==0)=true then pure (ForInStep.done (some (lV a b (c.2.2.2.1.push x) (c.2.1-1) c.2.2.1),c.2.1-1,c.2.2.1,c.2.2.2.1.push x,c.2.2.2.2.1+1,0))
   else if c.2.2.2.2.1+1>=e then pure (ForInStep.done (none,c.2.1-1,c.2.2.1,c.2.2.2.1.push x,c.2.2.2.2.1+1,0))
   else pure (ForInStep.yield (none,c.2.1-1,c.2.2.1,c.2.2.2.1.push x,c.2.2.2.2.1+1,0))
  else do
   let y <-elem' b (c.2.2.1-1)
   if (c.2.2.1-1==1)=true then pure (ForInStep.done (some (wY a b (c.2.2.2.1.push y) c.2.1 (c.2.2.1-1)),c.2.1,c.2.2.1-1,c.2.2.2.1.push y,0,c.2.2.2.2.2+1))
   else if c.2.2.2.2.2+1>=e then pure (ForInStep.done (none,c.2.1,c.2.2.1-1,c.2.2.2.1.push y,0,c.2.2.2.2.2+1))
   else pure (ForInStep.yield (none,c.2.1,c.2.2.1-1,c.2.2.2.1.push y,0,c.2.2.2.2.2+1))
 |_=>pure (ForInStep.done (some (lV a b c.2.2.2.1 c.2.1 c.2.2.1),c.2.1,c.2.2.1,c.2.2.2.1,c.2.2.2.2.1,c.2.2.2.2.2))
def tH(a b:Array Keyed)(f:S5):StateT SortSt Sem (ForInStep S5):=do
 let e <-forIn [0:a.size+b.size] ((none,f.2.1,f.2.2.1,f.2.2.2.1,0,0):S6) λ_ c=>BH a b f.2.2.2.2 c
 match e.1 with
 |some r=>pure (ForInStep.done (some r,e.2.1,e.2.2.1,e.2.2.2.1,f.2.2.2.2))
 |none=>do
  liftM (rule "list.sort.gallop")
  let d <-forIn [0:a.size+b.size] ((none,e.2.1,e.2.2.1,e.2.2.2.1,f.2.2.2.2+1,e.2.2.2.2.1,e.2.2.2.2.2):S7) λ_ c=>BI a b c
  match d.1 with
  |some r=>pure (ForInStep.done (some r,d.2.1,d.2.2.1,d.2.2.2.1,d.2.2.2.2.1))
  |none=>do
   setMinGallop' (d.2.2.2.2.1+1)
   pure (ForInStep.yield (none,d.2.1,d.2.2.1,d.2.2.2.1,d.2.2.2.2.1+1))
theorem B4(a b:Array Keyed):qB a b=(do
 liftM (rule "list.sort.merge-hi")
 let x <-elem' a (a.size-1)
 if (a.size-1==0)=true then pure (lV a b [x].toArray (a.size-1) b.size)
 else if (b.size==1)=true then pure (wY a b [x].toArray (a.size-1) b.size)
 else do
  let d <-get
  let e <-forIn [0:a.size+b.size] ((none,a.size-1,b.size, [x].toArray,gallopOf d):S5) λ_ c=>tH a b c
  match e.1 with
  |some r=>pure r
  |none=>liftM (unsupported (α:=Array Keyed) "internal:list.sort.merge-bound")):=by
 rw[zW];dsimp only;refine dR rfl λ_=>dR rfl λy=>?_;refine GM (ite _ _) (GM (ite _ _) ?_);refine dR rfl λg=>dR (BB λ_ c=>?_) λu=>?_
 .unfold tH
  refine dR (BB λ_ t=>?_) λt=>?_
  .unfold BH
   refine dR rfl λ_=>dR rfl λ_=>dR rfl λz=>?_;cases z<;>rfl
  .obtain⟨h,j⟩:=t
   cases h with
   |some r=>rfl
   |none=>
    dsimp only;refine dR rfl λ_=>dR (BB λ_ u=>?_) λu=>?_
    .unfold BI
     refine fX (λ_=>?_) (λ_=>?_)
     all_goals
      unfold ye;refine dR rfl λ_=>dR rfl λ_=>dR rfl λz=>?_;cases z with
      |none=>rfl
      |some k=>
       dsimp only;refine fX (λ_=>?_) (λ_=>?_)
       .refine fX (λ_=>rfl) (λ_=>?_)
        unfold uO;refine dR rfl λ_=>fX (λ_=>rfl) (λ_=>dR rfl λ_=>dR rfl λz=>?_);cases z with
        |none=>rfl
        |some k=>rfl
       .unfold uO
        refine dR rfl λ_=>fX (λ_=>rfl) (λ_=>dR rfl λ_=>dR rfl λz=>?_);cases z with
        |none=>rfl
        |some k=>rfl
    .obtain⟨f,i⟩:=u
     cases f<;>rfl
 .obtain⟨f,i⟩:=u
  cases f<;>rfl
section
variable {O:KeyOrd} {key:Keyed->O.α} {S:Keyed->Prop} {k0:SortKind} {M:Model} {A:Around} {E:Value->Shared->Prop} {s:Shared} {st b7:SortSt} {a b:Array Keyed}
def QM(c:Array Keyed)(n:Nat):(c.extract 0 n).toList=c.toList.take n:=by rw[ext_toList];simp
def wc(l:List Keyed)(h:p<=n):l.take n=l.take p++(l.drop p).take (n-p):=by
 conv=>lhs;rw[<-iT p (l.take n)]
 rw[List.take_take,show min p n=p by lia,List.drop_take]
end
def B3(i:Nat):mergeAt' i=(do
 let s <-get
 let (some (sa,na,power),some (sb,nb,_)):=((pendingOf s)[i]?,(pendingOf s)[i+1]?) |unsupported "internal:list.sort.pending"
 set (setPending s (((pendingOf s).setIfInBounds i (sa,na+nb,power)).eraseIdxIfInBounds (i+1)))
 let some k <-fJ false (<-elem' (arrOf s) sb) (arrOf s) sa na 0|return false
 let (sa,na):=(sa+k,na-k)
 if na==0 then return true
 let some nb <-fJ true (<-elem' (arrOf s) (sa+na-1)) (arrOf s) sb nb (nb-1) |return false
 if nb==0 then return true
 let x:=(arrOf s).extract sa sb
 let y:=(arrOf s).extract sb (sb+nb)
 let merged <-if na<=nb then qC x y else qB x y
 modify λs=>setArr s (merged.toList.zipIdx.foldl (λa (p,j)=>a.setIfInBounds (sa+j) p) (arrOf s))
 return (failedOf (<-get)).isNone):=rfl
theorem xX:∀(m:List Keyed)(off b:Nat)(c:Array Keyed),b+off+m.length<=c.size->
  ((m.zipIdx off).foldl (λa (p:Keyed×Nat)=>a.setIfInBounds (b+p.2) p.1) c).size=c.size/\∀i,((m.zipIdx off).foldl (λa (p:Keyed×Nat)=>a.setIfInBounds (b+p.2) p.1) c)[i]? =if b+off<=i/\i<b+off+m.length then m[i-(b+off)]? else c[i]?
 | [],off,b,c,_=>#[rfl,λi=>by rw[ir (by simp)];rfl]
 |x::m,off,b,c,h=>by
  rw[b8] at h;have e:=xX m (off+1) b (c.setIfInBounds (b+off) x) (by rw[aaN];lia)
  rw[List.zipIdx_cons,acf];refine#[by rw[e.1,aaN],λi=>?_]
  rw[e.2 i]
  by_cases f:b+(off+1)<=i/\i<b+(off+1)+m.length
  .rw[mo f,mo (by rw[b8];lia),show i-(b+off)=(i-(b+(off+1)))+1 by lia,uu]
  .rw[ir f,abA]
   by_cases d:b+off=i
   .rw[mo d,mo (),mo (by rw[b8];lia),<-d,uA];rfl
   .rw[ir d,ir (by rw[b8];lia)]
def putAt(c m:Array Keyed)(b:Nat):Array Keyed:=m.toList.zipIdx.foldl (λa (p:Keyed×Nat)=>a.setIfInBounds (b+p.2) p.1) c
def GH(h:b+m.size<=a.size)(i:Nat):(putAt a m b)[i]? =if b<=i/\i<b+m.size then m[i-b]? else a[i]? :=by
 have:=(xX m.toList 0 b a (~~~h)).2 i
 unfold putAt;rw[this];simp
def EF(h:b+m.size<=a.size)(p:m.toList.Perm ((a.toList.drop b).take m.size)):(putAt a m b).Perm a:=by
 rw[CD]
 have e:(putAt a m b).toList=a.toList.take b++(m.toList++a.toList.drop (b+m.size)):=by
  apply rA;intro i;rw[gD,GH h,List.getElem?_append,List.getElem?_append,kX,eD,eD,abI,CK,gD,gD,gD]
  repeat' split
  all_goals first|rfl| (exfalso;lia) | (congr 1;lia)
 have c:a.toList=a.toList.take b++((a.toList.drop b).take m.size++a.toList.drop (b+m.size)):=by
  conv=>lhs;rw[<-iT b a.toList,vN a.toList b m.size]
 rw[e]
 conv=>rhs;rw[c]
 exact aam _ (p.append_right _)
section
variable {O:KeyOrd} {key:Keyed->O.α} {S:Keyed->Prop} {k0:SortKind} {prog:Program} {w:World} {A:Around} {E:Value->Shared->Prop} {s:Shared} {st b7:SortSt}
def NR(h:Q ⟨⟩ a):wpS M A E s (set a:StateT SortSt Sem PUnit) Q st:=by
 unfold wpS;rw[StateT.run_set];exact be #[rfl,h]
end
abbrev U1:=Option Unit×Unit
def Il(a:Nat):StateT SortSt Sem (ForInStep U1):=do
 let st <-get
 match (if (pendingOf st).size>1 then(pendingOf st)[(pendingOf st).size-2]? else none) with
 |some (_,_,b)=>
  if b<=a then pure (ForInStep.done (none,Unit.unit))
  else do
   let ok <-mergeAt' ((pendingOf st).size-2)
   if (!ok)=true then pure (ForInStep.done (some ⟨⟩,Unit.unit)) else pure (ForInStep.yield (none,Unit.unit))
 |_=>pure (ForInStep.done (none,Unit.unit))
def nK(size lo n:Nat):StateT SortSt Sem (ForInStep (Option Unit×Nat)):=do
 let st <-get
 match (pendingOf st).back? with
 |some (b,a,_)=>do
  let t <-forIn [0:size] ((none,⟨⟩):U1) λ_ _=>Il (power' size (2*b+a) (2*b+a+a+n) size)
  match t.1 with
  |some r=>pure (ForInStep.done (some r,lo))
  |none=>do
   modify λs=>setPending s ((pendingOf s).modify ((pendingOf s).size-1) λx=>(x.1,x.2.1,power' size (2*b+a) (2*b+a+a+n) size))
   modify λs=>setPending s ((pendingOf s).push (lo,n,0))
   pure (ForInStep.yield (none,lo+n))
 |_=>do
  modify λs=>setPending s ((pendingOf s).push (lo,n,0))
  pure (ForInStep.yield (none,lo+n))
def Ct(size lo:Nat):StateT SortSt Sem (ForInStep (Option Unit×Nat)):=
 if lo>=size then pure (ForInStep.done (none,lo))
 else do
  let x <-countRun' lo (size-lo)
  match x with
  |some a=>
   if a<minRun' size size 0 then do
    liftM (rule "list.sort.binary-insertion")
    let ok <-binarySort' lo (min (size-lo) (minRun' size size 0)) a
    if (!ok)=true then pure (ForInStep.done (some ⟨⟩,lo)) else nK size lo (min (size-lo) (minRun' size size 0))
   else nK size lo a
  |_=>pure (ForInStep.done (some ⟨⟩,lo))
def ND:StateT SortSt Sem (ForInStep U1):=do
 let st <-get
 if (pendingOf st).size<=1 then pure (ForInStep.done (none,Unit.unit))
 else do
  let ok <-mergeAt' (if (if (pendingOf st).size-2>0 then(pendingOf st)[(pendingOf st).size-2-1]?.map (·.2.1) else none).any (·<((pendingOf st)[(pendingOf st).size-2+1]?.elim 0 (·.2.1))) then(pendingOf st).size-2-1 else(pendingOf st).size-2)
  if (!ok)=true then pure (ForInStep.done (some ⟨⟩,Unit.unit)) else pure (ForInStep.yield (none,Unit.unit))
theorem zd:sortRuns'=(do
 let st <-get
 let c <-forIn [0:(arrOf st).size] ((none,0):Option Unit×Nat) λ_ c=>Ct (arrOf st).size c.2
 match c.1 with
 |some r=>pure r
 |none=>do
  let t <-forIn [0:(arrOf st).size] ((none,⟨⟩):U1) λ_ _=>ND
  match t.1 with
  |some r=>pure r
  |none=>pure ⟨⟩):=by
 rw[sortRuns'_eq];dsimp only;refine dR rfl λst=>dR (BB λ_ c=>?_) λc=>?_
 .unfold Ct
  refine fX (λ_=>rfl) (λ_=>dR rfl λx=>?_);cases x with
  |none=>rfl
  |some f=>
   dsimp only;have i:∀n:Nat,nK (arrOf st).size c.2 n=nK (arrOf st).size c.2 n:=λ_=>rfl;refine fX (λ_=>dR rfl λ_=>dR rfl λok=>fX (λ_=>rfl) (λ_=>?_)) (λ_=>?_)
   all_goals
    unfold nK;refine dR rfl λd=>?_;cases(pendingOf d).back? with
    |none=>rfl
    |some e=>
     obtain⟨j,k,l⟩:=e;dsimp only;refine dR (BB λ_ c=>?_) λt=>?_
     .unfold Il
      refine dR rfl λa=>?_;cases(if (pendingOf a).size>1 then(pendingOf a)[(pendingOf a).size-2]? else none) with
      |none=>rfl
      |some e=>rfl
     .obtain⟨b,g⟩:=t
      cases b<;>rfl
 .obtain⟨h,m⟩:=c
  cases h with
  |some r=>rfl
  |none=>
   dsimp only;refine dR (BB λ_ c=>?_) λt=>?_
   .rfl
   .obtain⟨b,g⟩:=t
    cases b<;>rfl
end TS
namespace L2
open PySem PySem.Spec PyProof.Rows
section
open PySem.SeqAt
open PySem.AutoSeq1 (wpAny_loadPart')
open PySem.MeetsSeq PySem.MeetsSeq2 PySem.MeetsSeq3
def D7{c:List Value}{d:List Int}(h:IntsAre c d){i:Nat}{a:Int}(e:d[i]?\a):∃t,c[i]?\(.int a t):=by
 induction h generalizing i with
 |nil=>simp at e
 |cons b t _ f=>
  cases i with
  |zero=>simp at e;subst e;exact#[t,rfl]
  |succ i=>simp at e;obtain⟨u,g⟩:=f e;exact#[u,by simpa using g]
theorem Mg(l b:Addr)(a j:Array Value)(n C:Nat)(E F:Option Addr)(G H:Array (Option Value))(m f:List Int)(y:IntsAre a.toList m)(z:IntsAre j.toList f)(k:Nat):
  ∀i:Nat,a.size-i=k->i<=a.size->i<=j.size->Meets (Builtin.«list.__eq__.loop» #[[.ref l, .ref b,rawInt i,rawInt 0],[]])
   (λA R s=>s.heap.get? l\{cls:= .type "list",dict:=E,data:= .seq a n,slots:=G}/\s.heap.get? b\{cls:= .type "list",dict:=F,data:= .seq j C,slots:=H}/\
    R (.ok (.ret (.bool (HT.lexLt (m.drop i) (f.drop i))))) s):=by
 have X:a.size=m.length:=by rw[<-y.length];simp
 have Y:j.size=f.length:=by rw[<-z.length];simp
 induction k with
 |zero=>
  intro i I J L prog w A R s h;obtain⟨r,g,d,v,os⟩:=s;obtain⟨o,p,h⟩:=h
  wp_walk using wpAny_loadPart' o,wpAny_loadPart' p
  have qL:a[((i:Nat):Int).toNat]? =none:=by simp;lia
  rw[qL];have M:m.drop i= []:=aa4 ()
  rw[M] at h
  have N:HT.lexLt [] (f.drop i)=decide (a.size<j.size):=by
   by_cases c:i<f.length
   .rw[mY c,HT.nV]
    exact(GT ()).symm
   .rw[aa4 (),HT.oZ]
    exact(Gc ()).symm
  rw[N] at h
  wp_walk using wpAny_loadPart' o,wpAny_loadPart' p
  exact h
 |succ k O=>
  intro i I J L prog w A R s h;obtain⟨r,g,d,v,os⟩:=s;obtain⟨o,p,h⟩:=h
  wp_walk using wpAny_loadPart' o,wpAny_loadPart' p
  have x:i<m.length:=()
  obtain⟨t,P⟩:=D7 y (cv x);have qL:a[((i:Nat):Int).toNat]?\(.int m[i] t):=by rw[wu,<-gD];exact P
  have Q:((i:Int)+1)=((i+1:Nat):Int):=by push_cast;rfl
  rw[qL]
  by_cases c:i<f.length
  .obtain⟨u,S⟩:=D7 z (cv c)
   have zR:j[((i:Nat):Int).toNat]?\(.int f[i] u):=by rw[wu,<-gD];exact S
   rw[zR];rw[mY x,mY c,HT.jC] at h;obtain⟨e,T,B⟩:=HT.Aq A.in1 #[r,g,d,v,os] m[i] t f[i] u;refine wpAny_bind (T prog w _ _ ?_);cases e with
   |true=>
    rw[mo (B.mp rfl)] at h
    wp_walk
    rw[Q]
    exact#[aao abM _,aai entry_eq_loop (by
     rw[UV abM _];exact O (i+1) () () () prog w A R _ #[o,p,h])]
   |false=>
    rw[ir (λq=>absurd (B.mpr q) cP)] at h
    wp_walk using wpAny_loadPart' o,wpAny_loadPart' p
    rw[qL,zR];have U:=HT.ve A.in1 #[r,g,d,v,os] m[i] t f[i] u prog w
    wp_walk using U
    exact h
  .have zR:j[((i:Nat):Int).toNat]? =none:=by simp;lia
   rw[zR];rw[mY x,aa4 (show f.length<=i by lia),HT.nU] at h
   wp_walk using wpAny_loadPart' o,wpAny_loadPart' p
   show R (.ok (.ret (.bool (decide (a.size<j.size))))) _;rw[Gc ()]
   exact h
end
section
open PySem.SeqAt
open PySem.AutoSeq1 (wpAny_loadPart')
open PySem.MeetsSeq PySem.MeetsSeq2 PySem.MeetsSeq3
def zU(l b:Addr)(a c:Array Value)(n i:Nat)(j k:Option Addr)(m o:Array (Option Value))(e f:List Int)(r:IntsAre a.toList e)(t:IntsAre c.toList f):
  Meets (Builtin.«list.__lt__» #[[.ref l, .ref b],[]])
   (λ_ R s=>s.heap.get? l\{cls:= .type "list",dict:=j,data:= .seq a n,slots:=m}/\s.heap.get? b\{cls:= .type "list",dict:=k,data:= .seq c i,slots:=o}/\
    R (.ok (.ret (.bool (HT.lexLt e f)))) s):=by
 intro prog w A R s h;obtain⟨u,g,d,v,os⟩:=s;obtain⟨p,q,h⟩:=h;have x:=AutoSeq1.sub_list_list
 wp_walk using wpAny_loadPart' p,wpAny_loadPart' q
 exact#[aao abM _,aai entry_eq_loop (by
  rw[UV abM _];exact Mg l b a c n i j k m o e f r t _ 0 rfl (dZ _) (dZ _) prog w A R _ #[p,q,h])]
end
section
variable {prog:Program} {w:World} {A:Around} {E:Value->Shared->Prop} {s:Shared}
def Ew(o:s.heap.IsList l a)(p:s.heap.IsList b d)(q:IntsAre a.toList e)(r:IntsAre d.toList f)(t:A.units<cLine)
  (h:Q (HT.lexLt e f) s):wpAny (model prog w) A (oneLt' true (.ref l) (.ref b)) Q E s:=by
 rfl';obtain⟨⟨v,x,i,y⟩,g,j,n,k⟩:=id o;obtain⟨⟨I,z,data2,B⟩,C,m,G,c⟩:=id p;ac_rfl;simp only at j k m c;subst j k m c;rw[oneLt'_eq];simp only[aal];refine wpAny_bind (wpAny_cRoomFor t ?_);refine wpAny_bind (wpAny_callSpecialIfBound?_slot #[_,g,rfl] PySem.F.slot_list_lt (aaE PySem.F.slot_list_lt #[_,g,rfl] PySem.F.entry_list_lt (PySem.F.args_list_lt_2 _ _) (zU l b a d n G x z y B e f q r) #[g,C,?_]));exact P3 h
end
theorem yt:∀a:List Int,HT.lexLt a a=false
 | []=>rfl
 |x::b=>by rw[HT.jC,mo rfl];exact yt b
theorem HK:∀a b c:List Int,HT.lexLt a b=true->HT.lexLt b c=true->HT.lexLt a c=true
 | [],[],_,h,_=>by cases h
 | [],_::_,[],_,h=>by cases h
 | [],_::_,_::_,_,_=>rfl
 |_::_,[],_,h,_=>by cases h
 |_::_,_::_,[],_,h=>by cases h
 |x::i,y::j,z::k,g,e=>by
  rw[HT.jC] at*
  by_cases f:x=y
  .rw[mo f] at g
   by_cases d:y=z
   .rw[mo d] at e
    rw[mo (f.trans d)];exact HK i j k g e
   .rw[ir d] at e
    rw[ir (by rw[f];exact d),f];exact e
  .rw[ir f] at g
   have l:=IR g
   by_cases d:y=z
   .rw[ir (by rw[<-d];exact f),<-d];exact g
   .rw[ir d] at e
    have m:=IR e;rw[ir ()]
    exact GT ()
def Cz(r:List Nat):List Int:=r.map λ(n:Nat)=>(n:Int)
def Iu(H:Hp)(L:List (Addr×List Nat)):Prop:=∀p∈L,H p.1\(.lst ((Cz p.2).map V.int))
section
variable {X:Cx}
end
end L2
namespace PySem.SetTable
def oK(xs:Array Nat):Prop:=∀i j (a:j<xs.size),i<j->xs[i]! <xs[j]!
def Ly{a:Array Nat}{i d:Nat}(h:i<a.size):a.getD i d=a[i]! :=by
 simp[Array.getD,h]
theorem ya(R:oK h)(j:Nat):∀(f lo g:Nat),g-lo<=f->lo<=g->g<=h.size->(∀i,i<lo->h[i]! <j)->(∀i,g<=i->i<h.size->j<=h[i]!)->
  lo<=below.go h j f lo g/\below.go h j f lo g<=g/\(∀i,i<below.go h j f lo g->h[i]! <j)/\∀i,below.go h j f lo g<=i->i<h.size->j<=h[i]!
 |0,lo,g,m,n,k,a,b=>by
  have:lo=g:=()
  subst this;rw[below.go];exact#[aY _,aY _,a,b]
 |f+1,lo,g,m,n,k,a,b=>by
  rw[below.go]
  by_cases c:lo<g
  .rw[mo c]
   have l:(lo+g) / 2<h.size:=()
   dsimp only;rw[Ly l]
   by_cases d:h[(lo+g) / 2]! <j
   .rw[mo d]
    have:=ya R j f ((lo+g) / 2+1) g () () k (λi p=>by
     by_cases e:i=(lo+g) / 2
     .rw[e];exact d
     .have:=R i ((lo+g) / 2) l ();lia) b
    exact#[(),this.2.1,this.2.2]
   .rw[ir d]
    have:=ya R j f lo ((lo+g) / 2) () () () a (λi q o=>by
     by_cases e:i=(lo+g) / 2
     .rw[e];lia
     .have:=R ((lo+g) / 2) i o ();lia)
    exact#[this.1,(),this.2.2]
  .rw[ir c]
   have:lo=g:=()
   subst this;exact#[aY _,aY _,a,b]
def jy{xs:Array Nat}(R:oK xs)(j:Nat):below xs j<=xs.size/\(∀i,i<below xs j->xs[i]! <j)/\∀i,below xs j<=i->i<xs.size->j<=xs[i]! :=by
 have:=ya R j xs.size 0 xs.size () (dZ _) (aY _) (λi h=>by lia) (λi a b=>by lia)
 exact#[this.2.1,this.2.2]
def below_at(R:oK a)(h:a[i]?\j):below a j=i:=by
 obtain⟨b,e⟩:=A4.mp h;have g:a[i]! =j:=by simp[b,e]
 obtain⟨k,d,f⟩:=jy R j;apply Nat.le_antisymm
 .apply FB
  intro c
  have:=d i ()
  lia
 .apply FB
  intro c;have l:=f (below a j) (aY _) ()
  have m:=R (below a j) i b ()
  lia
def sE{t:SetTable}(R:oK t.place)(h:t.place[i]?\j):t.slot j= .live i:=by
 unfold slot;rw[below_at R h];simp[h]
def EM{t:SetTable}(R:oK t.place)(a:t.dummies= #[])(h:∀i:Nat,t.place[i]? ≠some j):t.slot j= .empty:=by
 unfold slot
 have b:(t.place[below t.place j]? ==some j)=false:=by
  rw[aap];exact h _
 dsimp only;rw[ir (by rw[b];exact cP)]
 unfold has;rw[a];rfl
def om(mask:Nat)(p:Probe):Probe:=
 if p.more>0 then {p with j:=p.j+1,more:=p.more-1} else
 let (i,perturb):=leap mask p.i p.perturb
 {p with j:=i,more:=runEnd mask i-i,i,perturb}
def b7(mask:Nat)(h:Int):Probe:={j:=bits h%(mask+1),more:=runEnd mask (bits h%(mask+1))-bits h%(mask+1),i:=bits h%(mask+1),perturb:=bits h,dummy:=none}
def Ke(t:SetTable)(h:Int):t.probeStart h=b7 t.mask h:=rfl
def qM(mask:Nat)(h:Int):Nat->Probe
 |0=>b7 mask h
 |k+1=>om mask (qM mask h k)
def bN(mask:Nat)(h:Int)(k:Nat):Nat:=(qM mask h k).j
def KG(h:Int):bits h<2^64:=by
 unfold bits;have a:0<=h%(2^64:Int):=ach _ ∅
 have b:h%(2^64:Int)<2^64:=abJ _ ∅
 lia
def e7(mask:Nat)(i p:Nat):Nat->Nat×Nat
 |0=>(i,p)
 |r+1=>leap mask (e7 mask i p r).1 (e7 mask i p r).2
theorem lZ(mask i p:Nat):∀r,(e7 mask i p r).2=p / 32^r
 |0=>by simp[e7]
 |r+1=>by
  show(e7 mask i p r).2 / 32=_;rw[lZ mask i p r,Nat.div_div_eq_div_mul,Nat.pow_succ]
def OY(mask:Nat)(i:Nat):Nat:=(i*5+1)%(mask+1)
def lg(mask:Nat)(i:Nat):Nat->Nat
 |0=>i
 |r+1=>OY mask (lg mask i r)
theorem mJ(mask i:Nat)(a:Nat):∀b,lg mask i (a+b)=lg mask (lg mask i a) b
 |0=>rfl
 |b+1=>by
  show OY mask (lg mask i (a+b))=_;rw[mJ mask i a b];rfl
theorem vf{mask i p a:Nat}(h:(e7 mask i p a).2=0):∀r,e7 mask i p (a+r)=(lg mask (e7 mask i p a).1 r,0)
 |0=>by rw[Nat.add_zero,lg];exact aah rfl h
 |r+1=>by
  show leap mask (e7 mask i p (a+r)).1 (e7 mask i p (a+r)).2=_;rw[vf h r];unfold leap;simp[lg,OY]
def wx(mask:Nat):Prop:=mask=7\/mask=31\/mask=127\/mask=511
def Tf(mask:Nat):Nat->Nat->List Nat
 |_,0=> []
 |i,n+1=>i::Tf mask (OY mask i) n
theorem Em{mask s:Nat}:∀{i n:Nat},s∈Tf mask i n->∃r,r<n/\lg mask i r=s
 |i,0,h=>by cases h
 |i,n+1,h=>by
  rcases bu.mp h with rfl|h
  .exact#[0,(),rfl]
  .obtain⟨r,a,e⟩:=Em h
   refine#[r+1,(),?_]
   have:=mJ mask i 1 r
   rw[show 1+r=r+1 by lia] at this
   rw[this];exact e
def Tg{mask:Nat}(h:wx mask):(∀s,s<=mask->∃r,r<=mask/\lg mask 0 r=s)/\lg mask 0 (mask+1)=0:=by
 have key:∀m,(ac (m+1)).all (λs=>(Tf m 0 (m+1)).contains s)=true->∀s,s<=m->∃r,r<=m/\lg m 0 r=s:=λm a s b=>by
  have:=vC.mp a s (b9.mpr ())
  obtain⟨r,c,e⟩:=Em (List.contains_iff_mem.mp this);exact#[r,(),e]
 rcases h with rfl|rfl|rfl|rfl
 .exact#[key 7 (by decide+kernel),by decide+kernel]
 .exact#[key 31 (by decide+kernel),by decide+kernel]
 .exact#[key 127 (by decide+kernel),by decide+kernel]
 .exact#[key 511 (by decide+kernel),by decide+kernel]
def cover{mask:Nat}(h:wx mask){i s:Nat}(d:i<=mask)(e:s<=mask):∃r,r<=mask/\lg mask i r=s:=by
 obtain⟨o,per⟩:=Tg h;obtain⟨a,f,rfl⟩:=o i d;obtain⟨b,g,rfl⟩:=o s e
 by_cases c:a<=b
 .refine#[b-a,(),?_]
  rw[<-mJ,show a+(b-a)=b by lia]
 .refine#[mask+1-a+b,(),?_]
  rw[<-mJ,show a+(mask+1-a+b)=mask+1+b by lia,mJ,per]
def c9(mask:Nat)(p:Probe):Nat->Probe
 |0=>p
 |k+1=>om mask (c9 mask p k)
theorem mD(mask:Nat)(p:Probe)(a:Nat):∀b,c9 mask p (a+b)=c9 mask (c9 mask p a) b
 |0=>rfl
 |b+1=>by
  show om mask (c9 mask p (a+b))=_;rw[mD mask p a b];rfl
theorem nM(mask:Nat)(h:Int):∀k,qM mask h k=c9 mask (b7 mask h) k
 |0=>rfl
 |k+1=>by
  show om mask _=om mask _;rw[nM mask h k]
theorem uG(mask:Nat)(p:Probe):∀c,c<=p.more->c9 mask p c={p with j:=p.j+c,more:=p.more-c}
 |0,_=>rfl
 |c+1,a=>by
  show om mask (c9 mask p c)=_;rw[uG mask p c ()]
  unfold om;rw[mo (by show p.more-c>0;lia)]
  show({p with j:=p.j+c+1,more:=p.more-c-1}:Probe)={p with j:=p.j+(c+1),more:=p.more-(c+1)}
  rw[show p.more-c-1=p.more-(c+1) by lia,show p.j+c+1=p.j+(c+1) by lia]
def Qb(mask:Nat)(p:Probe)(a:Nat×Nat):Probe:={p with j:=a.1,more:=runEnd mask a.1-a.1,i:=a.1,perturb:=a.2}
def more_le(mask i:Nat):runEnd mask i-i<=9:=by
 unfold runEnd
 split<;>lia
def rF(mask:Nat)(p:Probe):c9 mask p (p.more+1)=Qb mask p (leap mask p.i p.perturb):=by
 show om mask (c9 mask p p.more)=_;rw[uG mask p p.more (aY _)];unfold om;rw[ir (by show ¬p.more-p.more>0;lia)]
 rfl
theorem xt(mask:Nat)(p:Probe):∀r,∃k,k<=p.more+1+10*r/\c9 mask p k=Qb mask p (e7 mask p.i p.perturb (r+1))
 |0=>#[p.more+1,(),rF mask p]
 |r+1=>by
  obtain⟨k,a,e⟩:=xt mask p r;have b:=more_le mask (e7 mask p.i p.perturb (r+1)).1;refine#[k+((runEnd mask (e7 mask p.i p.perturb (r+1)).1-(e7 mask p.i p.perturb (r+1)).1)+1),(),?_]
  rw[mD,e];exact rF mask (Qb mask p (e7 mask p.i p.perturb (r+1)))
def EK(mask i p:Nat)(r:Nat):(e7 mask i p (r+1)).1<=mask:=by
 show(((e7 mask i p r).1*5+1+(e7 mask i p r).2 / 32)%(mask+1))<=mask
 have:=qu ((e7 mask i p r).1*5+1+(e7 mask i p r).2 / 32) (show 0<mask+1 by lia)
 lia
def Ii{mask i:Nat}(h:i<=mask):i+(runEnd mask i-i)<=mask:=by
 unfold runEnd
 split<;>lia
structure uE (mask:Nat) (p:Probe):Prop where
 le:p.j+p.more<=mask
 more:p.more<=9
 per:p.perturb<2^64
 dum:p.dummy=none
theorem uE.om{mask:Nat}{p:Probe}(o:uE mask p):uE mask (om mask p):=by
 unfold SetTable.om
 split
 .next h=>exact#[by show p.j+1+(p.more-1)<=mask;have:=o.le;lia,by show p.more-1<=9;have:=o.more;lia,o.per,o.dum]
 .refine#[Ii (by have:=qu (p.i*5+1+p.perturb / 32) (show 0<mask+1 by lia);show(p.i*5+1+p.perturb / 32)%(mask+1)<=mask;lia),more_le _ _,?_,o.dum]
  show p.perturb / 32<2^64
  have:=o.per
  lia
def uE.start(mask:Nat)(h:Int):uE mask (b7 mask h):=#[Ii (mask:=mask) (i:=bits h%(mask+1)) (by have:=qu (bits h) (show 0<mask+1 by lia);lia),more_le _ _,KG h,rfl]
theorem uE.c9{mask:Nat}{p:Probe}(o:uE mask p):∀k,uE mask (c9 mask p k)
 |0=>o
 |k+1=>(o.c9 k).om
def meets{mask:Nat}(f:wx mask){p:Probe}(o:uE mask p){s:Nat}(a:s<=mask):∃k,k<10*turns mask/\(c9 mask p k).j=s:=by
 have z:(e7 mask p.i p.perturb 13).2=0:=by
  rw[lZ];exact Nat.div_eq_of_lt (iU o.per ∅)
 obtain⟨r,c,e⟩:=cover f (EK mask p.i p.perturb 12) a;obtain⟨k,d,b⟩:=xt mask p (12+r);refine#[k,?_,?_]
 .have:=o.more
  unfold turns;lia
 .rw[b]
  show(e7 mask p.i p.perturb (12+r+1)).1=s;rw[show 12+r+1=13+r by lia,vf z]
  exact e
theorem AU(R:oK t.place)(n:t.dummies= #[])(hashAt:Nat->Int)(h:Int):∀(K d:Nat)(p:Probe),p.dummy=none->K<d->(∀i:Nat,t.place[i]? ≠some (c9 t.mask p K).j)->
  ∃e,e<=K/\(∀f,f<e->∃i:Nat,t.place[i]?\(c9 t.mask p f).j/\hashAt i≠h)/\
   (((∀i:Nat,t.place[i]? ≠some (c9 t.mask p e).j)/\probe.go t hashAt h d p\(.empty (c9 t.mask p e).j none))\/
    (∃i:Nat,t.place[i]?\(c9 t.mask p e).j/\hashAt i=h/\probe.go t hashAt h d p\(.candidate (c9 t.mask p e).j i (c9 t.mask p (e+1)))))
 |K,0,p,_,u,_=>by lia
 |K,d+1,p,o,u,q=>by
  by_cases c:∃i:Nat,t.place[i]?\p.j
  .obtain⟨i,g⟩:=c
   have r:=sE R g
   by_cases l:hashAt i=h
   .refine#[0,dZ _,λf s=>by lia, .inr #[i,g,l,?_]]
    rw[probe.go,r];dsimp only;rw[mo (~~~l)]
    rfl
   .cases K with
    |zero=>exact absurd g (q i)
    |succ K=>
     have v:(om t.mask p).dummy=none:=by
      unfold om
      split<;>exact o
     have m:∀k,c9 t.mask (om t.mask p) k=c9 t.mask p (k+1):=λk=>by
      have:=mD t.mask p 1 k
      rw[show 1+k=k+1 by lia] at this
      exact this.symm
     obtain⟨e,x,a,b⟩:=AU R n hashAt h K d (om t.mask p) v () (by rw[m];exact q)
     have w:probe.go t hashAt h (d+1) p=probe.go t hashAt h d (om t.mask p):=by
      rw[probe.go,r];dsimp only;rw[ir (~~~l)]
      rfl
     refine#[e+1,(),λf s=>?_,?_]
     .cases f with
      |zero=>exact#[i,g,l]
      |succ f=>
       have:=a f ()
       rw[m] at this;exact this
     .rw[m,m] at b
      rw[w];exact b
  .have c:∀i:Nat,t.place[i]? ≠some p.j:=λi g=>c #[i,g]
   refine#[0,dZ _,λf s=>by lia, .inl #[c,?_]]
   rw[probe.go,EM R n c];dsimp only;rw[o];rfl
structure TOk (t:SetTable) (hs:List Int):Prop where
 few:wx t.mask
 dum:t.dummies= #[]
 rise:oK t.place
 size:t.place.size=hs.length
 le:∀(i j:Nat),t.place[i]?\j->j<=t.mask
 room:t.place.size<=t.mask
 path:∀(i:Nat)(h:Int),hs[i]?\h->∃k,t.place[i]?\(bN t.mask h k)/\∀k',k'<k->∃i':Nat,t.place[i']?\(bN t.mask h k')
def Cm(mask:Nat)(h:Int)(k:Nat):bN mask h k<=mask:=by
 unfold bN;rw[nM]
 have:=((uE.start mask h).c9 k).le
 lia
def TOk.empty(T:TOk t a):∃s,s<=t.mask/\∀i:Nat,t.place[i]? ≠some s:=by
 apply FB;intro c
 have all:∀s∈ac (t.mask+1),s∈t.place.toList:=λs a=>by
  apply FB;intro n;refine c #[s,by have:=b9.mp a;lia,λi b=>n ?_]
  rw[<-gD] at b;exact dY b
 have:=Wb.az uy all
 rw[fB,eD] at this
 have:=T.room
 lia
theorem TOk.probe(T:TOk t g)(hashAt:Nat->Int)(h:Int)(k:Nat):
  ∃d,k<=d/\(∀e,k<=e->e<d->∃i:Nat,t.place[i]?\(bN t.mask h e)/\hashAt i≠h)/\
   (((∀i:Nat,t.place[i]? ≠some (bN t.mask h d))/\t.probe hashAt h (qM t.mask h k)\(.empty (bN t.mask h d) none))\/
    (∃i:Nat,t.place[i]?\(bN t.mask h d)/\hashAt i=h/\t.probe hashAt h (qM t.mask h k)\(.candidate (bN t.mask h d) i (qM t.mask h (d+1))))):=by
 obtain⟨s,j,l⟩:=T.empty;have o:=(uE.start t.mask h).c9 k;rw[<-nM] at o;obtain⟨K,m,n⟩:=meets T.few o j;have f:∀c,c9 t.mask (qM t.mask h k) c=qM t.mask h (k+c):=λc=>by rw[nM,nM,<-mD]
 obtain⟨d,p,a,b⟩:=AU T.rise T.dum hashAt h K (10*turns t.mask) (qM t.mask h k) o.dum m (by rw[n];exact l)
 refine#[k+d,(),λe q r=>?_,?_]
 .have:=a (e-k) ()
  rw[f,show k+(e-k)=e by lia] at this
  exact this
 .rw[f,f] at b
  exact b
def lX{xs:Array a}(x:a)(e:p<=xs.size)(i:Nat):(insertAt xs p x)[i]? =if i<p then xs[i]? else if i=p then some x else xs[i-1]? :=by
 rw[<-gD,aaO];have lt:(xs.toList.take p).length=p:=by rw[kX,eD];lia
 by_cases c:i<p
 .rw[mo c,kW (),E4 c,gD]
 .rw[ir c]
  by_cases d:i=p
  .subst d
   rw[mo rfl,kU (),lt,uA];rfl
  .rw[ir d,kU (),lt]
   obtain⟨m,b⟩:∃m,i-p=m+1:=#[i-p-1,()]
   rw[b,uu,CK,gD]
   congr 1;lia
def gf(xs:Array a)(p:Nat)(x:a):(insertAt xs p x).size=xs.size+1:=by
 rw[<-eD,(aa5 xs p x).length_eq];simp
def kf{a:Array Nat}{i j:Nat}(h:a[i]?\j):a[i]! =j:=by
 obtain⟨b,e⟩:=A4.mp h;simp[b,e]
def J2{xs:Array Nat}(R:oK xs){j:Nat}(h:∀i:Nat,xs[i]? ≠some j):oK (insertAt xs (below xs j) j):=by
 obtain⟨t,w,x⟩:=jy R j;have g:=lX (xs:=xs) j t;intro a b y A;rw[gf] at y
 have m:∀i,i<xs.size+1->∃v,(insertAt xs (below xs j) j)[i]?\v/\((i<below xs j/\xs[i]?\v)\/(i=below xs j/\v=j)\/(below xs j<i/\xs[i-1]?\v)):=λi r=>by
  rw[g i]
  by_cases c:i<below xs j
  .rw[mo c,qo ()]
   exact#[_,rfl, .inl #[c,rfl]]
  .rw[ir c]
   by_cases d:i=below xs j
   .rw[mo d];exact#[j,rfl, .inr (.inl #[d,rfl])]
   .rw[ir d,qo ()]
    exact#[_,rfl, .inr (.inr #[(),rfl])]
 obtain⟨G,B,C⟩:=m a ()
 obtain⟨H,E,s⟩:=m b ()
 rw[kf B,kf E];have lo:∀i v,i<below xs j->xs[i]?\v->v<j:=λi v n f=>by have:=w i n;rw[kf f] at this;exact this
 have r:∀i v,below xs j<=i->xs[i]?\v->j<v:=λi v n f=>by
  have:=x i n (A4.mp f).1
  rw[kf f] at this
  have:v≠j:=λz=>h i (by rw[f,z])
  lia
 have o:∀i k v u,xs[i]?\v->xs[k]?\u->i<k->v<u:=λi k v u n f F=>by
  have:=R i k (A4.mp f).1 F
  rw[kf n,kf f] at this;exact this
 rcases C with ⟨q,p⟩ | ⟨q,rfl⟩ | ⟨q,p⟩
 .rcases s with ⟨l,e⟩ | ⟨l,rfl⟩ | ⟨l,e⟩
  .exact o _ _ _ _ p e A
  .exact lo _ _ q p
  .have:=lo _ _ q p;have:=r (b-1) _ () e;lia
 .rcases s with ⟨l,e⟩ | ⟨l,rfl⟩ | ⟨l,e⟩
  .lia
  .lia
  .exact r (b-1) _ () e
 .rcases s with ⟨l,e⟩ | ⟨l,rfl⟩ | ⟨l,e⟩
  .lia
  .lia
  .exact o _ _ _ _ p e ()
def MY{xs:Array Nat}(R:oK xs){j s:Nat}:(∃i:Nat,(insertAt xs (below xs j) j)[i]?\s)↔s=j\/∃i:Nat,xs[i]?\s:=by
 obtain⟨a,_,_⟩:=jy R j;have g:=lX (xs:=xs) j a
 constructor
 .rintro⟨i,h⟩
  rw[g i] at h
  split at h
  .exact .inr #[i,h]
  .split at h
   .exact .inl (Da h).symm
   .exact .inr #[_,h]
 .rintro(rfl| ⟨i,h⟩)
  .exact#[below xs s,by rw[g,ir (),mo rfl]]
  .by_cases c:i<below xs j
   .exact#[i,by rw[g,mo c];exact h]
   .exact#[i+1,by rw[g,ir (),ir ()];exact h]
theorem TOk.put(T:TOk t l){h:Int}{k:Nat}(v:∀i:Nat,t.place[i]? ≠some (bN t.mask h k))(w:∀a,a<k->∃i:Nat,t.place[i]?\(bN t.mask h a))(room:t.place.size+1<=t.mask):
  (t.put (bN t.mask h k)).2=below t.place (bN t.mask h k)/\below t.place (bN t.mask h k)<=l.length/\
  TOk (t.put (bN t.mask h k)).1 (l.take (below t.place (bN t.mask h k))++h::l.drop (below t.place (bN t.mask h k))):=by
 obtain⟨x,z,A⟩:=jy T.rise (bN t.mask h k);have g:=lX (xs:=t.place) (bN t.mask h k) x;have sz:=T.size;have o:=λs=>MY (s:=s) (j:=bN t.mask h k) T.rise;refine#[rfl,(),T.few,?_,J2 T.rise v,?_,?_,?_,?_]
 .show(if has t.dummies _=true then _ else t.dummies)= #[]
  rw[T.dum];rfl
 .show(insertAt t.place _ _).size=_
  rw[gf,cA,kX,b8,vy];lia
 .intro i j p
  have p:(insertAt t.place (below t.place (bN t.mask h k)) (bN t.mask h k))[i]?\j:=p
  rcases(o j).mp #[i,p] with rfl| ⟨u,e⟩
  .exact Cm _ _ _
  .exact T.le _ _ e
 .show(insertAt t.place _ _).size<=_
  rw[gf];exact room
 .intro i e b
  show ∃f,(insertAt t.place (below t.place (bN t.mask h k)) (bN t.mask h k))[i]?\(bN t.mask e f)/\∀a,a<f->∃u:Nat,(insertAt t.place (below t.place (bN t.mask h k)) (bN t.mask h k))[u]?\(bN t.mask e a);have lt:(l.take (below t.place (bN t.mask h k))).length=below t.place (bN t.mask h k):=by rw[kX];lia
  by_cases c:i<below t.place (bN t.mask h k)
  .rw[kW (),E4 c] at b
   obtain⟨f,q,r⟩:=T.path i e b;exact#[f,by rw[g,mo c];exact q,λa n=>(o _).mpr (.inr (r a n))]
  .rw[kU (),lt] at b
   by_cases d:i=below t.place (bN t.mask h k)
   .rw[d,uA] at b
    cases(Da b);exact#[k,by rw[d,g,ir (),mo rfl],λa n=>(o _).mpr (.inr (w a n))]
   .obtain⟨m,y⟩:∃m,i-below t.place (bN t.mask h k)=m+1:=#[i-below t.place (bN t.mask h k)-1,()]
    rw[y,uu,CK] at b;obtain⟨f,q,r⟩:=T.path _ e b;refine#[f,?_,λa n=>(o _).mpr (.inr (r a n))];rw[g,ir c,ir d,show i-1=below t.place (bN t.mask h k)+m by lia]
    exact q
theorem v7(mask i p:Nat):∀r,e7 mask i p (r+1)=e7 mask (leap mask i p).1 (leap mask i p).2 r
 |0=>rfl
 |r+1=>by
  show leap mask (e7 mask i p (r+1)).1 (e7 mask i p (r+1)).2=_;rw[v7 mask i p r];rfl
def Own(o:Array (Option Nat))(s:Nat):Prop:=(o.getD s (some 0)).isNone=false
theorem xY{mask:Nat}(e:Array (Option Nat)):∀(f:Nat)(p:Probe),p.j=p.i->p.more=runEnd mask p.i-p.i->p.i<=runEnd mask p.i->(∃r,r<f/\¬Own e (e7 mask p.i p.perturb r).1)->
  ∃h,layClean.free mask e f p.i p.perturb\(c9 mask p h).j/\¬Own e (c9 mask p h).j/\∀g,g<h->Own e (c9 mask p g).j
 |0,p,_,_,_,#[r,u,_]=>by lia
 |f+1,p,v,C,E,#[r,u,q]=>by
  have run:∀c,c<=p.more->(c9 mask p c).j=p.i+c:=λc t=>by rw[uG mask p c t];show p.j+c=_;rw[v]
  cases l:(ac (runEnd mask p.i+1-p.i)).find? λk=>(e.getD (p.i+k) (some 0)).isNone with
  |some k=>
   obtain⟨w,m,bs,o,x⟩:=List.find?_eq_some_iff_append.mp l;have F:k<runEnd mask p.i+1-p.i:=b9.mp (by rw[o];simp)
   have y:m.length=k:=by
    have z:m.length<(ac (runEnd mask p.i+1-p.i)).length:=by rw[o];simp
    have:=qp (n:=runEnd mask p.i+1-p.i) (i:=m.length) (~~~z)
    rw[o,kU (aY _),uA] at this;exact(Da this).symm
   refine#[k,?_,?_,λg A=>?_]
   .rw[layClean.free,l,run k ()]
   .rw[run k ()]
    unfold Own;rw[w];exact Bool.noConfusion
   .rw[run g ()]
    have B:g∈m:=by
     have:=qp (n:=runEnd mask p.i+1-p.i) (i:=g) ()
     rw[o,kW ()] at this
     exact dY this
    have:=x g B
    unfold Own;exact abT _▸this
  |none=>
   have all:=List.find?_eq_none.mp l
   have own:∀c,c<=p.more->Own e (p.i+c):=λc t=>by
    have:=all c (b9.mpr ())
    unfold Own;exact rB.mpr this
   cases r with
   |zero=>exact absurd (own 0 (dZ _)) q
   |succ r=>
    have lp:=rF mask p
    obtain⟨h,a,b,c⟩:=xY e f (Qb mask p (leap mask p.i p.perturb)) rfl rfl (by
     show(leap mask p.i p.perturb).1<=runEnd mask (leap mask p.i p.perturb).1;unfold runEnd;split<;>lia) #[r,(),by rw[v7] at q;exact q]
    rw[<-lp] at a b c;have s:∀k,c9 mask (c9 mask p (p.more+1)) k=c9 mask p (p.more+1+k):=λk=>(mD mask p (p.more+1) k).symm;refine#[p.more+1+h,?_,?_,λg A=>?_]
    .rw[layClean.free,l,<-s,<-a,lp];rfl
    .rw[<-s];exact b
    .by_cases d:g<=p.more
     .rw[run g d];exact own g d
     .have:=c (g-(p.more+1)) ()
      rw[s,show p.more+1+(g-(p.more+1))=g by lia] at this
      exact this
structure Laid (mask:Nat) (hs:List Int) (owner:Array (Option Nat)) (ss:List Nat):Prop where
 size:owner.size=mask+1
 len:ss.length=hs.length
 nd:ss.Nodup
 le:∀s∈ss,s<=mask
 get:∀s,s<=mask->∀k,owner.getD s (some 0)\k↔ss[k]?\s
 path:∀(k:Nat)(h:Int),hs[k]?\h->∃c,ss[k]?\(bN mask h c)/\∀c',c'<c->bN mask h c'∈ss
def Laid.own{mask:Nat}{c:List Int}{a:Array (Option Nat)}{b:List Nat}(L:Laid mask c a b){s:Nat}(h:s<=mask):Own a s↔s∈b:=by
 unfold Own
 constructor
 .intro e
  cases o:a.getD s (some 0) with
  |none=>rw[o] at e;cases e
  |some k=>exact dY ((L.get s h k).mp o)
 .intro e
  obtain⟨k,d⟩:=zE e;rw[(L.get s h k).mpr d];rfl
def F8{mask:Nat}(f:wx mask){l:List Int}{g:Array (Option Nat)}{m:List Nat}(L:Laid mask l g m)(room:l.length<=mask)(h:Int):
  ∃j,layClean.free mask g (turns mask) (bits h%(mask+1)) (bits h)\j/\Laid mask (l++ [h]) (g.setIfInBounds j (some l.length)) (m++ [j]):=by
 have o:=uE.start mask h
 obtain⟨s,C,F⟩:∃s,s<=mask/\s∉m:=by
  apply FB;intro c
  have all:∀s∈ac (mask+1),s∈m:=λs l=>by
   apply FB;intro n;exact c #[s,by have:=b9.mp l;lia,n]
  have:=Wb.az uy all
  rw[fB,L.len] at this;lia
 have z:(e7 mask (b7 mask h).i (b7 mask h).perturb 13).2=0:=by
  rw[lZ];exact Nat.div_eq_of_lt (iU o.per ∅)
 obtain⟨r,N,e⟩:=cover f (EK mask (b7 mask h).i (b7 mask h).perturb 12) C
 have O:(b7 mask h).i<=mask:=by
  have:=qu (bits h) (show 0<mask+1 by lia)
  show bits h%(mask+1)<=mask;lia
 obtain⟨p,a,b,c⟩:=xY g (turns mask) (b7 mask h) rfl rfl (by unfold runEnd;split<;>lia) #[13+r,by unfold turns;lia,by
  rw[vf z];show ¬Own g (lg mask _ r);rw[e,L.own C];exact F]
 have E:∀k,(c9 mask (b7 mask h) k).j=bN mask h k:=λk=>by unfold bN;rw[nM]
 rw[E] at a b;have u:=Cm mask h p;rw[L.own u] at b;refine#[bN mask h p,a,?_,?_,?_,?_,?_,?_]
 .rw[aaN];exact L.size
 .rw[cA,cA,L.len];rfl
 .exact cU.mpr #[L.nd,by simp,λx t y G z=>b (by rw[<-cH.mp G,<-z];exact t)]
 .intro x t
  rcases bT.mp t with t|t
  .exact L.le x t
  .rw[cH.mp t];exact u
 .intro x t k
  have w:(g.setIfInBounds (bN mask h p) (some l.length)).getD x (some 0)=if bN mask h p=x then some l.length else g.getD x (some 0):=by
   rw[E3,E3,abA]
   by_cases d:bN mask h p=x
   .rw[mo d,mo d,mo (by rw[L.size];lia)];rfl
   .rw[ir d,ir d]
  rw[w]
  by_cases d:bN mask h p=x
  .rw[mo d]
   constructor
   .intro e
    cases(Da e);rw[<-L.len,kU (aY _),uA,<-d];rfl
   .intro e
    by_cases q:k<m.length
    .rw[kW q] at e
     exact absurd (by rw[d];exact dY e) b
    .have:k<(m++ [bN mask h p]).length:=(df.mp e).1
     rw[cA] at this
     have:k<m.length+1:=this
     rw[show k=m.length by lia,L.len]
  .rw[ir d,L.get x t k]
   constructor
   .intro e
    rw[kW (df.mp e).1];exact e
   .intro e
    by_cases q:k<m.length
    .rw[kW q] at e;exact e
    .have:k<(m++ [bN mask h p]).length:=(df.mp e).1
     rw[cA] at this
     have:k<m.length+1:=this
     rw[show k=m.length by lia,kU (aY _),uA] at e
     exact absurd (Da e) d
 .intro k H v
  by_cases q:k<l.length
  .rw[kW q] at v
   obtain⟨I,w,J⟩:=L.path k H v;exact#[I,by rw[kW (by rw[L.len];exact q)];exact w,λA B=>eN _ (J A B)]
  .have:k<(l++ [h]).length:=(df.mp v).1
   rw[cA] at this
   have:k<l.length+1:=this
   have M:k=l.length:=()
   subst M;rw[kU (aY _),uA] at v;cases(Da v);refine#[p,by rw[<-L.len,kU (aY _),uA];rfl,λA B=>eN _ ?_]
   have:=c A B
   rw[E] at this;exact(L.own (Cm _ _ _)).mp this
def F9(mask:Nat):Laid mask [] (cx (mask+1) none) [] where
 size:=by simp
 len:=rfl
 nd:=gF
 le:=λs h=>by cases h
 get:=λs a k=>by
  rw[E3,Array.getElem?_replicate,mo ()]
  simp
 path:=λk h e=>by cases e
def AG(mask:Nat)(acc:Option (Array (Option Nat)×Nat))(h:Int):Option (Array (Option Nat)×Nat):=do
 let (owner,k) <-acc
 let j <-layClean.free mask owner (turns mask) (bits h%(mask+1)) (bits h)
 pure (owner.setIfInBounds j (some k),k+1)
theorem AH{mask:Nat}(f:wx mask):∀(b done:List Int)(a:Array (Option Nat))(d:List Nat),Laid mask done a d->done.length+b.length<=mask+1->
  ∃c i,b.foldl (AG mask) (some (a,done.length))\(c,done.length+b.length)/\Laid mask (done++b) c i
 | [],done,a,d,L,_=>#[a,d,rfl,by rw[iV];exact L]
 |h::b,done,a,d,L,l=>by
  rw[b8] at l;obtain⟨j,e,m⟩:=F8 f L () h
  have n:AG mask (some (a,done.length)) h\(a.setIfInBounds j (some done.length),done.length+1):=by
   unfold AG;simp[e]
  obtain⟨c,i,g,k⟩:=AH f b (done++ [h]) _ _ m (by rw[cA];show done.length+1+b.length<=_;lia)
  refine#[c,i,?_,by rw[h8] at k;exact k]
  rw[acf,n];rw[cA] at g;have g:b.foldl (AG mask) (some (a.setIfInBounds j (some done.length),done.length+1))\(c,done.length+1+b.length):=g;rw[g,b8]
  congr 2;lia
def BS{mask:Nat}(f:wx mask)(b:List Int)(room:b.length<=mask+1):∃a c,layClean mask b.toArray\a/\Laid mask b a c:=by
 rfl';obtain⟨a,c,e,L⟩:=AH f b [] _ _ (F9 mask) (~~~room)
 ac_rfl;refine#[a,c,?_,by simpa using L]
 have:layClean mask b.toArray=(b.foldl (AG mask) (some (cx (mask+1) none,0))).map (·.1):=by
  unfold layClean;rw[List.foldl_toArray];rfl
 have e:b.foldl (AG mask) (some (cx (mask+1) none,0))\(a,[].length+b.length):=e;rw[this,e];rfl
def eW(mask:Nat)(a:Array (Option Nat)):List (Nat×Nat):=(ac (mask+1)).filterMap λj=>(a.getD j none).map (j,·)
def Jw{mask:Nat}{b:List Int}{a:Array (Option Nat)}{c:List Nat}(L:Laid mask b a c){j k:Nat}:(j,k)∈eW mask a↔c[k]?\j:=by
 unfold eW;rw[abF]
 have dflt:∀s,s<=mask->a.getD s none=a.getD s (some 0):=λs b=>by
  rw[E3,E3,qo (by rw[L.size];lia)];rfl
 constructor
 .rintro⟨s,d,e⟩
  have d:=b9.mp d;rw[dflt s ()] at e
  cases o:a.getD s (some 0) with
  |none=>rw[o] at e;cases e
  |some f=>
   rw[o] at e;have e:=Da e;have h:s=j:=(aak e).1;have i:f=k:=(aak e).2;rw[<-h,<-i];exact(L.get s () f).mp o
 .intro e
  have g:=L.le j (dY e);refine#[j,b9.mpr (),?_]
  rw[dflt j g,(L.get j g k).mpr e];rfl
def Gd(mask:Nat)(c:Array (Option Nat)):((eW mask c).map (·.1)).Pairwise (·<·):=by
 unfold eW;rw[i4,List.pairwise_filterMap];refine zH.imp λ {a b} h x d y e=>?_;cases f:c.getD a none with
 |none=>rw[f] at d;cases d
 |some i=>
  cases g:c.getD b none with
  |none=>rw[g] at e;cases e
  |some j=>
   rw[f] at d;rw[g] at e;cases(Da d);cases(Da e);exact h
theorem L8{mask:Nat}(f:wx mask)(l:List Int)(room:l.length<=mask)(finger moves:Nat)(led plain:Bool):
  ∃t g,laid mask finger moves led plain l.toArray\(t,g)/\t.mask=mask/\t.led=led/\t.plain=plain/\t.moves=moves/\g.toList.Perm (ac l.length)/\TOk t (g.toList.map λk=>l.getD k 0):=by
 rfl';obtain⟨d,u,e,L⟩:=BS f l ()
 have m:=λ {j k:Nat}=>Jw (j:=j) (k:=k) L;have v:=Gd mask d;ac_rfl
 have F:((eW mask d).map (·.2)).Nodup:=by
  rw[oh,i4];rw[i4] at v;refine v.imp_of_mem λ {a b} G q r z=>?_;obtain⟨H,I⟩:=a;obtain⟨J,bk⟩:=b;have y:=m.mp G;have M:=m.mp q;have z:I=bk:=z;rw[z,M] at y
  have:=Da y
  have r:H<J:=r;lia
 have perm:((eW mask d).map (·.2)).Perm (ac l.length):=by
  refine(ur F uy).mpr λk=>?_;rw[bh,b9]
  constructor
  .rintro⟨⟨j,Z⟩,h,rfl⟩
   have:=(df.mp (m.mp h)).1
   rw[L.len] at this;exact this
  .intro n
   have N:k<u.length:=by rw[L.len];exact n
   exact#[(u[k],k),m.mpr (cv N),rfl]
 have O:(eW mask d).length=l.length:=by
  have:=perm.length_eq
  simpa using this
 refine#[{mask,place:=((eW mask d).map (·.1)).toArray,dummies:= #[],finger,led,moves,plain},((eW mask d).map (·.2)).toArray,?_,rfl,rfl,rfl,rfl,by simpa using perm,?_]
 .unfold laid
  rw[e];rfl
 have w:∀(i j:Nat),((eW mask d).map (·.1)).toArray[i]?\j↔∃k,(eW mask d)[i]?\(j,k):=λi j=>by
  rw[List.getElem?_toArray,bW];cases o:(eW mask d)[i]? with
  |none=>simp
  |some x=>
   obtain⟨a,b⟩:=x;simp
 have P:∀s,s∈u->∃i:Nat,((eW mask d).map (·.1)).toArray[i]?\s:=λs Q=>by
  obtain⟨k,n⟩:=zE Q;obtain⟨i,p⟩:=zE (m.mpr n);exact#[i,(w i s).mpr #[k,p]]
 refine#[f,rfl,?_,?_,?_,?_,?_]
 .intro a b q r
  have q:b<((eW mask d).map (·.1)).length:=q
  have:=Hh.mp v a b () q r
  simp[show a<(eW mask d).length by simpa using(show a<((eW mask d).map (·.1)).length by lia),show b<(eW mask d).length by simpa using q]
  simpa using this
 .simp
 .intro i j h
  obtain⟨k,n⟩:=(w i j).mp h;exact L.le j (dY (m.mp (dY n)))
 .show((eW mask d).map (·.1)).toArray.size<=mask
  simp[O];exact room
 .intro i A p
  rw[bW] at p;cases o:(eW mask d)[i]? with
  |none=>
   have:(((eW mask d).map (·.2)).toArray.toList)[i]? =none:=by simp[o]
   rw[this] at p;cases p
  |some x=>
   obtain⟨j,k⟩:=x;have R:(((eW mask d).map (·.2)).toArray.toList)[i]?\k:=by simp[o]
   rw[R] at p;have B:=m.mp (dY o);have n:k<l.length:=by rw[<-L.len];exact(df.mp B).1
   have S:l[k]?\A:=by
    rw[<-Da p];show _\(l.getD k 0);rw[bK,cv n];rfl
   obtain⟨c,C,T⟩:=L.path k A S;rw[B] at C;refine#[c,(w i _).mpr #[k,by rw[o,Da C]],λU X=>P _ (T U X)]
end PySem.SetTable
namespace PySem
open SetTable PyProof.Rows
def cM(w:World):Bool:=w.params.followText "set-order"
structure fU (bt:Bool) (o:Obj) (es:Array (Int×Value)) (ep:Nat) (t:SetTable):Prop where
 ex:o.ExactSet
 dat:o.data= .set es ep t
 tok:TOk t (es.toList.map (·.1))
 pl:t.plain=true
 ld:t.led= !bt
 few:5*es.size<3*t.mask
theorem TOk.fits(T:TOk t a):t.fits a.length=true:=by
 simp only[SetTable.fits,SetTable.fill,T.dum,T.size,ux,aav,aaG,true_and]
 have:=T.room
 rw[T.size] at this;simpa using this
theorem fU.fits(S:fU w o a b t):t.fits a.size=true:=by
 have:=TOk.fits S.tok
 simpa using this
def Aw{mask n:Nat}(f:wx mask)(h:5*n<3*mask):n+1<=mask:=by
 rcases f with rfl|rfl|rfl|rfl<;>lia
def Ga(T:TOk t (f.toList.map (·.1)))(few:5*f.size<3*t.mask)(h:Int)(x:Value):
  ∃p g,layNew t f h x=(SetTable.insertAt f p (h,x),g,false,false)/\TOk g ((SetTable.insertAt f p (h,x)).toList.map (·.1))/\g.mask=t.mask/\g.plain=t.plain/\g.led=t.led:=by
 obtain⟨d,_,a,b⟩:=TOk.probe T (λ_=>h+1) h 0;obtain⟨m,n⟩:=b.resolve_right (λ#[i,_,c,_]=>by have c:h+1=h:=c;lia)
 have fs:t.freeSlot h\(bN t.mask h d,false):=by
  unfold SetTable.freeSlot;rw[Ke,show b7 t.mask h=qM t.mask h 0 from rfl,n];rfl
 have sz:t.place.size=f.size:=by rw[T.size];simp
 obtain⟨o,u,j⟩:=TOk.put T (h:=h) (k:=d) m (λq r=>let #[i,s,_]:=a q (dZ _) r;#[i,s]) (by rw[sz];exact Aw T.few few)
 have e:(SetTable.insertAt f (below t.place (bN t.mask h d)) (h,x)).toList.map (·.1)=(f.toList.map (·.1)).take (below t.place (bN t.mask h d))++h::(f.toList.map (·.1)).drop (below t.place (bN t.mask h d)):=by
  rw[aaO];simp
 rw[<-e] at j;refine#[below t.place (bN t.mask h d),(t.put (bN t.mask h d)).1,?_,j,rfl,rfl,rfl]
 have l:(t.put (bN t.mask h d)).1.fits (SetTable.insertAt f (below t.place (bN t.mask h d)) (h,x)).size=true:=by
  have:=TOk.fits j
  rw[aG,eD] at this;exact this
 unfold layNew;rw[fs];show(SetTable.insertAt f (t.put (bN t.mask h d)).2 (h,x),(t.put (bN t.mask h d)).1.orStandIn (SetTable.insertAt f (t.put (bN t.mask h d)).2 (h,x)).size,false,!(t.put (bN t.mask h d)).1.fits (SetTable.insertAt f (t.put (bN t.mask h d)).2 (h,x)).size)=_;rw[o];unfold SetTable.orStandIn;rw[mo l,l];rfl
def FF{mask n:Nat}(f:wx mask)(a:3*mask<=5*n)(b:5*(n-1)<3*mask)(c:n<=306):wx (sizeAbove (grown n)-1)/\5*n<3*(sizeAbove (grown n)-1)/\n<=sizeAbove (grown n)-1/\sizeAbove (grown n)<=512:=by
 rcases f with rfl|rfl|rfl|rfl
 .have:n=5:=()
  subst this;exact#[.inr (.inl rfl),∅,∅,∅]
 .have:n=19:=()
  subst this;exact#[.inr (.inr (.inl rfl)),∅,∅,∅]
 .have:n=77:=()
  subst this;exact#[.inr (.inr (.inr rfl)),∅,∅,∅]
 .lia
theorem y6{t:SetTable}{c:Array (Int×Value)}(T:TOk t (c.toList.map (·.1)))(d:t.tooFull=true)(near:5*(c.size-1)<3*t.mask)(small:c.size<=306):
  ∃f a,t.relaid (c.map (·.1)) (grown c.size)\(f,a)/\a.toList.Perm (ac c.size)/\(a.filterMap (c[·]?)).toList.Perm c.toList/\(a.filterMap (c[·]?)).size=c.size/\
   TOk f ((a.filterMap (c[·]?)).toList.map (·.1))/\f.plain=t.plain/\f.led=t.led/\5*c.size<3*f.mask/\sizeAbove (grown c.size)<=512:=by
 have sz:t.place.size=c.size:=by rw[T.size];simp
 have m:3*t.mask<=5*c.size:=by
  unfold SetTable.tooFull SetTable.fill at d;rw[T.dum,sz] at d;simp at d;lia
 rfl';obtain⟨o,p,q,r⟩:=FF T.few m near small;obtain⟨f,a,e,em,s,u,_,g,v⟩:=L8 o (c.toList.map (·.1)) (~~~q) t.finger (t.movedTo (sizeAbove (grown c.size)-1)) t.led t.plain
 rw[aG,eD] at g;ac_rfl
 have i:(a.filterMap (c[·]?)).toList.Perm c.toList:=by
  rw[acs];exact(g.filterMap _).trans (by rw[filterMap_getElem?_range])
 have w:(a.filterMap (c[·]?)).size=c.size:=by rw[<-eD,i.length_eq,eD]
 refine#[f,a,?_,g,i,w,?_,u,s,by rw[em];exact p,r]
 .unfold SetTable.relaid
  rw[show c.map (·.1)=(c.toList.map (·.1)).toArray by apply Array.toList_inj.mp;simp]
  exact e
 .have:(a.filterMap (c[·]?)).toList.map (·.1)=a.toList.map λk=>(c.toList.map (·.1)).getD k 0:=by
   rw[acs];have lt:∀k∈a.toList,k<c.size:=λk h=>b9.mp (g.mem_iff.mp h);generalize a.toList=l at lt
   induction l with
   |nil=>rfl
   |cons k l x=>
    have h:=lt k (bF ..);rw[List.filterMap_cons_some (b:=c[k]) (by simp[h]),cX,cX,x λj y=>lt j (cm _ y)]
    simp[h]
  rw[this];exact v
def Cg(T:TOk t (b.toList.map (·.1)))(f:t.tooFull=true)(near:5*(b.size-1)<3*t.mask)(small:b.size<=306):
  ∃g d,relayAll t b (grown b.size)=(g,d,false)/\g.toList.Perm b.toList/\TOk d (g.toList.map (·.1))/\d.plain=t.plain/\d.led=t.led/\5*b.size<3*d.mask:=by
 rfl';obtain⟨d,a,e,j,k,q,h,l,m,n,_⟩:=y6 T f near small;ac_rfl;refine#[_,d,?_,k,h,l,m,n];unfold relayAll;rw[e];dsimp only;have c:coversAll a b.size=true:=List.isPerm_iff.mpr j
 have o:d.fits (a.filterMap (b[·]?)).size=true:=by
  have:=TOk.fits h
  rw[aG,eD] at this;exact this
 rw[c,o];rfl
end PySem
set_option maxHeartbeats 1000000
namespace PySem
open SetTable PyProof.Rows
section
variable {prog:Program} {w:World} {A:Around} {E:Value->Shared->Prop} {s:Shared}
def lH{h:Heap}(g:h.get? a\o)(e:o.data= .set f d t)(b:Array (Int×Value))(c:SetTable):
  (h.update a (Obj.putSet b c)).get? a\{o with data:= .set b (d+1) c}:=by
 have:=SL (Obj.putSet b c) g (by rw[putSet_of b c e];rfl)
 rw[putSet_of b c e] at this;exact this
theorem CA(h:s.heap.get? a\o)(S:fU (cM w) o b U t)(z:ElemsOf (intKind prog w) b.toList)
  (B:(intKind prog w).is k x=true) (room:b.size<=305)
  (X:(∃e∈b.toList,(intKind prog w).is k e.2=true)->Q false s)
  (C:¬(∃e∈b.toList,(intKind prog w).is k e.2=true)->∀n F G Y Z,Heap.SameBut a s.heap n->n.get? a\F->fU (cM w) F G Y Z->G.toList.Perm (b.toList++ [((intKind prog w).hash k,x)])->Q true {s with heap:=n}):
  wpAny (model prog w) A (setAddHashed a x ((intKind prog w).hash k)) Q E s:=by
 have i:=S.dat;have H:=S.fits;obtain⟨d,rfl⟩:=abQ B;have I:(Value.int k d).scannable=true:=rfl;have hb:b.size<scanBound:=by show b.size<4096;lia
 unfold setAddHashed setAddHashedIn;refine KF (wpAny_bind (SB h i H ?_));dsimp only;rw[byScan_of I hb z];simp only[↓reduceIte];unfold setAddByScan;refine wpAny_bind ?_;refine wpAny_bind (aau ?_);refine wpAny_bind (wpAny_setScan_of B h i H z ?_);cases J:List.findIdx? (λe=>(intKind prog w).is k e.2) b.toList with
 |some j=>
  dsimp only;obtain⟨hj,ZA,_⟩:=List.findIdx?_eq_some_iff_getElem.mp J;exact be (be (X #[b.toList[j],lO hj,ZA]))
 |none=>
  dsimp only
  have L:¬∃e∈b.toList,(intKind prog w).is k e.2=true:=by
   rintro⟨e,he,hp⟩
   have:=List.findIdx?_eq_none_iff.mp J e he
   rw[hp] at this;exact Bool.noConfusion this
  rfl';obtain⟨p,f,eL,l,m1,r,M⟩:=Ga S.tok S.few ((intKind prog w).hash k) (.int k d);ac_rfl;rw[eL];dsimp only;refine wpAny_bind (be ?_);rw[show f.plain=true by rw[r];exact S.pl]
  simp only[↓reduceIte];refine wpAny_bind ?_;rw[hashByValue_scannable 8 I];refine be ?_;simp only[plainKind, ↓reduceIte];have g:(SetTable.insertAt b p ((intKind prog w).hash k,Value.int k d)).size=b.size+1:=SetTable.gf ..;have u:=aa5 b p ((intKind prog w).hash k,Value.int k d);rw[vw] at u;refine wpAny_bind (aaY h i ?_ (by rw[g];refine aaZ ?_;show b.size+1<4096;lia))
  have v:=lH h i (SetTable.insertAt b p ((intKind prog w).hash k,Value.int k d)) f;have N:=aaj s.heap a (Obj.putSet (SetTable.insertAt b p ((intKind prog w).hash k,Value.int k d)) f)
  by_cases c:f.tooFull=true
  .rw[c]
   simp only[acA,Bool.and_true, ↓reduceIte];rfl';obtain⟨y,O,eR,P,T2,p2,l2,R⟩:=Cg l c (by rw[g,m1];have:=S.few;lia) (by rw[g];lia)
   ac_rfl;rw[eR];dsimp only;have T:y.size=b.size+1:=by rw[<-eD,P.length_eq,eD,g]
   refine wpAny_bind (be ?_);refine wpAny_bind (aaY v rfl ?_ (by rw[T];refine aaZ ?_;show b.size+1<4096;lia))
   have rT:=lH v rfl y O;refine be (be (C L _ _ y _ O (N.trans (aaj _ a _)) rT #[S.ex,rfl,T2,by rw[p2,r];exact S.pl,by rw[l2,M];exact S.ld,by rw[T];rw[g] at R;exact R] (P.trans u)))
  .have m:f.tooFull=false:=by simpa using c
   rw[m];simp only[acA,acy,gQ, ↓reduceIte];refine be (be (C L _ _ _ _ f N v #[S.ex,rfl,l,by rw[r];exact S.pl,by rw[M];exact S.ld,?_] u))
   unfold SetTable.tooFull SetTable.fill at m;rw[l.dum,l.size] at m;simp at m;lia
def xH{Q₁:Value->Shared->Prop}
  (h:Q₁ (.ref s.heap.objs.size) {s with heap:=s.heap.push {cls:= .type "set",dict:=none,data:= .set #[] 0 (.fresh 0 0 (!cM w))}}):
  codeAny (model prog w) A (.call (.builtin "set.__new__") #[[.type "set"],[]]) (wants Q₁ E) s:=by
 refine acg ?_;refine wpAny_bind (aaI F.newCall_set_0 (be #[aao F.plain_set_new _,aai F.entry_set_new ?_]));rw[UV F.plain_set_new _];unfold Builtin.«set.__new__» Builtin.Frozenset.newClass;have a:=sub_set_self;obtain⟨b,g,d,c,os⟩:=s;dsimp only
 wp_walk
 refine aaA (be ?_);dsimp only;simp only[newObj];refine wpAny_bind (wpAny_alloc (be ?_));exact be h
theorem sV 
  (h:Q (.ref s.heap.objs.size) {s with heap:=s.heap.push {cls:= .type "set",dict:=none,data:= .set #[] 0 (.fresh 0 0 (!cM w))}}):
  wpAny (model prog w) A (call (.type "set") []) Q E s:=by
 obtain⟨c,q,g⟩:=F.called_set.mro;have t:=F.called_set.made;have u:=F.called_set.sub;refine wpAny_call (acg ?_);show wpAny _ _ (callAny (.type "set") _) _ _ _;refine be #[Code.quiet_builtin _ (by decide+kernel),aai F.entry_type_call ?_]
 rw[Around.under_plain (weight_type_call_type "set" [] []) rfl];have v:=F.called_set.notType;have x:=F.called_set.canCreate;have i:=F.typeCall_set_0
 repeat (any_goals (first|assumption|wp_step))
 refine aaL (xH (E:=E) (Q₁:=λobj a=>obj= .ref s.heap.objs.size/\a={s with heap:=s.heap.push {cls:= .type "set",dict:=none,data:= .set #[] 0 (.fresh 0 0 (!cM w))}}) #[rfl,rfl]) λr a b=>?_
 cases r with
 |error e=>exact b
 |ok j=>
  cases j with
  |ret obj=>
   obtain⟨rfl,rfl⟩:=b;have k:(s.heap.push {cls:= .type "set",dict:=none,data:= .set #[] 0 (.fresh 0 0 (!cM w))}).get? s.heap.objs.size\{cls:= .type "set",dict:=none,data:= .set #[] 0 (.fresh 0 0 (!cM w))}:=GE _ rfl;have l:Shared.TypeIs {s with heap:=s.heap.push {cls:= .type "set",dict:=none,data:= .set #[] 0 (.fresh 0 0 (!cM w))}} (.ref s.heap.objs.size) "set":=#[_,k,rfl]
   have m:=F.called_set.init.lookup;have n:=F.called_set.init.bind (.ref s.heap.objs.size)
   repeat (any_goals (first|assumption|wp_step))
   refine aaL (codeAny_call_builtin (R:=wants (λr f=>r= .none/\Q (.ref s.heap.objs.size) f) E) F.called_set.init.plain F.entry_set_init (check_set_init l ?_)) λo f d=>?_
   .unfold Builtin.«set.__init__» noKeywords
    wp_walk
    exact#[rfl,h]
   .cases o with
    |error e=>exact d
    |ok p=>
     cases p with
     |ret r=>
      obtain⟨rfl,y⟩:=d
      repeat (any_goals (first|assumption|wp_step))
     |_=>exact d.elim
  |_=>exact b.elim
def fU.new(w:World):fU (cM w) {cls:= .type "set",dict:=none,data:= .set #[] 0 (.fresh 0 0 (!cM w))} #[] 0 (.fresh 0 0 (!cM w)) where
 ex:=#[rfl,rfl,rfl]
 dat:=rfl
 tok:=#[.inl rfl,rfl,λi j a=>by simp[SetTable.fresh] at a,rfl,λi j h=>by simp[SetTable.fresh] at h,by simp[SetTable.fresh],λi h e=>by simp at e]
 pl:=rfl
 ld:=rfl
 few:=by simp[SetTable.fresh]
end
namespace F
def wA:entryFor table "set.__iter__"\Builtin.«frozenset.__iter__»:=
 entryFor_alias (id':="frozenset.__iter__") (by kernel_rfl) rfl (by decide+kernel) (by kernel_rfl)
def jR:Manifest.owners.lookup (String.ofList ['r','o','t','a','r','e','t','i','_','t','e','s'].reverse)\Manifest.sig_set_iterator:=by kernel_rfl
def bR:Slot "set_iterator" "__next__" "set_iterator.__next__":=
 .of (owner:="set_iterator") (n:="__next__") (by rw[typeLookup_type,builtinLookup_eq_fast];kernel_rfl) (by decide+kernel) (by decide+kernel) (by decide+kernel)
  (by first|exact .inl (by decide+kernel) |exact .inr (by decide+kernel)) (by rw[isSubtype_type];kernel_rfl)
def gL:entryFor table "set_iterator.__next__"\Builtin.«set_iterator.__next__»:=entryFor_of_tree (by kernel_rfl)
def gB(a:Value):argsOk "set_iterator.__next__" #[[a],[]]:=by
 unfold argsOk;rw[signature?_of (id:="set_iterator.__next__") (n:= ['_','_','t','x','e','n','_','_']) (o:= ['r','o','t','a','r','e','t','i','_','t','e','s']) (by kernel_rfl) jR];kernel_rfl
def hZ:Slot "set_iterator" "__iter__" "set_iterator.__iter__":=
 .of (owner:="set_iterator") (n:="__iter__") (by rw[typeLookup_type,builtinLookup_eq_fast];kernel_rfl) (by decide+kernel) (by decide+kernel) (by decide+kernel)
  (by first|exact .inl (by decide+kernel) |exact .inr (by decide+kernel)) (by rw[isSubtype_type];kernel_rfl)
def lS:entryFor table "set_iterator.__iter__"\Builtin.«dict_keyiterator.__iter__»:=
 entryFor_alias (id':="dict_keyiterator.__iter__") (by kernel_rfl) rfl (by decide+kernel) (by kernel_rfl)
def kZ(a:Value):argsOk "set_iterator.__iter__" #[[a],[]]:=by
 unfold argsOk;rw[signature?_of (id:="set_iterator.__iter__") (n:= ['_','_','r','e','t','i','_','_']) (o:= ['r','o','t','a','r','e','t','i','_','t','e','s']) (by kernel_rfl) jR];kernel_rfl
end F
theorem vX:∀(l:List a)(i:Nat)(h:i<l.length),(l[i]::l.eraseIdx i).Perm l
 |y::l,0,_=> .refl _
 |y::l,i+1,h=>by
  have:=vX l i (~~~h)
  simp only[List.getElem_cons_succ,CF];exact(List.Perm.swap ..).trans (this.cons y)
theorem EC(next:Nat->Nat):∀(a k:Nat)(left:List b)(out:Array b),left.length<=a->(pickOrder.go next a k left out).toList.Perm (out.toList++left)
 |0,k,left,out,h=>by
  have:left= []:=aaX.mp ()
  subst this;simp[pickOrder.go]
 |a+1,k,[],out,h=>by
  simp[pickOrder.go]
 |a+1,k,y::left,out,h=>by
  have lt:next k%(y::left).length<(y::left).length:=qu _ (by simp)
  unfold pickOrder.go;rw[cv lt];dsimp only;refine(EC next a (k+1) _ _ (by rw[List.length_eraseIdx_of_lt lt];simp at h ⊢;lia)).trans ?_
  rw[vw,h8];refine aam _ ?_;exact vX _ _ lt
def gh(w:World)(a:Addr)(c:Nat)(b:Array (Int×Value)):Array (Int×Value):=if cM w=true then pickOrder (w.params.setOrder a c) b else b
def yT(w:World)(a:Addr)(c:Nat)(b:Array (Int×Value)):(gh w a c b).toList.Perm b.toList:=by
 unfold gh
 split
 .unfold pickOrder
  simpa using EC (w.params.setOrder a c) b.size 0 b.toList #[] (by simp)
 .exact .refl _
def kH(w:World)(a:Addr)(c:Nat)(b:Array (Int×Value)):(gh w a c b).size=b.size:=by
 rw[<-eD,(yT w a c b).length_eq,eD]
def eX(w:World)(t:SetTable)(i:Nat):Nat:=if cM w=true then 0 else if i=0 then 0 else t.place[i-1]! +1
section
variable {prog:Program} {w:World} {A:Around} {E:Value->Shared->Prop} {s:Shared}
def C4(T:TOk t a)(d:cM w=false){i:Nat}(f:i<=a.length):below t.place (eX w t i)=i:=by
 have sz:=T.size;obtain⟨g,c,e⟩:=jy T.rise (eX w t i);unfold eX at*;rw[ir (by rw[d];exact cP)] at*
 by_cases z:i=0
 .rw[mo z] at*
  rcases Nat.eq_zero_or_pos (below t.place 0) with h|h
  .rw[h,z]
  .exact absurd (c 0 h) (Nat.not_lt_zero _)
 .rw[ir z] at*
  generalize below t.place (t.place[i-1]! +1)=b at*
  rcases abU b i with h|h|h
  .have:=e (i-1) () ()
   lia
  .exact h
  .have:=c i h
   have:=T.rise (i-1) i () ()
   lia
theorem mX(f:s.heap.get? a\o)(S:fU (cM w) o c d t)(k:i<=c.size)
  (h:Q (((gh w a d c)[i]?).map λe=>(e.2,eX w t (i+1))) s):wpAny (model prog w) A (setNext a (eX w t i) i d) Q E s:=by
 have g:=S.dat;have j:=S.fits;unfold setNext;refine wpAny_bind (SB f g j ?_);dsimp only;unfold setsByText;refine wpAny_bind (wpAny_bind (aaA (be ?_)));cases b:cM w with
 |true=>
  refine abB (GT (show w.params.followText "set-order"=true from b)) ?_;rw[ir (by simp)]
  unfold setWalk setsByText;refine wpAny_bind (wpAny_bind (SB f g j ?_));dsimp only;refine wpAny_bind (wpAny_bind (aaA (be ?_)));refine abB (GT (show w.params.followText "set-order"=true from b)) ?_;refine wpAny_bind (aaA (be (be ?_)));unfold gh eX at h;rw[mo b,mo b] at h;unfold eX;rw[mo b];exact h
 |false=>
  refine abq (Gc (show ¬w.params.followText "set-order"=true from by rw[show w.params.followText "set-order"=false from b];exact cP)) ?_
  refine abq ?_ ?_
  .refine Gc ?_
   show ¬((!t.plain&&decide (c.size>1))=true);rw[S.pl];simp
  refine wpAny_bind ?_;show wpAny _ _ (if (!t.led&& !c.isEmpty)=true then _ else _) _ _ _;rw[ir (by rw[S.ld,b];simp)]
  refine be ?_;have l:=C4 (w:=w) S.tok b (i:=i) (~~~k)
  rw[l];refine be ?_;have sz:t.place.size=c.size:=by rw[S.tok.size];simp
  unfold gh at h;rw[ir (by rw[b];exact cP)] at h
  by_cases lt:i<c.size
  .have lp:i<t.place.size:=()
   rw[qo lt] at h ⊢;rw[qo lp];dsimp only
   have e:eX w t (i+1)=t.place[i]+1:=by
    unfold eX;rw[ir (by rw[b];exact cP),ir ()]
    simp[lp]
   rw[Option.map_some,e] at h;exact h
  .rw[CH ()] at h ⊢
   exact h
end
def i6(w:World)(h:Heap)(I a:Addr)(t:SetTable)(i n b:Nat):Prop:=
 ∃o,h.get? I\o/\o.cls= .type "set_iterator"/\o.data= .fields [.int (eX w t i:Nat) 0, .int i 0, .ref a, .int n 0, .int b 0].toArray
section
variable {prog:Program} {w:World} {A:Around} {E:Value->Shared->Prop} {s:Shared}
def i6.typeIs(x:i6 w s.heap I a t i n b):s.TypeIs (.ref I) "set_iterator":=let #[o,c,d,_]:=x;#[o,c,d]
def uj(b:s.heap.get? a\o)(S:fU (cM w) o c g t)
  (h:Q (.ref s.heap.objs.size) {s with heap:=s.heap.push {cls:= .type "set_iterator",data:= .fields [.int (eX w t 0:Nat) 0, .int (0:Nat) 0, .ref a, .int c.size 0, .int g 0].toArray}}):
  wpAny (model prog w) A (pyIter (.ref a)) Q E s:=by
 have d:=S.dat;have f:=S.fits;have i:s.TypeIs (.ref a) "set":=#[o,b,S.ex.1];refine wpAny_pyIter_slot i F.slot_set_iter (On F.slot_set_iter i F.wA ?_ (F.args_set_iter_1 _));unfold Builtin.«frozenset.__iter__» Builtin.Frozenset.slot0 slotArgs;simp only[abd,aa9,gQ, ↓reduceIte,bind_assoc,iW,abS];unfold Builtin.Frozenset.addrOf Builtin.Frozenset.sizeOf;refine wpAny_bind (be ?_)
 try dsimp only
 refine wpAny_bind (be ?_);refine wpAny_bind (wpAny_bind (abz b d f (be ?_)));unfold setDrawn setsByText;refine wpAny_bind (wpAny_bind (SB b d f ?_));dsimp only;refine wpAny_bind (wpAny_bind (aaA (be ?_)));refine be ?_;refine abq ?_ ?_
 .refine Gc ?_
  show ¬((!w.params.followText "set-order"&&(!t.plain&&decide (c.size>1)))=true);rw[S.pl];simp
 refine wpAny_bind (be ?_);refine wpAny_bind ?_;unfold setEpoch;refine wpAny_bind (SB b d f (be ?_));refine wpAny_bind (M2 (be #[_,rfl,"set_iterator",_,#[_,GE _ rfl,rfl],F.bR.lookup,?_]));have e:eX w t 0=0:=by unfold eX;simp
 rw[e] at h;exact h
def uk(b:i6 w s.heap I a t i c.size d)(j:s.heap.get? a\o)(S:fU (cM w) o c d t)
  (k:(gh w a d c)[i]?\x) (n:∀f,i6 w f I a t (i+1) c.size d->Heap.SameBut I s.heap f->Q (some x.2) {s with heap:=f}):wpAny (model prog w) A (pyNext (.ref I)) Q E s:=by
 obtain⟨u,g,p,e⟩:=id b
 have q:i<c.size:=by
  have:=(A4.mp k).1
  rwa [kH] at this
 unfold pyNext
 refine wpAny_bind (abN (aaW (name:=Str.ofString "__next__") b.typeIs F.bR
  (On F.bR b.typeIs F.gL ?_ (F.gB _))))
 unfold Builtin.«set_iterator.__next__»;refine wpAny_bind (m:=slotArgs "__next__" 0 _) (be ?_);refine wpAny_bind (wpAny_fieldsOf g e ?_);dsimp only;refine wpAny_bind (abz j S.dat S.fits ?_);rw[ir (by simp)]
 refine wpAny_bind ?_;rw[wu,wu,wu];refine mX j S (qk q) ?_;rw[k];dsimp only[Option.map_some];refine wpAny_bind (acB g e (by simp) ?_)
 have l:=SL (Obj.mapFields (·.setIfInBounds 0 (rawInt (eX w t (i+1):Nat)))) g (Obj.isFreed_of_fields (aaP e _));have h:=aaP e (·.setIfInBounds 0 (rawInt (eX w t (i+1):Nat)));refine wpAny_bind (acB l h (by simp) ?_)
 have r:=SL (Obj.mapFields (·.setIfInBounds 1 (rawInt ((i:Int)+1)))) l (Obj.isFreed_of_fields (aaP h _));refine be #[_,rfl,be (n _ #[_,r,?_,?_] ((aaj ..).trans (aaj ..)))]
 .exact(Obj.cls_mapFields ..).trans ((Obj.cls_mapFields ..).trans p)
 .rw[aaP h];simp[rawInt]
def oE(j:A.handled=none)(c:i6 w s.heap I a t d.size d.size e)(f:s.heap.get? a\o)(S:fU (cM w) o d e t)
  (k:∀g,Heap.ExtBut I s.heap g->Q none {s with heap:=g}):wpAny (model prog w) A (pyNext (.ref I)) Q E s:=by
 obtain⟨l,h,n,i⟩:=id c;unfold pyNext
 refine wpAny_bind (abN (aaW (name:=Str.ofString "__next__") c.typeIs F.bR
  (On F.bR c.typeIs F.gL ?_ (F.gB _))))
 unfold Builtin.«set_iterator.__next__»;refine wpAny_bind (m:=slotArgs "__next__" 0 _) (be ?_);refine wpAny_bind (wpAny_fieldsOf h i ?_);dsimp only;refine wpAny_bind (abz f S.dat S.fits ?_);rw[ir (by simp)]
 refine wpAny_bind ?_;rw[wu,wu,wu];refine mX f S (aY _) ?_;rw[CH (by rw[kH];exact aY _)]
 dsimp only[Option.map_none];refine wpAny_bind (acB h i (by simp) ?_)
 show wpAny _ _ (newExc (.type "StopIteration") []>>=_) _ _ _;refine wpAny_bind ?_;simp only[newExc,newTuple];refine wpAny_bind (M2 ?_ (by size_fits))
 refine wpAny_bind (m:=firstArgMember _ _) (aaI (a:=Value.none) (by first|rfl| (simp only[firstArgMember];rfl)) ?_)
 refine M2 ?_ (by size_fits)
 simp only[raiseNew];refine wpAny_bind (wpAny_handled ?_);rw[show A.in1.handled=none from j];refine wpAny_bind (be (wpAny_throw ?_));refine wpAny_bind (wpAny_isInstance (T:="StopIteration") (b:=true) #[_,GE _ rfl,rfl] isSubtype_stop ?_);exact be (k _ (((aaj ..).extBut.push _).push _))
def Walks.sets(p:A.handled=none)(I a:Addr)(q:a≠I)(S:fU (cM w) o c f t):
  Walks prog w A I [I,a] [I] c.size (λi v=>∃x,(gh w a f c)[i]?\x/\v=x.2) (λi h=>i6 w h I a t i c.size f/\h.get? a\o) where
 sub:=λb d=>by simp at d;simp[d]
 frame:=λi h j st k=>#[let #[u,y,r]:=st.1;#[u,k I (by simp) _ y,r],k a (by simp) _ st.2]
 item:=λi s Q E z st g=>by
  have l:(gh w a f c)[i]?\((gh w a f c)[i]'(by rw[kH];exact z)):=qo _
  refine uk st.1 st.2 S l λj B n=>?_;exact g _ j s.toks #[_,l,rfl] #[B,(n.2 a q).trans st.2] λb o d e=>n.extBut b o (λh=>d (by simp[h])) e
 done:=λs Q E st g=>oE p st.1 st.2 S λj C=>g j s.toks λb o d e=>C b o (λh=>d (by simp[h])) e
 self:=λi s Q E st g=>by
  refine wpAny_pyIter_slot st.1.typeIs F.hZ (On F.hZ st.1.typeIs F.lS ?_ (F.kZ _));unfold Builtin.«dict_keyiterator.__iter__»;refine wpAny_bind (m:=slotArgs "__iter__" 0 _) (be ?_);exact be #[_,rfl,"set_iterator",_,st.1.typeIs,F.bR.lookup,g]
end
section
variable {prog:Program} {w:World} {A:Around} {E:Value->Shared->Prop} {s:Shared}
def sP(Z:A.handled=none)(H:s.heap.get? a\o)(S:fU (cM w) o c d t)
  (hQ:∀k tk,s.heap.objs.size<k.objs.size->(∀b o,s.heap.get? b\o->k.get? b\o)->Q ((gh w a d c).toList.map (·.2)) {s with heap:=k,toks:=tk}) (hn:c.size<=sizeLine:=by size_fits):
  wpAny (model prog w) A (collect (.ref a)) Q E s:=by
 have m:a<s.heap.objs.size:=Fk H;unfold collect;refine wpAny_bind (wpAny_runValue (aai F.entry_proto_collect ?_));rw[UV F.plain_proto_collect _];show wpAny _ A.in1 (newList []>>=λl=>again (.builtin "list.__iadd__" #[[l, .ref a],[]])) _ _ s;refine wpAny_bind (M2 ?_);refine be #[aao F.plain_list_iadd _,aai F.entry_list_iadd ?_];rw[UV F.plain_list_iadd _];have n:(s.heap.push {cls:= .type "list",data:= .seq ([]:List Value).toArray}).get? a\o:=AC _ H;show wpAny _ A.in1 (Builtin.List.listExtendWith (.ref s.heap.objs.size) (.ref a) (.ref s.heap.objs.size)) _ _ {s with heap:=s.heap.push {cls:= .type "list",data:= .seq ([]:List Value).toArray}}
 unfold Builtin.List.listExtendWith;have hT:Shared.TypeIs {s with heap:=s.heap.push {cls:= .type "list",data:= .seq ([]:List Value).toArray}} (.ref a) "set":=#[o,n,S.ex.1]
 refine wpAny_bind (abZ hT ?_);have h1:Builtin.List.listSameRef (.ref s.heap.objs.size) (.ref a)=false:=by simp[Builtin.List.listSameRef,abX m]
 have f:(Value.type "set"==Value.type "list")=false:=∅
 have h3:(Value.type "set"==Value.type "tuple")=false:=∅
 simp only[h1,f,h3,Bool.or_false,gQ,SC];refine wpAny_bind (uj n S ?_);generalize J:(s.heap.push {cls:= .type "list",data:= .seq ([]:List Value).toArray}).objs.size=I;have p:I=s.heap.objs.size+1:=by rw[<-J,aaQ]
 have YV:a≠I:=by rw[p];exact bP (qs m)
 have L:s.heap.objs.size≠I:=by rw[p];exact bP (vx _)
 have M:s.heap.objs.size≠a:=abX m;have q:((s.heap.push {cls:= .type "list",data:= .seq ([]:List Value).toArray}).push {cls:= .type "set_iterator",data:= .fields [.int (eX w t 0:Nat) 0, .int (0:Nat) 0, .ref a, .int c.size 0, .int d 0].toArray}).get? s.heap.objs.size\{cls:= .type "list",data:= .seq ([]:List Value).toArray}:=AC _ (GE _ rfl);have N:((s.heap.push {cls:= .type "list",data:= .seq ([]:List Value).toArray}).push {cls:= .type "set_iterator",data:= .fields [.int (eX w t 0:Nat) 0, .int (0:Nat) 0, .ref a, .int c.size 0, .int d 0].toArray}).get? I\{cls:= .type "set_iterator",data:= .fields [.int (eX w t 0:Nat) 0, .int (0:Nat) 0, .ref a, .int c.size 0, .int d 0].toArray}:=by rw[<-J];exact GE _ rfl
 have r:((s.heap.push {cls:= .type "list",data:= .seq ([]:List Value).toArray}).push {cls:= .type "set_iterator",data:= .fields [.int (eX w t 0:Nat) 0, .int (0:Nat) 0, .ref a, .int c.size 0, .int d 0].toArray}).get? a\o:=AC _ n;have O:∀b o,s.heap.get? b\o->((s.heap.push {cls:= .type "list",data:= .seq ([]:List Value).toArray}).push {cls:= .type "set_iterator",data:= .fields [.int (eX w t 0:Nat) 0, .int (0:Nat) 0, .ref a, .int c.size 0, .int d 0].toArray}).get? b\o:=λb o e=>AC _ (AC _ e);generalize ((s.heap.push {cls:= .type "list",data:= .seq ([]:List Value).toArray}).push {cls:= .type "set_iterator",data:= .fields [.int (eX w t 0:Nat) 0, .int (0:Nat) 0, .ref a, .int c.size 0, .int d 0].toArray})=f at q N r O ⊢;have u:Shared.TypeIs {s with heap:=f} (.ref a) "set":=#[o,r,S.ex.1]
 refine wpAny_bind (KF ?_);unfold Builtin.List.listLengthHint;refine wpAny_bind (aci u F.slot_set_len.lookup ?_)
 (generalize v:("set.__len__":String)=P;(fail_if_success (clear v P));wp_delta;rw[show splitId P\("set","__len__") from by subst v;decide+kernel];subst v)
 refine wpAny_bind (wpAny_isInstance (b:=true) u sub_set_self ?_);dsimp only;refine abq ∅ ?_
 refine abB (by decide+kernel) ?_
 refine wpAny_bind (abZ u ?_);refine be ?_;refine abB (by decide+kernel) ?_
 refine wpAny_bind (aau ?_);refine wpAny_bind ?_;show wpAny _ A.in1 (updateSeq s.heap.objs.size (·.push .none)>>=λ_=>updateSeq s.heap.objs.size (·.pop)) _ _ _;refine wpAny_bind (aaK q rfl ?_);have R:=SL (Obj.mapSeq (·.push Value.none)) q rfl;refine aaK R rfl ?_;have Sh:=SL (Obj.mapSeq (·.pop)) R rfl
 have y:∀b o,b≠s.heap.objs.size->f.get? b\o->
   ((f.update s.heap.objs.size (Obj.mapSeq (·.push Value.none))).update s.heap.objs.size (Obj.mapSeq (·.pop))).get? b\o:=
  λb o g e=>(KM _ _ (Ne.symm g)).trans ((KM _ _ (Ne.symm g)).trans e)
 have W:=(Walks.sets (prog:=prog) (A:=A.in1) Z I a YV S).toS;have z:s.heap.objs.size∉ [I,a]:=by simp[L,M]
 refine be #[aao F.plain_extend_loop _,codeAny_extend_loopS W hn _ z _ c.size 0 _ _ _ rfl (dZ _)
  #[#[_,y _ _ (Ne.symm L) N,rfl,rfl],y _ _ (Ne.symm M) r] Sh (ItemsOf.nil _) λh i c' T U X=>?_]
 show wpAny _ A (load s.heap.objs.size>>=_) _ _ h;refine wpAny_bind (wpAny_load U ?_)
 have gZ:h={s with heap:=h.heap,toks:=h.toks}:=by
  obtain⟨oz,g',d',tk',Th⟩:=h;obtain⟨_,B,C,G,_⟩:=T;have B:g'=s.gens:=B;have C:d'=s.drawn:=C;have G:Th=s.os:=G;subst B C G;rfl
 have ea:i.toList=(gh w a d c).toList.map (·.2):=by
  refine rA λj=>?_;rw[gD,bW,gD];have sz:i.size=(gh w a d c).size:=by rw[X.1,kH]
  by_cases lt:j<i.size
  .obtain⟨x,hx,hv⟩:=X.2 j i[j] (qo lt)
   rw[hx,qo lt,hv];rfl
  .rw[CH (),CH ()];rfl
 rw[gZ];show wpAny _ _ (pure i.toList) Q E _;rw[ea];refine be (hQ _ _ (Fk U) λb o e=>?_);have g:=Fk e;have Y:b≠s.heap.objs.size:=bP g;have b2:b≠I:=by rw[p];exact bP (qs g)
 exact T.heap b o (by simp[Y,b2]) (y b o Y (O b o e))
def yn(p:i.Perm g):∀{e:List Int},IntsAre g e->∃f,IntsAre i f/\f.Perm e:=by
 induction p with
 |nil=>intro e h;exact#[e,h, .refl _]
 |cons x _ j=>
  intro e h;cases h with
  |cons n t h=>
   obtain⟨f,a,b⟩:=j h;exact#[n::f, .cons n t a,b.cons n]
 |swap x y l=>
  intro e h;cases h with
  |cons n t h=>
   cases h with
   |cons m u h=>exact#[_, .cons m u (.cons n t h), .swap ..]
 |trans _ _ k o=>
  intro e h;obtain⟨f,a,b⟩:=o h;obtain⟨q,c,d⟩:=k a;exact#[q,c,d.trans b]
def EN(v:A.handled=none)(x:s.heap.get? a\o)(S:fU (cM w) o d f t)(y:IntsAre (d.toList.map (·.2)) i)(z:d.size<64)
  (h:∀j B q (out:Array Value) (e:Nat) (g:List Int),(∀b o,s.heap.get? b\o->j.get? b\o)->s.heap.objs.size<=q->j.get? q\{cls:= .type "list",data:= .seq out e}->IntsAre out.toList g->g.Perm i->g.Pairwise (·<=·)->Q (.ref q) {s with heap:=j,toks:=B}):
  wpAny (model prog w) A (call (.builtin "sorted") [.ref a]) Q E s:=by
 have C:=(yT w a f d).map (λe:Int×Value=>e.2);obtain⟨k,F,G⟩:∃k,IntsAre ((gh w a f d).toList.map (·.2)) k/\k.Perm i:=yn C y;have sz:((gh w a f d).toList.map (·.2)).length=d.size:=by rw[aG,eD,kH]
 refine aaw acr ab3 ab4 (ab5 _) ?_;unfold Builtin.«sorted»;refine wpAny_bind (m:=checkCount "sorted" 1 1 _) (be ?_);have p:64<=sizeLine:=∅
 refine wpAny_bind (sP v x S (λc R H I=>?_) ())
 refine wpAny_bind (aaH ?_ (by rw[sz];lia))
 have l:(c.push (seqObj "list" ((gh w a f d).toList.map (·.2)).toArray 0)).get? c.objs.size\(seqObj "list" ((gh w a f d).toList.map (·.2)).toArray 0):=GE _ rfl;refine wpAny_bind (KF (On slot_list_sort #[_,l,rfl] entry_list_sort (list_sort_tree l F (by rw[sz];exact z) λout g J L M=>#[_,rfl,?_]) (aaR _)))
 obtain⟨n,N⟩:∃n,((c.push (seqObj "list" ((gh w a f d).toList.map (·.2)).toArray 0)).update c.objs.size (Obj.mapSeq λ_=> #[])).get? c.objs.size\(seqObj "list" #[] n):=#[_,abo l (λ_=> #[])];have T:((c.push (seqObj "list" ((gh w a f d).toList.map (·.2)).toArray 0)).update c.objs.size (Obj.mapSeq λ_=> #[])).objs.size=c.objs.size+1:=by rw[aaB,aaQ]
 have O:((((c.push (seqObj "list" ((gh w a f d).toList.map (·.2)).toArray 0)).update c.objs.size (Obj.mapSeq λ_=> #[])).push (seqObj "tuple" ((gh w a f d).toList.map (·.2)).toArray 0)).push (seqObj "list" #[] 0)).get? c.objs.size\(seqObj "list" #[] n):=
  AC _ (AC _ N)
 have P:=abo O (λ_=>out);refine be #[_,rfl,h _ _ c.objs.size out _ g (λb o e=>?_) (qk H) P J (L.trans G) M];have r:=I b o e;have u:b≠c.objs.size:=bP (Fk r);show((((((c.push (seqObj "list" ((gh w a f d).toList.map (·.2)).toArray 0)).update c.objs.size (Obj.mapSeq λ_=> #[])).push (seqObj "tuple" ((gh w a f d).toList.map (·.2)).toArray 0)).push (seqObj "list" #[] 0)).update c.objs.size (Obj.mapSeq λ_=>out))).get? b\o;rw[aaD _ _ _ _ u];refine AC _ (AC _ ?_);rw[aaD _ _ _ _ u];exact AC _ r
end
section
variable {prog:Program} {w:World} {A:Around} {E:Value->Shared->Prop} {s:Shared}
def ItemsAre.ints(h:ItemsAre (intKind prog w) c b):∀v∈b,∃i t,v= .int i t:=by
 induction h with
 |nil=>intro v a;simp at a
 | @cons k f c b d _ e=>
  intro v a
  rcases bu.mp a with rfl|a
  .obtain⟨t,rfl⟩:=abQ d
   exact#[k,t,rfl]
  .exact e v a
def qi(f:IsTupleKey (intKind prog w) s.heap j a)(h:Q false s):wpAny (model prog w) A (ofAClassStatement 8 (.ref a)) Q E s:=by
 have k:=f.typeIs;obtain⟨o,c,n,l,_,m,p⟩:=f;unfold ofAClassStatement;refine wpAny_bind (abZ k ?_);dsimp only;simp only[beq_self_eq_true, ↓reduceIte];refine wpAny_bind (be ?_);simp only[aa9,gQ, ↓reduceIte];refine wpAny_bind (aaT l m ?_);dsimp only;refine wpAny_bind ?_;rw[<-Array.forIn_toList];refine abc _ (λb r d=>r.1=none/\d=s/\∀v∈b,∃i t,v=Value.int i t) _ ?_ ?_ _ _ #[rfl,rfl,p.ints]
 .rintro v b r d ⟨e,rfl,g⟩
  obtain⟨i,t,rfl⟩:=g v bF;refine wpAny_bind (aaI (show ofAClassStatement 7 (.int i t)=pure false from by unfold ofAClassStatement;rfl) ?_)
  simp only[gQ,SC];exact be #[rfl,rfl,λu q=>g u (cm _ q)]
 .rintro⟨x,y⟩ d ⟨e,rfl,_⟩
  simp only at e;subst e;exact be h
def E1(j:IsTupleKey (intKind prog w) s.heap n b)(stored:List Value)(o:∀y∈stored,∃f a,y=Value.ref a/\IsTupleKey (intKind prog w) s.heap f a)(h:Q false s):
  wpAny (model prog w) A (searchCouldBeSeen (.ref b) stored) Q E s:=by
 unfold searchCouldBeSeen;refine wpAny_bind ?_;refine abc _ (λd r g=>r.1=none/\g=s/\∀y∈d,∃f a,y=Value.ref a/\IsTupleKey (intKind prog w) s.heap f a) _ ?_ ?_ _ _ #[rfl,rfl,o]
 .rintro y d r g ⟨i,rfl,k⟩
  obtain⟨f,a,rfl,l⟩:=k y bF;have m:∀y∈d,∃f a,y=Value.ref a/\IsTupleKey (intKind prog w) g.heap f a:=λy p=>k y (cm _ p);have e:(carriedByValue (Value.ref b)&&carriedByValue (Value.ref a))=false:=by simp[carriedByValue]
  dsimp only;rw[e,Bool.or_false]
  by_cases c:(b==a)=true
  .rw[mo c]
   exact be #[rfl,rfl,m]
  .rw[ir c]
   refine wpAny_bind (wpAny_eqIsQuiet_tuple j ?_);simp only[aa9,gQ,SC];refine wpAny_bind (wpAny_eqIsQuiet_tuple l ?_);simp only[aa9,gQ,SC];refine wpAny_bind (qi j ?_);simp only[gQ,SC];refine wpAny_bind (qi l ?_);simp only[gQ,SC];exact be #[rfl,rfl,m]
 .rintro⟨q,t⟩ g ⟨i,rfl,_⟩
  simp only at i;subst i;exact be h
def Ab(f:IsTupleKey (intKind prog w) s.heap j a)(h:Q true s):wpAny (model prog w) A (hashByValue 8 (.ref a)) Q E s:=by
 rfl';have l:=f.typeIs;obtain⟨o,c,n,m,_,p,q⟩:=f;ac_rfl;unfold hashByValue;refine wpAny_bind (aci l F.slot_tuple_hash.lookup ?_);dsimp only;refine wpAny_bind (aaT m p ?_);refine wpAny_bind ?_;show wpAny _ _ (forIn c _ _) _ _ s;rw[<-Array.forIn_toList];refine abc _ (λb r d=>r.1=none/\d=s/\∀v∈b,∃i t,v=Value.int i t) _ ?_ ?_ _ _ #[rfl,rfl,q.ints]
 .rintro v b r d ⟨e,rfl,g⟩
  obtain⟨i,t,rfl⟩:=g v bF;refine wpAny_bind (aaI (show hashByValue 7 (.int i t)=pure true from by unfold hashByValue;rfl) ?_)
  simp only[aa9,gQ,SC];exact be #[rfl,rfl,λu x=>g u (cm _ x)]
 .rintro⟨z,B⟩ d ⟨e,rfl,_⟩
  simp only at e;subst e;exact be h
def Ks(prog:Program)(w:World)(h:Heap)(b:Array (Int×Value)):Prop:=∀(i:Nat)(e:Int×Value),b[i]?\e->∃k a,e=(tupleKeyHash (intKind prog w) k, .ref a)/\IsTupleKey (intKind prog w) h k a
def NF(a:Array (Int×Value))(i:Nat):Int:=(a[i]?.map (·.1)).getD 0
def Lq(h:wx m):m%2=1:=by rcases h with rfl|rfl|rfl|rfl<;>rfl
def AW{a:Array Nat}(R:oK a){i j v:Nat}(b:a[i]?\v)(c:a[j]?\v):i=j:=by
 rw[<-below_at R b,<-below_at R c]
theorem rj(hu:A.units<cLine)(ho:s.heap.get? a\o)(S:fU (cM w) o q M t)(P:Ks prog w s.heap q)(hk:IsTupleKey (intKind prog w) s.heap u b)
  (OG:(∃(i:Nat)(c:Addr),q[i]?\(tupleKeyHash (intKind prog w) u, .ref c)/\IsTupleKey (intKind prog w) s.heap u c)->∀r:Option Nat,(B=false->r.isSome=true)->Q (.there r) s)
  (BF:(∀(i:Nat)(e:Int×Value),q[i]?\e->∀c,e.2= .ref c->¬IsTupleKey (intKind prog w) s.heap u c)->∀g,(∀i:Nat,t.place[i]? ≠some (bN t.mask (tupleKeyHash (intKind prog w) u) g))->(∀j,j<g->∃i:Nat,t.place[i]?\(bN t.mask (tupleKeyHash (intKind prog w) u) j))->
   Q (.free (bN t.mask (tupleKeyHash (intKind prog w) u) g) false) s):
  wpAny (model prog w) A (setSearch a (.ref b) (tupleKeyHash (intKind prog w) u) B) Q E s:=by
 generalize hh:tupleKeyHash (intKind prog w) u=h at*;have T:=S.tok;obtain⟨s0,ZD,Vt⟩:=T.empty;obtain⟨K,hK,Z⟩:=meets T.few (uE.start t.mask h) ZD;have Z:bN t.mask h K=s0:=by unfold bN;rw[nM];exact Z
 have kb:K<6000:=by
  have:10*turns t.mask<=5260:=by
   rcases T.few with e|e|e|e<;>rw[e]<;>decide
  lia
 have sz:t.place.size=q.size:=by rw[T.size];simp
 have hN:(t.mask%2==0)=false:=by rw[Lq T.few];rfl
 have N:∀(n:Nat)(k:Nat)(l:Nat)(O:Option Probe),K+1-k<=n->n<l->k<=K->O.getD (t.probeStart h)=qM t.mask h k->(∀j,j<k->∃i:Nat,t.place[i]?\(bN t.mask h j))->
   (∀(i:Nat) c,q[i]?\(h, .ref c)->IsTupleKey (intKind prog w) s.heap u c->∀C,t.place[i]?\(bN t.mask h C)->k<=C)->
   wpAny (model prog w) A (setSearchFrom a (.ref b) h B l O) Q E s:=by
  intro n
  induction n with
  |zero=>intro k l O h1 h2 h3;lia
  |succ n ih=>
   intro k l O h1 h2 h3 h4 h5 h6;obtain⟨f,rfl⟩:∃f,l=f+1:=#[l-1,()]
   unfold setSearchFrom;refine wpAny_bind (SB ho S.dat S.fits ?_);dsimp only;unfold SetTable.gaveWay;rw[hN];simp only[gQ,SC]
   have U9:∀(i:Nat)(e:Int×Value),q[i]?\e->NF q i=e.1:=λi e d=>by
    show(q[i]?.map (·.1)).getD 0=e.1;rw[d];rfl
   generalize I:t.probe _ h (O.getD (t.probeStart h))=r;have I:t.probe (NF q) h (qM t.mask h k)=r:=by rw[<-h4];exact I
   generalize NF q=hA at U9 I;obtain⟨g,FN,hp,alt⟩:=TOk.probe T hA h k
   have k0K:g<=K:=by
    apply FB;intro c;obtain⟨i,d,_⟩:=hp K h3 ()
    rw[Z] at d;exact Vt i d
   have O9:∀j,j<g->∃i:Nat,t.place[i]?\(bN t.mask h j):=λj h'=>by
    by_cases c:j<k
    .exact h5 j c
    .obtain⟨i,d,_⟩:=hp j () h'
     exact#[i,d]
   have F:∀(i:Nat) c,q[i]?\(h, .ref c)->IsTupleKey (intKind prog w) s.heap u c->∀C,t.place[i]?\(bN t.mask h C)->g<=C:=λi c d hc C R=>by
    have Zm:=h6 i c d hc C R;apply FB;intro z;obtain⟨p,G,rR⟩:=hp C Zm ()
    have:i=p:=AW T.rise R G
    subst this;exact rR (U9 i _ d)
   rcases alt with ⟨LL,M⟩ | ⟨i,d,hhi,M⟩
   .rw[M] at I
    subst I;dsimp only;refine be (BF (λi e d c hc OH=>?_) g LL O9);obtain⟨j,a',U,X⟩:=P i e d;subst U;cases hc
    have:j=u:=X.inj OH
    subst this;rw[hh] at d;obtain⟨ky,VX,ZN⟩:=T.path i h (by rw[bW,gD,d];rfl)
    have lt:=F i _ d OH ky VX
    by_cases c1:g<ky
    .obtain⟨p,G⟩:=ZN g c1
     exact LL p G
    .have:ky=g:=()
     subst this;exact LL i VX
   .rw[M] at I
    subst I;dsimp only
    have V2:i<q.size:=by
     have:=(A4.mp d).1
     lia
    obtain⟨j,c,U,X⟩:=P i q[i] (qo V2);have L:q[i]?\(tupleKeyHash (intKind prog w) j, .ref c):=by rw[qo V2,U]
    have H:wpAny (model prog w) A (match q[i]? with
      |some (fst,y)=>do
       let m <-holding [y] (eqBool y (Value.ref b))
       let J <-setState a
       if (B&&m)=true then pure (SetFound.there none)
        else
         match J.2.snd.sameMemory t.moves t.mask with
         |some same=>
          match if same=true then J.2.snd.slot (bN t.mask h g) else Slot.empty with
          |Slot.live p=>
           match J.fst[p]? with
           |some (fst,y')=>do
            let v <-isSame y' y
            let Y <-pure (if v=true then some p else none)
            match Y with
             |none=>do
              rule "set.search.anew"
              setSearchFrom a (Value.ref b) h B f none
             |some p=>
              if m=true then pure (SetFound.there (some p))
              else setSearchFrom a (Value.ref b) h B f (some (qM t.mask h (g+1)))
           |none=>do
            let Y <-pure none
            match Y with
             |none=>do
              rule "set.search.anew"
              setSearchFrom a (Value.ref b) h B f none
             |some p=>
              if m=true then pure (SetFound.there (some p))
              else setSearchFrom a (Value.ref b) h B f (some (qM t.mask h (g+1)))
          |x=>do
           let Y <-pure none
           match Y with
            |none=>do
             rule "set.search.anew"
             setSearchFrom a (Value.ref b) h B f none
            |some p=>
             if m=true then pure (SetFound.there (some p))
             else setSearchFrom a (Value.ref b) h B f (some (qM t.mask h (g+1)))
         |x=>unsupported "set.changed-during-lookup:is-the-new-block-at-the-old-address"
      |x=>unsupported "internal:set-entry") Q E s:=by
     rw[L];dsimp only;refine wpAny_bind (KF (wpAny_eqBool_tuple hu X hk ?_));refine wpAny_bind (SB ho S.dat S.fits ?_);dsimp only;have sm:t.sameMemory t.moves t.mask\true:=by unfold SetTable.sameMemory;simp
     have rR:j≠u->wpAny (model prog w) A (setSearchFrom a (Value.ref b) h B f (some (qM t.mask h (g+1)))) Q E s:=λne=>by
      by_cases kk:g=K
      .subst kk
       rw[Z] at d;exact absurd d (Vt i)
      refine ih (g+1) f _ () () () rfl (λOP h''=>?_) λp c' G tG C R=>?_
      .by_cases z:OP=g
       .subst z;exact#[i,d]
       .exact O9 OP ()
      .have l1:=F p c' G tG C R
       have:C≠g:=λz=>by
        subst z
        have:p=i:=AW T.rise R d
        subst this;rw[L] at G;cases G;exact ne (X.inj tG)
       lia
     have there:j=u->∀r:Option Nat,(B=false->r.isSome=true)->Q (.there r) s:=λe=>by
      subst e;rw[hh] at L;exact OG #[i,c,L,X]
     by_cases e:j=u
     .rw[GT e,Bool.and_true]
      cases B with
      |true=>exact be (there e none λz=>absurd z ∅)
      |false=>
       simp only[gQ,SC];rw[sm];dsimp only;rw[mo rfl,sE T.rise d];dsimp only;rw[L];dsimp only;refine wpAny_bind (wpAny_isSame_ref_self ?_);refine wpAny_bind (be ?_);simp only[aal];exact be (there e (some i) λ_=>rfl)
     .rw[Gc e,acy]
      simp only[gQ,SC];rw[sm];dsimp only;rw[mo rfl,sE T.rise d];dsimp only;rw[L];dsimp only;refine wpAny_bind (wpAny_isSame_ref_self ?_);refine wpAny_bind (be ?_);simp only[aal];exact rR e
    by_cases led:(!t.led)=true
    .rw[mo led]
     refine wpAny_bind (E1 hk _ (λy hy=>?_) ?_)
     .obtain⟨e,he,rfl⟩:=bh.mp hy
      have he:=(Array.mem_filter.mp (Array.mem_toList_iff.mp he)).1;obtain⟨p,G,rfl⟩:=Array.mem_iff_getElem.mp he;obtain⟨OP,c',U,VC⟩:=P p q[p] (qo G);exact#[OP,c',by rw[U],VC]
     .simp only[gQ,SC]
      exact H
    .rw[ir led]
     exact H
 refine N (K+1) 0 100000 none (aY _) () (dZ _) rfl (λj h'=>by lia) λi c d hc C _=>dZ _
end
section
variable {prog:Program} {w:World} {A:Around} {E:Value->Shared->Prop} {s:Shared}
def vI(b:Addr)(a:Array (Int×Value)):byScan (.ref b) a=false:=rfl
def Aa(k:A.units<cLine)(g:s.heap.get? a\o)(S:fU (cM w) o f j t)(P:Ks prog w s.heap f)(l:IsTupleKey (intKind prog w) s.heap d b)
  (m:(∃(i:Nat)(c:Addr),f[i]?\(tupleKeyHash (intKind prog w) d, .ref c)/\IsTupleKey (intKind prog w) s.heap d c)->∀r:Option Nat,r.isSome=true->Q r s)
  (n:(∀(i:Nat)(e:Int×Value),f[i]?\e->∀c,e.2= .ref c->¬IsTupleKey (intKind prog w) s.heap d c)->Q none s):
  wpAny (model prog w) A (setFind a (.ref b) (tupleKeyHash (intKind prog w) d)) Q E s:=by
 unfold setFind setFindIn;refine wpAny_bind (SB g S.dat S.fits ?_);dsimp only;rw[vI];simp only[gQ,SC];refine wpAny_bind (rj k g S P l (λh r p=>?_) λh q _ _=>?_)
 .exact be (m h r (p rfl))
 .exact be (n h)
def CB(hu:A.units<cLine)(n:s.heap.get? a\o)(S:fU (cM w) o d Z t)(P:Ks prog w s.heap d)(I:IsTupleKey (intKind prog w) s.heap g b)(room:d.size<=305)
  (hy:(∃(i:Nat)(c:Addr),d[i]?\(tupleKeyHash (intKind prog w) g, .ref c)/\IsTupleKey (intKind prog w) s.heap g c)->Q false s)
  (J:(∀(i:Nat)(e:Int×Value),d[i]?\e->∀c,e.2= .ref c->¬IsTupleKey (intKind prog w) s.heap g c)->∀z L M uK t',Heap.SameBut a s.heap z->z.get? a\L->fU (cM w) L M uK t'->M.toList.Perm (d.toList++ [(tupleKeyHash (intKind prog w) g, .ref b)])->Q true {s with heap:=z}):
  wpAny (model prog w) A (setAddHashed a (.ref b) (tupleKeyHash (intKind prog w) g)) Q E s:=by
 have u:=S.dat;have N:=S.fits;have T:=S.tok;have sz:t.place.size=d.size:=by rw[T.size];simp
 unfold setAddHashed setAddHashedIn;refine KF (wpAny_bind (SB n u N ?_));dsimp only;rw[vI];simp only[gQ,SC];refine wpAny_bind (rj hu n S P I (λh r hr=>?_) λh k B O9=>?_)
 .exact be (hy h)
 .dsimp only
  refine wpAny_bind (SB n u N ?_);dsimp only;obtain⟨p1,p2,l⟩:=TOk.put T B O9 (by rw[sz];exact Aw T.few S.few)
  rw[p1]
  have e:(SetTable.insertAt d (below t.place (bN t.mask (tupleKeyHash (intKind prog w) g) k)) (tupleKeyHash (intKind prog w) g,Value.ref b)).toList.map (·.1)=(d.toList.map (·.1)).take (below t.place (bN t.mask (tupleKeyHash (intKind prog w) g) k))++tupleKeyHash (intKind prog w) g::(d.toList.map (·.1)).drop (below t.place (bN t.mask (tupleKeyHash (intKind prog w) g) k)):=by
   rw[aaO];simp
  rw[<-e] at l;have C:(t.put (bN t.mask (tupleKeyHash (intKind prog w) g) k)).1.plain=true:=S.pl;have ld:(t.put (bN t.mask (tupleKeyHash (intKind prog w) g) k)).1.led= !cM w:=S.ld;have mk:(t.put (bN t.mask (tupleKeyHash (intKind prog w) g) k)).1.mask=t.mask:=rfl;generalize hx:((tupleKeyHash (intKind prog w) g,Value.ref b):Int×Value)=x at*;generalize hp:below t.place (bN t.mask (tupleKeyHash (intKind prog w) g) k)=p at*;generalize (t.put (bN t.mask (tupleKeyHash (intKind prog w) g) k)).1=m at*;rw[mo C];refine wpAny_bind (Ab I ?_);simp only[aal,acA,Bool.true_and];have q:(SetTable.insertAt d p x).size=d.size+1:=SetTable.gf ..;have F:=aa5 d p x;rw[vw] at F;refine wpAny_bind (aaY n u ?_ (by rw[q];refine aaZ ?_;show d.size+1<4096;lia))
  have v:=lH n u (SetTable.insertAt d p x) m;have O:=aaj s.heap a (Obj.putSet (SetTable.insertAt d p x) m)
  have YI:m.fits (SetTable.insertAt d p x).size=true:=by
   have:=TOk.fits l
   rw[aG,eD] at this;exact this
  by_cases j:m.tooFull=true
  .rw[mo j]
   refine ai λG0 k=>?_;obtain⟨y,f,R,_,pf,U,T2,G,l2,X,WN⟩:=y6 l j (by rw[q,mk];have:=S.few;lia) (by rw[q];lia)
   refine k ?_;rw[q] at R X WN;refine wpAny_bind ?_;unfold setRelay;refine wpAny_bind (SB v rfl YI ?_);dsimp only;have big:512<=sizeLine:=∅
   rw[ir (),R]
   have Y:(f.filterMap ((SetTable.insertAt d p x)[·]?)).size=d.size+1:=by rw[U,q]
   refine wpAny_bind (aaI (a:=(f.filterMap ((SetTable.insertAt d p x)[·]?),y)) ?_ ?_)
   .show(if ((f.filterMap ((SetTable.insertAt d p x)[·]?)).size !=(SetTable.insertAt d p x).size)=true then _ else pure (f.filterMap ((SetTable.insertAt d p x)[·]?),y))=_
    rw[ir (by rw[U];simp)]
   .dsimp only
    refine aaY v rfl ?_ (by rw[Y];refine aaZ ?_;show d.size+1<4096;lia)
    have rT:=lH v rfl (f.filterMap ((SetTable.insertAt d p x)[·]?)) y;exact be (J h _ _ _ _ y (O.trans (aaj _ a _)) rT #[S.ex,rfl,T2,by rw[G];exact C,by rw[l2];exact ld,by rw[Y];exact X] (pf.trans F))
  .rw[ir j]
   refine be (J h _ _ _ _ m O v #[S.ex,rfl,l,C,ld,?_] F);have H:m.tooFull=false:=by simpa using j
   unfold SetTable.tooFull SetTable.fill at H;rw[l.dum,l.size] at H;simp at H;lia
variable {a b:Addr} {o:Obj} {es:Array (Int×Value)} {ep:Nat} {t:SetTable} {ks:List Int}
open Classical in
noncomputable def oX(prog:Program)(w:World)(h:Heap)(es:Array (Int×Value))(ks:List Int):Bool:=decide (∃(i:Nat)(c:Addr),es[i]?\(tupleKeyHash (intKind prog w) ks, .ref c)/\IsTupleKey (intKind prog w) h ks c)
def LC(h:∀(i:Nat)(e:Int×Value),es[i]?\e->∀c,e.2= .ref c->¬IsTupleKey (intKind prog w) s.heap ks c):oX prog w s.heap es ks=false:=by
 classical
 unfold oX;exact Gc λ#[i,c,d,f]=>h i _ d c rfl f
def Ji(h:∃(i:Nat)(c:Addr),es[i]?\(tupleKeyHash (intKind prog w) ks, .ref c)/\IsTupleKey (intKind prog w) s.heap ks c):oX prog w s.heap es ks=true:=by
 classical
 unfold oX;exact GT h
def ui(k:A.units+64<cLine)(d:s.heap.get? a\o)(S:fU (cM w) o es ep t)(P:Ks prog w s.heap es)(e:IsTupleKey (intKind prog w) s.heap ks b)
  (h:∀f,Q (oX prog w s.heap es ks) {s with toks:=f}):wpAny (model prog w) A (contains (.ref a) (.ref b)) Q E s:=by
 have c:s.TypeIs (.ref a) "set":=#[o,d,S.ex.1];unfold contains
 try with_reducible refine KF ?_
 refine wpAny_bind (aci c F.slot_set_contains.lookup ?_);show wpAny _ _ (if (some (Value.builtin "set.__contains__")==some Value.none)=true then _ else _) _ E s;rw[ir (by rw[beq_builtin_none];exact cP)]
 refine wpAny_bind (wpAny_callSpecialUnlessNone?_slot (name:=Str.ofString "__contains__") c F.slot_set_contains
  (On F.slot_set_contains c entry_set_contains ?_ (F.args_set_contains_2 _ _)))
 unfold Builtin.«frozenset.__contains__» Builtin.Frozenset.oneOther;simp only[abd,bind_assoc];unfold Builtin.Frozenset.addrOf Builtin.Frozenset.withSetAsKey setContains;refine wpAny_bind (be ?_)
 try dsimp only
 refine wpAny_bind (be ?_)
 try dsimp only
 refine wpAny_bind (aaU ?_);refine KF ?_;refine wpAny_bind (wpAny_pyHash_tuple ?_ e ?_)
 .show A.units+1<cLine;lia
 refine wpAny_bind (Aa (s:={s with toks:=s.toks+(ks.length+1)}) ?_ d S P e (λg r i=>?_) λj=>?_)
 .show A.units+1<cLine;lia
 .refine be ?_
  show wpAny _ _ (ret (Value.bool r.isSome)) _ _ _;rw[i]
  have:=h (s.toks+(ks.length+1))
  rw[Ji g] at this;exact be #[_,rfl,P3 this]
 .refine be ?_
  have:=h (s.toks+(ks.length+1))
  rw[LC j] at this;exact be #[_,rfl,P3 this]
end
end PySem
set_option maxHeartbeats 4000000
namespace L2
open PySem PySem.Spec PyProof.Rows
inductive FV where
 |int (i:Int) |bl (b:Bool)
inductive XD where
 |t6 (b:Bool) (ps:List (Int×Int)) |tW (ks:List (Int×Int)) (vs:List FV)
inductive D where
 |bC|bl (b:Bool) |int (i:Int) |str (x:Str) |lst (l:List D) |tup (l:List D) |mV (ns:List Int) |rng (lo hi:Int) |obj (a:Addr) |fS (w:List (List Nat)) |set (b:Bool) (l:List Int) |x (k:XD) |err (C:Addr) (ks:List Str) (l:List D)
structure DC where
 K:ab
 C:Addr
def ao(n:Nat):D:= .int n
def aw(r:List Nat):D:= .lst (r.map ao)
def aX(w:List (List Nat)):D:= .lst (w.map aw)
def vG(a:Array (Int×Value))(b:List Int):Prop:=(∀e∈a.toList,∃k t,e=(hashInt k,Value.int k t))/\b.Nodup/\∃c,IntsAre (a.toList.map (·.2)) c/\c.Perm b
def gz(b:Bool)(a:Addr)(d:List Int)(h:Heap):Prop:=∃o c e t,h.get? a\o/\fU b o c e t/\vG c d
def cT(p:Int×Int):Int:=reduceHash (Builtin.Tuple.tupleHashOf [hashInt p.1,hashInt p.2])
inductive i7 (H:Hp):List (Int×Addr)->List (Int×Int)->Prop
 |nil:i7 H [] []
 |cons {a:Addr} {p:Int×Int} {es:List (Int×Addr)} {ps:List (Int×Int)}:H a\(.tup [.int p.1, .int p.2])->i7 H es ps->i7 H ((cT p,a)::es) (p::ps)
theorem i7.mono{H a:Hp}(s:bg H a):∀{b:List (Int×Addr)}{c:List (Int×Int)},i7 H b c->i7 a b c
 |_,_, .nil=> .nil
 |_,_, .cons h t=> .cons (s _ _ h) (t.mono s)
def f7(b:Bool)(a:Addr)(d:List (Int×Addr))(h:Heap):Prop:=∃o c f t,h.get? a\o/\fU b o c f t/\c.toList.Perm (d.map λe=>(e.1,Value.ref e.2))
def NX:FV->Value->Prop
 | .int i,v=>∃t,v= .int i t
 | .bl b,v=>v= .bool b
inductive Ip:List DictEntry->List (Int×Addr)->List FV->Prop
 |nil:Ip [] [] []
 |cons {e:DictEntry} {l:List DictEntry} {h:Int} {a:Addr} {v:FV} {es:List (Int×Addr)} {vs:List FV}:e.hash=h->e.key= .ref a->NX v e.val->Ip l es vs->Ip (e::l) ((h,a)::es) (v::vs)
def iu(a:Addr)(c:List (Int×Addr))(d:List FV)(h:Heap):Prop:=(a==sysModules)=false/\∃o b e,h.get? a\o/\o.ExactDict/\o.data= .dict b e/\Ip b.toList c d
def Iy(H:Hp)(a:Addr)(d:Heap->Prop):XD->Prop
 | .t6 b e=>e.Nodup/\∃c,d=f7 b a c/\i7 H c e
 | .tW ks f=>ks.Nodup/\∃c,d=iu a c f/\i7 H c ks
theorem Iy.mono{H c:Hp}(s:bg H c):∀{k:XD},Iy H a d k->Iy c a d k
 | .t6 _ _,#[n,b,e,p]=>#[n,b,e,p.mono s]
 | .tW _ _,#[n,b,e,p]=>#[n,b,e,p.mono s]
def NW(H:Hp)(d:Option Addr)(a:List Str)(b:List V):Prop:=(d=none/\a= []/\b= [])\/∃c,d\c/\H c\(XE c (a.zip b))/\a.length=b.length
def NW.mono{H d:Hp}(s:bg H d)(h:NW H e f g):NW d e f g:=h.imp id λ#[i,a,b,c]=>#[i,a,s _ _ b,c]
mutual
inductive Dv (Z:DC) (H:Hp):V->D->Prop
 |bC:Dv Z H .bC .bC
 |bl (b:Bool):Dv Z H (.bl b) (.bl b)
 |int (i:Int):Dv Z H (.int i) (.int i)
 |str (x:Str) (h:PyData.strOk x=true):Dv Z H (.str x) (.str x)
 |lst {a:Addr} {xs:List V} {ds:List D}:H a\(.lst xs)->DvAll Z H xs ds->Dv Z H (.ref a) (.lst ds)
 |tup {a:Addr} {xs:List V} {ds:List D}:H a\(.tup xs)->DvAll Z H xs ds->Dv Z H (.ref a) (.tup ds)
 |obj (a:Addr):Dv Z H (.ref a) (.obj a)
 |rng {a:Addr} {lo hi:Int}:H a\(.rng lo hi)->Dv Z H (.ref a) (.rng lo hi)
 |mV {a:Addr} {ns:List Int}:cG Z.K H a (ns.map V.int)->ns.length<=63->Dv Z H (.ref a) (.mV ns)
 |fS {p dx R:Addr} {w:List (List Nat)}:H p\(.ins Z.C dx [("rows", .ref R)])->Dv Z H (.ref R) (aX w)->Wb.Good w->1<=w.length->w.length<=14->Dv Z H (.ref p) (.fS w)
 |set {a:Addr} {b:Bool} {ns:List Int}:H a\(.ext (gz b a ns))->Dv Z H (.ref a) (.set b ns)
 |x {a:Addr} {φ:Heap->Prop} {k:XD}:H a\(.ext φ)->Iy H a φ k->Dv Z H (.ref a) (.x k)
 |err {a C:Addr} {od:Option Addr} {ks:List Str} {xs:List V} {ds:List D}:H a\(Ue C a od)->NW H od ks xs->DvAll Z H xs ds->Dv Z H (.ref a) (.err C ks ds)
inductive DvAll (Z:DC) (H:Hp):List V->List D->Prop
 |nil:DvAll Z H [] []
 |cons {v:V} {vs:List V} {d:D} {ds:List D}:Dv Z H v d->DvAll Z H vs ds->DvAll Z H (v::vs) (d::ds)
end
def cG.mono{K:ab}{H b:Hp}(s:bg H b)(h:cG K H a c):cG K b a c:=by
 rcases h with (h| ⟨o,h⟩) |h
 .exact .inl (.inl (s _ _ h))
 .exact .inl (.inr #[o,s _ _ h])
 .exact .inr h
section
variable {Z:DC} {H H' G G':Hp}
def Dv.ofInt(h:Dv Z H v (.int i)):v= .int i:=by cases h;rfl
def Dv.Er(h:Dv Z H v (.bl b)):v= .bl b:=by cases h;rfl
def Dv.je(h:Dv Z H v (.lst b)):∃a c,v= .ref a/\H a\(.lst c)/\DvAll Z H c b:=by cases h with|lst h e=>exact#[_,_,rfl,h,e]
def Dv.pB(h:Dv Z H v (.tup b)):∃a c,v= .ref a/\H a\(.tup c)/\DvAll Z H c b:=by cases h with|tup h e=>exact#[_,_,rfl,h,e]
def Dv.Mq{v:V}{ns:List Int}(h:Dv Z H v (.mV ns)):∃a,v= .ref a/\cG Z.K H a (ns.map V.int)/\ns.length<=63:=by cases h with|mV h z=>exact#[_,rfl,h,z]
def DvAll.Mp(h:DvAll Z H a []):a= []:=by cases h;rfl
def DvAll.B6(h:DvAll Z H c (d::e)):∃v f,c=v::f/\Dv Z H v d/\DvAll Z H f e:=by cases h with|cons a b=>exact#[_,_,rfl,a,b]
def DvAll.ofOne(h:DvAll Z H c [d]):∃v,c= [v]/\Dv Z H v d:=by
 obtain⟨v,e,rfl,a,b⟩:=h.B6;rw[b.Mp];exact#[v,rfl,a]
def DvAll.Mr(h:DvAll Z H f [d,e]):∃v u,f= [v,u]/\Dv Z H v d/\Dv Z H u e:=by
 obtain⟨v,g,rfl,a,b⟩:=h.B6;obtain⟨u,rfl,c⟩:=b.ofOne;exact#[v,u,rfl,a,c]
theorem Dv.mono(s:bg H H')(h:Dv Z H v d):Dv Z H' v d:=
 Dv.rec (motive_1:=λv d _=>Dv Z H' v d) (motive_2:=λc e _=>DvAll Z H' c e) .bC .bl .int .str (λh _ a=> .lst (s _ _ h) a) (λh _ a=> .tup (s _ _ h) a) .obj (λh=> .rng (s _ _ h)) (λh z=> .mV (h.mono s) z) (λh _ g a b r=> .fS (s _ _ h) r g a b) (λh=> .set (s _ _ h)) (λh k=> .x (s _ _ h) (k.mono s)) (λh k _ a=> .err (s _ _ h) (k.mono s) a) .nil (λ_ _ a b=> .cons a b) h
def DvAll.ind{p:List V->List D->Prop}(n:p [] [])(c:∀{v:V}{e:List V}{d:D}{f:List D},Dv Z H v d->DvAll Z H e f->p e f->p (v::e) (d::f)){f:List D}(h:DvAll Z H e f):p e f:=
 DvAll.rec (motive_1:=λ_ _ _=>True) (motive_2:=λe f _=>p e f) trivial (λ_=>trivial) (λ_=>trivial) (λ_ _=>trivial) (λ_ _ _=>trivial) (λ_ _ _=>trivial) (λ_=>trivial) (λ_=>trivial) (λ_ _=>trivial) (λ_ _ _ _ _ _=>trivial) (λ_=>trivial) (λ_ _=>trivial) (λ_ _ _ _=>trivial) n (λa b _ q=>c a b q) h
theorem DvAll.mono(s:bg H H')(h:DvAll Z H c d):DvAll Z H' c d:=h.ind .nil λa _ b=> .cons (a.mono s) b
theorem DvAll.length(h:DvAll Z H a b):a.length=b.length:=h.ind (p:=λa b=>a.length=b.length) rfl λ_ _ e=>GM (·+1) e
def DvAll.get{b:List V}{i:Nat}{d:D}(h:DvAll Z H b c)(e:c[i]?\d):∃v,b[i]?\v/\Dv Z H v d:=by
 revert i
 refine h.ind (p:=λb c=>∀{i:Nat},c[i]?\d->∃v,b[i]?\v/\Dv Z H v d) (λe=>by cases e) λa _ f i e=>?_
 cases i with
 |zero=>cases e;exact#[_,rfl,a]
 |succ i=>exact f e
def DvAll.DR{b:List V}{c:List D}{i:Nat}{v:V}(h:DvAll Z H b c)(e:b[i]?\v):∃d,c[i]?\d/\Dv Z H v d:=by
 revert i
 refine h.ind (p:=λb c=>∀{i:Nat},b[i]?\v->∃d,c[i]?\d/\Dv Z H v d) (λe=>by cases e) λa _ f i e=>?_
 cases i with
 |zero=>cases e;exact#[_,rfl,a]
 |succ i=>exact f e
def DvAll.append(h:DvAll Z H c d)(k:DvAll Z H e f):DvAll Z H (c++e) (d++f):=h.ind (p:=λc d=>DvAll Z H (c++e) (d++f)) k λa _ b=> .cons a b
theorem DvAll.take:∀{b:List V}{c:List D}(n:Nat),DvAll Z H b c->DvAll Z H (b.take n) (c.take n)
 |_,_,0,_=>DvAll.nil
 |_,_,n+1, .nil=>DvAll.nil
 |_,_,n+1, .cons a d=>DvAll.cons a (d.take n)
theorem DvAll.drop:∀{b:List V}{c:List D}(n:Nat),DvAll Z H b c->DvAll Z H (b.drop n) (c.drop n)
 |_,_,0,h=>h
 |_,_,n+1, .nil=>by simpa using DvAll.nil
 |_,_,n+1, .cons a d=>by simpa using d.drop n
theorem DvAll.set{v:V}(h:Dv Z H v d):∀{c:List V}{e:List D}(n:Nat),DvAll Z H c e->DvAll Z H (c.set n v) (e.set n d)
 |_,_,_, .nil=> .nil
 |_,_,0, .cons a b=> .cons h b
 |_,_,n+1, .cons a b=> .cons a (DvAll.set h n b)
theorem DvAll.ints:∀(a:List Int),DvAll Z H (a.map V.int) (a.map D.int)
 | []=> .nil
 |n::a=> .cons (.int n) (DvAll.ints a)
def DvAll.snoc{e:List D}(a:DvAll Z H c e)(b:Dv Z H v d):DvAll Z H (c++ [v]) (e++ [d]):=a.append (.cons b .nil)
structure Ext (G H G' H':Hp):Prop where
 gg:bg G G'
 sub:bg G' H'
 hh:bg H H'
 off:∀b,H b≠none->G b=none->G' b=none
theorem Ext.refl(s:bg G H):Ext G H G H:=#[.refl _,s, .refl _,λ_ _ h=>h]
theorem Ext.trans{c d f i:Hp}(a:Ext G H c d)(b:Ext c d f i):Ext G H f i:=
 #[a.gg.trans b.gg,b.sub,a.hh.trans b.hh,λx h g=>b.off x (λz=>by
  cases e:H x with
  |none=>exact h e
  |some o=>rw[a.hh x o e] at z;cases z) (a.off x h g)]
def Ext.new{o:HO}(s:bg G H)(h:H p=none):Ext G H (upd G p o) (upd H p o):=by
 have a:G p=none:=s.free h;refine#[bp a o,λb u e=>?_,bp h o,λb c a=>?_]
 .by_cases z:b=p
  .subst z;rw[aD] at e ⊢;exact e
  .rw[aN z] at e ⊢;exact s b u e
 .have:b≠p:=λz=>c (by rw[z];exact h)
  rw[aN this];exact a
end
abbrev DN:=List (Option D)
structure fb (Z:DC) (G:Hp) (σ:St) (ρ:DN):Prop where
 len:ρ.length=σ.length
 at_:∀(i:Nat)(d:D),ρ[i]?\(some d)->∃v,σ[i]?\(some v)/\Dv Z G v d
section
variable {Z:DC} {G G' H H':Hp} {σ:St} {ρ:DN}
theorem fb.mono(e:fb Z G σ ρ)(s:bg G G'):fb Z G' σ ρ:=#[e.len,λi d h=>let #[v,a,b]:=e.at_ i d h;#[v,a,b.mono s]]
theorem fb.set{i:Nat}{v:V}(e:fb Z G σ ρ)(h:Dv Z G v d):fb Z G (σ.set i (some v)) (ρ.set i (some d)):=by
 refine#[by rw[cV,cV];exact e.len,λj c a=>?_]
 by_cases z:i=j
 .subst z
  by_cases b:i<ρ.length
  .rw[fY b] at a
   cases Da a;exact#[v,by rw[fY (e.len▸b)],h]
  .rw[A5 (lK b)] at a
   rw[fZ (lK b)] at a;cases a
 .rw[fA z] at a ⊢
  exact e.at_ j c a
end
abbrev bw:=DN->(D->Prop)->Prop
abbrev dP:=DN->(Bool->Prop)->Prop
abbrev iY:=DN->(List D->Prop)->Prop
abbrev gS:=D->D->(D->Prop)->Prop
abbrev eQ:=D->DN->(DN->Prop)->Prop
abbrev jH:=DN->(List D->Prop)->Prop
def fj(Z:DC)(t:bw):TE:=λe H Q=>∃(G:Hp)(a:DN)(P:D->Prop),bg G H/\fb Z G e a/\t a P/\∀d,P d->∀v b c,Ext G H b c->Dv Z b v d->Q v c
def liftT(Z:DC)(t:dP):TT:=λd H Q=>∃(G:Hp)(a:DN)(P:Bool->Prop),bg G H/\fb Z G d a/\t a P/\∀b,P b->∀e c,Ext G H e c->Q b c
def Gb(Z:DC)(t:iY):TA:=λf H Q=>∃(G:Hp)(a:DN)(P:List D->Prop),bg G H/\fb Z G f a/\t a P/\∀b,P b->∀c d e,Ext G H d e->DvAll Z d c b->Q c e
def cq(Z:DC)(r:gS):R2:=λx y H Q=>∃(G:Hp)(a b:D)(P:D->Prop),bg G H/\Dv Z G x a/\Dv Z G y b/\r a b P/\∀d,P d->∀v c e,Ext G H c e->Dv Z c v d->Q v e
def g6(Z:DC)(r:List D->(D->Prop)->Prop):List V->Hp->VK->Prop:=λe H Q=>∃(G:Hp)(a:List D)(P:D->Prop),bg G H/\DvAll Z G e a/\r a P/\∀d,P d->∀v b c,Ext G H b c->Dv Z b v d->Q v c
abbrev bS:=List D->(D->Prop)->Prop
def aU(Z:DC)(a:bS):Sp:=λb H Q _=>g6 Z a b H Q
def DE(Z:DC)(X:Cx)(e:Expr)(t:bw):Prop:=PE X e (fj Z t)
def DT(Z:DC)(X:Cx)(e:Expr)(t:dP):Prop:=PT X e (liftT Z t)
def DA(Z:DC)(X:Cx)(a:List Expr)(t:iY):Prop:=PA X a (Gb Z t)
def PE.imp(h:PE X e t)(f:∀b H Q,t' b H Q->t b H Q):PE X e t':=λa s b H Q I q=>h a s b H Q I (f _ _ _ q)
def PT.imp(h:PT X e t)(f:∀b H Q,c b H Q->t b H Q):PT X e c:=λa s b H Q I q=>h a s b H Q I (f _ _ _ q)
def PW.imp(h:PW X e t)(f:∀b H Q,c b H Q->t b H Q):PW X e c:=λd a s b H Q I q=>h d a s b H Q I (f _ _ _ q)
def PA.imp{d:List Expr}(h:PA X d t)(f:∀b H Q,t' b H Q->t b H Q):PA X d t':=λc a s b H Q I q=>h c a s b H Q I (f _ _ _ q)
def OpR.imp{f:Value->Value->Sem Value}{r d:R2}(h:OpR X f r)(g:∀x y H Q,d x y H Q->r x y H Q):OpR X f d:=λc s e H x y v u Q I a b q=>h c s e H x y v u Q I a b (g _ _ _ _ q)
def cB.imp{f:Value}{r d:List V->Hp->VK->Prop}(h:cB X f r)(g:∀c H Q,d c H Q->r c H Q):cB X f d:=λb s e H c i Q I a q=>h b s e H c i Q I a (g _ _ _ q)
def Dm(i:Nat):bw:=λa P=>∃d,a[i]?\(some d)/\P d
def dC(d:D):bw:=λ_ P=>P d
section
variable {Z:DC} {X:Cx}
def aa(i:Nat)(f:X.N[i]?\x:=by rfl)(b:jw X.env.scope x:=by subst_eqs)(c:(x==("__debug__":Str))=false:=by decide)
  (g:(x==("__classdict__":Str))=false:=by decide):DE Z X (.Name x a) (Dm i):=by
 refine(Cb f b c g).imp λk H Q h=>?_;rfl';obtain⟨G,m,P,s,e,⟨d,c,p⟩,q⟩:=h;ac_rfl;exact let #[v,b,dv]:=e.at_ i d c;#[v,b,q d p v G H (.refl s) dv]
def av{i j pos}:DE Z X (.Constant (.int i) j pos) (dC (.int i)):=by
 refine Pt.imp λc H Q a=>?_;rfl';obtain⟨G,f,P,s,e,p,q⟩:=a;ac_rfl;exact q _ p _ G H (.refl s) (.int i)
def gU{b j pos}:DE Z X (.Constant (.bool b) j pos) (dC (.bl b)):=by
 refine Tj.imp λd H Q a=>?_;rfl';obtain⟨G,g,P,s,e,p,q⟩:=a;ac_rfl;exact q _ p _ G H (.refl s) (.bl b)
def bY{j pos}:DE Z X (.Constant .none j pos) (dC .bC):=by
 refine Px.imp λc H Q a=>?_;rfl';obtain⟨G,f,P,s,e,p,q⟩:=a;ac_rfl;exact q _ p _ G H (.refl s) .bC
def jo{x j pos}(h:PyData.strOk x=true:=by decide+kernel):DE Z X (.Constant (.str x) j pos) (dC (.str x)):=by
 refine PB.imp λc H Q a=>?_;rfl';obtain⟨G,f,P,s,e,p,q⟩:=a;ac_rfl;exact q _ p _ G H (.refl s) (.str x h)
def IM(d:Gl X x)(b:∃c,X.mg x\(.int i c))(f:(x==("__debug__":Str))=false:=by decide):DE Z X (.Name x a) (dC (.int i)):=by
 obtain⟨c,b⟩:=b;exact(ME d b (v:= .int i) #[c,rfl] f).imp λg H Q #[G,h,P,s,e,p,q]=>q _ p _ G H (.refl s) (.int i)
def KZ(r:gS)(d e:bw):bw:=λc P=>d c λa=>e c λb=>r a b P
variable {a b c:Expr} {ta tb tc:bw} {pos:Pos}
def BV:∀f H Q,fj Z (KZ r ta tb) f H Q->NL (cq Z r) (fj Z ta) (fj Z tb) f H Q:=by
 intro f H Q k;rfl';obtain⟨G,j,P,s,e,h,q⟩:=k;ac_rfl;refine#[G,j,_,s,e,h,λa m v n E g dv=>?_];refine#[n,j,_,g.sub,e.mono g.gg,m,λb o u p F i t=>?_];exact#[p,a,b,P,i.sub,dv.mono i.gg,t,o,λd w x y z A B=>q d w x y z ((g.trans i).trans A) B]
def aW(e:OpR X (binaryOp d) (cq Z r))(f:DE Z X a ta)(g:DE Z X b tb):DE Z X (.BinOp a d b pos) (KZ r ta tb):=(MH e f g).imp BV
def qv(e:OpR X (compareOp d) (cq Z r))(f:DE Z X a ta)(g:DE Z X b tb)(h:behindInMarks d b=false):DE Z X (.Compare a [d] [b] pos) (KZ r ta tb):=(MC e f g h).imp BV
def Fq(t:bw):dP:=λe P=>t e λd=>∃k,d= .bl k/\P k
def AL:∀d H Q,liftT Z (Fq t) d H Q->GY (fj Z t) d H Q:=by
 intro d H Q f;rfl';obtain⟨G,i,P,s,e,h,q⟩:=f;ac_rfl;exists G,i,_,s,e,h;rintro _ ⟨k,rfl,p⟩ v j l m dv;cases dv.Er;exact#[k,rfl,q k p j l m]
def aK(f:OpR X (compareOp d) (cq Z r))(g:DE Z X a ta)(i:DE Z X b tb)(j:behindInMarks d b=false):DT Z X (.Compare a [d] [b] pos) (Fq (KZ r ta tb)):=
 (MS f g i j).imp λe H Q h=>by
  obtain h:=AL e H Q h;exact BV e H _ h
def Bq(r e:gS)(f g tc:bw):bw:=λd P=>f d λx=>g d λy=>r x y λz=>∃k,z= .bl k/\(if k=true then tc d λh=>e y h P else P (.bl false))
def yu:∀f H Q,fj Z (Bq r o ta tb tc) f H Q->Cy (cq Z r) (cq Z o) (fj Z ta) (fj Z tb) (fj Z tc) f H Q:=by
 intro f H Q y;rfl';obtain⟨G,g,P,s,e,h,q⟩:=y;ac_rfl;refine#[G,g,_,s,e,h,λa A v B Y i dv=>?_];refine#[B,g,_,i.sub,e.mono i.gg,A,λb C u E X j p=>?_];exists E,a,b,_,j.sub,dv.mono j.gg,p,C;rintro _ ⟨k,rfl,t⟩ v' w F l I;cases I.Er;exists k,rfl;have x:=(i.trans j).trans l;cases k with
 |false=>exact bM (q _ t _ w F x (.bl false))
 |true=>
  refine eC #[w,g,_,l.sub,e.mono x.gg,t,λc J w' L H4 m M=>?_];exact#[L,b,c,P,m.sub,(p.mono l.gg).mono m.gg,M,J,λd N n O R S T=>q d N n O R ((x.trans m).trans S) T]
def IL(g:OpR X (compareOp d) (cq Z r))(h:OpR X (compareOp e) (cq Z f))(i:DE Z X a ta)(j:DE Z X b tb)(k:DE Z X c tc)
  (l:lastMarks [d,e] [b,c]=false:=by with_unfolding_all rfl):DE Z X (.Compare a [d,e] [b,c] pos) (Bq r f ta tb tc):=(JN g h i j k l).imp yu
def IY(i:OpR X (compareOp d) (cq Z r))(j:OpR X (compareOp e) (cq Z f))(k:DE Z X a ta)(l:DE Z X b tb)(m:DE Z X c tc)
  (n:lastMarks [d,e] [b,c]=false:=by with_unfolding_all rfl):DT Z X (.Compare a [d,e] [b,c] pos) (Fq (Bq r f ta tb tc)):=
 (JY i j k l m n).imp λg H Q h=>by
  obtain h:=AL g H Q h;exact yu g H _ h
def zk:D->Bool
 | .bC=>false
 | .bl b=>b
 | .int i=>i !=0
 | .str x=>x.length !=0
 | .lst l=>!l.isEmpty
 | .tup l=>!l.isEmpty
 | .mV l=>!l.isEmpty
 | .rng lo d=>decide (lo<d)
 | .obj _=>true
 | .fS _=>true
 | .set _ l=>!l.isEmpty
 | .x _=>true
 | .err _ _ _=>true
def V7:D->Bool
 | .bl _=>true
 | .int _=>true
 | .lst _=>true
 | .tup _=>true
 | .bC=>true
 |_=>false
def UR(t:bw):dP:=λe P=>t e λd=>V7 d=true/\P (zk d)
def vT(h:DvAll Z G d e):d.isEmpty=e.isEmpty:=by cases h<;>rfl
def cJ(ha:DE Z X a ta)(he:∀whole,isTrue a X.env whole=(do let v <-whole;standAt a.pos;holding [v] (truthy v)):=by intro _;rfl):DT Z X a (UR ta):=by
 refine(JZ ha he).imp ?_;intro σ H Q aS;rfl';obtain⟨G,ρ,P,s,e,h,q⟩:=aS;ac_rfl;exists G,ρ,_,s,e,h;rintro d ⟨hd,p⟩ v G1 H1 x1 dv;refine#[zk d,?_,q _ p G1 H1 x1];cases dv with
 |bC=>rfl
 |bl b=>rfl
 |int i=>rfl
 |lst h a=>exact .inl #[_,cG.of (x1.sub _ _ h),by rw[vT a];rfl]
 |tup h a=>exact .inr (.inl #[_,eG.of (x1.sub _ _ h),by rw[vT a];rfl])
 |_=>cases hd
def Uz(t u:dP):dP:=λd P=>t d λc=>if c=true then u d P else P false
def Yo(t u:dP):dP:=λd P=>t d λc=>if c=true then P true else u d P
def UK(t:dP):dP:=λd P=>t d λc=>P (!c)
variable {tA Cw:dP} {rest:List Expr}
def DW(Z:DC)(X:Cx)(e:Expr)(t:dP):Prop:=PW X e (liftT Z t)
def DW.dt(h:DW Z X e t):DT Z X e t:=PW.pt h
def tB(d:DT Z X a tA):DW Z X (.BoolOp .And [a] pos) tA:=MZ d
def iA(d:DT Z X a tA):DW Z X (.BoolOp .Or [a] pos) tA:=PM d
def wV(k:DT Z X a tA)(f:DW Z X (.BoolOp .And (b::rest) pos) Cw):DW Z X (.BoolOp .And (a::b::rest) pos) (Uz tA Cw):=by
 refine(PL k f).imp ?_;intro t H Q l;rfl';obtain⟨G,g,P,s,e,h,q⟩:=l;ac_rfl;refine#[G,g,_,s,e,h,λc i j n d=>?_];cases c with
 |true=>exact eC #[j,g,P,d.sub,e.mono d.gg,i,λb f o p r=>q b f o p (d.trans r)]
 |false=>exact bM (q _ i j n d)
def gY(k:DT Z X a tA)(f:DW Z X (.BoolOp .Or (b::rest) pos) Cw):DW Z X (.BoolOp .Or (a::b::rest) pos) (Yo tA Cw):=by
 refine(Tp k f).imp ?_;intro t H Q l;rfl';obtain⟨G,g,P,s,e,h,q⟩:=l;ac_rfl;refine#[G,g,_,s,e,h,λc i j n d=>?_];cases c with
 |false=>exact bM #[j,g,P,d.sub,e.mono d.gg,i,λb f o p r=>q b f o p (d.trans r)]
 |true=>exact eC (q _ i j n d)
def c5(d:DT Z X a tA):DT Z X (.UnaryOp .Not a pos) (UK tA):=by
 refine(PJ d).imp ?_;rintro l H Q ⟨G,f,P,s,e,h,q⟩;exact#[G,f,_,s,e,h,λc g i j k=>q _ g i j k]
def RA(e f:bw):bw:=λd P=>e d λx=>∃c,x= .bl c/\if c=true then f d P else P (.bl false)
def RL(d:bw):bw:=λe P=>d e λx=>∃c,x= .bl c/\P (.bl (!c))
def wR{op}(h:DE Z X a ta):DE Z X (.BoolOp op [a] pos) ta:=Pz h
def tq(k:DE Z X a ta)(f:DE Z X (.BoolOp .And (b::rest) pos) tb):DE Z X (.BoolOp .And (a::b::rest) pos) (RA ta tb):=by
 refine(Pn k f).imp ?_;intro u H Q l;rfl';obtain⟨G,g,P,s,e,h,q⟩:=l;ac_rfl;exists G,g,_,s,e,h;rintro _ ⟨c,rfl,i⟩ v j n d dv;cases dv.Er;exists c,rfl;cases c with
 |true=>exact eC #[j,g,P,d.sub,e.mono d.gg,i,λb f v o p r t=>q b f v o p (d.trans r) t]
 |false=>exact bM (q _ i _ j n d (.bl false))
def Hv(d:DE Z X a ta):DE Z X (.UnaryOp .Not a pos) (RL ta):=by
 refine(Py d).imp ?_;intro n H Q f;rfl';obtain⟨G,i,P,s,e,h,q⟩:=f;ac_rfl;exists G,i,_,s,e,h;rintro _ ⟨c,rfl,j⟩ v k l m dv;cases dv.Er;exact#[c,rfl,q _ j _ k l m (.bl _)]
def qP:iY:=λ_ P=>P []
def Br(e:bw)(t:iY):iY:=λd P=>e d λx=>t d λf=>P (x::f)
variable {es:List Expr} {t:iY} {e:Expr}
def ah:DA Z X [] qP:=by
 refine e9.imp λg H Q d=>?_;rfl';obtain⟨G,i,P,s,e,p,q⟩:=d;ac_rfl;exact q _ p _ G H (.refl s) .nil
def ae(d:DE Z X e ta)(j:DA Z X es t)(k:starEach (e::es) X.env=(false,eval e X.env)::starEach es X.env:=by rfl):DA Z X (e::es) (Br ta t):=by
 refine(cE d j k).imp ?_;intro w H Q l;rfl';obtain⟨G,g,P,s,e,h,q⟩:=l;ac_rfl;refine#[G,g,_,s,e,h,λa d v n y f dv=>?_];exact#[n,g,_,f.sub,e.mono f.gg,d,λz o A p r i u=>q _ o _ p r (f.trans i) (.cons (dv.mono i.gg) u)]
def QG(t:iY):bw:=λf P=>t f λd=>d.length<=sizeLine/\P (.tup d)
def Di(t:iY):bw:=λf P=>t f λd=>d.length<=sizeLine/\P (.lst d)
def cZ{d}(h:DA Z X es t):DE Z X (.Tuple es d pos) (QG t):=by
 refine(Ca h).imp ?_;intro n H Q i;rfl';obtain⟨G,k,P,s,e,h,q⟩:=i;ac_rfl;exists G,k,_,s,e,h;rintro r ⟨l,m⟩ u v w d f;exact#[by rw[f.length];exact l,λp g=>q _ m _ _ _ (d.trans (.new d.sub g)) (.tup aD (f.mono (bp (d.sub.free g) _)))]
def cF(h:DA Z X es t):DE Z X (.List es pos) (Di t):=by
 refine(HX h).imp ?_;intro n H Q i;rfl';obtain⟨G,k,P,s,e,h,q⟩:=i;ac_rfl;exists G,k,_,s,e,h;rintro r ⟨l,m⟩ u v w d f;exact#[by rw[f.length];exact l,λp g=>q _ m _ _ _ (d.trans (.new d.sub g)) (.lst aD (f.mono (bp (d.sub.free g) _)))]
def xJ(r:List D->(D->Prop)->Prop)(t:iY):bw:=λd P=>t d λf=>r f P
def uV:∀f H Q,fj Z (xJ r t) f H Q->Gb Z t f H λg i=>g6 Z r g i Q:=by
 intro f H Q k;rfl';obtain⟨G,m,P,s,e,h,q⟩:=k;ac_rfl;exact#[G,m,_,s,e,h,λn o g p i j u=>#[p,n,P,j.sub,u,o,λd w v x y z dv=>q d w v x y (j.trans z) dv]]
def K3(F:FnOk X.prog X.w X.K X.mg X.base cg k f g i (aU Z d))(m:c7 k X.A)(n:Gl X x)(o:X.mg x\(.ref f))(r:ak X.K (.ref f)=true)(u:Binds X.K g i [])
  (v:DA Z X (e::es) t) (y:(x==("__debug__":Str))=false:=by decide) (z:starEach (e::es) X.env=(false,eval e X.env)::starEach es X.env:=by rfl) (B:(backTo pos (starEach es X.env)).any (·.1)=false:=by rfl):
  DE Z X (.Call (.Name x p) (e::es) [] pos) (xJ d t):=
 (tX F m n o r u .nil sv v y z B).imp λC H Q h=>by
  rfl';have h:=uV C H Q h;obtain⟨G,I,P,s,e,h,q⟩:=h;ac_rfl;exact#[G,I,P,s,e,h,λJ L j M l N O=>by show aU Z d (j++ []) l Q E0;rw[iV];exact q J L j M l N O]
def aH{id:String}{x:Str}{p:Pos}{r:List D->(D->Prop)->Prop}(d:cB X (.builtin id) (g6 Z r))(f:Gl X x)(g:X.mg x=none)(h:bootBuiltins x\(.builtin id))(i:DA Z X (e::es) t)(j:x≠"__name__":=by decide)(k:(x==("__debug__":Str))=false:=by decide)
  (l:starEach (e::es) X.env=(false,eval e X.env)::starEach es X.env:=by rfl) (m:(backTo pos (starEach es X.env)).any (·.1)=false:=by rfl):
  DE Z X (.Call (.Name x p) (e::es) [] pos) (xJ r t):=(qE d f g h i j k l m).imp uV
def gW(d:cB X (.type T) (g6 Z r))(f:Gl X x)(g:X.mg x=none)(h:bootBuiltins x\(.type T))(i:DA Z X (e::es) t)(j:x≠"__name__":=by decide)(k:(x==("__debug__":Str))=false:=by decide)
  (l:starEach (e::es) X.env=(false,eval e X.env)::starEach es X.env:=by rfl) (m:(backTo pos (starEach es X.env)).any (·.1)=false:=by rfl):
  DE Z X (.Call (.Name x p) (e::es) [] pos) (xJ r t):=(sA d f g h i j k l m).imp uV
end
end L2
namespace L2
open PySem PySem.Spec PyProof.Rows
section
variable {Z:DC} {X:Cx}
def Qz:gS:=λx y P=>match x,y with
 | .int i, .int j=>P (.int (i+j))
 | .lst a, .lst b=>a.length+b.length<=sizeLine/\P (.lst (a++b))
 | .tup a, .tup b=>a≠ []/\a.length+b.length<=sizeLine/\b≠ []/\P (.tup (a++b))
 |_,_=>False
def dI(c:Int->Int->Prop)(g:Int->Int->Int):gS:=λx y P=>match x,y with
 | .int i, .int j=>c i j/\P (.int (g i j))
 |_,_=>False
def RG(g:Int->Int->Int):gS:=λx y P=>match x,y with
 | .int i, .int j=>P (.int (g i j))
 |_,_=>False
def UQ:gS:=RG λi j=>i-j
def QE:gS:=λx y P=>match x,y with
 | .int i, .int j=>Hk i j/\P (.int (i*j))
 | .lst a, .int k=> -(2^63)<=k/\k<2^63/\a.length*k.toNat<=sizeLine/\P (.lst (aj k.toNat a).flatten)
 |_,_=>False
def UB:gS:=dI Qq λi j=>i / j
def UJ:gS:=dI (λ_ j=>0<j) λi j=>i%j
def UN:gS:=dI Qr λi j=>i^j.toNat
def BX(h:OpR X f (rI c λi j=> .int (g i j))):OpR X f (cq Z (dI c g)):=by
 refine h.imp ?_;intro x y H Q e;rfl';obtain⟨G,a,b,P,s,l,m,d,q⟩:=e;ac_rfl;unfold dI at d
 split at d
 .exact#[_,_,l.ofInt,m.ofInt,d.1,q _ d.2 _ G H (.refl s) (.int _)]
 .exact d.elim
def O0(h:OpR X f (Cf λi j=> .int (g i j))):OpR X f (cq Z (RG g)):=by
 refine h.imp ?_;intro x y H Q d;rfl';obtain⟨G,a,b,P,s,k,l,c,q⟩:=d;ac_rfl;unfold RG at c
 split at c
 .exact#[_,_,k.ofInt,l.ofInt,q _ c _ G H (.refl s) (.int _)]
 .exact c.elim
def HS:OpR X (binaryOp .Sub) (cq Z UQ):=O0 Pl
def qD:OpR X (binaryOp .FloorDiv) (cq Z UB):=BX Mw
def eJ:OpR X (binaryOp .Mod) (cq Z UJ):=BX Pf
def HQ:OpR X (binaryOp .Pow) (cq Z UN):=BX Pj
def cz(e:X.K=Z.K:=by rfl):OpR X (binaryOp .Add) (cq Z Qz):=by
 refine(Pc.or (HV.or (Mv))).imp ?_;rintro x y H Q ⟨G,a,b,P,s,h,i,c,q⟩;unfold Qz at c
 split at c
 .exact .inl #[_,_,h.ofInt,i.ofInt,q _ c _ G H (.refl s) (.int _)]
 .obtain⟨n,o,rfl,j,d⟩:=h.je
  obtain⟨r,t,rfl,k,f⟩:=i.je;obtain⟨l,m⟩:=c;refine .inr (.inl #[_,_,_,_,rfl,rfl,s _ _ j,s _ _ k,by rw[d.length,f.length];exact l,λp g=>?_])
  exact q _ m _ _ _ (.new s g) (.lst aD ((d.append f).mono (bp (s.free g) _)))
 .obtain⟨n,o,rfl,j,d⟩:=h.pB
  obtain⟨r,t,rfl,k,f⟩:=i.pB;obtain⟨u,l,v,m⟩:=c;refine .inr (.inr #[_,_,_,_,rfl,rfl,eG.of (s _ _ j),eG.of (s _ _ k),?_,by rw[d.length,f.length];exact l,?_])
  .rintro rfl;cases d;exact u rfl
  .refine#[?_,λ_ p g=>q _ m _ _ _ (.new s g) (.tup aD ((d.append f).mono (bp (s.free g) _)))]
   rintro rfl;cases f;exact(v rfl).elim
 .exact c.elim
theorem DvAll.rep(h:DvAll Z G a b):∀k:Nat,DvAll Z G (aj k a).flatten (aj k b).flatten
 |0=> .nil
 |k+1=>by rw[wj,wj,jG,jG];exact h.append (DvAll.rep h k)
def j3:OpR X (binaryOp .Mult) (cq Z QE):=by
 refine(Pg.or Pk).imp ?_;intro x y H Q h;rfl';obtain⟨G,a,b,P,s,d,e,c,q⟩:=h;ac_rfl;unfold QE at c
 split at c
 .exact .inl #[_,_,d.ofInt,e.ofInt,c.1,q _ c.2 _ G H (.refl s) (.int _)]
 .obtain⟨r,t,rfl,j,f⟩:=d.je
  obtain⟨k,l,m,n⟩:=c;refine .inr #[_,_,_,rfl,e.ofInt,s _ _ j,k,l,by rw[f.length];exact m,λp g=>?_]
  exact q _ n _ _ _ (.new s g) (.lst aD ((f.rep _).mono (bp (s.free g) _)))
 .exact c.elim
mutual
def D.py:D->Option PyData
 | .bC=>some .none
 | .bl b=>some (.bool b)
 | .int i=>some (.int i)
 | .str x=>some (.str x)
 | .lst l=>(gj l).map PyData.list
 | .tup l=>(gj l).map PyData.tuple
 | .mV _=>none
 | .rng _ _=>none
 | .obj _=>none
 | .fS _=>none
 | .set _ _=>none
 | .x _=>none
 | .err _ _ _=>none
def gj:List D->Option (List PyData)
 | []=>some []
 |d::ds=>(D.py d).bind λa=>(gj ds).map λas=>a::as
end
def Dv.dp{K:ab}{G:Hp}{v:V}{d:D}(h:Dv Z G v d):∀{e:PyData},d.py\e->Dp K G v e:=by
 refine Dv.rec (motive_1:=λv d _=>∀{e:PyData},d.py\e->Dp K G v e) (motive_2:=λn f _=>∀{g:List PyData},gj f\g->jI K G n g) ?_ ?_ ?_ ?_ ?_ ?_ ?_ ?_ ?_ ?_ ?_ ?_ ?_ ?_ ?_ h
 .intro e h;rw[D.py] at h;cases h;exact .bC
 .intro b e h;rw[D.py] at h;cases h;exact .bl b
 .intro i e h;rw[D.py] at h;cases h;exact .int i
 .intro x k e h;rw[D.py] at h;cases h;exact .str x k
 .intro a o f q _ j e h
  rw[D.py] at h;cases c:gj f with
  |none=>rw[c] at h;cases h
  |some l=>rw[c] at h;cases h;exact .lst (cG.of q) (j c)
 .intro a o f q _ j e h
  rw[D.py] at h;cases c:gj f with
  |none=>rw[c] at h;cases h
  |some l=>rw[c] at h;cases h;exact .tup (eG.of q) (j c)
 .intro a e h;simp[D.py] at h
 .intro a lo u _ e h;simp[D.py] at h
 .intro a r _ _ e h;simp[D.py] at h
 .intro p z R w _ _ _ _ _ _ e h;simp[D.py] at h
 .intro a b r _ e h;simp[D.py] at h
 .intro a A k _ _ e h;simp[D.py] at h
 .intro a C B E o f _ _ _ _ e h;simp[D.py] at h
 .intro g h;rw[gj] at h;cases h;exact .nil
 .intro v n d f _ _ s t g h
  rw[gj] at h;cases c:d.py with
  |none=>rw[c] at h;cases h
  |some x=>
   rw[c] at h;cases m:gj f with
   |none=>rw[m] at h;cases h
   |some y=>rw[m] at h;cases h;exact .cons (s c) (t m)
def eG.mono{K:ab}{H b:Hp}(s:bg H b)(h:eG K H a c):eG K b a c:=by
 rcases h with (h| ⟨o,h⟩) |h
 .exact .inl (.inl (s _ _ h))
 .exact .inl (.inr #[o,s _ _ h])
 .exact .inr h
theorem Dp.mono{K:ab}{G H:Hp}(s:bg G H)(h:Dp K G v d):Dp K H v d:=
 Dp.rec (motive_1:=λv d _=>Dp K H v d) (motive_2:=λc e _=>jI K H c e) .bC .bl .int .str (λh _ a=> .lst (h.mono s) a) (λh _ a=> .tup (h.mono s) a) .nil (λ_ _ a b=> .cons a b) h
def QA(c:Bool):gS:=λx y P=>∃a b,x.py\a/\y.py\b/\a.depth<=64/\P (.bl (if c then !PyData.eqv a b else PyData.eqv a b))
abbrev xK:gS:=QA false
abbrev sY:gS:=QA true
def kE(e:X.A.units+64<cLine):OpR X (compareOp .Eq) (cq Z xK):=by
 refine(Pd e).imp ?_;intro x y H Q f;rfl';obtain⟨G,a,b,P,s,h,i,⟨c,d,j,k,l,m⟩,q⟩:=f;ac_rfl;exact#[c,d,(h.dp j).mono s,(i.dp k).mono s,l,q _ m _ G H (.refl s) (.bl _)]
def gI(e:X.A.units+64<cLine):OpR X (compareOp .NotEq) (cq Z sY):=by
 refine(Ph e).imp ?_;intro x y H Q f;rfl';obtain⟨G,a,b,P,s,h,i,⟨c,d,j,k,l,m⟩,q⟩:=f;ac_rfl;exact#[c,d,(h.dp j).mono s,(i.dp k).mono s,l,q _ m _ G H (.refl s) (.bl _)]
def xM(h:P (.bl (decide (i=j)))):xK (.int i) (.int j) P:=#[.int i, .int j,rfl,rfl,by simp[PyData.depth],by
 have:PyData.eqv (.int i) (.int j)=decide (i=j):=by
  rw[PyData.eqv]
  by_cases z:i=j<;>simp[z]
 simpa [this] using h]
def sZ(h:P (.bl (!decide (i=j)))):sY (.int i) (.int j) P:=#[.int i, .int j,rfl,rfl,by simp[PyData.depth],by
 have:PyData.eqv (.int i) (.int j)=decide (i=j):=by
  rw[PyData.eqv]
  by_cases z:i=j<;>simp[z]
 simpa [this] using h]
def Df(p:Int->Int->Bool):gS:=λx y P=>match x,y with
 | .int i, .int j=>P (.bl (p i j))
 |_,_=>False
def yv(h:OpR X f (Cf λi j=> .bl (p i j))):OpR X f (cq Z (Df p)):=by
 refine h.imp ?_;intro x y H Q d;rfl';obtain⟨G,a,b,P,s,g,k,c,q⟩:=d;ac_rfl;unfold Df at c
 split at c
 .exact#[_,_,g.ofInt,k.ofInt,q _ c _ G H (.refl s) (.bl _)]
 .exact c.elim
end
end L2
namespace L2
open PySem PySem.Spec PyProof.Rows
section
variable {Z:DC} {X:Cx}
abbrev Yn:gS:=Df λi j=>decide (i<j)
abbrev Ym:gS:=Df λi j=>decide (i<=j)
abbrev Yl:gS:=Df λi j=>decide (j<i)
def kF:OpR X (compareOp .Lt) (cq Z Yn):=yv Te
def Gq:OpR X (compareOp .LtE) (cq Z Ym):=yv Td
def Gp:OpR X (compareOp .Gt) (cq Z Yl):=yv Tc
def F5:D->Bool
 | .bC=>true
 |_=>false
def QC(a:Bool):gS:=λx y P=>match y with
 | .bC=>P (.bl (if a then !F5 x else F5 x))
 |_=>False
def AE(h:Dv Z G v d):decide (v= .bC)=F5 d:=by cases h<;>rfl
def sh:OpR X (compareOp .Is) (cq Z (QC false)):=by
 refine Pe.imp ?_;rintro x y H Q ⟨G,a,b,P,s,d,e,c,q⟩;cases e<;>first|exact c.elim|skip
 exact#[rfl,by rw[AE d];exact q _ c _ G H (.refl s) (.bl _)]
def u4:OpR X (compareOp .IsNot) (cq Z (QC true)):=by
 refine My.imp ?_;rintro x y H Q ⟨G,a,b,P,s,d,e,c,q⟩;cases e<;>first|exact c.elim|skip
 exact#[rfl,by rw[AE d];exact q _ c _ G H (.refl s) (.bl _)]
def eE:D->Bool
 | .bC=>true
 | .bl _=>true
 | .int _=>true
 | .str _=>true
 |_=>false
def iC:D->D->Bool
 | .bC, .bC=>true
 | .bl a, .bl b=>a==b
 | .bl a, .int b=>(if a then 1 else 0)==b
 | .int a, .bl b=>a==(if b then 1 else 0)
 | .int a, .int b=>a==b
 | .str a, .str b=>a==b
 |_,_=>false
def inD(x:D)(l:List D):Bool:=l.any λy=>iC y x
def tD(h:Dv Z G v d):iD v=eE d:=by cases h<;>rfl
def oV(h:DvAll Z G b c):b.all iD=c.all eE:=h.ind (p:=λb c=>b.all iD=c.all eE) rfl λa _ e=>by rw[vD,vD,tD a,e]
def Bz(h:Dv Z G v d)(k:Dv Z G u e):xU v u=iC d e:=by cases h<;>first|rfl| (cases k<;>rfl)
theorem F1(h:Dv Z G v d):∀{b:List V}{c:List D},DvAll Z G b c->ON v b=inD d c
 |_,_, .nil=>rfl
 |_,_, .cons a e=>by
  unfold ON inD;rw[aa8,aa8,Bz a h];exact GM _ (F1 h e)
def KW(a:Bool):gS:=λx y P=>match y with
 | .lst l=>eE x=true/\l.all eE=true/\P (.bl (if a then !inD x l else inD x l))
 | .tup l=>eE x=true/\l.all eE=true/\P (.bl (if a then !inD x l else inD x l))
 |_=>False
def M7:∀x y H Q,cq Z (KW c) x y H Q->Ts X.K c x y H Q:=by
 rintro x y H Q ⟨G,a,b,P,s,d,l,f,q⟩;cases l<;>first|exact f.elim|skip
 .rename_i p g m h e
  obtain⟨i,j,k⟩:=f;refine#[p,g,rfl, .inl (cG.of (s _ _ h)),by rw[tD d];exact i,by rw[oV e];exact j,?_]
  rw[F1 d e];exact q _ k _ G H (.refl s) (.bl _)
 .rename_i p g m h e
  obtain⟨i,j,k⟩:=f;refine#[p,g,rfl, .inr (eG.of (s _ _ h)),by rw[tD d];exact i,by rw[oV e];exact j,?_]
  rw[F1 d e];exact q _ k _ G H (.refl s) (.bl _)
def se:OpR X (compareOp .In) (cq Z (KW false)):=Gw.imp M7
def hV:OpR X (compareOp .NotIn) (cq Z (KW true)):=z7.imp M7
def UI:gS:=λx y P=>match x,y with
 | .lst l, .int i=>∃d,fc l i\d/\P d
 | .tup l, .int i=>∃d,fc l i\d/\P d
 | .mV l, .int i=>∃n,fc l i\n/\P (.int n)
 |_,_=>False
def wO(h:DvAll Z G b a)(e:fc a i\d):∃v,fc b i\v/\Dv Z G v d:=by
 unfold fc at e ⊢;rw[h.length];cases z:k4 a.length i with
 |none=>rw[z] at e;cases e
 |some j=>rw[z] at e;exact h.get e
def Kv(f:a->b)(l:List a)(i:Int):fc (l.map f) i=(fc l i).map f:=by
 unfold fc;rw[aG];cases k4 l.length i with
 |none=>rfl
 |some j=>show(l.map f)[j]? =_;rw[bW];rfl
variable {a b c e:Expr} {ta tb tc te:bw} {pos:Pos}
def aE(p:DE Z X a ta)(r:DE Z X b tb)(t:X.K=Z.K:=by rfl)(u:sS b:=by exact λ_ _=>rfl):DE Z X (.Subscript a b pos) (KZ UI ta tb):=by
 refine(GA (yq.or OO) p r u).imp λw H Q h=>?_;rfl';obtain⟨G,x,P,s,e,h,q⟩:=BV w H Q h;ac_rfl;refine#[G,x,P,s,e,h,λd y v z A B dv=>?_];rfl';obtain⟨C,E,F,I,J,L,M⟩:=q d y v z A B dv;ac_rfl;refine#[C,E,F,I,J,L,λN k O R S T U=>?_];obtain⟨G,a,b,P,s,l,m,f,q⟩:=M N k O R S T U;unfold UI at f
 split at f
 .obtain⟨d,i,j⟩:=f
  obtain⟨_,_,rfl,h,e⟩:=l.je;obtain⟨v,n,dv⟩:=wO e i;exact .inl #[_,_,_,v,rfl,m.ofInt,cG.of (s _ _ h),n,q _ j _ G _ (.refl s) dv]
 .obtain⟨d,i,j⟩:=f
  obtain⟨_,_,rfl,h,e⟩:=l.pB;obtain⟨v,n,dv⟩:=wO e i;exact .inr #[_,_,_,v,rfl,m.ofInt,eG.of (s _ _ h),n,q _ j _ G _ (.refl s) dv]
 rotate_left
 .exact f.elim
 .obtain⟨d,i,j⟩:=f
  rfl';obtain⟨_,rfl,h,_⟩:=l.Mq;ac_rfl;refine .inl #[_,_,_, .int d,rfl,m.ofInt,by rw[t];exact h.mono s,by rw[Kv,i];rfl,q _ j _ G _ (.refl s) (.int d)]
def cutD{f:Type}(d:List f)(lo g:Option Int):List f:=(d.drop (HT.cC d.length 0 lo)).take (HT.cC d.length d.length g-HT.cC d.length 0 lo)
def Hq(h:DvAll Z G d f)(lo g:Option Int):DvAll Z G (vL d lo g) (cutD f lo g):=by
 unfold vL cutD;rw[h.length];exact(h.drop _).take _
def II(f:d->h)(l:List d)(lo g:Option Int):cutD (l.map f) lo g=(cutD l lo g).map f:=by
 unfold cutD;rw[aG,sQ,aba]
abbrev E6:=DN->(Option Int->Prop)->Prop
def Dj:E6:=λ_ P=>P none
def RM(t:bw):E6:=λf P=>t f λd=>match d with
 | .int i=>P (some i)
 |_=>False
def SW(Z:DC)(t:E6):TO:=λg H Q=>∃(G:Hp)(d:DN)(P:Option Int->Prop),bg G H/\fb Z G g d/\t d P/\∀o,P o->∀h f,Ext G H h f->Q o f
def DO(Z:DC)(X:Cx)(e:Option Expr)(t:E6):Prop:=PO X e (SW Z t)
def PO.imp{e:Option Expr}(h:PO X e t)(f:∀g H Q,t' g H Q->t g H Q):PO X e t':=λd s g H Q I q=>h d s g H Q I (f _ _ _ q)
def f9:DO Z X none Dj:=by
 refine MN.imp λg H Q d=>?_;rfl';obtain⟨G,i,P,s,e,p,q⟩:=d;ac_rfl;exact q _ p G H (.refl s)
def gb(h:DE Z X e te):DO Z X (some e) (RM te):=by
 refine(MO h).imp ?_;intro n H Q g;rfl';obtain⟨G,j,P,s,e,h,q⟩:=g;ac_rfl;refine#[G,j,_,s,e,h,λd f v k l m dv=>?_];cases dv<;>first|exact f.elim|skip
 exact#[_,rfl,q _ f k l m]
def Yp(g:bw)(h i:E6):bw:=λf P=>g f λx=>h f λlo=>i f λd=>match x with
 | .lst l=>P (.lst (cutD l lo d))
 | .tup l=>¬(HT.cC l.length 0 lo=0/\HT.cC l.length l.length d=l.length)/\P (.tup (cutD l lo d))
 | .mV l=>P (.lst ((cutD l lo d).map D.int))
 |_=>False
variable {lo hi:Option Expr} {tl th:E6} {p2:Pos}
def fh(r:DE Z X e te)(m:DO Z X lo tl)(g:DO Z X hi th)(t:X.K=Z.K:=by rfl):DE Z X (.Subscript e (.Slice lo hi none p2) pos) (Yp te tl th):=by
 refine(JQ (Nh.or PZ) r m g).imp ?_;intro C H Q w;rfl';obtain⟨G,n,P,s,o,h,q⟩:=w;ac_rfl;refine#[G,n,_,s,o,h,λd z v A F j dv=>?_];refine#[A,n,_,j.sub,o.mono j.gg,z,λl m B I k=>?_];refine#[B,n,_,k.sub,(o.mono j.gg).mono k.gg,m,λu g J L f=>?_];have x:=(j.trans k).trans f;have dv:=(dv.mono k.gg).mono f.gg;cases dv<;>first|exact g.elim|skip
 .rename_i h e
  exact .inl #[_,_,rfl,cG.of (f.sub _ _ h),λp i=>q _ g _ _ _ (x.trans (.new f.sub i)) (.lst aD ((Hq e l u).mono (bp (f.sub.free i) _)))]
 .rename_i h e
  refine .inr #[_,_,rfl,eG.of (f.sub _ _ h),by rw[e.length];exact g.1,λp i=>q _ g.2 _ _ _ (x.trans (.new f.sub i)) (.tup aD ((Hq e l u).mono (bp (f.sub.free i) _)))]
 .rename_i h _
  refine .inl #[_,_,rfl,by rw[t];exact h.mono f.sub,λp i=>q _ g _ _ _ (x.trans (.new f.sub i)) (.lst aD ?_)]
  show DvAll Z _ (cutD _ l u) _;rw[II];exact .ints _
def Hn:bS:=λd P=>match d with
 | [.lst l]=>P (.int l.length)
 | [.tup l]=>P (.int l.length)
 | [.mV l]=>P (.int l.length)
 |_=>False
def bA(f:X.K=Z.K:=by rfl):cB X (.builtin "len") (g6 Z Hn):=by
 refine zN.imp ?_;rintro g H Q ⟨G,i,P,s,dv,d,q⟩;unfold Hn at d
 split at d
 .obtain⟨_,rfl,a⟩:=dv.ofOne
  obtain⟨_,_,rfl,h,e⟩:=a.je;exact#[_,_,rfl, .inl (cG.of (s _ _ h)),by rw[e.length];exact q _ d _ G H (.refl s) (.int _)]
 .obtain⟨_,rfl,a⟩:=dv.ofOne
  obtain⟨_,_,rfl,h,e⟩:=a.pB;exact#[_,_,rfl, .inr (eG.of (s _ _ h)),by rw[e.length];exact q _ d _ G H (.refl s) (.int _)]
 .obtain⟨_,rfl,a⟩:=dv.ofOne
  obtain⟨_,rfl,h,_⟩:=a.Mq;exact#[_,_,rfl, .inl (by rw[f];exact h.mono s),by rw[aG];exact q _ d _ G H (.refl s) (.int _)]
 .exact d.elim
def Ky:bS:=λd P=>match d with
 | [.lst l]=>P (.lst l)
 | [.tup l]=>P (.lst l)
 |_=>False
def sW:cB X (.type "list") (g6 Z Ky):=by
 refine qN.imp ?_;rintro g H Q ⟨G,i,P,s,dv,d,q⟩;unfold Ky at d
 split at d
 .obtain⟨_,rfl,a⟩:=dv.ofOne
  obtain⟨_,_,rfl,h,e⟩:=a.je;exact#[_,_,rfl, .inl (cG.of (s _ _ h)),λp f=>q _ d _ _ _ (.new s f) (.lst aD (e.mono (bp (s.free f) _)))]
 .obtain⟨_,rfl,a⟩:=dv.ofOne
  obtain⟨_,_,rfl,h,e⟩:=a.pB;exact#[_,_,rfl, .inr (eG.of (s _ _ h)),λp f=>q _ d _ _ _ (.new s f) (.lst aD (e.mono (bp (s.free f) _)))]
 .exact d.elim
def V6:String->D->Bool
 |"int", .int _=>true
 |"int", .bl _=>true
 |"bool", .bl _=>true
 |"list", .lst _=>true
 |"tuple", .tup _=>true
 |_,_=>false
def Ta(n:String):Bool:=n=="int"||n=="bool"||n=="list"||n=="tuple"
def Q2:D->Bool
 | .bC=>true
 | .bl _=>true
 | .int _=>true
 | .str _=>true
 | .lst _=>true
 | .tup _=>true
 |_=>false
def UH(n:String)(t:bw):bw:=λf P=>t f λd=>Q2 d=true/\P (.bl (V6 n d))
def OV{K:ab}{H:Hp}{v:V}{d:D}{n:String}(hn:Ta n=true)(hd:Q2 d=true)(h:Dv Z H v d):∃t,k6 K H v t/\cy K t (.type n)\(V6 n d):=by
 unfold Ta at hn;rw[Bool.or_eq_true,Bool.or_eq_true,Bool.or_eq_true,beq_iff_eq,beq_iff_eq,beq_iff_eq,beq_iff_eq] at hn;cases h with
 |bC=>exists _, .bC;rcases hn with ((rfl|rfl) |rfl) |rfl<;>kernel_rfl
 |bl b=>exists _, .bl b;rcases hn with ((rfl|rfl) |rfl) |rfl<;>kernel_rfl
 |int b=>exists _, .int b;rcases hn with ((rfl|rfl) |rfl) |rfl<;>kernel_rfl
 |str b=>exists _, .str b;rcases hn with ((rfl|rfl) |rfl) |rfl<;>kernel_rfl
 |lst h a=>exists _, .lst h;rcases hn with ((rfl|rfl) |rfl) |rfl<;>kernel_rfl
 |tup h a=>exists _, .tup h;rcases hn with ((rfl|rfl) |rfl) |rfl<;>kernel_rfl
 |_=>cases hd
end
section
variable {Z:DC} {X:Cx} {a b c e:Expr} {ta tb tc te:bw} {pos:Pos}
def jW(n:String)(k:DE Z X a ta)(l:Gl X "isinstance")(m:X.mg "isinstance"=none)(o:Gl X x)(r:X.mg x=none)(u:bootBuiltins x\(.type n))(ok:Ta n=true:=by decide)
  (w:x≠"__name__":=by decide) (y:(x==("__debug__":Str))=false:=by decide) (g:starEach [a, .Name x f] X.env=(false,eval a X.env)::starEach [.Name x f] X.env:=by rfl)
  (z:(backTo pos (starEach [.Name x f] X.env)).any (·.1)=false:=by rfl) (A:starEach [.Name x f] X.env=(false,eval (.Name x f) X.env)::starEach [] X.env:=by rfl):
  DE Z X (.Call (.Name "isinstance" p) [a, .Name x f] [] pos) (UH n ta):=by
 have B:PE X (.Name x f) (tC (.ty n)):=MB o r u rfl w y;refine(qE Bm l m (by decide+kernel) (cE k (cE B e9 A) g) ∅ ∅ g z).imp ?_
 intro O H Q C;rfl';obtain⟨G,F,P,s,e,h,q⟩:=C;ac_rfl;exists G,F,_,s,e,h;rintro d ⟨I,J⟩ v L i j dv;obtain⟨t,M,N⟩:=OV (K:=X.K) (H:=i) ok I (dv.mono j.sub);exact#[v,n,t,_,rfl,M,N,q _ J _ L i j (.bl _)]
def uW(Z:DC)(g:eQ):TG:=λv j H Q=>∃(G:Hp)(f:DN)(d:D)(P:DN->Prop),bg G H/\fb Z G j f/\Dv Z G v d/\g d f P/\∀h,P h->∀i,fb Z G i h->Q i H
def DG(Z:DC)(X:Cx)(e:Expr)(g:eQ):Prop:=PG X e (uW Z g)
def PG.imp{e:Expr}{t i:TG}(h:PG X e t)(f:∀v g H Q,i v g H Q->t v g H Q):PG X e i:=λd s g H v u Q I r q=>h d s g H v u Q I r (f _ _ _ _ q)
def wU(i:Nat):eQ:=λd f P=>P (f.set i (some d))
def bG(i:Nat)(f:X.N.Nodup)(g:X.N[i]?\x:=by rfl)(hx:Loc X.env.scope x:=by exact Or.inl rfl)(j:X.fn x=true\/X.env.scope.names.lookup x\.local:=by subst_eqs):DG Z X (.Name x k) (wU i):=by
 refine(pL f g hx j).imp λv n H Q l=>?_;rfl';obtain⟨G,p,d,P,s,e,dv,h,q⟩:=l;ac_rfl;exact q _ h _ (e.set dv)
abbrev nT:=List D->DN->(DN->Prop)->Prop
def OZ(Z:DC)(g:nT):zK:=λj k H Q=>∃(G:Hp)(d:DN)(f:List D)(P:DN->Prop),bg G H/\fb Z G k d/\DvAll Z G j f/\g f d P/\∀h,P h->∀i,fb Z G i h->Q i H
def NV(Z:DC)(X:Cx)(d:List Expr)(g:nT):Prop:=Bj X d (OZ Z g)
def Bj.imp{i:List Expr}(h:Bj X i t)(f:∀v g H Q,j v g H Q->t v g H Q):Bj X i j:=λd s g H v u Q I r q=>h d s g H v u Q I r (f _ _ _ _ q)
def K7:nT:=λd f P=>d= []/\P f
def Hw(g:eQ)(f:nT):nT:=λh i P=>match h with
 |d::r=>g d i λj=>f r j P
 | []=>False
def xP:NV Z X [] K7:=by
 refine yV.imp λv g H Q d=>?_;rfl';obtain⟨G,j,k,P,s,e,dv,⟨h,p⟩,q⟩:=d;subst h;cases dv;ac_rfl;exact#[rfl,q _ p _ e]
def kc(i:DG Z X e g)(j:NV Z X d f)(k:(assignEach (e::d) X.env).map (·.2)=assign e X.env::(assignEach d X.env).map (·.2):=by rfl):NV Z X (e::d) (Hw g f):=by
 refine(qF i j k).imp ?_;intro v u H Q l;rfl';obtain⟨G,n,x,P,s,e,dv,h,q⟩:=l;ac_rfl;cases dv with
 |nil=>exact h.elim
 |cons a o=>
  refine#[_,_,rfl,G,n,_,_,s,e,a,h,λp r y t=>?_];exact#[G,p,_,P,s,t,o,r,q]
def K8(n:Nat)(f:nT):eQ:=λd g P=>match d with
 | .tup l=>l.length=n/\f l g P
 |_=>False
def Bu(n:Nat)(i:X.calm=true)(h:NV Z X f g)(j:(assignEach f X.env).length=n:=by rfl)(l:(assignEach f X.env).findIdx? (·.1)=none:=by rfl):DG Z X (.Tuple f k pos) (K8 n g):=by
 refine(Cc i h j l).imp ?_;rintro v r H Q ⟨G,m,d,P,s,e,dv,h,q⟩;cases dv<;>first|exact h.elim|skip
 rename_i a o t p f
 exact#[a,o,rfl,eG.of (s _ _ p),by rw[f.length];exact h.1,G,m,_,P,s,e,f,h.2,q]
def xn(Z:DC)(G:Hp)(J:It)(g:List D):Prop:=∀h f,bg G h->bg h f->∀i:Nat,(i<g.length->J.go i f)/\(g.length<=i->J.stop i f)/\
 ∀x j,i<g.length->J.yld i f x j->∃k d,Ext h f k j/\g[i]?\d/\Dv Z k x d
def yx(Z:DC)(i:jH):TI:=λj H R=>∃(G:Hp)(d:DN)(P:List D->Prop),bg G H/\fb Z G j d/\i d P/\∀f,P f->∀J g h,Ext G H g h->xn Z g J f->R J h
def DI(Z:DC)(X:Cx)(d e:Expr)(f:jH):Prop:=PI X d e (yx Z f)
def PI.imp{i e:Expr}(h:PI X i e t)(f:∀g H Q,t' g H Q->t g H Q):PI X i e t':=λd s g H Q I q=>h d s g H Q I (f _ _ _ q)
def RT(t:bw):jH:=λf P=>t f λd=>match d with
 | .lst l=>P l
 |_=>False
def Ea{K:ab}{a:Addr}(h:G a\(.lst f))(e:DvAll Z G f j):xn Z G (Rk K a) j:=by
 intro o r k m i;have g:=cG.of (K:=K) (m _ _ (k _ _ h));have l:=e.length;refine#[λn=>#[f,f[i],g,cv ()],λn=>#[f,g,()],?_]
 rintro x s n ⟨rfl,p⟩;obtain⟨d,q,dv⟩:=e.DR (p _ g);exact#[o,d, .refl m,q,dv.mono k]
def br(h:DE Z X e te):DI Z X j e (RT te):=by
 refine(EB h).imp ?_;intro r H Q k;rfl';obtain⟨G,m,P,s,n,h,q⟩:=k;ac_rfl;refine#[G,m,_,s,n,h,λd f v o p g dv=>?_];cases dv<;>first|exact f.elim|skip
 rename_i i e
 exact#[_,rfl,#[_,cG.of (g.sub _ _ i)],q _ f _ o p g (Ea i e)]
def eM(lo:Int)(n:Nat):List D:=(ac n).map λ(k:Nat)=>D.int (lo+(k:Int))
def vZ{lo:Int}{n i:Nat}(h:i<n):(eM lo n)[i]?\(.int (lo+i)):=by
 unfold eM;rw[bW,qp h];rfl
def AF(lo:Int)(n:Nat):xn Z G (NZ lo n) (eM lo n):=by
 intro f h j g i;have l:(eM lo n).length=n:=by unfold eM;simp
 rw[l];refine#[λd=>d,λd=>d,?_];rintro x k d ⟨rfl,rfl⟩;exact#[f,_, .refl g,vZ d, .int _]
def QH(t:iY):jH:=λd P=>t d λf=>match f with
 | [.int j]=>(-(2^62)<=j/\j<2^62)/\P (eM 0 j.toNat)
 |_=>False
variable {t:iY}
def rL(g:Gl X "range")(i:X.mg "range"=none)(j:DA Z X [a] t)(k:starEach [a] X.env= [(false,eval a X.env)]:=by rfl):DI Z X f (.Call (.Name "range" p) [a] [] pos) (QH t):=by
 refine(yX g i j k).imp ?_;intro w H Q l;rfl';obtain⟨G,n,P,s,o,h,q⟩:=l;ac_rfl;refine#[G,n,_,s,o,h,λy d z r u v dv=>?_]
 split at d
 .obtain⟨_,rfl,a⟩:=dv.ofOne
  exact#[_,by rw[a.ofInt],d.1.1,d.1.2,q _ d.2 _ r u v (AF 0 _)]
 .exact d.elim
def iB(l:List D):List D:=l.mapIdx λi x=> .tup [.int (i:Int),x]
def Oj(t:iY):jH:=λd P=>t d λf=>match f with
 | [.lst l]=>P (iB l)
 |_=>False
def L5{K:ab}{a:Addr}(h:G a\(.lst f))(e:DvAll Z G f g):xn Z G (Rj K a) (iB g):=by
 intro r s m j i;have k:=cG.of (K:=K) (j _ _ (m _ _ h));have l:=e.length;rw[show(iB g).length=g.length by unfold iB;simp]
 refine#[λn=>#[f,f[i],k,cv ()],λn=>#[f,k,()],?_]
 rintro x u n ⟨t,y,rfl,o,rfl,p⟩;obtain⟨d,q,dv⟩:=e.DR (p _ k);refine#[_,_, .new j o,by unfold iB;rw[List.getElem?_mapIdx,q];rfl,?_]
 exact .tup aD (.cons (.int _) (.cons ((dv.mono m).mono (bp (j.free o) _)) .nil))
def kv{k1}(j:Gl X "enumerate")(k:X.mg "enumerate"=none)(l:DA Z X [a] t)(m:starEach [a] X.env= [(false,eval a X.env)]:=by rfl):DI Z X (.Tuple g k1 i) (.Call (.Name "enumerate" p) [a] [] pos) (Oj t):=by
 refine(MK j k l m).imp ?_;intro x H Q n;rfl';obtain⟨G,r,P,s,u,h,q⟩:=n;ac_rfl;refine#[G,r,_,s,u,h,λz d A v w f dv=>?_]
 split at d
 .obtain⟨_,rfl,a⟩:=dv.ofOne
  obtain⟨_,_,rfl,h,e⟩:=a.je;exact#[_,rfl,#[_,f.sub _ _ h],q _ d _ v w f (L5 h e)]
 .exact d.elim
def A1(src:List (Option Nat))(d:DN):DN:=src.map λo=>o.bind λi=>(d[i]?).bind id
theorem fb.src{ρ:DN}(e:fb Z G g ρ)(src:List (Option Nat)):fb Z G (iQ src g) (A1 src ρ):=by
 refine#[by unfold iQ A1;simp,λi d h=>?_]
 unfold A1 at h;unfold iQ;rw[bW] at h ⊢;cases k:src[i]? with
 |none=>rw[k] at h;cases h
 |some o=>
  rw[k] at h;cases o with
  |none=>cases h
  |some j=>
   have f:(ρ[j]?).bind id\d:=Da h;cases m:ρ[j]? with
   |none=>rw[m] at f;cases f
   |some z=>
    rw[m] at f;rfl';have n:z\d:=f;subst n;obtain⟨v,p,dv⟩:=e.at_ j d m;ac_rfl;exact#[v,by show some ((g[j]?).bind id)=_;rw[p];rfl,dv]
def lcW(g:eQ)(h:dP)(i:bw):List D->DN->List D->(DN->List D->Prop)->Prop
 | [],j,acc,N=>N j acc
 |x::k,j,acc,N=>g x j λf=>h f λb=>if b=true then i f λd=>acc.length<sizeLine/\lcW g h i k f (acc++ [d]) N else lcW g h i k f acc N
def Od(f:jH)(g:eQ)(h:dP)(i:bw)(src:List (Option Nat)):bw:=λd P=>f d λj=>lcW g h i j (A1 src d) [] λ_ out=>P (.lst out)
def qT(g:eQ)(f:dP)(h:jH)(i:eQ)(j:dP)(k:bw):List D->DN->List D->(List D->Prop)->Prop
 | [],_,acc,P=>P acc
 |x::l,m,acc,P=>g x m λd=>f d λb=>if b=true then h d λn=>lcW i j k n d acc λo p=>qT g f h i j k l o p P else qT g f h i j k l d acc P
def QD(f:jH)(g:eQ)(h:dP)(i:jH)(j:eQ)(k:dP)(l:bw)(src:List (Option Nat)):bw:=λd P=>f d λm=>qT g h i j k l m (A1 src d) [] λout=>P (.lst out)
def xO:dP:=λ_ P=>P true
def Bd(Z:DC)(X:Cx)(d:List Expr)(t:dP):Prop:=kY X d (liftT Z t)
def kY.imp{d:List Expr}{t j:TT}(h:kY X d t)(f:∀i H Q,j i H Q->t i H Q):kY X d j:=λg s i H Q I q=>h g s i H Q I (f _ _ _ q)
def eH:Bd Z X [] xO:=by
 refine MT.imp λg H Q d=>?_;rfl';obtain⟨G,i,P,s,e,p,q⟩:=d;ac_rfl;exact q _ p G H (.refl s)
def gK(h:DT Z X c d):Bd Z X [c] d:=MU h
def CS(Z:DC)(d f:Hp)(g:Addr)(i:DN)(acc:List D)(j:St)(H:Hp):Prop:=
 ∃(G:Hp)(h:List V),bg d G/\bg G H/\bg f H/\(∀b,f b≠none->d b=none->G b=none)/\G g=none/\H g\(.lst h)/\DvAll Z G h acc/\fb Z G j i
def jF(s:bg H d){b:Addr}(h:H b≠none):d b≠none:=λz=>by
 cases e:H b with
 |none=>exact h e
 |some o=>rw[s b o e] at z;cases z
def oS{d:Type}{l:List d}{i:Nat}{x:d}(h:l[i]?\x):l.drop i=x::l.drop (i+1):=by
 obtain⟨f,e⟩:=df.mp h;rw[mY f,e]
theorem AI(hA:m f=none)(A:Hp)(it:xn Z A J n)(i:Nat)(L:DN)(acc:List D)(t:St)(H:Hp)
  (c:CS Z l m f L acc t H) (hG:∀G,bg l G->bg A G) (X:i<n.length) (h:lcW g u w (n.drop i) L acc N):
  J.go i H/\∀x B,J.yld i H x B->uW Z g x t B λp H4=>liftT Z u p H4 λb M=>
   if b=true then fj Z w p M λv O=>∃k,O f\(.lst k)/\k.length<sizeLine/\(∃q r,CS Z l m f q r p (upd O f (.lst (k++ [v])))/\lcW g u w (n.drop (i+1)) q r N)
   else ∃q r,CS Z l m f q r p M/\lcW g u w (n.drop (i+1)) q r N:=by
 rfl';obtain⟨Q,k,R,s2,S,off,gA,T,U,en⟩:=c;obtain⟨go,_,yld⟩:=it Q H (hG _ R) s2 i;ac_rfl;refine#[go X,λx B y=>?_];rfl';obtain⟨G3,d,C,hd,dv⟩:=yld x B X y;rw[oS hd] at h;ac_rfl;refine#[G3,L,d,_,C.sub,en.mono C.gg,dv,h,λE F p I=>?_];refine#[G3,E,_,C.sub,I,F,λb hb G5 M s=>?_];have j:=C.trans s;have Y:∀{G a:Hp},Ext Q H G a->G f=none:=λx=>x.off f (by rw[T];exact λz=>nomatch z) gA
 have Es:∀{G a:Hp},Ext Q H G a->∀b,m b≠none->l b=none->G b=none:=λx b F h2=>x.off b (jF S F) (off b F h2);cases b with
 |false=>
  refine bM #[E,acc,#[G5,k,R.trans j.gg,j.sub,S.trans j.hh,Es j,Y j,j.hh _ _ T,U.mono j.gg,I.mono s.gg],?_];simpa using hb
 |true=>
  refine eC #[G5,E,_,s.sub,I.mono s.gg,(~~~hb),λd' jd v G6 O x6 Yu=>?_]
  have x:=j.trans x6;refine#[k,x.hh _ _ T,by rw[U.length];exact jd.1,E,_,#[G6,k++ [v],R.trans x.gg,λb o e=>?_,λb o e=>?_,Es x,Y x,aD,(U.mono x.gg).snoc Yu,(I.mono s.gg).mono x6.gg],jd.2]
  .rw[aN (bI e (Y x))];exact x.sub _ _ e
  .rw[aN (bI e hA)];exact(S.trans x.hh) _ _ e
def CS.done(c:CS Z h g d n acc p i)(f:Ext G H h g)(q:g d=none):∃j,Ext G H j i/\Dv Z j (.ref d) (.lst acc):=by
 rfl';obtain⟨s,u,v,w,x,off,k,y,A,E⟩:=c;ac_rfl;refine#[upd s d (.lst u),#[(f.gg.trans v).trans (bp k _),λb o e=>?_,f.hh.trans x,λb l B=>?_], .lst aD (A.mono (bp k _))]
 .by_cases z:b=d
  .subst z;rw[aD] at e;cases e;exact y
  .rw[aN z] at e;exact w _ _ e
 .have m:=jF f.hh l
  rw[aN (λz=>m (by rw[z];exact q))]
  exact off b m (f.off b l B)
def CS.begin(s:bg d f)(i:f g=none)(l:fb Z d k j):CS Z d f g j [] k (upd f g (.lst [])):=
 #[d,[], .refl _,λb o e=>by rw[aN (bI e (s.free i))];exact s _ _ e,bp i _,λ_ _ h=>h,s.free i,aD, .nil,l]
variable {tg iter elt:Expr} {ifs:List Expr} {scope:Scope} {NC:List Str} {src:List (Option Nat)} {wi:jH} {g:eQ} {tt:dP}
def BY:∀l H Q,fj Z (Od wi g tt te src) l H Q->NJ (yx Z wi) (uW Z g) (liftT Z tt) (fj Z te) src l H Q:=by
 intro l H Q B;rfl';obtain⟨G,C,P,s,w,h,q⟩:=B;ac_rfl;refine#[G,C,_,s,w,h,λd E J y F o z I p=>?_];refine#[λi m r j=>m=d.length-i/\i<=d.length/\∃k acc,CS Z y F I k acc r j/\lcW g tt te (d.drop i) k acc λ_ out=>P (.lst out),#[_,rfl,dZ _,_,[], .begin o.sub p ((w.mono o.gg).src src),E],?_];intro i m r j L;rfl';obtain⟨rfl,T,k,acc,c,u⟩:=L;ac_rfl
 by_cases A:i<d.length
 .obtain⟨M,turn⟩:=AI p y z i k acc r j c (λ_ s=>s) A u
  exact .inr #[M,_,λU Y n=>#[d.length-(i+1),(),rfl,A,n],turn]
 .have e:d.drop i= []:=zC ()
  rfl';rw[e] at u;obtain⟨N,x,dv⟩:=c.done o p;obtain⟨O,a,R,S,_⟩:=c;ac_rfl;exact .inl #[(z O j R S i).2.1 (),q _ u _ N j x dv]
def iw(f:X.calm=true)(c:ck X scope)(h:c8 scope X.N src NC)(i:DI Z X tg iter wi)
  (j:∀d s H,DG Z (cO X scope NC d s H) tg g) (k:∀d s H,Bd Z (cO X scope NC d s H) ifs tt) (l:∀d s H,DE Z (cO X scope NC d s H) elt te)
  (m:∀x,foldedSetIterable iter X.env x=pure x:=by intro _;rfl):DE Z X (.ListComp elt [#[tg,iter,ifs,0]] scope pos) (Od wi g tt te src):=(Tn f c h i j k l m).imp BY
variable {t0 i0 t1 i1:Expr} {f0 f1:List Expr} {gy:jH} {g1:eQ} {dX:dP}
def Mc:∀σ H Q,fj Z (QD wi g tt gy g1 dX te src) σ H Q->Rb (yx Z wi) (uW Z g) (liftT Z tt) (yx Z gy) (uW Z g1) (liftT Z dX) (fj Z te) src σ H Q:=by
 intro σ H Q aS;rfl';obtain⟨G,ρ,P,s,en,h,q⟩:=aS;ac_rfl;refine#[G,ρ,_,s,en,h,λl hd J E r x1 it j hA=>?_];refine#[λi m eO F=>m=l.length-i/\i<=l.length/\∃u acc,CS Z E r j u acc eO F/\qT g tt gy g1 dX te (l.drop i) u acc λout=>P (.lst out),#[_,rfl,dZ _,_,[], .begin x1.sub hA ((en.mono x1.gg).src src),hd],?_];intro i m eO F iS;rfl';obtain⟨rfl,hi,u,acc,c,hl⟩:=iS;ac_rfl
 by_cases cS:i<l.length
 .have c0:=c
  rfl';obtain⟨R,p,S,s2,s3,off,gA,wC,bE,YC⟩:=c;obtain⟨go,_,yld⟩:=it R F S s2 i;ac_rfl;refine .inr #[go cS,λT I=>∃U Y,CS Z E r j U Y T I/\qT g tt gy g1 dX te (l.drop (i+1)) U Y λout=>P (.lst out),λT I n=>#[l.length-(i+1),(),rfl,cS,n],λx H3 y=>?_]
  rfl';obtain⟨G3,d,x3,DZ,dv⟩:=yld x H3 cS y;rw[oS DZ] at hl;ac_rfl;refine#[G3,u,d,_,x3.sub,YC.mono x3.gg,dv,hl,λa L fw By=>?_];refine#[G3,a,_,x3.sub,By,L,λb t G5 H5 X=>?_];have w:=x3.trans X;have AR:∀{G M:Hp},Ext R F G M->G j=none:=λx=>x.off j (by rw[wC];exact λz=>nomatch z) gA
  have Es:∀{G M:Hp},Ext R F G M->∀b,r b≠none->E b=none->G b=none:=λx b L h2=>x.off b (jF s3 L) (off b L h2);cases b with
  |false=>exact bM #[a,acc,#[G5,p,S.trans w.gg,w.sub,s3.trans w.hh,Es w,AR w,w.hh _ _ wC,bE.mono w.gg,By.mono X.gg],by simpa using t]
  |true=>
   refine eC #[G5,a,_,X.sub,By.mono X.gg,(~~~t),λN Zb J1 G6 H6 x6 L4=>?_]
   have x:=w.trans x6;have c6:CS Z G6 H6 j a acc fw H6->True:=λ_=>trivial
   refine#[λk m uB A=>m=N.length-k/\k<=N.length/\∃(NU:DN)(CV:List D),(∃(G:Hp)(p:List V),bg G6 G/\bg G A/\bg r A/\(∀b,r b≠none->E b=none->G b=none)/\G j=none/\A j\(.lst p)/\DvAll Z G p CV/\fb Z G uB NU)/\
    lcW g1 dX te (N.drop k) NU CV λu xr=>qT g tt gy g1 dX te (l.drop (i+1)) u xr λout=>P (.lst out),
    #[_,rfl,dZ _,a,acc,#[G6,p, .refl _,x.sub,s3.trans x.hh,Es x,AR x,x.hh _ _ wC,bE.mono x.gg,(By.mono X.gg).mono x6.gg],Zb],?_]
   intro k m uB A iS;rfl';obtain⟨rfl,hk,NU,CV,⟨G7,Ql,a1,a2,a3,a4,a5,a6,a7,a8⟩,OI⟩:=iS;ac_rfl;have YJ:bg E G6:=S.trans x.gg
   by_cases LQ:k<N.length
   .obtain⟨YL,_,Xl⟩:=L4 G7 A a1 a2 k
    refine .inr #[YL LQ,λT I=>∃(U:DN)(Y:List D),(∃(G:Hp)(p:List V),bg G6 G/\bg G I/\bg r I/\(∀b,r b≠none->E b=none->G b=none)/\G j=none/\I j\(.lst p)/\DvAll Z G p Y/\fb Z G T U)/\
     lcW g1 dX te (N.drop (k+1)) U Y λu xr=>qT g tt gy g1 dX te (l.drop (i+1)) u xr λout=>P (.lst out),λT I n=>#[N.length-(k+1),(),rfl,LQ,n],λy H8 hy=>?_]
    rfl';obtain⟨G8,d8,x8,Y7,Yv⟩:=Xl y H8 LQ hy;rw[oS Y7] at OI;ac_rfl;refine#[G8,NU,d8,_,x8.sub,a8.mono x8.gg,Yv,OI,λQp h9 σ9 Oq=>?_];refine#[G8,Qp,_,x8.sub,Oq,h9,λb t Uh Iq NS=>?_];have B:=x8.trans NS;have oA:∀{G M:Hp},Ext G7 A G M->G j=none:=λx=>x.off j (by rw[a6];exact λz=>nomatch z) a5
    have oB:∀{G M:Hp},Ext G7 A G M->∀b,r b≠none->E b=none->G b=none:=λx b L h2=>x.off b (jF a3 L) (a4 b L h2);cases b with
    |false=>exact bM #[Qp,CV,#[Uh,Ql,a1.trans B.gg,B.sub,a3.trans B.hh,oB B,oA B,B.hh _ _ a6,a7.mono B.gg,Oq.mono NS.gg],by simpa using t]
    |true=>
     refine eC #[Uh,Qp,_,NS.sub,Oq.mono NS.gg,(~~~t),λd' jd v Xv Ir Xj UW=>?_]
     have C:=B.trans Xj;refine#[Ql,C.hh _ _ a6,by rw[a7.length];exact jd.1,Qp,_,#[Xv,Ql++ [v],a1.trans C.gg,λb o e=>?_,λb o e=>?_,oB C,oA C,aD,(a7.mono C.gg).snoc UW,(Oq.mono NS.gg).mono Xj.gg],jd.2]
     .rw[aN (bI e (oA C))];exact C.sub _ _ e
     .rw[aN (bI e hA)];exact(a3.trans C.hh) _ _ e
   .have e:N.drop k= []:=zC ()
    rw[e] at OI;exact .inl #[(L4 G7 A a1 a2 k).2.1 (),NU,CV,#[G7,Ql,YJ.trans a1,a2,a3,a4,a5,a6,a7,a8],OI]
 .have e:l.drop i= []:=zC ()
  rfl';rw[e] at hl;obtain⟨G',x,dv⟩:=c.done x1 hA;obtain⟨R,p,S,s2,_⟩:=c;ac_rfl;exact .inl #[(it R F S s2 i).2.1 (),q _ hl _ G' F x dv]
def Og(f:X.calm=true)(c:ck X scope)(h:c8 scope X.N src NC)(i:DI Z X t0 i0 wi)
  (j:∀d s H,DG Z (cO X scope NC d s H) t0 g) (k:∀d s H,Bd Z (cO X scope NC d s H) f0 tt) (qL:∀d s H,DI Z (cO X scope NC d s H) t1 i1 gy) (l:∀d s H,DG Z (cO X scope NC d s H) t1 g1)
  (m:∀d s H,Bd Z (cO X scope NC d s H) f1 dX) (n:∀d s H,DE Z (cO X scope NC d s H) elt te)
  (o:∀x,foldedSetIterable i0 X.env x=pure x:=by intro _;rfl) (p:∀env x,foldedSetIterable i1 env x=pure x:=by intro _ _;rfl):
  DE Z X (.ListComp elt [#[t0,i0,f0,0],#[t1,i1,f1,0]] scope pos) (QD wi g tt gy g1 dX te src):=(Pu f c h i j k qL l m n o p).imp Mc
end
inductive fH (R:V->D->List Addr->Prop):List V->List D->List Addr->Prop
 |nil:fH R [] [] []
 |cons {v:V} {vs:List V} {d:D} {ds:List D} {f fs:List Addr}:R v d f->fH R vs ds fs->fH R (v::vs) (d::ds) (f++fs)
def yo:D->Bool
 | .lst _=>true
 |_=>false
def Own(Z:DC)(G H:Hp):Nat->V->D->List Addr->Prop
 |0,v,d,c=>Dv Z G v d/\c= []
 |n+1,v,d,c=>(∃a e g i,v= .ref a/\d= .lst g/\H a\(.lst e)/\c=a::i/\fH (Own Z G H n) e g i)\/(1<=n/\∃a e g,v= .ref a/\d= .tup g/\G a\(.tup e)/\fH (λv d f=>(yo d=true/\Own Z G H n v d f)\/(yo d=false/\Dv Z G v d/\f= [])) e g c)\/(∃a h,v= .ref a/\H a\(.ext h)/\c= [a]/\((n=98/\∃b j,d= .set b j/\h=gz b a j)\/(n=97/\∃k,d= .x k/\Iy G a h k)))
theorem Own.lst{Z:DC}{G H:Hp}{n:Nat}{v:V}{c:List D}{f:List Addr}(o:Own Z G H (n+1) v (.lst c) f):∃a d g h,v= .ref a/\D.lst c= .lst g/\H a\(.lst d)/\f=a::h/\fH (Own Z G H n) d g h:=by
 rcases o with o| ⟨_,a,d,c,_,e,_⟩ | ⟨a,i,_,_,_,⟨_,b,j,e,_⟩ | ⟨_,k,e,_⟩⟩
 .exact o
 .cases e
 .cases e
 .cases e
def Own.Q9{b:Bool}(o:Own Z G H 99 v (.set b c) d):∃a,v= .ref a/\H a\(.ext (gz b a c))/\d= [a]:=by
 rcases o with ⟨_,_,_,_,_,e,_⟩ | ⟨_,a,j,l,_,e,_⟩ | ⟨a,m,f,g,h,⟨_,b,c,e,i⟩ | ⟨_,k,e,_⟩⟩
 .cases e
 .cases e
 .cases e;subst i;exact#[a,f,g,h]
 .cases e
def Own.xA(o:Own Z G H 98 v (.x k) d):∃a c,v= .ref a/\H a\(.ext c)/\d= [a]/\Iy G a c k:=by
 rcases o with ⟨_,_,_,_,_,e,_⟩ | ⟨_,a,j,l,_,e,_⟩ | ⟨a,c,f,g,h,⟨_,b,m,e,n⟩ | ⟨_,k,e,i⟩⟩
 .cases e
 .cases e
 .cases e
 .cases e;exact#[a,c,f,g,h,i]
theorem Own.tup{Z:DC}{G H:Hp}{n:Nat}{v:V}{g:List D}{h:List Addr}(o:Own Z G H (n+1) v (.tup g) h):∃a c,v= .ref a/\G a\(.tup c)/\fH (λv d f=>(yo d=true/\Own Z G H n v d f)\/(yo d=false/\Dv Z G v d/\f= [])) c g h:=by
 rcases o with ⟨a,c,g,m,_,e,_⟩ | ⟨_,a,c,g,i,e,j,l⟩ | ⟨a,p,_,_,_,⟨_,b,q,e,_⟩ | ⟨_,k,e,_⟩⟩
 .cases e
 .cases e;exact#[a,c,i,j,l]
 .cases e
 .cases e
def Own.one{d:D}(o:Own Z G H 1 v d b):∃a c e f,v= .ref a/\d= .lst e/\H a\(.lst c)/\b=a::f/\fH (Own Z G H 0) c e f:=by
 rcases o with o| ⟨z,_⟩ | ⟨_,_,_,_,_,⟨z,_⟩ | ⟨z,_⟩⟩
 .exact o
 .exact absurd z ∅
 .exact absurd z ∅
 .exact absurd z ∅
def fH.imp{i:List V}(o:fH R i ds c)(h:∀v d f,(∀b∈f,b∈c)->R v d f->g v d f):fH g i ds c:=by
 induction o with
 |nil=>exact .nil
 |cons a _ j=>exact .cons (h _ _ _ (λb e=>eN _ e) a) (j λv d f k r=>h v d f (λb e=>eZ _ (k b e)) r)
theorem fH.length(o:fH R a ds b):a.length=ds.length:=by
 induction o with
 |nil=>rfl
 |cons _ _ c=>exact GM (·+1) c
section
variable {Z:DC} {G G' H H':Hp}
def Own.keep:∀{v:V}{d:D}{g:List Addr},Own Z G H n v d g->bg G G'->(∀b∈g,H' b=H b)->Own Z G' H' n v d g:=by
 induction n with
 |zero=>exact λh s _=>#[h.1.mono s,h.2]
 |succ n u=>
  intro v d g h s k
  rcases h with ⟨a,j,l,w,c,m,e,i,o⟩ | ⟨p,a,j,l,c,m,e,o⟩ | ⟨a,x,c,e,i,y⟩
  .subst i
   exact .inl #[a,j,l,w,c,m,by rw[k a (bF ..)];exact e,rfl,o.imp λv d f t r=>u r s λb q=>k b (cm _ (t b q))]
  .exact .inr (.inl #[p,a,j,l,c,m,s _ _ e,o.imp λv d f t r=>r.imp (λr=>#[r.1,u r.2 s λb q=>k b (t b q)]) λr=>#[r.1,r.2.1.mono s,r.2.2]])
  .exact .inr (.inr #[a,x,c,by rw[k a (by rw[i];exact bF ..)];exact e,i,y.imp id λ#[p,k,z,A]=>#[p,k,z,A.mono s]])
def fH.QJ(o:fH R e ds g)(k:∀v d f,(∀b∈f,b∈g)->R v d f->Dv Z G' v d):DvAll Z G' e ds:=by
 induction o with
 |nil=>exact .nil
 |cons a _ h=>exact .cons (k _ _ _ (λb c=>eN _ c) a) (h λv d f i r=>k v d f (λb c=>eZ _ (i b c)) r)
def Own.QI(o:HO->Prop)(y:∀j,o (.lst j))(t:∀u,o (.ext u)):∀{v:V}{d:D}{l:List Addr},Own Z G H n v d l->bg G G'->(∀b∈l,∀x,o x->H b\x->G' b\x)->Dv Z G' v d:=by
 induction n with
 |zero=>exact λh s _=>h.1.mono s
 |succ n w=>
  intro v d l h s k
  rcases h with ⟨a,j,z,B,i,c,g,e,m⟩ | ⟨_,a,j,z,i,c,g,m⟩ | ⟨a,u,i,g,e,A⟩
  .subst e i c
   exact .lst (k a (bF ..) _ (y _) g) (m.QJ λv d f e r=>w r s λb p=>k b (cm _ (e b p)))
  .subst i c
   exact .tup (s _ _ g) (m.QJ λv d f e r=>r.elim (λr=>w r.2 s λb p=>k b (e b p)) λr=>r.2.1.mono s)
  .subst i e
   rcases A with ⟨_,b,C,c,q⟩ | ⟨_,E,c,q⟩
   .subst c q
    exact .set (k a (bF ..) _ (t _) g)
   .subst c
    exact .x (k a (bF ..) _ (t _) g) (q.mono s)
def Own.dv{d:D}(h:Own Z G H n v d a)(s:bg G G')(k:∀b∈a,∀o,H b\o->G' b\o):Dv Z G' v d:=h.QI (λ_=>True) (λ_=>trivial) (λ_=>trivial) s λb c x _ e=>k b c x e
def fH.flat(o:fH (Own Z G H 0) b ds c):DvAll Z G b ds/\c= []:=by
 induction o with
 |nil=>exact#[.nil,rfl]
 |cons a _ d=>exact#[.cons a.1 d.1,by rw[a.2,d.2];rfl]
def DvAll.own(h:DvAll Z G c d):fH (Own Z G H 0) c d []:=h.ind (p:=λc d=>fH (Own Z G H 0) c d []) .nil λa _ b=> .cons (f:= []) (fs:= []) #[a,rfl] b
def Dv.flat{v:V}{d:D}(h:Dv Z G v d)(f:eE d=true):Dv Z G' v d:=by
 cases h with
 |bC=>exact .bC
 |bl b=>exact .bl b
 |int i=>exact .int i
 |str x k=>exact .str x k
 |_=>cases f
end
mutual
def kD:D->Bool
 | .bC=>true
 | .bl _=>true
 | .int _=>true
 | .str _=>true
 | .tup l=>hU l
 |_=>false
def hU:List D->Bool
 | []=>true
 |d::ds=>kD d&&hU ds
end
theorem Dv.kD(k:∀b g,G b\(.tup g)->e b\(.tup g))(h:Dv Z G v d):L2.kD d=true->Dv Z e v d:=by
 have c:∀{p:Prop}{d:D},L2.kD d=false->L2.kD d=true->p:=λa b=>by rw[a] at b;cases b
 refine Dv.rec (motive_1:=λv d _=>L2.kD d=true->Dv Z e v d) (motive_2:=λl j _=>hU j=true->DvAll Z e l j) (λ_=> .bC) (λb _=> .bl b) (λi _=> .int i) (λx h _=> .str x h) (λ_ _ _=>c (by rw[L2.kD]<;>simp)) (λh _ m f=> .tup (k _ _ h) (m (by rw[L2.kD] at f;exact f))) (λ_=>c (by rw[L2.kD]<;>simp)) (λ_=>c (by rw[L2.kD]<;>simp)) (λ_ _=>c (by rw[L2.kD]<;>simp)) (λ_ _ _ _ _ _=>c (by rw[L2.kD]<;>simp)) (λ_=>c (by rw[L2.kD]<;>simp)) (λ_ _=>c (by rw[L2.kD]<;>simp)) (λ_ _ _ _=>c (by rw[L2.kD]<;>simp)) (λ_=> .nil) (λ_ _ n o f=>?_) h
 rw[hU,ux] at f;exact .cons (n f.1) (o f.2)
theorem DvAll.kD(k:∀b g,G b\(.tup g)->e b\(.tup g))(h:DvAll Z G d c):hU c=true->DvAll Z e d c:=by
 refine h.ind (p:=λd c=>hU c=true->DvAll Z e d c) (λ_=> .nil) λa _ i f=>?_;rw[hU,ux] at f;exact .cons (a.kD k f.1) (i f.2)
def Mz:HO->Bool
 | .lst _=>true
 | .ext _=>true
 |_=>false
def Own.Yw(h:Own Z G H n v d c)(s:bg G a)(k:∀b∈c,∀o,Mz o=true->H b\o->a b\o):Dv Z a v d:=h.QI (λo=>Mz o=true) (λ_=>rfl) (λ_=>rfl) s k
structure Bs where
 G₀:Hp
 H₀:Hp
 Gf:Hp
structure SIx (Z:DC) (B:Bs) (md:List Nat) (ρ:DN) (σ:St) (H G:Hp) (fp:Nat->List Addr):Prop where
 ex:Ext B.G₀ B.H₀ G H
 fl:bg B.Gf G
 len:ρ.length=σ.length
 at_:∀(i:Nat)(d:D),ρ[i]?\(some d)->∃v,σ[i]?\(some v)/\Own Z G H (md.getD i 0) v d (fp i)
 nd:∀i,(fp i).Nodup
 ap:∀i j b,i≠j->b∈fp i->b∉fp j
 nw:∀i b,b∈fp i->B.H₀ b=none/\H b≠none/\G b=none
def SI(Z:DC)(B:Bs)(a:List Nat)(b:DN)(c:St)(H:Hp):Prop:=∃G d,SIx Z B a b c H G d
def dW:List Nat->DN->DN
 |_,[]=> []
 | [],o::a=>o::a
 |0::b,o::a=>o::dW b a
 | (_+1)::b,_::a=>none::dW b a
theorem sC:∀(a:List Nat)(b:DN),(dW a b).length=b.length
 |a,[]=>by cases a<;>rfl
 | [],o::b=>rfl
 |0::a,o::b=>by rw[dW,b8,sC a b,b8]
 | (_+1)::a,_::b=>by rw[dW,b8,sC a b,b8]
theorem vd:∀(c:List Nat)(e:DN)(i:Nat),(dW c e)[i]?\(some d)->c.getD i 0=0/\e[i]?\(some d)
 |c,[],i,h=>by cases c<;>simp[dW] at h
 | [],o::e,i,h=>#[by simp,h]
 |0::c,o::e,0,h=>#[rfl,by simpa [dW] using h]
 |0::c,o::e,i+1,h=>by
  rw[dW,uu] at h;obtain⟨a,b⟩:=vd c e i h;exact#[by rw[CJ];exact a,by rw[uu];exact b]
 | (_+1)::c,_::e,0,h=>by simp[dW] at h
 | (_+1)::c,_::e,i+1,h=>by
  rw[dW,uu] at h;obtain⟨a,b⟩:=vd c e i h;exact#[by rw[CJ];exact a,by rw[uu];exact b]
def zp(b:List Nat):Bool->DN->DN
 |true,a=>a
 |false,a=>dW b a
def wX:Bool->D->Prop
 |true,d=>kD d=true
 |false,_=>True
section
variable {Z:DC} {B:Bs} {md:List Nat} {ρ:DN} {σ:St} {H G:Hp} {fp:Nat->List Addr}
def GG(h:(dW md ρ)[i]?\(some d)):md.getD i 0=0/\ρ[i]?\(some d):=vd md ρ i h
def SIx.Dz(S:SIx Z B md ρ σ H G fp):fb Z G σ (dW md ρ):=by
 refine#[by rw[sC];exact S.len,λi d h=>?_]
 obtain⟨z,h⟩:=GG h;obtain⟨v,a,o⟩:=S.at_ i d h;rw[z] at o;exact#[v,a,o.1]
def SIx.HD(S:SIx Z B md ρ σ H G fp):fb Z H σ ρ:=by
 refine#[S.len,λi d h=>?_];obtain⟨v,a,o⟩:=S.at_ i d h;exact#[v,a,o.dv S.ex.sub λb _ u e=>e]
theorem SIx.grow{c f:Hp}(S:SIx Z B md ρ σ H G fp)(x:Ext G H c f):SIx Z B md ρ σ f c fp where
 ex:=S.ex.trans x
 fl:=S.fl.trans x.gg
 len:=S.len
 at_:=λi d h=>by
  obtain⟨v,j,o⟩:=S.at_ i d h;refine#[v,j,o.keep x.gg λb a=>?_];cases e:H b with
  |none=>exact absurd e (S.nw i b a).2.1
  |some u=>exact x.hh _ _ e
 nd:=S.nd
 ap:=S.ap
 nw:=λi b a=>let #[k,g,l]:=S.nw i b a;#[k,jF x.hh g,x.off b g l]
def Ext.all(s:bg G H)(x:Ext H H b a):Ext G H G a:=#[.refl _,s.trans x.hh,x.hh,λ_ _ h=>h]
open Classical in
noncomputable def iR(G H:Hp)(fp:Nat->List Addr):Hp:=λb=>if ∃i,b∈fp i then(match H b with|some (.lst xs)=>some (.lst xs) |some (.ext φ)=>some (.ext φ) |_=>none) else G b
open Classical in
noncomputable def jL(G:Hp)(fp:Nat->List Addr):Hp:=λb=>if ∃i,b∈fp i then none else G b
def Kl(i:Nat)(h:b∈fp i)(a:Mz o=true)(e:H b\o):iR G H fp b\o:=by
 unfold iR;rw[mo #[i,h],e];cases o<;>first|rfl|cases a
def sO(h:¬∃i,b∈fp i):iR G H fp b=G b:=ir h
def SIx.HE(S:SIx Z B md ρ σ H G fp):bg G (iR G H fp)/\bg (iR G H fp) H/\fb Z (iR G H fp) σ ρ:=by
 have c:bg G (iR G H fp):=λb o e=>by
  by_cases h:∃i,b∈fp i
  .obtain⟨i,f⟩:=h
   rw[(S.nw i b f).2.2] at e;cases e
  .rw[sO h];exact e
 refine#[c,λb o e=>?_,S.len,λi d h=>?_]
 .by_cases h:∃i,b∈fp i
  .unfold iR at e
   rw[mo h] at e
   split at e
   .next l a=>rw[a];exact e
   .next m a=>rw[a];exact e
   .cases e
  .rw[sO h] at e;exact S.ex.sub _ _ e
 .obtain⟨v,g,o⟩:=S.at_ i d h
  exact#[v,g,o.Yw c λb j u k a=>Kl i j k a]
def SIx.Mt(S:SIx Z B md ρ σ H G fp)(x:Ext (iR G H fp) H a g):Ext G H (jL a fp) g/\∀b d,a b\(.tup d)->jL a fp b\(.tup d):=by
 obtain⟨j,l,_⟩:=S.HE;refine#[#[λb o e=>?_,λb o e=>?_,x.hh,λb f k=>?_],λb d e=>?_]
 .have h:¬∃i,b∈fp i:=by
   rintro⟨i,c⟩;rw[(S.nw i b c).2.2] at e;cases e
  unfold jL;rw[ir h];exact x.gg _ _ (j _ _ e)
 .unfold jL at e
  split at e
  .cases e
  .exact x.sub _ _ e
 .unfold jL
  split
  .rfl
  .next h=>exact x.off b f (by rw[sO h];exact k)
 .have h:¬∃i,b∈fp i:=by
   rintro⟨i,c⟩;have f:=(S.nw i b c).2.1;cases hw:iR G H fp b with
   |none=>rw[x.off b f hw] at e;cases e
   |some o=>
    have:=x.gg _ _ hw
    rw[e] at this;cases Da this;unfold iR at hw;rw[mo #[i,c]] at hw
    split at hw<;>cases hw
  unfold jL;rw[ir h];exact e
theorem SIx.ev(S:SIx Z B md ρ σ H G fp)(m:Bool)(h:t (zp md m ρ) P)
  (f:∀d,P d->wX m d/\∀v b a,SIx Z B md ρ σ a b fp->Ext G H b a->Dv Z b v d->Q v a):fj Z t σ H Q:=by
 cases m with
 |false=>exact#[G,_,P,S.ex.sub,S.Dz,h,λd c v b a x dv=>(f d c).2 v b a (S.grow x) x dv]
 |true=>
  obtain⟨j,i,e⟩:=S.HE;refine#[iR G H fp,_,P,i,e,h,λd c v b a x dv=>?_];obtain⟨g,k⟩:=S.Mt x;exact(f d c).2 v _ a (S.grow g) g (dv.kD k (f d c).1)
def SIx.UZ(S:SIx Z B md ρ σ H G fp)(h:t ρ P)(c:∀b,P b->∀a,SIx Z B md ρ σ a G fp->Q b a):liftT Z t σ H Q:=
 #[H,ρ,P, .refl _,S.HD,h,λb d e a x=>c b d a (S.grow (Ext.all S.ex.sub x))]
def SIx.qb(S:SIx Z B md ρ σ H G fp)(l:md.getD i 0=0)(dv:Dv Z G v d):SIx Z B md (ρ.set i (some d)) (σ.set i (some v)) H G (λj=>if j=i then[] else fp j) where
 ex:=S.ex
 fl:=S.fl
 len:=by rw[cV,cV];exact S.len
 at_:=λj c h=>by
  by_cases z:i=j
  .subst z
   by_cases a:i<ρ.length
   .rw[fY a] at h
    cases Da h;exact#[v,fY (by rw[<-S.len];exact a),by rw[l,mo rfl];exact#[dv,rfl]]
   .rw[A5 (lK a),fZ (lK a)] at h;cases h
  .rw[fA z] at h ⊢
   rw[ir (Ne.symm z)];exact S.at_ j c h
 nd:=λj=>by split;exact gF;exact S.nd j
 ap:=λj k b ne e f=>by
  split at e
  .cases e
  .split at f
   .cases f
   .exact S.ap j k b ne e f
 nw:=λj b g=>by
  split at g
  .cases g
  .exact S.nw j b g
def SIx.v9{i n:Nat}{f:List Addr}(S:SIx Z B md ρ σ H G fp)(m:md.getD i 0=n)(o:Own Z G H n v d f)(nd:f.Nodup)(nw:∀b∈f,B.H₀ b=none/\H b≠none/\G b=none)(ap:∀b∈f,∀j,j≠i->b∉fp j):
  SIx Z B md (ρ.set i (some d)) (σ.set i (some v)) H G (λj=>if j=i then f else fp j) where
 ex:=S.ex
 fl:=S.fl
 len:=by rw[cV,cV];exact S.len
 at_:=λj c h=>by
  by_cases z:i=j
  .subst z
   by_cases e:i<ρ.length
   .rw[fY e] at h
    cases Da h;exact#[v,fY (by rw[<-S.len];exact e),by rw[m,mo rfl];exact o]
   .rw[A5 (lK e),fZ (lK e)] at h;cases h
  .rw[fA z] at h ⊢
   rw[ir (Ne.symm z)];exact S.at_ j c h
 nd:=λj=>by split;exact nd;exact S.nd j
 ap:=λj k b ne g a=>by
  split at g
  .next z=>
   rw[ir (λw=>ne (z.trans w.symm))] at a;exact ap b g k (λw=>ne (z.trans w.symm)) a
  .next z=>
   split at a
   .exact ap b a j z g
   .exact S.ap j k b ne g a
 nw:=λj b l=>by
  split at l
  .exact nw b l
  .exact S.nw j b l
noncomputable def plus(G H:Hp)(F:Addr->Prop):Hp:=λb=>open Classical in if F b then H b else G b
def mN(h:F b):plus G H F b=H b:=by unfold plus;rw[mo h]
def jg(h:¬F b):plus G H F b=G b:=by unfold plus;rw[ir h]
def km(s:bg G H):bg (plus G H F) H:=λb o e=>by
 by_cases h:F b
 .rw[mN h] at e;exact e
 .rw[jg h] at e;exact s _ _ e
def fR(s:bg G H):bg G (plus G H F):=λb o e=>by
 by_cases h:F b
 .rw[mN h];exact s _ _ e
 .rw[jg h];exact e
def SIx.YE(S:SIx Z B md ρ σ H G fp)(h:t ρ P)(g:∀d,P d->∀v a c,Ext B.G₀ B.H₀ a c->Dv Z a v d->Q v c):fj Z t σ H Q:=by
 let F:Addr->Prop:=λb=>∃i,b∈fp i
 have s:=S.ex.sub
 have j:Ext B.G₀ B.H₀ (plus G H F) H:=#[S.ex.gg.trans (fR s),km s,S.ex.hh,λb f k=>by
  rw[jg (λ#[i,l]=>f (S.nw i b l).1)];exact S.ex.off b f k]
 refine#[plus G H F,ρ,P,km s,#[S.len,λi d h=>?_],h,λd m v a c x dv=>g d m v a c (j.trans x) dv];obtain⟨v,n,o⟩:=S.at_ i d h;exact#[v,n,o.dv (fR s) λb f u e=>by rw[mN #[i,f]];exact e]
end
structure f6 where
 nx:DN->Prop
 rt:D->Prop
 bk:DN->Prop:=λ_=>False
 ct:DN->Prop:=λ_=>False
 xc:DN->D->Prop:=λ_ _=>False
abbrev cN:=f6->DN->Prop
structure Meets (Z:DC) (X:Cx) (B:Bs) (md:List Nat) (rn:Nat) (E:f6) (Dn:Ends):Prop where
 nx:∀ρ,E.nx ρ->∀σ H,SI Z B md ρ σ H->Dn.nx σ H
 rt:∀d,E.rt d->∀v f G' H',Ext B.G₀ B.H₀ G' H'->Own Z G' H' rn v d f->f.Nodup->(∀b∈f,B.H₀ b=none/\H' b≠none/\G' b=none)->Dn.rt v H'
 bk:∀ρ,E.bk ρ->∀σ H,SI Z B md ρ σ H->Dn.bk σ H
 ct:∀ρ,E.ct ρ->∀σ H,SI Z B md ρ σ H->Dn.ct σ H
 xc:∀ρ d,E.xc ρ d->∀σ H G fp a,SIx Z B md ρ σ H G fp->Dv Z G (.ref a) d->Uo X σ H a
def pj(Z:DC)(X:Cx)(a:List Nat)(c:Nat)(t:cN):TS:=λd e H=>∃(B:Bs)(b:DN)(E:f6),SI Z B a b e H/\t E b/\Meets Z X B a c E d
def DSt(Z:DC)(X:Cx)(a:List Nat)(b:Nat)(st:Stmt)(t:cN):Prop:=PS X st (pj Z X a b t)
def uD(Z:DC)(X:Cx)(a:List Nat)(b:Nat)(c:List Stmt)(t:cN):Prop:=oI X c (pj Z X a b t)
def PS.imp{X:Cx}{st:Stmt}{t c:TS}(h:PS X st t)(f:∀D b H,c D b H->t D b H):PS X st c:=λa s b H D I q=>h a s b H D I (f _ _ _ q)
def oI.imp{X:Cx}{st:List Stmt}{t c:TS}(h:oI X st t)(f:∀D b H,c D b H->t D b H):oI X st c:=λa s b H D I q=>h a s b H D I (f _ _ _ q)
section
variable {Z:DC} {X:Cx} {md:List Nat} {rn:Nat} {st:Stmt} {Qc:List Stmt} {t u:cN} {e:Expr} {te:bw} {pos:Pos}
def Bt:cN:=λE a=>E.nx a
def dSeq(t u:cN):cN:=λE a=>t {E with nx:=u E} a
def aM:uD Z X md rn [] Bt:=by
 refine MR.imp λD b H a=>?_;obtain⟨B,c,E,S,h,M⟩:=a;exact M.nx _ h _ _ S
def ag(a:DSt Z X md rn st t)(b:uD Z X md rn Qc u):uD Z X md rn (st::Qc) (dSeq t u):=by
 refine(mO a b).imp λD k H c=>?_;rfl';obtain⟨B,f,E,S,h,M⟩:=c;ac_rfl;exact#[B,f,_,S,h,#[λg i m n j=>#[B,g,E,j,i,M],M.rt,M.bk,M.ct,M.xc]]
def aq(a:DSt Z X md rn st t):uD Z X md rn [st] t:=yY a
def qx:DSt Z X md rn st (λ_ _=>False):=by
 refine JW.imp λD b H a=>?_;obtain⟨B,c,E,S,h,M⟩:=a;exact h
def UP(a:bw):cN:=λE b=>a b E.rt
def aF(a:DE Z X e te):DSt Z X md 0 (.Return (some e) pos) (UP te):=by
 refine(t5 a).imp λD l H c=>?_;rfl';obtain⟨B,n,E,⟨G,o,S⟩,h,M⟩:=c;ac_rfl;exact S.YE h λd g v i j x dv=>M.rt d g v [] i j x #[dv,rfl] gF (λb k=>by cases k)
def RO(i:Nat):cN:=λE a=>∃d,a[i]?\(some d)/\E.rt d
def xR(i:Nat)(f:md.getD i 0=rn:=by rfl)(g:X.N[i]?\x:=by rfl)(a:jw X.env.scope x:=by subst_eqs)(b:(x==("__debug__":Str))=false:=by decide)(j:(x==("__classdict__":Str))=false:=by decide):
  DSt Z X md rn (.Return (some (.Name x c)) pos) (RO i):=by
 refine(t5 (Cb g a b j)).imp λD n H k=>?_;rfl';obtain⟨B,q,E,⟨G,m,S⟩,⟨d,b,h⟩,M⟩:=k;obtain⟨v,a,o⟩:=S.at_ i d b;rw[f] at o;ac_rfl;exact#[v,a,M.rt d h v (m i) G H S.ex o (S.nd i) (S.nw i)]
def Hr(c:dP)(t u:cN):cN:=λE a=>c a λb=>if b=true then t E a else u E a
def bq(j:DT Z X c tc)(k:uD Z X md rn a t)(d:uD Z X md rn b u):DSt Z X md rn (.If c a b pos) (Hr tc t u):=by
 refine(To j k d).imp ?_;intro D n H l;rfl';obtain⟨B,f,E,⟨G,g,S⟩,h,M⟩:=l;ac_rfl;refine S.UZ h λb d p i=>?_;cases b with
 |true=>exact eC #[B,f,E,#[G,g,i],(d),M]
 |false=>exact bM #[B,f,E,#[G,g,i],(d),M]
def Dl(b:List Nat)(m:Bool)(i:Nat)(c:bw):cN:=λE a=>c (zp b m a) λd=>wX m d/\E.nx (a.set i (some d))
def aP(m:Bool)(i:Nat)(g:X.N.Nodup)(j:DE Z X e k)(l:c.getD i 0=0:=by rfl)(n:X.N[i]?\x:=by rfl)(o:Loc X.env.scope x:=by subst_eqs)(p:swapsWith e (some (.Name x a)) b.line X.env=pure false:=by rfl)
  (q:X.fn x=true\/X.env.scope.names.lookup x\.local:=by subst_eqs):DSt Z X c z (.Assign [.Name x a] e b) (Dl c m i k):=by
 refine(lB g n o j p q).imp ?_;intro D A H r;rfl';obtain⟨B,F,E,⟨G,I,S⟩,h,M⟩:=r;ac_rfl;exact S.ev m h λd f=>#[f.1,λv w J y x dv=>M.nx _ f.2 _ _ #[w,_,y.qb l dv]]
def uJ(i:Nat){NC:List Str}{src:List (Option Nat)}(q:X.calm=true)(r:X.N.Nodup)(c:ck X a)(w:c8 a X.N src NC)(y:DI Z X k iter n)
  (z:∀j s H,DG Z (cO X a NC j s H) k g) (A:∀j s H,Bd Z (cO X a NC j s H) f o) (C:∀j s H,DE Z (cO X a NC j s H) b te)
  (F:swapsWith (.ListComp b [#[k,iter,f,0]] a pos) (some (.Name x l)) m.line X.env=pure true:=by rfl) (I:md.getD i 0=0:=by rfl) (J:X.N[i]?\x:=by rfl) (L:Loc X.env.scope x:=by subst_eqs)
  (O:X.fn x=true\/X.env.scope.names.lookup x\.local:=by subst_eqs)
  (P:∀x,foldedSetIterable iter X.env x=pure x:=by intro _;rfl):DSt Z X md rn (.Assign [.Name x l] (.ListComp b [#[k,iter,f,0]] a pos) m) (Dl md false i (Od n g o te src)):=by
 refine(vc q r J L c w y z A C F O P).imp ?_;intro D Q H R;rfl';obtain⟨B,t,E,⟨G,u,S⟩,h,M⟩:=R;ac_rfl;refine BY Q H _ (S.ev false h λd p=>#[p.1,λv U H' Y x dv=>M.nx _ p.2 _ _ #[U,_,Y.qb I dv]])
end
end L2
namespace L2
open PySem PySem.Spec PyProof.Rows
section
variable {Z:DC} {X:Cx} {B:Bs} {md:List Nat} {rn:Nat} {ρ:DN} {σ:St} {H G:Hp} {fp:Nat->List Addr}
def BW(Z:DC)(a:List Nat)(g:eQ):TG:=λv f H Q=>∃(B:Bs)(b:DN)(d:D)(P:DN->Prop)(G:Hp)(h:Nat->List Addr),SIx Z B a b f H G h/\Dv Z G v d/\g d b P/\∀c,P c->∀e i,SIx Z B a c e H G i->Q e H
def Mb(Z:DC)(a:List Nat)(g:nT):zK:=λf h H Q=>∃(B:Bs)(b:DN)(c:List D)(P:DN->Prop)(G:Hp)(i:Nat->List Addr),SIx Z B a b h H G i/\DvAll Z G f c/\g c b P/\∀d,P d->∀e j,SIx Z B a d e H G j->Q e H
def CN(Z:DC)(X:Cx)(a:List Nat)(e:Expr)(g:eQ):Prop:=PG X e (BW Z a g)
def Hl(Z:DC)(X:Cx)(a:List Nat)(b:List Expr)(g:nT):Prop:=Bj X b (Mb Z a g)
def aQ(i:Nat)(b:X.N.Nodup)(c:e.getD i 0=0:=by rfl)(f:X.N[i]?\x:=by rfl)(g:Loc X.env.scope x:=by subst_eqs)(j:X.fn x=true\/X.env.scope.names.lookup x\.local:=by subst_eqs):CN Z X e (.Name x a) (wU i):=by
 refine(pL b f g j).imp λv m H Q k=>?_;rfl';obtain⟨B,o,d,P,G,p,S,dv,h,q⟩:=k;ac_rfl;exact q _ h _ _ (S.qb c dv)
def gu:Hl Z X md [] K7:=by
 refine yV.imp λv c H Q a=>?_;rfl';obtain⟨B,e,f,P,G,g,S,dv,⟨h,p⟩,q⟩:=a;subst h;cases dv;ac_rfl;exact#[rfl,q _ p _ _ S]
def bZ(d:CN Z X md e g)(f:Hl Z X md b c)(i:(assignEach (e::b) X.env).map (·.2)=assign e X.env::(assignEach b X.env).map (·.2):=by rfl):Hl Z X md (e::b) (Hw g c):=by
 refine(qF d f i).imp ?_;intro v t H Q j;rfl';obtain⟨B,l,w,P,G,m,S,dv,h,q⟩:=j;ac_rfl;cases dv with
 |nil=>exact h.elim
 |cons a n=>exact#[_,_,rfl,B,l,_,_,G,m,S,a,h,λo p x r s=>#[B,o,_,P,G,r,s,n,p,q]]
def jX(n:Nat)(f:X.calm=true)(h:Hl Z X md b e)(g:(assignEach b X.env).length=n:=by rfl)(i:(assignEach b X.env).findIdx? (·.1)=none:=by rfl):CN Z X md (.Tuple b k c) (K8 n e):=by
 refine(Cc f h g i).imp ?_;rintro v p H Q ⟨B,j,d,P,G,l,S,dv,h,q⟩;cases dv<;>first|exact h.elim|skip
 rename_i a m r o b
 exact#[a,m,rfl,eG.of (S.ex.sub _ _ o),by rw[b.length];exact h.1,B,j,_,P,G,l,S,b,h.2,q]
def UA(b:List Nat)(c:bw)(g:eQ):cN:=λE a=>c (dW b a) λd=>g d a E.nx
def Bv(i:DE Z X e c)(j:CN Z X md a g)(k:swapsWithSole [a] e b.line X.env=pure false:=by rfl)(hw:swappedStores [a] e X.env=pure none:=by rfl)
  (l:(assignEach [a] X.env).map (·.2)= [assign a X.env]:=by rfl):DSt Z X md rn (.Assign [a] e b) (UA md c g):=by
 refine(xb i j k hw l).imp ?_;intro D w H m;rfl';obtain⟨B,o,E,⟨G,p,S⟩,h,M⟩:=m;ac_rfl;exact S.ev false h λd q=>#[trivial,λv f z r x dv=>#[B,o,d,E.nx,f,p,r,dv,q,λA s C t u=>M.nx _ s _ _ #[f,t,u]]]
def iE(g:eQ)(a:cN)(E:f6):List D->DN->Prop
 | [],b=>E.nx b
 |x::c,b=>g x b λd=>a {nx:=iE g a E c,ct:=iE g a E c,bk:=E.nx,rt:=E.rt,xc:=E.xc} d
def QB(b:List Nat)(m:Bool)(c:jH)(g:eQ)(d:cN):cN:=λE a=>c (zp b m a) λe=>iE g d E e a
def uM(S:SIx Z B md h c H G fp)(I:xn Z G J k)(L:iE g r E k h)(M:Meets Z X B md rn E q):
  ∃W:Nat->Nat->St->Hp->Prop,(∃m,W 0 m c H)/\∀i m c H,W i m c H->
   (J.stop i H/\q.nx c H)\/(J.go i H/\∃N:St->Hp->Prop,(∀j a,N j a->∃A,A<m/\W (i+1) A j a)/\∀x a,J.yld i H x a->BW Z md g x c a λC v=>pj Z X md rn r {q with nx:=N,ct:=N,bk:=q.nx} C v):=by
 let p:Bs:={B with Gf:=G}
 have back:∀h c H,SI Z p md h c H->SI Z B md h c H:=λh c H #[s,t,f]=>#[s,t,#[f.ex,S.fl.trans f.fl,f.len,f.at_,f.nd,f.ap,f.nw]];have O:SIx Z p md h c H G fp:=#[S.ex, .refl _,S.len,S.at_,S.nd,S.ap,S.nw];refine#[λi m c H=>m=k.length-i/\i<=k.length/\∃h,SI Z p md h c H/\iE g r E (k.drop i) h,#[_,rfl,dZ _,h,#[G,fp,O],L],?_];intro i m C v P;rfl';obtain⟨rfl,hi,R,⟨s,t,f⟩,u⟩:=P;obtain⟨T,stop,yld⟩:=I s v f.fl f.ex.sub i;ac_rfl
 by_cases z:i<k.length
 .refine .inr #[T z,λj a=>∃l,SI Z p md l j a/\iE g r E (k.drop (i+1)) l,λj a n=>#[k.length-(i+1),(),rfl,z,n],λx a y=>?_]
  rfl';obtain⟨F,d,U,Y,dv⟩:=yld x a z y;rw[oS Y] at u;ac_rfl;refine#[p,R,d,_,F,t,f.grow U,dv,u,λUa h4 fw R9 S4=>?_];exact#[p,Ua,_,#[F,R9,S4],h4,#[λl o j a b=>#[l,b,o],M.rt,λl o j a b=>M.nx _ o _ _ (back _ _ _ b),λl o j a b=>#[l,b,o],λl d o j a G' ot a' b kz=>M.xc l d o j a G' ot a' #[b.ex,S.fl.trans b.fl,b.len,b.at_,b.nd,b.ap,b.nw] kz]]
 .have e:k.drop i= []:=zC ()
  rw[e] at u;exact .inl #[stop (),M.nx _ u _ _ (back _ _ _ #[s,t,f])]
variable {tg iter:Expr} {body:List Stmt} {wi:jH} {g:eQ} {tb:cN} {pos:Pos}
def dh(a:X.calm=true)(b:PassesOwn (model X.prog X.w) X.A X.env X.xe)(c:DI Z X tg iter wi)(d:CN Z X md tg g)(e:uD Z X md rn body tb)
  (f:∀x,foldedSetIterable iter X.env x=pure x:=by intro _;rfl):DSt Z X md rn (.For tg iter body [] pos) (QB md false wi g tb):=by
 refine(tZ b a c d e f).imp ?_;intro D n H i;rfl';obtain⟨B,p,E,⟨G,q,S⟩,h,M⟩:=i;ac_rfl;exact#[G,_,_,S.ex.sub,S.Dz,h,λr k J s t l m=>uM (S.grow l) m k M]
def O1(Z:DC)(d:jH):TI:=λe H R=>∃(G:Hp)(a:DN)(P:List D->Prop),bg G H/\fb Z G e a/\d a P/\∀b,P b->∀J f c,Ext G H f c->(∀h,xn Z h J b)->R J c
def Ud(Z:DC)(X:Cx)(a e:Expr)(b:jH):Prop:=PI X a e (O1 Z b)
def jB(a:X.calm=true)(b:PassesOwn (model X.prog X.w) X.A X.env X.xe)(c:Ud Z X tg iter wi)(d:CN Z X md tg g)(e:uD Z X md rn body tb)
  (f:∀x,foldedSetIterable iter X.env x=pure x:=by intro _;rfl):DSt Z X md rn (.For tg iter body [] pos) (QB md true wi g tb):=by
 refine(tZ b a c d e f).imp ?_;intro D o H i;rfl';obtain⟨B,k,E,⟨G,q,S⟩,h,M⟩:=i;ac_rfl;exact#[H,k,_, .refl _,S.HD,h,λr l J s t m n=>uM (S.grow (Ext.all S.ex.sub m)) (n _) l M]
variable {a b e:Expr} {ta te:bw} {t:iY}
def gd(d:Gl X "range")(f:X.mg "range"=none)(i:DA Z X [a] t)(j:starEach [a] X.env= [(false,eval a X.env)]:=by rfl):Ud Z X tg (.Call (.Name "range" p) [a] [] pos) (QH t):=by
 refine(yX d f i j).imp ?_;intro v H Q k;rfl';obtain⟨G,m,P,s,n,h,q⟩:=k;ac_rfl;refine#[G,m,_,s,n,h,λx c y o r u dv=>?_]
 split at c
 .obtain⟨_,rfl,a⟩:=dv.ofOne
  exact#[_,by rw[a.ofInt],c.1.1,c.1.2,q _ c.2 _ o r u λ_=>AF 0 _]
 .exact c.elim
def Hu(c:dP)(i:cN):cN:=λE d=>∃W:Nat->DN->Prop,(∃m,W m d)/\∀m d,W m d->c d λb=>if b=true then i {nx:=λh=>∃f,f<m/\W f h,ct:=λh=>∃f,f<m/\W f h,bk:=E.nx,rt:=E.rt,xc:=E.xc} d else E.nx d
def ke(y:PassesOwn (model X.prog X.w) X.A X.env X.xe)(z:DT Z X c tc)(k:uD Z X md rn body tb):DSt Z X md rn (.While c body [] pos) (Hu tc tb):=by
 refine(JX y z k).imp ?_;intro D r H o;rfl';obtain⟨B,l,E,S,⟨W,⟨F,I⟩,turn⟩,M⟩:=o;ac_rfl;refine#[λm r H=>∃l,SI Z B md l r H/\W m l,#[F,l,S,I],?_];intro m O P o;rfl';obtain⟨s,⟨u,v,J⟩,L⟩:=o;ac_rfl;refine J.UZ (turn m s L) λb k h x=>?_;cases b with
 |false=>exact bM (M.nx _ (k) _ _ #[u,v,x])
 |true=>
  refine eC #[λn h=>∃d f,f<m/\SI Z B md d n h/\W f d,λn h #[d,f,i,j,N]=>#[f,i,d,j,N],B,s,_,#[u,v,x],(k),?_];exact#[λd #[f,i,j] n h q=>#[d,f,i,q,j],M.rt,M.nx,λd #[f,i,j] n h q=>#[d,f,i,q,j],M.xc]
abbrev lR:=DN->(List D->Prop)->Prop
def yw(Z:DC)(n:Nat)(t:lR):TE:=λj H Q=>∃(G:Hp)(h:DN)(P:List D->Prop),bg G H/\fb Z G j h/\t h P/\∀i,P i->∀v f d c,Ext G H d c->Own Z d c n v (.lst i) f->f.Nodup->(∀b∈f,H b=none/\c b≠none/\d b=none)->Q v c
def DF(Z:DC)(X:Cx)(n:Nat)(e:Expr)(t:lR):Prop:=PE X e (yw Z n t)
def Ext.side(x:Ext G H d c)(f:c p=none):Ext G H d (upd c p o):=
 #[x.gg,λb u e=>by rw[aN (bI e (x.sub.free f))];exact x.sub _ _ e,x.hh.trans (bp f _),x.off]
def kI(x:Ext G H d f)(i:f p=none)(dv:DvAll Z d c h):
  Own Z d (upd f p (.lst c)) 1 (.ref p) (.lst h) [p]/\([p]:List Addr).Nodup/\∀b∈([p]:List Addr),H b=none/\(upd f p (.lst c)) b≠none/\d b=none:=by
 refine#[.inl #[p,c,h,[],rfl,rfl,aD,rfl,dv.own],by simp,λb j=>?_]
 have:b=p:=by simpa using j
 subst this;exact#[x.hh.free i,(aD▸λz=>nomatch z),x.sub.free i]
def U2(t:iY):lR:=λd P=>t d λc=>c.length<=sizeLine/\P c
def fW(h:DA Z X c t):DF Z X 1 (.List c pos) (U2 t):=by
 refine(HX h).imp ?_;intro v H Q j;rfl';obtain⟨G,l,P,s,e,h,q⟩:=j;ac_rfl;exists G,l,_,s,e,h;rintro x ⟨m,n⟩ y z A d f;refine#[by rw[f.length];exact m,λp i=>?_]
 obtain⟨o,r,u⟩:=kI d i f;exact q _ n _ _ _ _ (d.side i) o r u
def R5(c:bw):lR:=λf P=>c f λd=>match d with
 | .lst l=>P l
 | .tup l=>P l
 |_=>False
def tx{x:Str}{p:Pos}(F:x="list")(n:Gl X x)(o:X.mg x=none)(r:bootBuiltins x\(.type "list"))(u:DE Z X a ta)(w:x≠"__name__":=by decide)(y:(x==("__debug__":Str))=false:=by decide)
  (m:starEach [a] X.env=(false,eval a X.env)::starEach [] X.env:=by rfl) (z:(backTo pos (starEach [] X.env)).any (·.1)=false:=by rfl):DF Z X 1 (.Call (.Name x p) [a] [] pos) (R5 ta):=by
 refine(sA qN n o r (cE u e9 m) w y m z).imp ?_;intro I H Q A;rfl';obtain⟨G,E,P,s,e,h,q⟩:=A;ac_rfl;refine#[G,E,_,s,e,h,λd i v L M c dv=>?_];cases dv<;>first|exact i.elim|skip
 .rename_i h e
  refine#[_,_,rfl, .inl (cG.of (c.sub _ _ h)),λp f=>?_];obtain⟨j,k,l⟩:=kI c f e;exact q _ i _ _ _ _ (c.side f) j k l
 .rename_i h e
  refine#[_,_,rfl, .inr (eG.of (c.sub _ _ h)),λp f=>?_];obtain⟨j,k,l⟩:=kI c f e;exact q _ i _ _ _ _ (c.side f) j k l
def R4(d:jH)(g:eQ)(f:dP)(h:bw)(src:List (Option Nat)):lR:=λc P=>d c λi=>lcW g f h i (A1 src c) [] λ_ out=>P out
def Ec:∀r H Q,yw Z 1 (R4 wi g p te src) r H Q->NJ (yx Z wi) (uW Z g) (liftT Z p) (fj Z te) src r H Q:=by
 intro r H Q N;rfl';obtain⟨G,R,P,s,v,h,q⟩:=N;ac_rfl;refine#[G,R,_,s,v,h,λf S J A T d C j w=>?_];refine#[λi m x k=>m=f.length-i/\i<=f.length/\∃l acc,CS Z A T j l acc x k/\lcW g p te (f.drop i) l acc λ_ out=>P out,#[_,rfl,dZ _,_,[], .begin d.sub w ((v.mono d.gg).src src),S],?_];rintro i m x k ⟨rfl,hi,l,acc,c,y⟩
 by_cases E:i<f.length
 .obtain⟨U,turn⟩:=AI w A C i l acc x k c (λ_ s=>s) E y
  exact .inr #[U,_,λaB H' n=>#[f.length-(i+1),(),rfl,E,n],turn]
 .have e:f.drop i= []:=zC ()
  rfl';rw[e] at y;obtain⟨F,Y,I,L,a,off,t,M,B,v⟩:=c;ac_rfl;refine .inl #[(C F k I L i).2.1 (),q _ y (.ref j) [j] F k #[d.gg.trans I,L,d.hh.trans a,λb o X=>off b (jF d.hh o) (d.off b o X)] (.inl #[j,Y,acc,[],rfl,rfl,M,rfl,B.own]) (by simp) λb o=>?_]
  have:b=j:=by simpa using o
  subst this;exact#[d.hh.free w,(by rw[M];exact λz=>nomatch z),t]
variable {elt:Expr} {ifs:List Expr} {scope:Scope} {NC:List Str} {src:List (Option Nat)} {tt:dP}
def QF(d:List Nat)(i:Nat)(t:lR):cN:=λE c=>t (dW d c) λf=>E.nx (c.set i (some (.lst f)))
def AM{t:lR}(p:md.getD i 0=n)(S:SIx Z B md ρ σ H G fp)(h:t (dW md ρ) λl=>E.nx (ρ.set i (some (.lst l))))(M:Meets Z X B md rn E k):yw Z n t σ H λv m=>k.nx (σ.set i (some v)) m:=by
 refine#[G,_,_,S.ex.sub,S.Dz,h,λl q v f r m x o s d=>?_];refine M.nx _ q _ _ #[r,_,(S.grow x).v9 p o s (λb c=>#[S.ex.hh.free (d b c).1,(d b c).2]) λb c j _ u=>(S.nw j b u).2.1 (d b c).1]
def c4(i:Nat){t:lR}(j:X.N.Nodup)(k:DF Z X n e t)(l:f.getD i 0=n:=by rfl)(m:X.N[i]?\x:=by rfl)(o:Loc X.env.scope x:=by subst_eqs)(p:swapsWith e (some (.Name x c)) d.line X.env=pure false:=by rfl)
  (q:X.fn x=true\/X.env.scope.names.lookup x\.local:=by subst_eqs):DSt Z X f u (.Assign [.Name x c] e d) (QF f i t):=by
 refine(lB j m o k p q).imp ?_;intro D v H r;rfl';obtain⟨B,y,E,⟨G,z,S⟩,h,M⟩:=r;ac_rfl;exact AM l S h M
def Ak(i:Nat)(k:X.calm=true)(l:X.N.Nodup)(c:ck X scope)(m:c8 scope X.N src NC)(n:DI Z X tg iter wi)
  (o:∀d s H,DG Z (cO X scope NC d s H) tg g) (p:∀d s H,Bd Z (cO X scope NC d s H) ifs tt) (q:∀d s H,DE Z (cO X scope NC d s H) elt te)
  (r:swapsWith (.ListComp elt [#[tg,iter,ifs,0]] scope pos) (some (.Name x f)) j.line X.env=pure true:=by rfl) (u:md.getD i 0=1:=by rfl) (v:X.N[i]?\x:=by rfl) (w:Loc X.env.scope x:=by subst_eqs)
  (y:X.fn x=true\/X.env.scope.names.lookup x\.local:=by subst_eqs)
  (z:∀x,foldedSetIterable iter X.env x=pure x:=by intro _;rfl):DSt Z X md rn (.Assign [.Name x f] (.ListComp elt [#[tg,iter,ifs,0]] scope pos) j) (QF md i (R4 wi g tt te src)):=by
 refine(vc k l v w c m n o p q r y z).imp ?_;intro D A H C;rfl';obtain⟨B,J,E,⟨G,L,S⟩,h,M⟩:=C;ac_rfl;exact Ec A H _ (AM u S h M)
end
section
variable {Z:DC} {X:Cx} {B:Bs} {md:List Nat} {rn:Nat} {ρ:DN} {σ:St} {H G:Hp} {fp:Nat->List Addr} {a e k o:Expr} {ta te tk tp:bw} {pos apos aV p2:Pos}
def SIx.mut{b:Addr}(S:SIx Z B md ρ σ H G fp)(r:σ[i]?\(some v))(n:b∈fp i)(o:Own Z G (upd H b c) (md.getD i 0) v m (fp i)):SIx Z B md (ρ.set i (some m)) σ (upd H b c) G fp where
 ex:=by
  obtain⟨d,p,f⟩:=S.nw i b n;exact#[S.ex.gg,λx u e=>by rw[aN (bI e f)];exact S.ex.sub _ _ e,λx u e=>by rw[aN (bI e d)];exact S.ex.hh _ _ e,S.ex.off]
 fl:=S.fl
 len:=by rw[cV];exact S.len
 at_:=λj w h=>by
  by_cases z:i=j
  .subst z
   by_cases g:i<ρ.length
   .rw[fY g] at h
    cases Da h;exact#[v,r,o]
   .rw[A5 (lK g),fZ (lK g)] at h;cases h
  .rw[fA z] at h
   obtain⟨u,s,t⟩:=S.at_ j w h;exact#[u,s,t.keep (.refl _) λx l=>aN λq=>S.ap i j b z n (q▸l)]
 nd:=S.nd
 ap:=S.ap
 nw:=λj x l=>by
  obtain⟨d,p,f⟩:=S.nw j x l;refine#[d,?_,f]
  by_cases z:x=b
  .rw[z,aD];exact λq=>nomatch q
  .rw[aN z];exact p
theorem SIx.one{i:Nat}{d:D}(S:SIx Z B md ρ σ H G fp)(j:md.getD i 0=1)(h:ρ[i]?\(some d)):∃l b c,d= .lst c/\σ[i]?\(some (.ref l))/\H l\(.lst b)/\DvAll Z G b c/\
  ∀f g,DvAll Z G f g->SIx Z B md (ρ.set i (some (.lst g))) σ (upd H l (.lst f)) G fp:=by
 rfl';obtain⟨v,m,o⟩:=S.at_ i d h;rw[j] at o;obtain⟨l,b,c,u,rfl,rfl,q,n,r⟩:=o.one;obtain⟨dv,rfl⟩:=r.flat;ac_rfl;refine#[l,b,c,rfl,m,q,dv,λf g s=>S.mut m (by rw[n];simp) ?_]
 rw[j,n];exact .inl #[l,f,g,[],rfl,rfl,aD,rfl,s.own]
def ty_list{K:ab}{l:Addr}{b:List V}(h:H l\(.lst b)):Qk K "list" (.ref l) H:= .inl #[rfl,_,cG.of h]
def KQ(f:List Nat)(m:Bool)(i:Nat)(g:bw):cN:=λE b=>∃c,b[i]?\(some (.lst c))/\g (zp f m b) λd=>wX m d/\c.length<sizeLine/\E.nx (b.set i (some (.lst (c++ [d]))))
def gr(m:Bool)(i:Nat)(t:DE Z X e te)(g:md.getD i 0=1:=by rfl)(u:X.N[i]?\x:=by rfl)(w:jw X.env.scope x:=by subst_eqs)(f:(x==("__debug__":Str))=false:=by decide)(y:(x==("__classdict__":Str))=false:=by decide)
  (z:attributeBase (.Name x b) "append" X.env (eval (.Name x b) X.env)=eval (.Name x b) X.env:=by rfl)
  (A:((backTo aV (starEach [e] X.env)).all (λx=>!x.1)&&(backToKw aV (keywordEach [] X.env)).all (λx=>x.1.isSome)&&decide (([e]:List Expr).length+([]:List Keyword).length+(if ([]:List Keyword).isEmpty then 0 else 1)<30))=true:=by rfl)
  (C:(apos.endLine==aV.line)=true:=by rfl) (j:starEach [e] X.env=(false,eval e X.env)::starEach [] X.env:=by rfl) (F:(backTo aV (starEach [] X.env)).any (·.1)=false:=by rfl)
  (I:swapsWith (.Call (.Attribute (.Name x b) "append" apos) [e] [] aV) none pos.line X.env=pure false:=by rfl):
  DSt Z X md rn (.Expr (.Call (.Attribute (.Name x b) "append" apos) [e] [] aV) pos) (KQ md m i te):=by
 refine(jD (yU UF ab6 ab7 kC (pv i u w f y) (cE t e9 j) z A C j F) I).imp ?_;intro D k H J;rfl';obtain⟨B,o,E,⟨G,L,S⟩,⟨ds,p,h⟩,M⟩:=J;ac_rfl;rfl';obtain⟨l,xs,_,_,q,O,_⟩:=S.one g p;ac_rfl;refine#[_,q,ty_list O,S.ev m h λd f=>#[f.1,λv P H' Q x dv=>?_]];rfl';obtain⟨_,R,T⟩:=f;obtain⟨l',U,gX,Y,r,a,s,put⟩:=Q.one g p;cases Y;ac_rfl;rw[q] at r;cases r;exact#[l,U,v,rfl,rfl,a,by rw[s.length];exact R,M.nx _ T _ _ #[P,L,put _ _ (s.snoc dv)]]
def N5{j n:Nat}(d:b.length=n)(h:k4 n i\j)(e:b[j]?\v):fc b i\v:=by unfold fc;rw[d,h];exact e
def Ht(f:List Nat)(m:Bool)(i:Nat)(g h:bw):cN:=λE b=>h (zp f m b) λd=>wX m d/\∃c,b[i]?\(some (.lst c))/\g b λl=>∃k j,l= .int k/\k4 c.length k\j/\E.nx (b.set i (some (.lst (c.set j d))))
def ja(m:Bool)(i:Nat)(z:DE Z X k tk)(A:DE Z X e te)(r:md.getD i 0=1:=by rfl)(C:X.N[i]?\x:=by rfl)(F:jw X.env.scope x:=by subst_eqs)(g:(x==("__debug__":Str))=false:=by decide)(I:(x==("__classdict__":Str))=false:=by decide)
  (J:∀v,assign (.Subscript (.Name x b) k c) X.env v=(do
   let n <-holding [v] (eval (.Name x b) X.env)
   let q <-holding [v,n] (eval k X.env)
   standAt c
   holding [v,n,q] (setItem n q v)
   release [v,n,q] []):=by intro _;rfl)
  (L:swapsWithSole [.Subscript (.Name x b) k c] e pos.line X.env=pure false:=by rfl) (hw:swappedStores [.Subscript (.Name x b) k c] e X.env=pure none:=by rfl)
  (p:(assignEach [.Subscript (.Name x b) k c] X.env).map (·.2)= [assign (.Subscript (.Name x b) k c) X.env]:=by rfl):DSt Z X md rn (.Assign [.Subscript (.Name x b) k c] e pos) (Ht md m i tk te):=by
 refine(xb A (HY (pv i C F g I) z set_list J) L hw p).imp ?_;intro D σ H O;rfl';obtain⟨B,ρ,E,⟨G,P,S⟩,h,M⟩:=O;ac_rfl;refine S.ev m h λd g=>#[g.1,λv G' H' t x dv=>?_];rfl';obtain⟨_,ds,p,h⟩:=g;obtain⟨l,xs,_,_,u,e3,_⟩:=t.one r p;ac_rfl;refine#[_,u,t.ev true h ?_];rintro _ ⟨k,j,rfl,Q,R⟩;refine#[rfl,λv1 T H1 U Y a=>?_];rfl';cases a.ofInt;obtain⟨l',o,gX,e1,w,Bx,y,put⟩:=U.one r p;cases e1;ac_rfl;rw[u] at w;cases w;exact#[l,o,k,j,rfl,rfl,Bx,by rw[y.length];exact Q,M.nx _ R _ _ #[T,P,put _ _ (y.set (dv.mono Y.gg) j)]]
def UM(f:List Nat)(i j:Nat):cN:=λE b=>∃c d,b[j]?\(some (.lst (c++ [d])))/\E.nx ((b.set j (some (.lst c))).set i (some d))
def HB(i j:Nat)(u:X.N.Nodup)(w:f.getD i 0=0:=by rfl)(z:f.getD j 0=1:=by rfl)(A:X.N[i]?\x:=by rfl)(C:Loc X.env.scope x:=by subst_eqs)
  (I:X.N[j]?\y:=by rfl) (J:jw X.env.scope y:=by subst_eqs) (L:(y==("__debug__":Str))=false:=by decide) (O:(y==("__classdict__":Str))=false:=by decide)
  (P:attributeBase (.Name y py) "pop" X.env (eval (.Name y py) X.env)=eval (.Name y py) X.env:=by rfl) (Q:(b.endLine==r.line)=true:=by rfl)
  (R:swapsWith (.Call (.Attribute (.Name y py) "pop" b) [] [] r) (some (.Name x q)) g.line X.env=pure false:=by rfl)
  (T:X.fn x=true\/X.env.scope.names.lookup x\.local:=by subst_eqs):DSt Z X f rn (.Assign [.Name x q] (.Call (.Attribute (.Name y py) "pop" b) [] [] r) g) (UM f i j):=by
 refine(lB u A C (HW UF PySem.F.slot_list_pop PySem.F.type_list_pop O5 (pv j I J L O) P Q) R T).imp ?_;intro D σ H U;rfl';obtain⟨B,ρ,E,⟨G,fp,S⟩,⟨n,d,a,h⟩,M⟩:=U;ac_rfl;rfl';obtain⟨l,c,gX,e,k,s,p,put⟩:=S.one z a;cases e;have t:c.length=n.length+1:=by rw[p.length];simp
 obtain⟨v,o,dv⟩:=p.get (i:=c.length-1) (d:=d) (by rw[t];simp)
 ac_rfl;refine#[_,k,ty_list s,l,c,v,rfl,rfl,s,o,M.nx _ h _ _ #[G,_,(put c.dropLast n ?_).qb w dv]]
 have:=p.take n.length
 rw[List.take_left'] at this
 .rw[List.dropLast_eq_take,t];exact this
 .rfl
def SIx.Ih{j:Nat}{d:D}(S:SIx Z B md ρ σ H G fp)(h:ρ[j]?\(some d)):∃v,σ[j]?\(some v)/\Dv Z (plus G H λb=>b∈fp j) v d/\SIx Z B md (ρ.set j none) σ H (plus G H λb=>b∈fp j) (λk=>if k=j then[] else fp k):=by
 have s:=S.ex.sub;obtain⟨v,m,o⟩:=S.at_ j d h;refine#[v,m,o.dv (fR s) λb g u e=>by rw[mN g];exact e,?_]
 refine#[#[S.ex.gg.trans (fR s),km s,S.ex.hh,λb g n=>?_],S.fl.trans (fR s),by rw[cV];exact S.len,λk c f=>?_,λk=>by split;exact gF;exact S.nd k,λk p b ne f i=>?_,λk b g=>?_]
 .rw[jg (λz=>g (S.nw j b z).1)];exact S.ex.off b g n
 .by_cases z:j=k
  .subst z
   by_cases l:j<ρ.length
   .rw[fY l] at f;cases f
   .rw[A5 (lK l),fZ (lK l)] at f;cases f
  .rw[fA z] at f
   obtain⟨u,q,r⟩:=S.at_ k c f;exact#[u,q,by rw[ir (Ne.symm z)];exact r.keep (fR s) λ_ _=>rfl]
 .split at f
  .cases f
  .split at i
   .cases i
   .exact S.ap k p b ne f i
 .split at g
  .cases g
  .next z=>
   obtain⟨t,x,y⟩:=S.nw k b g;exact#[t,x,by rw[jg (λw=>S.ap k j b z g w)];exact y]
def RB(f:List Nat)(i j:Nat):cN:=λE b=>∃c d,b[i]?\(some (.lst c))/\b[j]?\(some d)/\c.length<sizeLine/\E.nx ((b.set j none).set i (some (.lst (c++ [d]))))
def Lc(i j:Nat)(n:i≠j:=by decide)(p:md.getD i 0=1:=by rfl)(q:X.N[j]?\y:=by rfl)(r:jw X.env.scope y:=by subst_eqs)(s:(y==("__debug__":Str))=false:=by decide)(t:(y==("__classdict__":Str))=false:=by decide)(u:X.N[i]?\x:=by rfl)(w:jw X.env.scope x:=by subst_eqs)(z:(x==("__debug__":Str))=false:=by decide)(A:(x==("__classdict__":Str))=false:=by decide)
  (C:attributeBase (.Name x b) "append" X.env (eval (.Name x b) X.env)=eval (.Name x b) X.env:=by rfl)
  (F:((backTo aV (starEach [.Name y py] X.env)).all (λx=>!x.1)&&(backToKw aV (keywordEach [] X.env)).all (λx=>x.1.isSome)&&decide (([.Name y py]:List Expr).length+([]:List Keyword).length+(if ([]:List Keyword).isEmpty then 0 else 1)<30))=true:=by rfl)
  (I:(apos.endLine==aV.line)=true:=by rfl) (f:starEach [.Name y py] X.env=(false,eval (.Name y py) X.env)::starEach [] X.env:=by rfl) (J:(backTo aV (starEach [] X.env)).any (·.1)=false:=by rfl)
  (L:swapsWith (.Call (.Attribute (.Name x b) "append" apos) [.Name y py] [] aV) none pos.line X.env=pure false:=by rfl):
  DSt Z X md rn (.Expr (.Call (.Attribute (.Name x b) "append" apos) [.Name y py] [] aV) pos) (RB md i j):=by
 refine(jD (yU UF ab6 ab7 kC (pv i u w z A) (cE (pv j q r s t) e9 f) C F I f J) L).imp ?_;intro D σ H O;rfl';obtain⟨B,Q,E,⟨G,fp,S⟩,⟨R,d,T,U,Y,h⟩,M⟩:=O;ac_rfl;rfl';obtain⟨v,a,dv,e⟩:=S.Ih U;have k:(Q.set j none)[i]?\(some (.lst R)):=by rw[fA (Ne.symm n)];exact T
 obtain⟨l,o,gX,e1,e2,g,m,put⟩:=e.one p k;cases e1;ac_rfl;exact#[_,e2,ty_list g,_,a,l,o,v,rfl,rfl,g,by rw[m.length];exact Y,M.nx _ h _ _ #[_,_,put _ _ (m.snoc dv)]]
end
structure Uc (mg:Str->Option Value):Prop where
 len:mg "len"=none
 range:mg "range"=none
 max:mg "max"=none
 min:mg "min"=none
 enumerate:mg "enumerate"=none
 zip:mg "zip"=none
 sorted:mg "sorted"=none
 all:mg "all"=none
 isinstance:mg "isinstance"=none
 int:mg "int"=none
 bool:mg "bool"=none
 list:mg "list"=none
 tuple:mg "tuple"=none
 sum:mg "sum"=none
 reversed:mg "reversed"=none
def N8:bootBuiltins "max"\(.builtin "max"):=by decide+kernel
def wQ:bootBuiltins "min"\(.builtin "min"):=by decide+kernel
def C3:bootBuiltins "bool"\(.type "bool"):=by decide+kernel
def Ho:bootBuiltins "int"\(.type "int"):=by decide+kernel
def fg:bootBuiltins "list"\(.type "list"):=by decide+kernel
def Ag:bootBuiltins "tuple"\(.type "tuple"):=by decide+kernel
def i8:bootBuiltins "sorted"\(.builtin "sorted"):=by decide+kernel
def bz:bootBuiltins "len"\(.builtin "len"):=by decide+kernel
def Af:bootBuiltins "range"\(.type "range"):=by decide+kernel
section
variable {P:Program} {w:World} {K:ab} {mg:Str->Option Value} {base:Heap} {Z:DC}
def xg(N:List Str)(a:List D):DN:=a.map some++aj (N.length-a.length) none
def dE(Z:DC)(n:Nat)(g:bS):Sp:=λh H Q _=>∃(G:Hp)(e:List D)(P:D->Prop),bg G H/\DvAll Z G h e/\g e P/\∀d,P d->∀v f c a,Ext G H c a->Own Z c a n v d f->f.Nodup->(∀b∈f,H b=none/\a b≠none/\c b=none)->Q v a
def Own.pure(x:Ext G H c a)(o:Own Z c a n v d f)(i:∀b∈f,H b=none/\a b≠none/\c b=none):∃h,Ext G H h a/\Dv Z h v d:=by
 refine#[plus c a λb=>b∈f,#[x.gg.trans (fR x.sub),km x.sub,x.hh,λb g j=>?_],o.dv (fR x.sub) λb g u e=>by rw[mN g];exact e]
 rw[jg (λz=>g (i b z).1)];exact x.off b g j
def GO:∀a H Q E,aU Z b a H Q E->dE Z n b a H Q E:=by
 intro a H Q E c;rfl';obtain⟨G,g,P,s,dv,h,q⟩:=c;ac_rfl;exact#[G,g,P,s,dv,h,λd i v f t j x o u k=>let #[l,m,p]:=o.pure x k;q d i v l j m p]
theorem g8(l:Nat){x a:Str}{st:Stmt}{f:Addr}{n:FuncData}{N g:List Str}{k:Nat}{m:bS}(F:zJ K x a st f n)(S:aI N g (au st))(o:List Nat)(r:∀i,i<g.length->o.getD i 0=0)(len:∀c P,m c P->c.length=g.length)
  (u:∀(j:Value)(A:Around)(outer:List Env)(s:Shared)(H:Hp)(E:XK)(c:List D)(R:D->Prop),c7 k (A.deeper (envOfC a (au st) s.heap.objs.size f j))->m c R->
   ∃t,uD Z (vM cg P w K mg base N a (au st) f j A outer s H E).jN o l (fI st) t/\t {nx:=λ_=>l=0/\R .bC,rt:=R} (xg N c)):FnOk P w K mg base cg (k+1) f n g (dE Z l m):=by
 refine F.ok S (λy H Q E h=>?_) (λj A outer s H y Q E B h=>?_)
 .obtain⟨G,c,R,s,dv,h,q⟩:=h
  rw[dv.length];exact len _ _ h
 rfl';obtain⟨G,c,R,I,dv,h,q⟩:=h;have J:=q;obtain⟨t,L,M⟩:=u j A outer s H E c R B h;have hl:=len _ _ h;ac_rfl;refine#[_,L,#[G,H,G],_,_,#[G,λ_=> [],?_],M,#[λρ p aB O #[T,fp,U]=>q _ p.2 _ [] T O U.ex (by rw[p.1];exact#[.bC,rfl]) gF (λb X=>by cases X),J,λ_ z=>z.elim,λ_ z=>z.elim,λ_ _ z=>z.elim]]
 refine#[.refl I, .refl _,by unfold xg start;simp[dv.length],λi d e=>?_,λ_=>gF,(λ_ _ _ _ z=>by cases z),(λ_ _ z=>by cases z)]
 unfold xg at e
 have zR:i<c.length:=by
  apply FB;intro z;rw[kU (~~~lK z),A6] at e
  split at e<;>cases e
 rw[kW (~~~zR),bW] at e
 have Y:c[i]?\d:=by
  cases z:c[i]? with
  |none=>rw[z] at e;cases e
  |some d'=>rw[z] at e;cases e;rfl
 obtain⟨v,hv,kz⟩:=dv.get Y;refine#[v,?_,by rw[r i ()];exact#[kz,rfl]]
 unfold start;rw[kW (by simpa [dv.length] using zR),bW,hv];rfl
def aZ{x c:Str}{st:Stmt}{f:Addr}{m:FuncData}{N e:List Str}{k:Nat}{j:bS}(F:zJ K x c st f m)(S:aI N e (au st))(l:List Nat)(n:∀i,i<e.length->l.getD i 0=0)(len:∀d P,j d P->d.length=e.length)
  (o:∀(g:Value)(A:Around)(outer:List Env)(s:Shared)(H:Hp)(E:XK)(d:List D)(R:D->Prop),c7 k (A.deeper (envOfC c (au st) s.heap.objs.size f g))->j d R->
   ∃t,uD Z (vM cg P w K mg base N c (au st) f g A outer s H E).jN l 0 (fI st) t/\t {nx:=λ_=>0=0/\R .bC,rt:=R} (xg N d)):FnOk P w K mg base cg (k+1) f m e (aU Z j):=
 (g8 0 F S l n len λg A outer s H E d R p h=>let #[t,a,b]:=o g A outer s H E d R p h;#[t,a,b]).imp GO
end
section
variable {Z:DC} {X:Cx} {a b c e o:Expr} {ta tb te:bw} {t:iY} {es:List Expr} {pos apos:Pos}
def Rq:bS:=λd P=>∃i j,d= [.int i, .int j]/\P (.int (if j<i then j else i))
def Ro:bS:=λd P=>∃i j,d= [.int i, .int j]/\P (.int (if j>i then j else i))
def EY(h:DvAll Z G d [.int i, .int j]):d= [.int i, .int j]:=by
 cases h with
 |cons a f=>
  cases f with
  |cons b bs=>cases bs;cases a;cases b;rfl
def KL(d:X.calm=true):cB X (.builtin "max") (g6 Z Ro):=by
 refine(Fh d).imp ?_;intro k H Q f;rfl';obtain⟨G,m,P,s,dv,⟨i,j,rfl,h⟩,q⟩:=f;ac_rfl;exact#[i,j,EY dv,q _ h _ G H (.refl s) (.int _)]
def C7(d:X.calm=true):cB X (.builtin "min") (g6 Z Rq):=by
 refine(Fj d).imp ?_;intro k H Q f;rfl';obtain⟨G,m,P,s,dv,⟨i,j,rfl,h⟩,q⟩:=f;ac_rfl;exact#[i,j,EY dv,q _ h _ G H (.refl s) (.int _)]
theorem kA:∀{d:List V}{f:List Int},DvAll Z G d (f.map D.int)->d=f.map V.int
 |d,[],h=>by cases h;rfl
 |d,b::bs,h=>by
  cases h with
  |cons a g=>cases a;rw[kA g];rfl
def N7:bS:=λg P=>∃d:List Int,g= [.lst (d.map D.int)]/\d.length<64/\∀f:List Int,f.Perm d->f.Pairwise (·<=·)->P (.lst (f.map D.int))
def ID:cB X (.builtin "sorted") (g6 Z N7):=by
 refine qO.imp ?_;rintro n H Q ⟨G,r,P,s,dv,⟨f,rfl,g,i⟩,q⟩;cases dv with
 |cons a j=>
  cases j;cases a with
  |lst h e=>
   refine#[_,f,rfl,cG.of (kA e▸s _ _ h),g,λp d k l m=>?_];exact q _ (i d l m) _ _ _ (.new s k) (.lst aD (.ints d))
def pairD(k:Nat×Nat):D:= .tup [.int (k.1:Nat), .int (k.2:Nat)]
theorem An:∀{d:List V}{f:List (Nat×Nat)},DvAll Z G d (f.map pairD)->∃L:List (Addr×(Nat×Nat)),d=L.map (λe=>V.ref e.1)/\L.map (·.2)=f/\Fb G L
 |d,[],h=>by cases h;exact#[[],rfl,rfl,λp g=>by cases g]
 |d,n::f,h=>by
  cases h with
  |cons a j=>
   obtain⟨L,k,l,m⟩:=An j;unfold pairD at a;cases a with
   | @tup p r x g e=>
    refine#[(p,n)::L,by rw[k];rfl,by rw[<-l];rfl,λq i=>?_]
    rcases bu.mp i with rfl|i
    .have:r=Gz n:=by
      cases e with
      |cons s u=>
       cases u with
       |cons v w=>cases s;cases v;cases w;rfl
     rw[<-this];exact g
    .exact m q i
theorem Fb.dv:∀{L:List (Addr×(Nat×Nat))},Fb G L->DvAll Z G (L.map λe=>V.ref e.1) ((L.map (·.2)).map pairD)
 | [],_=> .nil
 |x::L,h=> .cons (.tup (h x (bF ..)) (.cons (.int _) (.cons (.int _) .nil))) (Fb.dv λp d=>h p (cm _ d))
def Oc(g h:bw):bw:=λf P=>g f λd=>∃l,d= .lst l/\h f λy=>eE y=true/\l.all eE=true/\∃(j:Nat)(z:D),l[j]?\z/\iC z y=true/\(∀(m:Nat) z,m<j->l[m]?\z->iC z y=false)/\P (.int (j:Nat))
theorem qw(E:DE Z X o ta)(I:DE Z X e tb)
  (J:attributeBase o "index" X.env (eval o X.env)=eval o X.env:=by rfl)
  (L:((backTo d (starEach [e] X.env)).all (λx=>!x.1)&&(backToKw d (keywordEach [] X.env)).all (λx=>x.1.isSome)&&decide (([e]:List Expr).length+([]:List Keyword).length+(if ([]:List Keyword).isEmpty then 0 else 1)<30))=true:=by rfl)
  (M:(apos.endLine==d.line)=true:=by rfl) (r:starEach [e] X.env=(false,eval e X.env)::starEach [] X.env:=by rfl) (N:(backTo d (starEach [] X.env)).any (·.1)=false:=by rfl):
  DE Z X (.Call (.Attribute o "index" apos) [e] [] d) (Oc ta tb):=by
 refine(yU UF PySem.F.slot_list_index PySem.F.type_list_index JE E (cE I e9 r) J L M r N).imp ?_;intro σ H Q O;rfl';obtain⟨G,A,P,s,B,h,q⟩:=O;ac_rfl;exists G,A,_,s,B,h;rintro _ ⟨l,rfl,S⟩ v T H1 f dv;cases dv with
 | @lst p U ds C e=>
  refine#[ty_list (f.sub _ _ C),T,A,_,f.sub,B.mono f.gg,S,λy Y u a b i k=>?_];rfl';obtain⟨c,t,j,z,h3,h4,h5,h6⟩:=Y;have n:=e.mono i.gg;obtain⟨w,hw,dw⟩:=n.get h3;ac_rfl;refine#[p,U,u,j,w,rfl,rfl,i.hh _ _ (f.sub _ _ C),by rw[tD k];exact c,by rw[oV n];exact t,hw,by rw[Bz dw k];exact h4,λm z' hm hz=>?_,q _ h6 _ a b (f.trans i) (.int _)]
  obtain⟨d',jd,kz⟩:=n.DR hz;rw[Bz kz k];exact h5 m d' hm jd
end
structure Hm (Z:DC):Prop where
 cl:xj Z.K Z.C
 nR:mZ Z.K Z.C "rows"
section
variable {Z:DC} {X:Cx} {a b c e o:Expr} {ta tb te:bw} {t:iY} {es:List Expr} {pos apos:Pos}
def RP(f:bw):bw:=λg P=>f g λd=>∃w,d= .fS w/\P (aX w)
def tu(T:Hm Z)(i:DE Z X o ta)(d:X.K=Z.K:=by rfl)(j:attributeBase o "rows" X.env (eval o X.env)=eval o X.env:=by rfl):DE Z X (.Attribute o "rows" apos) (RP ta):=by
 refine(Pq i j).imp ?_;intro B H Q k;rfl';obtain⟨G,m,P,s,n,h,q⟩:=k;ac_rfl;exists G,m,_,s,n,h;rintro _ ⟨w,rfl,r⟩ v u x f dv;cases dv with
 | @fS p y R w z A g F I=>exact#[p,Z.C,y,_, .ref R,rfl,f.sub _ _ z,by rw[d];exact T.cl,by rw[d];exact T.nR,rfl,q _ r _ u x f A]
def Fp(g:bS)(h:bw)(t:iY):bw:=λf P=>h f λd=>∃w,d= .fS w/\t f λi=>g (.fS w::i) P
def AK(u:([("rows",V.ref 0)]:List (Str×V)).lookup m=none):∀j H Q,fj Z (Fp i ta t) j H Q->GX Z.C m (aU Z i) [] E0 (fj Z ta) (Gb Z t) j H Q:=by
 intro j H Q x;rfl';obtain⟨G,n,P,s,r,h,q⟩:=x;ac_rfl;exists G,n,_,s,r,h;rintro _ ⟨w,rfl,k⟩ v A b f dv;have B:=dv;cases dv with
 | @fS p E R w F c g e o=>
  refine#[p,E,_,rfl,f.sub _ _ F,?_,A,n,_,f.sub,r.mono f.gg,k,λX I J L M l N=>?_]
  .have O:(m==("rows":Str))=false:=by
    cases z:(m==("rows":Str)) with
    |false=>rfl
    |true=>simp[bv,z] at u
   simp[bv,O]
  .show aU Z i (V.ref p::(J++ [])) M Q E0
   rw[iV];exact#[L,_,P,l.sub, .cons (B.mono l.gg) N,I,λd k v S T U Y=>q d k v S T ((f.trans l).trans U) Y]
variable {sd:bS} {k:Nat} {f:Addr} {fd:FuncData} {ps:List Str} {m:Str}
def Dr(T:Hm Z)(h:DE Z X o ta)(i:Meth Z.K Z.C m f)(F:FnOk X.prog X.w X.K X.mg X.base cg k f fd ps (aU Z sd))(j:c7 k X.A)(l:Binds X.K fd ps [])(n:DA Z X (e::es) t)(d:X.K=Z.K:=by rfl)
  (p:([("rows",V.ref 0)]:List (Str×V)).lookup m=none:=by decide) (q:starEach (e::es) X.env=(false,eval e X.env)::starEach es X.env:=by rfl) (r:(backTo pos (starEach es X.env)).any (·.1)=false:=by rfl)
  (s:eval (.Call (.Attribute o m apos) (e::es) [] pos) X.env=(do
   let g <-eval o X.env
   standAt apos.atName
   let (f,first) <-holding [g] (getMethod g m pl)
   callWith pos f first (backTo pos (starEach (e::es) X.env)) (backToKw pos (keywordEach [] X.env))):=by rfl):DE Z X (.Call (.Attribute o m apos) (e::es) [] pos) (Fp sd ta t):=
 (MG (pl:=pl) h (by rw[d];exact T.cl) (by rw[d];exact i) F j l .nil sv n q r s).imp (AK p)
def fP(T:Hm Z)(l:DE Z X o ta)(n:Meth Z.K Z.C m f)(F:FnOk X.prog X.w X.K X.mg X.base cg k f fd ps (aU Z sd))(r:c7 k X.A)(u:Binds X.K fd ps [])(i:X.K=Z.K:=by rfl)
  (x:([("rows",V.ref 0)]:List (Str×V)).lookup m=none:=by decide)
  (y:eval (.Call (.Attribute o m apos) [] [] pos) X.env=(do
   let j <-eval o X.env
   standAt apos.atName
   let (f,first) <-holding [j] (getMethod j m pl)
   callWith pos f first (backTo pos (starEach [] X.env)) (backToKw pos (keywordEach [] X.env))):=by rfl):DE Z X (.Call (.Attribute o m apos) [] [] pos) (Fp sd ta qP):=
 (JO (pl:=pl) l (by rw[i];exact T.cl) (by rw[i];exact n) F r u .nil sv y).imp λz H Q h=>by
  rfl';obtain⟨G,E,P,s,I,h,q⟩:=AK x z H Q h;ac_rfl;refine#[G,E,P,s,I,h,λd J v L M N dv=>?_];rfl';obtain⟨p,O,fs,R,S,U,Y,t,P',a,b,c,e⟩:=q d J v L M N dv;ac_rfl;exact#[p,O,fs,R,S,U,e _ c _ Y _ (.refl a) .nil]
def ER(Z:DC):Sp:=λi H Q _=>∃(p h:Addr)(v:V)(G:Hp)(w:List (List Nat)),i= [.ref p,v]/\H p\(.ins Z.C h [])/\bg G H/\G p=none/\Dv Z G v (aX w)/\Wb.Good w/\1<=w.length/\w.length<=14/\
 ∀(R:Addr)(d g:Hp),bg G d->bg d g->(∀b o,H b\o->b≠p->g b\o)->(∀b,H b≠none->G b=none->d b=none)->g p\(.ins Z.C h [("rows", .ref R)])->Dv Z d (.ref R) (aX w)->Q .bC g
def RH(t:iY):bw:=λd P=>t d λg=>∃w,g= [aX w]/\Wb.Good w/\1<=w.length/\w.length<=14/\P (.fS w)
theorem K4(M:Mk Z.K Z.C f)(F:FnOk X.prog X.w X.K X.mg X.base cg k f fd ps (ER Z))(N:c7 (k+1) X.A)(n:Gl X x)(O:X.mg x\(.ref Z.C))(j:Binds X.K fd ps [])
  (S:DA Z X (e::es) t) (T:X.K=Z.K:=by rfl) (U:(x==("__debug__":Str))=false:=by decide) (Y:starEach (e::es) X.env=(false,eval e X.env)::starEach es X.env:=by rfl) (a:(backTo pos (starEach es X.env)).any (·.1)=false:=by rfl):
  DE Z X (.Call (.Name x p) (e::es) [] pos) (RH t):=by
 refine(MF (by rw[T];exact M) F N n O j .nil sv S U Y a).imp ?_
 intro σ H Q c;rfl';obtain⟨G,ρ,P,s,en,h,q⟩:=c;ac_rfl;exists G,ρ,_,s,en,h;rintro _ ⟨w,rfl,g,y,B,hp⟩ vs G1 H1 d r p l i Vs ne;cases r with
 | @cons v _ _ _ dv r=>
  cases r;have zT:upd H1 l (.own p) p=none:=by rw[aN (Ne.symm ne)];exact i
  have u:=(bp Vs (.own p)).trans (bp zT (.ins Z.C l []));refine#[p,l,v,G1,w,rfl,aD,d.sub.trans u,d.sub.free i,dv,g,y,B,λR E H2 g1 g2 kp off Zy xS=>#[rfl,?_]];have I:E p=none:=off p (by rw[aD];exact λz=>nomatch z) (d.sub.free i)
  refine q _ hp _ (upd E p (.ins Z.C l [("rows", .ref R)])) H2 #[(d.gg.trans g1).trans (bp I _),λb o e=>?_,λb o e=>?_,λb j n=>?_] (.fS aD (xS.mono (bp I _)) g y B)
  .by_cases z:b=p
   .subst z;rw[aD] at e;cases e;exact Zy
   .rw[aN z] at e;exact g2 _ _ e
  .have J:=d.hh _ _ e
   exact kp b o (u _ _ J) (bI J i)
  .have L:=jF d.hh j
   have nb:b≠p:=λz=>L (by rw[z];exact i)
   rw[aN nb];exact off b (jF u L) (d.off b j n)
end
section
variable {Z:DC} {X:Cx} {pos:Pos}
variable {tg iter elt:Expr} {scope:Scope} {NC:List Str} {src:List (Option Nat)} {wi:jH} {g:eQ} {tf:lR} {md:List Nat} {rn:Nat}
end
abbrev kg:=inClass
structure Bg (Z:DC) (m qual:Str) (st:Stmt) (ps:List Str) where
 f:Addr
 fd:FuncData
 F:zJ Z.K m qual st f fd
 b:Binds Z.K fd ps []
 m:Meth Z.K Z.C m f
def ug(K:ab):Sp:=λc H Q _=>∃(a:Addr)(b:List Int),c= [.ref a]/\cG K H a (b.map V.int)/\b.length<=63/\∀d,Q (.bl true) d
def Cs:bS:=λb P=>∃a:List Int,b= [.mV a]/\a.length<=63/\P (.bl true)
def OX{Z:DC}:∀b H Q E,ug Z.K b H Q E->aU Z Cs b H Q E:=by
 rintro b H Q E ⟨a,c,rfl,f,e,q⟩;exact#[H,[.mV c],λd=>d= .bl true, .refl _, .cons (.mV f e) .nil,#[c,rfl,e,rfl],λd g v i h x dv=>by subst g;cases dv;exact q h]
def T4(k:Nat){l:b6}{q:Program}{e:List Str}{o:(Str->Option Value)->Heap->Prop}{m:World->Heap->Prop}{d:DefRec}{K:Params->ab}(H:3*k<150)(p:l.most\63)(r:d.params.defaults= [])
  (t:∀(w:World)(h:Heap),m w h->(K w.params).In h)
  (F:∀(w:World)(g:Str->Option Value)(i:Addr)(h:Heap),(K w.params).In h->h.Ns mainGlobals g->g d.name\(.ref i)->
   ∃j:FuncData,(∀(s:Shared)(u:Value),BindsTo s j #[[u],[]] [("_law_script",u)])/\∀base:Heap,(K w.params).In base->base.Ns mainGlobals g->FnOk l.prog w (K w.params) g base cg k i j ["_law_script"] (ug (K w.params))):
  dm q e o m l.row.toRowW d [] (λf v=>dc f v):=
 L2.NQ (n:=63) (k:=50) (x:="_law_script") (CX:=λ_=>cg) (sp:=λw=>ug (K w.params)) p ∅ r #[rfl,∅,∅] t (λw g i h a b c=>by
  obtain⟨j,A,B⟩:=F w g i h a b c;exact#[j,A,λbase x y=>(B base x y).mono ()]) (λ_ _ a C E _ G=>#[a,C,rfl,G,E,λ_=>rfl]) λ_ _ _ _ _ z=>z
def bO{c:Bool}{A B:Prop}(a:c=true->A)(b:c=false->B):if c=true then A else B:=by
 cases c with
 |true=>exact eC (a rfl)
 |false=>exact bM (b rfl)
theorem fM{ρ:DN}(a:g->D)(p:g->Bool)(f:g->D):∀(d:List g)(c:DN)(acc:List D)(N:DN->List D->Prop),(∀y∈d,∀(Y:D->Prop)(q:Prop),(p y=true->Y (f y))->(p y=false->q)->j (ρ.set i (some (a y))) λb=>if b=true then n (ρ.set i (some (a y))) Y else q)->
  (∃o,c=ρ.set i o)->acc.length+d.length<=sizeLine->(∀c,N c (acc++(d.filter p).map f))->lcW (wU i) j n (d.map a) c acc N
 | [],c,acc,N,_,_,_,h=>by
  show N c acc;simpa using h c
 |y::d,c,acc,N,k,#[o,r],e,h=>by
  show j (c.set i (some (a y))) _;rw[r,List.set_set];rw[b8] at e;refine k y (bF ..) _ _ (λl=>#[(),?_]) (λl=>?_)
  .refine fM a p f d _ (acc++ [f y]) N (λz e=>k z (cm _ e)) #[_,rfl] (by simp;lia) λm=>?_
   have:=h m
   rw[vz,l] at this;simpa using this
  .refine fM a p f d _ acc N (λz e=>k z (cm _ e)) #[_,rfl] () λm=>?_
   have:=h m
   rw[vz,l] at this;simpa using this
def jq{ρ:DN}(a:c->D)(f:c->D)(b:List c)(N:DN->List D->Prop)(j:∀y∈b,∀(Y:D->Prop),Y (f y)->g (ρ.set i (some (a y))) Y)(k:ρ[i]?\none)(l:b.length<=sizeLine)(h:∀d,N d (b.map f)):lcW (wU i) xO g (b.map a) ρ [] N:=by
 refine fM (ρ:=ρ) a (λ_=>true) f b ρ [] N (λy m Y o n _=>?_) #[none,?_] (~~~l) λd=>by rw[List.filter_eq_self.mpr (λ_ _=>rfl),lP];exact h d
 .unfold xO
  dsimp only;rw[mo rfl];exact j y m Y (n rfl)
 .obtain⟨p,e⟩:=df.mp k
  rw[<-e,abg]
theorem Ay(I:Nat->DN->Prop):∀(b:List D)(k:Nat)(a:DN),I k a->(∀(j:Nat)(d:D)(a:DN),b[j]?\d->I (k+j) a->∀A:DN->Prop,(∀a,I (k+j+1) a->A a)->g d a λn=>m {nx:=A,ct:=A,bk:=E.nx,rt:=E.rt,xc:=E.xc} n)->
  (∀a,I (k+b.length) a->E.nx a)->iE g m E b a
 | [],k,a,c,e,f=>f a c
 |d::b,k,a,c,e,f=>by
  refine e 0 d a rfl c _ λo p=>?_
  exact Ay I b (k+1) o p (λj q h r i A s=>by
   refine e (j+1) q h (~~~r) (by rw[show k+(j+1)=k+1+j by lia];exact i) A λl t=>s l ?_
   rw[show k+1+j+1=k+(j+1)+1 by lia];exact t) (λh i=>f h (by rw[b8,show k+(b.length+1)=k+1+b.length by lia];exact i))
def bU(I:Nat->DN->Prop)(e:I 0 a)(f:∀(j:Nat)(d:D)(a:DN),b[j]?\d->I j a->∀A:DN->Prop,(∀a,I (j+1) a->A a)->g d a λi=>c {nx:=A,ct:=A,bk:=E.nx,rt:=E.rt,xc:=E.xc} i)
  (k:∀a,I b.length a->E.nx a):iE g c E b a:=Ay I b 0 a e (λj d a l h A m=>f j d a l (~~~h) A λn o=>m n (~~~o)) (λa h=>k a (~~~h))
def Lr{g:eQ}{c:cN}{E:f6}{lo:Int}{n:Nat}{a:DN}(I:Nat->DN->Prop)(f:I 0 a)(i:∀(j:Nat)(a:DN),j<n->I j a->∀A:DN->Prop,(∀a,I (j+1) a->A a)->g (.int (lo+j)) a λk=>c {nx:=A,ct:=A,bk:=E.nx,rt:=E.rt,xc:=E.xc} k)
  (m:∀a,I n a->E.nx a):iE g c E (eM lo n) a:=by
 have l:(eM lo n).length=n:=by unfold eM;simp
 refine bU I f (λj d a b h A o=>?_) (λa h=>m a (by rw[l] at h;exact h))
 have e:j<n:=by
  have:=(df.mp b).1
  rw[l] at this;exact this
 rw[vZ e] at b;cases Da b;exact i j a e h A o
def jj(I:Nat->DN->Prop)(g:Nat)(h:I g a)(i:∀m a,I m a->c a λb=>if b=true then f {nx:=λe=>∃d,d<m/\I d e,ct:=λe=>∃d,d<m/\I d e,bk:=E.nx,rt:=E.rt,xc:=E.xc} a else E.nx a):Hu c f E a:=#[I,#[g,h],i]
def Ui(K:ab)(a:Addr)(n:Nat):It:=
 #[λi H=>i<n/\∃b,cG K H a b/\b.length=n,λi H x c=>c=H/\∀b,cG K H a b->b[n-1-i]?\x,λi H=>n<=i]
def Ki{P:Program}{w:World}{K:ab}{U:Expr}(a g:Addr)(n:Nat):Turn P w K U (Ui K a n) [g] g (λi h=>i<=n/\h.IsRevIter g a ((n:Int)-1-(i:Int))) where
 mem:=by simp
 obj:=λi h st b j=>by
  have e:b=g:=by simpa using j
  subst e;obtain⟨_,o,e,c,d⟩:=st;exact#[o,e,λv z=>by rw[d] at z;cases z]
 keep:=λi h l st k=>#[st.1,st.2.at λo e=>k g (by simp) o e]
 item:=by
  intro X r hw t L i f s M H E I m st q;rfl';subst r hw t;obtain⟨N,O,Q,hl⟩:=q;obtain⟨Z,R,p,hz⟩:=I.list Q;have S:=R.length;have T:O[n-1-i]?\(O[n-1-i]'()):=cv ()
  obtain⟨u,hu,ru⟩:=R.get T;obtain⟨A,B,f2,C,F,G⟩:=m g (by simp)
  have e:(n:Int)-1-(i:Int)=((n-1-i:Nat):Int):=()
  obtain⟨_,st⟩:=st;rw[e] at st;ac_rfl;refine wpAny_pyNext_rev_item st p.isList (x:=u) (~~~hu) λl J sb=>?_
  have I1:Inv X f M H {s with heap:=l}:=I.turned (t':=s.toks) (λb o j e=>(sb.2 b j).trans e) A B C F G
  have e2:((n-1-i:Nat):Int)-1=(n:Int)-1-((i+1:Nat):Int):=()
  rw[e2] at J;obtain⟨o,e,c,d⟩:=id J;exact#[u,rfl,BC (s:={s with heap:=l}) e c d ∅ #[_,H,I1,ru,#[rfl,λys hy=>by rw[I.uX hy Q];exact T],#[N,J],λb j=>(m b j).1]]
 done:=by
  intro X r hw t L i f s M H E I m st q;rfl';subst r hw t;obtain⟨N,st⟩:=st;have q:n<=i:=q;have e:(n:Int)-1-(i:Int)= -1:=()
  rw[e] at st;obtain⟨A,B,f2,C,F,G⟩:=m g (by simp)
  ac_rfl;exact wpAny_pyNext_rev_end (I.ok.hd L) st λl eb=>#[rfl,I.turned (t':=s.toks) (λb o j e=>eb b o j e) A B C F G]
 self:=λ_ _ _ _ _ st h=>wpAny_pyIter_revIter st.2 h
def Bl:bootBuiltins "reversed"\(.type "reversed"):=by decide+kernel
section
variable {Z:DC} {X:Cx} {a b c e:Expr} {ta tb te:bw} {t:iY} {pos:Pos}
def VZ(K:ab)(g:TA):TI:=λh H R=>g h H λi d=>∃a f,i= [.ref a]/\cG K d a f/\R (Ui K a f.length) d
def H0(v:Gl X "reversed")(w:X.mg "reversed"=none)(x:PA X [a] m)(y:starEach [a] X.env= [(false,eval a X.env)]:=by rfl):
  PI X r (.Call (.Name "reversed" p) [a] [] pos) (VZ X.K m):=by
 intro f s z H R I h;refine Call_ (lh I v w Bl (aar (thn (x pos f s z H _ I h) λM d #[N,A,j,B,C]=>?_) y rfl));rfl';obtain⟨l,n,e,F,q⟩:=C;subst e;obtain⟨u,rfl,G⟩:=B.one;subst G;obtain⟨k,J,p,P⟩:=j.list F;have g:=J.length;ac_rfl;refine call_reversed_list p.isList ?_;have i:(d.heap.push (revObj l ((k.toArray.size:Int)-1))).IsRevIter d.heap.objs.size l ((n.length:Int)-1-((0:Nat):Int)):=#[_,GE _ rfl,rfl,by simp[revObj,g]]
 refine wpAny_pyIter_revIter i ?_;refine#[d.heap.objs.size,[d.heap.objs.size],_,_,A,rfl,j.kept (t':=d.toks) λb o e=>AC _ e,Ki l _ n.length,#[dZ _,i],λb L=>?_,q];have e:b=d.heap.objs.size:=by simpa using L
 subst e;exact j.DP (aY _) (j.hok.fresh (aY _))
def RU(t:iY):jH:=λd P=>t d λf=>match f with
 | [.lst l]=>P l.reverse
 |_=>False
def Hx(v:Gl X "reversed")(w:X.mg "reversed"=none)(f:DA Z X [a] t)(y:starEach [a] X.env= [(false,eval a X.env)]:=by rfl):DI Z X u (.Call (.Name "reversed" p) [a] [] pos) (RU t):=by
 refine(H0 v w f y).imp ?_;rintro N H Q ⟨G,z,P,s,A,h,q⟩;refine#[G,z,_,s,A,h,λB g O C E m dv=>?_];cases dv with
 |nil=>exact g.elim
 |cons a F=>
  cases F with
  |cons _ _=>cases a<;>exact g.elim
  |nil=>
   cases a<;>first|exact g.elim|skip
   rename_i p j B f e
   refine#[_,j,rfl,cG.of (m.sub _ _ f),q _ g _ C E m ?_];intro I R n o i;have r:=cG.of (K:=X.K) (o _ _ (n _ _ f));have l:=e.length;rw[zw];refine#[λk=>#[(),j,r,rfl],λk=>(show j.length<=i by lia),?_]
   rintro x S k ⟨rfl,J⟩;obtain⟨d,L,M⟩:=e.DR (J _ r);refine#[I,d, .refl o,?_,M.mono n];rw[List.getElem?_reverse k,<-l];exact L
variable {md:List Nat} {rn:Nat} {k:Expr} {tk:bw}
variable {apos aV:Pos}
variable {es:List Expr}
def Lk(g:bS)(t:iY):lR:=λh P=>t h λi=>g i λd=>∃f,d= .lst f/\P f
def K6{k:Nat}(F:FnOk X.prog X.w X.K X.mg X.base cg k f l m (dE Z n g))(u:c7 k X.A)(y:Gl X x)(z:X.mg x\(.ref f))(B:ak X.K (.ref f)=true)(d:Binds X.K l m [])
  (C:DA Z X (e::es) t) (E:(x==("__debug__":Str))=false:=by decide) (I:starEach (e::es) X.env=(false,eval e X.env)::starEach es X.env:=by rfl) (J:(backTo pos (starEach es X.env)).any (·.1)=false:=by rfl):
  DF Z X n (.Call (.Name x p) (e::es) [] pos) (Lk g t):=by
 refine(tX F u y z B d .nil sv C E I J).imp ?_;intro σ H Q L;rfl';obtain⟨G,N,P,s,O,h,q⟩:=L;ac_rfl;refine#[G,N,_,s,O,h,λR S T U Y j a=>?_];show dE Z n g (T++ []) Y Q E0;rw[iV];exists U,R,_,j.sub,a,S;intro _ c v f G2 H2 x2 o nd r;rfl';obtain⟨gX,rfl,hp⟩:=c;ac_rfl;exact q _ hp v f G2 H2 (j.trans x2) o nd λb d=>#[j.hh.free (r b d).1,(r b d).2]
end
section
variable {X:Cx} {elt t0 i0 t1 i1:Expr} {f0 f1:List Expr} {scope:Scope} {pos:Pos} {wi gy:TI} {g g1:TG} {tt dX:TT} {te:TE} {src:List (Option Nat)} {NC:List Str}
end
section
variable {Z:DC} {X:Cx} {md:List Nat} {rn:Nat} {elt t0 i0 t1 i1:Expr} {f0 f1:List Expr} {scope:Scope} {pos:Pos} {wi gy:jH} {g g1:eQ} {tt dX:dP} {te:bw} {src:List (Option Nat)} {NC:List Str}
end
section
variable {Z:DC} {X:Cx} {md:List Nat} {rn:Nat} {e:Expr} {pos:Pos}
theorem DvAll.flat:∀{c:List V}{b:List D},DvAll Z G c b->b.all eE=true->DvAll Z d c b
 |_,_, .nil,_=> .nil
 |_,_, .cons a f,h=>by
  rw[vD,ux] at h;exact .cons (a.flat h.1) (f.flat h.2)
end
def rM{l:List D}{j:Nat}{d:D}(h:(iB l)[j]?\d):∃x,l[j]?\x/\d= .tup [.int (j:Int),x]:=by
 unfold iB at h;rw[List.getElem?_mapIdx] at h;cases e:l[j]? with
 |none=>rw[e] at h;cases h
 |some x=>rw[e] at h;cases h;exact#[x,rfl,rfl]
def xT(l:List D):(iB l).length=l.length:=by unfold iB;simp
def cu{a b:Type}{f:a->b}{l:List a}{j:Nat}{y:b}(h:(l.map f)[j]?\y):∃x,l[j]?\x/\y=f x:=by
 rw[bW] at h;cases e:l[j]? with
 |none=>rw[e] at h;cases h
 |some x=>rw[e] at h;cases h;exact#[x,rfl,rfl]
def cR(r:List Nat):(r.map ao).all eE=true:=by simp[ao,eE]
def iH{r:List Nat}{p:Nat}:inD (ao p) (r.map ao)=decide (p∈r):=by
 unfold inD;rw[List.any_map]
 have:((λy=>iC y (ao p))∘ao)=λq:Nat=>decide (q=p):=by
  funext q
  simp[ao,iC,Function.comp]
  by_cases z:q=p
  .simp[z]
  .have:¬(q:Int)=(p:Int):=()
   simp[z,this]
 rw[this]
 by_cases h:p∈r
 .rw[GT h,List.any_eq_true];exact#[p,h,by simp]
 .rw[Gc h]
  apply rB.mpr;intro z;rw[List.any_eq_true] at z;obtain⟨q,a,e⟩:=z
  exact h (by have:q=p:=by simpa using e
              rw[<-this];exact a)
def gm{l:List D}{p:Nat}{d:D}(h:l[p]?\d):fc l (p:Int)\d:=oN h
def zu(h:p<w.length):(w.map aw)[p]?\(aw (Wb.row w p)):=by
 rw[bW,Wb.EJ h];rfl
section
variable {Z:DC} {X:Cx} {md:List Nat} {rn:Nat} {e:Expr} {te:bw} {pos:Pos}
def RD(b:bw):cN:=λE a=>b a λ_=>E.nx a
def Dw(a:DE Z X e te)(b:swapsWith e none pos.line X.env=pure false:=by rfl):DSt Z X md rn (.Expr e pos) (RD te):=by
 refine(jD a b).imp ?_;intro D k H c;rfl';obtain⟨B,g,E,⟨G,i,S⟩,h,M⟩:=c;ac_rfl;exact#[H,g,_, .refl _,S.HD,h,λd j v m n x dv=>M.nx _ j _ _ #[G,i,S.grow (Ext.all S.ex.sub x)]]
end
def Rh(h:A):xO a (λb=>if b=true then A else B):=by
 unfold xO;dsimp only;rw[mo rfl];exact h
def k9{c:Bool}{A B:Prop}(e:c=false)(h:B):if c=true then A else B:=by rw[ir (by rw[e];exact cP)];exact h
theorem qz(I:DN->Prop)(c:m->D)(p:m->Bool)(f:m->D):∀(i:List m)(e:DN)(acc:List D)(N:DN->List D->Prop),(∀y∈i,∀e,I e->∀(Y:DN->D->Prop)(u:DN->Prop),(∀a,I a->p y=true->Y a (f y))->(∀a,I a->p y=false->u a)->g (c y) e λa=>k a λb=>if b=true then l a (Y a) else u a)->
  I e->acc.length+i.length<=sizeLine->(∀e,I e->N e (acc++(i.filter p).map f))->lcW g k l (i.map c) e acc N
 | [],e,acc,N,_,n,_,h=>by
  show N e acc;simpa using h e n
 |y::i,e,acc,N,o,n,j,h=>by
  rw[b8] at j;refine o y (bF ..) e n (λa d=>acc.length<sizeLine/\lcW g k l (i.map c) a (acc++ [d]) N) (λa=>lcW g k l (i.map c) a acc N) (λa q r=>#[(),?_]) (λa q r=>?_)
  .refine qz I c p f i _ (acc++ [f y]) N (λz j=>o z (cm _ j)) q (by simp;lia) λs t=>?_
   have:=h s t
   rw[vz,r] at this;simpa using this
  .refine qz I c p f i _ acc N (λz j=>o z (cm _ j)) q () λs t=>?_
   have:=h s t
   rw[vz,r] at this;simpa using this
def QS(h:b.length=1):∃d,b= [d]:=by
 cases b with
 |nil=>cases h
 |cons a l=>
  cases l with
  |nil=>exact#[a,rfl]
  |cons _ _=>cases h
def QT(h:b.length=2):∃e c,b= [e,c]:=by
 cases b with
 |nil=>cases h
 |cons a l=>
  obtain⟨c,rfl⟩:=QS (ab8 h);exact#[a,c,rfl]
def QU(h:b.length=3):∃f c d,b= [f,c,d]:=by
 cases b with
 |nil=>cases h
 |cons a l=>
  obtain⟨c,d,rfl⟩:=QT (ab8 h);exact#[a,c,d,rfl]
def QV(h:b.length=4):∃g c d e,b= [g,c,d,e]:=by
 cases b with
 |nil=>cases h
 |cons a l=>
  obtain⟨c,d,e,rfl⟩:=QU (ab8 h);exact#[a,c,d,e,rfl]
def We(h:b.length=5):∃i c d e f,b= [i,c,d,e,f]:=by
 cases b with
 |nil=>cases h
 |cons a l=>
  rfl';obtain⟨c,d,e,f,rfl⟩:=QV (ab8 h);ac_rfl;exact#[a,c,d,e,f,rfl]
section
variable {Z:DC} {X:Cx}
end
def ck.nest(k:f.kind= .function)(a:∀x∈f.names,x.2= .local->f.names.lookup x.1\.local)(b:∀x∈f.names,x.2≠ .cell)
  (d:∀x∈f.names,x.2= .free->c.names.lookup x.1\.free):ck (cO X c g i s H) f where
 kind:=k
 names:=a
 nocell:=b
 free:=λx j e=>by
  have h:(cO X c g i s H).env.kindOf x.1=(c.names.lookup x.1).map λk=>if (k==NameKind.free&&X.env.scope.kind== .function&&X.env.kindOf x.1==some .cell) then NameKind.cell else k:=dA c.names x.1;rw[h,d x j e,Option.map_some]
  split
  .exact .inl rfl
  .exact .inr rfl
section
variable {Z:DC} {X:Cx} {e:Expr} {es:List Expr} {t:iY} {pos:Pos}
def aC{a:bS}{k j:Nat}{x:Str}{st:Stmt}{c:List Str}{p:Pos}(d:dN X.K X.mg x st c)(F:FnOk X.prog X.w X.K X.mg X.base cg k d.f d.fd c (aU Z a))(g:c7 j X.A)(h:DA Z X (e::es) t)(i:Gl X x:=by rfl)(l:k<=j:=by first|decide|lia)
  (n:(x==("__debug__":Str))=false:=by decide) (o:starEach (e::es) X.env=(false,eval e X.env)::starEach es X.env:=by rfl) (q:(backTo pos (starEach es X.env)).any (·.1)=false:=by rfl):
  DE Z X (.Call (.Name x p) (e::es) [] pos) (xJ a t):=K3 F (g.mono l) i d.m d.F.kp d.b h n o q
def Aj{n:Nat}{a:bS}{k j:Nat}{x:Str}{st:Stmt}{c:List Str}{p:Pos}(d:dN X.K X.mg x st c)(F:FnOk X.prog X.w X.K X.mg X.base cg k d.f d.fd c (dE Z n a))(g:c7 j X.A)(h:DA Z X (e::es) t)(i:Gl X x:=by rfl)(l:k<=j:=by first|decide|lia)
  (o:(x==("__debug__":Str))=false:=by decide) (q:starEach (e::es) X.env=(false,eval e X.env)::starEach es X.env:=by rfl) (r:(backTo pos (starEach es X.env)).any (·.1)=false:=by rfl):
  DF Z X n (.Call (.Name x p) (e::es) [] pos) (Lk a t):=K6 F (g.mono l) i d.m d.F.kp d.b h o q r
def mE(f:Scope)(e:X.env.scope=f:=by rfl)(k:d.kind= .function:=by rfl)(a:∀x∈d.names,x.2= .local->d.names.lookup x.1\.local:=by decide+kernel)(b:∀x∈d.names,x.2≠ .cell:=by decide+kernel)
  (c:∀x∈d.names,x.2= .free->f.names.lookup x.1\.cell\/f.names.lookup x.1\.free:=by decide+kernel):ck X d:=ck.of f e k a b c
def Uw{NC:List Str}(k:f.kind= .function:=by rfl)(a:∀x∈f.names,x.2= .local->f.names.lookup x.1\.local:=by decide+kernel)(b:∀x∈f.names,x.2≠ .cell:=by decide+kernel)
  (d:∀x∈f.names,x.2= .free->c.names.lookup x.1\.free:=by decide+kernel):ck (cO X c NC g s H) f:=ck.nest k a b d
end
section
variable {K:ab} {h:Heap} {mg:Str->Option Value}
abbrev N2(K:ab)(x:Str)(d:Addr):Prop:=b5 K mainGlobals x\(some (.ref d))
abbrev CT(K:ab)(x a:Str)(st:Stmt)(d:Addr)(b c:Option Addr)(e:Array (Option Value))(f kV g i j k:Value):Prop:=K.lookup d\#[f,b, .func (bi x a (iz st) (fI st) (au st) .none kV g i c j k),e]
def dN.of{x:Str}{st:Stmt}{e:List Str}{d:Addr}{o f:Option Addr}{p:Array (Option Value)}{q kV r g n i:Value}(X:K.In h)(G:h.Ns mainGlobals mg)(a:N2 K x d)(l:CT K x x st d o f p q kV r g n i)(c:bd K n x=true)(k:ak K (.ref d)=true)
  (b:∀(kV j g:Value)(f:Option Addr)(s i:Value)(m:List Value),m.length=e.length->bindArgs (bi x x (iz st) (fI st) (au st) .none kV j g f s i) #[m,[]]=pure (e.zip m)):dN K mg x st e:=
 #[d,_,tF l c k,(tF l c k).binds b,abb X G a]
def Bg.of{Z:DC}{m e:Str}{st:Stmt}{g:List Str}{d:Addr}{r i:Option Addr}{s:Array (Option Value)}{t kV u j q n:Value}(a:ay Z.K (.ref Z.C) m\(some (.ref d)))(f:bB Z.K (.ref d)=true)(l:CT Z.K m e st d r i s t kV u j q n)(c:bd Z.K q e=true)(k:ak Z.K (.ref d)=true)
  (b:∀(kV o j:Value)(i:Option Addr)(v n:Value)(p:List Value),p.length=g.length->bindArgs (bi m e (iz st) (fI st) (au st) .none kV o j i v n) #[p,[]]=pure (g.zip p)):Bg Z m e st g:=
 #[d,_,tF l c k,(tF l c k).binds b,#[a,f,k]]
end
end L2
namespace Wb
def i9(w:W):Nat:=(w.map b3).sum
def uI(w:W):i9 w=((ac w.length).map λp=>(row w p).length).sum:=by
 unfold i9
 congr 1
 refine List.ext_getElem (by simp) λi b c=>?_
 rw[List.getElem_map,List.getElem_map,List.getElem_range];have a:i<w.length:=by simpa using b
 have:=EJ a
 rw[cv a] at this;rw[Da this]
def fD(w:W):(bf w).length=i9 w:=by
 rw[uI];unfold bf;rw[List.length_flatMap]
 congr 1
 apply wo;intro p _;rw[aG]
def bX{w:W}(g:Good w):(bf w).Nodup:=by
 unfold bf dg;refine pJ (λp _=>?_) ?_
 .rw[i4]
  exact(g.nod p).imp λne e=>ne (GM Prod.snd e)
 .refine List.Pairwise.imp ?_ zH
  intro a b lt x c y d e;obtain⟨_,_,rfl⟩:=bh.mp c;obtain⟨_,_,rfl⟩:=bh.mp d
  have:=GM Prod.fst e
  simp at this;lia
def qg(w:W):j7 (row w) w.length=(bf w).filter λd=>decide (d.1<d.2):=by
 unfold j7 bf;rw[List.filter_flatMap]
 congr 1
 funext p
 rw[List.filter_map];rfl
def G9(g:Good w):2*(j7 (row w) w.length).length<=i9 w:=by
 rw[qg,<-fD];have f:=List.length_eq_countP_add_countP (λd:Nat×Nat=>decide (d.1<d.2)) (l:=bf w)
 have p:((bf w).filter λd=>decide (d.1<d.2)).length<=((bf w).filter λd=>decide (d.2<d.1)).length:=by
  have:=az (l:=((bf w).filter λd=>decide (d.1<d.2)).map λd=>(d.2,d.1)) (m:=(bf w).filter λd=>decide (d.2<d.1)) ?_ ?_
  .rwa [aG] at this
  .unfold dg
   rw[i4];refine List.Pairwise.imp ?_ ((bX g).filter _);intro a b ne e;have i:=GM Prod.fst e;have j:=GM Prod.snd e;exact ne (aah j i)
  .intro x k
   obtain⟨d,n,rfl⟩:=bh.mp k;obtain⟨o,c⟩:=gE.mp n;refine gE.mpr #[aR.mpr (g.sym _ _ (aR.mp o)),?_];simpa using c
 have q:((bf w).filter λd=>decide (d.2<d.1)).length<=(bf w).countP λd=>!decide (d.1<d.2):=by
  rw[<-A3];apply abh;intro d _ h;simp at h ⊢;lia
 rw[A3] at f
 have r:(bf w).countP (λd=>!decide (d.1<d.2))=List.countP (λa=>decide ¬(decide (a.1<a.2)=true)) (bf w):=by
  congr 1
  funext d
  by_cases h:d.1<d.2<;>simp[h]
 lia
structure RI (w:W) (bs:List Bool) (ws ex:List Nat) (c:Nat):Prop where
 len:bs.length=w.length
 z:bs[0]?\true
 wt:∀x∈ws,bs[x]?\true
 cl:∀x,bs[x]?\true->x∈ws\/x∈ex\/∀q∈row w x,bs[q]?\true
 cnt:bs.count false+ws.length<=c
def RI.pop(h:RI w bs (b++ [p]) [] (c+1)):RI w bs b [p] c:=
 #[h.len,h.z,λx a=>h.wt x (eN _ a),λx a=>by
  rcases h.cl x a with q|q|q
  .rcases bT.mp q with q|q
   .exact .inl q
   .exact .inr (.inl q)
  .cases q
  .exact .inr (.inr q),by have:=h.cnt;rw[cA] at this;simp at this;lia]
def RI.push{f ex:List Nat}(h:RI w bs f ex c)(i:bs[q]?\false):RI w (bs.set q true) (f++ [q]) ex c:=by
 obtain⟨b,g⟩:=df.mp i
 have d:∀x,bs[x]?\true->(bs.set q true)[x]?\true:=λx a=>by
  rw[qq]
  by_cases e:q=x
  .rw[mo e,mo b]
  .rw[ir e];exact a
 refine#[by rw[cV];exact h.len,d _ h.z,λx a=>?_,λx a=>?_,?_]
 .rcases bT.mp a with z|z
  .exact d _ (h.wt x z)
  .have:x=q:=by simpa using z
   rw[this,qq,mo rfl,mo b]
 .by_cases e:q=x
  .exact .inl (by rw[e];simp)
  .rw[qq,ir e] at a
   rcases h.cl x a with z|z|z
   .exact .inl (eN _ z)
   .exact .inr (.inl z)
   .exact .inr (.inr λy j=>d _ (z y j))
 .have k:=h.cnt
  have:0<bs.count false:=Bb.mpr (by rw[<-g];exact lO b)
  rw[abC b,g,cA];simp;lia
def RI.close(h:RI w bs a [p] c)(b:∀q∈row w p,bs[q]?\true):RI w bs a [] c:=
 #[h.len,h.z,h.wt,λx d=>by
  rcases h.cl x d with q|q|q
  .exact .inl q
  .have:x=p:=by simpa using q
   rw[this];exact .inr (.inr b)
  .exact .inr (.inr q),h.cnt]
def RI.all{w:W}(g:Good w)(h:RI w bs [] [] c):bs=aj w.length true:=by
 have:=vJ g (S:=λx=>bs[x]?\true) h.z λp q b d=>by
  rcases h.cl p b with z|z|z
  .cases z
  .cases z
  .exact z q d
 refine rA λi=>?_
 by_cases a:i<w.length
 .rw[this i a,A6,mo a]
 .rw[fZ (by rw[h.len];lia),fZ (by simp;lia)]
structure Ae (w:W):Prop where
 rng:∀p q,q∈row w p->q<w.length
 irr:∀p,p∉row w p
 nod:∀p,(row w p).Nodup
 sym:∀p q,q∈row w p->p∈row w q
def Good.near(g:Good w):Ae w:=#[g.rng,g.irr,g.nod,g.sym]
def Ae.good(n:Ae w)(h:∀p,p<w.length->Reach w 0 p):Good w:=#[n.rng,n.irr,n.nod,n.sym,h]
end Wb
namespace L2
open PySem PySem.Spec PyProof.Rows
section
variable {X:Cx} {Z:DC} {pins:List (Addr×Obj)} {σ:St} {H:Hp} {s:Shared}
open Classical in
open Classical in
end
section
variable {X:Cx} {Z:DC}
def Fm:cB X (.type "range") (λa H Q=>∃i:Int,a= [.int i]/\∀q,H q=none->Q (.ref q) (upd H q (.rng 0 i))):=by
 intro c s f H a g Q I d h;obtain⟨i,rfl,q⟩:=h;obtain⟨j,rfl,⟨k,rfl⟩⟩:=d.one;refine call_range_1 ?_;exact#[.ref s.heap.objs.size,_,I.laid (λb o e=>AC _ e) (aY _) (o:= .rng 0 i) #[_,_,_,GE _ rfl],rfl,q _ (I.hok.fresh (aY _))]
def Rt:bS:=λa P=>∃i:Int,a= [.int i]/\P (.rng 0 i)
def C8:cB X (.type "range") (g6 Z Rt):=by
 refine Fm.imp ?_;intro f H Q b;rfl';obtain⟨G,h,P,s,dv,⟨i,rfl,d⟩,q⟩:=b;obtain⟨v,rfl,a⟩:=dv.ofOne;ac_rfl;refine#[i,by rw[a.ofInt],λp e=>q _ d _ _ _ (.new s e) (.rng aD)]
def N6:bS:=λa P=>∃i j:Int,a= [.rng i j]/\(-(2^62)<=i/\i<2^62/\-(2^62)<=j/\j<2^62/\(j-i).toNat<=1000)/\P (.lst (eM i (j-i).toNat))
def y4(i:Int)(n:Nat):DvAll Z G (nF i n) (eM i n):=by
 unfold nF eM
 induction ac n with
 |nil=>exact .nil
 |cons k l a=>exact .cons (.int _) a
def IC(b:X.calm=true):cB X (.type "list") (g6 Z N6):=by
 refine(oQ b).imp ?_;intro o H Q c;rfl';obtain⟨G,t,P,s,dv,⟨i,j,rfl,⟨e,f,g,k,l⟩,m⟩,q⟩:=c;obtain⟨v,rfl,a⟩:=dv.ofOne;ac_rfl;cases a with
 |rng h=>exact#[_,i,j,rfl,s _ _ h,e,f,g,k,l,λp n=>q _ m _ _ _ (.new s n) (.lst aD (y4 i _))]
end
section
variable {Z:DC} {X:Cx} {md:List Nat} {rn:Nat} {a b e k:Expr} {pos:Pos} {ta tb te tk:bw} {t:lR}
def U0(g h:bw):lR:=λf P=>g f λi=>∃c,i= .lst c/\h f λj=>∃d,j= .lst d/\c.length+d.length<=sizeLine/\P (c++d)
def Oi(l:DE Z X a ta)(m:DE Z X b tb):DF Z X 1 (.BinOp a .Add b pos) (U0 ta tb):=by
 refine(MH HV l m).imp ?_;intro I H Q n;rfl';obtain⟨G,f,P,s,e,h,q⟩:=n;ac_rfl;exists G,f,_,s,e,h;rintro _ ⟨L,rfl,h⟩ M r N c u;exists r,f,_,c.sub,e.mono c.gg,h;rintro _ ⟨O,rfl,v,w⟩ R S T d y;obtain⟨U,Y,rfl,z,g⟩:=u.je;obtain⟨k,t,rfl,A,i⟩:=y.je;have B:=g.mono d.gg;have x:=c.trans d;refine#[_,_,_,_,rfl,rfl,d.hh _ _ (c.sub _ _ z),d.sub _ _ A,by rw[g.length,i.length];exact v,λp j=>?_]
 obtain⟨C,E,F⟩:=kI x j (B.append i);exact q _ w _ _ _ _ (x.side j) C E F
variable {tg iter elt:Expr} {ifs:List Expr} {scope:Scope} {NC:List Str} {src:List (Option Nat)} {wi:jH} {g:eQ} {tt:dP}
variable {B:Bs} {ρ:DN} {σ:St} {H G:Hp} {fp:Nat->List Addr}
def SIx.YD(S:SIx Z B md ρ σ H G fp)(h:t ρ P)
  (m:∀c,P c->c.all eE=true/\∀v i d,SIx Z B md ρ σ d i fp->Ext G H i d->Dv Z i v (.lst c)->Q v d):yw Z 1 t σ H Q:=by
 exists H,ρ,P, .refl _,S.HD,h;intro c n v f i d x o I p;obtain⟨q,k⟩:=m c n;obtain⟨a,r,J,L,rfl,u,w,y,A⟩:=o.lst;cases u;obtain⟨dv,rfl⟩:=A.flat;have j:H a=none:=(p a (by rw[y];simp)).1
 have C:G a=none:=S.ex.sub.free j
 have l:Ext G H (upd G a (.lst r)) d:=by
  refine#[bp C _,λb o e=>?_,x.hh,λb E F=>?_]
  .by_cases z:b=a
   .subst z
    rw[aD] at e;rw[<-e];exact w
   .rw[aN z] at e
    exact x.hh _ _ (S.ex.sub _ _ e)
  .rw[aN (λz=>E (by rw[z];exact j))];exact F
 exact k _ _ _ (S.grow l) l (.lst aD (dv.flat q))
def K0(i:Nat)(h:bw)(t:lR):cN:=λE c=>t c λd=>d.all eE=true/\∃f,c[i]?\(some (.lst f))/\h c λl=>∃k j,l= .int k/\k4 f.length k\j/\E.nx (c.set i (some (.lst (f.set j (.lst d)))))
def Fw(i:Nat)(C:DE Z X k tk)(F:DF Z X 1 e t)(r:md.getD i 0=1:=by rfl)(I:X.N[i]?\x:=by rfl)(J:jw X.env.scope x:=by subst_eqs)(n:(x==("__debug__":Str))=false:=by decide)(L:(x==("__classdict__":Str))=false:=by decide)
  (O:∀v,assign (.Subscript (.Name x c) k f) X.env v=(do
   let o <-holding [v] (eval (.Name x c) X.env)
   let q <-holding [v,o] (eval k X.env)
   standAt f
   holding [v,o,q] (setItem o q v)
   release [v,o,q] []):=by intro _;rfl)
  (P:swapsWithSole [.Subscript (.Name x c) k f] e pos.line X.env=pure false:=by rfl) (hw:swappedStores [.Subscript (.Name x c) k f] e X.env=pure none:=by rfl)
  (p:(assignEach [.Subscript (.Name x c) k f] X.env).map (·.2)= [assign (.Subscript (.Name x c) k f) X.env]:=by rfl):DSt Z X md rn (.Assign [.Subscript (.Name x c) k f] e pos) (K0 i tk t):=by
 refine(xb F (HY (pv i I J n L) C set_list O) P hw p).imp ?_;intro D σ H Q;rfl';obtain⟨B,ρ,E,⟨G,R,S⟩,h,M⟩:=Q;ac_rfl;refine S.YD h λd n=>#[n.1,λv G' H' w x dv=>?_];rfl';obtain⟨_,ds,p,h⟩:=n;obtain⟨l,xs,_,_,y,e3,_⟩:=w.one r p;ac_rfl;refine#[_,y,w.ev true h ?_];rintro _ ⟨k,j,rfl,T,U⟩;refine#[rfl,λv1 Y H1 a b g=>?_];rfl';cases g.ofInt;obtain⟨l',s,gX,e1,z,Bx,A,put⟩:=a.one r p;cases e1;ac_rfl;rw[y] at z;cases z;exact#[l,s,k,j,rfl,rfl,Bx,by rw[A.length];exact T,M.nx _ U _ _ #[Y,R,put _ _ (A.set (dv.mono b.gg) j)]]
end
end L2
namespace oH
open PySem L2 Wb
def top(i:Nat):Stmt:=PySem.Challenge.pw_mapdye_k54_whole_five_dyes.main.body.getD i (.Pass #[0,0,0,0])
abbrev mw:Stmt:=top 11
abbrev pR:Stmt:=top 12
abbrev y9:Stmt:=top 13
abbrev pQ:Stmt:=top 14
abbrev mv:Stmt:=top 15
abbrev y8:Stmt:=top 17
abbrev nJ:Stmt:=top 18
abbrev mi:Stmt:=top 19
abbrev gJ:Stmt:=top 20
abbrev iO:Stmt:=top 21
abbrev gx:Stmt:=top 23
abbrev j6:Stmt:=top 24
abbrev pP:Stmt:=top 27
abbrev kN:Stmt:=top 28
abbrev mz:Stmt:=top 29
abbrev kQ:Stmt:=top 30
abbrev mj:Stmt:=top 31
abbrev d9:Stmt:=top 32
abbrev kO:Stmt:=top 33
abbrev kP:Stmt:=top 34
abbrev jO:Stmt:=top 37
abbrev jQ:Stmt:=top 38
abbrev l9:Stmt:=top 39
abbrev mf:Stmt:=top 40
abbrev iN:Stmt:=top 41
abbrev jt:Stmt:=top 42
abbrev pO:Stmt:=top 43
abbrev ju:Stmt:=top 44
abbrev l7:Stmt:=top 45
abbrev nI:Stmt:=top 46
abbrev mh:Stmt:=top 47
abbrev jP:Stmt:=top 48
abbrev iM:Stmt:=top 49
abbrev gR:Stmt:=top 50
abbrev iL:Stmt:=top 51
abbrev nH:Stmt:=top 52
abbrev j5:Stmt:=top 53
abbrev l8:Stmt:=top 54
abbrev fq:Stmt:=top 55
abbrev kM:Stmt:=top 56
abbrev fu:Stmt:=top 57
abbrev GL:Stmt:=top 58
abbrev fO:Stmt:=L2.kg (top 35) 0
abbrev pN:Stmt:=L2.kg (top 35) 1
abbrev j4:Stmt:=L2.kg (top 35) 2
abbrev lD:Stmt:=L2.kg (top 35) 3
abbrev v8:Stmt:=L2.kg (top 35) 4
abbrev l6:Stmt:=L2.kg (top 35) 5
def p9:aI ["web","side","sides","p","q"] ["web","side"] (au mw):=by bv_omega
def AZ:aI ["web","walked","told","side","sides","step"] ["web"] (au pR):=by bv_omega
def AY:aI ["web"] ["web"] (au y9):=by bv_omega
def ud:aI ["web","points","ties","rounds"] ["web"] (au pQ):=by bv_omega
def p8:aI ["web"] ["web"] (au mv):=by bv_omega
def AX:aI ["web","dyeing","p","dye","turns","pair","met","waiting","q"] ["web","dyeing","p","dye"] (au y8):=by bv_omega
def rf:aI ["dyeing","points","one","other","told","p"] ["dyeing","points","one","other"] (au nJ):=by bv_omega
def p6:aI ["taken","many","dye"] ["taken","many"] (au mi):=by bv_omega
def jE:aI ["web","dyeing","around","q","r"] ["web","dyeing","around"] (au gJ):=by bv_omega
def qZ:aI ["web","dyeing","p","many","around","told","deeds","dye","exchange","q","x"] ["web","dyeing","p","many"] (au iO):=by bv_omega
def lG:aI ["web","turns","left","order","counts","least"] ["web"] (au gx):=by bv_omega
def rg:aI ["web","order","dyeing","deeds","p","done"] ["web"] (au j6):=by bv_omega
def uc:aI ["thing","many"] ["thing","many"] (au pP):=by bv_omega
def n5:aI ["rows","p","row","q"] ["rows"] (au kN):=by bv_omega
def qa:aI ["rows","p","row"] ["rows"] (au mz):=by bv_omega
def og:aI ["rows","p","row","place","q"] ["rows"] (au kQ):=by bv_omega
def p7:aI ["rows","p","row","q"] ["rows"] (au mj):=by bv_omega
def iP:aI ["rows","reached","waiting","p","q"] ["rows"] (au d9):=by bv_omega
def n6:aI ["rows","q","reached"] ["rows"] (au kO):=by bv_omega
def n9:aI ["rows","fault"] ["rows"] (au kP):=by bv_omega
def mR:aI ["_law_script","_law_k"] ["_law_script","_law_k"] (au jO):=by bv_omega
def mU:aI ["_law_cell","_law_k","_law_number"] ["_law_cell","_law_k"] (au jQ):=by bv_omega
def pW:aI ["_law_script","_law_at","_law_many","_law_cell","_law_found","_law_first","_law_k","_law_number"] ["_law_script","_law_at","_law_many"] (au l9):=by bv_omega
def pY:aI ["_law_turns","_law_sides","_law_found","_law_p","_law_q","_law_row","_law_side","_law_turn"] ["_law_turns"] (au mf):=by bv_omega
def nZ:aI ["_law_land","_law_number","_law_first","_law_found","_law_k"] ["_law_land","_law_number"] (au iN):=by bv_omega
def pX:aI ["_law_turns","_law_land","_law_places_here","_law_made","_law_around","_law_at","_law_turn","_law_place"] ["_law_turns","_law_land","_law_places_here"] (au jt):=by bv_omega
def ub:aI ["_law_draws_here","_law_turns","_law_number","_law_rows","_law_land"] ["_law_draws_here"] (au pO):=by bv_omega
def pZ:aI ["_law_turns","_law_draws_here","_law_names","_law_k","_law_at","_law_found","_law_p","_law_turn"] ["_law_turns","_law_draws_here"] (au ju):=by bv_omega
def pU:aI ["_law_turns","_law_dyeing","_law_p","_law_dye","_law_found","_law_at","_law_q"] ["_law_turns","_law_dyeing","_law_p","_law_dye"] (au l7):=by bv_omega
def qY:aI ["_law_dyeing","_law_p","_law_dye","_law_found"] ["_law_dyeing","_law_p","_law_dye"] (au nI):=by bv_omega
def p4:aI ["_law_found"] ["_law_found"] (au mh):=by bv_omega
def mS:aI ["_law_deed","_law_word","_law_points","_law_many"] ["_law_deed","_law_word","_law_points","_law_many"] (au jP):=by bv_omega
def qW:aI ["_law_turns","_law_dyeing","_law_p","_law_many","_law_taken"] ["_law_turns","_law_dyeing","_law_p","_law_many"] (au iM):=by bv_omega
def mT:aI ["_law_turns","_law_dyeing","_law_p","_law_dye"] ["_law_turns","_law_dyeing","_law_p","_law_dye"] (au gR):=by bv_omega
def kR:aI ["_law_turns","_law_dyeing","_law_q","_law_dye","_law_found","_law_other"] ["_law_turns","_law_dyeing","_law_q","_law_dye"] (au iL):=by bv_omega
def qV:aI ["_law_turns","_law_dyeing","_law_p","_law_many","_law_deeds","_law_free_here","_law_behind"] ["_law_turns","_law_dyeing","_law_p","_law_many","_law_deeds"] (au nH):=by bv_omega
def qX:aI ["_law_turns","_law_number","_law_rows","_law_land"] ["_law_turns","_law_number"] (au j5):=by bv_omega
def pV:aI ["_law_script","_law_turns","_law_number"] ["_law_script"] (au l8):=by bv_omega
def lE:aI ["_law_turns","_law_order","_law_k"] ["_law_turns","_law_order"] (au fq):=by bv_omega
def n0:aI ["_law_turns","_law_order","_law_deeds","_law_dyeing","_law_left","_law_p","_law_done_here"] ["_law_turns","_law_order","_law_deeds"] (au kM):=by bv_omega
def lF:aI ["_law_turns","_law_found"] ["_law_turns","_law_found"] (au fu):=by bv_omega
def Ij:aI ["_law_script","_law_turns","_law_web_here","_law_found","_law_row"] ["_law_script"] (au GL):=by bv_omega
def mQ:aI ["self","turns","rows","fault"] ["self","turns"] (au fO):=by bv_omega
def t9:aI ["self"] ["self"] (au pN):=by bv_omega
def qU:aI ["self"] ["self"] (au j4):=by bv_omega
def ua:aI ["self"] ["self"] (au lD):=by bv_omega
def pT:aI ["self","p","q","row"] ["self","p","q"] (au l6):=by bv_omega
set_option genInjectivity false in
structure Txt (Z:DC) (mg:Str->Option Value) where
 B:Uc mg
 x_set:mg "set"=none
 d_round_from:dN Z.K mg "round_from" mw ["web","side"]
 d_lands:dN Z.K mg "lands" pR ["web"]
 d_count:dN Z.K mg "count" y9 ["web"]
 d_is_plane:dN Z.K mg "is_plane" pQ ["web"]
 d_need_plane:dN Z.K mg "need_plane" mv ["web"]
 d_chain:dN Z.K mg "chain" y8 ["web","dyeing","p","dye"]
 d_exchanged:dN Z.K mg "exchanged" nJ ["dyeing","points","one","other"]
 d_least_free:dN Z.K mg "least_free" mi ["taken","many"]
 d_freeing_exchange:dN Z.K mg "freeing_exchange" gJ ["web","dyeing","around"]
 d_dye_given:dN Z.K mg "dye_given" iO ["web","dyeing","p","many"]
 d_order_of_five:dN Z.K mg "order_of_five" gx ["web"]
 d_five_dyes:dN Z.K mg "five_dyes" j6 ["web"]
 d_is_among:dN Z.K mg "is_among" pP ["thing","many"]
 d_alien_fault:dN Z.K mg "alien_fault" kN ["rows"]
 d_self_fault:dN Z.K mg "self_fault" mz ["rows"]
 d_twice_fault:dN Z.K mg "twice_fault" kQ ["rows"]
 d_lone_fault:dN Z.K mg "lone_fault" mj ["rows"]
 d_reached_from_first:dN Z.K mg "reached_from_first" d9 ["rows"]
 d_apart_fault:dN Z.K mg "apart_fault" kO ["rows"]
 d_first_fault:dN Z.K mg "first_fault" kP ["rows"]
 d__law_cell_at:dN Z.K mg "_law_cell_at" jO ["_law_script","_law_k"]
 d__law_reserve:dN Z.K mg "_law_reserve" jQ ["_law_cell","_law_k"]
 d__law_draws:dN Z.K mg "_law_draws" l9 ["_law_script","_law_at","_law_many"]
 d__law_lands:dN Z.K mg "_law_lands" mf ["_law_turns"]
 d__law_places:dN Z.K mg "_law_places" iN ["_law_land","_law_number"]
 d__law_grown:dN Z.K mg "_law_grown" jt ["_law_turns","_law_land","_law_places_here"]
 d__law_web:dN Z.K mg "_law_web" pO ["_law_draws_here"]
 d__law_named:dN Z.K mg "_law_named" ju ["_law_turns","_law_draws_here"]
 d__law_chain:dN Z.K mg "_law_chain" l7 ["_law_turns","_law_dyeing","_law_p","_law_dye"]
 d__law_with:dN Z.K mg "_law_with" nI ["_law_dyeing","_law_p","_law_dye"]
 d__law_whole:dN Z.K mg "_law_whole" mh ["_law_found"]
 d__law_is_deed:dN Z.K mg "_law_is_deed" jP ["_law_deed","_law_word","_law_points","_law_many"]
 d__law_free:dN Z.K mg "_law_free" iM ["_law_turns","_law_dyeing","_law_p","_law_many"]
 d__law_is_free:dN Z.K mg "_law_is_free" gR ["_law_turns","_law_dyeing","_law_p","_law_dye"]
 d__law_exchanged:dN Z.K mg "_law_exchanged" iL ["_law_turns","_law_dyeing","_law_q","_law_dye"]
 d__law_done:dN Z.K mg "_law_done" nH ["_law_turns","_law_dyeing","_law_p","_law_many","_law_deeds"]
 d__law_full:dN Z.K mg "_law_full" j5 ["_law_turns","_law_number"]
 d__law_drawn:dN Z.K mg "_law_drawn" l8 ["_law_script"]
 d__law_is_order:dN Z.K mg "_law_is_order" fq ["_law_turns","_law_order"]
 d__law_walked:dN Z.K mg "_law_walked" kM ["_law_turns","_law_order","_law_deeds"]
 d__law_is_right:dN Z.K mg "_law_is_right" fu ["_law_turns","_law_found"]
 d_law:dN Z.K mg "law" GL ["_law_script"]
 W:Hm Z
 mC:mg "Web"\(.ref Z.C)
 i_f:Addr
 i_fd:FuncData
 i_F:zJ Z.K "__init__" "Web.__init__" fO i_f i_fd
 mkW:Mk Z.K Z.C i_f
 m___init__b:Binds Z.K i_fd ["self","turns"] []
 m_many:Bg Z "many" "Web.many" pN ["self"]
 m_turns:Bg Z "turns" "Web.turns" j4 ["self"]
 m_ties:Bg Z "ties" "Web.ties" lD ["self"]
 m_tied:Bg Z "tied" "Web.tied" v8 ["self","a","b"]
 m_behind:Bg Z "behind" "Web.behind" l6 ["self","p","q"]
 t___name__:∃tk,mg "__name__"\(.str "law_mapdye_k54_whole_five_dyes" tk)
 c_MOST_POINTS:∃tk,mg "MOST_POINTS"\(.int 14 tk)
variable {P:Program} {w:World} {mg:Str->Option Value} {base:Heap} {Z:DC} (T:Txt Z mg)
def Ni:bS:=λa P=>∃(i n:Int),a= [.int i, .int n]/\P (.bl (decide (0<=i/\i<n)))
def B8:FnOk P w Z.K mg base cg 1 T.d_is_among.f T.d_is_among.fd ["thing","many"] (aU Z Ni):=by
 have d:=uc.nd;refine aZ T.d_is_among.F uc [0,0] ∅ (λb R h=>by obtain⟨_,_,rfl,_⟩:=h;rfl) (λe A outer s H E b R c h=>?_)
 have g:=c.units;exists _,(aq (aF (tq (jW "int" (aa 0) rfl T.B.isinstance rfl T.B.int Ho) (tq (Hv (jW "bool" (aa 0) rfl T.B.isinstance rfl T.B.bool C3)) (wR (IL Gq kF av (aa 0) (aa 1)))))));obtain⟨i,n,rfl,q⟩:=h;refine#[_,rfl,rfl,true,rfl,eC #[_,rfl,rfl,false,rfl,true,rfl,eC #[_,rfl,?_]]];refine#[_,rfl,bO (λa=>#[_,rfl,?_]) (λa=>?_)]
 .have a:0<=i:=IR a
  show R (.bl (decide (i<n)));rw[show decide (i<n)=decide (0<=i/\i<n) by simp[a]]
  exact q
 .have a:¬0<=i:=Pi a
  rw[show decide (0<=i/\i<n)=false by simp[a]] at q
  exact q
def xf:bS:=λa P=>∃(w:W),a= [aX w]/\Ae w/\1<=w.length/\w.length<=14/\P .bC
def EZ{w:W}(h:(iB (w.map aw))[j]?\d):j<w.length/\d= .tup [.int (j:Int),aw (row w j)]:=by
 obtain⟨x,b,rfl⟩:=rM h;obtain⟨r,a,rfl⟩:=cu b;have c:j<w.length:=(df.mp a).1;exists c;rw[PX a]
def wI:FnOk P w Z.K mg base cg 2 T.d_alien_fault.f T.d_alien_fault.fd ["rows"] (aU Z xf):=by
 have c:=n5.nd;refine aZ T.d_alien_fault.F n5 [0,0,0,0] ∅ (λn R h=>by obtain⟨_,rfl,_⟩:=h;rfl) (λy A outer s H E n R m h=>?_)
 have z:=m.units
 refine#[_,(ag (dh rfl FS (kv rfl T.B.enumerate (ae (aa 0) ah)) (jX 2 rfl (bZ (aQ 1 c) (bZ (aQ 2 c) gu))) (aq (dh rfl FS (br (aa 2)) (aQ 3 c) (aq (bq (c5 (cJ (aC T.d_is_among (B8 T) m (ae (aa 3) (ae (aH bA rfl T.B.len bz (ae (aa 0) ah)) ah))))) (aq (aF (cZ (ae jo (ae (aa 1) (ae (aa 3) ah)))))) aM)))))
   (aq (aF bY))),?_]
 obtain⟨a,rfl,g,C,G,q⟩:=h;refine#[_,rfl,bU (λ_ e=>∃i l b,e= [some (aX a),i,l,b]) #[_,_,_,rfl] ?_ ?_]
 .rintro j d _ o ⟨i,l,b,rfl⟩ A p
  obtain⟨I,rfl⟩:=EZ o;exists rfl,rfl;refine#[_,rfl,bU (λ_ e=>∃b,e= [some (aX a),some (.int (j:Int)),some (aw (row a j)),b]) #[_,rfl] ?_ ?_]
  .rintro k J _ r ⟨t,rfl⟩ L u
   obtain⟨x,v,rfl⟩:=cu r;refine#[_,rfl,_,rfl,_,_,rfl,#[rfl,?_]];have M:x<a.length:=g.rng _ _ (dY v);rw[show decide ((0:Int)<=(x:Int)/\(x:Int)<((a.map aw).length:Int))=true by simp;lia]
   exact bM (u _ #[_,rfl])
  .rintro _ ⟨t,rfl⟩
   exact p _ #[_,_,_,rfl]
 .rintro _ ⟨i,l,b,rfl⟩
  exact q
def yQ:FnOk P w Z.K mg base cg 1 T.d_self_fault.f T.d_self_fault.fd ["rows"] (aU Z xf):=by
 have i:=qa.nd;refine aZ T.d_self_fault.F qa [0,0,0] ∅ (λk R h=>by obtain⟨_,rfl,_⟩:=h;rfl) (λt A outer s H E k R l h=>?_)
 have u:=l.units
 refine#[_,(ag (dh rfl FS (kv rfl T.B.enumerate (ae (aa 0) ah)) (jX 2 rfl (bZ (aQ 1 i) (bZ (aQ 2 i) gu))) (aq (bq (aK se (aa 1) (aa 2) (by with_unfolding_all rfl)) (aq (aF (cZ (ae jo (ae (aa 1) (ae (aa 1) ah)))))) aM)))
   (aq (aF bY))),?_]
 obtain⟨a,rfl,g,v,x,q⟩:=h;refine#[_,rfl,bU (λ_ m=>∃b c,m= [some (aX a),b,c]) #[_,_,rfl] ?_ ?_]
 .rintro j d _ n ⟨b,c,rfl⟩ A o
  obtain⟨y,rfl⟩:=EZ n;exists rfl,rfl;exists _,rfl,_,rfl,rfl,cR _,_,rfl
  have e:inD (.int (j:Int)) ((row a j).map ao)=false:=by
   have:=iH (r:=row a j) (p:=j)
   rw[Gc (g.irr j)] at this;exact this
  rw[ir cP,e];exact bM (o _ #[_,_,rfl])
 .rintro _ ⟨b,c,rfl⟩
  exact q
def kq(l:List a)(k:Nat)(h:k<=l.length):cutD l none (some (k:Int))=l.take k:=by
 unfold cutD;have b:HT.cC l.length 0 none=0:=rfl
 have c:HT.cC l.length l.length (some (k:Int))=k:=by
  simp only[HT.cC]
  split<;>lia
 rw[b,c];simp
def wK:FnOk P w Z.K mg base cg 1 T.d_twice_fault.f T.d_twice_fault.fd ["rows"] (aU Z xf):=by
 have i:=og.nd;refine aZ T.d_twice_fault.F og [0,0,0,0,0] ∅ (λt R h=>by obtain⟨_,rfl,_⟩:=h;rfl) (λQ A outer s H E t R u h=>?_)
 have S:=u.units
 refine#[_,(ag (dh rfl FS (kv rfl T.B.enumerate (ae (aa 0) ah)) (jX 2 rfl (bZ (aQ 1 i) (bZ (aQ 2 i) gu))) (aq (dh rfl FS (kv rfl T.B.enumerate (ae (aa 2) ah)) (jX 2 rfl (bZ (aQ 3 i) (bZ (aQ 4 i) gu))) (aq (bq (aK se (aa 4) (fh (aa 2) f9 (gb (aa 3))) (by with_unfolding_all rfl)) (aq (aF (cZ (ae jo (ae (aa 1) (ae (aa 4) ah)))))) aM)))))
   (aq (aF bY))),?_]
 obtain⟨a,rfl,g,U,X,q⟩:=h;refine#[_,rfl,bU (λ_ l=>∃n o b c,l= [some (aX a),n,o,b,c]) #[_,_,_,_,rfl] ?_ ?_]
 .rintro j d _ v ⟨n,o,b,c,rfl⟩ A C
  obtain⟨Y,rfl⟩:=EZ v;exists rfl,rfl;refine#[_,rfl,bU (λ_ l=>∃b c,l= [some (aX a),some (.int (j:Int)),some (aw (row a j)),b,c]) #[_,_,rfl] ?_ ?_]
  .rintro k d' _ G ⟨I,J,rfl⟩ A' L
   obtain⟨y,M,rfl⟩:=rM G;obtain⟨x,r,rfl⟩:=cu M;have gH:k<(row a j).length:=(df.mp r).1;exists rfl,rfl;exists _,rfl,_,rfl,_,rfl;have N:cutD ((row a j).map ao) none (some (k:Int))=((row a j).take k).map ao:=by rw[kq _ _ (by simp;lia),sQ]
   refine(?_:KW false (ao x) (.lst (cutD ((row a j).map ao) none (some (k:Int)))) _);rw[N];exists rfl,cR _,_,rfl
   have e:inD (ao x) (((row a j).take k).map ao)=false:=by
    rw[iH,Gc];intro z;obtain⟨m,p⟩:=zE z
    have O:m<k:=by
     have:=(df.mp p).1
     rw[kX] at this;lia
    rw[E4 O] at p;exact absurd ((abV () (g.nod j)).mp (p.trans r.symm)) ()
   rw[ir cP,e];exact bM (L _ #[_,_,rfl])
  .rintro _ ⟨I,J,rfl⟩
   exact C _ #[_,_,_,_,rfl]
 .rintro _ ⟨n,o,b,c,rfl⟩
  exact q
def yO:FnOk P w Z.K mg base cg 1 T.d_lone_fault.f T.d_lone_fault.fd ["rows"] (aU Z xf):=by
 have c:=p7.nd;refine aZ T.d_lone_fault.F p7 [0,0,0,0] ∅ (λo R h=>by obtain⟨_,rfl,_⟩:=h;rfl) (λJ A outer s H E o R t h=>?_)
 have L:=t.units
 refine#[_,(ag (dh rfl FS (kv rfl T.B.enumerate (ae (aa 0) ah)) (jX 2 rfl (bZ (aQ 1 c) (bZ (aQ 2 c) gu))) (aq (dh rfl FS (br (aa 2)) (aQ 3 c) (aq (bq (aK hV (aa 1) (aE (aa 0) (aa 3)) (by with_unfolding_all rfl)) (aq (aF (cZ (ae jo (ae (aa 1) (ae (aa 3) ah)))))) aM)))))
   (aq (aF bY))),?_]
 obtain⟨a,rfl,g,M,N,q⟩:=h;refine#[_,rfl,bU (λ_ i=>∃l m b,i= [some (aX a),l,m,b]) #[_,_,_,rfl] ?_ ?_]
 .rintro j d _ u ⟨l,m,b,rfl⟩ A v
  obtain⟨O,rfl⟩:=EZ u;exists rfl,rfl;refine#[_,rfl,bU (λ_ i=>∃b,i= [some (aX a),some (.int (j:Int)),some (aw (row a j)),b]) #[_,rfl] ?_ ?_]
  .rintro k Q _ y ⟨z,rfl⟩ S C
   obtain⟨x,G,rfl⟩:=cu y;have n:=dY G;have I:x<a.length:=g.rng _ _ n;exists _,rfl,_,rfl,_,rfl,_,gm (zu I),rfl,cR _,_,rfl
   have e:inD (.int (j:Int)) ((row a x).map ao)=true:=by
    have:=iH (r:=row a x) (p:=j)
    rw[GT (g.sym _ _ n)] at this;exact this
   rw[mo rfl,e];exact bM (C _ #[_,rfl])
  .rintro _ ⟨z,rfl⟩
   exact v _ #[_,_,_,rfl]
 .rintro _ ⟨l,m,b,rfl⟩
  exact q
def wy(bs:List Bool):List D:=bs.map D.bl
def KH{bs:List Bool}{i:Nat}{b:Bool}(h:bs[i]?\b):(wy bs)[i]?\(.bl b):=by unfold wy;rw[bW,h];rfl
def C6(bs:List Bool)(i:Nat)(b:Bool):(wy bs).set i (.bl b)=wy (bs.set i b):=by unfold wy;rw[vE]
def C5(bs:List Bool):(wy bs).length=bs.length:=aG _
def uU{n k:Nat}(h:k<n):k4 n (k:Int)\k:=by unfold k4;rw[mo (),mo ()];simp
def GQ:bS:=λa P=>∃(w:W),a= [aX w]/\Ae w/\1<=w.length/\w.length<=14/\∀bs m,RI w bs [] [] m->(∀x,bs[x]?\true->Reach w 0 x)->P (.lst (wy bs))
def Met(w:W)(bs:List Bool):Prop:=∀x,bs[x]?\true->Reach w 0 x
def nj:FnOk P w Z.K mg base cg 1 T.d_reached_from_first.f T.d_reached_from_first.fd ["rows"] (aU Z GQ):=by
 have v:=iP.nd;refine aZ T.d_reached_from_first.F iP [0,1,1,0,0] ∅ (λds R h=>by obtain⟨_,rfl,_⟩:=h;rfl) (λbD A outer s H E ds R hr h=>?_)
 have hu:=hr.units
 refine#[_,(ag (Ak 1 (NC:= ["row"]) (src:= [none]) rfl v (mE (au d9)) trivial (br (aa 0)) (λ_ _ _=>(bG 0 (show(["row"]:List Str).Nodup from by decide+kernel))) (λ_ _ _=>eH) (λ_ _ _=>gU))
   (ag (ja false 1 av gU)
   (ag (c4 2 v (fW (ae av ah)))
   (ag (ke FS (cJ (aa 2)) (ag (HB 3 2 v)
   (aq (dh rfl FS (br (aE (aa 0) (aa 3))) (aQ 4 v) (aq (bq (c5 (cJ (aE (aa 1) (aa 4)))) (ag (ja false 1 (aa 4) gU)
   (aq (gr false 2 (aa 4)))) aM))))))
   (aq (aF (aa 1))))))),?_]
 obtain⟨c,rfl,g,h1,eF,q⟩:=h;refine#[_,rfl,jq (ρ:= [none]) aw (λ_=> .bl false) c _ (λy b Y h=>h) rfl (small ()) λaJ=>?_]
 have e0:c.map (λ_=>D.bl false)=wy (aj c.length false):=by unfold wy;rw[List.map_replicate,List.map_const']
 rw[e0];refine#[trivial,_,rfl,0,0,rfl,by rw[C5,zD];exact uU (k:=0) (),?_]
 rw[C6];refine#[by show 1<=sizeLine;decide,?_]
 refine jj (λm ρ=>∃(bs:List Bool)(l:List Nat)(S B:Option D),ρ= [some (aX c),some (.lst (wy bs)),some (.lst (l.map ao)),S,B]/\RI c bs l [] m/\Met c bs/\m<=14/\bs.count false+l.length=m) c.length ?_ ?_
 .refine#[_,[0],none,none,rfl,#[by simp,?_,?_,λx d=>?_,?_],λx d=>?_,eF,?_]
  .rw[qq,mo rfl,mo (by rw[zD];lia)]
  .intro x d
   have:x=0:=by simpa using d
   rw[this,qq,mo rfl,mo (by rw[zD];lia)]
  .by_cases e:0=x
   .exact .inl (by rw[<-e];simp)
   .rw[qq,ir e,A6] at d
    split at d<;>cases d
  .rw[abC (by rw[zD];lia),abW,acu]
   simp;lia
  .by_cases e:0=x
   .rw[<-e];exact .refl _
   .rw[qq,ir e,A6] at d
    split at d<;>cases d
  .rw[abC (by rw[zD];lia),abW,acu]
   simp;lia
 .rintro m _ ⟨bs,l,S,B,rfl,C,mt,hc,U⟩
  exists _,rfl,rfl
  rcases zv l with rfl| ⟨M,p,e⟩
  .exact bM #[_,rfl,q bs m C mt]
  .rw[A7] at e
   subst e;rw[show zk (.lst ((M++ [p]).map ao))=true by simp[zk]]
   refine eC ?_;rw[cA] at U;simp only[rm] at U;obtain⟨o,rfl⟩:∃o,m=o+1:=#[m-1,()]
   have N:=C.pop;have X:bs[p]?\true:=C.wt p (by simp)
   have ZC:p<c.length:=by rw[<-C.len];exact(df.mp X).1
   refine#[M.map ao,ao p,by rw[cW];rfl,?_]
   refine#[_,rfl,_,rfl,_,gm (zu ZC),bU (λj ρ=>∃(a:List Bool)(i:List Nat)(B:Option D),ρ= [some (aX c),some (.lst (wy a)),some (.lst (i.map ao)),some (ao p),B]/\RI c a i [p] o/\Met c a/\(∀k y,k<j->(row c p)[k]?\y->a[y]?\true)/\a.count false+i.length=o) ?_ ?_ ?_]
   .exact#[bs,M,_,rfl,N,mt,(λk n r=>by lia),()]
   .rintro j x _ d ⟨a,i,o5,rfl,t,G,I,O⟩ A hA
    obtain⟨n,J,rfl⟩:=cu d;have Zs:=g.rng _ _ (dY J);have Q:n<a.length:=by rw[t.len];exact Zs
    have u:a[n]?\(a[n]):=cv Q;exists _,rfl,_,rfl,_,gm (KH u),rfl;generalize a[n]=bn at u;cases bn with
    |true=>
     refine bM (hA _ #[a,i,_,rfl,t,G,λk y r b=>?_,O])
     by_cases e:k=j
     .rw[e,J] at b;cases b;exact u
     .exact I k y () b
    |false=>
     refine eC ?_;refine#[trivial,_,rfl,_,rfl,_,n,rfl,by rw[C5];exact uU Q,?_]
     rw[C6];have L:=t.push u;have aaa:=L.cnt;refine#[_,rfl,_,rfl,trivial,cD (by rw[aG];lia),?_]
     have er:i.map ao++ [ao n]=(i++ [n]).map ao:=by rw[cW];rfl
     rw[er];refine hA _ #[a.set n true,i++ [n],_,rfl,L,λy b=>?_,λk y r b=>?_,?_]
     .by_cases e:n=y
      .rw[<-e];exact .step (mt p X) (dY J)
      .rw[qq,ir e] at b;exact G y b
     .rw[qq]
      by_cases e:n=y
      .rw[mo e,mo Q]
      .rw[ir e]
       refine I k y ?_ b;apply FB;intro z
       have:k=j:=()
       rw[this,J] at b;cases b;exact e rfl
     .obtain⟨hl,he⟩:=df.mp u
      have:0<a.count false:=Bb.mpr (by rw[<-he];exact lO hl)
      rw[abC hl,he,cA];simp;lia
   .rintro _ ⟨a,i,o5,rfl,t,G,I,O⟩
    have L:=t.close λy b=>by
     obtain⟨k,r⟩:=zE b;exact I k y (by rw[aG];exact(df.mp r).1) r
    exact#[o,(),a,i,_,_,rfl,L,G,(),O]
def EO:bS:=λa P=>∃(w:W),a= [aX w]/\Ae w/\1<=w.length/\w.length<=14/\(Good w->P .bC)/\(¬Good w->∀q,P (.tup [.str "apart", .int 0,ao q]))
def wJ:FnOk P w Z.K mg base cg 2 T.d_apart_fault.f T.d_apart_fault.fd ["rows"] (aU Z EO):=by
 have n:=n6.nd;refine aZ T.d_apart_fault.F n6 [0,0,0] ∅ (λu R h=>by obtain⟨_,rfl,_⟩:=h;rfl) (λO A outer s H E u R o h=>?_)
 have Q:=o.units
 refine#[_,(ag (dh rfl FS (kv rfl T.B.enumerate (ae (aC T.d_reached_from_first (nj T) o (ae (aa 0) ah)) ah)) (jX 2 rfl (bZ (aQ 1 n) (bZ (aQ 2 n) gu))) (aq (bq (c5 (cJ (aa 2))) (aq (aF (cZ (ae jo (ae av (ae (aa 1) ah)))))) aM)))
   (aq (aF bY))),?_]
 obtain⟨q,rfl,g,v,z,C,G⟩:=h;refine#[_,rfl,q,rfl,g,v,z,λbs m r mt=>bU (λk I=>(∀x,x<k->bs[x]?\true)/\∃c i,I= [some (aX q),c,i]) #[λx t=>absurd t (Nat.not_lt_zero x),_,_,rfl] ?_ ?_]
 .rintro j d _ J ⟨l,c,i,rfl⟩ A L
  obtain⟨y,M,rfl⟩:=rM J;obtain⟨b,a,rfl⟩:=cu M;exists rfl,rfl;cases b with
  |true=>
   refine#[_,rfl,rfl,bM (L _ #[λx t=>?_,_,_,rfl])]
   by_cases e:x=j
   .rw[e];exact a
   .exact l x ()
  |false=>
   refine#[_,rfl,rfl,eC #[_,rfl,by show 3<=sizeLine;decide,G (λN=>?_) j]]
   have:=r.all N
   rw[this,A6] at a
   split at a<;>cases a
 .rintro _ ⟨l,c,i,rfl⟩
  refine C (g.good λp S=>mt p (l p ?_))
  have:=r.len
  unfold wy iB;simp;lia
def nX:FnOk P w Z.K mg base cg 3 T.d_first_fault.f T.d_first_fault.fd ["rows"] (aU Z EO):=by
 have b:=n9.nd;refine aZ T.d_first_fault.F n9 [0,0] ∅ (λj R h=>by obtain⟨_,rfl,_⟩:=h;rfl) (λm A outer s H E j R a h=>?_)
 have n:=a.units
 refine#[_,(ag (aP false 1 b (aC T.d_alien_fault (wI T) a (ae (aa 0) ah)))
   (ag (bq (aK sh (aa 1) bY (aT _)) (aq (aP false 1 b (aC T.d_self_fault (yQ T) a (ae (aa 0) ah)))) aM)
   (ag (bq (aK sh (aa 1) bY (aT _)) (aq (aP false 1 b (aC T.d_twice_fault (wK T) a (ae (aa 0) ah)))) aM)
   (ag (bq (aK sh (aa 1) bY (aT _)) (aq (aP false 1 b (aC T.d_lone_fault (yO T) a (ae (aa 0) ah)))) aM)
   (ag (bq (aK sh (aa 1) bY (aT _)) (aq (aP false 1 b (aC T.d_apart_fault (wJ T) a (ae (aa 0) ah)))) aM)
   (aq (aF (aa 1)))))))),?_]
 obtain⟨c,rfl,g,d,e,k,l⟩:=h;exists _,rfl,c,rfl,g,d,e,trivial;refine#[_,rfl,_,rfl,eC #[_,rfl,c,rfl,g,d,e,trivial,?_]];refine#[_,rfl,_,rfl,eC #[_,rfl,c,rfl,g,d,e,trivial,?_]];refine#[_,rfl,_,rfl,eC #[_,rfl,c,rfl,g,d,e,trivial,?_]];refine#[_,rfl,_,rfl,eC #[_,rfl,c,rfl,g,d,e,λi=>#[trivial,_,rfl,k i],λi q=>#[trivial,_,rfl,l i q]]]
def u5{P:Program}{w:World}{base:Heap}{Z:DC}(T:Txt Z k):FnOk P w Z.K k base cg 4 T.i_f T.i_fd ["self","turns"] (ER Z):=by
 have Lx:=nX (P:=P) (w:=w) (base:=base) T;have l:=mQ.nd;refine T.i_F.ok mQ (λI H Q E h=>?_) (λbD A outer s H I Q E m h=>?_)
 .obtain⟨p,n,v,G,a,rfl,_⟩:=h;rfl
 obtain⟨p,n,v,G,a,rfl,r,J,L,dv,g,M,N,q⟩:=h;have hu:=m.units
 refine#[_,mO (t:=pj Z _ [0,0,0,0] 0 _)
   (bq (c5 (IY Gq Gq av (aH bA rfl T.B.len bz (ae (aa 1) ah)) (IM rfl T.c_MOST_POINTS))) (aq qx) aM)
  (mO (t:=pj Z _ [0,0,0,0] 0 _)
   (uJ 2 (NC:= ["row"]) (src:= [none]) rfl l (mE (au fO)) trivial (br (aa 1)) (λ_ _ _=>(bG 0 (show(["row"]:List Str).Nodup from by decide+kernel))) (λ_ _ _=>eH) (λ_ _ _=>(gW sW rfl T.B.list fg (ae (aa 0) ah))))
  (mO (t:=pj Z _ [0,0,0,0] 0 _)
   (aP false 3 l (aC T.d_first_fault (nX T) m (ae (aa 2) ah)))
  (mO (t:=pj Z _ [0,0,0,0] 0 _)
   (bq (aK u4 (aa 3) bY (aT _)) (aq qx) aM)
  (yY (PF (pv 0) (pv 2) rfl))))),?_]
 have u:(a.map aw).length=a.length:=aG _;refine#[#[G,H,G],[some (.obj p),some (aX a),none,none],{nx:=λρ=>ρ= [some (.obj p),some (aX a),none,none],rt:=λ_=>False},#[G,λ_=> [],?_],?_,#[?_,λ_ z=>z.elim,λ_ z=>z.elim,λ_ z=>z.elim,λ_ _ z=>z.elim]]
 .refine#[.refl J, .refl _,rfl,λi d c=>?_,λ_=>gF,(λ_ _ _ _ z=>by cases z),(λ_ _ z=>by cases z)]
  match i,c with
  |0,c=>cases c;exact#[_,rfl, .obj p,rfl]
  |1,c=>cases c;exact#[_,rfl,dv,rfl]
  |2,c=>cases c
  |3,c=>cases c
  |i+4,c=>cases c
 .have O:D.bl (decide ((1:Int)<=((a.map aw).length:Int)))= .bl true:=GM D.bl (GT (by rw[u];lia))
  have S:D.bl (decide (((a.map aw).length:Int)<=14))= .bl true:=GM D.bl (GT (by rw[u];lia))
  exact#[_,rfl,true,O,eC #[true,S,bM rfl]]
 rintro _ rfl Hj H1 U;refine#[#[G,H,G],_,{nx:=λρ=>ρ= [some (.obj p),some (aX a),some (aX a),none],rt:=λ_=>False},U,?_,#[?_,λ_ z=>z.elim,λ_ z=>z.elim,λ_ z=>z.elim,λ_ _ z=>z.elim]]
 .exact#[_,rfl,jq (ρ:= [none]) aw aw a _ (λy hy Y h=>#[_,rfl,h]) rfl (small ()) λaJ=>#[trivial,rfl]]
 rintro _ rfl eO H2 X;refine#[#[G,H,G],_,{nx:=λρ=>ρ= [some (.obj p),some (aX a),some (aX a),some .bC],rt:=λ_=>False},X,?_,#[?_,λ_ z=>z.elim,λ_ z=>z.elim,λ_ z=>z.elim,λ_ _ z=>z.elim]]
 .exact#[_,rfl,a,rfl,g.near,M,N,λ_=>#[trivial,rfl],λz=>absurd g z]
 rintro _ rfl wN H3 S3;refine#[#[G,H,G],_,{nx:=λρ=>ρ= [some (.obj p),some (aX a),some (aX a),some .bC],rt:=λ_=>False},S3,?_,#[?_,λ_ z=>z.elim,λ_ z=>z.elim,λ_ z=>z.elim,λ_ _ z=>z.elim]]
 .exact#[_,rfl,_,rfl,bM rfl]
 rintro _ rfl fw H4 ⟨x,fp,f⟩;obtain⟨v0,rV,o0⟩:=f.at_ 0 _ rfl;obtain⟨v2,rW,o2⟩:=f.at_ 2 _ rfl;obtain⟨d0,_⟩:=o0;obtain⟨F,_⟩:=o2;cases d0;have Yk:=F;cases F with
 | @lst R xs ds hR e=>
  have Zz:=f.ex.hh _ _ r;refine#[_,rW,_,rV,p,Z.C,n,[],rfl,Zz,T.W.cl,T.W.nR,∅,?_]
  have g4:x p=none:=f.ex.off p (by show H p≠none;rw[r];exact λz=>nomatch z) L
  refine q R x _ f.ex.gg (λb o j=>?_) (λb o j nb=>?_) f.ex.off aD Yk
  .rw[aN (bI j g4)];exact f.ex.sub _ _ j
  .rw[aN nb];exact f.ex.hh _ _ j
def P5:bS:=λa P=>∃(w:W),a= [.fS w]/\P (.int (w.length:Int))
def nh:FnOk P w Z.K mg base cg 1 T.m_many.f T.m_many.fd ["self"] (aU Z P5):=by
 have d:=t9.nd;refine aZ T.m_many.F t9 [0] ∅ (λb R h=>by obtain⟨_,rfl,_⟩:=h;rfl) (λe A outer s H E b R c h=>?_)
 have g:=c.units;exists _,(aq (aF (aH bA rfl T.B.len bz (ae (tu T.W (aa 0)) ah))));obtain⟨a,rfl,q⟩:=h;exists _,rfl,a,rfl;refine(?_:R (.int ((a.map aw).length:Int)));rw[aG];exact q
def NA:bS:=λa P=>∃(w:W),a= [.fS w]/\w.length<=14/\P (aX w)
def js:FnOk P w Z.K mg base cg 1 T.m_turns.f T.m_turns.fd ["self"] (aU Z NA):=by
 have d:=qU.nd;refine aZ T.m_turns.F qU [0] ∅ (λb R h=>by obtain⟨_,rfl,_⟩:=h;rfl) (λe A outer s H E b R c h=>?_)
 have g:=c.units;refine#[_,(aq (aF (iw (NC:= ["row"]) (src:= [none]) rfl (mE (au j4)) trivial (br (tu T.W (aa 0))) (λ_ _ _=>(bG 0 (show(["row"]:List Str).Nodup from by decide+kernel))) (λ_ _ _=>eH) (λ_ _ _=>(gW sW rfl T.B.list fg (ae (aa 0) ah)))))),?_]
 obtain⟨a,rfl,i,q⟩:=h;exact#[_,rfl,a,rfl,jq (ρ:= [none]) aw aw a _ (λy j Y h=>#[_,rfl,h]) rfl (small ()) λk=>q]
end oH
namespace L2
open PySem PySem.Spec PyProof.Rows
section
variable {Z:DC} {X:Cx} {md:List Nat} {rn:Nat} {e:Expr} {pos p2:Pos} {te:bw} {t:lR} {lo hi:Option Expr} {tl th:E6}
def RN(t:lR):cN:=λE a=>t a λb=>E.rt (.lst b)
def Dx(g:DF Z X rn e t):DSt Z X md rn (.Return (some e) pos) (RN t):=by
 refine(t5 g).imp λD C H j=>?_;rfl';obtain⟨B,l,E,⟨G,m,S⟩,h,M⟩:=j;ac_rfl
 let F:Addr->Prop:=λb=>∃i,b∈m i
 have s:=S.ex.sub
 have n:Ext B.G₀ B.H₀ (plus G H F) H:=#[S.ex.gg.trans (fR s),km s,S.ex.hh,λb a p=>by
  rw[jg (λ#[i,q]=>a (S.nw i b q).1)];exact S.ex.off b a p]
 refine#[plus G H F,l,_,km s,#[S.len,λi d h=>?_],h,λJ r v f w y x o z c=>M.rt _ r v f w y (n.trans x) o z λb a=>#[S.ex.hh.free (c b a).1,(c b a).2]];obtain⟨v,A,o⟩:=S.at_ i d h;exact#[v,A,o.dv (fR s) λb a u e=>by rw[mN #[i,a]];exact e]
end
open PySem.MeetsSeq
section
variable {X:Cx}
def M6:V->List V->Hp->VK->Prop:=λx b H Q=>∃(l:Addr)(a:List Int)(k:Int)(j:Nat),x= .ref l/\b= [.int k]/\H l\(.lst (a.map V.int))/\a[j]?\k/\(∀m,m<j->a[m]? ≠some k)/\Q .bC (upd H l (.lst ((a.eraseIdx j).map V.int)))
def SS(k:Int):Value->Bool
 | .int a _=>a==k
 |_=>false
def Gj:Iv X "list.remove" M6:=by
 intro E s σ H x vs v us Q I M N h;rfl';obtain⟨l,b,k,j,rfl,rfl,G,J,P,q⟩:=h;subst M;obtain⟨u,rfl,R⟩:=N.one;obtain⟨S,rfl⟩:=R;obtain⟨z,a,n,r,hl,e⟩:=I.pk G;have len:=r.length;rw[aG] at len;have T:j<b.length:=(df.mp J).1;ac_rfl
 have B:∀(m:Nat)(d:m<b.length),∃t,a[m]?\(.int b[m] t):=λm d=>by
  obtain⟨w,hw,U⟩:=r.get (i:=m) (x:= .int b[m]) (by rw[bW,cv d];rfl)
  obtain⟨t,rfl⟩:=U;exact#[t,hw]
 have Y:∀y,y∈a.toArray->EqGives y (.int k S) (SS k y):=λy C=>by
  have C:y∈a:=by simpa using C
  obtain⟨m,d,rfl⟩:=zF.mp C;obtain⟨t,g⟩:=B m ()
  have:a[m]= .int b[m] t:=by
   rw[cv d] at g;exact Da g
  rw[this];exact EqGives.int _ _ _ _
 have A:∀(m:Nat)(d:m<a.toArray.size),SS k a.toArray[m]=decide (b[m]?\k):=λm d=>by
  have Z:m<a.length:=by simpa using d
  obtain⟨t,g⟩:=B m ()
  have e1:a.toArray[m]= .int (b[m]'()) t:=by
   rw[cv Z] at g;simpa using Da g
  rw[e1,cv ()]
  show((b[m]'())==k)=_
  by_cases c:b[m]'()=k
  .simp[c]
  .simp[c]
 have L:a.toArray.size=b.length:=by simp[len]
 refine aaE F.slot_list_remove #[_,e,rfl] F.entry_list_remove (F.args_list_remove_2 _ _) (list_remove l a.toArray n _ (SS k) Y j () (by rw[A _ (),J];simp) (λm d D2=>by rw[A m d];exact Gc (P m D2)) (by rw[L];simpa using z)) #[e,?_]
 refine#[.bC,_,I.Ef (its':=a.eraseIdx j) (f:=λxs=>xs.eraseIdxIfInBounds j) G e ?_ ?_ ?_,rfl,q]
 .unfold Array.eraseIdxIfInBounds
  rw[dif_pos (by rw[L];exact T)]
  simp
 .refine Vals.of_get (by rw[aG,CI,CI,len]) λm x u o p=>?_
  rw[bW,acv] at o;rw[acv] at p
  by_cases c:m<j
  .rw[mo c] at o p
   have d:m<b.length:=()
   obtain⟨t,g⟩:=B m d;rw[g] at p;rw[cv d] at o;cases o;cases p;exact#[t,rfl]
  .rw[ir c] at o p
   have d:m+1<b.length:=by
    by_cases c2:m+1<b.length
    .exact c2
    .rw[fZ ()] at o;cases o
   obtain⟨t,g⟩:=B (m+1) d;rw[g] at p;rw[cv d] at o;cases o;cases p;exact#[t,rfl]
 .have h1:(b.eraseIdx j).length<=b.length:=by rw[CI];split<;>lia
  rw[aG] at z ⊢;lia
end
section
variable {Z:DC} {X:Cx} {md:List Nat} {rn:Nat} {e k:Expr} {pos apos aV:Pos} {te tp:bw}
end
section
variable {X:Cx} {e k:Expr} {te tk:TE} {pos p2:Pos}
end
section
variable {Z:DC} {X:Cx} {md:List Nat} {rn:Nat} {e e2 k:Expr} {es:List Expr} {pos p2 apos aV:Pos} {te tk tp:bw} {t u:lR}
def RJ(b:List Nat)(i:Nat)(c:bS)(t:iY):cN:=λE a=>t (dW b a) λf=>c f λd=>E.nx (a.set i (some d))
def Lg(i:Nat){t:iY}{k:Nat}(P:X.N.Nodup)(F:FnOk X.prog X.w X.K X.mg X.base cg k f z C (dE Z n l))(Q:c7 k X.A)(R:Gl X y)(T:X.mg y\(.ref f))(U:ak X.K (.ref f)=true)(a:Binds X.K z C [])
  (Y:DA Z X (e::g) t) (u:(y==("__debug__":Str))=false:=by decide) (he:starEach (e::g) X.env=(false,eval e X.env)::starEach g X.env:=by rfl) (eU:(backTo I (starEach g X.env)).any (·.1)=false:=by rfl)
  (hm:J.getD i 0=n:=by rfl) (hi:X.N[i]?\x:=by rfl) (hx:Loc X.env.scope x:=by subst_eqs) (hs:swapsWith (.Call (.Name y p) (e::g) [] I) (some (.Name x c)) m.line X.env=pure false:=by rfl)
  (hf:X.fn x=true\/X.env.scope.names.lookup x\.local:=by subst_eqs):DSt Z X J rn (.Assign [.Name x c] (.Call (.Name y p) (e::g) [] I) m) (RJ J i l t):=by
 refine(lB P hi hx (tX F Q R T U a .nil sv Y u he eU) hs hf).imp ?_;rintro D σ H ⟨B,ρ,E,⟨G,fp,S⟩,h,M⟩;refine#[G,_,_,S.ex.sub,S.Dz,h,λds q vs G1 H1 r bE=>?_];show dE Z n l (vs++ []) H1 _ E0;rw[iV];refine#[G1,ds,_,r.sub,bE,q,λd q v f L H2 x2 o nd O=>?_];have x:=r.trans x2;have s:∀b∈f,H b=none/\H2 b≠none/\L b=none:=λb a=>#[r.hh.free (O b a).1,(O b a).2];exact M.nx _ q _ _ #[L,_,(S.grow x).v9 hm o nd (λb a=>#[S.ex.hh.free (s b a).1,(s b a).2]) λb a j _ hj=>(S.nw j b hj).2.1 (s b a).1]
theorem fH.Qv:∀{m:List V}{n:List D}{j:List Addr}(p:Nat){ds:List D},fH (λv d f=>(yo d=true/\Own Z G H 1 v d f)\/(yo d=false/\Dv Z G v d/\f= [])) m n j->j.Nodup->n[p]?\(.lst ds)->∃l c,m[p]?\(.ref l)/\H l\(.lst c)/\DvAll Z G c ds/\l∈j/\
  ∀g i,DvAll Z G g i->fH (λv d f=>(yo d=true/\Own Z G (upd H l (.lst g)) 1 v d f)\/(yo d=false/\Dv Z G v d/\f= [])) m (n.set p (.lst i)) j
 |_,_,_,_,_, .nil,_,h=>by simp at h
 |_,_,_,0,dp, .cons (f:=f) (fs:=fs) a o,q,h=>by
  simp at h;subst h
  rcases a with ⟨_,a⟩ | ⟨e,_⟩
  .obtain⟨l,c,ds,j,rfl,e,A,s,B⟩:=a.one
   cases e;obtain⟨dv,rfl⟩:=B.flat;subst s;refine#[l,c,rfl,A,dv,by simp,λg i w=> .cons (.inl #[rfl, .inl #[l,g,i,[],rfl,rfl,aD,rfl,w.own]]) (o.imp λv d f s r=>r.imp (λr=>#[r.1,r.2.keep (.refl _) λb x=>aN λz=>?_]) id)]
   have:=(cI.mp q).1
   exact this (by subst z;exact s _ x)
  .cases e
 |_,_,_,p+1,dp, .cons (f:=f) (fs:=fs) a o,q,h=>by
  obtain⟨M,C,E⟩:=cU.mp q;obtain⟨l,c,F,I,J,y,L⟩:=fH.Qv p (ds:=dp) o C (~~~h)
  refine#[l,c,by simpa using F,I,J,eZ _ y,λg i w=>?_]
  refine .cons (a.imp (λr=>#[r.1,r.2.keep (.refl _) λb x=>aN λz=>E b x l y z]) id) (L g i w)
def SIx.Xi(S:SIx Z B md g j H G n)(q:md.getD i 0=2)(h:g[i]?\(some (.tup b)))(y:b[p]?\(.lst m)):∃T a l c r,D.lst m= .lst r/\j[i]?\(some (.ref T))/\H T\(.tup a)/\a.length=b.length/\a[p]?\(.ref l)/\H l\(.lst c)/\DvAll Z G c r/\
  ∀d f,DvAll Z G d f->SIx Z B md (g.set i (some (.tup (b.set p (.lst f))))) j (upd H l (.lst d)) G n:=by
 obtain⟨v,s,o⟩:=S.at_ i _ h;rw[q] at o;obtain⟨T,a,rfl,w,x⟩:=o.tup;obtain⟨l,c,z,A,C,E,F⟩:=fH.Qv p x (S.nd i) y;refine#[T,a,l,c,m,rfl,s,S.ex.sub _ _ w,x.length,z,A,C,λd f I=>S.mut s E ?_];rw[q];exact .inr (.inl #[∅,T,a,_,rfl,rfl,w,F d f I])
end
def gz.ok{P:Program}{w:World}{H:Hp}{a:Addr}(x:gz b a d h):dG P w H h a (.ext (gz b a d)):=by
 refine#[x,let #[o,_,_,_,c,_]:=x;#[o,c],λg i p k=>?_];obtain⟨o,e,f,t,c,r⟩:=p;exact#[o,e,f,t,k o c,r]
def vG.elems(i:vG a b):ElemsOf (intKind P w) a.toList:=λe c=>by
 obtain⟨k,t,rfl⟩:=i.1 e c;exact#[#[k,by simp[intKind,Value.isInt],rfl],rfl]
theorem AD:∀{b:List (Int×Value)}{c:List Int},(∀e∈b,∃k t,e=(hashInt k,Value.int k t))->IntsAre (b.map (·.2)) c->∀k,k∈c↔∃e∈b,Value.isInt k e.2=true
 | [],_,_,h,k=>by cases h;simp
 |e::b,c,d,h,k=>by
  obtain⟨j,t,rfl⟩:=d e (bF ..);cases h with
  |cons n g h=>
   have f:=AD (λe a=>d e (cm _ a)) h k;rw[bu,f]
   constructor
   .rintro(rfl| ⟨e,a,q⟩)
    .exact#[_,bF ..,by simp[Value.isInt]]
    .exact#[e,cm _ a,q]
   .rintro⟨e,a,q⟩
    rcases bu.mp a with rfl|a
    .left;simp[Value.isInt] at q;exact q.symm
    .exact .inr #[e,a,q]
def vG.mem(i:vG d f)(k:Int):k∈f↔∃e∈d.toList,(intKind P w).is k e.2=true:=by
 obtain⟨a,_,g,b,c⟩:=i;rw[<-c.mem_iff];exact AD a b k
theorem AB:∀{a:List Value}{b:List Int},IntsAre a b->a.length=b.length
 |_,_, .nil=>rfl
 |_,_, .cons _ _ h=>GM (·+1) (AB h)
theorem vG.size{a:Array (Int×Value)}(i:vG a d):a.size=d.length:=by
 obtain⟨_,_,e,b,c⟩:=i;rw[<-c.length_eq,<-AB b,aG,eD]
def _root_.PySem.fU.Ng(S:fU b o a c t):a.size<=306:=by
 have:=S.few
 rcases S.tok.few with h|h|h|h<;>lia
def gz.setOf(x:gz b a c h):h.SetOf (intKind P w) a (λk=>decide (k∈c)) c.length:=by
 obtain⟨o,d,e,t,f,S,i⟩:=x;refine#[o,d,e,t,f,S.ex,S.dat,i.elems,λk=>?_,?_,S.fits,i.size]
 .rw[aaG];exact i.mem k
 .have:=S.Ng
  show d.size<4096;lia
def AA(a:List Int)(k:Int):List Int:=if k∈a then a else a++ [k]
section
variable {X:Cx}
def Inv.Ik(I:Inv X c e H s)(h:H a\(.ext (gz b a d))):gz b a d s.heap:=(I.hok a _ h).1
def MI(d:Gl X "set")(f:X.mg "set"=none):PE X (.Call (.Name "set" p) [] [] a) (λg H Q=>∀q,H q=none->Q (.ref q) (upd H q (.ext (gz (cM X.w) q [])))):=by
 intro c s g H Q I h;refine aas (lh I d f (u:= .type "set") (by decide+kernel) ?_ ∅ ∅)
 refine abO rfl (abP (sV ?_));have i:=I.hok.fresh (aY _);refine#[.ref s.heap.objs.size,_,I.laid (t':=s.toks) (λb o e=>AC _ e) (aY _) (o:= .ext (gz (cM X.w) s.heap.objs.size [])) (gz.ok #[_,_,_,_,GE _ rfl,fU.new X.w,?_]),rfl,h _ i];exact#[λe j=>by simp at j,gF,[],by simpa using IntsAre.nil, .refl _]
def Gy:OpR X (compareOp .NotIn) (λx y H Q=>∃k p b a,x= .int k/\y= .ref p/\H p\(.ext (gz b p a))/\Q (.bl (!decide (k∈a))) H):=by
 intro c s g H x y v u Q I d e h;obtain⟨k,p,b,a,rfl,rfl,f,q⟩:=h;obtain⟨t,rfl⟩:=d;cases e;exact wpAny_notInSet_of (knd:=intKind X.prog X.w) (k:=k) (by simp[intKind,Value.isInt]) rfl (I.Ik f).setOf #[.bl _,H,I.tok _,rfl,q]
def Tq(w:World):V->List V->Hp->VK->Prop:=λx c H Q=>∃l b a k,x= .ref l/\c= [.int k]/\H l\(.ext (gz b l a))/\b=cM w/\a.length<=300/\Q .bC (upd H l (.ext (gz b l (AA a k))))
def Mm:Iw X "set.add" (Tq X.w):=by
 intro m s σ H x M v us Q I N O h;obtain⟨l,b,a,k,rfl,rfl,g,rfl,hz,q⟩:=h;cases N;obtain⟨u,rfl,P⟩:=O.one;obtain⟨d,rfl⟩:=P;obtain⟨o,p,ep,t,r,S,i⟩:=I.Ik g;have R:s.TypeIs (.ref l) "set":=#[o,r,S.ex.1];refine On F.slot_set_add R F.entry_set_add ?_ (F.args_set_add_2 _ _);unfold Builtin.«set.add» Builtin.Frozenset.oneOther;simp only[abd,bind_assoc];unfold Builtin.Frozenset.addrOf setAdd;refine wpAny_bind (be ?_)
 try dsimp only
 refine wpAny_bind (be ?_)
 try dsimp only
 refine wpAny_bind ?_;refine KF ?_;have A:(intKind X.prog X.w).is k (.int k d)=true:=by simp[intKind,Value.isInt]
 refine wpAny_bind ((intKind X.prog X.w).pyHash A ?_);refine CA (s:={s with toks:=s.toks+1}) r S i.elems A (by rw[i.size];lia) (λT=>?_) λU h' B C Y t' Z E S' j=>?_
 .show wpAny _ _ (ret Value.none) _ _ _
  have f:k∈a:=(i.mem k).mpr T;rw[AA,mo f] at q
  have e:upd H l (.ext (gz (cM X.w) l a))=H:=by
   funext c
   by_cases z:c=l
   .subst z;rw[aD];exact g.symm
   .rw[aN z]
  rw[e] at q;exact be #[_,rfl, .bC,H,I.tok _,rfl,q]
 .show wpAny _ _ (ret Value.none) _ _ _
  have f:k∉a:=λz=>U ((i.mem k).mp z);rw[AA,ir f] at q
  have i':vG C (a++ [k]):=by
   obtain⟨a1,a2,ms,G,J⟩:=i;refine#[λe he=>?_,?_,?_]
   .rcases bT.mp (j.mem_iff.mp he) with h|h
    .exact a1 e h
    .rw[cH] at h;exact#[k,d,h]
   .rw[cU]
    refine#[a2,by simp,λx hx y L z=>f ?_]
    rw[cH] at L;rw[<-L,<-z];exact hx
   .have a5:IntsAre ((p.toList++ [((intKind X.prog X.w).hash k,Value.int k d)]).map (·.2)) (ms++ [k]):=by
     rw[cW];clear J j;generalize p.toList.map (·.2)=M at G
     induction G with
     |nil=>exact .cons k d .nil
     |cons n t _ ih=>exact .cons n t ih
    obtain⟨En,b1,b2⟩:=yn (j.map (·.2)) a5;exact#[En,b1,b2.trans (J.append_right _)]
  have I':=I.write (h':=h') (t':=s.toks+1) (x:=l) (e:=l) (o:= .ext (gz (cM X.w) l (a++ [k]))) (by rw[g];trivial) (.inl rfl) (λb u hb e=>Z.extBut b u hb e) #[B,E] (gz.ok #[B,C,Y,t',E,S',i'])
  exact be #[_,rfl, .bC,_,I',rfl,q]
def WZ(r:V->List V->Hp->VK->Prop)(d:TE)(t:TA):TE:=λa H Q=>d a H λx c=>(∃p b e,x= .ref p/\c p\(.ext (gz b p e)))/\t a c λf g=>r x f g Q
variable {o e:Expr} {es:List Expr} {to:TE} {t:TA} {name:Str} {apos aV:Pos} {id:String} {r:V->List V->Hp->VK->Prop}
def Pp(m:PlainAttrs "set")(slot:Slot "set" name id)(n:typeOf (.builtin id)=pure (.type "method_descriptor"))(q:Iw X id r)(u:PE X o to)(w:PA X (e::d) t)
  (y:attributeBase o name X.env (eval o X.env)=eval o X.env:=by rfl)
  (z:((backTo f (starEach (e::d) X.env)).all (λx=>!x.1)&&(backToKw f (keywordEach [] X.env)).all (λx=>x.1.isSome)
   &&decide ((e::d).length+([]:List Keyword).length+(if ([]:List Keyword).isEmpty then 0 else 1)<30))=true:=by rfl)
  (A:(apos.endLine==f.line)=true:=by rfl) (B:starEach (e::d) X.env=(false,eval e X.env)::starEach d X.env:=by rfl) (C:(backTo f (starEach d X.env)).any (·.1)=false:=by rfl):
  PE X (.Call (.Attribute o name apos) (e::d) [] f) (WZ r to t):=by
 intro c s g H Q I h;refine aa2 y z A rfl (thn (u c s g H _ I h) λv E #[x,F,i,G,J,L]=>?_);obtain⟨p,b,ns,rfl,M⟩:=J;cases G;obtain⟨j,_,_,_,k,S,_⟩:=i.Ik M;refine#["set",id,m,slot,n,#[j,k,S.ex.1],λa N=>?_,?_]
 .cases N;exact#[j,k,S.ex.2.1]
 have l:=w f c E g F _ i L;rw[B] at l ⊢;refine aaF (by show(false|| (backTo f (starEach d X.env)).any (·.1))=false;rw[C]<;>rfl) (abm ?_)
 exact thn l λO P #[R,T,U,Y,Z]=>q c P g T (.ref p) R (.ref p) O Q U rfl Y Z
def zO(l:X.calm=true):cB X (.builtin "sorted") (λf H Q=>∃(p:Addr)(b:List Int),f= [.ref p]/\H p\(.ext (gz (cM X.w) p b))/\b.length<64/\∀(q:Addr)(a:List Int),H q=none->a.Perm b->a.Pairwise (·<=·)->Q (.ref q) (upd H q (.lst (a.map V.int)))):=by
 intro g s J H f L Q I m h;obtain⟨p,b,rfl,n,v,q⟩:=h;obtain⟨u,rfl,x⟩:=m.one;cases x;obtain⟨o,M,N,t,y,S,i⟩:=I.Ik n;obtain⟨_,_,z,A,j⟩:=_root_.id i;refine EN (I.ok.hd l) y S A (by rw[i.size];exact v) λO B c out e a d le C E k F=>?_
 have G:H c=none:=I.hok.fresh le;have P:64<=sizeLine:=∅
 have R:=(k.trans j).length_eq;exact#[.ref c,_,I.laid (t':=B) d le (o:= .lst (a.map V.int)) #[by rw[aG];lia,out.toList,e,nP E,by simpa using C],rfl,q c a G (k.trans j) F]
end
section
variable {Z:DC} {X:Cx} {B:Bs} {md:List Nat} {rn:Nat} {ρ:DN} {σ:St} {H G:Hp} {fp:Nat->List Addr} {a e k o:Expr} {ta te tk tp:bw} {pos apos aV p2:Pos}
def UG(c:Bool):gS:=λa b P=>∃k f d,a= .int k/\b= .set f d/\P (.bl (if c=true then !decide (k∈d) else decide (k∈d)))
def Gu:OpR X (compareOp .NotIn) (cq Z (UG true)):=by
 refine Gy.imp ?_;rintro x y H Q ⟨G,a,b,P,s,c,d,⟨k,i,f,rfl,rfl,h⟩,q⟩;cases c;cases d with
 |set g=>exact#[k,_,_,f,rfl,rfl,s _ _ g,q _ h _ G H (.refl s) (.bl _)]
def RQ(w:World)(i:Nat):cN:=λE b=>E.nx (b.set i (some (.set (cM w) [])))
def Lh(i:Nat)(n:X.N.Nodup)(q:Gl X "set")(r:X.mg "set"=none)(s:t.getD i 0=99:=by rfl)(u:X.N[i]?\x:=by rfl)(v:Loc X.env.scope x:=by subst_eqs)(y:swapsWith (.Call (.Name "set" p) [] [] A) (some (.Name x d)) m.line X.env=pure false:=by rfl)
  (C:X.fn x=true\/X.env.scope.names.lookup x\.local:=by subst_eqs):DSt Z X t J (.Assign [.Name x d] (.Call (.Name "set" p) [] [] A) m) (RQ X.w i):=by
 refine(lB n u v (MI q r) y C).imp ?_;rintro D L H ⟨B,O,E,⟨G,P,S⟩,h,M⟩;intro c g;have F:G c=none:=S.ex.sub.free g;have x:Ext G H G (upd H c (.ext (gz (cM X.w) c []))):=#[.refl _,S.ex.sub.trans (bp g _),bp g _,λ_ _ z=>z];refine M.nx _ h _ _ #[G,_,(S.grow x).v9 s (f:= [c]) (.inr (.inr #[c,_,rfl,aD,rfl, .inl #[rfl,_,[],rfl,rfl]])) (by simp) (λb l=>?_) λb l j _ I=>?_]
 .rw[cH] at l;subst l
  exact#[S.ex.hh.free g,(by rw[aD];exact λz=>nomatch z),F]
 .rw[cH] at l;subst l
  exact(S.nw j _ I).2.1 g
def Rz(w:World)(f:List Nat)(m:Bool)(i:Nat)(g:bw):cN:=λE b=>∃c,b[i]?\(some (.set (cM w) c))/\g (zp f m b) λd=>∃k,d= .int k/\c.length<=300/\E.nx (b.set i (some (.set (cM w) (AA c k))))
def Lb(m:Bool)(i:Nat)(y:DE Z X e te)(f:md.getD i 0=99:=by rfl)(z:X.N[i]?\x:=by rfl)(A:jw X.env.scope x:=by subst_eqs)(g:(x==("__debug__":Str))=false:=by decide)(C:(x==("__classdict__":Str))=false:=by decide)
  (I:attributeBase (.Name x c) "add" X.env (eval (.Name x c) X.env)=eval (.Name x c) X.env:=by rfl)
  (J:((backTo aV (starEach [e] X.env)).all (λx=>!x.1)&&(backToKw aV (keywordEach [] X.env)).all (λx=>x.1.isSome)&&decide (([e]:List Expr).length+([]:List Keyword).length+(if ([]:List Keyword).isEmpty then 0 else 1)<30))=true:=by rfl)
  (L:(apos.endLine==aV.line)=true:=by rfl) (n:starEach [e] X.env=(false,eval e X.env)::starEach [] X.env:=by rfl) (O:(backTo aV (starEach [] X.env)).any (·.1)=false:=by rfl)
  (P:swapsWith (.Call (.Attribute (.Name x c) "add" apos) [e] [] aV) none pos.line X.env=pure false:=by rfl):
  DSt Z X md rn (.Expr (.Call (.Attribute (.Name x c) "add" apos) [e] [] aV) pos) (Rz X.w md m i te):=by
 refine(jD (Pp acw PySem.F.slot_set_add PySem.F.type_set_add Mm (pv i z A g C) (cE y e9 n) I J L n O) P).imp ?_;rintro D σ H ⟨B,ρ,E,⟨G,Q,S⟩,⟨R,p,h⟩,M⟩;obtain⟨v0,j,q⟩:=S.at_ i _ p;rw[f] at q;obtain⟨l,rfl,T,_⟩:=q.Q9;refine#[_,j,#[l,_,_,rfl,T],S.ev m h λd g=>?_];obtain⟨k,rfl,U,Y⟩:=g;refine#[by cases m<;>trivial,λv a H' r x dv=>?_]
 cases dv;obtain⟨v1,s,t⟩:=r.at_ i _ p;rw[j] at s;cases s;rw[f] at t;obtain⟨l',o,LR,u⟩:=t.Q9;cases o;refine#[l,_,R,k,rfl,rfl,LR,rfl,U,M.nx _ Y _ _ #[a,Q,r.mut j (b:=l) (by rw[u];simp) ?_]]
 rw[f,u];exact .inr (.inr #[l,_,rfl,aD,rfl, .inl #[rfl,_,_,rfl,rfl]])
def UC(g:List Nat)(i:Nat)(h:bw):cN:=λE b=>∃c,b[i]?\(some (.lst c))/\h (dW g b) λd=>∃f,d= .lst f/\c.length+f.length<=sizeLine/\E.nx (b.set i (some (.lst (c++f))))
def Hz(i:Nat)(t:DE Z X e te)(g:md.getD i 0=1:=by rfl)(u:X.N[i]?\x:=by rfl)(w:jw X.env.scope x:=by subst_eqs)(f:(x==("__debug__":Str))=false:=by decide)(y:(x==("__classdict__":Str))=false:=by decide)
  (z:attributeBase (.Name x c) "extend" X.env (eval (.Name x c) X.env)=eval (.Name x c) X.env:=by rfl)
  (A:((backTo aV (starEach [e] X.env)).all (λx=>!x.1)&&(backToKw aV (keywordEach [] X.env)).all (λx=>x.1.isSome)&&decide (([e]:List Expr).length+([]:List Keyword).length+(if ([]:List Keyword).isEmpty then 0 else 1)<30))=true:=by rfl)
  (C:(apos.endLine==aV.line)=true:=by rfl) (j:starEach [e] X.env=(false,eval e X.env)::starEach [] X.env:=by rfl) (I:(backTo aV (starEach [] X.env)).any (·.1)=false:=by rfl)
  (J:swapsWith (.Call (.Attribute (.Name x c) "extend" apos) [e] [] aV) none pos.line X.env=pure false:=by rfl):
  DSt Z X md rn (.Expr (.Call (.Attribute (.Name x c) "extend" apos) [e] [] aV) pos) (UC md i te):=by
 refine(jD (yU UF PySem.F.slot_list_extend PySem.F.type_list_extend Gi (pv i u w f y) (cE t e9 j) z A C j I) J).imp ?_;rintro D o H ⟨B,ρ,E,⟨G,L,S⟩,⟨ds,m,h⟩,M⟩;obtain⟨l,xs,_,_,n,O,_⟩:=S.one g m;refine#[_,n,ty_list O,S.ev false h λd f=>#[trivial,λv P H' p x dv=>?_]];obtain⟨zs,rfl,Q,R⟩:=f;obtain⟨l',T,gX,U,q,Y,r,put⟩:=p.one g m;cases U;rw[n] at q;cases q;cases dv with
 | @lst b a _ k s=>
  exact#[l,b,T,a,rfl,rfl,Y,p.ex.sub _ _ k,by rw[r.length,s.length];exact Q,M.nx _ R _ _ #[P,L,put _ _ (r.append s)]]
end
def f7.ok{P:Program}{w:World}{H:Hp}{a:Addr}(x:f7 b a d h):dG P w H h a (.ext (f7 b a d)):=by
 refine#[x,let #[o,_,_,_,c,_]:=x;#[o,c],λg i p k=>?_];obtain⟨o,e,f,t,c,r⟩:=p;exact#[o,e,f,t,k o c,r]
theorem i7.mem:∀{b:List (Int×Addr)}{c:List (Int×Int)},i7 H b c->∀e∈b,∃p∈c,e.1=cT p/\H e.2\(.tup [.int p.1, .int p.2])
 |_,_, .nil,e,a=>nomatch a
 |_,_, .cons (p:=p) h t,e,a=>by
  rcases bu.mp a with rfl|a
  .exact#[p,bF ..,rfl,h]
  .obtain⟨q,d,f⟩:=t.mem e a
   exact#[q,cm _ d,f]
theorem i7.QX:∀{c:List (Int×Addr)}{d:List (Int×Int)},i7 H c d->∀p∈d,∃a,(cT p,a)∈c/\H a\(.tup [.int p.1, .int p.2])
 |_,_, .nil,p,b=>nomatch b
 |_,_, .cons (a:=a) h t,p,b=>by
  rcases bu.mp b with rfl|b
  .exact#[a,bF ..,h]
  .obtain⟨e,f,g⟩:=t.QX p b
   exact#[e,cm _ f,g]
theorem i7.len:∀{a:List (Int×Addr)}{b:List (Int×Int)},i7 H a b->a.length=b.length
 |_,_, .nil=>rfl
 |_,_, .cons _ t=>GM (·+1) t.len
theorem i7.snoc(h:H a\(.tup [.int p.1, .int p.2])):∀{b:List (Int×Addr)}{c:List (Int×Int)},i7 H b c->i7 H (b++ [(cT p,a)]) (c++ [p])
 |_,_, .nil=> .cons h .nil
 |_,_, .cons h' t=> .cons h' (i7.snoc h t)
section
variable {X:Cx} {pins:List (Addr×Obj)} {σ:St} {H:Hp} {s:Shared}
def Inv.vY{p:Int×Int}(I:Inv X pins σ H s)(h:H a\(.tup [.int p.1, .int p.2])):IsTupleKey (intKind X.prog X.w) s.heap [p.1,p.2] a:=by
 rfl';obtain⟨c,r,⟨o,d,e,n,f⟩,_⟩:=I.tuple (eG.of h);obtain⟨i,j,rfl,⟨t,rfl⟩,⟨u,rfl⟩⟩:=Vals.two r;ac_rfl;exact#[o,_,n,d,e,f, .cons (by simp[intKind,Value.isInt]) (.cons (by simp[intKind,Value.isInt]) .nil)]
def Inv.qb(I:Inv X pins σ H s)(h:H a\(.ext (f7 b a c))):f7 b a c s.heap:=(I.hok a _ h).1
def nE(P:Program)(w:World)(p:Int×Int):tupleKeyHash (intKind P w) [p.1,p.2]=cT p:=rfl
def Inv.Wz(I:Inv X pins σ H s)(g:i7 H b f)(h:a.toList.Perm (b.map λe=>(e.1,Value.ref e.2))):Ks X.prog X.w s.heap a:=λi e c=>by
 rfl';have k:e∈a.toList:=by rw[<-gD] at c;exact dY c
 obtain⟨d,l,rfl⟩:=bh.mp (h.mem_iff.mp k);obtain⟨p,_,m,n⟩:=g.mem d l;ac_rfl;exact#[[p.1,p.2],d.2,by rw[nE,m],I.vY n]
def Inv.oX{h:List (Int×Addr)}{j:List (Int×Int)}{b:Array (Int×Value)}(I:Inv X pins σ H s)(k:i7 H h j)(l:b.toList.Perm (h.map λe=>(e.1,Value.ref e.2)))(p:Int×Int):
  (∃(i:Nat)(c:Addr),b[i]?\(tupleKeyHash (intKind X.prog X.w) [p.1,p.2], .ref c)/\IsTupleKey (intKind X.prog X.w) s.heap [p.1,p.2] c)↔p∈j:=by
 constructor
 .rintro⟨i,c,d,f⟩
  have g:(tupleKeyHash (intKind X.prog X.w) [p.1,p.2],Value.ref c)∈b.toList:=by rw[<-gD] at d;exact dY d
  obtain⟨m,r,t⟩:=bh.mp (l.mem_iff.mp g);obtain⟨q,u,x,n⟩:=k.mem m r
  have:m.2=c:=by have:=(aak t).2;injection this
  rw[this] at n
  have:=(I.vY n).inj f
  simp at this
  have:q=p:=aah this.1 this.2
  rw[<-this];exact u
 .intro v
  obtain⟨a,d,f⟩:=k.QX p v;have g:(cT p,Value.ref a)∈b.toList:=l.mem_iff.mpr (bh.mpr #[_,d,rfl]);obtain⟨i,o⟩:=List.mem_iff_getElem?.mp g;rw[gD] at o;exact#[i,a,by rw[nE];exact o,I.vY f]
def JP(d:Gl X "set")(f:X.mg "set"=none):PE X (.Call (.Name "set" p) [] [] a) (λg H Q=>∀q,H q=none->Q (.ref q) (upd H q (.ext (f7 (cM X.w) q [])))):=by
 intro c s g H Q I h;refine aas (lh I d f (u:= .type "set") (by decide+kernel) ?_ ∅ ∅)
 refine abO rfl (abP (sV ?_));have i:=I.hok.fresh (aY _);exact#[.ref s.heap.objs.size,_,I.laid (t':=s.toks) (λb o e=>AC _ e) (aY _) (o:= .ext (f7 (cM X.w) s.heap.objs.size [])) (f7.ok #[_,_,_,_,GE _ rfl,fU.new X.w, .refl _]),rfl,h _ i]
def V4(i:X.A.units+64<cLine)(I:Inv X pins σ H s)(j:H c\(.tup [.int p.1, .int p.2]))(k:H a\(.ext (f7 (cM X.w) a e)))(f:i7 H e b)
  (h:∀d,Q (decide (p∈b)) {s with toks:=d}):wpAny (model X.prog X.w) X.A (contains (.ref a) (.ref c)) Q E s:=by
 rfl';obtain⟨o,m,r,t,n,S,g⟩:=I.qb k;ac_rfl;refine ui i n S (I.Wz f g) (I.vY j) λd=>?_
 have:PySem.oX X.prog X.w s.heap m [p.1,p.2]=decide (p∈b):=by
  classical
  unfold PySem.oX;exact aaC.mpr (I.oX f g p)
 rw[this];exact h d
def Gx(f:X.A.units+64<cLine):OpR X (compareOp .NotIn) (λx y H Q=>∃c a b d p,x= .ref c/\y= .ref a/\H c\(.tup [.int p.1, .int p.2])/\H a\(.ext (f7 (cM X.w) a b))/\i7 H b d/\Q (.bl (!decide (p∈d))) H):=by
 intro e s n H x y v u Q I g i h;rfl';obtain⟨c,a,b,d,p,rfl,rfl,k,l,m,q⟩:=h;ac_rfl;cases g;cases i;exact wpAny_bind (V4 f I k l m λr=>be #[.bl _,H,I.tok _,rfl,q])
def Ml(hu:X.A.units+64<cLine):Iw X "set.add" (λx k H Q=>∃l c d a p,x= .ref l/\k= [.ref c]/\H c\(.tup [.int p.1, .int p.2])/\H l\(.ext (f7 (cM X.w) l d))/\i7 H d a/\a.length<=300/\
  (p∈a->Q .bC H)/\(p∉a->Q .bC (upd H l (.ext (f7 (cM X.w) l (d++ [(cT p,c)])))))):=by
 intro m s σ H x k v us Q I C E h;rfl';obtain⟨l,c,d,a,p,rfl,rfl,J,n,g,hz,L,M⟩:=h;subst C;obtain⟨u,rfl,N⟩:=E.one;subst N;obtain⟨o,O,ep,t,q,S,f⟩:=I.qb n;have P:s.TypeIs (.ref l) "set":=#[o,q,S.ex.1];ac_rfl;refine On F.slot_set_add P F.entry_set_add ?_ (F.args_set_add_2 _ _);unfold Builtin.«set.add» Builtin.Frozenset.oneOther;simp only[abd,bind_assoc];unfold Builtin.Frozenset.addrOf setAdd;refine wpAny_bind (be ?_)
 try dsimp only
 refine wpAny_bind (be ?_)
 try dsimp only
 refine wpAny_bind ?_;refine KF ?_;have r:=I.vY J;refine wpAny_bind (wpAny_pyHash_tuple ?_ r ?_)
 .show X.A.units+1<cLine;lia
 have sz:O.size=a.length:=by
  have:=f.length_eq
  rw[eD,aG,g.len] at this;exact this
 refine CB (s:={s with toks:=s.toks+([p.1,p.2].length+1)}) (by show X.A.units+1<cLine;lia) q S (I.Wz g f) r () (λR=>?_) λT h' y U Y t' Z B S' j=>?_
 .show wpAny _ _ (ret Value.none) _ _ _
  exact be #[_,rfl, .bC,H,I.tok _,rfl,L ((I.oX g f p).mp R)]
 .show wpAny _ _ (ret Value.none) _ _ _
  have Az:p∉a:=λz=>by
   obtain⟨i,c',h1,h2⟩:=(I.oX g f p).mpr z;exact T i _ h1 c' rfl h2
  have I':=I.write (h':=h') (t':=s.toks+([p.1,p.2].length+1)) (x:=l) (e:=l) (o:= .ext (f7 (cM X.w) l (d++ [(cT p,c)]))) (by rw[n];trivial) (.inl rfl) (λb u hb e=>Z.extBut b u hb e) #[y,B] (f7.ok #[y,U,Y,t',B,S',by
   rw[cW];exact j.trans (f.append_right _)])
  exact be #[_,rfl, .bC,_,I',rfl,M Az]
def WY(b:Bool)(r:V->List V->Hp->VK->Prop)(d:TE)(t:TA):TE:=λa H Q=>d a H λx c=>(∃p e,x= .ref p/\c p\(.ext (f7 b p e)))/\t a c λf g=>r x f g Q
variable {o e:Expr} {es:List Expr} {to:TE} {t:TA} {name:Str} {apos aV:Pos} {id:String} {r:V->List V->Hp->VK->Prop}
def Po{b:Bool}(n:PlainAttrs "set")(slot:Slot "set" name id)(q:typeOf (.builtin id)=pure (.type "method_descriptor"))(u:Iw X id r)(w:PE X o to)(y:PA X (e::d) t)
  (z:attributeBase o name X.env (eval o X.env)=eval o X.env:=by rfl)
  (A:((backTo f (starEach (e::d) X.env)).all (λx=>!x.1)&&(backToKw f (keywordEach [] X.env)).all (λx=>x.1.isSome)
   &&decide ((e::d).length+([]:List Keyword).length+(if ([]:List Keyword).isEmpty then 0 else 1)<30))=true:=by rfl)
  (B:(apos.endLine==f.line)=true:=by rfl) (C:starEach (e::d) X.env=(false,eval e X.env)::starEach d X.env:=by rfl) (E:(backTo f (starEach d X.env)).any (·.1)=false:=by rfl):
  PE X (.Call (.Attribute o name apos) (e::d) [] f) (WY b r to t):=by
 intro c s g H Q I h;refine aa2 z A B rfl (thn (w c s g H _ I h) λv F G=>?_);rfl';obtain⟨x,L,j,M,N,O⟩:=G;ac_rfl;rfl';obtain⟨p,gZ,rfl,P⟩:=N;subst M;obtain⟨k,_,_,_,l,S,_⟩:=j.qb P;ac_rfl;refine#["set",id,n,slot,q,#[k,l,S.ex.1],λa R=>?_,?_]
 .cases R;exact#[k,l,S.ex.2.1]
 have m:=y f c F g L _ j O;rw[C] at m ⊢;refine aaF (by show(false|| (backTo f (starEach d X.env)).any (·.1))=false;rw[E]<;>rfl) (abm ?_)
 exact thn m λT U #[Y,Z,I2,r2,q2]=>u c U g Z (.ref p) Y (.ref p) T Q I2 rfl r2 q2
end
def D5(a:List (Int×Int))(p:Int×Int):List (Int×Int):=if p∈a then a else a++ [p]
section
variable {Z:DC} {X:Cx} {B:Bs} {md:List Nat} {rn:Nat} {ρ:DN} {σ:St} {H G:Hp} {fp:Nat->List Addr} {a e k o:Expr} {ta te tk tp:bw} {pos apos aV p2:Pos}
def MP(p:Int×Int):D:= .tup [.int p.1, .int p.2]
def Dv.HU(h:Dv Z G v (MP p)):∃c,v= .ref c/\G c\(.tup [.int p.1, .int p.2]):=by
 rfl';obtain⟨c,l,rfl,b,f⟩:=Dv.pB h;obtain⟨m,n,rfl,g,i⟩:=f.Mr;rw[g.ofInt,i.ofInt] at b;ac_rfl;exact#[c,rfl,b]
def UE(w:World)(c:Bool):gS:=λa b P=>∃p d,a=MP p/\b= .x (.t6 (cM w) d)/\P (.bl (if c=true then !decide (p∈d) else decide (p∈d)))
def Gs(d:X.A.units+64<cLine):OpR X (compareOp .NotIn) (cq Z (UE X.w true)):=by
 refine(Gx d).imp ?_;rintro x y H Q ⟨G,a,b,P,s,f,g,⟨p,i,rfl,rfl,h⟩,q⟩;obtain⟨c,rfl,j⟩:=f.HU;cases g with
 |x l ok=>
  rfl';obtain⟨_,n,rfl,r⟩:=ok;ac_rfl;exact#[c,_,n,i,p,rfl,rfl,s _ _ j,s _ _ l,r.mono s,q _ h _ G H (.refl s) (.bl _)]
def Of(w:World)(i:Nat):cN:=λE b=>E.nx (b.set i (some (.x (.t6 (cM w) []))))
def IW(i:Nat)(n:X.N.Nodup)(q:Gl X "set")(r:X.mg "set"=none)(s:t.getD i 0=98:=by rfl)(u:X.N[i]?\x:=by rfl)(v:Loc X.env.scope x:=by subst_eqs)(y:swapsWith (.Call (.Name "set" p) [] [] A) (some (.Name x d)) m.line X.env=pure false:=by rfl)
  (C:X.fn x=true\/X.env.scope.names.lookup x\.local:=by subst_eqs):DSt Z X t O (.Assign [.Name x d] (.Call (.Name "set" p) [] [] A) m) (Of X.w i):=by
 refine(lB n u v (JP q r) y C).imp ?_;intro D P H F;rfl';obtain⟨B,R,E,⟨G,T,S⟩,h,M⟩:=F;ac_rfl;intro c g;have J:G c=none:=S.ex.sub.free g;have x:Ext G H G (upd H c (.ext (f7 (cM X.w) c []))):=#[.refl _,S.ex.sub.trans (bp g _),bp g _,λ_ _ z=>z];refine M.nx _ h _ _ #[G,_,(S.grow x).v9 s (f:= [c]) (.inr (.inr #[c,_,rfl,aD,rfl, .inr #[rfl,_,rfl,gF,[],rfl, .nil]])) (by simp) (λb l=>?_) λb l j _ L=>?_]
 .rw[cH] at l;subst l
  exact#[S.ex.hh.free g,(by rw[aD];exact λz=>nomatch z),J]
 .rw[cH] at l;subst l
  exact(S.nw j _ L).2.1 g
def Ry(w:World)(f:List Nat)(m:Bool)(i:Nat)(g:bw):cN:=λE b=>∃c,b[i]?\(some (.x (.t6 (cM w) c)))/\g (zp f m b) λd=>∃p,d=MP p/\c.length<=300/\E.nx (b.set i (some (.x (.t6 (cM w) (D5 c p)))))
def La(m:Bool)(i:Nat)(hu:X.A.units+64<cLine)(he:DE Z X e te)(s:md.getD i 0=98:=by rfl)(hi:X.N[i]?\x:=by rfl)(hv:jw X.env.scope x:=by subst_eqs)(t:(x==("__debug__":Str))=false:=by decide)(dU:(x==("__classdict__":Str))=false:=by decide)
  (di:attributeBase (.Name x g) "add" X.env (eval (.Name x g) X.env)=eval (.Name x g) X.env:=by rfl)
  (iG:((backTo aV (starEach [e] X.env)).all (λx=>!x.1)&&(backToKw aV (keywordEach [] X.env)).all (λx=>x.1.isSome)&&decide (([e]:List Expr).length+([]:List Keyword).length+(if ([]:List Keyword).isEmpty then 0 else 1)<30))=true:=by rfl)
  (cj:(apos.endLine==aV.line)=true:=by rfl) (I:starEach [e] X.env=(false,eval e X.env)::starEach [] X.env:=by rfl) (dH:(backTo aV (starEach [] X.env)).any (·.1)=false:=by rfl)
  (lW:swapsWith (.Call (.Attribute (.Name x g) "add" apos) [e] [] aV) none pos.line X.env=pure false:=by rfl):
  DSt Z X md rn (.Expr (.Call (.Attribute (.Name x g) "add" apos) [e] [] aV) pos) (Ry X.w md m i te):=by
 refine(jD (Po (b:=cM X.w) acw PySem.F.slot_set_add PySem.F.type_set_add (Ml hu) (pv i hi hv t dU) (cE he e9 I) di iG cj I dH) lW).imp ?_;intro D σ H aS;rfl';obtain⟨B,J,E,⟨G,L,S⟩,⟨O,n,h⟩,M⟩:=aS;ac_rfl;rfl';obtain⟨v0,y,P⟩:=S.at_ i _ n;rw[s] at P;obtain⟨l,φ,rfl,hl,_,nd,es,rfl,pe⟩:=P.xA;ac_rfl;refine#[_,y,#[l,_,rfl,hl],S.ev m h λd t=>?_];obtain⟨p,rfl,hz,q⟩:=t;refine#[by cases m<;>trivial,λv Q H' C x dv=>?_]
 rfl';obtain⟨c,rfl,R⟩:=dv.HU;obtain⟨v1,T,U⟩:=C.at_ i _ n;rw[y] at T;ac_rfl;cases Da T;rfl';rw[s] at U;obtain⟨l',φ',e',LR,Y,jM,gZ,rfl,k⟩:=U.xA;cases e';ac_rfl;refine#[l,c,gZ,O,p,rfl,rfl,x.sub _ _ R,LR,k.mono x.sub,hz,λr=>?_,λr=>?_]
 .rw[D5,mo r] at q
  refine M.nx _ q _ _ #[Q,L,?_]
  have e:J.set i (some (.x (.t6 (cM X.w) O)))=J:=by
   refine rA λj=>?_
   by_cases z:i=j
   .subst z
    have cS:=(df.mp n).1;rw[fY cS,n]
   .rw[fA z]
  rw[e];exact C
 .rw[D5,ir r] at q
  refine M.nx _ q _ _ #[Q,L,C.mut y (b:=l) (by rw[Y];simp) ?_]
  rw[s,Y];refine .inr (.inr #[l,_,rfl,aD,rfl, .inr #[rfl,_,rfl,?_,_,rfl,k.snoc R]]);rw[cU];refine#[jM,by simp,λa ha b o z=>r ?_]
  rw[cH] at o;rw[<-o,<-z];exact ha
end
section
variable {Z:DC} {X:Cx}
def Oo(h:Dv Z G v (aw r)):∃a,v= .ref a/\G a\(.lst ((Cz r).map V.int)):=by
 obtain⟨a,d,rfl,b,c⟩:=Dv.je h
 have:d=(Cz r).map V.int:=by
  have e:r.map ao=(Cz r).map D.int:=by unfold Cz;rw[cw];rfl
  rw[e] at c;exact kA c
 rw[this] at b;exact#[a,rfl,b]
def PV(h:G a\(.lst ((Cz r).map V.int))):Dv Z G (.ref a) (aw r):=by
 have e:aw r= .lst ((Cz r).map D.int):=by unfold aw Cz;rw[cw];rfl
 rw[e];exact .lst h (.ints _)
theorem Am:∀{b:List V}{L:List (List Nat)},DvAll Z G b (L.map aw)->∃A:List (Addr×List Nat),b=A.map (λe=>V.ref e.1)/\A.map (·.2)=L/\Iu G A
 |b,[],h=>by cases h;exact#[[],rfl,rfl,λp c=>by cases c]
 |b,r::L,h=>by
  cases h with
  |cons a f=>
   obtain⟨A,g,i,j⟩:=Am f;obtain⟨p,rfl,c⟩:=Oo a;refine#[(p,r)::A,by rw[g];rfl,by rw[<-i];rfl,λq d=>?_]
   rcases bu.mp d with rfl|d
   .exact c
   .exact j q d
theorem Iu.dv:∀{L:List (Addr×List Nat)},Iu G L->DvAll Z G (L.map λe=>V.ref e.1) ((L.map (·.2)).map aw)
 | [],_=> .nil
 |x::L,h=> .cons (PV (h x (bF ..))) (Iu.dv λp a=>h p (cm _ a))
end
section
variable {Z:DC} {X:Cx} {md:List Nat} {rn:Nat} {a b:Expr} {pos:Pos} {ta:iY}
def UL(d:List Nat)(i j:Nat)(e:iY):cN:=λE c=>e (dW d c) λf=>∃a b,f= [a,b]/\E.nx ((c.set i (some a)).set j (some b))
def HA(i j:Nat){kt k2 GF}(d:X.calm=true)(e:X.N.Nodup)(f:DA Z X [a,b] ta)(g:X.N[i]?\x:=by rfl)(k:X.N[j]?\y:=by rfl)(l:i≠j:=by decide)(m:md.getD i 0=0:=by rfl)(n:md.getD j 0=0:=by rfl)
  (o:X.env.scope.names.lookup x\.local:=by rfl) (p:X.env.scope.names.lookup y\.local:=by rfl)
  (hw:swappedStores [.Tuple [.Name x c, .Name y py] kt pt] (.Tuple [a,b] k2 GF) X.env=pure (some [x,y]):=by rfl)
  (q:swapsWithSole [.Tuple [.Name x c, .Name y py] kt pt] (.Tuple [a,b] k2 GF) pos.line X.env=pure false:=by rfl):
  DSt Z X md rn (.Assign [.Tuple [.Name x c, .Name y py] kt pt] (.Tuple [a,b] k2 GF) pos) (UL md i j ta):=by
 refine(PH d e g k l o p f hw q).imp ?_;intro D I H r;rfl';obtain⟨B,t,E,⟨G,L,S⟩,h,M⟩:=r;ac_rfl;exists G,dW md t,_,S.ex.sub,S.Dz,h;rintro _ ⟨a,b,rfl,w⟩ O z P x A;obtain⟨v,u,rfl,C,F⟩:=A.Mr;exact#[v,u,rfl,M.nx _ w _ _ #[z,_,((S.grow x).qb m C).qb n F]]
end
section
variable {Z:DC} {X:Cx} {e:Expr} {te:bw} {pos p:Pos}
def Oy(w:World)(c:bw):lR:=λf P=>c f λd=>∃a:List Int,d= .set (cM w) a/\a.length<64/\∀b:List Int,b.Perm a->b.Pairwise (·<=·)->P (b.map D.int)
def IT(f:X.calm=true)(g:Gl X "sorted")(i:X.mg "sorted"=none)(j:DE Z X e te)(c:starEach [e] X.env=(false,eval e X.env)::starEach [] X.env:=by rfl)(k:(backTo pos (starEach [] X.env)).any (·.1)=false:=by rfl):DF Z X 1 (.Call (.Name "sorted" p) [e] [] pos) (Oy X.w te):=by
 refine(qE (zO f) g i i8 (cE j e9 c) ∅ ∅ c k).imp ?_
 intro I H Q l;rfl';obtain⟨G,n,P,s,o,h,q⟩:=l;ac_rfl;exists G,n,_,s,o,h;rintro _ ⟨r,rfl,t,u⟩ v x L b dv;cases dv with
 |set y=>
  refine#[_,r,rfl,b.sub _ _ y,t,λa z d A B=>?_];obtain⟨C,E,F⟩:=kI b d (DvAll.ints (Z:=Z) (H:=x) z);exact q _ (u _ A B) _ _ _ _ (b.side d) C E F
variable {o:Expr} {ta:bw} {m:Str} {f:Addr} {fd:FuncData} {ps:List Str} {sd:bS} {k n:Nat} {apos:Pos}
end
section
variable {Z:DC} {X:Cx} {pins:List (Addr×Obj)} {σ:St} {H:Hp} {s:Shared} {o e:Expr} {ta tb:bw} {apos:Pos}
end
def iu.ok{P:Program}{w:World}{H:Hp}{a:Addr}{vs:List FV}(x:iu a c vs h):dG P w H h a (.ext (iu a c vs)):=by
 refine#[x,let #[_,o,_,_,b,_]:=x;#[o,b],λf g p k=>?_];obtain⟨z,o,d,e,b,r⟩:=p;exact#[z,o,d,e,k o b,r]
inductive oG (H:Hp):List (Int×Addr)->List (Int×Int)->List FV->List (List Int×Addr×Value)->Prop
 |nil:oG H [] [] [] []
 |cons {a:Addr} {p:Int×Int} {v:FV} {u:Value} {es:List (Int×Addr)} {ks:List (Int×Int)} {vs:List FV} {xs:List (List Int×Addr×Value)}:H a\(.tup [.int p.1, .int p.2])->NX v u->oG H es ks vs xs->oG H ((cT p,a)::es) (p::ks) (v::vs) (([p.1,p.2],a,u)::xs)
theorem oG.keys:∀{c:List (Int×Addr)}{a:List (Int×Int)}{d:List FV}{b:List (List Int×Addr×Value)},oG H c a d b->b.map (·.1)=a.map λp=> [p.1,p.2]
 |_,_,_,_, .nil=>rfl
 |_,_,_,_, .cons _ _ t=>by rw[cX,cX,t.keys]
theorem oG.len:∀{c:List (Int×Addr)}{a:List (Int×Int)}{d:List FV}{b:List (List Int×Addr×Value)},oG H c a d b->b.length=a.length
 |_,_,_,_, .nil=>rfl
 |_,_,_,_, .cons _ _ t=>GM (·+1) t.len
theorem oG.snoc(b:H a\(.tup [.int p.1, .int p.2]))(h:NX v u):∀{c:List (Int×Addr)}{d:List (Int×Int)}{e:List FV}{f:List (List Int×Addr×Value)},oG H c d e f->oG H (c++ [(cT p,a)]) (d++ [p]) (e++ [v]) (f++ [([p.1,p.2],a,u)])
 |_,_,_,_, .nil=> .cons b h .nil
 |_,_,_,_, .cons k' g t=> .cons k' g (oG.snoc b h t)
def vO(P:Program)(w:World)(p:Int×Int)(a:Addr)(u:Value):entryOfKey (tupleKind (intKind P w)) ([p.1,p.2],a,u)=#[cT p, .ref a,u]:=by
 unfold entryOfKey;rw[show(tupleKind (intKind P w)).hash [p.1,p.2]=cT p from nE P w p]
def RX(d:Ip l b g):∀{c:List (Int×Int)},i7 H b c->∃f,oG H b c g f/\∀(P:Program)(w:World),l=f.map (entryOfKey (tupleKind (intKind P w))):=by
 induction d with
 |nil=>intro c i;cases i;exact#[[], .nil,λ_ _=>rfl]
 | @cons e l h a v b g j k m d n=>
  intro c i;cases i with
  | @cons _ p _ r h t=>
   obtain⟨f,o,q⟩:=n t;refine#[([p.1,p.2],a,e.val)::f, .cons h m o,λP w=>?_];rw[cX,<-q P w,vO];obtain⟨s,u,ev⟩:=e;simp only at j k ⊢;rw[j,k]
def R3{e:List (Int×Int)}(d:oG H a e b c):Ip (c.map (entryOfKey (tupleKind (intKind P w)))) a b:=by
 induction d with
 |nil=>exact .nil
 |cons _ h t f=>
  rw[cX,vO];exact .cons rfl rfl h f
def oG.isKey(I:Inv X a e H s)(d:oG H f g i c):∀x∈c,IsTupleKey (intKind X.prog X.w) s.heap x.1 x.2.1:=by
 induction d with
 |nil=>intro x b;cases b
 |cons h _ _ j=>
  intro x b
  rcases bu.mp b with rfl|b
  .exact I.vY h
  .exact j x b
def oO{K:Type} [DecidableEq K] {b:List (K×Addr×Value)} {k:K}:(atKey b k).isSome=true↔k∈b.map (·.1):=by
 unfold atKey;rw[Option.isSome_map,List.find?_isSome,bh]
 constructor
 .rintro⟨x,a,e⟩;exact#[x,a,IR e]
 .rintro⟨x,a,e⟩;exact#[x,a,GT e]
def u7{p:Int×Int}{a:List (Int×Int)}: [p.1,p.2]∈a.map (λp=> [p.1,p.2])↔p∈a:=by
 rw[bh]
 constructor
 .rintro⟨q,b,e⟩
  simp at e;rw[<-show q=p from aah e.1 e.2];exact b
 .intro h;exact#[p,h,rfl]
def EA{c:List (Int×Int)}(h:c.Nodup):(c.map λp=> [p.1,p.2]).Nodup:=by
 rw[oh,i4];rw[oh] at h;exact h.imp λ {a b} n e=>n (by simp at e;exact aah e.1 e.2)
section
variable {X:Cx} {pins:List (Addr×Obj)} {σ:St} {H:Hp} {s:Shared}
def Inv.UU(I:Inv X pins σ H s)(h:H a\(.ext (iu a b e)))(f:i7 H b c)(g:c.Nodup):
  (a==sysModules)=false/\∃xs,oG H b c e xs/\s.heap.DictOfH (tupleKind (intKind X.prog X.w)) a xs:=by
 rfl';obtain⟨z,o,j,k,l,m,n,p⟩:=(I.hok a _ h).1;obtain⟨xs,d,q⟩:=RX p f;ac_rfl;exact#[z,xs,d,o,j,k,l,m,n,q _ _,d.isKey I,by rw[d.keys];exact EA g]
def MD:PE X (.Dict [] [] b) (λd H Q=>∀q,H q=none->Q (.ref q) (upd H q (.ext (iu q [] [])))):=by
 intro c s d H Q I h;have e:=I.hok.fresh (aY s.heap.objs.size);refine wpAny_Dict_empty #[.ref s.heap.objs.size,_,I.laid (a:=s.heap.objs.size) (t':=s.toks) (λ_ _ q=>AC _ q) (aY _) (o:= .ext (iu s.heap.objs.size [] [])) (iu.ok #[?_,_, #[],0,GE _ rfl,#[rfl,rfl,rfl],rfl, .nil]),rfl,h _ e];have f:mainGlobals<s.heap.objs.size:=(I.mod.glob.keeps I.bk).lt;have g:sysModules<s.heap.objs.size:=Nat.lt_trans ∅ f
 exact aap.mpr (Ne.symm (bP g))
def Ex(F:X.A.units+64<cLine):OpR X (compareOp .NotIn) (λx y H Q=>∃c a d b g p,x= .ref c/\y= .ref a/\H c\(.tup [.int p.1, .int p.2])/\H a\(.ext (iu a d g))/\i7 H d b/\b.Nodup/\Q (.bl (!decide (p∈b))) H):=by
 intro i s G H x y v u Q I l m h;rfl';obtain⟨c,a,d,b,g,p,rfl,rfl,o,r,t,B,q⟩:=h;ac_rfl;cases l;cases m;rfl';obtain⟨z,C,j,E⟩:=I.UU r t B;ac_rfl
 have:(atKey C [p.1,p.2]).isSome=decide (p∈b):=by
  by_cases e:p∈b
  .rw[GT e];exact oO.mpr (by rw[j.keys];exact u7.mpr e)
  .rw[Gc e]
   apply rB.mpr;exact λz=>e (u7.mp (by rw[<-j.keys];exact oO.mp z))
 exact PyProof.Rows.wpAny_notIn_heap (knd:=tupleKind (intKind X.prog X.w)) (k:= [p.1,p.2]) (by show X.A.units+1<cLine;lia) (I.vY o) z E (by rw[this];exact#[.bl _,H,I.tok _,rfl,q])
def vF:FV->V
 | .int i=> .int i
 | .bl b=> .bl b
def OA(h:RelV (vF f) u):NX f u:=by
 cases f with
 |int i=>exact h
 |bl b=>exact h
variable {o i value:Expr} {td ti tv:TE} {pos pos':Pos}
def TX(j k l:TE):TS:=λD b H=>l b H λv m=>j b m λx n=>k b n λy d=>∃a c f e g p h,x= .ref a/\y= .ref c/\v=vF h/\d a\(.ext (iu a f g))/\d c\(.tup [.int p.1, .int p.2])/\i7 d f e/\e.Nodup/\p∉e/\e.length<=300/\D.nx b (upd d a (.ext (iu a (f++ [(cT p,c)]) (g++ [h]))))
def MQ(hu:X.A.units+64<cLine)(J:PE X o td)(L:PE X i ti)(M:PE X value tv)(N:swapsWith value (some (.Subscript o i pos')) pos.line X.env=pure false:=by rfl):PS X (.Assign [.Subscript o i pos'] value pos) (TX td ti tv):=by
 intro d s f H D I h;refine wpAny_Assign_Subscript (thn (M d s f H _ I h) λr O #[v,P,Q,R,S]=>thn (J d O f P _ Q S) λu T #[x,U,Y,Z,q2]=>thn (L d T f U _ Y q2) λiv s3 #[y,H3,g,ry,a,c,m,ks,n,p,t,e1,e2,e3,B,C,pe,nd,np,hz,q3]=>?_) N;subst e1 e2 e3;cases Z;cases ry;obtain⟨z,j,l,hm⟩:=g.UU B pe nd;refine wpAny_setItem_heap (knd:=tupleKind (intKind X.prog X.w)) (k:= [p.1,p.2]) (by show X.A.units+1<cLine;lia) (g.vY C) hm (λh' E sb=>?_) (small (by rw[l.len];lia))
 have na:atKey j [p.1,p.2]=none:=by
  cases e:atKey j [p.1,p.2] with
  |none=>rfl
  |some q=>exact absurd (u7.mp (by rw[<-l.keys];exact oO.mp (by rw[e];rfl))) np
 rw[storedH_new na] at E;rfl';have x2:oG H3 (m++ [(cT p,c)]) (ks++ [p]) (n++ [t]) (j++ [([p.1,p.2],c,r)]):=l.snoc C (OA R);obtain⟨F,Yz,uK,G,zT,jd,yb,_,_⟩:=E;have I':=g.write (h':=h') (t':=s3.toks+(tupleKind (intKind X.prog X.w)).draws [p.1,p.2]) (x:=a) (e:=a) (o:= .ext (iu a (m++ [(cT p,c)]) (n++ [t]))) (by rw[B];trivial) (.inl rfl) (λb u hb e=>sb.extBut b u hb e) #[F,G] (iu.ok #[z,F,Yz,uK,G,zT,jd,by rw[yb];exact R3 x2])
 ac_rfl;exact#[f,_,I',q3]
end
section
variable {Z:DC} {X:Cx} {B:Bs} {md:List Nat} {rn:Nat} {ρ:DN} {σ:St} {H G:Hp} {fp:Nat->List Addr} {a e k o:Expr} {ta te tk tp:bw} {pos apos aV p2:Pos}
def UD(c:Bool):gS:=λa b P=>∃p d f,a=MP p/\b= .x (.tW d f)/\P (.bl (if c=true then !decide (p∈d) else decide (p∈d)))
def Gr(d:X.A.units+64<cLine):OpR X (compareOp .NotIn) (cq Z (UD true)):=by
 refine(Ex d).imp ?_;rintro x y H Q ⟨G,a,b,P,s,f,g,⟨p,i,j,rfl,rfl,h⟩,q⟩;obtain⟨c,rfl,l⟩:=f.HU;cases g with
 |x m ok=>
  rfl';obtain⟨r,t,rfl,u⟩:=ok;ac_rfl;exact#[c,_,t,i,j,p,rfl,rfl,s _ _ l,s _ _ m,u.mono s,r,q _ h _ G H (.refl s) (.bl _)]
def RC(i:Nat):cN:=λE b=>E.nx (b.set i (some (.x (.tW [] []))))
def Ld(i:Nat)(n:X.N.Nodup)(p:q.getD i 0=98:=by rfl)(r:X.N[i]?\x:=by rfl)(s:Loc X.env.scope x:=by subst_eqs)(t:swapsWith (.Dict [] [] u) (some (.Name x d)) m.line X.env=pure false:=by rfl)
  (v:X.fn x=true\/X.env.scope.names.lookup x\.local:=by subst_eqs):DSt Z X q F (.Assign [.Name x d] (.Dict [] [] u) m) (RC i):=by
 refine(lB n r s MD t v).imp ?_;intro D I H w;rfl';obtain⟨B,L,E,⟨G,O,S⟩,h,M⟩:=w;ac_rfl;intro c g;have A:G c=none:=S.ex.sub.free g;have x:Ext G H G (upd H c (.ext (iu c [] []))):=#[.refl _,S.ex.sub.trans (bp g _),bp g _,λ_ _ z=>z];refine M.nx _ h _ _ #[G,_,(S.grow x).v9 p (f:= [c]) (.inr (.inr #[c,_,rfl,aD,rfl, .inr #[rfl,_,rfl,gF,[],rfl, .nil]])) (by simp) (λb l=>?_) λb l j _ C=>?_]
 .rw[cH] at l;subst l
  exact#[S.ex.hh.free g,(by rw[aD];exact λz=>nomatch z),A]
 .rw[cH] at l;subst l
  exact(S.nw j _ C).2.1 g
def U5:FV->D
 | .int i=> .int i
 | .bl b=> .bl b
def Dv.Wx(h:Dv Z G v (U5 f)):v=vF f:=by
 cases f with
 |int i=>exact h.ofInt
 |bl b=>exact h.Er
def RS(f:List Nat)(i:Nat)(j l:bw):cN:=λE b=>l (dW f b) λd=>∃g c h,d=U5 g/\b[i]?\(some (.x (.tW c h)))/\j (dW f b) λm=>∃p,m=MP p/\p∉c/\c.length<=300/\E.nx (b.set i (some (.x (.tW (c++ [p]) (h++ [g])))))
def Li(i:Nat)(T:X.A.units+64<cLine)(U:DE Z X k tk)(Y:DE Z X e te)(m:md.getD i 0=98:=by rfl)(o:X.N[i]?\x:=by rfl)(hv:jw X.env.scope x:=by subst_eqs)(n:(x==("__debug__":Str))=false:=by decide)(dU:(x==("__classdict__":Str))=false:=by decide)
  (hs:swapsWith e (some (.Subscript (.Name x r) k g)) pos.line X.env=pure false:=by rfl):DSt Z X md rn (.Assign [.Subscript (.Name x r) k g] e pos) (RS md i tk te):=by
 refine(MQ T (pv i o hv n dU) U Y hs).imp ?_;intro D σ H aS;rfl';obtain⟨B,ρ,E,⟨G,fp,S⟩,h,M⟩:=aS;ac_rfl;refine S.ev false h λd n=>#[trivial,λv G1 H1 s x1 dv=>?_];rfl';obtain⟨fv,ks,vs,rfl,t,h2⟩:=n;ac_rfl;obtain rfl:=dv.Wx;rfl';obtain⟨v0,q,w⟩:=s.at_ i _ t;rw[m] at w;obtain⟨l,φ,rfl,hl,_,nd,es,rfl,pe⟩:=w.xA;ac_rfl;refine#[_,q,s.ev false h2 λkd Su=>#[trivial,λu G2 H2 y C du=>?_]];rfl';obtain⟨p,rfl,F,hz,hn⟩:=Su;obtain⟨c,rfl,I⟩:=du.HU;obtain⟨v1,J,L⟩:=y.at_ i _ t;rw[q] at J;ac_rfl;cases Da J;rfl';rw[m] at L;obtain⟨l',φ',e',LR,O,P,gZ,rfl,Q⟩:=L.xA;cases e';ac_rfl;refine#[l,c,gZ,ks,vs,p,fv,rfl,rfl,rfl,LR,C.sub _ _ I,Q.mono C.sub,P,F,hz,M.nx _ hn _ _ #[G2,fp,y.mut q (b:=l) (by rw[O];simp) ?_]]
 rw[m,O];refine .inr (.inr #[l,_,rfl,aD,rfl, .inr #[rfl,_,rfl,?_,_,rfl,Q.snoc I]]);rw[cU];refine#[P,by simp,λa ha b R z=>F ?_]
 rw[cH] at R;rw[<-R,<-z];exact ha
end
section
variable {pr:Program} {wd:World} {A:Around} {R:Result->Shared->Prop} {CP:Addr} {g5 vq:List Addr} {n:Nat} {Pv:Nat->Value->Prop} {Sv:Nat->Heap->Prop}
def E5(b:Program)(c:World)(A:Around)(T:Heap->Prop)(a:Nat->Value->Prop)(d:Nat->Nat->Bool):Prop:=
 ∀i j u v (s:Shared) (Q:Value->Shared->Prop) (E:Value->Shared->Prop),T s.heap->a i u->a j v->Q (.bool (d i j)) s->wpAny (model b c) A (richCompare .Lt u v) Q E s
theorem Gh(p:Walks pr wd A.in1 CP g5 vq n Pv Sv)(k:Nat->Nat->Bool)(T:Heap->Prop)(r:E5 pr wd A.in1 T Pv k)(L:Addr)(G:L∉g5)
  (H:∀h l:Heap,T h->(∀b o,b∉vq->b≠L->h.get? b\o->l.get? b\o)->T l):
  ∀(d j:Nat)(s:Shared)(a:Value)(c:Nat),n-(j+1)=d->j+1<=n->Sv (j+1) s.heap->T s.heap->Pv (argBest k j) a->
  s.heap.get? L\{cls:= .type "list",dict:=none,data:= .seq [a,a].toArray c,slots:= #[]}->
  (∀v l t,Pv (argBest k (n-1)) v->(∀b o,b∉vq->b≠L->s.heap.get? b\o->l.get? b\o)->R (.ok (.ret v)) {s with heap:=l,toks:=t})->
  codeAny (model pr wd) A (.builtin "min.loop" #[[.ref CP, .none, .ref L],[]]) R s:=by
 have I:L∉vq:=λh=>G (p.sub _ h);have J:(toString "min"++toString ".loop":String)="min.loop":=∅
 intro d
 induction d with
 |zero=>
  intro j s a c X Y u M q m fin;have N:j+1=n:=()
  refine aai aa6 ?_;rw[UV W1 _];refine wpAny_bind (aaT m rfl ?_);refine wpAny_bind (aaU (p.done s _ _ (N▸u) λO P i=>?_));refine wpAny_bind ?_;refine aaK (i L _ I m) rfl (wpAny_bind (acx (be ?_)));exact fin a _ P (by rw[<-N];exact q) λb o f g e=>(KM _ _ (Ne.symm g)).trans (i b o f e)
 |succ d Q=>
  intro j s a c X Y u M q m fin;have lt:j+1<n:=()
  refine aai aa6 ?_;rw[UV W1 _];refine wpAny_bind (aaT m rfl ?_);refine wpAny_bind (aaU (p.item (j+1) s _ _ lt u λv O P pv S i=>?_));have w:=i L _ I m;have x:T O:=H _ _ M λb o f _ e=>i b o f e;show wpAny _ A.in1 ((tryCatch (holding [v,v] (richCompare .Lt v a>>=_)) _)>>=_) _ _ _;refine wpAny_bind (aaU (KF (wpAny_bind (r (j+1) (argBest k j) v a _ _ _ x pv q ?_))));refine wpAny_bind (KF (P3 ?_));refine wpAny_bind (acx (be ?_));cases U:k (j+1) (argBest k j) with
  |true=>
   simp only[aal];refine wpAny_bind ?_;refine aaK w rfl (wpAny_bind (acx ?_));rw[J];refine be #[aao W1 _,Q (j+1) _ v _ () lt (p.frame _ _ _ S λb Z o e=>?_) (H _ _ x λb o _ g e=>?_) ?_ (SL _ w rfl) λy B C E F=>?_]
   .exact(KM _ _ (λz:L=b=>G (z▸Z))).trans e
   .exact(KM _ _ (Ne.symm g)).trans e
   .simp only[argBest,U,aal];exact pv
   .exact fin y B C E λb o f g e=>F b o f g ((KM _ _ (Ne.symm g)).trans (i b o f e))
  |false=>
   simp only[gQ,SC];refine wpAny_bind (acx ?_);rw[J];refine be #[aao W1 _,Q (j+1) _ a c () lt S x ?_ w λy B C E F=>?_]
   .simp only[argBest,U,gQ,SC];exact q
   .exact fin y B C E λb o f g e=>F b o f g (i b o f e)
def Gg(d:Walks pr wd A.in1 CP g5 vq n Pv Sv)(i:Nat->Nat->Bool)(T:Heap->Prop)(j:E5 pr wd A.in1 T Pv i)(L:Addr)(k:L∉g5)
  (l:∀h a:Heap,T h->(∀b o,b∉vq->b≠L->h.get? b\o->a.get? b\o)->T a) (p:0<n) (u:Sv 0 s.heap) (w:T s.heap)
  (q:s.heap.get? L\{cls:= .type "list",dict:=none,data:= .seq #[] c,slots:= #[]})
  (fin:∀v a t,Pv (argBest i (n-1)) v->(∀b o,b∉vq->b≠L->s.heap.get? b\o->a.get? b\o)->R (.ok (.ret v)) {s with heap:=a,toks:=t}):
  codeAny (model pr wd) A (.builtin "min.loop" #[[.ref CP, .none, .ref L],[]]) R s:=by
 have x:L∉vq:=λh=>k (d.sub _ h);have y:(toString "min"++toString ".loop":String)="min.loop":=∅
 refine aai aa6 ?_;rw[UV W1 _];refine wpAny_bind (aaT q rfl ?_);refine wpAny_bind (aaU (d.item 0 s _ _ p u λv B N pv C m=>?_));have r:=m L _ x q;have E:T B:=l _ _ w λb o f _ e=>m b o f e;show wpAny _ A.in1 (updateSeq L (λ_=> [v,v].toArray)>>=_) _ _ _;refine wpAny_bind ?_;refine aaK r rfl ?_;rw[y];refine be #[aao W1 _,Gh d i T j L k l _ 0 _ v _ rfl p (d.frame _ _ _ C λb F o e=>?_) (l _ _ E λb o _ g e=>?_) pv (SL _ r rfl) λG H I J M=>?_]
 .exact(KM _ _ (λz:L=b=>k (z▸F))).trans e
 .exact(KM _ _ (Ne.symm g)).trans e
 .exact fin G H I J λb o f g e=>M b o f g ((KM _ _ (Ne.symm g)).trans (m b o f e))
end
section
variable {pr:Program} {wd:World} {A:Around} {E:Value->Shared->Prop} {s:Shared}
def JC(T:Heap->Prop)
  (h:wpAny (model pr wd) A.in1 (pyIter x) (λp a=>∃j d f n g k i,p= .ref j/\Walks pr wd A.in1 j d f n g k/\k 0 a.heap/\(∀b∈d,b<a.heap.objs.size)/\0<n/\E5 pr wd A.in1 T g i/\T a.heap/\
   (∀h c:Heap,T h->(∀b o,b∉f->b≠a.heap.objs.size->h.get? b\o->c.get? b\o)->T c)/\
   ∀v c l,g (argBest i (n-1)) v->(∀b o,b∉f->a.heap.get? b\o->c.get? b\o)->Q v {a with heap:=c,toks:=l}) E s):
  wpAny (model pr wd) A (call (.builtin "min") [x]) Q E s:=by
 have t:(toString "min"++toString ".loop":String)="min.loop":=∅
 refine call_function_tree PySem.F.kind_min PySem.F.plain_min PySem.F.entry_min (PySem.F.args_min1 _) ?_;show wpAny _ A.in1 (Builtin.Builtins.bindParams "min" ["key","default"] 0 #[[],[]]>>=_) _ _ s;refine wpAny_bind (aaI (rfl:Builtin.Builtins.bindParams "min" ["key","default"] 0 #[[],[]]=pure [none,none]) ?_);refine wpAny_bind (be ?_);refine wpAny_bind (wpAny_mono h (λp a u=>?_) λ_ _ e=>e);rfl';obtain⟨j,d,f,n,g,k,i,rfl,q,y,z,B,m,C,r,G⟩:=u;ac_rfl;refine wpAny_bind (M2 ?_);have H:a.heap.objs.size∉d:=λI=>lQ _ (z _ I);rw[t];refine be #[aao W1 _,Gg q i T m a.heap.objs.size H r B (q.frame _ _ _ y λb _ o e=>AC _ e) (r _ _ C λb o _ _ e=>AC _ e) (GE _ rfl) λv c l J L=>?_];exact G v c l J λb o M e=>L b o M (bP (Fk e)) (AC _ e)
end
theorem vH(a:Nat->Nat->Bool):∀k,argBest a k<=k
 |0=>aY _
 |k+1=>by
  unfold argBest
  split
  .exact aY _
  .exact Nat.le_succ_of_le (vH a k)
theorem sU{f:Nat->List Int}:∀k i,i<=k->HT.lexLt (f i) (f (argBest (λi j=>HT.lexLt (f i) (f j)) k))=false
 |0,i,h=>by
  obtain rfl:i=0:=()
  exact yt _
 |k+1,i,h=>by
  have a:=sU (f:=f) k;unfold argBest
  by_cases c:HT.lexLt (f (k+1)) (f (argBest (λi j=>HT.lexLt (f i) (f j)) k))=true
  .rw[mo c]
   by_cases z:i=k+1
   .subst z;exact yt _
   .have:=a i ()
    cases e:HT.lexLt (f i) (f (k+1)) with
    |false=>rfl
    |true=>rw[HK _ _ _ e c] at this;cases this
  .rw[ir c]
   by_cases z:i=k+1
   .subst z;exact rB.mpr c
   .exact a i ()
section
variable {X:Cx} {Z:DC}
def Fi(P:X.calm=true)(hu:X.A.units+64<cLine):cB X (.builtin "min") (λG H Q=>∃(p:Addr)(L:List (Addr×List Int)),G= [.ref p]/\H p\(.lst (L.map λe=>V.ref e.1))/\(∀e∈L,H e.1\(.tup (e.2.map V.int)))/\L≠ []/\
  ∀e∈L,(∀f∈L,HT.lexLt f.2 e.2=false)->Q (.ref e.1) H):=by
 intro J s σ H G us Q I R h;rfl';obtain⟨p,L,rfl,T,M,U,q⟩:=h;obtain⟨u,rfl,Y⟩:=R.one;subst Y;obtain⟨a,r,m,hz⟩:=I.list (cG.of T);have Z:=r.length;rw[aG] at Z;have LX:0<L.length:=zG.mpr U;ac_rfl
 have y:∀i:Nat,(d:i<L.length)->a[i]?\(.ref L[i].1):=λi d=>by
  obtain⟨w,hw,vg⟩:=r.get (i:=i) (x:= .ref L[i].1) (by rw[bW,cv d];rfl)
  subst vg;exact hw
 refine JC (λh=>∀b o,s.heap.get? b\o->h.get? b\o) (wpAny_pyIter_list m.isList ?_)
 have rR:p≠s.heap.objs.size:=by
  obtain⟨o,z,_⟩:=m.isList;exact bP (Fk z)
 let f:Nat->List Int:=λi=>(L.getD i (0,[])).2
 refine#[_,_,_,a.toArray.size,_,_,λi j=>HT.lexLt (f i) (f j),rfl,Walks.list (show X.A.in1.handled=none from I.ok.hd P) s.heap.objs.size p rR a.toArray,#[#[_,GE _ rfl,rfl,rfl],m.isList.push _],?_,?_,?_,λb o e=>AC _ e,?_,?_]
 .intro b B
  have:b=s.heap.objs.size\/b=p:=by simpa using B
  obtain⟨o,z,_⟩:=m.isList;have lt:=Fk z;have e:(s.heap.push {cls:= .type "list_iterator",data:= .fields [.ref p, .int 0 0].toArray}).objs.size=s.heap.objs.size+1:=by simp[Heap.push]
  rcases this with rfl|rfl
  .exact CL (vx _) e.symm
  .exact CL (qs lt) e.symm
 .rw[cQ];lia
 .intro i j u v s' Q' E' n FY jJ hq
  have C:a[i]?\u:=by simpa using FY
  have g:a[j]?\v:=by simpa using jJ
  have d:i<L.length:=by have:=(df.mp C).1;lia
  have E:j<L.length:=by have:=(df.mp g).1;lia
  rw[y i d] at C;rw[y j E] at g;obtain rfl:=Da C;obtain rfl:=Da g;rfl';obtain⟨t1,r1,p1,_⟩:=I.tuple (eG.of (M L[i] (lO d)));obtain⟨t2,r2,p2,_⟩:=I.tuple (eG.of (M L[j] (lO E)));obtain⟨o1,g1,c1⟩:=p1;obtain⟨o2,g2,c2⟩:=p2;have i1:IntsAre t1.toArray.toList L[i].2:=intsAre_of r1;have i2:IntsAre t2.toArray.toList L[j].2:=intsAre_of r2;ac_rfl
  have l:∀k,(c:k<L.length)->f k=L[k].2:=λk c=>by
   show(L.getD k (0,[])).2=_;rw[bK,cv c];rfl
  have BL:Q' (.bool (HT.lexLt L[i].2 L[j].2)) s':=by rw[<-l i d,<-l j E];exact hq
  exact HT.Eh (A:=X.A.in1) #[o1,n _ _ g1,c1] #[o2,n _ _ g2,c2] i1 i2 (by simp only[ab9];lia) BL
 .intro h N n c b o e
  have lt:=Fk e;refine c b o ?_ ?_ (n b o e)
  .intro hm
   have:b=s.heap.objs.size:=by simpa using hm
   exact bP lt this
  .simp only[Heap.push,Array.size_push]
   exact bP (qs lt)
 .intro v N tk O kk
  have kept:∀b o,s.heap.get? b\o->N.get? b\o:=λb o e=>kk b o (by simp;exact bP (Fk e)) (AC _ e)
  have c:=vH (λi j=>HT.lexLt (f i) (f j)) (a.toArray.size-1);generalize B:argBest (λi j=>HT.lexLt (f i) (f j)) (a.toArray.size-1)=k at O c;rw[cQ] at c;have F:k<L.length:=()
  have g:a[k]?\v:=by simpa using O
  rw[y k F] at g;obtain rfl:=Da g;refine#[.ref L[k].1,H,I.kept kept,rfl,q L[k] (lO F) λe he=>?_];obtain⟨i,d,rfl⟩:=zF.mp he
  have:=sU (f:=f) (a.toArray.size-1) i (by rw[cQ];lia)
  rw[B] at this
  have l:∀k,(c:k<L.length)->f k=L[k].2:=λk c=>by
   show(L.getD k (0,[])).2=_;rw[bK,cv c];rfl
  rw[l i d,l k F] at this;exact this
def tupI(l:List Int):D:= .tup (l.map D.int)
def Rp:bS:=λb P=>∃a:List (List Int),b= [.lst (a.map tupI)]/\a≠ []/\∀m∈a,(∀n∈a,HT.lexLt n m=false)->P (tupI m)
theorem Ao:∀{b:List V}{d:List (List Int)},DvAll Z G b (d.map tupI)->∃L:List (Addr×List Int),b=L.map (λe=>V.ref e.1)/\L.map (·.2)=d/\∀e∈L,G e.1\(.tup (e.2.map V.int))
 |b,[],h=>by rw[h.Mp];exact#[[],rfl,rfl,λp c=>by cases c]
 |b,n::d,h=>by
  rfl';obtain⟨v,m,rfl,a,i⟩:=h.B6;obtain⟨L,rfl,j,k⟩:=Ao i;obtain⟨p,o,rfl,c,e⟩:=a.pB;rw[kA e] at c;ac_rfl;refine#[(p,n)::L,rfl,by rw[<-j];rfl,λq f=>?_]
  rcases bu.mp f with rfl|f
  .exact c
  .exact k q f
def KN(f:X.calm=true)(g:X.A.units+64<cLine):cB X (.builtin "min") (g6 Z Rp):=by
 refine(Fi f g).imp ?_;intro t H Q i;rfl';obtain⟨G,u,P,s,dv,⟨w,rfl,k,l⟩,q⟩:=i;ac_rfl;rfl';obtain⟨v,rfl,a⟩:=dv.ofOne;obtain⟨p,B,rfl,h,e⟩:=a.je;obtain⟨L,rfl,rfl,d⟩:=Ao e;ac_rfl;refine#[p,L,rfl,s _ _ h,λx b=>s _ _ (d x b),λz=>k (by rw[z];rfl),λx b m=>?_]
 exact q _ (l x.2 (List.mem_map_of_mem b) λn o=>by
  obtain⟨y,r,rfl⟩:=bh.mp o;exact m y r) _ G H (.refl s) (.tup (d x b) (.ints _))
end
end L2
namespace Wy
section
variable {α β:Type}
end
def getD_mem{l:List Nat}{i:Nat}(h:i<l.length):l.getD i 0∈l:=by
 rw[bK,cv h];exact lO h
end Wy
namespace L2
open PySem PySem.Spec PyProof.Rows
section
variable {Z:DC} {X:Cx} {B:Bs} {md:List Nat} {rn:Nat} {ρ:DN} {σ:St} {H G:Hp} {fp:Nat->List Addr} {k:Expr} {tk:bw} {pos:Pos}
def RF(c:List Nat)(i j:Nat)(e:bw):cN:=λE a=>∃b,a[j]?\(some (.lst b))/\e (zp c false a) λf=>∃(n:Int)(d:D),f= .int n/\fc b n\d/\E.nx (a.set i (some d))
def Lf(i j:Nat)(s:X.N.Nodup)(t:DE Z X k w)(z:b.getD i 0=0:=by rfl)(m:b.getD j 0=1:=by rfl)(A:X.N[i]?\x:=by rfl)(C:Loc X.env.scope x:=by subst_eqs)
  (F:X.N[j]?\y:=by rfl) (I:jw X.env.scope y:=by subst_eqs) (J:(y==("__debug__":Str))=false:=by decide) (L:(y==("__classdict__":Str))=false:=by decide)
  (O:sS k:=by exact λ_ _=>rfl) (P:swapsWith (.Subscript (.Name y py) k g) (some (.Name x f)) c.line X.env=pure false:=by rfl)
  (Q:X.fn x=true\/X.env.scope.names.lookup x\.local:=by subst_eqs):DSt Z X b rn (.Assign [.Name x f] (.Subscript (.Name y py) k g) c) (RF b i j w):=by
 refine(lB s A C (GA yq (pv j F I J L) t O) P Q).imp ?_;intro D σ H R;rfl';obtain⟨B,ρ,E,⟨G,fp,S⟩,⟨ds,o,h⟩,M⟩:=R;ac_rfl;rfl';obtain⟨l,xs,gX,T,p,e3,bE,put⟩:=S.one m o;cases T;ac_rfl;refine#[_,p,S.ev false h λkd U=>#[trivial,λv Y H' q x dv=>?_]];rfl';obtain⟨n,d,rfl,ha,hn⟩:=U;cases dv.ofInt;obtain⟨l',i3,ds2,RY,r,Bx,UX,_⟩:=q.one m o;cases RY;ac_rfl;rw[p] at r;rfl';cases r;obtain⟨u,hu,xS⟩:=wO UX ha;ac_rfl;exact#[l,i3,n,u,rfl,rfl,cG.of Bx,hu,M.nx _ hn _ _ #[Y,_,q.qb z xS]]
end
section
variable {Z:DC} {X:Cx} {B:Bs} {md:List Nat} {rn:Nat} {ρ:DN} {σ:St} {H G:Hp} {fp:Nat->List Addr} {k c e k1 k2 et:Expr} {tk te tt Ha Xd:bw} {tc:dP} {pos:Pos}
variable {elt tg iter:Expr} {ifs:List Expr} {scope:Scope} {NC:List Str} {src:List (Option Nat)} {T3:dP} {wi:jH} {g:eQ}
def RE(f:List Nat)(j:Nat)(h:bw)(g:eQ)(i:cN):cN:=λE a=>∃b,a[j]?\(some (.lst b))/\h (zp f true a) λl=>∃(n:Int)(d:List D),l= .int n/\fc b n\(.lst d)/\iE g i E d a
def Le(j:Nat)(s:X.calm=true)(t:PassesOwn (model X.prog X.w) X.A X.env X.xe)(z:DE Z X k tk)(C:CN Z X md tg g)(F:uD Z X md rn d m)(I:md.getD j 0=0:=by rfl)
  (J:X.N[j]?\y:=by rfl) (L:jw X.env.scope y:=by subst_eqs) (O:(y==("__debug__":Str))=false:=by decide) (P:(y==("__classdict__":Str))=false:=by decide)
  (Q:sS k:=by exact λ_ _=>rfl) (R:∀x,foldedSetIterable (.Subscript (.Name y py) k l) X.env x=pure x:=by intro _;rfl):DSt Z X md rn (.For tg (.Subscript (.Name y py) k l) d [] pos) (RE md j tk g m):=by
 refine(tZ t s (EB (GA yq (pv j J L O P) z Q)) C F R).imp ?_;intro Dn σ H T;rfl';obtain⟨B,ρ,E,⟨G,fp,S⟩,⟨oq,U,h⟩,M⟩:=T;ac_rfl;rfl';obtain⟨v0,Y,o⟩:=S.at_ j _ U;rw[I] at o;obtain⟨c,_⟩:=o;obtain⟨a,e,rfl,ha,ZL⟩:=c.je;ac_rfl;refine#[_,Y,S.ev true h ?_];rintro _ ⟨n,ds,rfl,LD,hf⟩;refine#[rfl,λv G1 H1 i q Bw=>?_];rfl';cases Bw.ofInt;obtain⟨u,hu,du⟩:=wO (ZL.mono q.gg) LD;obtain⟨b,ys,rfl,r,ZO⟩:=du.je;ac_rfl;exact#[a,e,n, .ref b,rfl,rfl,cG.of (i.ex.sub _ _ (q.gg _ _ ha)),hu,b,rfl,#[_,cG.of (i.ex.sub _ _ r)],uM i (Ea r ZO) hf M]
def Ox(f:bw):lR:=λh P=>f h λd=>∃a:List Int,d= .lst (a.map D.int)/\a.length<64/\∀b:List Int,b.Perm a->b.Pairwise (·<=·)->P (b.map D.int)
def IS(i:Gl X "sorted")(j:X.mg "sorted"=none)(l:DE Z X e te)(d:starEach [e] X.env=(false,eval e X.env)::starEach [] X.env:=by rfl)(m:(backTo pos (starEach [] X.env)).any (·.1)=false:=by rfl):DF Z X 1 (.Call (.Name "sorted" p) [e] [] pos) (Ox te):=by
 refine(qE qO i j i8 (cE l e9 d) ∅ ∅ d m).imp ?_
 intro M H Q n;rfl';obtain⟨G,r,P,s,t,h,q⟩:=n;ac_rfl;exists G,r,_,s,t,h;rintro _ ⟨u,rfl,w,x⟩ v y O b dv;cases dv with
 |lst z A=>
  refine#[_,u,rfl,cG.of (kA A▸b.sub _ _ z),w,λa C f E F=>?_];obtain⟨I,J,L⟩:=kI b f (DvAll.ints (Z:=Z) (H:=y) C);exact q _ (x _ E F) _ _ _ _ (b.side f) I J L
end
end L2
namespace Wb
def fC(w:W)(d:Nat×Nat)(r:List (Nat×Nat)):Prop:=∃k,0<k/\bo w k d=d/\(∀j,0<j->j<k->bo w j d≠d)/\r=walk w d k
def cL:e∈walk w d k↔∃i,i<k/\e=bo w i d:=by
 unfold walk;rw[bh]
 constructor
 .rintro⟨i,a,rfl⟩;exact#[i,b9.mp a,rfl]
 .rintro⟨i,a,rfl⟩;exact#[i,b9.mpr a,rfl]
def fC.first(h:fC w d r):d∈r:=by
 obtain⟨k,a,_,_,rfl⟩:=h;exact cL.mpr #[0,a,rfl]
def fC.next(h:fC w d r)(a:e∈r):fk w e∈r:=by
 obtain⟨k,b,f,_,rfl⟩:=h;obtain⟨i,g,rfl⟩:=cL.mp a
 by_cases c:i+1<k
 .exact cL.mpr #[i+1,c,rfl]
 .have:i+1=k:=()
  refine cL.mpr #[0,b,?_];show bo w (i+1) d=d;rw[this];exact f
theorem fC.iter(h:fC w d r)(a:e∈r):∀n,bo w n e∈r
 |0=>a
 |n+1=>h.next (h.iter a n)
def fC.back(h:fC w d r)(a:e∈r):∃n,bo w n e=d:=by
 obtain⟨k,c,b,_,rfl⟩:=h;obtain⟨i,f,rfl⟩:=cL.mp a;exists k-i;rw[<-fi i (k-i),show k-i+i=k by lia]
 exact b
def fC.nodup{w:W}(g:Good w)(h:fC w d r)(a:aL w d):r.Nodup:=by
 obtain⟨k,c,e,b,rfl⟩:=h;exact qh g a b
def fC.bf(g:Good w)(h:fC w d r)(a:aL w d):∀e∈r,aL w e:=by
 obtain⟨k,b,c,f,rfl⟩:=h;exact nQ g a
structure jV (w:W) (rs:List (List (Nat×Nat))):Prop where
 rnd:∀r∈rs,∃d,fC w d r/\aL w d/\∀e∈r,lexLe d e
 perm:rs.flatten.Perm (bf w)
def K1(g:Good w)(h:aL w d):d.1≠d.2:=λe=>g.irr d.1 (by have:d.2∈row w d.1:=h;rw[<-e] at this;exact this)
def xE{w:W}(g:Good w){f:List (Nat×Nat)}(l:f.Perm (j7 (row w) w.length)):(f++f.map λt=>(t.2,t.1)).Perm (bf w):=by
 have e:=qg w;have n:=bX g
 have m:∀t,t∈f↔aL w t/\t.1<t.2:=λt=>by
  rw[l.mem_iff,e,gE,aR,aaG]
 have i:f.Nodup:=l.nodup_iff.mpr (by rw[e];exact n.filter _)
 refine(ur ?_ n).mpr λd=>?_
 .rw[cU]
  refine#[i,?_,λa o b p z=>?_]
  .rw[oh,i4]
   rw[oh] at i;exact i.imp λ {a b} h z=>h (aah (aak z).2 (aak z).1)
  .obtain⟨c,j,rfl⟩:=bh.mp p
   have k:=((m a).mp o).2;have q:=((m c).mp j).2;rw[z] at k;have k:c.2<c.1:=k;lia
 .rw[bT,bh,aR]
  constructor
  .rintro(h| ⟨c,j,rfl⟩)
   .exact((m d).mp h).1
   .exact g.sym _ _ ((m c).mp j).1
  .intro h
   rcases Nat.lt_or_gt_of_ne (K1 g h) with c|c
   .exact .inl ((m d).mpr #[h,c])
   .exact .inr #[(d.2,d.1),(m _).mpr #[g.sym _ _ h,c],rfl]
def fC.uniq(h:fC w d r)(b:fC w d a):r=a:=by
 obtain⟨k,e,f,g,rfl⟩:=h;obtain⟨m,i,j,l,rfl⟩:=b
 rcases abU k m with c|c|c
 .exact absurd f (l k e c)
 .rw[c]
 .exact absurd j (g m i c)
def jV.sub(R:jV w c)(f:jV w a):∀r∈c,r∈a:=λr j=>by
 obtain⟨d,b,k,l⟩:=R.rnd r j;have m:d∈a.flatten:=f.perm.mem_iff.mpr (aR.mpr k);obtain⟨o,g,h⟩:=jT.mp m;obtain⟨p,i,u,q⟩:=f.rnd o g;obtain⟨n,s⟩:=i.back h;have t:lexLe d p:=by rw[<-s];exact l _ (b.iter b.first n)
 have e:=Jv t (q d h);subst e;rw[b.uniq i];exact g
def jV.ne{w:W}{a:List (List (Nat×Nat))}(R:jV w a):∀r∈a,r≠ []:=λr b z=>by
 obtain⟨d,c,_⟩:=R.rnd r b
 have:=c.first
 rw[z] at this;cases this
theorem vP:∀{l:List (List c)},l.flatten.Nodup->(∀r∈l,r≠ [])->l.Nodup
 | [],_,_=>gF
 |a::l,h,b=>by
  rw[jG,cU] at h;refine cI.mpr #[λd=>?_,vP h.2.1 λr e=>b r (cm _ e)];cases a with
  |nil=>exact b [] (bF ..) rfl
  |cons x a=>exact h.2.2 x (bF ..) x (jT.mpr #[_,d,bF ..]) rfl
def jV.nodup{w:W}(g:Good w)(R:jV w a):a.Nodup:=vP (R.perm.nodup_iff.mpr (bX g)) R.ne
abbrev Lu(a:List (List (Nat×Nat))):List (List Nat):=a.map λr=>r.map (·.1)
open Classical in
theorem Na{w:W}{d:Nat×Nat}{r:List (Nat×Nat)}(h:fC w d r){i:Nat}(hi:i<r.length):r.getD ((i+1)%r.length) (0,0)=fk w (r.getD i (0,0)):=by
 obtain⟨k,k0,k1,k2,rfl⟩:=h;rw[dO] at hi ⊢
 have at_:∀j,j<k->(walk w d k).getD j (0,0)=bo w j d:=λj hj=>by
  unfold walk;rw[bK,bW,qp hj];rfl
 rw[at_ i hi]
 by_cases c:i+1<k
 .rw[ik c,at_ _ c];rfl
 .have e:i+1=k:=()
  rw[e,sR,at_ 0 k0];show d=bo w (i+1) d;rw[e,k1]
def mF(r:List (Nat×Nat))(i:Nat):(r.map (·.1)).getD i 0=(r.getD i (0,0)).1:=by
 rw[bK,bK,bW];cases r[i]? <;>rfl
def eY{a b:List Nat}{x y:Nat}(c:(a++x::y::b).Nodup):aO (a++x::y::b) x=y:=by
 have d:x∉a:=λh=>by
  have:=(cU.mp c).2.2 x h x (bF ..)
  exact this rfl
 have e:(a++x::y::b).idxOf x=a.length:=by
  rw[List.idxOf_append,ir d,List.idxOf_cons_self];simp
 unfold aO;rw[e,ik (by simp),bK,kU ()]
 simp
def h7{b:List Nat}{x y:Nat}(a:(y::(b++ [x])).Nodup):aO (y::(b++ [x])) x=y:=by
 have c:x∉y::b:=λh=>by
  have d:(y::b++ [x]).Nodup:=a;exact(cU.mp d).2.2 x h x (by simp) rfl
 have e:(y::(b++ [x])).idxOf x=b.length+1:=by
  show(y::b++ [x]).idxOf x=_;rw[List.idxOf_append,ir c];simp
 unfold aO;rw[e]
 have:(b.length+1+1)%(y::(b++ [x])).length=0:=by simp
 rw[this];rfl
def nN{a b:List Nat}{x:Nat}(f:(a++b).Nodup)(h:x∈a++b):aO (b++a) x=aO (a++b) x:=by
 have d:(b++a).Nodup:=(lJ.nodup_iff).mp f;obtain⟨u,v,e⟩:=CM h;cases v with
 |cons y v=>
  rw[e,eY (e▸f)]
  rcases List.append_eq_append_iff.mp e with ⟨c,g,i⟩ | ⟨c,g,i⟩
  .
   rw[i,show c++x::y::v++a=c++x::y::(v++a) by simp]
   refine eY ?_;rw[i] at d;simpa using d
  .
   cases c with
   |nil=>
    have j:b=x::y::v:=by simpa using i.symm
    rw[j,show x::y::v++a= []++x::y::(v++a) by simp]
    refine eY ?_;rw[j] at d;simpa using d
   |cons z c=>
    have l:x=z/\y::v=c++b:=by simpa using i
    obtain⟨rfl,n⟩:=l;cases c with
    |nil=>
     have j:b=y::v:=by simpa using n.symm
     rw[g,j,show y::v++(u++ [x])=y::((v++u)++ [x]) by simp]
     refine h7 ?_;rw[g,j] at d;simpa using d
    |cons z c=>
     have l:y=z/\v=c++b:=by simpa using n
     obtain⟨rfl,rfl⟩:=l;rw[g,show b++(u++x::y::c)=(b++u)++x::y::c by simp]
     refine eY ?_;rw[g] at d;simpa using d
 |nil=>
  cases b with
  |nil=>simp
  |cons y b=>
   rcases zv b with rfl| ⟨k,z,rfl⟩
   .
    have:a=u/\y=x:=by
     have:=abe e rfl
     exact#[this.1,by simpa using this.2]
    obtain⟨rfl,rfl⟩:=this;cases a with
    |nil=>rfl
    |cons t a=>
     have m:aO (t::a++ [y]) y=t:=h7 (b:=a) f;rw[m];show aO ([]++y::t::a) y=t;exact eY (d)
   .have o:z=x:=by
     rw[A7] at e;have e:(a++y::k)++ [z]=u++ [x]:=by simpa using e
     exact by simpa using(abe e rfl).2
    subst o;rw[A7] at f d ⊢;cases a with
    |nil=>simp
    |cons t a=>
     have m:aO (t::a++y::(k++ [z])) z=t:=by
      have:=h7 (y:=t) (b:=a++y::k) (x:=z) (~~~f)
      simpa using this
     have p:aO (y::(k++ [z])++t::a) z=t:=by
      have:=eY (a:=y::k) (x:=z) (y:=t) (b:=a) (~~~d)
      simpa using this
     rw[m,p]
def vk{i:Nat}(a:l.Nodup)(h:i+1<l.length):aO l (l.getD i 0)=l.getD (i+1) 0:=by
 have e:l.getD i 0=l[i]:=by rw[bK,cv ()];rfl
 unfold aO;rw[e,a.idxOf_getElem i (),ik h]
def GU(a:l.Nodup)(h:i+1=l.length):aO l (l.getD i 0)=l.getD 0 0:=by
 have e:l.getD i 0=l[i]:=by rw[bK,cv ()];rfl
 unfold aO;rw[e,a.idxOf_getElem i (),h,sR]
section
variable {w:W} {R:List Nat} {A:Nat×Nat->Prop} {v m:Nat} {y:Nat->Nat}
end
end Wb
set_option maxHeartbeats 1000000
namespace Wb
def wM(a:(v::l).Nodup)(d:x∈l)(f:x≠l.getD (l.length-1) 0):aO (v::l) x=aO l x:=by
 obtain⟨i,g,rfl⟩:=zF.mp d;have e:l[i]=l.getD i 0:=by rw[bK,cv g];rfl
 have qL:i+1<l.length:=by
  apply FB;intro c;exact f (by rw[e,show l.length-1=i by lia])
 have b:=vk (i:=i+1) a (by simp;lia)
 have h:=vk (i:=i) (cI.mp a).2 qL;rw[CJ,CJ] at b;rw[e,b,h]
section
variable {w w':W} {R:List Nat} {f:Nat}
end
theorem yi{f:Nat->Nat}{x:Nat}:∀{l:List Nat},(∀y∈l,f y=f x->y=x)->(l.map f).idxOf (f x)=l.idxOf x
 | [],_=>rfl
 |a::l,h=>by
  rw[cX,acj,acj,yi λy b=>h y (cm _ b)]
  by_cases c:a=x
  .subst c;simp
  .have:f a≠f x:=λz=>c (h a (bF ..) z)
   have d:(f a==f x)=false:=by simpa using this
   have e:(a==x)=false:=by simpa using c
   rw[d,e]
def GV{f:Nat->Nat}{l:List Nat}{x:Nat}(h:∀y∈l,f y=f x->y=x)(a:x∈l):aO (l.map f) (f x)=f (aO l x):=by
 have e:=kS a;show(l.map f).getD (((l.map f).idxOf (f x)+1)%(l.map f).length) 0=_;rw[yi h,aG,bK,bW,e];rfl
section
variable {w w':W} {f:Nat->Nat}
open Classical in
end
def gP{w:W}{d:Nat×Nat}(h:i<k):(walk w d k)[i]?\(bo w i d):=by
 unfold walk;rw[bW,qp h];rfl
def sM{w:W}(h:¬i<k):(walk w d k)[i]? =none:=fZ (by rw[dO];lia)
def fC.Tv{w:W}(g:Good w)(h:fC w d r)(b:aL w d)(c:m<r.length):fC w (r.getD m (0,0)) (r.drop m++r.take m):=by
 obtain⟨k,n,l,o,rfl⟩:=h;rw[dO] at c;have e:(walk w d k).getD m (0,0)=bo w m d:=by rw[bK,gP c];rfl
 rw[e];have per:bo w k (bo w m d)=bo w m d:=by rw[<-fi,ab1,fi,l]
 refine#[k,n,per,λj p q z=>?_,?_]
 .have:bo w m (bo w j d)=bo w m d:=by rw[<-fi,ab1,fi,z]
  exact o j p q (tN g (cK g b j) b m this)
 .refine rA λi=>?_
  have a:((walk w d k).drop m).length=k-m:=by rw[vy,dO]
  by_cases s:i<k-m
  .rw[kW (by rw[a];exact s),CK,gP (),gP (),<-fi,ab1]
  .rw[kU (by rw[a];lia),a]
   by_cases t:i<k
   .rw[abI,mo (),gP (),gP t,<-fi,show i+m=(i-(k-m))+k by lia,fi,l]
   .rw[abI,ir (),sM ()]
structure CO (w v:W) (f:Nat×Nat->Nat×Nat):Prop where
 dart:∀d,aL w d->aL v (f d)
 inj:∀d e,aL w d->aL w e->f d=f e->d=e
 nx:∀d,aL w d->fk v (f d)=f (fk w d)
theorem CO.bo{w v:W}{f:Nat×Nat->Nat×Nat}(M:CO w v f)(g:Good w){d:Nat×Nat}(a:aL w d):∀n,Wb.bo v n (f d)=f (Wb.bo w n d)
 |0=>rfl
 |n+1=>by
  show fk v (Wb.bo v n (f d))=f (fk w (Wb.bo w n d));rw[M.bo g a n,M.nx _ (cK g a n)]
def CO.rnd{w v:W}{f:Nat×Nat->Nat×Nat}(M:CO w v f)(g:Good w)(h:fC w d r)(a:aL w d):fC v (f d) (r.map f):=by
 obtain⟨k,b,c,e,rfl⟩:=h;refine#[k,b,by rw[M.bo g a,c],λj l m z=>?_,?_]
 .rw[M.bo g a] at z
  exact e j l m (M.inj _ _ (cK g a j) a z)
 .unfold walk
  rw[cw];exact wo λi _=>(M.bo g a i).symm
def ng(a b:Nat×Nat):lexLe a b\/lexLe b a:=by unfold lexLe;lia
def BU(h:lexLe a b)(d:lexLe b c):lexLe a c:=by unfold lexLe at*;lia
theorem AJ:∀c:List (Nat×Nat),c≠ []->∃e∈c,∀x∈c,lexLe e x
 | [],h=>absurd rfl h
 | [a],_=>#[a,by simp,λx d=>by rw[cH] at d;subst d;exact(ng x x).elim id id]
 |a::b::c,_=>by
  obtain⟨e,i,g⟩:=AJ (b::c) (by simp)
  rcases ng a e with h|h
  .refine#[a,by simp,λx d=>?_]
   rcases bu.mp d with rfl|d
   .exact(ng x x).elim id id
   .exact BU h (g x d)
  .refine#[e,cm _ i,λx d=>?_]
   rcases bu.mp d with rfl|d
   .exact h
   .exact g x d
open Classical in
noncomputable def wD(c:List (Nat×Nat)):Nat:=if h:∃e,e∈c/\∀x∈c,lexLe e x then c.idxOf h.choose else 0
def Jt(h:c≠ []):wD c<c.length/\c.getD (wD c) (0,0)∈c/\(∀x∈c,lexLe (c.getD (wD c) (0,0)) x)/\wD c=c.idxOf (c.getD (wD c) (0,0)):=by
 have d:∃e,e∈c/\∀x∈c,lexLe e x:=let #[e,a,b]:=AJ c h;#[e,a,b];have g:wD c=c.idxOf d.choose:=by unfold wD;rw[dif_pos d]
 have s:=d.choose_spec;have l:=we.mpr s.1
 have i:c.getD (wD c) (0,0)=d.choose:=by
  rw[g,bK,cv l];exact Ba l
 rw[i,g];exact#[l,s.1,s.2,rfl]
noncomputable def xv(c:List (Nat×Nat)):List (Nat×Nat):=c.drop (wD c)++c.take (wD c)
def xw(c:List (Nat×Nat)):(xv c).Perm c:=by
 unfold xv
 have:=lJ (l₁:=c.drop (wD c)) (l₂:=c.take (wD c))
 rwa [iT] at this
def IA{w:W}(g:Good w)(h:fC w d r)(a:aL w d):∃e,fC w e (xv r)/\aL w e/\∀x∈xv r,lexLe e x:=by
 have ne:r≠ []:=λz=>by have:=h.first;rw[z] at this;cases this
 obtain⟨b,c,i,_⟩:=Jt ne;exact#[_,h.Tv g a b,h.bf g a _ c,λx j=>i x ((xw r).mem_iff.mp j)]
theorem qQ{f:List b->List b}(h:∀r,(f r).Perm r):∀a:List (List b),(a.map f).flatten.Perm a.flatten
 | []=> .nil
 |r::a=>by
  rw[cX,jG,jG];exact(h r).append (qQ h a)
def Dq{w v:W}(g:Good w)(b:Good v){f:Nat×Nat->Nat×Nat}(dart:∀d,aL w d->aL v (f d))(inj:∀d e,aL w d->aL w e->f d=f e->d=e)(sur:∀e,aL v e->∃d,aL w d/\f d=e):((bf w).map f).Perm (bf v):=by
 refine(ur ?_ (bX b)).mpr λe=>?_
 .rw[oh,i4]
  have:=bX g
  rw[oh] at this;exact aaz (λc i n z=>n (inj _ _ (aR.mp c) (aR.mp i) z)) this
 .rw[bh,aR]
  exact#[λ#[d,a,z]=>z▸dart d (aR.mp a),λh=>let #[d,a,z]:=sur e h;#[d,aR.mpr a,z]]
structure Bh (w v:W) (φ:Nat->Nat):Prop where
 len:v.length=w.length
 lt:∀p,p<w.length->φ p<w.length
 inj:∀p q,p<w.length->q<w.length->φ p=φ q->p=q
 sur:∀y,y<w.length->∃p,p<w.length/\φ p=y
 row:∀p,p<w.length->∃b,Wb.row v (φ p)=((Wb.row w p).map φ).drop b++((Wb.row w p).map φ).take b
def Bh.mem{w v:W}(N:Bh w v a){p y:Nat}(c:p<w.length):y∈Wb.row v (a p)↔y∈(Wb.row w p).map a:=by
 obtain⟨b,e⟩:=N.row p c;rw[e,bT]
 conv=>rhs;rw[<-iT b ((Wb.row w p).map a),bT]
 exact or_comm
def Bh.dmap{w v:W}(N:Bh w v c)(g:Good w):CO w v (λd=>(c d.1,c d.2)):=by
 have i:∀d,aL w d->d.1<w.length/\d.2<w.length:=λd h=>#[bJ h,g.rng _ _ h];refine#[λd h=>?_,λd e j k z=>?_,λd h=>?_]
 .exact(N.mem (i d h).1).mpr (bh.mpr #[d.2,h,rfl])
 .have m:=(aak z).1
  have o:=(aak z).2;exact aah (N.inj _ _ (i d j).1 (i e k).1 m) (N.inj _ _ (i d j).2 (i e k).2 o)
 .obtain⟨b,e⟩:=N.row d.2 (i d h).2
  have l:d.1∈Wb.row w d.2:=g.sym _ _ h;have p:∀y∈Wb.row w d.2,c y=c d.1->y=d.1:=λy q z=>N.inj _ _ (g.rng _ _ q) (i d h).1 z
  have r:((Wb.row w d.2).map c).Nodup:=by
   have:=g.nod d.2
   rw[oh] at this ⊢;rw[i4];exact aaz (λs t n z=>n (N.inj _ _ (g.rng _ _ s) (g.rng _ _ t) z)) this
  have u:c d.1∈(Wb.row w d.2).map c:=bh.mpr #[_,l,rfl];show(c d.2,aO (Wb.row v (c d.2)) (c d.1))=(c d.2,c (aO (Wb.row w d.2) d.1));rw[e];have A:=nN (a:=((Wb.row w d.2).map c).take b) (b:=((Wb.row w d.2).map c).drop b) (x:=c d.1) (by rw[iT];exact r) (by rw[iT];exact u)
  rw[A,iT,GV p l]
def Bh.WU{w v:W}(N:Bh w v a):∀e,aL v e->∃d,aL w d/\(a d.1,a d.2)=e:=λe h=>by
 have b:=bJ h;rw[N.len] at b;obtain⟨p,g,c⟩:=N.sur e.1 b;have h:e.2∈Wb.row v e.1:=h;rw[<-c] at h;obtain⟨q,i,j⟩:=bh.mp ((N.mem g).mp h);exact#[(p,q),i,aah c j]
abbrev Dt:=Nat×Nat
def rE(w:W):Dt->List Dt->Dt->Prop
 |x,[],y=>x=y
 |x,a::l,y=>x=a/\rE w (fk w a) l y
theorem t7{w:W}:∀{l m:List Dt}{x z:Dt},rE w x (l++m) z↔∃y,rE w x l y/\rE w y m z
 | [],m,x,z=>#[λh=>#[x,rfl,h],λ#[y,e,h]=>by have e:x=y:=e;subst e;exact h]
 |a::l,m,x,z=>#[λ#[e,h]=>let #[y,b,c]:=t7.mp h;#[y,#[e,b],c],λ#[y,#[e,b],c]=>#[e,t7.mpr #[y,b,c]]]
def zq(w:W)(d:Dt)(n:Nat):walk w d (n+1)=d::walk w (fk w d) n:=by
 refine rA λi=>?_;cases i with
 |zero=>rw[gP ()];rfl
 |succ i=>
  rw[uu]
  by_cases h:i<n
  .rw[gP (),gP h]
   exact GM some (fi (w:=w) (d:=d) 1 i)
  .rw[sM (),sM h]
theorem qG{w:W}:∀{l:List Dt}{x y:Dt},rE w x l y↔l=walk w x l.length/\y=bo w l.length x
 | [],x,y=>#[λh=>#[rfl,(show x=y from h).symm],λh=>h.2.symm]
 |a::l,x,y=>by
  have e:bo w (l.length+1) x=bo w l.length (fk w x):=fi (w:=w) (d:=x) 1 l.length
  constructor
  .rintro⟨rfl,h⟩
   obtain⟨b,c⟩:=qG.mp h;rw[b8,zq,e];exact#[GM (x::·) b,c]
  .rintro⟨b,c⟩
   rw[b8,zq] at b;obtain⟨g,i⟩:=Wp b;rw[b8,e] at c;subst g;exact#[rfl,qG.mpr #[i,c]]
def fC.PK{w:W}(h:fC w d r):rE w d r d:=by
 obtain⟨k,b,a,c,rfl⟩:=h;exact qG.mpr #[by rw[dO],by rw[dO,a]]
def Ci{w:W}(h:rE w d r d)(ne:r≠ [])(e:r.Nodup):fC w d r:=by
 obtain⟨c,g⟩:=qG.mp h;refine#[r.length,zG.mpr ne,g.symm,λj k i z=>?_,c];have a:r[j]?\(bo w j d):=by rw[c];exact gP i
 have b:r[0]?\(bo w 0 d):=by rw[c];exact gP ()
 rw[z] at a;have b:r[0]?\d:=b
 have:=(abV (by lia:j<r.length) e).mp (a.trans b.symm)
 lia
theorem AV{w v:W}:∀{l:List Dt}{x y:Dt},rE w x l y->(∀e∈l,fk v e=fk w e)->rE v x l y
 | [],x,y,h,_=>h
 |a::l,x,y,#[e,h],k=>#[e,by rw[k a (bF ..)];exact AV h λe b=>k e (cm _ b)]
def rY{l:List b}(h:l≠ []):∃a z,l=a++ [z]:=#[l.dropLast,l.getLast h,(List.dropLast_concat_getLast h).symm]
def Kf(d:(u::r::t).Nodup):aO (u::r::t) u=r/\∀x∈r::t,aO (u::r::t) x=if aO (r::t) x=r then u else aO (r::t) x:=by
 have g:=(cI.mp d).2;refine#[eY (a:= []) d,λx i=>?_];obtain⟨b,z,e⟩:=rY (l:=r::t) (by simp)
 have lz:aO (r::t) z=r:=by
  cases t with
  |nil=>
   have:b= []/\z=r:=by
    cases b with
    |nil=>simp at e;exact#[rfl,e.symm]
    |cons a b=>simp at e
   rw[this.2];unfold aO;simp
  |cons a t=>
   cases b with
   |nil=>simp at e
   |cons c b=>
    have j:a::t=b++ [z]:=(Wp e).2
    have:=h7 (b:=b) (x:=z) (y:=r) (by rw[<-j];exact g)
    rw[j];exact this
 have k:z∈r::t:=by rw[e];simp
 by_cases c:x=z
 .subst c
  rw[mo lz]
  have:=h7 (b:=b) (x:=x) (y:=u) (by rw[<-e];exact d)
  rw[e];exact this
 .rw[ir (λh=>c (zh g i k (h.trans lz.symm)))]
  refine wM d i ?_;rw[e];intro h;apply c;rw[h,bK,cA,kU (by simp),show b.length+ [z].length-1-b.length=0 by simp];rfl
def Fd(l e:List Nat)(r u:Nat):Prop:=∃a t b,l=b++a/\a++b=r::t/\∃c d,e=d++c/\c++d=u::r::t
def Fd.succ(P:Fd l d r u)(p:l.Nodup)(q:u∉l):aO d u=r/\(∀x∈l,aO d x=if aO l x=r then u else aO l x)/\d.Nodup/\(∀x,x∈d↔x=u\/x∈l)/\r∈l:=by
 rfl';obtain⟨a,t,b,rfl,g,i,j,rfl,h⟩:=P;have e:(b++a).Perm (r::t):=by rw[<-g];exact lJ
 have m:(j++i).Perm (u::r::t):=by rw[<-h];exact lJ
 have n:(r::t).Nodup:=e.nodup_iff.mp p;have k:(u::r::t).Nodup:=cI.mpr #[λz=>q (e.mem_iff.mpr z),n];obtain⟨v,y⟩:=Kf k;ac_rfl
 have A:∀x∈r::t,aO (b++a) x=aO (r::t) x:=λx c=>by
  have:=nN (a:=a) (b:=b) (x:=x) (by rw[g];exact n) (by rw[g];exact c)
  rw[this,g]
 have o:∀x∈u::r::t,aO (j++i) x=aO (u::r::t) x:=λx c=>by
  have:=nN (a:=i) (b:=j) (x:=x) (by rw[h];exact k) (by rw[h];exact c)
  rw[this,h]
 refine#[by rw[o u (by simp),v],λx c=>?_,m.nodup_iff.mpr k,λx=>?_,e.mem_iff.mpr (by simp)]
 .have c:=e.mem_iff.mp c
  rw[o x (cm _ c),A x c,y x c]
 .rw[m.mem_iff,bu,e.mem_iff]
def MX(h:l[i]?\r):Fd l (ins l i u) r u:=by
 obtain⟨b,e⟩:=df.mp h;have a:l.drop i=r::l.drop (i+1):=by rw[mY b,e]
 refine#[l.drop i,l.drop (i+1)++l.take i,l.take i,(iT ..).symm,by rw[a];rfl,u::l.drop i,l.take i,rfl,by rw[a];rfl]
def MW(h:l[0]?\r):Fd l (ins l l.length u) r u:=by
 cases l with
 |nil=>simp at h
 |cons a t=>
  simp at h;subst h;refine#[a::t,t,[],rfl,by simp,[u],a::t,?_,rfl]
  unfold ins;simp
def jv(w:W)(a:List (List Dt)):Prop:=∀r∈a,∃d,fC w d r/\aL w d
def Fc(w:W)(n:Nat):Prop:=∃a,jv w a/\a.flatten.Perm (bf w)/\a.length=n
def Jc(a:List (List c))(r:List c)(b:List (List c)):(a++r::b).flatten.Perm (r++(a++b).flatten):=by
 rw[wq,wq,jG,<-h8,<-h8];exact aa7 _ lJ
def GK{w:W}(g:Good w)(h:jv w k)(t:d∈k.flatten):∃l c,fC w d l/\aL w d/\(l++c.flatten).Perm k.flatten/\jv w c/\c.length+1=k.length:=by
 rfl';obtain⟨r,m,n⟩:=jT.mp t;obtain⟨e,o,p⟩:=h r m;obtain⟨i,q,v⟩:=zF.mp n;have y:r.getD i (0,0)=d:=by rw[bK,cv q];exact v
 have s:=o.Tv g p q;rw[y] at s;obtain⟨a,b,rfl⟩:=CM m;ac_rfl
 have z:(r.drop i++r.take i).Perm r:=by
  have:=lJ (l₁:=r.drop i) (l₂:=r.take i)
  rwa [iT] at this
 refine#[_,a++b,s,o.bf g p d n,?_,λx j=>h x ?_,by simp;lia]
 .exact(z.append_right _).trans (Jc a r b).symm
 .rcases bT.mp j with j|j
  .exact eN _ j
  .exact eZ _ (cm _ j)
def jv.dart{w:W}(g:Good w)(h:jv w a):∀e∈a.flatten,aL w e:=λe b=>by
 obtain⟨r,c,i⟩:=jT.mp b;obtain⟨d,R,j⟩:=h r c;exact R.bf g j e i
def jv.keep{w v:W}(g:Good w)(h:jv w a)(k:∀e∈a.flatten,fk v e=fk w e)(dv:∀d,aL w d->aL v d):jv v a:=λr b=>by
 obtain⟨d,R,c⟩:=h r b;refine#[d,Ci (AV R.PK λe i=>k e (jT.mpr #[r,b,i])) (λz=>?_) (R.nodup g c),dv d c]
 have:=R.first
 rw[z] at this;cases this
def Eu(b:Bool)(w:W):Prop:=2<=w.length->∃c,Fc w c/\2*(w.length+c)<=i9 w+4/\(b=true->2*(w.length+c)=i9 w+4)
def Eu.nam{w v:W}(g:Good w)(i:Good v)(E:Eu b w)(N:Bh w v a)(j:i9 v=i9 w):Eu b v:=λe=>by
 rw[N.len] at e ⊢;rfl';obtain⟨c,⟨l,m,n,o⟩,p,q⟩:=E e;ac_rfl;rw[j];refine#[c,#[l.map λr=>r.map λd=>(a d.1,a d.2),λx s=>?_,?_,by rw[aG];exact o],p,q]
 .obtain⟨r,t,rfl⟩:=bh.mp s
  obtain⟨d,R,h⟩:=m r t;exact#[_,(N.dmap g).rnd g R h,(N.dmap g).dart d h]
 .rw[<-List.map_flatten]
  exact(n.map _).trans (Dq g i (N.dmap g).dart (N.dmap g).inj N.WU)
abbrev bL(s:List Dt):Dt:=s.headD (0,0)
def iI(a:Nat):List (List Dt)->List (List Dt×Nat)
 | []=> []
 | [s]=> [(s,a)]
 |s::t::l=>(s,(bL t).1)::iI a (t::l)
def ring(z:Nat)(p:List Dt×Nat):List Dt:=(z,(bL p.1).1)::(p.1++ [(p.2,z)])
theorem yz(a:Nat):∀b,(iI a b).map (·.1)=b
 | []=>rfl
 | [s]=>rfl
 |s::t::l=>by rw[iI,cX,yz a (t::l)]
theorem yC(a:Nat):∀(s:List Dt)(b:List (List Dt)),(iI a (s::b)).map (·.2)=b.map (λt=>(bL t).1)++ [a]
 |s,[]=>rfl
 |s,t::l=>by rw[iI,cX,yC a t l];rfl
theorem yB{w:W}:∀{c:List (List Dt)}{x:Dt},rE w x c.flatten d->(∀s∈c,s≠ [])->∀p∈iI d.1 c,∃y,rE w (bL p.1) p.1 y/\p.2=y.1/\(y=d\/∃t∈c,y=bL t)
 | [],_,_,_,p,b=>nomatch b
 | [s],x,h,ne,p,b=>by
  rw[iI,cH] at b;subst b;have h:rE w x (s++ []) d:=h;rw[iV] at h;cases s with
  |nil=>exact absurd rfl (ne [] (bF ..))
  |cons a s=>exact#[d,#[rfl,h.2],rfl, .inl rfl]
 |s::t::l,x,h,ne,p,b=>by
  rw[jG] at h;obtain⟨y,j,g⟩:=t7.mp h;have k:=ne t (by simp)
  have i:y=bL t:=by
   cases t with
   |nil=>exact absurd rfl k
   |cons a t=>exact g.1
  rw[iI,bu] at b
  rcases b with rfl|b
  .refine#[y,?_,by rw[i], .inr #[t,by simp,i]]
   cases s with
   |nil=>exact absurd rfl (ne [] (bF ..))
   |cons a s=>exact#[rfl,j.2]
  .obtain⟨u,m,n,o⟩:=yB g (λs q=>ne s (cm _ q)) p b
   exact#[u,m,n,o.imp id λ#[r,v,e]=>#[r,cm _ v,e]]
theorem v5(z:Nat):∀l:List (List Dt×Nat),(l.map (ring z)).flatten.Perm ((l.map (·.1)).flatten++((l.map λp=>(z,(bL p.1).1))++l.map λp=>(p.2,z)))
 | []=> .refl _
 |p::l=>by
  have b:=v5 z l;rw[cX,jG,cX,jG,cX,cX];refine(aam _ b).trans ?_;rw[List.perm_iff_count];intro a;simp only[ring,uw,List.count_cons,acC];lia
theorem Ic{w v:W}:∀{s:List Dt}{x y c:Dt},s≠ []->rE w x s y->(∀e∈s,fk w e=y->fk v e=c)->(∀e∈s,fk w e∈s.tail->fk v e=fk w e)->rE v x s c
 | [],_,_,_,ne,_,_,_=>absurd rfl ne
 | [a],x,y,c,_,#[e,h],d,g=>#[e,(d a (cH.mpr rfl) h)]
 |a::b::s,x,y,c,_,#[e,h],d,g=>by
  exists e;have j:fk w a=b:=h.1;rw[g a (bF ..) (by rw[j];simp)]
  exact Ic (by simp) h (λe i=>d e (cm _ i)) (λe i z=>g e (cm _ i) (cm _ z))
def wZ(h:s≠ []):bL s∈s:=by
 cases s with
 |nil=>exact absurd rfl h
 |cons a s=>exact bF ..
def OD{d:List (List Dt)}(l:d.flatten.Nodup)(ne:∀s∈d,s≠ []){s t:List Dt}(g:s∈d)(m:t∈d):bL s∉t.tail:=λh=>by
 obtain⟨n,i⟩:=abi.mp l
 by_cases e:s=t
 .subst e
  have:=n s g
  cases s with
  |nil=>exact ne [] g rfl
  |cons a s=>exact(cI.mp this).1 h
 .have j:=wZ (ne s g)
  have k:bL s∈t:=List.mem_of_mem_tail h;obtain⟨a,b,rfl⟩:=CM g;rw[abn,zx] at i
  rcases bT.mp m with c|c
  .exact i.2.2 t c s (bF ..) _ k _ j rfl
  .rcases bu.mp c with c|c
   .exact e c.symm
   .exact i.2.1.1 t c _ j _ k rfl
theorem Ln{w v:W}(g:Good w)(gv:Good v)(hz:z=w.length) 
  (R:fC w d (j::i).flatten) (C:aL w d) (n:∀s∈j::i,s≠ [])
  (J:((j::i).map λs=>(bL s).1).Nodup)
  (M:∀e,aL w e->(∀s∈j::i,fk w e≠bL s)->fk v e=fk w e)
  (k1:∀s∈j::i,∀e,aL w e->fk w e=bL s->fk v e=((bL s).1,z))
  (N:∀p∈iI d.1 (j::i),fk v (p.2,z)=(z,(bL p.1).1))
  (k3:∀s∈j::i,fk v (z,(bL s).1)=bL s)
  (dv:∀e,aL v e↔aL w e\/∃s∈j::i,e=((bL s).1,z)\/e=(z,(bL s).1))
  (h:Fc w c):Fc v (c+i.length)/\(bf v).length=(bf w).length+2*(i.length+1):=by
 obtain⟨rs,hA,E,hl⟩:=h;obtain⟨r1,l,R1,_,O,F,l1⟩:=GK g hA (E.mem_iff.mpr (aR.mpr C));obtain rfl:=R1.uniq R;have nd:=R.nodup g C
 have P:d=bL j:=by
  have:=R.PK
  cases j with
  |nil=>exact absurd rfl (n [] (bF ..))
  |cons a s=>exact this.1
 have G:∀e∈(j::i).flatten,aL w e:=R.bf g C;have DZ:∀s∈j::i,aL w (bL s):=λs k=>G _ (jT.mpr #[s,k,wZ (n s k)]);generalize H:iI d.1 (j::i)=L at N;have A:L.map (·.1)=j::i:=by rw[<-H];exact yz _ _
 have f2:L.map (·.2)=i.map (λt=>(bL t).1)++ [d.1]:=by rw[<-H];exact yC _ _ _
 have f3:(L.map (·.2)).Perm ((j::i).map λs=>(bL s).1):=by
  rw[f2,cX,P];exact lJ
 have f4:(L.map λp=>(z,(bL p.1).1))=(j::i).map λs=>(z,(bL s).1):=by rw[<-A,cw];rfl
 have f5:(L.map λp=>(p.2,z)).Perm ((j::i).map λs=>((bL s).1,z)):=by
  have:=f3.map λa:Nat=>(a,z)
  rw[cw,cw] at this;exact this
 have lt:∀s∈j::i,(bL s).1<z:=λs k=>by rw[hz];exact bJ (DZ s k)
 have Q:=v5 z L;rw[A,f4] at Q
 have pv:((L.map (ring z)).flatten++l.flatten).Perm (bf w++(((j::i).map λs=>(z,(bL s).1))++(j::i).map λs=>((bL s).1,z))):=by
  refine(aa7 _ (Q.trans (aam _ (aam _ f5)))).trans ?_;rw[h8];refine(aam _ lJ).trans ?_;rw[<-h8];exact aa7 _ (O.trans E)
 have T:(bf w++(((j::i).map λs=>(z,(bL s).1))++(j::i).map λs=>((bL s).1,z))).Nodup:=by
  refine cU.mpr #[bX g,cU.mpr #[?_,?_,?_],?_]
  .have:=List.Pairwise.map (S:=λa b=>a≠b) (λa:Nat=>(z,a)) (λa b h e=>h (aak e).2) J
   rw[cw] at this;exact this
  .have:=List.Pairwise.map (S:=λa b=>a≠b) (λa:Nat=>(a,z)) (λa b h e=>h (aak e).1) J
   rw[cw] at this;exact this
  .intro a I b o e
   obtain⟨s,k,rfl⟩:=bh.mp I;obtain⟨t,U,rfl⟩:=bh.mp o
   have:=lt s k
   have:=(aak e).2
   lia
  .intro a I b o e
   have X:=aR.mp I;have Y:=bJ X;have Z:=g.rng _ _ X
   rcases bT.mp o with o|o<;>obtain⟨s,k,rfl⟩:=bh.mp o<;>rw[e] at Y Z
   .have:z<w.length:=Y
    lia
   .have:z<w.length:=Z
    lia
 have pe:=(ur T (bX gv)).mpr λe=>by
  rw[aR (w:=v),dv e,bT,aR,bT,bh,bh];refine or_congr aaV #[λh=>h.elim (λ#[s,k,e]=>#[s,k, .inr e.symm]) λ#[s,k,e]=>#[s,k, .inl e.symm],λ#[s,k,e]=>e.elim (λe=> .inr #[s,k,e.symm]) λe=> .inl #[s,k,e.symm]]
 refine#[#[L.map (ring z)++l,?_,?_,?_],?_]
 .intro r u
  rcases bT.mp u with u|u
  .obtain⟨p,B,rfl⟩:=bh.mp u
   have q:p.1∈j::i:=by rw[<-A];exact bh.mpr #[p,B,rfl]
   obtain⟨y,y1,y2,y3⟩:=yB R.PK n p (by rw[H];exact B)
   obtain⟨t,U,ey⟩:∃t∈j::i,y=bL t:=y3.elim (λe=>#[j,bF ..,e.trans P]) id
   have q1:rE v (bL p.1) p.1 (p.2,z):=by
    refine Ic (n _ q) y1 (λe m x=>?_) λe m x=>?_
    .rw[y2,ey]
     exact k1 t U e (G e (jT.mpr #[_,q,m])) (by rw[x,ey])
    .exact M e (G e (jT.mpr #[_,q,m])) λs k z=>OD nd n k q (z▸x)
   have nr:(ring z p).Nodup:=(abi.mp (cU.mp (pv.nodup_iff.mpr T)).1).1 _ (bh.mpr #[p,B,rfl]);refine#[(z,(bL p.1).1),Ci #[rfl,?_] (by unfold ring;simp) nr,(dv _).mpr (.inr #[_,q, .inr rfl])]
   rw[k3 _ q];exact t7.mpr #[(p.2,z),q1,rfl,N p B]
  .refine jv.keep g F (λe m=>?_) (λe m=>(dv e).mpr (.inl m)) r u
   have de:=jv.dart g F e m;refine M e de λs k x=>?_
   have LJ:fk w e∈l.flatten:=by
    obtain⟨r2,VL,Sl⟩:=jT.mp m;obtain⟨d2,R2,tj⟩:=F r2 VL;exact jT.mpr #[r2,VL,R2.iter Sl 1]
   have hh:bL s∈(j::i).flatten:=jT.mpr #[s,k,wZ (n s k)];exact(cU.mp ((O.trans E).nodup_iff.mpr (bX g))).2.2 _ hh _ LJ x.symm
 .rw[wq]
  exact pv.trans pe
 .rw[cA,aG,<-aG (f:=(·.1)) (as:=L),A,b8]
  lia
 .have:=pe.length_eq
  rw[cA,cA,aG,aG,b8] at this;lia
theorem yA:∀{l:List (List Dt)},p∈iI b l->(∃A t B,l=A++p.1::t::B/\p.2=(bL t).1)\/(∃A,l=A++ [p.1]/\p.2=b)
 | [],h=>nomatch h
 | [s],h=>by
  rw[iI,cH] at h;subst h;exact .inr #[[],rfl,rfl]
 |s::t::l,h=>by
  rw[iI,bu] at h
  rcases h with rfl|h
  .exact .inl #[[],t,l,rfl,rfl]
  .rcases yA h with ⟨A,c,B,e,a⟩ | ⟨A,e,a⟩
   .exact .inl #[s::A,c,B,by rw[e];rfl,a]
   .exact .inr #[s::A,by rw[e];rfl,a]
def Ep(i:((a::d).map λs=>(bL s).1).Nodup)(j:p∈iI (bL a).1 (a::d)):aO ((a::d).map λs=>(bL s).1).reverse p.2=(bL p.1).1:=by
 have c:((a::d).map λs=>(bL s).1).reverse.Nodup:=(zy _).nodup_iff.mpr i
 rcases yA j with ⟨A,t,B,e,g⟩ | ⟨A,e,g⟩
 .rw[e] at c ⊢
  have h:((A++p.1::t::B).map λs=>(bL s).1).reverse=(B.map λs=>(bL s).1).reverse++(bL t).1::(bL p.1).1::(A.map λs=>(bL s).1).reverse:=by simp
  rw[h] at c ⊢;rw[g];exact eY c
 .rw[e] at c ⊢
  have h:((A++ [p.1]).map λs=>(bL s).1).reverse=(bL p.1).1::(A.map λs=>(bL s).1).reverse:=by simp
  rw[h] at c ⊢;rw[g];cases A with
  |nil=>
   have:p.1=a:=by have:=(Wp e).1;exact this.symm
   rw[this];unfold aO;simp
  |cons b A=>
   have k:a=b:=(Wp e).1;have l:((b::A).map λs=>(bL s).1).reverse=(A.map λs=>(bL s).1).reverse++ [(bL b).1]:=by simp
   rw[l] at c ⊢;rw[k];exact h7 c
structure Km (w v:W) (hs:List Dt):Prop where
 len:v.length=w.length+1
 out:∀p,p<w.length->(∀h∈hs,h.1≠p)->row v p=row w p
 put:∀h∈hs,Fd (row w h.1) (row v h.1) h.2 w.length
 last:row v w.length=(hs.map (·.1)).reverse
theorem Lo{w v:W}(g:Good w)(E:Good v)(R:fC w d (l::j).flatten)(A:aL w d)(t:∀s∈l::j,s≠ [])
  (B:((l::j).map λs=>(bL s).1).Nodup) (h:Km w v ((l::j).map bL)) (F:Fc w c):Fc v (c+j.length)/\(bf v).length=(bf w).length+2*(j.length+1):=by
 have G:∀e∈(l::j).flatten,aL w e:=R.bf g A;have L:∀s∈l::j,aL w (bL s):=λs b=>G _ (jT.mpr #[s,b,wZ (t s b)]);have H:∀p,w.length∉row w p:=λp z=>by have:=g.rng p _ z;lia
 have n:∀s∈l::j,aO (row v (bL s).1) w.length=(bL s).2/\(∀x∈row w (bL s).1,aO (row v (bL s).1) x=if aO (row w (bL s).1) x=(bL s).2 then w.length else aO (row w (bL s).1) x)/\∀x,x∈row v (bL s).1↔x=w.length\/x∈row w (bL s).1:=λs b=>by
  have:=(h.put _ (bh.mpr #[s,b,rfl])).succ (g.nod _) (H _)
  exact#[this.1,this.2.1,this.2.2.2.1]
 have I:d=bL l:=by
  have:=R.PK
  cases l with
  |nil=>exact absurd rfl (t [] (bF ..))
  |cons a s=>exact this.1
 have u:row v w.length=((l::j).map λs=>(bL s).1).reverse:=by rw[h.last,cw];rfl
 refine Ln g E rfl R A t B (λe i k=>?_) (λs b e i k=>?_) (λp C=>?_) (λs b=>?_) (λe=>?_) F
 .have r:=g.sym _ _ i
  have le:=bJ r;unfold fk
  by_cases c:∃s∈l::j,(bL s).1=e.2
  .obtain⟨s,b,m⟩:=c
   have:=(n s b).2.1 e.1 (by rw[m];exact r)
   rw[m] at this;rw[this,ir];intro z;exact k s b (aah m.symm z)
  .rw[h.out e.2 le λx o z=>?_]
   obtain⟨s,b,rfl⟩:=bh.mp o;exact c #[s,b,z]
 .have r:=g.sym _ _ i
  have y:e.2=(bL s).1:=GM Prod.fst k;have J:aO (row w e.2) e.1=(bL s).2:=GM Prod.snd k
  have:=(n s b).2.1 e.1 (by rw[<-y];exact r)
  rw[<-y] at this;unfold fk;rw[this,mo J,y]
 .unfold fk
  show(w.length,aO (row v w.length) p.2)=_;rw[u];rw[I] at C;rw[Ep B C]
 .exact aah rfl (n s b).1
 .constructor
  .intro i
   have le:=bJ i;rw[h.len] at le
   by_cases c:e.1=w.length
   .right
    have i:e.2∈row v e.1:=i;rw[c,u,qt] at i;obtain⟨s,b,m⟩:=bh.mp i;exact#[s,b, .inr (aah c m.symm)]
   .by_cases q:∃s∈l::j,(bL s).1=e.1
    .obtain⟨s,b,m⟩:=q
     have i:e.2∈row v e.1:=i;rw[<-m] at i
     rcases((n s b).2.2 _).mp i with x|x
     .exact .inr #[s,b, .inl (aah m.symm x)]
     .left;rw[m] at x;exact x
    .left
     have i:e.2∈row v e.1:=i;rw[h.out e.1 () λx o z=>by obtain⟨s,b,rfl⟩:=bh.mp o;exact q #[s,b,z]] at i
     exact i
  .rintro(i| ⟨s,b,rfl|rfl⟩)
   .show e.2∈row v e.1
    by_cases q:∃s∈l::j,(bL s).1=e.1
    .obtain⟨s,b,m⟩:=q
     rw[<-m];exact((n s b).2.2 _).mpr (.inr (by rw[m];exact i))
    .rw[h.out e.1 (bJ i) λx o z=>by obtain⟨s,b,rfl⟩:=bh.mp o;exact q #[s,b,z]]
     exact i
   .exact((n s b).2.2 _).mpr (.inl rfl)
   .show(bL s).1∈row v w.length
    rw[u,qt];exact bh.mpr #[s,b,rfl]
def k7(a tail:List Dt):List Nat->List (List Dt)
 | []=> []
 | [k]=> [a.drop k++tail]
 |k::b::l=>(a.drop k).take (b-k)::k7 a tail (b::l)
theorem xI(a tail:List Dt):∀(k:Nat)(l:List Nat),(k::l).Pairwise (·<·)->(k7 a tail (k::l)).flatten=a.drop k++tail
 |k,[],_=>by simp[k7]
 |k,b::l,h=>by
  have c:=zx.mp h;have d:=c.1 b (bF ..);rw[k7,jG,xI a tail b l c.2,<-h8]
  congr 1
  rw[show a.drop b=(a.drop k).drop (b-k) by rw[acz];congr 1;lia,iT]
def K9{a:List Dt}(h:k<a.length)(t:List Dt):bL (a.drop k++t)=a.getD k (0,0)/\a.drop k++t≠ []:=by
 rw[mY h,bK,cv h];exact#[rfl,λz=>by rw[vA] at z;cases z]
theorem De(a tail:List Dt):∀(b:List Nat),b.Pairwise (·<·)->(∀k∈b,k<a.length)->(k7 a tail b).map bL=(b.map λk=>a.getD k (0,0))/\∀s∈k7 a tail b,s≠ []
 | [],_,_=>#[rfl,λs h=>nomatch h]
 | [k],_,lt=>by
  have:=K9 (lt k (by simp)) tail
  exact#[by simp only[k7,cX,ab0];rw[this.1],λs h=>by rw[k7,cH] at h;rw[h];exact this.2]
 |k::c::l,h,lt=>by
  have g:=zx.mp h;have q:=g.1 c (bF ..);have i:=De a tail (c::l) g.2 λx n=>lt x (cm _ n);have j:=lt k (by simp)
  obtain⟨m,o⟩:∃m,c-k=m+1:=#[c-k-1,()]
  have e:(a.drop k).take (c-k)=a[k]::(a.drop (k+1)).take m:=by rw[mY j,o,List.take_succ_cons]
  refine#[?_,λs d=>?_]
  .have p:a.getD k (0,0)=a[k]:=by rw[bK,cv j];rfl
   rw[k7,cX,i.1,e];show a[k]::_=a.getD k (0,0)::_;rw[p]
  .rw[k7,bu] at d
   rcases d with rfl|d
   .rw[e];simp
   .exact i.2 s d
def kn(w:W):Prop:=∃c,Fc w c/\2*(w.length+c)=i9 w+4
theorem JT{w v:W}(g:Good w)(m:Good v)(R:fC w d a)(j:aL w d)(inc:(k::b).Pairwise (·<·))(lt:∀x∈k::b,x<a.length)
  (n:((k::b).map λx=>(a.getD x (0,0)).1).Nodup) (h:Km w v ((k::b).map λx=>a.getD x (0,0))) (P:kn w):kn v:=by
 obtain⟨c,F,e⟩:=P;have i:=lt k (bF ..);have R2:=R.Tv g j i;have ch:=De a (a.take k) (k::b) inc lt;have o:=xI a (a.take k) k b inc;have p:aL w (a.getD k (0,0)):=R.bf g j _ (by rw[bK,cv i];exact lO i)
 have l:(k7 a (a.take k) (k::b)).length=b.length+1:=by have:=GM b3 ch.1;rwa [aG,aG] at this
 rw[<-o] at R2;rw[<-ch.1] at h
 have q:((k7 a (a.take k) (k::b)).map λs=>(bL s).1).Nodup:=by
  have:((k7 a (a.take k) (k::b)).map λs=>(bL s).1)=(k::b).map λx=>(a.getD x (0,0)).1:=by
   have:=GM (List.map (·.1)) ch.1
   rw[cw,cw] at this;exact this
  rw[this];exact n
 generalize k7 a (a.take k) (k::b)=S at*;cases S with
 |nil=>cases l
 |cons t u=>
  obtain⟨r,dl⟩:=Lo g m R2 p ch.2 q h F;exists _,r;have y:=fD w;have z:=fD v;have A:=h.len;rw[b8] at l;lia
def pM(m:l.Nodup){u:Nat}(o:u∈l)(P:Nat->Prop)(t:P (aO l u))(h:∀x∈l,x≠u->P x->P (aO l x)):∀x∈l,P x:=by
 have v:0<l.length:=uv o
 have at_:∀i,i<l.length->l.getD i 0∈l/\l[i]?\(l.getD i 0):=λi g=>by
  have e:l[i]?\(l.getD i 0):=by rw[bK,cv g];rfl
  exact#[dY e,e]
 have p:∀i,i<l.length->aO l (l.getD i 0)=l.getD ((i+1)%l.length) 0:=λi g=>by
  by_cases c:i+1<l.length
  .rw[vk m c,ik c]
  .rw[GU m (),show i+1=l.length by lia,sR]
 obtain⟨d,n,y⟩:=List.getElem_of_mem o;have r:l.getD d 0=u:=by rw[bK,cv n];exact y
 have all:∀j,j<l.length->P (l.getD ((d+1+j)%l.length) 0):=by
  intro j
  induction j with
  |zero=>intro _;rw[<-p d n,r];exact t
  |succ j A=>
   intro E;have k:=qu (d+1+j) v
   have q:=h _ (at_ _ k).1 (λz=>by
    have a:=(at_ _ k).2;have b:=(at_ _ n).2;rw[r] at b;rw[z] at a
    have:=(abV k m).mp (a.trans b.symm)
    by_cases c:d+1+j<l.length
    .rw[ik c] at this;lia
    .rw[Nat.mod_eq_sub_mod (),ik ()] at this;lia) (A ())
   rw[p _ k] at q;rw[show(d+1+(j+1))%l.length=((d+1+j)%l.length+1)%l.length by rw[Nat.mod_add_mod];rfl]
   exact q
 intro x B;obtain⟨i,g,C⟩:=List.getElem_of_mem B;have s:l.getD i 0=x:=by rw[bK,cv g];exact C
 by_cases c:d<i
 .have:=all (i-d-1) ()
  rw[show d+1+(i-d-1)=i by lia,ik g,s] at this;exact this
 .have:=all (i+l.length-d-1) ()
  rw[show d+1+(i+l.length-d-1)=i+l.length by lia,aa0,ik g,s] at this;exact this
def eB(d:Dt):Dt:=(d.2,d.1)
def sg(w:W)(d:Dt):Dt:=(d.1,aO (row w d.1) d.2)
def Rl(L:List Dt)(d:Dt):Prop:=d∈L\/eB d∈L
instance Yr (L:List Dt) (d:Dt):Decidable (Rl L d):=inferInstanceAs (Decidable (_\/_))
def ph(w:W)(L:List Dt)(d:Dt):Dt:=if Rl L d then sg w (eB d) else sg w d
def CQ(w:W)(L:List Dt)(f:Dt->Nat):Prop:=∀d,aL w d->f (ph w L d)=f d
def NY(w:W)(f:Dt->Nat)(n:Nat):Prop:=∃a:List Nat,a.Nodup/\a.length=n/\∀v∈a,∃d,aL w d/\f d=v
def Bc(w:W)(L:List Dt)(n:Nat):Prop:=∃f,CQ w L f/\NY w f n
def jb{w:W}(g:Good w)(h:aL w d):aL w (eB d):=g.sym _ _ h
def Oz{w:W}(g:Good w)(h:aL w d):eB d≠d:=λz=>by
 have:d.2=d.1:=GM Prod.fst z
 exact g.irr _ (by have h:d.2∈row w d.1:=h;rw[this] at h;exact h)
def DM(d:Dt):eB (eB d)=d:=rfl
def EI(a:d≠t)(b:d≠eB t):Rl (t::L) d↔Rl L d:=by
 unfold Rl;rw[bu,bu]
 constructor
 .rintro((z|z) | (z|z))
  .exact absurd z a
  .exact .inl z
  .exact absurd (by rw[<-z];rfl) b
  .exact .inr z
 .rintro(z|z)
  .exact .inl (.inr z)
  .exact .inr (.inr z)
def lC:Rl L (eB d)↔Rl L d:=#[λh=>h.symm,λh=>h.symm]
def yW{w:W}(a:d≠t)(b:d≠eB t):ph w (t::L) d=ph w L d:=by
 unfold ph
 by_cases c:Rl L d
 .rw[mo c,mo ((EI a b).mpr c)]
 .rw[ir c,ir (λz=>c ((EI a b).mp z))]
def Q6{w:W}{t:Dt}{L:List Dt}:ph w (t::L) t=sg w (eB t)/\ph w (t::L) (eB t)=sg w t:=by
 unfold ph;exact#[mo (.inl (bF ..)),mo (.inr (bF ..))]
def HZ{w:W}{t:Dt}{L:List Dt}(h:¬Rl L t):ph w L t=sg w t/\ph w L (eB t)=sg w (eB t):=by
 unfold ph;exact#[ir h,ir λz=>h (lC.mp z)]
def IE{w:W}(g:Good w){t:Dt}{L:List Dt}(l:aL w t)(h:¬Rl L t)(c:Bc w (t::L) (n+1)):Bc w L n:=by
 obtain⟨f,j,s,o,C,u⟩:=c;obtain⟨x,y⟩:=Q6 (w:=w) (t:=t) (L:=L);obtain⟨A,B⟩:=HZ (w:=w) h;have p:=j t l;have r:=j _ (jb g l);rw[x] at p;rw[y] at r;refine#[λd=>if f d=f (eB t) then f t else f d,λd k=>?_,(s.erase (f (eB t))).take n,(abR _ _).nodup (o.erase _),?_,λv i=>?_]
 .by_cases a:d=t
  .subst a
   show(if f (ph w L d)=f (eB d) then f d else f (ph w L d))=if f d=f (eB d) then f d else f d;rw[A,r,mo rfl];split<;>rfl
  .by_cases b:d=eB t
   .subst b
    show(if f (ph w L (eB t))=f (eB t) then f t else f (ph w L (eB t)))=if f (eB t)=f (eB t) then f t else f (eB t);rw[B,p,mo rfl];split<;>rfl
   .have q:=j d k
    rw[yW a b] at q;show(if f (ph w L d)=f (eB t) then f t else f (ph w L d))=_;rw[q]
 .rw[kX,List.length_erase]
  split<;>lia
 .have i:=abt i
  have m:=List.mem_of_mem_erase i;obtain⟨d,k,e⟩:=u v m;have ne:v≠f (eB t):=λz=>by rw[z] at i;exact(List.Nodup.not_mem_erase o) i
  exact#[d,k,by show(if f d=f (eB t) then f t else f d)=v;rw[e,ir ne]]
def above(l:List Nat):∃n,∀x∈l,x<n:=by
 induction l with
 |nil=>exact#[0,λx h=>by cases h]
 |cons a l b=>
  obtain⟨n,c⟩:=b
  exact#[n+a+1,λx d=>by
   rcases bu.mp d with rfl|z
   .lia
   .have:=c x z;lia]
def IG{w:W}(g:Good w)(i:aL w t)(h:∀d∈L,d.1≠t.1/\d.2≠t.1)(c:Bc w (t::L) n):Bc w L (n+1):=by
 obtain⟨f,k,o,y,A,B⟩:=c
 have l:∀d,d.1=t.1\/d.2=t.1->¬Rl L d:=λd j z=>by
  rcases z with z|z
  .have:=h _ z;rcases j with e|e
   .exact this.1 e
   .exact this.2 e
  .have:=h _ z;rcases j with e|e
   .exact this.2 e
   .exact this.1 e
 obtain⟨C,E⟩:=Q6 (w:=w) (t:=t) (L:=L);obtain⟨O,F⟩:=HZ (w:=w) (l t (.inl rfl));have p:=k t i;have r:=k _ (jb g i);rw[C] at p;rw[E] at r;have s:t.2≠t.1:=λz=>by have i:t.2∈row w t.1:=i;rw[z] at i;exact g.irr _ i
 have all:∀x∈row w t.1,f (t.1,x)=f (eB t):=pM (g.nod _) (u:=t.2) i (λx=>f (t.1,x)=f (eB t)) r λx G ne e=>by
  have q:=k (t.1,x) G;have a:(t.1,x)≠t:=λz=>ne (GM Prod.snd z);have b:(t.1,x)≠eB t:=λz=>s (GM Prod.fst z).symm;rw[yW a b,(HZ (w:=w) (l (t.1,x) (.inl rfl))).1] at q;exact q.trans e
 obtain⟨m,H⟩:=above (o++ [f (eB t)]);have I:f t=f (eB t):=all t.2 i;refine#[λd=>if d.1=t.1 then m else f d,λd j=>?_,m::o,cI.mpr #[λz=>by have:=H m (eN _ z);lia,y],by rw[b8,A],λv J=>?_]
 .by_cases a:d.1=t.1
  .show(if (ph w L d).1=t.1 then m else f (ph w L d))=if d.1=t.1 then m else f d
   rw[(HZ (w:=w) (l d (.inl a))).1,mo a,mo (show(sg w d).1=t.1 from a)]
  .by_cases b:d=eB t
   .subst b
    show(if (ph w L (eB t)).1=t.1 then m else f (ph w L (eB t)))=if (eB t).1=t.1 then m else f (eB t);rw[F,ir a,ir (show ¬(sg w (eB t)).1=t.1 from a),p,I]
   .have M:d≠t:=λz=>a (by rw[z])
    have q:=k d j;rw[yW M b] at q
    have ne:(ph w L d).1≠t.1:=by
     unfold ph
     split
     .rename_i N
      intro z;have z:d.2=t.1:=z;exact l d (.inr z) N
     .exact a
    show(if (ph w L d).1=t.1 then m else f (ph w L d))=if d.1=t.1 then m else f d;rw[ir ne,ir a,q]
 .rcases bu.mp J with rfl|z
  .exact#[t,i,mo rfl]
  .obtain⟨d,j,e⟩:=B v z
   by_cases a:d.1=t.1
   .refine#[eB t,jb g i,?_]
    have:f d=f (eB t):=by
     have:=all d.2 (by rw[<-a];exact j)
     rw[<-a] at this;exact this
    show(if t.2=t.1 then m else f (eB t))=v;rw[ir s,<-this,e]
   .exact#[d,j,by show(if d.1=t.1 then m else f d)=v;rw[ir a,e]]
structure mB (w:W) (L:List Dt):Prop where
 dart:∀d∈L,aL w d
 nd:L.Nodup
 nf:∀d∈L,eB d∉L
def mB.cons{w:W}(g:Good w){L:List Dt}(h:mB w L){t:Dt}(b:aL w t)(n:¬Rl L t):mB w (t::L):=by
 refine#[λd a=>?_,cI.mpr #[λz=>n (.inl z),h.nd],λd a z=>?_]
 .rcases bu.mp a with rfl|z
  .exact b
  .exact h.dart _ z
 .rcases bu.mp a with rfl|y
  .rcases bu.mp z with z|z
   .exact Oz g b z
   .exact n (.inr z)
  .rcases bu.mp z with z|z
   .exact n (.inr (by rw[<-z];exact y))
   .exact h.nf _ y z
def both(L:List Dt):List Dt:=L++L.map eB
def j8(L:List Dt):(both L).length=2*L.length:=by unfold both;rw[cA,aG];lia
def hJ{d:Dt}:d∈both L↔Rl L d:=by
 unfold both Rl;rw[bT,bh]
 constructor
 .rintro(z| ⟨e,z,rfl⟩)
  .exact .inl z
  .exact .inr z
 .rintro(z|z)
  .exact .inl z
  .exact .inr #[_,z,rfl]
theorem mB.both{w:W}(h:mB w L):(both L).Nodup:=by
 unfold Wb.both;refine cU.mpr #[h.nd,?_,λa c b d z=>?_]
 .refine(i4).mpr (h.nd.imp λ {a b} ne z=>ne ?_)
  exact GM eB z
 .subst z
  obtain⟨e,g,rfl⟩:=bh.mp d;exact h.nf _ g c
def mB.sub{w:W}(g:Good w)(h:mB w L):∀d∈Wb.both L,d∈bf w:=λd a=>by
 rcases hJ.mp a with z|z
 .exact aR.mpr (h.dart _ z)
 .exact aR.mpr (jb g (h.dart _ z))
def IF{w:W}(g:Good w){f:Dt->Nat}(b:∀d,aL w d->f (fk w d)=f d)(c:NY w f n)(all:∀d,aL w d->Rl L d):Bc w L n:=
 #[f,λd a=>by unfold ph;rw[mo (all d a)];exact b d a,c]
theorem fill{w:W}(g:Good w){f:Dt->Nat}(c:∀d,aL w d->f (fk w d)=f d):∀(m:Nat)(L:List Dt)(n:Nat),mB w L->2*(L.length+m)=i9 w->NY w f (n+m)->Bc w L n
 |0,L,n,h,e,a=>by
  refine IF g c a λd k=>?_;apply FB;intro z;have l:(d::both L).Nodup:=cI.mpr #[λy=>z (hJ.mp y),h.both]
  have:=az l (m:=bf w) λx b=>by
   rcases bu.mp b with rfl|y
   .exact aR.mpr k
   .exact h.sub g _ y
  rw[b8,j8,fD] at this;lia
 |m+1,L,n,h,e,a=>by
  have:∃t,aL w t/\¬Rl L t:=by
   apply FB;intro z
   have:=az (bX g) (m:=both L) λx b=>hJ.mpr (FB λy=>z #[x,aR.mp b,y])
   rw[j8,fD] at this;lia
  obtain⟨t,i,j⟩:=this;refine IE g i j (fill g c m (t::L) (n+1) (h.cons g i j) (by rw[b8];lia) ?_)
  rw[show n+1+m=n+(m+1) by lia];exact a
def Pm{w:W}(g:Good w){T:List Nat}(ne:∃p∈T,p<w.length)(h:∃q,q<w.length/\q∉T):∃v u,aL w (v,u)/\v∉T/\u∈T:=by
 obtain⟨p,i,lp⟩:=ne;obtain⟨q,d,e⟩:=h;have r:Reach w p q:=(Reach.symm g.sym (g.con p lp)).trans (g.con q d);clear d
 induction r with
 |refl=>exact absurd i e
 | @step a b r j k=>
  by_cases c:a∈T
  .exact#[b,a,g.sym _ _ j,e,c]
  .exact k c
theorem grow{w:W}(g:Good w):∀(k:Nat)(T:List Nat)(L:List Dt),T.Nodup->(∀p∈T,p<w.length)->T≠ []->T.length+k=w.length->mB w L->(∀d∈L,d.1∈T/\d.2∈T)->∃i,i.length=L.length+k/\mB w i/\∀n,Bc w i n->Bc w L (n+k)
 |0,T,L,_,_,_,_,h,_=>#[L,rfl,h,λn c=>c]
 |k+1,T,L,r,lt,ne,G,h,b=>by
  have:∃q,q<w.length/\q∉T:=by
   apply FB;intro z
   have:=az uy (m:=T) λx s=>FB λy=>z #[x,b9.mp s,y]
   rw[fB] at this;lia
  rfl';obtain⟨a,A,rfl⟩:=List.exists_cons_of_ne_nil ne;obtain⟨v,u,o,j,B⟩:=Pm g #[a,bF ..,lt _ (bF ..)] this;ac_rfl
  have C:¬Rl L (v,u):=λz=>by
   rcases z with z|z
   .exact j (b _ z).1
   .exact j (b _ z).2
  obtain⟨i,e,E,c⟩:=grow g k (v::a::A) ((v,u)::L) (cI.mpr #[j,r]) (λp F=>by
   rcases bu.mp F with rfl|z
   .exact bJ o
   .exact lt _ z) (by simp) (by rw[b8];lia) (h.cons g o C) (λd l=>by
   rcases bu.mp l with rfl|z
   .exact#[bF ..,cm _ B]
   .exact#[cm _ (b _ z).1,cm _ (b _ z).2])
  refine#[i,by rw[e,b8];lia,E,λn cn=>?_]
  rw[show n+(k+1)=n+k+1 by lia]
  exact IG g o (λd l=>#[λz=>j (by have:=(b _ l).1;rw[z] at this;exact this),λz=>j (by have:=(b _ l).2;rw[z] at this;exact this)]) (c n cn)
theorem kJ(p:b->Bool):∀R:List b,R.length=(R.filter p).length+(R.filter λd=>!p d).length
 | []=>rfl
 |a::R=>by
  have c:=kJ p R;rw[vz,vz];cases e:p a<;>simp<;>lia
theorem each [DecidableEq g] (f:g->Nat) (k:Nat):∀(e:List Nat)(R:List g),e.Nodup->R.Nodup->(∀v∈e,∃l:List g,l.Nodup/\k<=l.length/\∀d∈l,d∈R/\f d=v)->k*e.length<=R.length
 | [],R,_,_,_=>by simp
 |v::e,R,j,p,h=>by
  obtain⟨l,q,t,n⟩:=h v (bF ..)
  have x:=each f k e (R.filter λd=>!decide (f d=v)) (cI.mp j).2 (p.filter _) λu o=>by
   obtain⟨m,r,s,i⟩:=h u (cm _ o);refine#[m,r,s,λd c=>#[gE.mpr #[(i d c).1,?_],(i d c).2]];have z:¬f d=v:=λz=>(cI.mp j).1 (((i d c).2.symm.trans z)▸o);rw[Gc z];rfl
  have a:=az q (m:=R.filter λd=>decide (f d=v)) λd c=>gE.mpr #[(n d c).1,GT (n d c).2];have b:=kJ (λd=>decide (f d=v)) R;rw[b8,Nat.mul_add,Nat.mul_one];lia
def r9{w:W}(g:Good w){f:Dt->Nat}(a:CQ w L f)(b:aL w (p,q))(h:Rl L (p,q))(i:∃r,r≠p/\r∈row w q/\Rl L (q,r)):∃r,r≠p/\r∈row w q/\Rl L (q,r)/\f (q,r)=f (p,q):=by
 apply FB;intro z
 have all:∀x∈row w q,f (q,x)=f (p,q):=pM (g.nod _) (u:=p) (g.sym _ _ b) (λx=>f (q,x)=f (p,q)) (by
   have:=a _ b
   unfold ph at this;rw[mo h] at this;exact this) λx c ne e=>by
  have j:¬Rl L (q,x):=λy=>z #[x,ne,c,y,e]
  have:=a (q,x) c
  unfold ph at this;rw[ir j] at this;exact this.trans e
 obtain⟨r,k,d,l⟩:=i;exact z #[r,k,d,l,all r d]
def qe{w:W}(g:Good w){f:Dt->Nat}(c:CQ w L f)(b:aL w (p,q))(h:∀d,aL w d->f d=f (p,q)->¬Rl L d):∀x∈row w p,f (p,x)=f (p,q):=by
 have st:∀x∈row w p,f (p,x)=f (p,q)->f (p,aO (row w p) x)=f (p,q):=λx a e=>by
  have:=c (p,x) a
  unfold ph at this;rw[ir (h (p,x) a e)] at this;exact this.trans e
 exact pM (g.nod _) (u:=q) b (λx=>f (p,x)=f (p,q)) (st q b rfl) λx a _ e=>st x a e
def DJ{w:W}(g:Good w){L:List Dt}(o:mB w L){S:List Nat}(N:S.Nodup)(lt:∀p∈S,p<w.length)(two:∀p∈S,∀q,∃r,r≠q/\r∈row w p/\Rl L (p,r))(t:∀d∈L,d.1∈S/\d.2∈S){n:Nat}(c:Bc w L n):3*n<=3*(w.length-S.length)+2*L.length:=by
 obtain⟨f,u,A,C,rfl,O⟩:=c
 have E:∀{d:Dt},Rl L d->aL w d/\d.1∈S/\d.2∈S:=λ {d} h=>by
  rcases h with z|z
  .exact#[o.dart _ z,t _ z]
  .exact#[jb g (o.dart _ z),(t _ z).2,(t _ z).1]
 let P:Nat->Bool:=λv=>decide (∃d∈both L,f d=v)
 have e:=kJ P A
 have a:3*(A.filter P).length<=(both L).length:=each f 3 _ _ (C.filter _) o.both λv B=>by
  rfl';obtain⟨⟨p,q⟩,i,rfl⟩:=IR (gE.mp B).2;have F:=hJ.mp i;obtain⟨k,pS,R⟩:=E F;obtain⟨r,T,j,l,G⟩:=r9 g u k F (two q R p);obtain⟨_,_,U⟩:=E l;obtain⟨s,s1,s2,X,Y⟩:=r9 g u j l (two r U q);ac_rfl;refine#[[(p,q),(q,r),(r,s)],?_,aY _,λd H=>?_]
  .have Z:p≠q:=λz=>by have k:q∈row w p:=k;rw[z] at k;exact g.irr _ k
   have n2:q≠r:=λz=>by rw[z] at j;exact g.irr _ j
   simp only[cI,bu,aca,or_false,not_or,Prod.mk.injEq,not_and,gF,and_true,not_false_eq_true];exact#[#[λz=>absurd z Z,λz=>absurd z.symm T],λz=>absurd z n2]
  .simp only[bu,aca,or_false] at H
   rcases H with rfl|rfl|rfl
   .exact#[i,rfl]
   .exact#[hJ.mpr l,G]
   .exact#[hJ.mpr X,Y.trans G]
 have b:1*(A.filter λv=>!P v).length<=((ac w.length).filter λp=>!decide (p∈S)).length:=each (λp=>f (p,(row w p).headD 0)) 1 _ _ (C.filter _) (uy.filter _) λv B=>by
  obtain⟨m1,I⟩:=gE.mp B;obtain⟨⟨p,q⟩,i,rfl⟩:=O v m1
  have J:∀d,aL w d->f d=f (p,q)->¬Rl L d:=λd _ e y=>by
   have:P (f (p,q))=true:=GT #[d,hJ.mpr y,e]
   rw[this] at I;exact Bool.noConfusion I
  have all:=qe g u i J;refine#[[p],by simp,aY _,λx hx=>?_]
  rw[cH.mp hx];refine#[gE.mpr #[b9.mpr (bJ i),?_],?_]
  .rw[Gc];·rfl
   intro z;obtain⟨r,_,j,l⟩:=two p z p;exact J (p,r) j (all r j) l
  .refine all _ ?_
   have i:q∈row w p:=i;cases e:row w p with
   |nil=>rw[e] at i;cases i
   |cons y ys=>exact bF ..
 have c:=kJ (λp=>decide (p∈S)) (ac w.length);have s:=az N (m:=(ac w.length).filter λp=>decide (p∈S)) λp M=>gE.mpr #[b9.mpr (lt p M),GT M];rw[fB] at c;rw[j8] at a;lia
def HG{w:W}(g:Good w)(F:Fc w c):∃f:Dt->Nat,(∀d,aL w d->f (fk w d)=f d)/\NY w f c:=by
 obtain⟨h,s,t,rfl⟩:=F;have C:h.flatten.Nodup:=t.nodup_iff.mpr (bX g)
 have E:∀(i j:Nat)(d:Dt)(a b:List Dt),h[i]?\a->h[j]?\b->d∈a->d∈b->i=j:=by
  intro i j d a b e G k u;have x:=(abi.mp C).2;obtain⟨m,n⟩:=df.mp e;obtain⟨y,A⟩:=df.mp G
  rcases abU i j with z|z|z
  .have:=(Hh.mp x) i j m y z
   rw[n,A] at this;exact absurd rfl (this d k d u)
  .exact z
  .have:=(Hh.mp x) j i y m z
   rw[n,A] at this;exact absurd rfl (this d u d k)
 have H:∀d,aL w d->∃i a,h[i]?\a/\d∈a:=λd l=>by
  rfl';obtain⟨a,e,l⟩:=jT.mp (t.mem_iff.mpr (aR.mpr l));obtain⟨i,J⟩:=zE e;ac_rfl;exact#[i,a,J,l]
 let f:Dt->Nat:=λd=>h.findIdx λr=>decide (d∈r)
 have o:∀i a d,h[i]?\a->d∈a->f d=i:=λi a d e k=>by
  obtain⟨m,n⟩:=df.mp e;have lt:f d<h.length:=List.findIdx_lt_length_of_exists #[a,dY e,GT k]
  have:=List.findIdx_getElem (w:=lt)
  exact E _ _ d _ a (cv lt) e (IR this) k
 refine#[f,λd l=>?_,ac h.length,uy,fB,λv L=>?_]
 .obtain⟨i,a,e,k⟩:=H d l
  obtain⟨p,q,_⟩:=s a (dY e);rw[o i a d e k,o i a _ e (q.next k)]
 .have B:=b9.mp L
  obtain⟨p,q,M⟩:=s h[v] (lO B);exact#[p,M,o v _ p (cv B) q.first]
def nO(w:W)(S:List Nat):List Dt:=(bf w).filter λd=>decide (d.1<d.2/\d.1∈S/\d.2∈S)
def fz{w:W}:d∈nO w S↔aL w d/\d.1<d.2/\d.1∈S/\d.2∈S:=by
 unfold nO;rw[gE,aR,aaG]
def NN{w:W}(g:Good w)(S:List Nat):mB w (nO w S):=#[λd c=>(fz.mp c).1,(bX g).filter _,λd c z=>by
 have a:=(fz.mp c).2.1;have b:d.2<d.1:=(fz.mp z).2.1
 lia]
def M9{w:W}(g:Good w){d:Dt}(c:aL w d):Rl (nO w S) d↔d.1∈S/\d.2∈S:=by
 constructor
 .rintro(z|z)
  .exact(fz.mp z).2.2
  .have:=(fz.mp z).2.2
   exact#[this.2,this.1]
 .rintro⟨a,b⟩
  have ne:d.1≠d.2:=λz=>by have c:d.2∈row w d.1:=c;rw[z] at c;exact g.irr _ c
  rcases Nat.lt_or_ge d.1 d.2 with z|z
  .exact .inl (fz.mpr #[c,z,a,b])
  .exact .inr (fz.mpr #[jb g c,by show d.2<d.1;lia,b,a])
def U3{w:W}(g:Good w)(F:Fc w c)(e:2*(w.length+c)=i9 w+4)(j:S.Nodup)(ne:S≠ [])(lt:∀p∈S,p<w.length):∃p∈S,((row w p).filter λq=>decide (q∈S)).length<=5:=by
 apply FB;intro z;have i:∀p∈S,6<=((row w p).filter λq=>decide (q∈S)).length:=λp h=>FB λy=>z #[p,h,()]
 have l:=NN g S;have u:∀d∈nO w S,d.1∈S/\d.2∈S:=λd o=>(fz.mp o).2.2
 have x:6*S.length<=(both (nO w S)).length:=each (λd:Dt=>d.1) 6 S _ j l.both λp h=>by
  refine#[((row w p).filter λq=>decide (q∈S)).map λq=>(p,q),?_,by rw[aG];exact i p h,λd o=>?_]
  .exact i4.mpr (((g.nod p).filter _).imp λ {a b} ne z=>ne (GM Prod.snd z))
  .obtain⟨q,A,rfl⟩:=bh.mp o
   obtain⟨B,C⟩:=gE.mp A;exact#[hJ.mpr ((M9 g (d:=(p,q)) B).mpr #[h,IR C]),rfl]
 rw[j8] at x
 have Q:S.length<=w.length:=by
  have:=az j (m:=ac w.length) λp h=>b9.mpr (lt p h)
  rw[fB] at this;exact this
 have R:0<S.length:=zG.mpr ne;obtain⟨k,E⟩:∃k,S.length+k=w.length:=#[w.length-S.length,()]
 obtain⟨s,T,t,G⟩:=grow g k S (nO w S) j lt ne E l u;obtain⟨f,H,I⟩:=HG g F;have J:=az t.both (t.sub g);rw[j8,fD] at J;obtain⟨m,L⟩:∃m,2*(s.length+m)=i9 w:=#[i9 w / 2-s.length,()]
 obtain⟨n,M⟩:∃n,n+m=c:=#[c-m,()]
 have cn:=G n (fill g H m s n t L (by rw[M];exact I))
 have:=DJ g l j lt (λp h q=>by
  have U:=i p h;apply FB;intro y
  have:((row w p).filter λq=>decide (q∈S)).length<= [q].length:=az ((g.nod p).filter _) λr N=>by
   obtain⟨v,O⟩:=gE.mp N;rw[cH];apply FB;intro P;exact y #[r,P,v,(M9 g (d:=(p,r)) v).mpr #[h,IR O]]
  rw[rm] at this;lia) u cn
 lia
def MM:kn [[1],[0]]:=by
 refine#[1,#[[[(0,1),(1,0)]],λr a=>?_,?_,rfl],rfl]
 .rw[cH] at a
  subst a;exact#[(0,1),Ci #[rfl,rfl,rfl] (by simp) ∅,(by decide:(1:Nat)∈([1]:List Nat))]
 .exact .refl _
def EG(h:x∈l):Fd l (ins l (l.idxOf x+1) z) (aO l x) z:=by
 have a:=we.mpr h;have sg:=kS h
 by_cases c:l.idxOf x+1<l.length
 .rw[ik c] at sg
  exact MX sg
 .have e:l.idxOf x+1=l.length:=()
  rw[e,sR] at sg;rw[e];exact MW sg
def J3{w:W}(h:fC w d r)(a:k<r.length):r.getD k (0,0)=fk w (r.getD ((k+(r.length-1))%r.length) (0,0)):=by
 have b:(k+(r.length-1))%r.length<r.length:=qu _ ()
 have:=Na h b
 rw[<-this]
 congr 1
 by_cases c:k=0
 .subst c
  rw[qm,ik (show r.length-1<r.length by lia),show r.length-1+1=r.length by lia,sR]
 .rw[show k+(r.length-1)=(k-1)+r.length by lia,aa0,ik (show k-1<r.length by lia),show k-1+1=k by lia,ik a]
end Wb
set_option maxHeartbeats 4000000
namespace oH
open PySem L2 Wb
variable {P:Program} {w:World} {mg:Str->Option Value} {base:Heap} {Z:DC} (T:Txt Z mg)
open Wy
def r8(a b:Int)(h:0<b):0<=a%b/\a%b<b:=#[ach _ (),abJ _ h]
def RZ{P:D->Prop}{ρ:DN}(h:P (.bl (decide (i=j)))):dC (.int j) ρ (λb=>xK (.int i) b P):=xM h
def Kk(w:W)(i:Nat)(r:List Nat):(w.map aw).set i (aw r)=(w.set i r).map aw:=by rw[vE]
def ko(l:List a)(k:Nat)(h:k<=l.length):cutD l (some (k:Int)) none=l.drop k:=by
 unfold cutD
 have b:HT.cC l.length 0 (some (k:Int))=k:=by
  simp only[HT.cC]
  split<;>lia
 have c:HT.cC l.length l.length none=l.length:=rfl;rw[b,c];exact CG (by simp)
def fo{w:W}(h:p<w.length):fc (w.map aw) (p:Int)\(aw (row w p)):=gm (zu h)
def gM{a:List Nat}(h:p<a.length):fc (a.map ao) (p:Int)\(ao (a.getD p 0)):=gm (by rw[bW,bK,cv h];rfl)
def g9(I:Nat->DN->Prop)(c:I 0 a)(d:∀(j:Nat)(a:DN),j<n->I j a->∀A:DN->Prop,(∀a,I (j+1) a->A a)->g (ao j) a λe=>b {nx:=A,ct:=A,bk:=E.nx,rt:=E.rt,xc:=E.xc} e)
  (f:∀a,I n a->E.nx a):iE g b E (eM 0 n) a:=Lr I c (λj a i h A k=>by
 have:=d j a i h A k
 unfold ao at this;rw[Int.zero_add];exact this) f
def xo(n:Nat)(a:List Nat):Prop:=a.length=n/\a.Nodup/\∀x∈a,x<n
def dq(N:xo n a)(h:x<n):x∈a:=by
 apply FB;intro c
 have:(x::a).length<=(ac n).length:=az (cI.mpr #[c,N.2.1]) λy b=>by
  rcases bu.mp b with rfl|b
  .exact b9.mpr h
  .exact b9.mpr (N.2.2 y b)
 rw[fB,b8,N.1] at this;lia
theorem w9:∀(b:List Nat)(m:Nat),m<b.idxOf x->b[m]? ≠some x
 | [],m,h=>by simp at h
 |a::b,m,h=>by
  rw[acj] at h
  by_cases e:(a==x)=true
  .rw[e] at h;simp at h
  .rw[rB.mpr e] at h
   cases m with
   |zero=>intro z;simp at z;exact e (by simp[z])
   |succ m=>rw[uu];exact w9 b m (~~~h)
def F3{a:List Nat}{x:Nat}{P:D->Prop}(h:x∈a)(q:P (ao (a.idxOf x))):eE (ao x)=true/\(a.map ao).all eE=true/\∃(j:Nat)(z:D),(a.map ao)[j]?\z/\iC z (ao x)=true/\(∀(m:Nat) z,m<j->(a.map ao)[m]?\z->iC z (ao x)=false)/\P (.int (j:Nat)):=by
 have b:=we.mpr h;have e:a[a.idxOf x]?\x:=by rw[cv b];exact GM some (Ba b)
 refine#[rfl,cR _,a.idxOf x,ao x,by rw[bW,e];rfl,by simp[iC,ao],λm z c d=>?_,q]
 obtain⟨y,f,rfl⟩:=cu d
 have:y≠x:=by
  rintro rfl;exact w9 _ _ c f
 have:¬((y:Int)=(x:Int)):=()
 simpa [iC,ao] using this
def fE{a:List Nat}{x:Nat}(h:x∈a):(a.map ao)[a.idxOf x]?\(ao x)/\iC (ao x) (ao x)=true/\∀(m:Nat) z,m<a.idxOf x->(a.map ao)[m]?\z->iC z (ao x)=false:=by
 have:=F3 (P:=λd=>d=ao (a.idxOf x)) h rfl
 obtain⟨_,_,j,z,i,k,l,n⟩:=this;have b:=we.mpr h;have e:a[a.idxOf x]?\x:=by rw[cv b];exact GM some (Ba b)
 refine#[by rw[bW,e];rfl,by simp[iC,ao],λm z c f=>?_]
 obtain⟨y,g,rfl⟩:=cu f
 have:y≠x:=by
  rintro rfl;exact w9 _ _ c g
 have:¬((y:Int)=(x:Int)):=()
 simpa [iC,ao] using this
def kK(n:Nat):eM 0 n=(ac n).map λ(x:Nat)=>ao x:=by unfold eM ao;simp
theorem jh{g:b->PyData}(h:∀a,(f a).py\(g a)):∀l:List b,gj (l.map f)\(l.map g)
 | []=>rfl
 |a::l=>by
  have:=jh h l
  rw[cX,gj,h a,this];rfl
def t8(r:List Nat):(aw r).py\(nY r):=by
 unfold aw nY;rw[D.py,jh (g:=nD) (λn=>rfl)];rfl
def Ig(w:W):(aX w).py\(uh w):=by
 unfold aX uh;rw[D.py,jh (g:=nY) t8];rfl
def Dh{v w:W}{P:D->Prop}(h:P (.bl (decide (v=w)))):xK (aX v) (aX w) P:=by
 refine#[_,_,Ig v,Ig w,by have:=Du v;lia,?_]
 have:PyData.eqv (uh v) (uh w)=decide (v=w):=by
  by_cases e:v=w
  .rw[GT e];exact(Au v w).mpr e
  .rw[Gc e]
   apply rB.mpr;exact λz=>e ((Au v w).mp z)
 rw[ir cP,this];exact h
def DB(a b:List Nat):PyData.eqv (nY a) (nY b)=decide (a=b):=by
 by_cases e:a=b
 .rw[GT e];exact(uL a b).mpr e
 .rw[Gc e]
  apply rB.mpr;exact λz=>e ((uL a b).mp z)
def Dg{v w:List Nat}{P:D->Prop}(h:P (.bl (decide (v=w)))):xK (aw v) (aw w) P:=by
 refine#[_,_,t8 v,t8 w,by have:=oR v;lia,?_]
 rw[ir cP,DB];exact h
def xN{v w:List Nat}{P:D->Prop}(h:P (.bl (!decide (v=w)))):sY (aw v) (aw w) P:=by
 refine#[_,_,t8 v,t8 w,by have:=oR v;lia,?_]
 rw[mo rfl,DB];exact h
variable {P:Program} {w:World} {mg:Str->Option Value} {base:Heap} {Z:DC} (T:Txt Z mg)
def su(k:Nat×Nat):PyData:= .tuple [nD k.1,nD k.2]
def M0(k:Nat×Nat):(pairD k).py\(su k):=by
 unfold pairD;rw[D.py,gj,gj,gj];rfl
def As(a b:Nat×Nat):PyData.eqv (su a) (su b)=true↔a=b:=by
 unfold su nD;simp[PyData.eqv,PyData.eqvAll]
 constructor
 .rintro⟨c,d⟩;exact aah () ()
 .rintro rfl;exact#[rfl,rfl]
end oH
namespace TP
open PySem PyProof.Rows TS
def iX(S:Keyed->Prop)(a:SortKind)(M:Model)(A:Around)(E:Value->Shared->Prop)(s:Shared):Prop:=
 ∀(x y:Keyed)(st:SortSt)(Q:Option Bool->SortSt->Prop),S x->S y->kindOf st=a->(∀b,Q (some b) st)->wpS M A E s (lt' x y) Q st
section
variable {S:Keyed->Prop} {k0:SortKind} {M:Model} {A:Around} {E:Value->Shared->Prop} {s:Shared} {st b7:SortSt}
theorem KA(C:iX S k0 M A E s)(e:arr[base+i]?\x)(a:S k)(c:S x)(d:kindOf st=k0)
  (q:∀b,Q (some b) st):wpS M A E s (jz left k arr base i) Q st:=by
 unfold jz;refine Do (bH e ?_);cases left with
 |true=>exact C _ _ _ _ c a d q
 |false=>exact Do (C _ _ _ _ a c d λb=>FM (q _))
theorem mG(C:iX S k0 M A E s)(G:∀i,i<n->∃x,arr[base+i]?\x/\S x)(w:S k)(y:kindOf st=k0)(z:g<n)
  (q:∀p,p<=n->Q (some p) st):wpS M A E s (fJ left k arr base n g) Q st:=by
 have t:∀{i:Nat}{u:Option Bool->SortSt->Prop},i<n->(∀b,u (some b) st)->wpS M A E s (jz left k arr base i) u st:=λ {i u} d B=>by
  obtain⟨x,e,F⟩:=G i d;exact KA C e w F y B
 rw[DQ];refine Do (t z λr=>?_)
 have fin:∀lo d,d<=n->
   wpS M A E s (do
    let mut lo:=lo
    let mut d:=d
    for _ in [0:n] do
     if lo>=d then break
     let m:=lo+(d-lo) / 2
     let some more <-jz left k arr base m|return none
     if more then lo:=m+1 else d:=m
    return some d) Q st:=by
  intro lo d H;dsimp only;refine Do (Os (PP (I:=λ_ c f=>f=st/\∃lo d,c=(none,lo,d)/\d<=n) (Q:=λc f=>f=st/\∃lo d,c=(none,lo,d)/\d<=n) ?_ (λ_ _ h=>h) #[rfl,lo,d,rfl,H]) ?_)
  .rintro x c f _ v ⟨rfl,lo,d,rfl,a⟩
   dsimp only
   by_cases l:lo>=d
   .rw[mo l];exact FM #[rfl,lo,d,rfl,a]
   .rw[ir l]
    refine Do (t () λb=>?_)
    cases b<;>exact FM #[rfl,_,_,rfl,()]
  .rintro c f ⟨rfl,lo,d,rfl,a⟩
   exact FM (q _ a)
 dsimp only;cases r with
 |true=>
  rw[mo rfl];refine Do (Os (PP (I:=λ_ c f=>f=st/\∃j o:Nat,c=(none,j,o)) (Q:=λc f=>f=st/\∃j o:Nat,c=(none,j,o)) ?_ (λ_ _ h=>h) #[rfl,0,1,rfl]) ?_)
  .rintro x c f _ v ⟨rfl,j,o,rfl⟩
   dsimp only
   by_cases l:o>=n-g
   .rw[mo l];exact FM #[rfl,j,o,rfl]
   .rw[ir l]
    refine Do (t () λb=>?_)
    cases b<;>exact FM #[rfl,_,_,rfl]
  .rintro c f ⟨rfl,j,o,rfl⟩
   exact fin _ _ ()
 |false=>
  rw[ir ∅]
  refine Do (Os (PP (I:=λ_ c f=>f=st/\∃j o:Nat,c=(none,j,o)) (Q:=λc f=>f=st/\∃j o:Nat,c=(none,j,o)) ?_ (λ_ _ h=>h) #[rfl,0,1,rfl]) ?_)
  .rintro x c f _ v ⟨rfl,j,o,rfl⟩
   dsimp only
   by_cases l:o>=g+1
   .rw[mo l];exact FM #[rfl,j,o,rfl]
   .rw[ir l]
    refine Do (t () λb=>?_)
    cases b<;>exact FM #[rfl,_,_,rfl]
  .rintro c f ⟨rfl,j,o,rfl⟩
   exact fin _ _ ()
def Eg(C:iX S k0 M A E s)(o:Ok S k0 st)(a:i<(arrOf st).size)(c:j<(arrOf st).size)(q:∀b,Q (some b) st):wpS M A E s (ltAt' i j) Q st:=by
 rw[ltAt'_eq];obtain⟨d,e⟩:=o.at a;obtain⟨f,g⟩:=o.at c;exact Do (aaJ (Do (bH d (Do (bH f (C _ _ _ _ e g o.kind q))))))
def KD(C:iX S k0 M A E s){lo n ok:Nat}{Q:Bool->SortSt->Prop}(o:Ok S k0 st)(p:lo+n<=(arrOf st).size)
  (h:∀a,gT st a lo (lo+n)->Q true a):wpS M A E s (binarySort' lo n ok) Q st:=by
 rw[binarySort'_eq];refine Do (Os (PP (I:=λ_ c a=>c=(none,⟨⟩)/\gT st a lo (lo+n)) (Q:=λc a=>c=(none,⟨⟩)/\gT st a lo (lo+n)) ?_ (λ_ _ h=>h) #[rfl, .refl _ _ _]) ?_)
 .rintro k c a _ j ⟨rfl,d⟩
  have m:=o.step d;have q:=d.size;refine Do (Os (PP (I:=λ_ c e=>e=a/\∃l r,c=(none,l,r)/\l<=k/\r<=k) (Q:=λc e=>e=a/\∃l r,c=(none,l,r)/\l<=k/\r<=k) ?_ (λ_ _ h=>h) #[rfl,0,k,rfl,(),()]) ?_)
  .rintro x c e _ _ ⟨rfl,l,r,rfl,f,g⟩
   dsimp only
   by_cases i:l>=r
   .rw[mo i];exact FM #[rfl,l,r,rfl,f,g]
   .rw[ir i]
    refine Do (Eg C m () () λb=>?_)
    cases b
    .exact FM #[rfl,_,_,rfl,(),()]
    .exact FM #[rfl,_,_,rfl,(),()]
  .rintro c e ⟨rfl,l,r,rfl,f,g⟩
   show wpS _ _ _ _ (do moveDown' (lo+k) (lo+l);pure (ForInStep.yield (none,Unit.unit))) _ _
   rw[moveDown'_eq];exact Do (aaS (FM #[rfl,d.trans (gT.bubble () () () ())]))
 .rintro c a ⟨rfl,d⟩
  exact FM (h a d)
end
section
variable {S:Keyed->Prop} {k0:SortKind} {prog:Program} {w:World} {A:Around} {E:Value->Shared->Prop} {s:Shared} {st b7:SortSt}
def Qu(C:iX S k0 (model prog w) A E s){lo a d:Nat}{Q:AscSt->SortSt->Prop}(o:Ok S k0 st)(j:lo+d<=(arrOf st).size)(k:1<=a)(f:a<=d)(h:∀n,a<=n->n<=d->Q (none,n) st):wpS (model prog w) A E s (CZ lo a d) Q st:=by
 unfold CZ;refine PP (I:=λx c e=>e=st/\c=(none,x)/\a<=x) ?_ ?_ #[rfl,rfl,aY _]
 .rintro x c e g l ⟨rfl,rfl,_⟩
  dsimp only;refine Do (Eg C o () () λb=>?_)
  cases b
  .exact FM #[rfl,rfl,()]
  .exact FM (h x g ())
 .rintro c e ⟨rfl,rfl,i⟩
  exact h _ i ()
def NM(C:iX S k0 (model prog w) A E s){lo n c:Nat}{Q:Option Nat->SortSt->Prop}(o:Ok S k0 st)(f:lo+c<=(arrOf st).size)(g:1<=n)(i:n<=c)
  (h:∀m e,gT st e lo (lo+c)->1<=m->m<=c->Q (some m) e):wpS (model prog w) A E s (tailL lo n c) Q st:=by
 unfold tailL;have d:gT st (setArr st (mirror (arrOf st) lo (lo+n) ((lo+n-lo) / 2))) lo (lo+c):=gT.mirror (aY _) () ()
 exact Do (um (Do (Qu C (o.step d) (by rw[d.size];exact f) g i λm a b=>FM (h m _ d () b))))
def K5(C:iX S k0 (model prog w) A E s){lo n f:Nat}{Q:Option Nat->SortSt->Prop}(o:Ok S k0 st)(z:lo+f<=(arrOf st).size)(B:n+1<=f)
  (h:∀m d,gT st d lo (lo+f)->1<=m->m<=f->Q (some m) d):wpS (model prog w) A E s (descP lo n f) Q st:=by
 unfold descP;refine Do (abf (aau #[rfl,?_]));unfold Ft
 have fin:∀m a d,gT st d lo (lo+f)->1<=m->m<=f->a+1<=m->wpS (model prog w) A E s (if a>0 then do
   reverseSlice' (lo+m-(a+1)) (lo+m)
   tailL lo m f else tailL lo m f) Q d:=λm a d e p q g=>by
  have u:=e.size
  split
  .have i:gT d (setArr d (mirror (arrOf d) (lo+m-(a+1)) (lo+m) ((lo+m-(lo+m-(a+1))) / 2))) lo (lo+f):=gT.mirror () () ()
   exact Do (um (NM C (o.step (e.trans i)) (by rw[i.size];lia) p q λj k l=>h j k ((e.trans i).trans l)))
  .exact NM C (o.step e) () p q λj k l=>h j k (e.trans l)
 refine Do (Os (PP (I:=λx c d=>∃a,c=(none,x,a)/\gT st d lo (lo+f)/\a+1<=x/\n+1<=x) (Q:=λc d=>∃m a,c=(none,m,a)/\gT st d lo (lo+f)/\a+1<=m/\m<=f) ?_ ?_ #[0,rfl, .refl _ _ _,(),()]) ?_)
 .rintro x c d F G ⟨a,rfl,e,g,v⟩
  dsimp only;have r:=o.step e;have u:=e.size;refine Do (Eg C r () () λb=>?_)
  cases b
  .refine Do (Eg C r () () λb=>?_)
   cases b
   .exact FM #[a+1,rfl,e,(),()]
   .exact FM #[x,a,rfl,e,g,()]
  .by_cases t:a>0
   .simp only[aal,mo t]
    exact Do (um (FM #[0,rfl,e.trans (gT.mirror () () ()),(),()]))
   .simp only[aal,ir t]
    exact FM #[0,rfl,e,(),()]
 .rintro c d ⟨a,rfl,e,g,v⟩
  exact#[_,a,rfl,e,g,()]
 .rintro c d ⟨m,a,rfl,e,g,y⟩
  exact fin m a d e () y g
def Oa(C:iX S k0 (model prog w) A E s){lo a:Nat}{Q:Option Nat->SortSt->Prop}(o:Ok S k0 st)(d:lo+a<=(arrOf st).size)(k:1<=a)
  (h:∀m e,gT st e lo (lo+a)->1<=m->m<=a->Q (some m) e):wpS (model prog w) A E s (countRun' lo a) Q st:=by
 rw[zP];refine Do (Qu C o d (aY 1) k λn f g=>?_);dsimp only
 by_cases i:n=a
 .rw[mo (~~~i)]
  exact FM (h n st (.refl _ _ _) f g)
 .rw[ir (~~~i)]
  by_cases j:n>1
  .rw[mo j]
   refine Do (Eg C o () () λb=>?_)
   cases b
   .have c:gT st (setArr st (mirror (arrOf st) lo (lo+n) ((lo+n-lo) / 2))) lo (lo+a):=gT.mirror (aY _) () ()
    exact Do (um (K5 C (o.step c) (by rw[c.size];lia) () λl p q=>h l p (c.trans q)))
   .exact FM (h n st (.refl _ _ _) f g)
  .rw[ir j]
   exact K5 C o d () h
end
def PI(l o a b:List Keyed):Prop:=(o++(a++b)).Perm l
def PI.swap(v:PI l o a b):PI l o b a:=((lJ).append_left o).trans v
def PI.many{l o xs a b:List Keyed}(v:PI l o (xs++a) b):PI l (o++xs) a b:=by
 unfold PI at*;simpa [h8] using v
def PI.y0{out a:Array Keyed}(v:PI l out.toList (a.toList.drop b) c)(h:a[b]?\x):PI l (out.push x).toList (a.toList.drop (b+1)) c:=by
 rw[drop_cons h] at v;rw[vw];exact PI.many (xs:= [x]) v
def PI.Mh{out a:Array Keyed}{b k:Nat}(v:PI l out.toList (a.toList.drop b) c):PI l (out++a.extract b (b+k)).toList (a.toList.drop (b+k)) c:=by
 rw[vN _ b k] at v;rw[A9,TS.ext_toList,show b+k-b=k by lia];exact v.many
def PI.done{out a b:Array Keyed}(v:PI l out.toList (a.toList.drop c) (b.toList.drop d)):(out++a.extract c a.size++b.extract d b.size).toList.Perm l:=by
 rw[A9,A9,DH,DH,h8];exact v
section
variable {S:Keyed->Prop} {k0:SortKind} {M:Model} {A:Around} {E:Value->Shared->Prop} {s:Shared} {st b7:SortSt} {a b:Array Keyed}
def Inv(a b:Array Keyed)(n:Nat)(out:Array Keyed)(c d:Nat):Prop:=PI (a.toList++b.toList) out.toList (a.toList.drop c) (b.toList.drop d)/\c+1<a.size/\d<b.size/\n<=c+d
def Fin{d:Type}(a b:Array Keyed)(n:Nat)(c:Option (Array Keyed)×Array Keyed×Nat×Nat×d):Prop:=
 (∃r,c.1\r/\r.toList.Perm (a.toList++b.toList))\/(c.1=none/\Inv a b n c.2.1 c.2.2.1 c.2.2.2.1)
def Out{d:Type}(a b:Array Keyed)(n:Nat)(r:ForInStep (Option (Array Keyed)×Array Keyed×Nat×Nat×d)):Prop:=match r with
 | .done c=>Fin a b n c
 | .yield c=>c.1=none/\Inv a b n c.2.1 c.2.2.1 c.2.2.2.1
def A0{xs:Array Keyed}(m:∀x∈xs.toList,S x){i n:Nat}(h:i+n<=xs.size):∀j,j<n->∃x,xs[i+j]?\x/\S x:=λj d=>by
 obtain⟨x,e,c,_⟩:=eI (xs:=xs) (i:=i+j) ()
 exact#[x,e,m x c]
def Wh(g:GS b7 st)(v:PI (a.toList++b.toList) out.toList (a.toList.drop c) (b.toList.drop d))(q:c+1<a.size)(o:d<b.size)(t:n<=c+d):
  wpS M A E s (BZ a b k l m c out d) (λr p=>GS b7 p/\Out a b n r) st:=by
 unfold BZ;obtain⟨x,e,u,_⟩:=eI (xs:=a) (i:=c) ()
 refine Do (bH e ?_);have f:=v.y0 e;dsimp only
 by_cases h:c+1+1=a.size
 .rw[mo (~~~h)]
  exact FM #[g, .inl #[_,rfl,f.swap.done]]
 .rw[ir (~~~h)]
  have j:Inv a b n (out.push x) (c+1) d:=#[f,(),o,()]
  split
  .exact FM #[g, .inr #[rfl,j]]
  .exact FM #[g,rfl,j]
def Wg(C:iX S k0 M A E s)(q:∀x∈a.toList,S x)(t:∀x∈b.toList,S x)(u:kindOf st=k0)(g:GS b7 st)(v:PI (a.toList++b.toList) out.toList (a.toList.drop d) (b.toList.drop c))(f:d+1<a.size)(F:c<b.size)(J:n<=d+c):
  wpS M A E s (uY a b w z B c out d) (λr G=>GS b7 G/\Out a b n r) st:=by
 unfold uY;obtain⟨y,h,L,_⟩:=eI (xs:=b) (i:=c) F;refine Do (bH h ?_);have e:=(v.swap.y0 h).swap;dsimp only
 by_cases j:c+1=b.size
 .rw[mo (~~~j)]
  exact FM #[g, .inl #[_,rfl,e.done]]
 .rw[ir (~~~j)]
  obtain⟨x,H,I,N⟩:=eI (xs:=a) (i:=d) ()
  refine Do (bH H (Do (mG C (A0 t ()) (q x I) u () λp O=>?_)))
  dsimp only
  by_cases l:p>0
  .rw[mo l]
   have m:=(e.swap.Mh (k:=p)).swap
   by_cases o:c+1+p=b.size
   .rw[mo (~~~o)]
    exact FM #[g, .inl #[_,rfl,m.done]]
   .rw[ir (~~~o)]
    exact Wh g m f () ()
  .rw[ir l]
   exact Wh g e f () ()
def lo1(C:iX S k0 M A E s)(e:∀x∈a.toList,S x)(f:∀x∈b.toList,S x)(w:kindOf st=k0)(g:GS b7 st)(G:Inv a b n out c h):wpS M A E s (rZ a b F B c h out z) (λr H=>GS b7 H/\Out a b n r) st:=by
 obtain⟨v,I,j,J⟩:=G;unfold rZ;refine Do (qH λL o=>?_);have l:kindOf L=k0:=o.kind.trans w;have d:=g.trans o;obtain⟨y,N,O,P⟩:=eI (xs:=b) (i:=h) j;refine Do (bH N (Do (mG C (A0 e ()) (f y O) l () λp Q=>?_)))
 dsimp only
 by_cases q:p>0
 .rw[mo q]
  have m:=v.Mh (k:=p)
  by_cases t:c+p+1=a.size
  .rw[mo (~~~t)]
   exact FM #[d, .inl #[_,rfl,m.swap.done]]
  .rw[ir (~~~t)]
   by_cases u:c+p=a.size
   .rw[mo (~~~u)]
    exact FM #[d, .inl #[_,rfl,m.done]]
   .rw[ir (~~~u)]
    exact Wg C e f l d m () j ()
 .rw[ir q]
  exact Wg C e f l d v I j J
def loT(C:iX S k0 M A E s)(d:∀x∈a.toList,S x)(e:∀x∈b.toList,S x)(f:kindOf st=k0)(g:GS b7 st)(c:Option (Array Keyed)×Array Keyed×Nat×Nat×Nat×Nat×Nat)(h:Inv a b n c.2.1 c.2.2.1 c.2.2.2.1):
  wpS M A E s (B2 a b c) (λr i=>GS b7 i/\Out a b n r) st:=by
 unfold B2
 split<;>exact lo1 C d e f g h
theorem loO(C:iX S k0 M A E s)(p:∀x∈a.toList,S x)(q:∀x∈b.toList,S x)(t:kindOf st=k0)(g:GS b7 st)(c:Option (Array Keyed)×Array Keyed×Nat×Nat×Nat×Nat)(d:Inv a b n c.2.1 c.2.2.1 c.2.2.2.1):
  wpS M A E s (B0 a b u c) (λr w=>GS b7 w/\Out a b (n+1) r) st:=by
 obtain⟨H,out,j,k,I,J⟩:=c;obtain⟨v,z,o,B⟩:=d;dsimp only at v z o B;unfold B0;dsimp only;obtain⟨y,l,F,L⟩:=eI (xs:=b) (i:=k) o;obtain⟨x,m,G,N⟩:=eI (xs:=a) (i:=j) ()
 refine Do (bH l (Do (bH m (Do (C _ _ _ _ (q y F) (p x G) t λe=>?_)))));cases e with
 |true=>
  dsimp only;rw[mo rfl];refine Do (bH l ?_);have f:=(v.swap.y0 l).swap
  by_cases h:k+1=b.size
  .rw[mo (~~~h)]
   exact FM #[g, .inl #[_,rfl,f.done]]
  .rw[ir (~~~h)]
   have d:Inv a b (n+1) (out.push y) j (k+1):=#[f,(),(),()]
   split
   .exact FM #[g, .inr #[rfl,d]]
   .exact FM #[g,rfl,d]
 |false=>
  dsimp only;rw[ir ∅]
  refine Do (bH m ?_);have f:=v.y0 m
  by_cases h:j+1+1=a.size
  .rw[mo (~~~h)]
   exact FM #[g, .inl #[_,rfl,f.swap.done]]
  .rw[ir (~~~h)]
   have d:Inv a b (n+1) (out.push x) (j+1) k:=#[f,(),(),()]
   split
   .exact FM #[g, .inr #[rfl,d]]
   .exact FM #[g,rfl,d]
def Inv.le(h:Inv a b n out c d)(e:m<=n):Inv a b m out c d:=#[h.1,h.2.1,h.2.2.1,i5 e h.2.2.2]
theorem loU(C:iX S k0 M A E s)(q:∀x∈a.toList,S x)(t:∀x∈b.toList,S x)(g:GS b7 st)(u:kindOf b7=k0)(c:Option (Array Keyed)×Array Keyed×Nat×Nat×Nat)(v:Inv a b n c.2.1 c.2.2.1 c.2.2.2.1):
  wpS M A E s (tQ a b c) (λr i=>GS b7 i/\match r with
   | .done c=>∃r,c.1\r/\r.toList.Perm (a.toList++b.toList)
   | .yield c=>c.1=none/\Inv a b (n+1) c.2.1 c.2.2.1 c.2.2.2.1) st:=by
 have H:0<a.size+b.size:=by have:=v.2.1;lia
 unfold tQ;refine Do (Os (PP (I:=λ(x:Nat)(f:Option (Array Keyed)×Array Keyed×Nat×Nat×Nat×Nat)(i:SortSt)=>GS b7 i/\f.1=none/\Inv a b (n+min x 1) f.2.1 f.2.2.1 f.2.2.2.1) (Q:=λf i=>GS b7 i/\Fin a b (n+1) f) ?_ ?_ #[g,rfl,v.le ()]) ?_)
 .rintro x f i _ _ ⟨j,p,l⟩
  refine Os (loO C q t (j.kind.trans u) j f l) λr w #[m,o]=>?_;cases r with
  |done d=>
   exists m
   rcases o with o| ⟨y,z⟩
   .exact .inl o
   .exact .inr #[y,z.le ()]
  |yield d=>exact#[m,o.1,o.2.le ()]
 .rintro f i ⟨j,p,l⟩
  exact#[j, .inr #[p,l.le ()]]
 .rintro⟨J,L⟩ i ⟨j,o⟩
  rcases o with ⟨r,e,k⟩ | ⟨e,B⟩
  .dsimp only at e
   subst e;exact FM #[j,r,rfl,k]
  .dsimp only at e
   subst e;dsimp only;refine Do (abf (aau #[rfl,?_]));refine Do (Os (PP (I:=λ(x:Nat)(f:Option (Array Keyed)×Array Keyed×Nat×Nat×Nat×Nat×Nat)(i:SortSt)=>GS b7 i/\f.1=none/\Inv a b (n+1) f.2.1 f.2.2.1 f.2.2.2.1) (Q:=λf i=>GS b7 i/\Fin a b (n+1) f) ?_ (λf i h=>#[h.1, .inr h.2]) #[j,rfl,B]) ?_)
   .rintro x f i _ _ ⟨j,p,l⟩
    refine Os (loT C q t (j.kind.trans u) j f l) λr w #[m,o]=>?_;cases r with
    |done d=>exact#[m,o]
    |yield d=>exact#[m,o]
   .rintro⟨N,O⟩ i ⟨j,o⟩
    rcases o with ⟨r,e,k⟩ | ⟨e,F⟩
    .dsimp only at e
     subst e;exact FM #[j,r,rfl,k]
    .dsimp only at e
     subst e;exact Do (qH λP G=>FM #[j.trans G,rfl,F])
def JB(C:iX S k0 M A E s)(p:∀x∈a.toList,S x)(t:∀x∈b.toList,S x)(u:kindOf st=k0)(B:0<a.size)(v:0<b.size)(q:∀r c,GS st c->r.toList.Perm (a.toList++b.toList)->Q r c):wpS M A E s (qC a b) Q st:=by
 rw[B5];refine Do (abf (aau #[rfl,?_]));obtain⟨y,m,F,G⟩:=eI (xs:=b) (i:=0) v;refine Do (bH m ?_);have w:PI (a.toList++b.toList) (#[]:Array Keyed).toList (a.toList.drop 0) (b.toList.drop 0):= .refl _;have h:=(w.swap.y0 m).swap;have z:(#[]:Array Keyed).push y= [y].toArray:=rfl;rw[z] at h
 by_cases j:1=b.size
 .rw[mo (~~~j)]
  exact FM (q _ _ (GS.refl _) h.done)
 .rw[ir (~~~j)]
  by_cases g:0+1=a.size
  .rw[mo (~~~g)]
   exact FM (q _ _ (GS.refl _) h.swap.done)
  .rw[ir (~~~g)]
   refine Do (aaJ ?_);refine Do (Os (PP (I:=λ(x:Nat)(f:Option (Array Keyed)×Array Keyed×Nat×Nat×Nat)(c:SortSt)=>GS st c/\f.1=none/\Inv a b (x+1) f.2.1 f.2.2.1 f.2.2.2.1) (Q:=λf c=>GS st c/\∃r,f.1\r/\r.toList.Perm (a.toList++b.toList)) ?_ ?_ #[GS.refl _,rfl,h,by show 0+1<a.size;lia,by show 1<b.size;lia,by show 0+1<=0+1;lia]) ?_)
   .rintro x f c _ _ ⟨k,j,g⟩
    refine Os (loU C p t k u f g) λr H #[n,o]=>?_;cases r with
    |done d=>exact#[n,o]
    |yield d=>exact#[n,o]
   .rintro f c ⟨k,j,g⟩
    have:=g.2.2.2
    have:=g.2.1
    have:=g.2.2.1
    lia
   .rintro⟨J,L⟩ c ⟨k,r,e,l⟩
    dsimp only at e;subst e;exact FM (q r c k l)
end
def PI.tail(v:PI l o (a++xs) b)(p:c.Perm xs):PI l (o++c) a b:=
 PI.many ((((lJ.trans (p.append_left a)).append_right b).append_left o).trans v)
def PI.EE{out a:Array Keyed}(v:PI l out.toList (a.toList.take b) c)(f:1<=b)(h:a[b-1]?\x):PI l (out.push x).toList (a.toList.take (b-1)) c:=by
 obtain⟨d,e⟩:=df.mp (Md h)
 have:=List.take_succ_eq_append_getElem d
 rw[show b-1+1=b by lia,e] at this
 rw[this] at v;rw[vw];exact v.tail (.refl _)
def PI.Qy{out a:Array Keyed}(v:PI l out.toList (a.toList.take b) c)(d:p<=b):PI l (out++(a.extract p b).reverse).toList (a.toList.take p) c:=by
 rw[wc a.toList d] at v;rw[A9,Array.toList_reverse,TS.ext_toList];exact v.tail (zy _)
def PI.told(v:PI l out.toList (a.toList.take c) (b.toList.take d)):(lV a b out c d).toList.Perm l:=by
 unfold lV;rw[A9,A9,QM,QM,Array.toList_reverse];exact((zy _).append_left _).trans (lJ.trans v)
section
variable {S:Keyed->Prop} {k0:SortKind} {M:Model} {A:Around} {E:Value->Shared->Prop} {s:Shared} {st b7:SortSt} {a b:Array Keyed}
def oj(a b:Array Keyed)(n:Nat)(c d:Nat)(out:Array Keyed):Prop:=PI (a.toList++b.toList) out.toList (a.toList.take c) (b.toList.take d)/\1<=c/\c<=a.size/\2<=d/\d<=b.size/\n+c+d<=a.size+b.size
def Rm{d:Type}(a b:Array Keyed)(n:Nat)(c:Option (Array Keyed)×Nat×Nat×Array Keyed×d):Prop:=
 (∃r,c.1\r/\r.toList.Perm (a.toList++b.toList))\/(c.1=none/\oj a b n c.2.1 c.2.2.1 c.2.2.2.1)
def Kp{d:Type}(a b:Array Keyed)(n:Nat)(r:ForInStep (Option (Array Keyed)×Nat×Nat×Array Keyed×d)):Prop:=match r with
 | .done c=>Rm a b n c
 | .yield c=>c.1=none/\oj a b n c.2.1 c.2.2.1 c.2.2.2.1
def VB(g:GS b7 st)(d:oj a b n c f out):wpS M A E s (BG a b k l m c out f) (λr o=>GS b7 o/\Kp a b n r) st:=by
 obtain⟨v,p,u,q,t,w⟩:=d;unfold BG;obtain⟨x,h,y,_⟩:=eI (xs:=a) (i:=c-1) ()
 refine Do (bH h ?_);have j:=v.EE p h
 by_cases e:c-1=0
 .rw[mo (~~~e)]
  exact FM #[g, .inl #[_,rfl,j.told]]
 .rw[ir (~~~e)]
  have d:oj a b n (c-1) f (out.push x):=#[j,(),(),q,t,()]
  split
  .exact FM #[g, .inr #[rfl,d]]
  .exact FM #[g,rfl,d]
def zR(C:iX S k0 M A E s)(t:∀x∈a.toList,S x)(u:∀x∈b.toList,S x)(w:kindOf st=k0)(g:GS b7 st)(G:oj a b n d c out):wpS M A E s (uO a b z B F c out d) (λr H=>GS b7 H/\Kp a b n r) st:=by
 obtain⟨v,j,k,N,O,P⟩:=G;unfold uO;obtain⟨y,l,Q,_⟩:=eI (xs:=b) (i:=c-1) ()
 refine Do (bH l ?_);have f:=(v.swap.EE () l).swap
 by_cases e:c-1=1
 .rw[mo (~~~e)]
  exact FM #[g, .inl #[_,rfl,f.swap.told]]
 .rw[ir (~~~e)]
  obtain⟨x,I,J,R⟩:=eI (xs:=a) (i:=d-1) ()
  refine Do (bH I (Do (mG C (A0 u ()) (t x J) w () λp L=>?_)))
  dsimp only
  by_cases m:c-1-p>0
  .rw[mo m]
   have h:=(f.swap.Qy L).swap
   by_cases o:p=1
   .rw[mo (~~~o)]
    exact FM #[g, .inl #[_,rfl,h.swap.told]]
   .rw[ir (~~~o)]
    by_cases q:p=0
    .rw[mo (~~~q)]
     exact FM #[g, .inl #[_,rfl,h.told]]
    .rw[ir (~~~q)]
     exact VB g #[h,j,k,(),(),()]
  .rw[ir m]
   exact VB g #[f,j,k,(),(),()]
def qL(C:iX S k0 M A E s)(c:∀x∈a.toList,S x)(d:∀x∈b.toList,S x)(u:kindOf st=k0)(g:GS b7 st)(F:oj a b n e f out):wpS M A E s (ye a b B z e f out w) (λr G=>GS b7 G/\Kp a b n r) st:=by
 obtain⟨v,H,I,k,l,J⟩:=F;unfold ye;refine Do (qH λL m=>?_);have h:kindOf L=k0:=m.kind.trans u;have j:=g.trans m;obtain⟨y,N,O,Q⟩:=eI (xs:=b) (i:=f-1) ()
 refine Do (bH N (Do (mG C (A0 c ()) (d y O) h () λp P=>?_)))
 dsimp only
 by_cases o:e-p>0
 .rw[mo o]
  have q:=v.Qy P
  by_cases t:p=0
  .rw[mo (~~~t)]
   exact FM #[j, .inl #[_,rfl,q.told]]
  .rw[ir (~~~t)]
   exact zR C c d h j #[q,(),(),k,l,()]
 .rw[ir o]
  exact zR C c d h j #[v,H,I,k,l,J]
def Zi(C:iX S k0 M A E s)(d:∀x∈a.toList,S x)(e:∀x∈b.toList,S x)(f:kindOf st=k0)(g:GS b7 st)(c:S7)(h:oj a b n c.2.1 c.2.2.1 c.2.2.2.1):
  wpS M A E s (BI a b c) (λr i=>GS b7 i/\Kp a b n r) st:=by
 unfold BI
 split<;>exact qL C d e f g h
theorem Zh(C:iX S k0 M A E s)(t:∀x∈a.toList,S x)(u:∀x∈b.toList,S x)(w:kindOf st=k0)(g:GS b7 st)(c:S6)(d:oj a b n c.2.1 c.2.2.1 c.2.2.2.1):
  wpS M A E s (BH a b z c) (λr B=>GS b7 B/\Kp a b (n+1) r) st:=by
 obtain⟨J,j,k,out,L,N⟩:=c;obtain⟨v,o,F,p,q,G⟩:=d;dsimp only at v o F p q G;unfold BH;dsimp only;obtain⟨y,l,H,O⟩:=eI (xs:=b) (i:=k-1) ()
 obtain⟨x,m,I,P⟩:=eI (xs:=a) (i:=j-1) ()
 refine Do (bH l (Do (bH m (Do (C _ _ _ _ (u y H) (t x I) w λe=>?_)))));cases e with
 |true=>
  dsimp only;rw[mo rfl];refine Do (bH m ?_);have f:=v.EE o m
  by_cases h:j-1=0
  .rw[mo (~~~h)]
   exact FM #[g, .inl #[_,rfl,f.told]]
  .rw[ir (~~~h)]
   have d:oj a b (n+1) (j-1) k (out.push x):=#[f,(),(),p,q,()]
   split
   .exact FM #[g, .inr #[rfl,d]]
   .exact FM #[g,rfl,d]
 |false=>
  dsimp only;rw[ir ∅]
  refine Do (bH l ?_);have f:=(v.swap.EE () l).swap
  by_cases h:k-1=1
  .rw[mo (~~~h)]
   exact FM #[g, .inl #[_,rfl,f.swap.told]]
  .rw[ir (~~~h)]
   have d:oj a b (n+1) j (k-1) (out.push y):=#[f,(),(),(),(),()]
   split
   .exact FM #[g, .inr #[rfl,d]]
   .exact FM #[g,rfl,d]
def oj.le(h:oj a b n c d out)(e:m<=n):oj a b m c d out:=#[h.1,h.2.1,h.2.2.1,h.2.2.2.1,h.2.2.2.2.1,by have:=h.2.2.2.2.2;lia]
theorem Zj(C:iX S k0 M A E s)(t:∀x∈a.toList,S x)(u:∀x∈b.toList,S x)(g:GS b7 st)(v:kindOf b7=k0)(c:S5)(p:oj a b n c.2.1 c.2.2.1 c.2.2.2.1):
  wpS M A E s (tH a b c) (λr i=>GS b7 i/\match r with
   | .done c=>∃r,c.1\r/\r.toList.Perm (a.toList++b.toList)
   | .yield c=>c.1=none/\oj a b (n+1) c.2.1 c.2.2.1 c.2.2.2.1) st:=by
 have H:0<a.size+b.size:=by have:=p.2.1;have:=p.2.2.1;lia
 unfold tH;refine Do (Os (PP (I:=λ(x:Nat)(f:S6)(i:SortSt)=>GS b7 i/\f.1=none/\oj a b (n+min x 1) f.2.1 f.2.2.1 f.2.2.2.1) (Q:=λf i=>GS b7 i/\Rm a b (n+1) f) ?_ ?_ #[g,rfl,p.le ()]) ?_)
 .rintro x f i _ _ ⟨j,q,l⟩
  refine Os (Zh C t u (j.kind.trans v) j f l) λr w #[m,o]=>?_;cases r with
  |done d=>
   exists m
   rcases o with o| ⟨y,z⟩
   .exact .inl o
   .exact .inr #[y,z.le ()]
  |yield d=>exact#[m,o.1,o.2.le ()]
 .rintro f i ⟨j,q,l⟩
  exact#[j, .inr #[q,l.le ()]]
 .rintro⟨J,L⟩ i ⟨j,o⟩
  rcases o with ⟨r,e,k⟩ | ⟨e,B⟩
  .dsimp only at e
   subst e;exact FM #[j,r,rfl,k]
  .dsimp only at e
   subst e;dsimp only;refine Do (abf (aau #[rfl,?_]));refine Do (Os (PP (I:=λ(x:Nat)(f:S7)(i:SortSt)=>GS b7 i/\f.1=none/\oj a b (n+1) f.2.1 f.2.2.1 f.2.2.2.1) (Q:=λf i=>GS b7 i/\Rm a b (n+1) f) ?_ (λf i h=>#[h.1, .inr h.2]) #[j,rfl,B]) ?_)
   .rintro x f i _ _ ⟨j,q,l⟩
    refine Os (Zi C t u (j.kind.trans v) j f l) λr w #[m,o]=>?_;cases r with
    |done d=>exact#[m,o]
    |yield d=>exact#[m,o]
   .rintro⟨N,O⟩ i ⟨j,o⟩
    rcases o with ⟨r,e,k⟩ | ⟨e,F⟩
    .dsimp only at e
     subst e;exact FM #[j,r,rfl,k]
    .dsimp only at e
     subst e;exact Do (qH λP G=>FM #[j.trans G,rfl,F])
def JA(C:iX S k0 M A E s)(p:∀x∈a.toList,S x)(t:∀x∈b.toList,S x)(u:kindOf st=k0)(v:0<a.size)(z:0<b.size)(q:∀r c,GS st c->r.toList.Perm (a.toList++b.toList)->Q r c):wpS M A E s (qB a b) Q st:=by
 rw[B4];refine Do (abf (aau #[rfl,?_]));obtain⟨x,m,B,F⟩:=eI (xs:=a) (i:=a.size-1) ()
 refine Do (bH m ?_)
 have w:PI (a.toList++b.toList) (#[]:Array Keyed).toList (a.toList.take a.size) (b.toList.take b.size):=by
  rw[CG (by simp),CG (by simp)];exact .refl _
 have h:=w.EE v m;have y:(#[]:Array Keyed).push x= [x].toArray:=rfl;rw[y] at h
 by_cases j:a.size-1=0
 .rw[mo (~~~j)]
  exact FM (q _ _ (GS.refl _) h.told)
 .rw[ir (~~~j)]
  by_cases g:b.size=1
  .rw[mo (~~~g)]
   exact FM (q _ _ (GS.refl _) h.swap.told)
  .rw[ir (~~~g)]
   refine Do (aaJ ?_);refine Do (Os (PP (I:=λ(x:Nat)(f:S5)(c:SortSt)=>GS st c/\f.1=none/\oj a b (x+1) f.2.1 f.2.2.1 f.2.2.2.1) (Q:=λf c=>GS st c/\∃r,f.1\r/\r.toList.Perm (a.toList++b.toList)) ?_ ?_ #[GS.refl _,rfl,h,by show 1<=a.size-1;lia,by show a.size-1<=a.size;lia,by show 2<=b.size;lia,aY _,by show 0+1+(a.size-1)+b.size<=a.size+b.size;lia]) ?_)
   .rintro x f c _ _ ⟨k,j,g⟩
    refine Os (Zj C p t k u f g) λr G #[n,o]=>?_;cases r with
    |done d=>exact#[n,o]
    |yield d=>exact#[n,o]
   .rintro f c ⟨k,j,g⟩
    have:=g.2.2.2.2.2
    have:=g.2.1
    lia
   .rintro⟨H,J⟩ c ⟨k,r,e,l⟩
    dsimp only at e;subst e;exact FM (q r c k l)
end
section
variable {S:Keyed->Prop} {k0:SortKind} {prog:Program} {w:World} {A:Around} {E:Value->Shared->Prop} {s:Shared} {st b7:SortSt}
def HP{a:Array Keyed}(m:∀x∈a.toList,S x)(i j:Nat):∀x∈(a.extract i j).toList,S x:=λx b=>by
 rw[TS.ext_toList] at b;exact m x (List.mem_of_mem_drop (abt b))
def Jz(C:iX S k0 (model prog w) A E s)(o:Ok S k0 st)(t:failedOf st=none)(J:(pendingOf st)[i]?\(d,b,n))(L:(pendingOf st)[i+1]?\(d+b,h,I))(M:1<=b)(X:1<=h)(Y:d+b+h<=(arrOf st).size)
  (q:∀e,(arrOf e).Perm (arrOf st)->kindOf e=kindOf st->failedOf e=none->pendingOf e=((pendingOf st).setIfInBounds i (d,b+h,n)).eraseIdxIfInBounds (i+1)->Q true e):
  wpS (model prog w) A E s (mergeAt' i) Q st:=by
 rw[B3];refine Do (aaJ ?_);rw[J,L];dsimp only;refine Do (NR ?_);generalize ((pendingOf st).setIfInBounds i (d,b+h,n)).eraseIdxIfInBounds (i+1)=z at q;have l:kindOf (setPending st z)=k0:=o.kind;obtain⟨N,O,u,_⟩:=eI (xs:=arrOf st) (i:=d+b) ()
 refine Do (bH O (Do (mG C (A0 o.mem ()) (o.mem N u) l () λk Z=>?_)))
 dsimp only
 by_cases B:b-k=0
 .rw[mo (~~~B)]
  exact FM (q _ (.refl _) rfl t rfl)
 rw[ir (~~~B)]
 obtain⟨P,R,v,_⟩:=eI (xs:=arrOf st) (i:=d+k+(b-k)-1) ()
 refine Do (bH R (Do (mG C (A0 o.mem ()) (o.mem P v) l () λm hm=>?_)))
 dsimp only
 by_cases F:m=0
 .rw[mo (~~~F)]
  exact FM (q _ (.refl _) rfl t rfl)
 rw[ir (~~~F)]
 have x:((arrOf st).extract (d+k) (d+b)).size=b-k:=by rw[Array.size_extract];lia
 have y:((arrOf st).extract (d+b) (d+b+m)).size=m:=by rw[Array.size_extract];lia
 have fin:∀(r:Array Keyed)(e:SortSt),GS (setPending st z) e->r.toList.Perm (((arrOf st).extract (d+k) (d+b)).toList++((arrOf st).extract (d+b) (d+b+m)).toList)->
   wpS (model prog w) A E s (do
    modify λs=>setArr s (r.toList.zipIdx.foldl (λa (p,j)=>a.setIfInBounds (d+k+j) p) (arrOf s))
    return (failedOf (<-get)).isNone) Q e:=by
  intro r e g f;refine Do (aaS (Do (aaJ ?_)));have G:failedOf e=none:=g.failed.trans t
  have T:r.size=b-k+m:=by
   have:=f.length_eq
   rw[cA,eD,eD,eD,x,y] at this;exact this
  have H:d+k+r.size<=(arrOf e).size:=by rw[g.arr];show _<=(arrOf st).size;lia
  show wpS _ _ _ _ (pure (failedOf e).isNone) Q (setArr e (putAt (arrOf e) r (d+k)));rw[G];have U:arrOf e=arrOf st:=g.arr;rw[U] at H ⊢;refine FM (q _ (EF H ?_) g.kind G g.pend);rw[T];refine f.trans ?_;rw[TS.ext_toList,TS.ext_toList,show d+b-(d+k)=b-k by lia,show d+b+m-(d+b)=m by lia,wc _ (show b-k<=b-k+m by lia),acz,show d+k+(b-k)=d+b by lia,show b-k+m-(b-k)=m by lia]
 by_cases c:b-k<=m
 .rw[mo c]
  exact Do (JB C (HP o.mem _ _) (HP o.mem _ _) l (by rw[x];lia) (by rw[y];lia) λr e g f=>fin r e g f)
 .rw[ir c]
  exact Do (JA C (HP o.mem _ _) (HP o.mem _ _) l (by rw[x];lia) (by rw[y];lia) λr e g f=>fin r e g f)
def oF:Nat->List (Nat×Nat)->Nat->Prop
 |a,[],b=>a=b
 |a,e::r,b=>e.1=a/\1<=e.2/\oF (a+e.2) r b
theorem oF.app:∀{i g:List (Nat×Nat)}{a b:Nat},oF a (i++g) b↔∃c,oF a i c/\oF c g b
 | [],g,a,b=>#[λh=>#[a,rfl,h],λ#[c,d,f]=>by cases d;exact f]
 |e::i,g,a,b=>#[λ#[d,f,l]=>let #[c,j,k]:=oF.app.mp l;#[c,#[d,f,j],k],λ#[c,#[d,f,j],k]=>#[d,f,oF.app.mpr #[c,j,k]]]
theorem oF.le:∀{l:List (Nat×Nat)}{a b:Nat},oF a l b->a+l.length<=b
 | [],a,b,h=>by cases h;simp
 |e::l,a,b,#[_,d,c]=>by
  have:=oF.le c
  rw[b8];lia
structure SI (S:Keyed->Prop) (k0:SortKind) (a0:Array Keyed) (st:SortSt) (lo:Nat):Prop where
 ok:Ok S k0 st
 failed:failedOf st=none
 perm:(arrOf st).Perm a0
 cov:oF 0 ((pendingOf st).toList.map λe=>(e.1,e.2.1)) lo
 le:lo<=a0.size
theorem SI.size{a:Array Keyed}{lo:Nat}(h:SI S k0 a st lo):(arrOf st).size=a.size:=h.perm.size_eq
def Q4(C:iX S k0 (model prog w) A E s){j:Array Keyed}{lo i:Nat}{Q:Bool->SortSt->Prop}(h:SI S k0 j st lo)(v:i+1<(pendingOf st).size)
  (q:∀a,SI S k0 j a lo->(pendingOf a).size=(pendingOf st).size-1->Q true a):wpS (model prog w) A E s (mergeAt' i) Q st:=by
 have z:(pendingOf st)[i]? =some (pendingOf st)[i]:=abp _ i ()
 have B:(pendingOf st)[i+1]? =some (pendingOf st)[i+1]:=abp _ (i+1) v
 have k:(pendingOf st).toList=(pendingOf st).toList.take i++((pendingOf st)[i]::(pendingOf st)[i+1]::(pendingOf st).toList.drop (i+2)):=by
  conv=>lhs;rw[<-iT i (pendingOf st).toList]
  congr 1
  rw[mY (by rw[eD];lia),mY (by rw[eD];lia)]
  rfl
 generalize O:(pendingOf st)[i]=x at*;generalize P:(pendingOf st)[i+1]=y at*;obtain⟨d,e,F⟩:=x;obtain⟨R,f,T⟩:=y;have l:=h.cov;rw[k,cW,cX,cX] at l;obtain⟨c,G,H⟩:=oF.app.mp l;obtain⟨m,n,o,r,g⟩:=H;dsimp only at m n o r g;subst m;subst o;have I:=g.le;have U:=h.size;have X:=h.le;refine Jz C h.ok h.failed z B n r () λa t J L M=>?_
 have u:(pendingOf a).toList=(pendingOf st).toList.take i++((d,e+f,F)::(pendingOf st).toList.drop (i+2)):=by
  rw[M,Array.toList_eraseIdxIfInBounds,Array.toList_setIfInBounds]
  conv=>lhs;rw[k]
  have b:((pendingOf st).toList.take i).length=i:=by rw[kX,eD];lia
  rw[List.set_append_right _ _ (),List.eraseIdx_append_of_length_le (),b,uA,show i+1-i=1 by lia]
  rfl
 refine q a #[#[λp N=>h.ok.mem p ((CD.mp t).mem_iff.mp N),J.trans h.ok.kind],L,t.trans h.perm,?_,h.le] ?_
 .rw[u,cW,cX]
  refine oF.app.mpr #[d,G,rfl,?_,?_]
  .show 1<=e+f;lia
  .show oF (d+(e+f)) _ lo
   rw[<-Nat.add_assoc];exact g
 .rw[<-eD,u,cA,b8,kX,vy,eD];lia
def ZT(C:iX S k0 (model prog w) A E s){a:Array Keyed}{lo f:Nat}(h:SI S k0 a st lo):wpS (model prog w) A E s (Il f) (λr b=>match r with| .done c=>c=(none,⟨⟩)/\SI S k0 a b lo| .yield c=>c=(none,⟨⟩)/\SI S k0 a b lo) st:=by
 unfold Il;refine Do (aaJ ?_)
 by_cases d:(pendingOf st).size>1
 .rw[mo d]
  cases e:(pendingOf st)[(pendingOf st).size-2]? with
  |none=>exact FM #[rfl,h]
  |some x=>
   dsimp only
   split
   .exact FM #[rfl,h]
   .exact Do (Q4 C h () λb g _=>FM #[rfl,g])
 .rw[ir d]
  exact FM #[rfl,h]
def SI.Ie{a:Array Keyed}{lo n:Nat}(h:SI S k0 a st lo)(b:1<=n)(c:lo+n<=a.size):SI S k0 a (setPending st ((pendingOf st).push (lo,n,0))) (lo+n):=by
 refine#[#[h.ok.mem,h.ok.kind],h.failed,h.perm,?_,c];show oF 0 (((pendingOf st).push (lo,n,0)).toList.map _) _;rw[vw,cW];exact oF.app.mpr #[lo,h.cov,rfl,b,rfl]
theorem MV(C:iX S k0 (model prog w) A E s){b:Array Keyed}{lo n:Nat}(h:SI S k0 b st lo)(i:1<=n)(k:lo+n<=b.size):
  wpS (model prog w) A E s (nK b.size lo n) (λr a=>match r with| .done c=>False| .yield c=>c=(none,lo+n)/\SI S k0 b a (lo+n)) st:=by
 unfold nK;refine Do (aaJ ?_);cases(pendingOf st).back? with
 |none=>exact Do (aaS (FM #[rfl,h.Ie i k]))
 |some e=>
  dsimp only;refine Do (Os (PP (I:=λ(x:Nat)(c:U1)(a:SortSt)=>c=(none,⟨⟩)/\SI S k0 b a lo) (Q:=λc a=>c=(none,⟨⟩)/\SI S k0 b a lo) (λx c a _ _ g=>?_) (λc a g=>g) #[rfl,h]) ?_)
  .refine Os (ZT C g.2) λr m o=>?_
   cases r with
   |done d=>exact o
   |yield d=>exact o
  .rintro c a ⟨rfl,f⟩
   dsimp only;refine Do (aaS (Do (aaS (FM #[rfl,SI.Ie #[#[f.ok.mem,f.ok.kind],f.failed,f.perm,?_,f.le] i k]))));refine Eq.mp (GM (λl=>oF 0 l lo) ?_) f.cov;apply rA;intro j;show _=(((pendingOf a).modify _ _).toList.map _)[j]?;rw[bW,bW,gD,gD,Array.getElem?_modify]
   split
   .cases(pendingOf a)[j]? <;>rfl
   .rfl
def SI.WT{a:Array Keyed}{lo c:Nat}{b:SortSt}(h:SI S k0 a st lo)(t:gT st b lo c):SI S k0 a b lo:=
 #[h.ok.step t,t.failed.trans h.failed,t.perm.trans h.perm,by rw[t.pend];exact h.cov,h.le]
theorem TB(C:iX S k0 (model prog w) A E s){a:Array Keyed}{lo:Nat}(h:SI S k0 a st lo):
  wpS (model prog w) A E s (Ct a.size lo) (λr b=>match r with| .done c=>c=(none,lo)/\a.size<=lo/\SI S k0 a b lo| .yield c=>∃n,1<=n/\c=(none,lo+n)/\SI S k0 a b (lo+n)) st:=by
 unfold Ct;have q:=h.size;have j:=h.le
 by_cases f:lo>=a.size
 .rw[mo f];exact FM #[rfl,f,h]
 .rw[ir f]
  refine Do (Oa C h.ok () () λm t k g u=>?_)
  dsimp only;have e:=h.WT k;have l:=e.size
  by_cases i:m<minRun' a.size a.size 0
  .rw[mo i]
   refine Do (abf (aau #[rfl,?_]));refine Do (KD C e.ok () λv p=>?_)
   rw[ir ∅]
   refine Os (MV C (e.WT p) () ()) λr b o=>?_
   cases r with
   |done d=>exact o.elim
   |yield d=>exact#[_,(),o.1,o.2]
  .rw[ir i]
   refine Os (MV C e g ()) λr b o=>?_
   cases r with
   |done d=>exact o.elim
   |yield d=>exact#[_,g,o.1,o.2]
def ite_le [Decidable c]:(if c then p-1 else p)<=p:=by split<;>lia
theorem Tx(C:iX S k0 (model prog w) A E s){Q:Unit->SortSt->Prop}(o:Ok S k0 st)(j:failedOf st=none)(k:pendingOf st= #[])
  (q:∀a,(arrOf a).Perm (arrOf st)->failedOf a=none->Q ⟨⟩ a):wpS (model prog w) A E s sortRuns' Q st:=by
 rw[zd];refine Do (aaJ ?_);have l:SI S k0 (arrOf st) st 0:=#[o,j, .refl _,by rw[k];rfl,dZ _]
 refine Do (Os (PP (I:=λ(x:Nat)(c:Option Unit×Nat)(a:SortSt)=>∃lo,c=(none,lo)/\SI S k0 (arrOf st) a lo) (Q:=λc a=>∃lo,c=(none,lo)/\SI S k0 (arrOf st) a lo) (λx c a _ _ b=>?_) (λc a b=>b) #[0,rfl,l]) ?_)
 .obtain⟨lo,rfl,f⟩:=b
  refine Os (TB C f) λr g o=>?_;cases r with
  |done d=>exact#[_,o.1,o.2.2]
  |yield d=>
   obtain⟨n,t,e,m⟩:=o;exact#[lo+n,e,m]
 .rintro c a ⟨lo,rfl,f⟩
  dsimp only;refine Do (Os (PP (I:=λ(x:Nat)(c:U1)(a:SortSt)=>c=(none,⟨⟩)/\SI S k0 (arrOf st) a lo) (Q:=λc a=>c=(none,⟨⟩)/\SI S k0 (arrOf st) a lo) (λx c a _ _ b=>?_) (λc a b=>b) #[rfl,f]) ?_)
  .unfold ND
   refine Do (aaJ ?_)
   by_cases h:(pendingOf a).size<=1
   .rw[mo h];exact FM #[rfl,b.2]
   .rw[ir h]
    exact Do (Q4 C b.2 (Nat.lt_of_le_of_lt (Nat.succ_le_succ ite_le) ()) λa p _=>FM #[rfl,p])
  .rintro c g ⟨rfl,i⟩
   exact FM (q g i.perm i.failed)
end
section
variable {S:Keyed->Prop} {k0:SortKind} {prog:Program} {w:World} {A:Around} {E:Value->Shared->Prop} {s:Shared}
def Keeps(s a:Shared):Prop:=∀b o,s.heap.get? b\o->a.heap.get? b\o
def vt(a:List Value):(a.toArray.zip a.toArray).toList=a.map λv=>(v,v):=by
 rw[Array.toList_zip];show List.zip a a=_
 induction a with
 |nil=>rfl
 |cons v r b=>rw[abH,cX,b]
def vW(i:s.heap.get? a\(seqObj "list" c.toArray n))(M:2<=c.length)(N:c.length<=1000)
  {s0:Shared} (y:∀b o,s0.heap.get? b\o->b≠a/\s.heap.get? b\o)
  (z:∀(E:Value->Shared->Prop)(d:Shared)(l:SortKind->Shared->Prop),Keeps s0 d->l k0 d->wpAny (model prog w) A (keyKind' c.toArray) l E d)
  (C:∀(E:Value->Shared->Prop)(d:Shared),Keeps s0 d->iX S k0 (model prog w) A E d) (mem:∀v∈c,S (v,v))
  (h:∀out:Array Keyed,out.toList.Perm (c.map λv=>(v,v))->P (.done (.ret .none)) {s with heap:=sortedHeap s.heap a c (out.map (·.2))}):
  wpAny (model prog w) A (Builtin.«list.sort» #[[.ref a],[]]) P E s:=by
 rw[list_sort_plain];have m:a<s.heap.objs.size:=Fk i;have O:1000<sizeLine:=∅
 refine wpAny_bind (listItems_at i rfl ?_);refine wpAny_bind (abL i rfl ?_ (by rw[cQ];lia) (dZ _))
 obtain⟨k,q⟩:∃k,(s.heap.update a (Obj.mapSeq λ_=> #[])).get? a\(seqObj "list" #[] k):=#[_,abo i (λ_=> #[])];refine wpAny_bind (acq q rfl ?_);refine wpAny_bind (wpAny_newTuple ?_ (by show c.length<=_;lia))
 refine wpAny_bind (aaH ?_ (dZ _));refine KF ?_
 have r:(((s.heap.update a (Obj.mapSeq λ_=> #[])).push (seqObj "tuple" c.toArray 0)).push (seqObj "list" #[] 0)).get? a\(seqObj "list" #[] k):=by
  rw[aa1 _ _ _ (by rw[aaQ,aaB];exact bP (qs m)),aa1 _ _ _ (by rw[aaB];exact bP m)]
  exact q
 show wpAny (model prog w) A _ P E {s with heap:=((s.heap.update a (Obj.mapSeq λ_=> #[])).push (seqObj "tuple" c.toArray 0)).push (seqObj "list" #[] 0)}
 have t:Keeps s0 {s with heap:=((s.heap.update a (Obj.mapSeq λ_=> #[])).push (seqObj "tuple" c.toArray 0)).push (seqObj "list" #[] 0)}:=λb o e=>by
  obtain⟨B,F⟩:=y b o e;refine AC _ (AC _ ?_);rw[aaD _ _ _ _ B];exact F
 dsimp only;have R:c.toArray.size=c.length:=by simp
 have u:¬c.toArray.size<2:=()
 rw[ir u,ir u];refine wpAny_bind (z _ _ _ t ?_);have g:(c.toArray.zip c.toArray).size=c.length:=by rw[<-eD,vt,aG]
 refine wpAny_bind (wpAny_mono (Tx (C _ _ t) (st:=SortSt.mk' k0 (c.toArray.zip c.toArray) #[] 7 none)
   (Q:=λ_ f=>(arrOf f).Perm (c.toArray.zip c.toArray)/\failedOf f=none)
   #[λp j=>?_,rfl] rfl rfl λf G H=>#[G,H]) ?_ λ_ _ e=>e)
 .have x:p∈(c.toArray.zip c.toArray).toList:=j
  rw[vt] at x;obtain⟨v,I,rfl⟩:=bh.mp x;exact mem v I
 rintro⟨⟨⟩,f⟩ d ⟨rfl,j,J⟩;dsimp only;have L:(arrOf f).size=c.length:=by rw[j.size_eq,g]
 refine wpAny_bind (acq r rfl ?_);refine wpAny_bind (abL r rfl ?_ (dZ _) (by rw[Array.size_map];lia))
 rw[J];simp only[abS,gQ,SC];refine be (h (arrOf f) ?_);rw[<-vt];exact CD.mp j
end
end TP
namespace L2
open PySem PySem.Spec PyProof.Rows
theorem lY [DecidableEq a] (f:a->b):∀(l:List b)(L:List a),l.Perm (L.map f)->∃M:List a,M.Perm L/\l=M.map f
 | [],L,h=>by
  have:=h.length_eq
  rw[aG] at this
  have:L= []:=aaX.mp this.symm
  subst this;exact#[[], .refl _,rfl]
 |x::r,L,h=>by
  obtain⟨e,d,rfl⟩:=bh.mp (h.mem_iff.mp bF);have c:=List.perm_cons_erase d;have g:(f e::r).Perm (f e::(L.erase e).map f):=h.trans (c.map f);obtain⟨M,i,rfl⟩:=lY f r (L.erase e) ((List.perm_cons _).mp g);exact#[e::M,(i.cons e).trans c.symm,rfl]
section
variable {X:Cx}
theorem Cp(I:Inv X d F H s)(hL:Fb H L)(hz:L.length<=1000)
  (G:∀(C:List Value->Shared->Prop),(∀J tk,s.heap.objs.size<=J.objs.size->(∀b o,s.heap.get? b\o->J.get? b\o)->C (L.map λe=>Value.ref e.1) {s with heap:=J,toks:=tk})->wpAny (model X.prog X.w) X.A.in1 (collect v) C X.xe s)
  (q:∀(q:Addr)(M:List (Addr×(Nat×Nat))),H q=none->M.Perm L->Q (.ref q) (upd H q (.lst (M.map λe=>V.ref e.1)))):
  wpAny (model X.prog X.w) X.A (call (.builtin "sorted") [v]) (EP X d F Q) X.xe s:=by
 have cj:1000<sizeLine:=∅
 refine aaw acr ab3 ab4 (ab5 _) ?_;unfold Builtin.«sorted»;refine wpAny_bind (m:=checkCount "sorted" 1 1 _) (be (wpAny_bind (G _ λg Y Z N=>wpAny_bind (aaH ?_ (by rw[aG];lia)))))
 have l:(g.push (seqObj "list" (L.map λe=>Value.ref e.1).toArray 0)).get? g.objs.size\(seqObj "list" (L.map λe=>Value.ref e.1).toArray 0):=GE _ rfl;have O:∀b o,s.heap.get? b\o->b<g.objs.size:=λb o e=>Fk (N b o e)
 have fin:∀(M:List (Addr×(Nat×Nat)))(out:Array Value),M.Perm L->out.toList=M.map (λe=>Value.ref e.1)->EP X d F Q (.ref g.objs.size) {s with heap:=sortedHeap (g.push (seqObj "list" (L.map λe=>Value.ref e.1).toArray 0)) g.objs.size (L.map λe=>Value.ref e.1) out,toks:=Y}:=λM out E r=>by
  obtain⟨c,B⟩:=sortedHeap_at (out:=out) l;refine#[.ref g.objs.size,_,I.laid (t':=Y) (λb o e=>?_) Z (o:= .lst (M.map λe=>V.ref e.1)) #[by rw[aG,E.length_eq];lia,out.toList,c,?_,by rw[Array.toArray_toList];exact B],rfl,q _ M (I.hok.fresh Z) E]
  .rw[sortedHeap_old (bP (O b o e)) (by rw[aaQ];exact qs (O b o e))]
   exact AC _ (N b o e)
  .rw[r,show(λe:Addr×(Nat×Nat)=>V.ref e.1)=V.ref∘(·.1) from rfl,show(λe:Addr×(Nat×Nat)=>Value.ref e.1)=Value.ref∘(·.1) from rfl,<-cw,<-cw]
   exact sD _
 by_cases h2:L.length<2
 .refine wpAny_bind (KF (On slot_list_sort #[_,l,rfl] entry_list_sort (KS.wb l (by rw[aG];exact h2) #[_,rfl,be #[_,rfl,fin L _ (.refl _) rfl]]) (aaR _)))
 .have tup:∀e∈L,∀f:Shared,TP.Keeps s f->∃t u,IsTup f.heap e.1 [.int (e.2.1:Nat) t, .int (e.2.2:Nat) u].toArray:=λe P f k=>by
   refine ai λG0 k0=>?_;obtain⟨t,u,o,r,B,n,R⟩:=JM I (hL e P);refine k0 ?_;exact#[t,u,o,k _ _ r,B,n,R]
  refine wpAny_bind (KF (On slot_list_sort #[_,l,rfl] entry_list_sort (TP.vW (s0:=s) (S:=λp=>∃e∈L,p=(Value.ref e.1,Value.ref e.1)) (k0:=tuples' true) l (by rw[aG];lia) (by rw[aG];lia) (λb o e=>#[bP (O b o e),AC _ (N b o e)]) (λE' f C k U=>?_) (λE' f k x y st C sx sy hk U=>?_) (λv j=>?_) λout oY=>#[_,rfl,be #[_,rfl,?_]]) (aaR _)))
  .have go:∀(M:List (Addr×(Nat×Nat))),(∀e∈M,e∈L)->∃fs:List Value,PySem.W.KatTups f.heap (M.map λe=>Value.ref e.1) fs/\fs.length=M.length/\∀v∈fs,∃i t,v= .int i t:=by
    intro M
    induction M with
    |nil=>exact λ_=>#[[],PySem.W.KatTups.nil,rfl,λv j=>by cases j]
    |cons e M ih=>
     intro hM;refine ai λG0 k0=>?_;obtain⟨fs,a,b,c⟩:=ih λx hx=>hM x (cm _ hx);obtain⟨t,u,o,r,B,n,R⟩:=tup e (hM e bF) f k;refine k0 ?_;refine#[.int (e.2.1:Nat) t::fs,PySem.W.KatTups.cons r B R rfl a,by simp[b],λv j=>?_]
     rcases bu.mp j with z|z
     .exact#[_,_,z]
     .exact c v z
   obtain⟨fs,kt,kl,ki⟩:=go L λ_ h=>h;refine PySem.W.kat_kind (T:= .type "int") kt () (λv j=>by obtain⟨i,t,rfl⟩:=ki v j;exact .now) ∅ ?_
   have hb:(Value.type "int" !=Value.type "tuple")=true:=∅
   rw[hb];exact U
  .obtain⟨e1,m1,rfl⟩:=sx
   obtain⟨e2,m2,rfl⟩:=sy;rw[lt'_eq];refine Do (aaJ ?_);rw[hk];refine ai λG0 k0=>?_;obtain⟨t1,t2,k1⟩:=tup e1 m1 f k;obtain⟨u1,u2,k2⟩:=tup e2 m2 f k;refine k0 ?_;refine Do (abf (abN (OS k1 k2 #[rfl,?_])));exact FM (U _)
  .obtain⟨e,P,rfl⟩:=bh.mp j
   exact#[e,P,rfl]
  .rw[cw] at oY
   obtain⟨M,E,em⟩:=lY (λe:Addr×(Nat×Nat)=>((Value.ref e.1,Value.ref e.1):Keyed)) out.toList L oY;exact fin M _ E (by rw[Array.toList_map,em,cw];rfl)
def xF:cB X (.builtin "sorted") (λc H Q=>∃(p:Addr)(L:List (Addr×(Nat×Nat))),c= [.ref p]/\cG X.K H p (L.map λe=>V.ref e.1)/\Fb H L/\L.length<=1000/\
  ∀(q:Addr)(M:List (Addr×(Nat×Nat))),H q=none->M.Perm L->Q (.ref q) (upd H q (.lst (M.map λe=>V.ref e.1)))):=by
 intro d s t H c us Q I f h;rfl';obtain⟨p,L,rfl,i,j,k,q⟩:=h;obtain⟨u,rfl,l⟩:=f.one;subst l;obtain⟨a,r,m,_⟩:=I.list i
 have n:a=L.map λe=>Value.ref e.1:=by
  have:=sL (as:=L.map (·.1)) (us:=a) (by rw[cw];exact r)
  rw[this,cw];rfl
 have w:1000<sizeLine:=∅
 ac_rfl;subst n;refine Cp I j k (λx h=>acH m.isList (h _ _ ?_ λb o e=>?_) (by rw[aG];lia)) q
 .rw[aaB,aaQ];exact nS _
 .rw[aaD _ _ _ _ (bP (Fk e))];exact AC _ e
end
end L2
namespace TP
open PySem PyProof.Rows TS
section
variable {S:Keyed->Prop} {k0:SortKind} {prog:Program} {w:World} {A:Around} {E:Value->Shared->Prop} {s:Shared}
def Co(j:s.heap.IsList l a.toArray)(k:2<=a.length)(n:a.length<=1000)
  (p:∀(E:Value->Shared->Prop)(c:Shared)(g:SortKind->Shared->Prop),Keeps s c->g k0 c->wpAny (model prog w) A.in1.in1 (keyKind' a.toArray) g E c)
  (C:∀(E:Value->Shared->Prop)(c:Shared),Keeps s c->iX S k0 (model prog w) A.in1.in1 E c) (mem:∀v∈a,S (v,v))
  (h:∀out:Array Keyed,out.toList.Perm (a.map λv=>(v,v))->Q (.ref (s.heap.objs.size+1)) {s with heap:=sortedAll s.heap a (out.map (·.2))}):
  wpAny (model prog w) A (call (.builtin "sorted") [.ref l]) Q E s:=by
 have t:1000<sizeLine:=∅
 refine aaw acr ab3 ab4 (ab5 _) ?_;unfold Builtin.«sorted»;refine wpAny_bind (m:=checkCount "sorted" 1 1 _) (be ?_);refine wpAny_bind (acH j ?_ ())
 refine wpAny_bind (aaH ?_ (by show a.length<=_;lia))
 have d:((s.heap.push (seqObj "list" #[] 0)).update s.heap.objs.size (Obj.mapSeq (·++a.toArray))).objs.size=s.heap.objs.size+1:=by
  rw[aaB,aaQ]
 have i:(((s.heap.push (seqObj "list" #[] 0)).update s.heap.objs.size (Obj.mapSeq (·++a.toArray))).push (seqObj "list" a.toArray 0)).get? (s.heap.objs.size+1)\(seqObj "list" a.toArray 0):=by
  rw[<-d];exact GE _ rfl
 have keep:∀b o,s.heap.get? b\o->(((s.heap.push (seqObj "list" #[] 0)).update s.heap.objs.size (Obj.mapSeq (·++a.toArray))).push (seqObj "list" a.toArray 0)).get? b\o:=λb o q=>by
  have f:b<s.heap.objs.size:=Fk q;rw[aa1 _ _ _ (by rw[d];exact bP (qs f)),aaD _ _ _ _ (bP f),aa1 _ _ _ (bP f)]
  exact q
 show wpAny _ _ _ _ _ {s with heap:=((s.heap.push (seqObj "list" #[] 0)).update s.heap.objs.size (Obj.mapSeq (·++a.toArray))).push (seqObj "list" a.toArray 0)}
 rw[d];refine wpAny_bind (KF (On slot_list_sort #[_,i,rfl] entry_list_sort (vW (s0:=s) i k n (λb o e=>#[bP (qs (Fk e)),keep b o e]) p C mem λout r=>#[_,rfl,?_]) (aaR _)));exact be #[_,rfl,h out r]
end
end TP
namespace L2
open PySem PySem.Spec PyProof.Rows
section
variable {X:Cx}
def wz(hu:X.A.units+64<cLine):cB X (.builtin "sorted") (λB H Q=>∃(p:Addr)(L:List (Addr×List Nat)),B= [.ref p]/\cG X.K H p (L.map λe=>V.ref e.1)/\Iu H L/\L.length<=1000/\
  ∀(q:Addr)(M:List (Addr×List Nat)),H q=none->M.Perm L->Q (.ref q) (upd H q (.lst (M.map λe=>V.ref e.1)))):=by
 intro C s σ H B us Q I N h;refine ai λE k0=>?_;obtain⟨p,L,rfl,O,P,hz,q⟩:=h;obtain⟨u,rfl,R⟩:=N.one;subst R;obtain⟨d,r,F,_⟩:=I.list O;have U:=r.length;rw[aG] at U;have cj:1000<sizeLine:=∅
 refine k0 ?_
 have l:d=L.map λe=>Value.ref e.1:=by
  have:=sL (as:=L.map (·.1)) (us:=d) (by rw[cw];exact r)
  rw[this,cw];rfl
 by_cases h2:L.length<2
 .refine KS.z9 F.isList () ?_
  obtain⟨e,g⟩:=acG s.heap d d.toArray;have m:H (s.heap.objs.size+1)=none:=I.hok.fresh (nS _);refine#[.ref (s.heap.objs.size+1),_,I.laid (t':=s.toks) (λb o t=>acE t) (nS _) (o:= .lst (L.map λe=>V.ref e.1)) #[by rw[aG];lia,d,e,r,g],rfl,q _ L m (.refl _)]
 .have lst:∀e∈L,∀f:Shared,TP.Keeps s f->∃a:Array Value,f.heap.IsList e.1 a/\IntsAre a.toList (Cz e.2):=λe g f i=>by
   refine ai λE k0=>?_;obtain⟨Y,Z,p2,_⟩:=I.list (cG.of (P e g));obtain⟨o,w,j,n,hd⟩:=p2.isList;refine k0 ?_;exact#[Y.toArray,#[o,i _ _ w,j,n,hd],by simpa using intsAre_of Z]
  refine TP.Co (S:=λp=>∃e∈L,p=(Value.ref e.1,Value.ref e.1)) (k0:=oneType') F.isList () () (λE' f Q' i z=>?_) (λE' f i x y st Q' sx sy hk z=>?_) (λv k=>?_) λout G=>?_
  .refine PySem.W.kas_kind (T:= .type "list") () (λv k=>?_) ∅ ∅ z
   rw[l] at k;obtain⟨e,g,rfl⟩:=bh.mp k;obtain⟨a,⟨o,w,j,_⟩,_⟩:=lst e g f i;rw[<-j];exact(PySem.W.Looks.ld w).andThen .now
  .obtain⟨e1,m1,rfl⟩:=sx
   obtain⟨e2,m2,rfl⟩:=sy;rw[lt'_eq];refine Do (aaJ ?_);rw[hk,keyLt'_oneType];refine ai λE k0=>?_;obtain⟨i1,l1,n1⟩:=lst e1 m1 f i;obtain⟨i2,l2,n2⟩:=lst e2 m2 f i;refine k0 ?_;refine Do (abf (abN (Ew l1 l2 n1 n2 ?_ #[rfl,?_])))
   .rw[ab9,ab9];lia
   .exact FM (z _)
  .rw[l] at k
   obtain⟨e,g,rfl⟩:=bh.mp k;exact#[e,g,rfl]
  .rw[l,cw] at G
   obtain⟨M,J,em⟩:=lY (λe:Addr×List Nat=>((Value.ref e.1,Value.ref e.1):Keyed)) out.toList L G
   have VJ:(out.map (·.2)).toList=M.map λe=>Value.ref e.1:=by
    rw[Array.toList_map,em,cw];rfl
   obtain⟨c,j⟩:=acG s.heap d (out.map (·.2));have m:H (s.heap.objs.size+1)=none:=I.hok.fresh (nS _);have VE:=J.length_eq;refine#[.ref (s.heap.objs.size+1),_,I.laid (t':=s.toks) (λb o t=>acE t) (nS _) (o:= .lst (M.map λe=>V.ref e.1)) #[by rw[aG];lia,(out.map (·.2)).toList,c,?_,by rw[Array.toArray_toList];exact j],rfl,q _ M m J]
   rw[VJ,show(λe:Addr×List Nat=>V.ref e.1)=V.ref∘(·.1) from rfl,show(λe:Addr×List Nat=>Value.ref e.1)=Value.ref∘(·.1) from rfl,<-cw,<-cw];exact sD _
end
section
variable {Z:DC} {X:Cx}
def Kz:bS:=λc P=>∃a:List (Nat×Nat),c= [.lst (a.map pairD)]/\a.length<=1000/\∀b:List (Nat×Nat),b.Perm a->P (.lst (b.map pairD))
def xG:cB X (.builtin "sorted") (g6 Z Kz):=by
 refine xF.imp ?_;rintro o H Q ⟨G,j,P,s,dv,⟨c,rfl,r,b⟩,q⟩;cases dv with
 |cons a k=>
  cases k;cases a with
  | @lst p t j h e=>
   obtain⟨L,rfl,d,f⟩:=An e;have u:L.length=c.length:=by rw[<-d];simp
   refine#[_,L,rfl,cG.of (s _ _ h),λp b=>s _ _ (f p b),(),λp M g i=>?_]
   have l:(M.map (·.2)).Perm c:=by rw[<-d];exact i.map _
   have m:Fb (upd G p (.lst (M.map λe=>V.ref e.1))) M:=λx n=>bp (s.free g) _ _ _ (f x (i.mem_iff.mp n));exact q _ (b _ l) _ _ _ (.new s g) (.lst aD m.dv)
def Iz:bS:=λa P=>∃L:List (List Nat),a= [.lst (L.map aw)]/\L.length<=1000/\∀M:List (List Nat),M.Perm L->P (.lst (M.map aw))
def C9(j:X.A.units+64<cLine):cB X (.builtin "sorted") (g6 Z Iz):=by
 refine(wz j).imp ?_;rintro r H Q ⟨G,k,P,s,dv,⟨c,rfl,t,b⟩,q⟩;cases dv with
 |cons a l=>
  cases l;cases a with
  | @lst p u k h e=>
   obtain⟨L,rfl,d,f⟩:=Am e;have v:L.length=c.length:=by rw[<-d];simp
   refine#[_,L,rfl,cG.of (s _ _ h),λp b=>s _ _ (f p b),(),λp M g i=>?_]
   have m:(M.map (·.2)).Perm c:=by rw[<-d];exact i.map _
   have n:Iu (upd G p (.lst (M.map λe=>V.ref e.1))) M:=λx o=>bp (s.free g) _ _ _ (f x (i.mem_iff.mp o));exact q _ (b _ m) _ _ _ (.new s g) (.lst aD n.dv)
end
end L2
namespace oH
open PySem L2 Wb
variable {P:Program} {w:World} {mg:Str->Option Value} {base:Heap} {Z:DC} (T:Txt Z mg)
open Wy
def zz(d:Nat×Nat):Int×Int:=(d.1,d.2)
def Qo(h:zz a=zz b):a=b:=aah (by have:=(aak h).1;lia) (by have:=(aak h).2;lia)
def xi{d:Nat×Nat}{l:List (Nat×Nat)}:zz d∈l.map zz↔d∈l:=by
 rw[bh];exact#[λ#[a,b,e]=>by rw[<-Qo e];exact b,λh=>#[d,h,rfl]]
def P7:bS:=λb P=>∃(w:W),b= [.fS w]/\Good w/\w.length<=14/\∀a:List (Nat×Nat),a.Perm (j7 (row w) w.length)->P (.lst (a.map pairD))
theorem QR(I:DN->Prop)(J:n->DN->Prop)(l:n->D)(f:n->List t)(u:t->D)(p:n->t->Bool)(k:n->t->A)(d:A->D)(C:∀y E,J y E->I E):∀(j:List n)(i:DN)(acc:List A)(P:List D->Prop),
  (∀y∈j,∀i,I i->∀(Y:DN->List D->Prop),(∀a,J y a->Y a ((f y).map u))->g (l y) i λa=>x a (Y a))->
  (∀y∈j,∀b∈f y,∀i,J y i->∀(Y:DN->D->Prop)(v:DN->Prop),(∀a,J y a->p y b=true->Y a (d (k y b)))->(∀a,J y a->p y b=false->v a)->q (u b) i λa=>r a λc=>if c=true then s a (Y a) else v a)->
  I i->acc.length+(j.flatMap λy=>((f y).filter (p y)).map (k y)).length<=sizeLine->(∀y∈j,acc.length+(j.flatMap λy=>((f y).filter (p y)).map (k y)).length+(f y).length<=sizeLine)->P ((acc++j.flatMap λy=>((f y).filter (p y)).map (k y)).map d)->qT g xO x q r s (j.map l) i (acc.map d) P
 | [],i,acc,P,_,_,F,_,_,h=>by
  show P (acc.map d);simpa using h
 |y::j,i,acc,P,G,H,F,m,L,h=>by
  have M:=L y (bF ..);rw[vv,cA] at m M;refine G y (bF ..) i F (λa N=>lcW q r s N a (acc.map d) λo O=>qT g xO x q r s (j.map l) o O P) λa Q=>?_;refine qz (J y) u (p y) (λb=>d (k y b)) (f y) a (acc.map d) _ (λb R o B Y v S U=>?_) Q (by rw[aG];lia) λo B=>?_
  .exact H y (bF ..) b R o B Y v S U
  .have e:acc.map d++((f y).filter (p y)).map (λb=>d (k y b))=(acc++((f y).filter (p y)).map (k y)).map d:=by rw[cW,cw];rfl
   rw[e];refine QR I J l f u p k d C j o (acc++((f y).filter (p y)).map (k y)) P (λz m=>G z (cm _ m)) (λz m=>H z (cm _ m)) (C y o B) (by rw[cA];lia) (λz m=>?_) ?_
   .have:=L z (cm _ m)
    rw[vv,cA] at this;rw[cA];lia
   .rw[vv] at h
    rw[h8];exact h
def ni:FnOk P w Z.K mg base cg 1 T.m_ties.f T.m_ties.fd ["self"] (aU Z P7):=by
 have L:=ua.nd;refine aZ T.m_ties.F ua [0] ∅ (λu R h=>by obtain⟨_,rfl,_⟩:=h;rfl) (λM A outer s H E u R v h=>?_)
 have N:=v.units;refine#[_,(aq (aF (aH xG rfl T.B.sorted i8 (ae (Og (NC:= ["p","row","q"]) (src:= [none,none,none]) rfl (mE (au lD)) trivial (kv rfl T.B.enumerate (ae (tu T.W (aa 0)) ah)) (λ_ _ _=>(Bu 2 rfl (kc (bG 0 (show(["p","row","q"]:List Str).Nodup from by decide+kernel)) (kc (bG 1 (show(["p","row","q"]:List Str).Nodup from by decide+kernel)) xP)))) (λ_ _ _=>eH) (λ_ _ _=>(br (aa 1))) (λ_ _ _=>(bG 2 (show(["p","row","q"]:List Str).Nodup from by decide+kernel))) (λ_ _ _=>(gK (aK kF (aa 0) (aa 2) (aT _)))) (λ_ _ _=>(cZ (ae (aa 0) (ae (aa 2) ah))))) ah)))),?_]
 obtain⟨a,rfl,g,O,q⟩:=h
 have x:iB (a.map aw)=(ac a.length).map λ(j:Nat)=>D.tup [.int (j:Int),aw (row a j)]:=by
  refine rA λj=>?_;rw[bW]
  by_cases lt:j<a.length
  .rw[qp lt]
   cases e:(iB (a.map aw))[j]? with
   |none=>
    have:=List.getElem?_eq_none_iff.mp e
    rw[xT,aG] at this;lia
   |some d=>rw[(EZ e).2];rfl
  .rw[fZ (by rw[xT,aG];lia),fZ (by rw[fB];lia)];rfl
 have k:((ac a.length).flatMap λp=>((row a p).filter λq=>decide (p<q)).map λq=>(p,q))=j7 (row a) a.length:=rfl
 have z:∀n,n<=a.length->(j7 (row a) n).length<=n*14:=λn=>by
  induction n with
  |zero=>intro _;exact aY _
  |succ n C=>
   intro h
   have:=C ()
   have Q:=dF g n;have S:=A8 (λq=>decide (n<q)) (row a n);unfold j7 at this ⊢;rw[List.range_succ,List.flatMap_append,cA];simp only[vv,List.flatMap_nil,iV,aG];lia
 have G:=z a.length (aY _);exists _,rfl,a,rfl;refine(?_:qT _ _ _ _ _ _ (iB (a.map aw)) _ _ _);rw[x];refine QR (λi=>∃o r c,i= [o,r,c]) (λp i=>∃c,i= [some (ao p),some (aw (row a p)),c]) _ (λp=>row a p) ao (λp q=>decide (p<q)) (λp q=>(p,q)) pairD (λy i #[c,e]=>#[_,_,_,e]) (ac a.length) _ [] _ (λp t I l Y m=>?_) (λp t b U I l Y X m J=>?_) #[none,none,none,rfl] ?_ (λp t=>?_) ?_
 .obtain⟨o,r,c,rfl⟩:=l
  exact#[rfl,rfl,_,rfl,m _ #[_,rfl]]
 .obtain⟨c,rfl⟩:=l
  exists _,rfl,_,rfl,_,rfl;refine(?_:if decide ((p:Int)<(b:Int))=true then _ else _);rw[show decide ((p:Int)<(b:Int))=decide (p<b) from aaC.mpr ()]
  exact bO (λe=>#[_,rfl,_,rfl,by show 2<=sizeLine;decide,m _ #[_,rfl] e]) (λe=>J _ #[_,rfl] e)
 .rw[k,iW,qm];exact small ()
 .have:=dF g p
  rw[k,iW,qm];exact small ()
 .rw[k,lP]
  exact#[_,rfl,(),q]
def J8:bS:=λa P=>∃(w:W)(p q:Nat),a= [.fS w,ao p,ao q]/\Good w/\q∈row w p/\P (ao (aO (row w p) q))
def pE:FnOk P w Z.K mg base cg 1 T.m_behind.f T.m_behind.fd ["self","p","q"] (aU Z J8):=by
 have k:=pT.nd;refine aZ T.m_behind.F pT [0,0,0,0] ∅ (λl R h=>by obtain⟨_,_,_,rfl,_⟩:=h;rfl) (λt A outer s H E l R m h=>?_)
 have u:=m.units
 refine#[_,(ag (aP false 3 k (aE (tu T.W (aa 0)) (aa 1)))
   (aq (aF (aE (aa 3) (aW eJ (aW cz (qw (aa 3) (aa 2)) av) (aH bA rfl T.B.len bz (ae (aa 3) ah))))))),?_]
 obtain⟨a,p,b,rfl,g,c,q⟩:=h;have n:=bJ c;have v:=dF g p;have e:((row a p).map ao).length=(row a p).length:=aG _;have d:0<(row a p).length:=uv c;have o:(0:Int)<(((row a p).map ao).length:Int):=by rw[e];lia
 exists _,rfl,a,rfl,_,rfl,_,fo n,trivial;exists _,rfl,_,rfl,_,rfl,_,rfl,rfl,cR _,_,_,(fE c).1,(fE c).2.1,(fE c).2.2;exists _,rfl,o;have em:(((row a p).idxOf b:Nat):Int)+1=(((row a p).idxOf b+1:Nat):Int):=()
 have r:((((row a p).idxOf b:Nat):Int)+1)%(((row a p).map ao).length:Int)=((((row a p).idxOf b+1)%(row a p).length:Nat):Int):=by rw[e,em,Int.natCast_emod]
 refine#[ao (aO (row a p) b),?_,q];show fc ((row a p).map ao) ((λi j=>i%j) _ _)=_;dsimp only;rw[r];exact gM (qu _ d)
def IK{P:D->Prop}(h:P (.bl (!decide (a=b)))):sY (pairD a) (pairD b) P:=by
 refine#[_,_,M0 a,M0 b,by unfold su nD;simp[PyData.depth,PyData.depthAll],?_]
 have:PyData.eqv (su a) (su b)=decide (a=b):=by
  by_cases e:a=b
  .rw[GT e];exact(As a b).mpr e
  .rw[Gc e]
   apply rB.mpr;exact λz=>e ((As a b).mp z)
 rw[mo rfl,this];exact h
def Nz:bS:=λa P=>∃(w:W)(d:Nat×Nat),a= [.fS w,pairD d]/\Good w/\w.length<=14/\aL w d/\∀r,fC w d r->P (.lst (r.map pairD))
def yP:FnOk P w Z.K mg base cg 2 T.d_round_from.f T.d_round_from.fd ["web","side"] (aU Z Nz):=by
 have i:=p9.nd;refine aZ T.d_round_from.F p9 [0,0,1,0,0] ∅ (λu R h=>by obtain⟨_,_,rfl,_⟩:=h;rfl) (λB A outer s H E u R n h=>?_)
 have v:=n.units
 refine#[_,(ag (c4 2 i (fW (ae (aa 1) ah)))
   (ag (Bv (aa 1) (jX 2 rfl (bZ (aQ 3 i) (bZ (aQ 4 i) gu))))
   (ag (HA 3 4 rfl i (ae (aa 4) (ae (Dr T.W (aa 0) T.m_behind.m (pE T) (n.mono ∅) T.m_behind.b (ae (aa 4) (ae (aa 3) ah))) ah)))
   (ag (ke FS (aK (gI v) (cZ (ae (aa 3) (ae (aa 4) ah))) (aa 1) (aT _)) (ag (gr false 2 (cZ (ae (aa 3) (ae (aa 4) ah))))
   (aq (HA 3 4 rfl i (ae (aa 4) (ae (Dr T.W (aa 0) T.m_behind.m (pE T) (n.mono ∅) T.m_behind.b (ae (aa 4) (ae (aa 3) ah))) ah))))))
   (aq (aF (aa 2))))))),?_]
 obtain⟨a,d,rfl,g,r,o,q⟩:=h;have C:=ku g;have G:a.length*a.length<=14*14:=zB r r;refine#[_,rfl,by show 1<=sizeLine;decide,?_]
 exists _,rfl,rfl,rfl;exists _,rfl,_,rfl,a,rfl,_,rfl,_,rfl,a,d.2,d.1,rfl,g,g.sym _ _ o,_,_,rfl;refine jj (λm x=>∃k,0<k/\m+k=(bf a).length+1/\(∀j,0<j->j<k->bo a j d≠d)/\x= [some (.fS a),some (pairD d),some (.lst ((walk a d k).map pairD)),some (ao (bo a k d).1),some (ao (bo a k d).2)]) (bf a).length #[1,(),rfl,λj l t=>by lia,rfl] ?_
 rintro m _ ⟨k,y,I,p,rfl⟩;have z:=cK g o k;refine#[_,rfl,_,rfl,by show 2<=sizeLine;decide,_,rfl,?_]
 refine(?_:sY (pairD (bo a k d)) (pairD d) _);refine IK #[_,rfl,bO (λe=>?_) (λe=>?_)]
 .have ne:bo a k d≠d:=by simpa using e
  have lt:k<(bf a).length:=by
   have:=zt g o (k:=k+1) λj l t=>by
    by_cases c:j=k
    .subst c;exact ne
    .exact p j l ()
   lia
  refine#[_,rfl,_,rfl,_,rfl,by show 2<=sizeLine;decide,trivial,cD (by rw[aG,dO];lia),?_]
  exists _,rfl,_,rfl,a,rfl,_,rfl,_,rfl,a,(bo a k d).2,(bo a k d).1,rfl,g,g.sym _ _ z,_,_,rfl;refine#[m-1,(),k+1,(),(),λj l t=>?_,?_]
  .by_cases c:j=k
   .subst c;exact ne
   .exact p j l ()
  .rw[sN,cW];rfl
 .have e:bo a k d=d:=by simpa using e
  exact#[_,rfl,q _ #[k,y,e,p,rfl]]
structure zL (w:W) (ds:List (Nat×Nat)) (i:Nat) (rs:List (List (Nat×Nat))):Prop where
 rnd:jv w rs
 nod:rs.flatten.Nodup
 met:∀j e,j<i->ds[j]?\e->e∈rs.flatten
def zL.skip{w:W}(h:zL w a i b)(g:a[i]?\d)(k:d∈b.flatten):zL w a (i+1) b:=
 #[h.rnd,h.nod,λj e l f=>by
  by_cases c:j=i
  .subst c;rw[g] at f;cases f;exact k
  .exact h.met j e () f]
def zL.take{w:W}(g:Good w){i:Nat}(h:zL w l i m)(s:l[i]?\d)(p:aL w d)(t:d∉m.flatten)(f:fC w d r):zL w l (i+1) (m++ [r]):=by
 refine#[λk u=>?_,?_,λj e C o=>?_]
 .rcases bT.mp u with z|z
  .exact h.rnd k z
  .rw[cH.mp z];exact#[d,f,p]
 .rw[wq,cU]
  refine#[h.nod,by simpa using f.nodup g p,λa v b x e=>?_]
  subst e;obtain⟨k,q,y⟩:=jT.mp v;obtain⟨E,A,_⟩:=h.rnd k q;obtain⟨n,B⟩:=f.back (~~~x)
  exact t (jT.mpr #[k,q,by rw[<-B];exact A.iter y n])
 .rw[wq,bT]
  by_cases c:j=i
  .subst c;rw[s] at o;cases o
   exact .inr (~~~f.first)
  .exact .inl (h.met j e () o)
def zL.fin{w:W}(g:Good w)(all:∀e,aL w e->e∈a)(h:zL w a a.length c):c.flatten.Perm (bf w):=
 (ur h.nod (bX g)).mpr λe=>#[λb=>aR.mpr (h.rnd.dart g e b),λb=>by
  obtain⟨j,d⟩:=zE (all e (aR.mp b));exact h.met j e (df.mp d).1 d]
def Kq(w:W)(n:Nat):Prop:=(w.length=1/\n=1)\/(2<=w.length/\Fc w n)
def w6(a:List (List (Nat×Nat))):D:= .lst ((a.map λr=>r.map (·.1)).map aw)
def Nt:bS:=λa P=>∃(w:W),a= [.fS w]/\Good w/\1<=w.length/\w.length<=14/\∀l:List D,Kq w l.length->P (.lst l)
def Js(h:d∉l):D5 (l.map zz) (zz d)=(l++ [d]).map zz:=by
 unfold D5;rw[ir (λz=>h (xi.mp z)),cW];rfl
def JK:FnOk P w Z.K mg base cg 3 T.d_lands.f T.d_lands.fd ["web"] (aU Z Nt):=by
 have L:=AZ.nd;refine aZ T.d_lands.F AZ [0,98,1,0,0,0] ∅ (λC R h=>by obtain⟨_,rfl,_⟩:=h;rfl) (λbD A outer s H E C R p h=>?_)
 have U:=p.units
 refine#[_,(ag (bq (aK (kE U) (fP T.W (aa 0) T.m_many.m (nh T) (p.mono ∅) T.m_many.b) av (aT _)) (aq (aF (cF (ae (cF (ae av ah)) ah)))) aM)
   (ag (IW 1 L rfl T.x_set)
   (ag (c4 2 L (fW ah))
   (ag (dh rfl FS (br (aH xG rfl T.B.sorted i8 (ae (aW cz (fP T.W (aa 0) T.m_ties.m (ni T) (p.mono ∅) T.m_ties.b) (iw (NC:= ["a","b"]) (src:= [none,none]) rfl (mE (au pR)) trivial (br (fP T.W (aa 0) T.m_ties.m (ni T) (p.mono ∅) T.m_ties.b)) (λ_ _ _=>(Bu 2 rfl (kc (bG 0 (show(["a","b"]:List Str).Nodup from by decide+kernel)) (kc (bG 1 (show(["a","b"]:List Str).Nodup from by decide+kernel)) xP)))) (λ_ _ _=>eH) (λ_ _ _=>(cZ (ae (aa 1) (ae (aa 0) ah)))))) ah))) (aQ 3 L) (aq (bq (aK (Gs U) (aa 3) (aa 1) (by with_unfolding_all rfl)) (ag (aP false 4 L (aC T.d_round_from (yP T) p (ae (aa 0) (ae (aa 3) ah))))
   (ag (dh rfl FS (br (aa 4)) (aQ 5 L) (aq (La false 1 U (aa 5))))
   (aq (gr false 2 (iw (NC:= ["p","q"]) (src:= [none,none]) rfl (mE (au pR)) trivial (br (aa 4)) (λ_ _ _=>(Bu 2 rfl (kc (bG 0 (show(["p","q"]:List Str).Nodup from by decide+kernel)) (kc (bG 1 (show(["p","q"]:List Str).Nodup from by decide+kernel)) xP)))) (λ_ _ _=>eH) (λ_ _ _=>(aa 0))))))) aM)))
   (aq (aF (aH (C9 U) rfl T.B.sorted i8 (ae (aa 2) ah)))))))),?_]
 obtain⟨o,rfl,g,h1,N,q⟩:=h;have c1:=ku g;have c2:o.length*o.length<=14*14:=zB N N;have lw:(o.map aw).length=o.length:=aG _;exists _,rfl,o,rfl,o,rfl;refine RZ #[_,rfl,bO (λe=>?_) (λe=>?_)]
 .have e:o.length=1:=by have:=IR e;lia
  exact#[by show 1<=sizeLine;decide,by show 1<=sizeLine;decide,q _ (.inl #[e,rfl])]
 have n2:2<=o.length:=by have:=Pi e;lia
 refine#[by show 0<=sizeLine;decide,?_]
 refine#[_,rfl,o,rfl,o,rfl,g,N,λX I=>?_];have tl:=G9 g;rw[<-fD] at tl;have TZ:=I.length_eq;refine#[_,rfl,o,rfl,o,rfl,g,N,λJ JU=>?_];have tl3:=JU.length_eq;refine qz (λG=>∃O Q,G= [O,Q]) pairD (λ_=>true) (λt=>pairD (t.2,t.1)) J _ [] _ (λt ht aJ S Y Nn hY hN=>?_) #[none,none,rfl] (by rw[iW,qm];exact small ()) λaJ S=>?_
 .obtain⟨O,Q,rfl⟩:=S
  exact#[rfl,rfl,Rh #[_,rfl,_,rfl,by show 2<=sizeLine;decide,hY _ #[_,_,rfl] rfl]]
 have pd:(X++J.map λt=>(t.2,t.1)).Perm (bf o):=(((JU.trans I.symm).map _).append_left X).trans (xE g I);have pl:=pd.length_eq;rw[cA,aG] at pl;have ef:J.filter (λ_=>true)=J:=by simp
 rw[lP,ef];refine#[by rw[aG,aG];exact small (),?_]
 have ej:(.lst (X.map pairD++J.map λt=>pairD (t.2,t.1)):D)= .lst ((X++J.map λt=>(t.2,t.1)).map pairD):=by rw[cW,cw];rfl
 dsimp only[qP];rw[ej];refine#[_,rfl,by rw[cA,aG];lia,λC PD=>?_]
 have PD:=PD.trans pd;have all:∀e,aL o e->e∈C:=λe h=>PD.mem_iff.mpr (aR.mpr h);have dart:∀e∈C,aL o e:=λe h=>aR.mp (PD.mem_iff.mp h);clear I JU ej pd ef;refine bU (λi G=>∃(n:List (List (Nat×Nat)))(o3 o4 v:Option D),G= [some (.fS o),some (.x (.t6 (cM w) (n.flatten.map zz))),some (w6 n),o3,o4,v]/\zL o C i n) #[[],none,none,none,rfl,(λr h=>nomatch h),gF,(λj e h=>by lia)] ?_ ?_
 .rintro i d _ hd ⟨n,o3,o4,v,rfl,hw⟩ A hA
  obtain⟨e,he,rfl⟩:=cu hd;have de:=dart e (dY he);exists _,rfl,_,rfl,zz e,n.flatten.map zz,rfl,rfl,_,rfl;refine(?_:if (if true=true then !decide (zz e∈n.flatten.map zz) else _)=true then _ else _);rw[mo rfl,show decide (zz e∈n.flatten.map zz)=decide (e∈n.flatten) from aaC.mpr xi]
  have sub:∀x∈n.flatten,x∈bf o:=λx y=>by
   obtain⟨r,p,ZK⟩:=jT.mp y;obtain⟨d,R,dd⟩:=hw.rnd r p;exact aR.mpr (R.bf g dd x ZK)
  have fl:=az hw.nod sub;refine bO (λc=>?_) (λc=>?_)
  .have c:e∉n.flatten:=by simpa using c
   refine#[_,rfl,_,rfl,o,e,rfl,g,N,de,λr R=>#[trivial,?_]];have OK:=hw.take g he de c R;have rd:∀x∈r,x∈bf o:=λx y=>aR.mpr (R.bf g de x y);have rl:=az (R.nodup g de) rd;have SY:(n.flatten++r).Nodup:=by have:=OK.nod;rw[wq] at this;simpa using this
   have R6:(n.flatten++r).length<=(bf o).length:=az SY λx y=>(bT.mp y).elim (sub x) (rd x);rw[cA] at R6;exists _,rfl;refine bU (λk G=>∃v,G= [some (.fS o),some (.x (.t6 (cM w) ((n.flatten++r.take k).map zz))),some (w6 n),some (pairD e),some (.lst (r.map pairD)),v]) #[v,by rw[List.take_zero,iV];rfl] ?_ ?_
   .rintro k d _ hd ⟨v,rfl⟩ A hA
    obtain⟨x,y,rfl⟩:=cu hd;have hk:=(df.mp y).1;have tk:r.take (k+1)=r.take k++ [x]:=by rw[uz,y];rfl
    have nx:x∉n.flatten++r.take k:=λz=>by
     have sp:n.flatten++r=(n.flatten++r.take k)++(x::r.drop (k+1)):=by
      rw[h8,<-df.mp y|>.2,List.getElem_cons_drop,iT]
     rw[sp] at SY;exact(cU.mp SY).2.2 x z x (bF ..) rfl
    refine#[_,rfl,_,rfl,zz x,rfl,by rw[aG,cA,kX];lia,?_]
    rw[Js nx,h8,<-tk];exact hA _ #[_,rfl]
   .rintro _ ⟨v,rfl⟩
    rw[aG,rD]
    have dl:n.length<=300:=by
     have h:∀u:List (List (Nat×Nat)),(∀r∈u,r≠ [])->u.length<=u.flatten.length:=λu=>by
      induction u with
      |nil=>intro _;exact aY _
      |cons a l ih=>
       intro h;have h1:=zG.mpr (h a (bF ..));have h2:=ih λr p=>h r (cm _ p);rw[jG,cA,b8];lia
     have:=h n λr p z=>by
      obtain⟨d,R,_⟩:=hw.rnd r p
      have:=R.first
      rw[z] at this;cases this
     lia
    exists _,rfl,_,rfl;refine qz (λG=>∃O Q,G= [O,Q]) pairD (λ_=>true) (λt=>ao t.1) r _ [] _ (λt ht aJ S Y Nn hY hN=>?_) #[none,none,rfl] (by rw[iW,qm];exact small ()) λaJ S=>?_
    .obtain⟨O,Q,rfl⟩:=S
     exact#[rfl,rfl,Rh #[_,rfl,hY _ #[_,_,rfl] rfl]]
    rw[lP,show r.filter (λ_=>true)=r by simp]
    refine#[trivial,cD (by rw[aG,aG];lia),?_]
    refine hA _ #[n++ [r],some (pairD e),some (.lst (r.map pairD)),v,?_,OK]
    have e1:w6 (n++ [r])= .lst ((n.map λr=>r.map (·.1)).map aw++ [.lst (r.map λt=>ao t.1)]):=by
     unfold w6 aw;rw[cW,cW];simp only[cX,ab0,cw];rfl
    rw[e1,wq,show[r].flatten=r by simp];rfl
  .have c:e∈n.flatten:=by simpa using c
   exact hA _ #[n,_,_,_,rfl,hw.skip he c]
 .rintro _ ⟨n,o3,o4,v,rfl,hw⟩
  have hw:zL o C C.length n:=by rw[aG] at hw;exact hw
  have fin:=hw.fin g all
  have dl:n.length<=300:=by
   have h:∀u:List (List (Nat×Nat)),(∀r∈u,r≠ [])->u.length<=u.flatten.length:=λu=>by
    induction u with
    |nil=>intro _;exact aY _
    |cons a l ih=>
     intro h;have h1:=zG.mpr (h a (bF ..));have h2:=ih λr p=>h r (cm _ p);rw[jG,cA,b8];lia
   have:=h n λr p z=>by
    obtain⟨d,R,_⟩:=hw.rnd r p
    have:=R.first
    rw[z] at this;cases this
   have:=fin.length_eq
   lia
  refine#[_,rfl,n.map (λr=>r.map (·.1)),rfl,by rw[aG];lia,λM I=>q _ (.inr #[n2,n,hw.rnd,fin,by rw[aG,I.length_eq,aG]])]
variable {P:Program} {w:World} {mg:Str->Option Value} {base:Heap} {Z:DC} (T:Txt Z mg)
def BR(h:p<n):k4 n (p:Int)\p:=by
 unfold k4;rw[mo (),mo ()]
 exact GM some ()
variable {P:Program} {w:World} {mg:Str->Option Value} {base:Heap} {Z:DC} (T:Txt Z mg)
def Rs(w:W)(a:List (List (Nat×Nat))):Prop:=(w.length=1/\a= [[(0,0)]])\/(2<=w.length/\jV w a)
def tc(w:W):Nat:=(j7 (row w) w.length).length
def Qg{w:W}(g:Good w):2*tc w=(bf w).length:=by
 have:=(xE g (.refl _)).length_eq
 rw[cA,aG] at this;unfold tc;lia
def Nk:bS:=λa P=>∃(w:W),a= [.fS w]/\Good w/\1<=w.length/\w.length<=14/\∀n,Kq w n->P (.tup [.int (w.length:Int), .int (tc w:Int), .int (n:Int)])
def JJ:FnOk P w Z.K mg base cg 4 T.d_count.f T.d_count.fd ["web"] (aU Z Nk):=by
 have p:=AY.nd;refine aZ T.d_count.F AY [0] ∅ (λe R h=>by obtain⟨_,rfl,_⟩:=h;rfl) (λr A outer s H E e R c h=>?_)
 have t:=c.units;refine#[_,(aq (aF (cZ (ae (fP T.W (aa 0) T.m_many.m (nh T) (c.mono ∅) T.m_many.b) (ae (aH bA rfl T.B.len bz (ae (fP T.W (aa 0) T.m_ties.m (ni T) (c.mono ∅) T.m_ties.b) ah)) (ae (aH bA rfl T.B.len bz (ae (aC T.d_lands (JK T) c (ae (aa 0) ah)) ah)) ah)))))),?_]
 obtain⟨a,rfl,g,i,d,q⟩:=h;refine#[_,rfl,a,rfl,a,rfl,_,rfl,a,rfl,a,rfl,g,d,λj k=>?_];refine#[_,rfl,a,rfl,g,i,d,λl n=>#[by show 3<=sizeLine;decide,?_]]
 have:=q _ n
 have o:(j.map pairD).length=tc a:=by rw[aG,k.length_eq];rfl
 rw[o];exact this
def Nx:bS:=λa P=>∃(w:W),a= [.fS w]/\Good w/\1<=w.length/\w.length<=14/\∀n,Kq w n->P (.bl (decide ((w.length:Int)+(n:Int)=(tc w:Int)+2)))
def B9:FnOk P w Z.K mg base cg 5 T.d_is_plane.f T.d_is_plane.fd ["web"] (aU Z Nx):=by
 have a:=ud.nd;refine aZ T.d_is_plane.F ud [0,0,0,0] ∅ (λc R h=>by obtain⟨_,rfl,_⟩:=h;rfl) (λl A outer s H E c R b h=>?_)
 have d:=b.units
 refine#[_,(ag (Bv (aC T.d_count (JJ T) b (ae (aa 0) ah)) (jX 3 rfl (bZ (aQ 1 a) (bZ (aQ 2 a) (bZ (aQ 3 a) gu)))))
   (aq (aF (qv (kE d) (aW cz (aa 1) (aa 3)) (aW cz (aa 2) av) (aT _))))),?_]
 obtain⟨e,rfl,g,i,j,q⟩:=h;refine#[_,rfl,e,rfl,g,i,j,λn k=>?_];exists rfl,rfl;exists _,rfl,_,rfl,_,rfl;exact xM (q n k)
variable {P:Program} {w:World} {mg:Str->Option Value} {base:Heap} {Z:DC} (T:Txt Z mg)
def Rs.len{w:W}(g:Good w)(h:Rs w b)(d:Rs w c):b.length=c.length:=by
 rcases h with ⟨e,rfl⟩ | ⟨e,R⟩
 .rcases d with ⟨_,rfl⟩ | ⟨f,_⟩
  .rfl
  .lia
 .rcases d with ⟨f,_⟩ | ⟨_,a⟩
  .lia
  .exact((ur (R.nodup g) (a.nodup g)).mpr λr=>#[R.sub a r,a.sub R r]).length_eq
def jv.rounds{w:W}(g:Good w)(h:jv w a)(b:a.flatten.Perm (bf w)):jV w (a.map xv):=by
 refine#[λm c=>?_,(qQ xw a).trans b];obtain⟨r,f,rfl⟩:=bh.mp c;obtain⟨d,R,i⟩:=h r f;obtain⟨e,j,k,l⟩:=IA g R i;exact#[e,j,k,l]
variable {P:Program} {w:World} {mg:Str->Option Value} {base:Heap} {Z:DC} (T:Txt Z mg)
def J9:bS:=λa P=>∃(b:List Int)(k:Nat),a= [.mV b,ao k]/\∀v:Int,P (.int v)
def gw:FnOk P w Z.K mg base cg 1 T.d__law_cell_at.f T.d__law_cell_at.fd ["_law_script","_law_k"] (aU Z J9):=by
 have g:=mR.nd;refine aZ T.d__law_cell_at.F mR [0,0] ∅ (λa R h=>by obtain⟨_,_,rfl,_⟩:=h;rfl) (λi A outer s H E a R b h=>?_)
 have j:=b.units
 refine#[_,(ag (bq (aK kF (aa 1) (aH bA rfl T.B.len bz (ae (aa 0) ah)) (aT _)) (aq (aF (aE (aa 0) (aa 1)))) aM)
   (aq (aF av))),?_]
 obtain⟨c,k,rfl,q⟩:=h;exists _,rfl,_,rfl;refine#[_,rfl,bO (λe=>?_) (λe=>?_)]
 .have d:k<c.length:=by
   have:=IR e
   lia
  exact#[_,rfl,_,rfl,_,oN (cv d),q _]
 .exact q 0
def NB:bS:=λa P=>∃(i:Int),a= [.int i]/\P (.bl true)
def iJ:FnOk P w Z.K mg base cg 1 T.d__law_whole.f T.d__law_whole.fd ["_law_found"] (aU Z NB):=by
 have c:=p4.nd;refine aZ T.d__law_whole.F p4 [0] ∅ (λa R h=>by obtain⟨_,rfl,_⟩:=h;rfl) (λd A outer s H E a R b h=>?_)
 have e:=b.units;exists _,(aq (aF (tq (jW "int" (aa 0) rfl T.B.isinstance rfl T.B.int Ho) (wR (Hv (jW "bool" (aa 0) rfl T.B.isinstance rfl T.B.bool C3))))));obtain⟨i,rfl,q⟩:=h;exact#[_,rfl,rfl,true,rfl,eC #[_,rfl,rfl,false,rfl,q]]
def GR:bS:=λa P=>∃(c k:Int),a= [.int c, .int k]/\(0<=k/\k<1000)/\∀v:Int,P (.int v)
def mod_lt(x:Int):0<=x%2147483629/\x%2147483629<2147483629:=#[ach _ ∅,abJ _ ∅]
def u6:FnOk P w Z.K mg base cg 1 T.d__law_reserve.f T.d__law_reserve.fd ["_law_cell","_law_k"] (aU Z GR):=by
 have a:=mU.nd;refine aZ T.d__law_reserve.F mU [0,0,0] ∅ (λb R h=>by obtain⟨_,_,rfl,_⟩:=h;rfl) (λe A outer s H E b R d h=>?_)
 have g:=d.units
 refine#[_,(ag (aP false 2 a (aW eJ (aW cz (aW eJ (aa 0) av) (aW j3 av (aW cz (aa 1) av))) av))
   (aq (aF (aW cz av (aW eJ (aW cz (aW cz (aW j3 (aa 2) (aa 2)) (aW j3 av (aa 2))) (aW j3 av (aa 1))) av))))),?_]
 obtain⟨c,k,rfl,i,q⟩:=h;refine#[_,rfl,(by show(0:Int)<2147483629;decide),_,rfl, .inl #[∅,∅],(by show(0:Int)<2147483629;decide),trivial,?_]
 have:=mod_lt (c%2147483629+48271*(k+1))
 refine#[_,rfl,_,rfl, .inl #[by dsimp only;lia,by dsimp only;lia],_,rfl, .inl #[∅,∅],_,rfl, .inl #[∅,∅],(by show(0:Int)<2147483629;decide),q _]
def Dk(h:t {E with nx:=u E} a):dSeq t u E a:=h
def L3(Ok:Int->Prop)(j:a[i]?\(some (.int d)))(k:Ok d)(l:∀Q:Bool->Prop,(∀b,Q b)->c a Q)(n:∀Q:D->Prop,(∀x:Int,Ok x->Q (.int x))->g (zp f m a) Q)
  (h:∀x:Int,Ok x->E.nx (a.set i (some (.int x)))):Hr c (Dl f m i g) Bt E a:=by
 refine l _ λb=>bO (λ_=>n _ λx o=>#[?_,h x o]) (λ_=>?_)
 .cases m
  .trivial
  .rfl
 .have:=h d k
  obtain⟨p,e⟩:=df.mp j;rw[<-e,abg] at this;exact this
def bV(l:List Int):List D:=l.map D.int
def yk(l:List Int):(bV l).length=l.length:=aG _
def vS(l:List Int)(x:Int):bV (l++ [x])=bV l++ [.int x]:=cW ..
def D6{l:List Int}{p:Nat}(h:p<l.length):fc (bV l) (p:Int)\(.int (l.getD p 0)):=gm (by unfold bV;rw[bW,bK,cv h];rfl)
def Nm:bS:=λb P=>∃(c:List Int)(k n:Nat),b= [.mV c,ao k,ao n]/\k<=10/\n<=14/\∀a:List Int,a.length=n->P (.lst (bV a))
def kG:FnOk P w Z.K mg base cg 2 T.d__law_draws.f T.d__law_draws.fd ["_law_script","_law_at","_law_many"] (aU Z Nm):=by
 have b:=pW.nd;refine aZ T.d__law_draws.F pW [0,0,0,0,1,0,0,0] ∅ (λp R h=>by obtain⟨_,_,_,rfl,_⟩:=h;rfl) (λx A outer s H E p R g h=>?_)
 have r:=g.units
 refine#[_,(ag (aP false 3 b (aC T.d__law_cell_at (gw T) g (ae (aa 0) (ae (aa 1) ah))))
   (ag (c4 4 b (fW ah))
   (ag (bq (aK (kE r) (aW eJ (aC T.d__law_cell_at (gw T) g (ae (aa 0) (ae av ah))) av) av (aT _)) (ag (aP false 5 b (aa 3))
   (ag (jB rfl FS (gd rfl T.B.range (ae (aa 2) ah)) (aQ 6 b) (ag (bq (aK kF (aa 3) av (aT _)) (aq (aP false 3 b (aC T.d__law_reserve (u6 T) g (ae (aa 5) (ae (aW cz (aW j3 av (aa 1)) (aa 6)) ah))))) aM)
   (ag (gr false 4 (aW eJ (aa 3) (aW HQ av av)))
   (aq (aP false 3 b (aW qD (aa 3) (aW HQ av av)))))))
   (aq (aF (aa 4))))) aM)
   (ag (aP false 7 b (aW eJ (aa 3) av))
   (ag (jB rfl FS (gd rfl T.B.range (ae (aa 2) ah)) (aQ 6 b) (ag (aP false 7 b (aW eJ (aW cz (aW cz (aW cz (aW j3 (aa 7) (aa 7)) (aW j3 av (aa 7))) (aW j3 av (aa 6))) av) av))
   (aq (gr false 4 (aW qD (aa 7) av)))))
   (aq (aF (aa 4)))))))),?_]
 obtain⟨i,k,n,rfl,z,C,q⟩:=h;refine#[_,rfl,_,rfl,i,k,rfl,λc=>#[trivial,?_]];refine#[by show 0<=sizeLine;decide,?_]
 refine#[_,rfl,i,0,rfl,λG=>#[(by show(0:Int)<2;decide),RZ #[_,rfl,bO (λ_=>?_) (λ_=>?_)]]]
 .refine#[_,rfl,trivial,?_]
  refine#[_,rfl,#[by show-(2^62)<=(n:Int);lia,by show(n:Int)<2^62;lia],?_]
  rw[show((n:Int)).toNat=n by lia]
  refine g9 (λj l=>∃(y:Int)(a:List Int)(d:Option D),l= [some (.mV i),some (ao k),some (ao n),some (.int y),some (.lst (bV a)),some (.int c),d,none]/\a.length=j) #[c,[],_,rfl,rfl] ?_ ?_
  .rintro j _ t ⟨y,a,d,rfl,e⟩ A m
   refine Dk ?_;refine L3 (λ_=>True) rfl trivial (λQ o=>#[_,rfl,_,rfl,o _]) (λQ o=>?_) λI _=>?_
   .exact#[_,rfl,_,rfl, .inl #[∅,∅],_,rfl,_,_,rfl,#[(),()],λv=>o _ trivial]
   refine#[_,rfl,_,rfl,#[∅,∅],(by show(0:Int)<10^9;decide),trivial,cD (by rw[yk];lia),?_]
   refine#[_,rfl,#[∅,∅],#[∅,∅],trivial,?_]
   exact m _ #[_,a++ [_],some (ao j),by rw[vS];rfl,by rw[cA,e];rfl]
  .rintro _ ⟨y,a,d,rfl,e⟩
   exact#[_,rfl,q a e]
 .refine#[_,rfl,(by show(0:Int)<2147483629;decide),trivial,?_]
  refine#[_,rfl,#[by show-(2^62)<=(n:Int);lia,by show(n:Int)<2^62;lia],?_]
  rw[show((n:Int)).toNat=n by lia]
  refine g9 (λj l=>∃(y:Int)(a:List Int)(d:Option D),l= [some (.mV i),some (ao k),some (ao n),some (.int c),some (.lst (bV a)),none,d,some (.int y)]/\a.length=j/\0<=y/\y<2147483629) #[_,[],_,rfl,rfl,mod_lt c] ?_ ?_
  .rintro j _ t ⟨y,a,d,rfl,e,u⟩ A m
   refine#[_,rfl,_,rfl, .inl #[(),()],_,rfl, .inl #[∅,∅],_,rfl, .inl #[∅,∅],(by show(0:Int)<2147483629;decide),trivial,?_]
   refine#[_,rfl,_,rfl,#[∅,∅],trivial,cD (by rw[yk];lia),?_]
   exact m _ #[_,a++ [_],some (ao j),by rw[vS];rfl,by rw[cA,e];rfl,mod_lt _]
  .rintro _ ⟨y,a,d,rfl,e,u⟩
   exact#[_,rfl,q a e]
variable {P:Program} {w:World} {mg:Str->Option Value} {base:Heap} {Z:DC} (T:Txt Z mg)
structure k5 (w:W) (r:List Nat):Prop where
 ne:0<r.length
 sz:r.length<=196
 lt:∀k,k<r.length->r.getD k 0<w.length
 tie:2<=w.length->∀k,k<r.length->r.getD ((k+(r.length-1))%r.length) 0∈row w (r.getD k 0)
structure Cl (w:W) (ds:List (Nat×Nat)):Prop where
 nd:ds.Nodup
 dart:∀e∈ds,aL w e
 step:∀e,aL w e->(e∈ds↔fk w e∈ds)
theorem Cl.bo{w:W}(c:Cl w a)(g:Good w){d:Nat×Nat}(b:aL w d):∀k,Wb.bo w k d∈a↔d∈a
 |0=>aaV
 |k+1=>(c.step _ (cK g b k)).symm.trans (c.bo g b k)
def cL{w:W}:e∈walk w d k↔∃i,i<k/\bo w i d=e:=by
 unfold walk;rw[bh];exact#[λ#[i,a,e]=>#[i,b9.mp a,e],λ#[i,a,e]=>#[i,b9.mpr a,e]]
def Cl.len{w:W}(c:Cl w a)(g:Good w)(b:w.length<=14):a.length<=196:=by
 have f:=ku g;have h:w.length*w.length<=14*14:=zB b b
 have:=az c.nd λe d=>aR.mpr (c.dart e d)
 lia
def Cl.nodup{w:W}(c:Cl w e)(g:Good w)(f:aL w d)(l:0<k->d∉e)(m:∀j,0<j->j<k->Wb.bo w j d≠d):(e++walk w d k).Nodup:=by
 rw[cU];refine#[c.nd,qh g f m,λa h b n z=>?_];obtain⟨i,o,rfl⟩:=cL.mp n;rw[z] at h;exact l () ((c.bo g f i).mp h)
def Cl.back{w:W}(c:Cl w a)(g:Good w)(b:aL w d)(o:0<k)(l:d∉a)(m:∀j,0<j->j<k->Wb.bo w j d≠d)(h:Wb.bo w k d∈a++walk w d k):Wb.bo w k d=d:=by
 rcases bT.mp h with h|h
 .exact absurd ((c.bo g b k).mp h) l
 .obtain⟨i,p,e⟩:=cL.mp h
  have n:Wb.bo w i d=Wb.bo w i (Wb.bo w (k-i) d):=by rw[<-fi (k-i) i,show i+(k-i)=k by lia];exact e
  have f:=(tN g b (cK g b _) i n).symm
  by_cases z:i=0
  .subst z;exact f
  .exact absurd f (m (k-i) () ())
def Cl.grow{w:W}{f:List (Nat×Nat)}(c:Cl w f)(g:Good w)(b:aL w d)(l:0<k)(n:d∉f)(o:∀j,0<j->j<k->Wb.bo w j d≠d)(e:Wb.bo w k d=d):Cl w (f++walk w d k):=by
 refine#[c.nodup g b (λ_=>n) o,λx a=>?_,λx a=>?_]
 .rcases bT.mp a with h|h
  .exact c.dart x h
  .exact nQ g b x h
 .rw[bT,bT,<-c.step x a]
  refine or_congr aaV #[λh=>?_,λh=>?_]
  .obtain⟨i,p,rfl⟩:=cL.mp h
   by_cases z:i+1=k
   .exact cL.mpr #[0,l,by show d=Wb.bo w (i+1) d;rw[z,e]]
   .exact cL.mpr #[i+1,(),rfl]
  .obtain⟨i,p,z⟩:=cL.mp h
   cases i with
   |zero=>
    obtain⟨m,rfl⟩:∃m,k=m+1:=#[k-1,()]
    refine cL.mpr #[m,(),yG g (cK g b m) a ?_]
    exact e.trans z
   |succ i=>exact cL.mpr #[i,(),yG g (cK g b i) a z]
def vo{w:W}(h:i<k):((walk w d k).map (·.1)).getD i 0=(bo w i d).1:=by
 unfold walk;rw[cw,bK,bW,qp h];rfl
def L9{w:W}(g:Good w)(c:w.length<=14)(b:aL w d)(f:0<k)(h:∀j,0<j->j<k->Wb.bo w j d≠d)(e:Wb.bo w k d=d):k5 w ((walk w d k).map (·.1)):=by
 have n:=ku g;have o:w.length*w.length<=14*14:=zB c c;have p:=zt g b h;have l:((walk w d k).map (·.1)).length=k:=by rw[aG,dO]
 have st:∀i,(bo w i d).1∈row w (bo w (i+1) d).1:=λi=>g.sym _ _ (cK g b i);refine#[(),(),λi a=>?_,λ_ i a=>?_]
 .rw[l] at a
  rw[vo a];exact bJ (cK g b i)
 .rw[l] at a ⊢
  rw[vo a,vo (qu _ f)];cases i with
  |zero=>
   obtain⟨m,rfl⟩:∃m,k=m+1:=#[k-1,()]
   have:=st m
   rw[e] at this;rw[qm,ik ()];exact this
  |succ i=>
   rw[show i+1+(k-1)=i+k by lia,aa0,ik ()];exact st i
def yR{w:W}(g:Good w)(h:w.length=1):w= [[]]:=by
 match w,h with
 | [r],_=>
  cases r with
  |nil=>rfl
  |cons a r=>
   have m:a∈row [a::r] 0:=bF
   have:=g.rng 0 a m
   have e:a=0:=by simpa using this
   subst e;exact absurd m (g.irr 0)
def Fx{w:W}(g:Good w)(h:2<=w.length):0<(row w 0).length:=by
 apply Nat.pos_of_ne_zero;intro z;have z:row w 0= []:=aaX.mp z
 have:=vJ g (S:=λp=>p=0) rfl (λp q b a=>by subst b;rw[z] at a;cases a) 1 ()
 lia
def Rl(w:W)(b:List (Nat×Nat))(e:List (List Nat))(c:Nat×Nat->Prop):Prop:=∃a:List (List (Nat×Nat)),b=a.flatten/\e=Lu a/\jv w a/\(∀r∈e,k5 w r)/\∀d,c d->d∈b
def Rl.imp{w:W}{b:List (List Nat)}(h:Rl w a b c)(k:∀d,e d->c d\/d∈a):Rl w a b e:=by
 obtain⟨f,g,i,j,l,m⟩:=h;exact#[f,g,i,j,l,λd n=>(k d n).elim (m d) id]
def J4{w:W}(a:0<k)(e:bo w k d=d)(b:∀j,0<j->j<k->bo w j d≠d):fC w d (walk w d k):=#[k,a,e,b,rfl]
def Cn(w:W)(c:Nat):Prop:=∃a,Rs w a/\a.length=c
def Rl.cn{w:W}(g:Good w)(f:2<=w.length)(C:Cl w b)(h:Rl w b c (aL w)):Cn w c.length:=by
 obtain⟨e,rfl,rfl,i,_,all⟩:=h;have j:e.flatten.Perm (bf w):=(ur C.nd (bX g)).mpr λd=>#[λa=>aR.mpr (C.dart d a),λa=>all d (aR.mp a)];exact#[e.map xv, .inr #[f,jv.rounds g i j],by unfold Lu;rw[aG,aG]]
def ES:bS:=λc P=>∃(w:W),c= [aX w]/\Good w/\1<=w.length/\w.length<=14/\∀a:List (List Nat),0<a.length->a.length<=196->(∀r∈a,k5 w r)->Cn w a.length->(2<=w.length->∀r∈a,∃d b,fC w d b/\aL w d/\r=b.map (·.1))->P (.lst (a.map aw))
def pG:FnOk P w Z.K mg base cg 1 T.d__law_lands.f T.d__law_lands.fd ["_law_turns"] (aU Z ES):=by
 have u:=pY.nd;refine aZ T.d__law_lands.F pY [0,98,1,0,0,1,0,0] ∅ (λl R h=>by obtain⟨_,rfl,_⟩:=h;rfl) (λbD A outer s H E l R v h=>?_)
 have hu:=v.units
 refine#[_,(ag (bq (aK (kE hu) (aa 0) (cF (ae (cF ah) ah)) (aT _)) (aq (aF (cF (ae (cF (ae av ah)) ah)))) aM)
   (ag (Ld 1 u)
   (ag (c4 2 u (fW ah))
   (ag (jB rfl FS (gd rfl T.B.range (ae (aH bA rfl T.B.len bz (ae (aa 0) ah)) ah)) (aQ 3 u) (aq (dh rfl FS (br (aE (aa 0) (aa 3))) (aQ 4 u) (ag (c4 5 u (fW ah))
   (ag (aP false 6 u (cZ (ae (aa 3) (ae (aa 4) ah))))
   (ag (ke FS (aK (Gr hu) (aa 6) (aa 1) (by with_unfolding_all rfl)) (ag (Li 1 hu (aa 6) gU)
   (ag (gr false 5 (aE (aa 6) av))
   (ag (aP false 7 u (aE (aa 0) (aE (aa 6) av)))
   (aq (aP false 6 u (cZ (ae (aE (aa 6) av) (ae (aE (aa 7) (aW eJ (aW cz (qw (aa 7) (aE (aa 6) av)) av) (aH bA rfl T.B.len bz (ae (aa 7) ah)))) ah)))))))))
   (aq (bq (aK (gI hu) (aa 5) (cF ah) (aT _)) (aq (Lc 2 5)) aM))))))))
   (aq (aF (aa 2))))))),?_]
 obtain⟨a,rfl,g,h1,X,q⟩:=h;have lw:(a.map aw).length=a.length:=aG _;refine#[_,rfl,by show 0<=sizeLine;decide,by show 1<=sizeLine;decide,?_]
 refine(?_:xK (aX a) (aX [[]]) _);refine Dh #[_,rfl,bO (λe=>?_) (λe=>?_)]
 .obtain rfl:a= [[]]:=IR e
  refine#[by show 1<=sizeLine;decide,by show 1<=sizeLine;decide,?_]
  refine q [[0]] ∅ ∅ (λr v=>?_) #[[[(0,0)]], .inl #[rfl,rfl],rfl] (λz=>absurd z ∅)
  rw[cH] at v;subst v;refine#[∅,∅,λk G=>?_,λh=>absurd h ∅]
  have:k=0:=by simpa using G
  subst this;decide
 have n2:2<=a.length:=FB λz=>Pi e (yR g ())
 have r0:=Fx g n2;refine#[by show 0<=sizeLine;decide,?_]
 refine#[_,rfl,#[(),by show((a.map aw).length:Int)<2^62;lia],?_]
 rw[show(((a.map aw).length:Int)).toNat=a.length by lia]
 refine g9 (λj Y=>∃(l:List (Nat×Nat))(o:List FV)(n:List (List Nat))(o3 N O Q y:Option D),Y= [some (aX a),some (.x (.tW (l.map zz) o)),some (.lst (n.map aw)),o3,N,O,Q,y]/\Cl a l/\(0<j->0<l.length)/\(0<l.length->0<n.length)/\n.length<=l.length/\Rl a l n λd=>aL a d/\d.1<j)
  #[[],[],[],_,_,_,_,_,rfl,#[gF,(λe h=>nomatch h),λe _=>#[(λh=>nomatch h),λh=>nomatch h]],(λh=>by lia),id,aY _,[],rfl,rfl,(λr h=>nomatch h),(λr h=>nomatch h),λd h=>absurd h.2 ()] ?_ ?_
 .rintro p _ hp ⟨l,o,n,o3,N,O,Q,y,rfl,C,S,J,U,ok⟩ A hA
  exists _,rfl,_,rfl,_,fo hp
  refine bU (λm Y=>∃(l:List (Nat×Nat))(o:List FV)(n:List (List Nat))(N O Q y:Option D),Y= [some (aX a),some (.x (.tW (l.map zz) o)),some (.lst (n.map aw)),some (ao p),N,O,Q,y]/\Cl a l/\(0<p\/0<m->0<l.length)/\(0<l.length->0<n.length)/\n.length<=l.length/\Rl a l n λd=>aL a d/\(d.1<p\/(d.1=p/\d.2∈(row a p).take m)))
   #[l,o,n,_,_,_,_,rfl,C,(λh=>h.elim S λh=>by lia),J,U,ok.imp λd h=> .inl #[h.1,h.2.elim id λz=>by simp at z]] ?_ ?_
  .clear S J U ok C
   rintro m _ _ t ⟨l,o,n,N,O,Q,y,rfl,C,S,J,U,ok⟩ A hA;obtain⟨b,hq,rfl⟩:=cu t;have M:aL a (p,b):=dY hq;have Xe:(row a p).take (m+1)=(row a p).take m++ [b]:=by rw[uz,hq];rfl
   have c1:=ku g;have c2:a.length*a.length<=14*14:=zB X X;have cl:=C.len g X;refine#[by show 0<=sizeLine;decide,?_]
   refine#[_,rfl,_,rfl,by show 2<=sizeLine;decide,trivial,?_]
   refine jj (λm Y=>∃(k:Nat)(o:List FV)(y:Option D),Y= [some (aX a),some (.x (.tW ((l++walk a (p,b) k).map zz) o)),some (.lst (n.map aw)),some (ao p),some (ao b),some (aw ((walk a (p,b) k).map (·.1))),some (pairD (bo a k (p,b))),y]/\m+k=200/\(0<k->(p,b)∉l)/\(∀j,0<j->j<k->bo a j (p,b)≠(p,b))) 200 #[0,o,_,by rw[show walk a (p,b) 0= [] from rfl,iV];rfl,rfl,(λh=>by lia),λj h1 h2=>by lia] ?_
   rintro m _ ⟨k,o,y,rfl,mk,u,G⟩;have kl:=zt g M G;have nn:=C.nodup g M u G
   have nl:(l++walk a (p,b) k).length<=196:=by
    have:=az nn λe he=>aR.mpr ((bT.mp he).elim (C.dart e) (nQ g M e))
    lia
   have dk:=cK g M k;have hs:=g.sym _ _ dk;exists _,rfl,_,rfl,zz (bo a k (p,b)),_,_,rfl,rfl,_,rfl;refine(?_:if (if true=true then !decide (zz (bo a k (p,b))∈(l++walk a (p,b) k).map zz) else _)=true then _ else _);rw[mo rfl,show decide (zz (bo a k (p,b))∈(l++walk a (p,b) k).map zz)=decide (bo a k (p,b)∈l++walk a (p,b) k) from aaC.mpr xi];refine bO (λc=>?_) (λc=>?_)
   .have c:bo a k (p,b)∉l++walk a (p,b) k:=by simpa using c
    have cS:=bJ hs;have rln:=dF g (bo a k (p,b)).2;have lr:((row a (bo a k (p,b)).2).map ao).length=(row a (bo a k (p,b)).2).length:=aG _;have pos:0<(row a (bo a k (p,b)).2).length:=uv hs;have e0:(0:Int)<(((row a (bo a k (p,b)).2).map ao).length:Int):=by rw[lr];lia
    refine#[.bl true,_,_,rfl,rfl,_,rfl,zz _,rfl,(λz=>c (xi.mp z)),by rw[aG];lia,?_]
    refine#[_,rfl,_,rfl,_,rfl,trivial,cD (by rw[aG,aG,dO];lia),?_]
    exists _,rfl,_,rfl,_,rfl,_,fo cS,trivial;have fx:=fE hs;exists _,rfl,_,rfl,_,rfl,_,rfl,_,rfl,_,rfl,_,rfl,rfl,cR _,_,_,fx.1,fx.2.1,fx.2.2;exists _,rfl,e0;have em:(((row a (bo a k (p,b)).2).idxOf (bo a k (p,b)).1:Nat):Int)+1=(((row a (bo a k (p,b)).2).idxOf (bo a k (p,b)).1+1:Nat):Int):=()
    have et:((((row a (bo a k (p,b)).2).idxOf (bo a k (p,b)).1:Nat):Int)+1)%(((row a (bo a k (p,b)).2).map ao).length:Int)=((((row a (bo a k (p,b)).2).idxOf (bo a k (p,b)).1+1)%(row a (bo a k (p,b)).2).length:Nat):Int):=by rw[lr,em,Int.natCast_emod]
    refine#[ao (aO (row a (bo a k (p,b)).2) (bo a k (p,b)).1),?_,by show 2<=sizeLine;decide,trivial,m-1,(),k+1,o++ [.bl true],some (aw (row a (bo a k (p,b)).2)),?_,(),λ_=>?_,λj h1 h2=>?_]
    .show fc ((row a (bo a k (p,b)).2).map ao) ((λi j=>i%j) _ _)=_
     dsimp only;rw[et];exact gM (qu _ pos)
    .have e1:(l++walk a (p,b) (k+1)).map zz=(l++walk a (p,b) k).map zz++ [zz (bo a k (p,b))]:=by rw[sN,<-h8,cW];rfl
     have e2:aw ((walk a (p,b) (k+1)).map (·.1))= .lst (((walk a (p,b) k).map (·.1)).map ao++ [ao (bo a k (p,b)).1]):=by unfold aw;rw[sN,cW,cW];rfl
     rw[e1,e2];rfl
    .by_cases z:0<k
     .exact u z
     .obtain rfl:k=0:=()
      exact λh=>c (eN _ h)
    .by_cases z:j=k
     .subst z
      exact λh=>c (eZ _ (cL.mpr #[0,h1,h.symm]))
     .exact G j h1 ()
   .have c:bo a k (p,b)∈l++walk a (p,b) k:=IR (by simpa only[Bool.not_eq_false'] using c)
    refine#[_,rfl,by show 0<=sizeLine;decide,?_]
    refine(?_:sY (aw _) (aw []) _);refine xN #[_,rfl,bO (λe=>?_) (λe=>?_)]
    .have I:0<k:=Nat.pos_of_ne_zero λz=>by subst z;exact absurd e (by simp[walk])
     have bk:=C.back g M I (u I) G c;have C2:=C.grow g M I (u I) G bk;have L:=L9 g X M I G bk;refine#[_,_,rfl,rfl,cD (by rw[aG];lia),?_]
     refine hA _ #[l++walk a (p,b) k,o,n++ [(walk a (p,b) k).map (·.1)],some (ao b),none,some (pairD (bo a k (p,b))),y,?_,C2,λ_=>?_,λ_=>?_,?_,?_]
     .rw[cW (f:=aw)];rfl
     .rw[cA,dO];lia
     .rw[cA];exact Nat.succ_pos _
     .rw[cA,cA,dO];simp only[rm];lia
     .obtain⟨wL,d1,d2,d3,d4,d5⟩:=ok
      refine#[wL++ [walk a (p,b) k],?_,?_,λr v=>?_,λr v=>?_,λd t=>?_]
      .rw[d1,wq];simp
      .rw[d2];unfold Lu;rw[cW];rfl
      .rcases bT.mp v with h|h
       .exact d3 r h
       .rw[cH] at h;rw[h]
        exact#[(p,b),J4 I bk G,M]
      .rcases bT.mp v with h|h
       .exact d4 r h
       .rw[cH] at h;rw[h];exact L
      .rw[Xe] at t
       by_cases z:d=(p,b)
       .rw[z];exact eZ _ (cL.mpr #[0,I,rfl])
       .refine eN _ (d5 d #[t.1,t.2.imp id λh=>#[h.1,(bT.mp h.2).elim id λh2=>absurd (aah h.1 (cH.mp h2)) z]])
    .have I:k=0:=by
      have e:(walk a (p,b) k).map (·.1)= []:=IR (by simpa only[Bool.not_eq_false'] using e)
      have:=GM b3 e
      rwa [aG,dO] at this
     subst I;have e0:l++walk a (p,b) 0=l:=iV _;rw[e0] at c;refine hA _ #[l,o,n,_,_,_,_,by rw[e0],C,λ_=>uv c,J,U,ok.imp λd t=>?_]
     rw[Xe] at t
     by_cases z:d=(p,b)
     .rw[z];exact .inr c
     .exact .inl #[t.1,t.2.imp id λh=>#[h.1,(bT.mp h.2).elim id λh2=>absurd (aah h.1 (cH.mp h2)) z]]
  .rintro _ ⟨l,o,n,N,O,Q,y,rfl,C,S,J,U,ok⟩
   refine hA _ #[l,o,n,_,_,_,_,_,rfl,C,λ_=>S ?_,J,U,ok.imp λd t=> .inl #[t.1,?_]]
   rotate_left
   .rw[aG,rD]
    have:=t.2
    by_cases z:d.1=p
    .exact .inr #[z,z▸t.1]
    .left;lia
   by_cases z:p=0
   .subst z;right;rw[aG];exact r0
   .left;lia
 .rintro _ ⟨l,o,n,o3,N,O,Q,y,rfl,C,S,J,U,ok⟩
  have:=C.len g X
  obtain⟨wL,d1,d2,d3,d4,d5⟩:=ok
  exact#[_,rfl,q n (J (S ())) () d4 (Rl.cn g n2 C #[wL,d1,d2,d3,d4,λd t=>d5 d #[t,bJ t]]) λ_ r v=>by
   rw[d2] at v;obtain⟨rd,VM,rfl⟩:=bh.mp v;obtain⟨d,Rd,dd⟩:=d3 rd VM;exact#[d,rd,Rd,dd,rfl]]
variable {P:Program} {w:World} {mg:Str->Option Value} {base:Heap} {Z:DC} (T:Txt Z mg)
structure CU (r ks:List Nat):Prop where
 ne:0<ks.length
 lt:∀k∈ks,k<r.length
 nd:(ks.map λk=>r.getD k 0).Nodup
 inc:ks.Pairwise (·<·)
def Kd:bS:=λb P=>∃(r:List Nat)(n:Int),b= [aw r, .int n]/\0<r.length/\r.length<=196/\∀a,CU r a->P (aw a)
def wG:FnOk P w Z.K mg base cg 1 T.d__law_places.f T.d__law_places.fd ["_law_land","_law_number"] (aU Z Kd):=by
 have p:=nZ.nd;refine aZ T.d__law_places.F nZ [0,0,0,1,0] ∅ (λI R h=>by obtain⟨_,_,rfl,_⟩:=h;rfl) (λQ A outer s H E I R J h=>?_)
 have C:=J.units
 refine#[_,(ag (aP false 2 p (aa 1))
   (ag (c4 3 p (fW ah))
   (ag (jB rfl FS (gd rfl T.B.range (ae (aH bA rfl T.B.len bz (ae (aa 0) ah)) ah)) (aQ 4 p) (ag (bq (DW.dt (wV (aK (kE C) (aW eJ (aa 1) av) av (aT _)) (tB (aK hV (aE (aa 0) (aa 4)) (iw (NC:= ["_law_at","_law_land"]) (src:= [none,some 0]) rfl (mE (au iN)) #[rfl,rfl,trivial] (br (aa 3)) (λ_ _ _=>(bG 0 (show(["_law_at","_law_land"]:List Str).Nodup from by decide+kernel))) (λ_ _ _=>eH) (λ_ _ _=>(aE (aa 1) (aa 0)))) (by with_unfolding_all rfl))))) (aq (gr false 3 (aa 4))) aM)
   (aq (aP false 1 p (aW qD (aa 1) av)))))
   (ag (bq (aK (kE C) (aa 3) (cF ah) (aT _)) (aq (aF (cF (ae (aW eJ (aa 2) (aH bA rfl T.B.len bz (ae (aa 0) ah))) ah)))) aM)
   (aq (aF (aa 3))))))),?_]
 obtain⟨r,n,rfl,S,L,q⟩:=h;have U:(r.map ao).length=r.length:=aG _;exists _,rfl,trivial;refine#[by show 0<=sizeLine;decide,?_]
 refine#[_,rfl,#[(),by show((r.map ao).length:Int)<2^62;lia],?_]
 rw[show(((r.map ao).length:Int)).toNat=r.length by lia]
 refine g9 (λj ρ=>∃(y:Int)(d:List Nat)(u:Option D),ρ= [some (aw r),some (.int y),some (.int n),some (aw d),u]/\d.length<=j/\(∀k∈d,k<r.length)/\(d.map λk=>r.getD k 0).Nodup/\d.Pairwise (·<·)/\∀k∈d,k<j) #[n,[],_,rfl,aY _,(λk h=>nomatch h),gF, .nil,λk h=>nomatch h] ?_ ?_
 .rintro j _ G ⟨y,d,u,rfl,M,lt,i,l,t⟩ A v
  refine#[_,rfl,(by show(0:Int)<2;decide),RZ #[_,rfl,bO (λ_=>?_) (λ_=>bM #[_,rfl,#[∅,∅],trivial,v _ #[_,d,some (ao j),rfl,(),lt,i,l,λk g=>by have:=t k g;lia]])]]
  exists _,rfl,_,rfl,_,gM G,_,rfl;refine jq (ρ:= [none,some (aw r)]) ao (λk=>ao (r.getD k 0)) d _ (λk g Y N=>?_) rfl (small ()) λX=>?_
  .exact#[_,rfl,_,rfl,_,gM (lt k g),N]
  have e:(d.map λk=>ao (r.getD k 0))=(d.map λk=>r.getD k 0).map ao:=by rw[cw];rfl
  rw[e];exists rfl,cR _,_,rfl;refine(?_:if (if true=true then !inD (ao (r.getD j 0)) ((d.map λk=>r.getD k 0).map ao) else _)=true then _ else _);rw[mo rfl,iH];refine bO (λc=>?_) (λc=>#[_,rfl,#[∅,∅],trivial,v _ #[_,d,some (ao j),rfl,(),lt,i,l,λk g=>by have:=t k g;lia]])
  have c:r.getD j 0∉d.map λk=>r.getD k 0:=Pi (by simpa only[abT] using c)
  refine#[_,rfl,_,rfl,trivial,cD (by rw[aG];lia),?_]
  refine#[_,rfl,#[∅,∅],trivial,v _ #[y / 2,d++ [j],some (ao j),?_,?_,λk g=>?_,?_,abn.mpr #[l,acd ..,λa x b o=>by rw[cH.mp o];exact t a x],λk g=>?_]]
  .unfold aw;rw[cW];rfl
  .rw[cA];simp only[rm];lia
  .rcases bT.mp g with h|h
   .exact lt k h
   .rw[cH] at h;rw[h];exact G
  .rw[cW,cU]
   refine#[i,by simp,λa x b o z=>c ?_]
   have o:b=r.getD j 0:=by simpa using o
   rw[<-o,<-z];exact x
  .rcases bT.mp g with h|h
   .have:=t k h;lia
   .rw[cH.mp h];lia
 .rintro _ ⟨y,d,u,rfl,M,lt,i,l,_⟩
  refine#[_,rfl,by show 0<=sizeLine;decide,?_]
  refine(?_:xK (aw d) (aw []) _);refine Dg #[_,rfl,bO (λe=>?_) (λe=>?_)]
  .have m:=r8 n ((r.map ao).length:Int) ()
   refine#[_,rfl,_,rfl,(by show(0:Int)<((r.map ao).length:Int);lia),by show 1<=sizeLine;decide,?_]
   have:=q [(n%((r.map ao).length:Int)).toNat] #[Nat.succ_pos _,λk g=>by rw[cH] at g;lia,by simp,acd ..]
   have O:aw [(n%((r.map ao).length:Int)).toNat]= .lst [.int (n%((r.map ao).length:Int))]:=by
    show D.lst [.int (((n%((r.map ao).length:Int)).toNat:Nat):Int)]=_;rw[show(((n%((r.map ao).length:Int)).toNat:Nat):Int)=n%((r.map ao).length:Int) by lia]
   rw[O] at this;exact this
  .have e:d≠ []:=Pi e
   exact#[_,rfl,q d #[zG.mpr e,lt,i,l]]
variable {P:Program} {w:World} {mg:Str->Option Value} {base:Heap} {Z:DC} (T:Txt Z mg)
def FD{w v:W}(g:Good w){c:List Nat}(ne:0<c.length)(lt:∀p∈c,p<w.length)(len:v.length=w.length+1)(l:(row v w.length).Nodup)(last:∀x,x∈row v w.length↔x∈c)(nod:∀p,p<w.length->(row v p).Nodup)(mem:∀p,p<w.length->∀q,q∈row v p↔q∈row w p\/(q=w.length/\p∈c)):Good v:=by
 have m:w.length∉c:=λh=>lQ _ (lt _ h)
 have f:∀{p q},q∈row v p->(p<w.length/\(q∈row w p\/(q=w.length/\p∈c)))\/(p=w.length/\q∈c):=λ {p q} h=>by
  have:=bJ h
  by_cases z:p=w.length
  .subst z;exact .inr #[rfl,(last q).mp h]
  .have:p<w.length:=()
   exact .inl #[this,(mem p this q).mp h]
 have j:∀{a b},Reach w a b->Reach v a b:=λ {a b} h=>by
  induction h with
  |refl=>exact .refl _
  |step _ k n=>exact .step n ((mem _ (bJ k) _).mpr (.inl k))
 refine#[λp q h=>?_,λp h=>?_,λp=>?_,λp q h=>?_,λp o=>?_]
 .rcases f h with ⟨_,h| ⟨h,_⟩⟩ | ⟨_,h⟩
  .have:=g.rng p q h;lia
  .lia
  .have:=lt q h;lia
 .rcases f h with ⟨_,h| ⟨_,h⟩⟩ | ⟨e,h⟩
  .exact g.irr p h
  .have:=lt p h;lia
  .subst e;exact m h
 .by_cases z:p<w.length
  .exact nod p z
  .by_cases e:p=w.length
   .subst e;exact l
   .have:row v p= []:=abu.mpr λq h=>by have:=bJ h;lia
    rw[this];exact gF
 .rcases f h with ⟨o,d| ⟨e,d⟩⟩ | ⟨e,d⟩
  .have s:=g.sym p q d
   exact(mem q (bJ s) p).mpr (.inl s)
  .subst e;exact(last p).mpr d
  .subst e;exact(mem q (lt q d) _).mpr (.inr #[rfl,d])
 .by_cases z:p<w.length
  .exact j (g.con p z)
  .obtain rfl:p=w.length:=()
   obtain⟨x,i⟩:=List.exists_mem_of_length_pos ne;exact .step (j (g.con x (lt x i))) ((mem x (lt x i) _).mpr (.inr #[rfl,i]))
def L0{x0:Int}(B:Prop)(Ok:Int->Prop)(h:a[i]?\(some (.int x0)))(j:¬B->Ok x0)(k:∀Q:Bool->Prop,(B->Q true)->(¬B->Q false)->c a Q)(l:B->∀Q:D->Prop,(∀x:Int,Ok x->Q (.int x))->f (zp d m a) Q)
  (g:∀x:Int,Ok x->E.nx (a.set i (some (.int x)))):Hr c (Dl d m i f) Bt E a:=by
 refine k _ (λb=>eC (l b _ λx n=>#[?_,g x n])) (λb=>bM ?_)
 .cases m
  .trivial
  .rfl
 .have:=g x0 (j b)
  obtain⟨o,e⟩:=df.mp h;rw[<-e,abg] at this;exact this
def JV{r:List Nat}(h:k<r.length):fc (r.map ao) ((k:Int)-1)\(ao (r.getD ((k+(r.length-1))%r.length) 0)):=by
 cases k with
 |zero=>
  rw[qm,ik ()]
  refine N5 (j:=r.length-1) (n:=r.length) (aG _) ?_ ?_
  .unfold k4
   rw[ir (),mo ()]
   exact GM some ()
  .rw[bW,bK,cv (by lia:r.length-1<r.length)];rfl
 |succ k=>
  rw[show k+1+(r.length-1)=k+r.length by lia,aa0,ik (),show((k+1:Nat):Int)-1=(k:Int) by lia]
  exact gM ()
def LO(w:W)(r:List Nat)(k:Nat):Nat:=if row w (r.getD k 0)= [] then 0 else(row w (r.getD k 0)).idxOf (r.getD ((k+(r.length-1))%r.length) 0)+1
structure Be (w v:W) (r ks:List Nat):Prop where
 len:v.length=w.length+1
 out:∀p,p<w.length->p∉(ks.map λk=>r.getD k 0)->row v p=row w p
 at_:∀k∈ks,row v (r.getD k 0)=ins (row w (r.getD k 0)) (LO w r k) w.length
 last:row v w.length=(ks.map λk=>r.getD k 0).reverse
def Nr:bS:=λb P=>∃(w:W)(r a:List Nat),b= [aX w,aw r,aw a]/\Good w/\1<=w.length/\w.length<=13/\k5 w r/\CU r a/\∀v,Good v->v.length=w.length+1->Be w v r a->P (aX v)
def pF:FnOk P w Z.K mg base cg 1 T.d__law_grown.f T.d__law_grown.fd ["_law_turns","_law_land","_law_places_here"] (aU Z Nr):=by
 have G:=pX.nd;refine aZ T.d__law_grown.F pX [0,0,0,1,1,0,0,0] ∅ (λds R h=>by obtain⟨_,_,_,rfl,_⟩:=h;rfl) (λbD A outer s H E ds R hr h=>?_)
 have hu:=hr.units
 refine#[_,(ag (Ak 3 (NC:= ["_law_turn"]) (src:= [none]) rfl G (mE (au jt)) trivial (br (aa 0)) (λ_ _ _=>(bG 0 (show(["_law_turn"]:List Str).Nodup from by decide+kernel))) (λ_ _ _=>eH) (λ_ _ _=>(gW sW rfl T.B.list fg (ae (aa 0) ah))))
   (ag (c4 4 G (fW ah))
   (ag (dh rfl FS (Hx rfl T.B.reversed (ae (aa 2) ah)) (aQ 5 G) (ag (Lf 6 3 G (aE (aa 1) (aa 5)))
   (ag (aP false 7 G av)
   (ag (bq (aK (gI hu) (aa 6) (cF ah) (aT _)) (aq (aP false 7 G (aW cz (qw (aa 6) (aE (aa 1) (aW HS (aa 5) av))) av))) aM)
   (ag (Fw 3 (aE (aa 1) (aa 5)) (Oi (aW cz (fh (aa 6) f9 (gb (aa 7))) (cF (ae (aH bA rfl T.B.len bz (ae (aa 0) ah)) ah))) (fh (aa 6) (gb (aa 7)) f9)))
   (aq (gr false 4 (aE (aa 1) (aa 5)))))))))
   (aq (aF (aW cz (aa 3) (cF (ae (aa 4) ah)))))))),?_]
 obtain⟨b,r,c,rfl,g,M,YR,L,K,q⟩:=h;have lw:(b.map aw).length=b.length:=aG _;exists _,rfl;refine jq (ρ:= [none]) aw aw b _ (λx d Y hY=>#[_,rfl,hY]) rfl (small ()) λaJ=>?_
 refine#[by show 0<=sizeLine;decide,?_]
 exists _,rfl;refine(?_:iE _ _ _ (c.map ao).reverse _);rw[<-vB];have nr:(c.reverse.map λk=>r.getD k 0).Nodup:=by rw[vB];exact(zy _).nodup_iff.mpr K.nd
 refine bU (λj ρ=>∃(v:W)(o5 o6 o7:Option D),ρ= [some (aX b),some (aw r),some (aw c),some (aX v),some (aw ((c.reverse.take j).map λk=>r.getD k 0)),o5,o6,o7]/\v.length=b.length/\(∀p,p<b.length->p∉((c.reverse.take j).map λk=>r.getD k 0)->row v p=row b p)/\(∀p,p<b.length->(row v p).Nodup)/\(∀p,p<b.length->∀x,x∈row v p↔x∈row b p\/(x=b.length/\p∈(c.reverse.take j).map λk=>r.getD k 0))/\∀x∈c.reverse.take j,row v (r.getD x 0)=ins (row b (r.getD x 0)) (LO b r x) b.length)
  #[b,_,_,_,rfl,rfl,(λp _ _=>rfl),(λp _=>g.nod p),(λp _ x=>#[.inl,λh=>h.elim id λh=>nomatch h.2]),λx h=>by simp at h] ?_ ?_
 .rintro j _ _ hd ⟨v,o5,o6,o7,rfl,t,same,vn,J,N⟩ A hA
  obtain⟨k,u,rfl⟩:=cu hd;have kk:k∈c:=qt.mp (dY u);have O:=K.lt k kk;have al:=L.lt k O;have tk:c.reverse.take (j+1)=c.reverse.take j++ [k]:=by rw[uz,u];rfl
  generalize S:((c.reverse.take j).map λk=>r.getD k 0)=C at same J ⊢;have U:((c.reverse.take (j+1)).map λk=>r.getD k 0)=C++ [r.getD k 0]:=by rw[tk,cW,S];rfl
  have na:r.getD k 0∉C:=λz=>by
   have:=nr
   rw[<-iT (j+1) c.reverse,cW,U] at this
   have:=(cU.mp (cU.mp this).1).2.2 _ z _ (cH.mpr rfl)
   exact this rfl
  have dl:C.length<=196:=by
   have M:=az (m:=ac b.length) (l:=C) (by rw[<-S,sQ];exact nr.sublist (abR ..)) λx d=>by
    rw[<-S] at d;obtain⟨y,hy,rfl⟩:=bh.mp d;exact b9.mpr (L.lt y (K.lt y (qt.mp (abt hy))))
   rw[fB] at M;lia
  generalize X:r.getD k 0=a at*;have rl:=dF g a;have ra:row v a=row b a:=same a al na;have Rn:fc (r.map ao) (k:Int)\(ao a):=by rw[gM O,X]
  have lr:((row b a).map ao).length=(row b a).length:=aG _;refine#[_,rfl,_,rfl,_,rfl,_,Rn,_,_,rfl,fo (by rw[t];exact al),?_]
  exists trivial;rw[ra];dsimp only;refine Dk ?_;refine(?_:Hr _ (Dl [0,0,0,1,1,0,0,0] false 7 _) Bt _ [some (aX b),some (aw r),some (aw c),some (aX v),some (aw C),some (ao k),some (aw (row b a)),some (.int 0)]);refine L0 (row b a≠ []) (λz=>∃i:Nat,z=(i:Int)/\i<=(row b a).length/\i=if row b a= [] then 0 else(row b a).idxOf (r.getD ((k+(r.length-1))%r.length) 0)+1) (x0:=0) (by rfl) (λnb=>#[0,rfl,dZ _,by rw[mo (Classical.not_not.mp nb)]]) (λQ M h2=>?_) (λne Q hQ=>?_) λz hz=>?_
  .refine#[_,rfl,by show 0<=sizeLine;decide,?_]
   refine(?_:sY (aw (row b a)) (aw []) _);refine xN #[_,rfl,?_]
   by_cases e:row b a= []
   .rw[GT e];exact h2 (λz=>z e)
   .rw[Gc e];exact M e
  .obtain⟨x,d⟩:=List.exists_mem_of_ne_nil _ ne
   have n2:2<=b.length:=by
    have:=g.rng a x d
    have:x≠a:=λe=>g.irr a (by rw[e] at d;exact d)
    lia
   have hb:=L.tie n2 k O;rw[X] at hb;have fx:=fE hb;have il:=we.mpr hb;exact#[_,rfl,_,rfl,_,rfl,_,rfl,_,JV O,rfl,cR _,_,_,fx.1,fx.2.1,fx.2.2,hQ _ #[(row b a).idxOf (r.getD ((k+(r.length-1))%r.length) 0)+1,by rw[Int.natCast_add];rfl,(),by rw[ir ne]]]
  obtain⟨i,rfl,il,ii⟩:=hz;have ca:cutD ((row b a).map ao) none (some (i:Int))=((row b a).take i).map ao:=by rw[kq _ _ (by rw[lr];lia),sQ]
  have cb:cutD ((row b a).map ao) (some (i:Int)) none=((row b a).drop i).map ao:=by rw[ko _ _ (by rw[lr];lia),aba]
  have s1:(cutD ((row b a).map ao) none (some (i:Int))).length+1<=sizeLine:=by rw[ca,aG,kX];exact small ()
  have ei:(cutD ((row b a).map ao) none (some (i:Int))++ [ao (b.map aw).length])++cutD ((row b a).map ao) (some (i:Int)) none=(ins (row b a) i b.length).map ao:=by
   rw[ca,cb,lw];unfold ins;rw[cW,h8];rfl
  have s2:(cutD ((row b a).map ao) none (some (i:Int))++ [ao (b.map aw).length]).length+(cutD ((row b a).map ao) (some (i:Int)) none).length<=sizeLine:=by
   rw[<-cA,ei,aG,yj];exact small ()
  refine#[_,rfl,_,rfl,_,rfl,by show 1<=sizeLine;decide,s1,_,rfl,_,rfl,_,rfl,_,rfl,s2,?_]
  have fl:((cutD ((row b a).map ao) none (some (i:Int))++ [ao (b.map aw).length])++cutD ((row b a).map ao) (some (i:Int)) none).all eE=true:=by rw[ei];exact cR _
  have ix:k4 (v.map aw).length (a:Int)\a:=by
   unfold k4;rw[mo (),mo (by rw[aG,t];lia)]
   exact GM some ()
  exists fl,_,rfl,_,rfl,_,rfl,_,Rn,_,a,rfl,ix;refine#[_,rfl,_,rfl,_,rfl,_,Rn,trivial,cD (by rw[aG];lia),?_]
  have nin:b.length∉row b a:=λz=>lQ _ (g.rng _ _ z);have o:∀p,row (v.set a (ins (row b a) i b.length)) p=if a=p then ins (row b a) i b.length else row v p:=λp=>Wb.Nc (by rw[t];exact al)
  refine hA _ #[v.set a (ins (row b a) i b.length),some (ao k),some (aw (row b a)),some (ao i),?_,by rw[cV,t],λp n I=>?_,λp n=>?_,λp n x=>?_,λx d=>?_]
  .have e3:aX (v.set a (ins (row b a) i b.length))= .lst ((v.map aw).set a (.lst ((cutD ((row b a).map ao) none (some (i:Int))++ [ao (b.map aw).length])++cutD ((row b a).map ao) (some (i:Int)) none))):=by
    rw[ei];exact GM D.lst (Kk ..).symm
   have e4:aw (C++ [a])= .lst (C.map ao++ [ao a]):=by unfold aw;rw[cW];rfl
   rw[U,e3,e4];rfl
  .rw[U] at I
   rw[bT] at I;rw[o,ir (λe=>I (.inr (cH.mpr e.symm)))];exact same p n λz=>I (.inl z)
  .rw[o]
   split
   .exact yF (g.nod a) nin
   .exact vn p n
  .rw[o,U,bT,cH]
   split
   .next e=>
    subst e;rw[El];exact#[λh=>h.elim (λh=> .inr #[h, .inr rfl]) .inl,λh=>h.elim .inr λh=> .inl h.1]
   .next e=>
    rw[J p n x];exact or_congr aaV (and_congr aaV #[.inl,λh=>h.elim id λh=>absurd h.symm e])
  .rw[tk] at d
   rw[o]
   rcases bT.mp d with d|d
   .rw[ir (λe=>na (by rw[e,<-S];exact bh.mpr #[x,d,rfl]))]
    exact N x d
   .rw[cH] at d
    subst d;rw[X,mo rfl,LO,X,<-ii]
 .rintro _ ⟨v,o5,o6,o7,rfl,t,same,vn,J,N⟩
  rw[aG,rD] at same J N ⊢;have ps0:0<(c.reverse.map λk=>r.getD k 0).length:=by rw[aG,zw];exact K.ne
  have plt:∀p∈c.reverse.map (λk=>r.getD k 0),p<b.length:=λp n=>by
   obtain⟨k,u,rfl⟩:=bh.mp n;exact L.lt k (K.lt k (qt.mp u))
  have o:∀p,row (v++ [c.reverse.map λk=>r.getD k 0]) p=if p=b.length then c.reverse.map (λk=>r.getD k 0) else row v p:=λp=>by
   unfold row;rw[bK,bK]
   by_cases e:p=b.length
   .rw[mo e,kU (),show p-v.length=0 by lia];rfl
   .rw[ir e]
    by_cases z:p<v.length
    .rw[kW z]
    .rw[fZ (by rw[cA];simp only[rm];lia),fZ ()]
  have G2:Good (v++ [c.reverse.map λk=>r.getD k 0]):=by
   refine FD g ps0 plt (by rw[cA,t];rfl) ?_ (λx=>?_) (λp n=>?_) λp n x=>?_
   .rw[o,mo rfl];exact nr
   .rw[o,mo rfl]
   .rw[o,ir ()];exact vn p n
   .rw[o,ir ()];exact J p n x
  have em:∀p,p∈(c.reverse.map λk=>r.getD k 0)↔p∈c.map λk=>r.getD k 0:=λp=>by rw[vB,qt]
  have HR:Be b (v++ [c.reverse.map λk=>r.getD k 0]) r c:=#[by rw[cA,t];rfl,λp n I=>by rw[o,ir ()];exact same p n λz=>I ((em p).mp z),λk u=>by
   have:=L.lt k (K.lt k u)
   rw[o,ir ()]
   exact N k (qt.mpr u),by rw[o,mo rfl,vB]]
  have:=q _ G2 (by rw[cA,t];rfl) HR
  have ew:aX (v++ [c.reverse.map λk=>r.getD k 0])= .lst (v.map aw++ [aw (c.reverse.map λk=>r.getD k 0)]):=by unfold aX;rw[cW];rfl
  rw[ew] at this;exact#[_,rfl,_,rfl,by show 1<=sizeLine;decide,by rw[aG];exact small (by simp only[rm];lia),this]
variable {P:Program} {w:World} {mg:Str->Option Value} {base:Heap} {Z:DC} (T:Txt Z mg)
def LZ{w v:W}(g:Good w)(j:2<=w.length)(R:fC w d a)(L:k5 w (a.map (·.1)))(K:CU (a.map (·.1)) c)(h:Be w v (a.map (·.1)) c):Km w v (c.map λx=>a.getD x (0,0)):=by
 have i:(a.map (·.1)).length=a.length:=aG _;refine#[h.len,λp l m=>h.out p l λz=>?_,λx n=>?_,?_]
 .obtain⟨k,b,e⟩:=bh.mp z
  exact m _ (bh.mpr #[k,b,rfl]) (by rw[<-e,mF])
 .obtain⟨k,b,rfl⟩:=bh.mp n
  have f:=K.lt k b;have tie:=L.tie j k f;have at_:=h.at_ k b;have ne:row w ((a.map (·.1)).getD k 0)≠ []:=List.ne_nil_of_mem tie;rw[LO,ir ne] at at_;rw[i] at f;have pv:=J3 R f;rw[mF,i,mF] at tie at_;have o:(a.getD k (0,0)).1=(a.getD ((k+(a.length-1))%a.length) (0,0)).2:=by rw[pv];rfl
  have q:(a.getD k (0,0)).2=aO (row w (a.getD k (0,0)).1) (a.getD ((k+(a.length-1))%a.length) (0,0)).1:=by
   rw[o]
   conv=>lhs;rw[pv]
   rfl
  show Fd (row w (a.getD k (0,0)).1) (row v (a.getD k (0,0)).1) (a.getD k (0,0)).2 w.length;rw[at_,q];exact EG tie
 .rw[h.last,cw]
  congr 1
  exact wo λk _=>mF _ _
def AS{w v:W}(g:Good w)(l:Good v)(L:k5 w r)(K:CU r a)(h:Be w v r a)(m:2<=w.length->∃d e,fC w d e/\aL w d/\r=e.map (·.1))(z:1<=w.length)(P:2<=w.length->kn w):kn v:=by
 by_cases i:2<=w.length
 .obtain⟨d,e,R,n,rfl⟩:=m i
  have H:=LZ g i R L K h;cases a with
  |nil=>exact absurd K.ne (by simp)
  |cons k a=>
   refine JT g l R n K.inc (λx o=>?_) ?_ H (P i)
   .have:=K.lt x o;rwa [aG] at this
   .have:=K.nd
    rwa [show((k::a).map λx=>(e.map (·.1)).getD x 0)=(k::a).map λx=>(e.getD x (0,0)).1 from wo λx _=>mF _ _] at this
 .have p:w.length=1:=()
  obtain rfl:=yR g p;have j:∀k∈a,r.getD k 0=0:=λk q=>by have:=L.lt k (K.lt k q);exact Nat.lt_one_iff.mp this
  cases a with
  |nil=>exact absurd K.ne (by simp)
  |cons k a=>
   have f:=j k (bF ..)
   have s:a= []:=by
    cases a with
    |nil=>rfl
    |cons t a=>
     have:=K.nd
     rw[cX,cX,f,j t (by simp)] at this
     simp at this
   subst s;have b:=h.at_ k (bF ..);rw[f,LO,f,mo (show row ([[]]:W) 0= [] from rfl)] at b;have c:=h.last;rw[cX,f] at c;have u:=h.len
   have:v= [[1],[0]]:=by
    match v,u,b,c with
    | [x,y],_,b,c=>
     have b:x= [1]:=b;have c:y= [0]:=c;rw[b,c]
   rw[this];exact MM
def P9:bS:=λb P=>∃(a:List Int),b= [.lst (bV a)]/\a.length<=13/\∀w,Good w->w.length=a.length+1->(2<=w.length->kn w)->P (aX w)
def Je:Good [[]]:=#[λp q h=>by have:=bJ h;cases p<;>simp[row] at h,λp h=>by have:=bJ h;cases p<;>simp[row] at h,λp=>by cases p<;>simp[row],λp q h=>by have:=bJ h;cases p<;>simp[row] at h,λp a=>by
 obtain rfl:p=0:=by simpa using a
 exact .refl _]
def B7:FnOk P w Z.K mg base cg 2 T.d__law_web.f T.d__law_web.fd ["_law_draws_here"] (aU Z P9):=by
 have b:=ub.nd;refine aZ T.d__law_web.F ub [0,0,0,0,0] ∅ (λy R h=>by obtain⟨_,rfl,_⟩:=h;rfl) (λbD A outer s H E y R c h=>?_)
 have hu:=c.units
 refine#[_,(ag (aP false 1 b (cF (ae (cF ah) ah)))
   (ag (dh rfl FS (br (aa 0)) (aQ 2 b) (ag (aP false 3 b (aC T.d__law_lands (pG T) c (ae (aa 1) ah)))
   (ag (aP false 4 b (aE (aa 3) (aW eJ (aa 2) (aH bA rfl T.B.len bz (ae (aa 3) ah)))))
   (aq (aP false 1 b (aC T.d__law_grown (pF T) c (ae (aa 1) (ae (aa 4) (ae (aC T.d__law_places (wG T) c (ae (aa 4) (ae (aW qD (aa 2) (aH bA rfl T.B.len bz (ae (aa 3) ah))) ah))) ah)))))))))
   (aq (aF (aa 1))))),?_]
 obtain⟨C,rfl,YR,q⟩:=h;refine#[by show 0<=sizeLine;decide,by show 1<=sizeLine;decide,trivial,?_]
 exists _,rfl;refine bU (λj G=>∃(w:W)(d e k:Option D),G= [some (.lst (bV C)),some (aX w),d,e,k]/\Good w/\w.length=j+1/\(2<=w.length->kn w)) #[[[]],_,_,_,rfl,Je,rfl,λz=>absurd z ∅] ?_ ?_
 .rintro j _ _ I ⟨v,d,e,k,rfl,g,p,l⟩ A J
  obtain⟨x,M,rfl⟩:=cu I;have jl:=(df.mp M).1;refine#[_,rfl,v,rfl,g,(),(),λa r0 rl ok _ N=>#[trivial,?_]]
  have r:(a.map aw).length=a.length:=aG _;have n:(0:Int)<((a.map aw).length:Int):=by rw[r];lia
  have m:=r8 x ((a.map aw).length:Int) n;obtain⟨i,O⟩:∃i:Nat,x%((a.map aw).length:Int)=(i:Int):=#[(x%((a.map aw).length:Int)).toNat,()]
  have o:i<a.length:=()
  have Q:fc (a.map aw) (x%((a.map aw).length:Int))\(aw (a.getD i [])):=by
   rw[O];exact gm (by rw[bW,bK,cv o];rfl)
  have t:a.getD i []∈a:=by rw[bK,cv o];exact lO o
  have L:k5 v (a.getD i []):=ok _ t;exists _,rfl,_,rfl,_,rfl,n,_,Q,trivial;refine#[_,rfl,_,rfl,_,rfl,_,rfl,_,rfl,#[n,by show((a.map aw).length:Int)<1073741824;rw[r];lia],?_]
  refine#[a.getD i [],_,rfl,L.ne,L.sz,λS K=>#[v,a.getD i [],S,rfl,g,(),(),L,K,λU u l2 X=>#[trivial,?_]]]
  exact J _ #[U,_,_,_,rfl,u,(),λ_=>AS g u L K X (λY=>N Y _ t) () l]
 .rintro _ ⟨v,d,e,k,rfl,g,p,l⟩
  exact#[_,rfl,q v g (by rw[p];unfold bV;rw[aG]) l]
variable {P:Program} {w:World} {mg:Str->Option Value} {base:Heap} {Z:DC} (T:Txt Z mg)
def FE{w v:W}(g:Good w)(len:v.length=w.length)(nod:∀p,p<w.length->(row v p).Nodup)(mem:∀p,p<w.length->∀q,q∈row v p↔q∈row w p):Good v:=by
 have all:∀{p q},q∈row v p↔q∈row w p:=λ {p q}=>by
  by_cases h:p<w.length
  .exact mem p h q
  .exact#[λz=>absurd (bJ z) (),λz=>absurd (bJ z) h]
 refine#[λp q h=>by rw[len];exact g.rng p q (all.mp h),λp h=>g.irr p (all.mp h),λp=>?_,λp q h=>all.mpr (g.sym p q (all.mp h)),λp f=>?_]
 .by_cases z:p<w.length
  .exact nod p z
  .have:row v p= []:=abu.mpr λq h=>by have:=bJ h;lia
   rw[this];exact gF
 .have c:∀{a b},Reach w a b->Reach v a b:=λ {a b} h=>by
   induction h with
   |refl=>exact .refl _
   |step _ d e=>exact .step e (all.mpr d)
  exact c (g.con p ())
def named(w:W)(a:List Nat):W:=(ac w.length).map λp=>(row w (a.getD p 0)).map λq=>a.idxOf q
def fK{a:List Nat}{x:Nat}(h:x∈a):a.getD (a.idxOf x) 0=x/\a.idxOf x<a.length:=by
 have b:=we.mpr h;refine#[?_,b];rw[bK,cv b];exact Ba b
def DS{a:List Nat}(b:a.Nodup)(h:i<a.length):a.idxOf (a.getD i 0)=i:=by
 rw[bK,cv h];exact b.idxOf_getElem i h
def kL{w:W}(h:p<w.length):row (named w a) p=(row w (a.getD p 0)).map λq=>a.idxOf q:=by
 unfold named row;rw[bK,bW,qp h];rfl
def DV{w:W}(g:Good w)(N:xo w.length a):Good (named w a):=by
 have lt:∀p,p<w.length->a.idxOf p<w.length:=λp b=>by have:=(fK (dq N b)).2;rw[N.1] at this;exact this
 refine Jf (ord:=λp=>a.idxOf p) g (by unfold named;simp) lt (λp q b c e=>?_) (λy f=>?_) (λp b=>?_)
 .have:=(fK (dq N b)).1
  have:=(fK (dq N c)).1
  have e:a.idxOf p=a.idxOf q:=e;exact(fK (dq N b)).1.symm.trans (by rw[e];exact(fK (dq N c)).1)
 .have d:y<a.length:=by rw[N.1];exact f
  exact#[a.getD y 0,N.2.2 _ (getD_mem d),DS N.2.1 d]
 .rw[kL (lt p b),(fK (dq N b)).1]
def Kg{l m:List Nat}(h:l.Perm m):l.sum=m.sum:=by
 induction h with
 |nil=>rfl
 |cons x _ c=>rw[acF,acF,c]
 |swap x y l=>simp only[acF];lia
 |trans _ _ a b=>exact a.trans b
def m7(w:W):i9 w=((ac w.length).map λp=>(row w p).length).sum:=by
 unfold i9
 congr 1
 refine rA λi=>?_;rw[bW,bW]
 by_cases h:i<w.length
 .rw[qp h,cv h]
  unfold row;rw[Option.map_some,Option.map_some,bK,cv h];rfl
 .rw[fZ (),fZ (by rw[fB];lia)];rfl
def uI{w v:W}(a:v.length=w.length)(h:∀p,p<w.length->(row v p).length=(row w p).length):i9 v=i9 w:=by
 rw[m7,m7,a]
 congr 1
 exact wo λp b=>h p (b9.mp b)
def Fs{w:W}(N:xo w.length a):i9 (named w a)=i9 w:=by
 have b:(named w a).length=w.length:=by unfold named;simp
 have c:(ac w.length).map (λp=>a.getD p 0)=a:=by
  refine rA λi=>?_;rw[bW]
  by_cases h:i<w.length
  .rw[qp h,cv (by rw[N.1];exact h),Option.map_some,bK,cv (by rw[N.1];exact h)];rfl
  .rw[fZ (by rw[fB];lia),fZ (by rw[N.1];lia)];rfl
 have d:a.Perm (ac w.length):=(ur N.2.1 uy).mpr λx=>#[λh=>b9.mpr (N.2.2 x h),λh=>dq N (b9.mp h)];rw[m7,b,m7 w,<-Kg (d.map λx=>(row w x).length)]
 conv=>rhs;rw[<-c,cw]
 congr 1
 refine wo λp e=>?_;rw[kL (b9.mp e),aG];rfl
def Gk{w v:W}(N:xo w.length a)(d:v.length=w.length)(f:∀p,p<w.length->∃i,row v p=(row (named w a) p).drop i++(row (named w a) p).take i):Bh w v λp=>a.idxOf p:=by
 have lt:∀p,p<w.length->a.idxOf p<w.length:=λp b=>by have:=(fK (dq N b)).2;rw[N.1] at this;exact this
 refine#[d,lt,λp q b g e=>?_,λy h=>?_,λp b=>?_]
 .have e:a.idxOf p=a.idxOf q:=e
  exact(fK (dq N b)).1.symm.trans (by rw[e];exact(fK (dq N g)).1)
 .have c:y<a.length:=by rw[N.1];exact h
  exact#[a.getD y 0,N.2.2 _ (getD_mem c),DS N.2.1 c]
 .obtain⟨i,e⟩:=f _ (lt p b)
  rw[kL (lt p b),(fK (dq N b)).1] at e;exact#[i,e]
def ML{w v:W}(g:Good w)(b:Good v)(d:2<=w.length)(P:kn w)(N:Bh w v a)(f:i9 v=i9 w):kn v:=by
 obtain⟨c,F,e⟩:=P;have E:Eu true w:=λ_=>#[c,F,(),λ_=>e]
 obtain⟨h,i,_,j⟩:=E.nam g b N f (by rw[N.len];exact d)
 exact#[h,i,j rfl]
def Nu:bS:=λb P=>∃(w:W)(a:List Int),b= [aX w, .lst (bV a)]/\Good w/\1<=w.length/\w.length<=14/\a.length=w.length/\∀v,Good v->v.length=w.length->i9 v=i9 w->(2<=w.length->kn w->kn v)->P (aX v)
def yM:FnOk P w Z.K mg base cg 1 T.d__law_named.f T.d__law_named.fd ["_law_turns","_law_draws_here"] (aU Z Nu):=by
 have d:=pZ.nd;refine aZ T.d__law_named.F pZ [0,0,0,0,0,1,0,0] ∅ (λds R h=>by obtain⟨_,_,rfl,_⟩:=h;rfl) (λbD A outer s H E ds R hr h=>?_)
 have hu:=hr.units
 refine#[_,(ag (aP false 2 d (cF ah))
   (ag (jB rfl FS (gd rfl T.B.range (ae (aH bA rfl T.B.len bz (ae (aa 0) ah)) ah)) (aQ 3 d) (ag (aP false 4 d (aW eJ (aE (aa 1) (aa 3)) (aW cz (aa 3) av)))
   (aq (aP false 2 d (aW cz (aW cz (fh (aa 2) f9 (gb (aa 4))) (cF (ae (aa 3) ah))) (fh (aa 2) (gb (aa 4)) f9))))))
   (ag (c4 5 d (fW ah))
   (ag (jB rfl FS (gd rfl T.B.range (ae (aH bA rfl T.B.len bz (ae (aa 0) ah)) ah)) (aQ 6 d) (ag (uJ 7 (NC:= ["_law_q","_law_names"]) (src:= [none,some 2]) rfl d (mE (au ju)) #[rfl,rfl,trivial] (br (aE (aa 0) (aE (aa 2) (aa 6)))) (λ_ _ _=>(bG 0 (show(["_law_q","_law_names"]:List Str).Nodup from by decide+kernel))) (λ_ _ _=>eH) (λ_ _ _=>(qw (aa 1) (aa 0))))
   (ag (aP false 4 d (aW eJ (aW qD (aE (aa 1) (aa 6)) av) (aH (KL rfl) rfl T.B.max N8 (ae av (ae (aH bA rfl T.B.len bz (ae (aa 7) ah)) ah)))))
   (aq (gr false 5 (aW cz (fh (aa 7) (gb (aa 4)) f9) (fh (aa 7) f9 (gb (aa 4)))))))))
   (aq (aF (aa 5))))))),?_]
 obtain⟨b,c,rfl,g,h1,eF,xl,q⟩:=h;have lw:(b.map aw).length=b.length:=aG _;refine#[by show 0<=sizeLine;decide,trivial,?_]
 refine#[_,rfl,#[(),by show((b.map aw).length:Int)<2^62;lia],?_]
 rw[show(((b.map aw).length:Int)).toNat=b.length by lia]
 refine g9 (λj ρ=>∃(a:List Nat)(o m:Option D),ρ= [some (aX b),some (.lst (bV c)),some (aw a),o,m,none,none,none]/\xo j a) #[[],_,_,rfl,rfl,gF,λx h=>by cases h] ?_ ?_
 .rintro j _ hj ⟨a,o,m,rfl,U,d,lt⟩ A I
  have J:=r8 (c.getD j 0) ((j:Int)+1) ()
  have X:(a.map ao).length=j:=by rw[aG,U]
  obtain⟨i,r⟩:∃i:Nat,c.getD j 0%((j:Int)+1)=(i:Int):=#[(c.getD j 0%((j:Int)+1)).toNat,()]
  have il:i<=j:=()
  have u:cutD (a.map ao) none (some (c.getD j 0%((j:Int)+1)))=(a.take i).map ao:=by rw[r,kq _ _ (by rw[X];lia),sQ]
  have C:cutD (a.map ao) (some (c.getD j 0%((j:Int)+1))) none=(a.drop i).map ao:=by rw[r,ko _ _ (by rw[X];lia),aba]
  have ei:(cutD (a.map ao) none (some (c.getD j 0%((j:Int)+1)))++ [ao j])++cutD (a.map ao) (some (c.getD j 0%((j:Int)+1))) none=(ins a i j).map ao:=by
   rw[u,C];unfold ins;rw[cW,h8];rfl
  have s1:(cutD (a.map ao) none (some (c.getD j 0%((j:Int)+1)))).length+1<=sizeLine:=by rw[u,aG,kX];exact small ()
  have L:(cutD (a.map ao) none (some (c.getD j 0%((j:Int)+1)))++ [ao j]).length+(cutD (a.map ao) (some (c.getD j 0%((j:Int)+1))) none).length<=sizeLine:=by
   rw[<-cA,ei,aG,yj];exact small ()
  refine#[_,rfl,_,rfl,_,D6 (),_,rfl,(by show(0:Int)<(j:Int)+1;lia),trivial,?_]
  refine#[_,rfl,_,rfl,_,rfl,by show 1<=sizeLine;decide,s1,_,rfl,_,rfl,L,trivial,?_]
  refine I _ #[ins a i j,some (ao j),some (.int (c.getD j 0%((j:Int)+1))),?_,by rw[yj,U],yF d (λz=>by have:=lt j z;lia),λx l=>?_]
  .have e:aw (ins a i j)= .lst ((cutD (a.map ao) none (some (c.getD j 0%((j:Int)+1)))++ [ao j])++cutD (a.map ao) (some (c.getD j 0%((j:Int)+1))) none):=by rw[ei];rfl
   rw[e];rfl
  .rcases El.mp l with rfl|l
   .lia
   .have:=lt x l;lia
 .rintro _ ⟨a,o,m,rfl,N⟩
  have all:∀x,x<b.length->x∈a:=λx l=>dq N l;refine#[by show 0<=sizeLine;decide,?_]
  refine#[_,rfl,#[(),by show((b.map aw).length:Int)<2^62;lia],?_]
  rw[show(((b.map aw).length:Int)).toNat=b.length by lia]
  refine g9 (λj ρ=>∃(v:W)(m M O:Option D),ρ= [some (aX b),some (.lst (bV c)),some (aw a),o,m,some (aX v),M,O]/\v.length=j/\∀p,p<j->∃i,row v p=(row (named b a) p).drop i++(row (named b a) p).take i) #[[],_,_,_,rfl,rfl,λp h=>by lia] ?_ ?_
  .rintro p _ k ⟨v,m,M,O,rfl,n,G⟩ A I
   have np:a.getD p 0<b.length:=N.2.2 _ (by rw[bK,cv (by rw[N.1];exact k)];exact lO _)
   have rl:=dF g (a.getD p 0);refine#[_,rfl,_,rfl,_,rfl,_,gM (by rw[N.1];exact k),_,fo np,?_]
   refine jq (ρ:= [none,some (aw a)]) ao (λx=>ao (a.idxOf x)) (row b (a.getD p 0)) _ (λx l Y hY=>?_) rfl (small ()) λaJ=>?_
   .have Q:=fE (all x (g.rng _ _ l))
    exact#[_,rfl,_,rfl,_,rfl,rfl,cR _,_,_,Q.1,Q.2.1,Q.2.2,hY]
   exists trivial;have eT:(.lst ((row b (a.getD p 0)).map λx=>ao (a.idxOf x)):D)=aw (row (named b a) p):=by rw[kL k];unfold aw;rw[cw];rfl
   have tl:(row (named b a) p).length<=14:=by rw[kL k,aG];lia
   rw[eT];generalize hT:row (named b a) p=t at tl ⊢;have lt:(t.map ao).length=t.length:=aG _;have y:(0:Int)<(if ((t.map ao).length:Int)>1 then((t.map ao).length:Int) else 1):=by split<;>lia
   have J:=r8 (c.getD p 0 / 14) (if ((t.map ao).length:Int)>1 then((t.map ao).length:Int) else 1) y;refine#[_,rfl,_,rfl,_,D6 (),#[∅,∅],_,rfl,_,_,rfl,y,trivial,?_]
   obtain⟨i,r⟩:∃i:Nat,c.getD p 0 / 14%(if ((t.map ao).length:Int)>1 then((t.map ao).length:Int) else 1)=(i:Int):=#[(c.getD p 0 / 14%(if ((t.map ao).length:Int)>1 then((t.map ao).length:Int) else 1)).toNat,()]
   have il:i<=t.length:=by
    rw[r] at J;have h2:=J.2
    split at h2<;>lia
   have u:cutD (t.map ao) none (some (i:Int))=(t.take i).map ao:=by rw[kq _ _ (by rw[lt];lia),sQ]
   have C:cutD (t.map ao) (some (i:Int)) none=(t.drop i).map ao:=by rw[ko _ _ (by rw[lt];lia),aba]
   have L:(cutD (t.map ao) (some (i:Int)) none).length+(cutD (t.map ao) none (some (i:Int))).length<=sizeLine:=by
    rw[u,C,aG,aG,vy,kX];exact small ()
   refine(?_:KQ _ _ _ _ _ [some (aX b),some (.lst (bV c)),some (aw a),o,some (.int (c.getD p 0 / 14%(if ((t.map ao).length:Int)>1 then((t.map ao).length:Int) else 1))),some (aX v),some (ao p),some (aw t)]);rw[r];refine#[_,rfl,_,rfl,_,rfl,_,rfl,_,rfl,L,trivial,cD (by rw[aG];lia),?_]
   refine I _ #[v++ [t.drop i++t.take i],some (.int (i:Int)),some (ao p),some (aw t),?_,by rw[cA,n];rfl,λx l=>?_]
   .have e:aX (v++ [t.drop i++t.take i])= .lst (v.map aw++ [.lst (cutD (t.map ao) (some (i:Int)) none++cutD (t.map ao) none (some (i:Int)))]):=by
     rw[u,C,<-cW];unfold aX;rw[cW];rfl
    rw[e];rfl
   .by_cases z:x=p
    .subst z
     have:row (v++ [t.drop i++t.take i]) x=t.drop i++t.take i:=by
      unfold row;rw[bK,kU (),show x-v.length=0 by lia];rfl
     rw[this,hT];exact#[i,rfl]
    .have:row (v++ [t.drop i++t.take i]) x=row v x:=by
      unfold row;rw[bK,bK,kW ()]
     rw[this];exact G x ()
  .rintro _ ⟨v,m,M,O,rfl,n,G⟩
   have gn:=DV g N;have nl:(named b a).length=b.length:=by unfold named;simp
   have S:∀p,p<b.length->(row v p).Perm (row (named b a) p):=λp k=>by
    obtain⟨i,e⟩:=G p k;rw[e]
    have:=lJ (l₁:=(row (named b a) p).drop i) (l₂:=(row (named b a) p).take i)
    rwa [iT] at this
   have gv:Good v:=FE gn (by rw[n,nl]) (λp k=>(S p ()).nodup_iff.mpr (gn.nod p)) λp k x=>(S p ()).mem_iff
   have dv:i9 v=i9 b:=(uI (by rw[n,nl]) λp k=>(S p ()).length_eq).trans (Fs N)
   exact#[_,rfl,q v gv n dv λl2 P=>ML g gv l2 P (Gk N n G) dv]
variable {P:Program} {w:World} {mg:Str->Option Value} {base:Heap} {Z:DC} (T:Txt Z mg)
def DK(h:0<r.length):CU r ((ac r.length).filter λk=>!decide (r.getD k 0∈r.take k)):=by
 have mk:∀{k:Nat},k∈(ac r.length).filter (λk=>!decide (r.getD k 0∈r.take k))↔k<r.length/\r.getD k 0∉r.take k:=λ {k}=>by
  rw[gE,b9];simp
 have inc:((ac r.length).filter λk=>!decide (r.getD k 0∈r.take k)).Pairwise (·<·):=zH.filter _;refine#[uv (mk.mpr #[h,by simp]),λk c=>(mk.mp c).1,?_,inc]
 rw[oh,i4];refine inc.imp_of_mem λ {a b} d f lt e=>(mk.mp f).2 ?_;rw[<-e];have g:=(mk.mp d).1;refine dY (i:=a) ?_;rw[E4 lt,bK,cv g];rfl
def P4:bS:=λa P=>∃(w:W)(x:Int),a= [aX w, .int x]/\Good w/\1<=w.length/\w.length<=13/\(2<=w.length->kn w)/\∀v,Good v->v.length=w.length+1->kn v->P (aX v)
def z6:FnOk P w Z.K mg base cg 2 T.d__law_full.f T.d__law_full.fd ["_law_turns","_law_number"] (aU Z P4):=by
 have n:=qX.nd;refine aZ T.d__law_full.F qX [0,0,0,0] ∅ (λz R h=>by obtain⟨_,_,rfl,_⟩:=h;rfl) (λbD A outer s H E z R b h=>?_)
 have hu:=b.units
 refine#[_,(ag (aP false 2 n (aC T.d__law_lands (pG T) b (ae (aa 0) ah)))
   (ag (aP false 3 n (aE (aa 2) (aW eJ (aa 1) (aH bA rfl T.B.len bz (ae (aa 2) ah)))))
   (aq (aF (aC T.d__law_grown (pF T) b (ae (aa 0) (ae (aa 3) (ae (iw (NC:= ["_law_k","_law_land"]) (src:= [none,some 3]) rfl (mE (au j5)) #[rfl,rfl,trivial] (rL rfl T.B.range (ae (aH bA rfl T.B.len bz (ae (aa 3) ah)) ah)) (λ_ _ _=>(bG 0 (show(["_law_k","_law_land"]:List Str).Nodup from by decide+kernel))) (λ_ _ _=>(gK (aK hV (aE (aa 1) (aa 0)) (fh (aa 1) f9 (gb (aa 0))) (by with_unfolding_all rfl)))) (λ_ _ _=>(aa 0))) ah)))))))),?_]
 obtain⟨v,x,rfl,g,o,c,C,q⟩:=h;refine#[_,rfl,v,rfl,g,(),(),λa r0 rl ok _ G=>#[trivial,?_]]
 have I:(a.map aw).length=a.length:=aG _;have p:(0:Int)<((a.map aw).length:Int):=by rw[I];lia
 have m:=r8 x ((a.map aw).length:Int) p;obtain⟨i,J⟩:∃i:Nat,x%((a.map aw).length:Int)=(i:Int):=#[(x%((a.map aw).length:Int)).toNat,()]
 have d:i<a.length:=()
 have M:fc (a.map aw) (x%((a.map aw).length:Int))\(aw (a.getD i [])):=by
  rw[J];exact gm (by rw[bW,bK,cv d];rfl)
 have t:a.getD i []∈a:=by rw[bK,cv d];exact lO d
 have L:k5 v (a.getD i []):=ok _ t;have u:=L.ne;have r2:=L.sz;generalize b:a.getD i []=r at*;have j:(r.map ao).length=r.length:=aG _;exists _,rfl,_,rfl,_,rfl,p,_,M,trivial;refine#[_,rfl,_,rfl,_,rfl,#[(),by show((r.map ao).length:Int)<2^62;lia],?_]
 rw[show(((r.map ao).length:Int)).toNat=r.length by lia,kK]
 refine fM (ρ:= [none,some (aw r)]) ao (λk=>!decide (r.getD k 0∈r.take k)) ao (ac r.length) _ [] _ (λk l Y Nn N O=>?_) #[none,rfl] (small (by rw[iW,fB];lia)) λaJ=>?_
 .have l:=b9.mp l
  exists _,rfl,_,rfl,_,gM l,_,rfl,_,rfl;have Q:cutD (r.map ao) none (some (k:Int))=(r.take k).map ao:=by rw[kq _ _ (by rw[j];lia),sQ]
  refine(?_:KW true _ (.lst (cutD (r.map ao) none (some (k:Int)))) _);rw[Q];exists rfl,cR _,_,rfl;rw[mo rfl,iH];exact bO (λe=>#[_,rfl,N e]) (λe=>O e)
 .exact#[v,r,_,rfl,g,o,c,L,DK u,λS y U X=>q S y U (AS g y L (DK u) X (λn2=>b▸G n2 _ (b▸t)) o C)]
def Nl:bS:=λa P=>∃(b:List Int),a= [.mV b]/\∀w,Good w->1<=w.length->w.length<=14->(2<=w.length->kn w)->P (aX w)
def yL:FnOk P w Z.K mg base cg 3 T.d__law_drawn.f T.d__law_drawn.fd ["_law_script"] (aU Z Nl):=by
 have l:=pV.nd;refine aZ T.d__law_drawn.F pV [0,0,0] ∅ (λC R h=>by obtain⟨_,rfl,_⟩:=h;rfl) (λX A outer s H E C R b h=>?_)
 have Y:=b.units
 refine#[_,(ag (aP false 1 l (aC T.d__law_web (B7 T) b (ae (aC T.d__law_draws (kG T) b (ae (aa 0) (ae av (ae (aW eJ (aC T.d__law_cell_at (gw T) b (ae (aa 0) (ae av ah))) av) ah)))) ah)))
   (ag (dh rfl FS (br (aC T.d__law_draws (kG T) b (ae (aa 0) (ae av (ae (aW eJ (aW qD (aC T.d__law_cell_at (gw T) b (ae (aa 0) (ae av ah))) av) av) ah))))) (aQ 2 l) (aq (bq (aK kF (aH bA rfl T.B.len bz (ae (aa 1) ah)) av (aT _)) (aq (aP false 1 l (aC T.d__law_full (z6 T) b (ae (aa 1) (ae (aa 2) ah))))) aM)))
   (aq (aF (aC T.d__law_named (yM T) b (ae (aa 1) (ae (aC T.d__law_draws (kG T) b (ae (aa 0) (ae av (ae (aH bA rfl T.B.len bz (ae (aa 1) ah)) ah)))) ah))))))),?_]
 obtain⟨c,rfl,q⟩:=h;refine#[_,rfl,_,rfl,c,2,rfl,λv=>#[(by show(0:Int)<14;decide),?_]]
 obtain⟨n,G,h9⟩:∃n:Nat,v%14=(n:Int)/\n<=13:=by
  have:=r8 v 14 ∅
  exact#[(v%14).toNat,(),()]
 dsimp only;rw[show D.int (v%14)=ao n by unfold ao;rw[G]]
 refine#[c,1,n,rfl,(),(),λI xl=>#[I,rfl,(),λJ L l0 m=>#[trivial,?_]]]
 refine#[_,rfl,_,rfl,c,2,rfl,λd=>#[#[∅,∅],(by show(0:Int)<5;decide),?_]]
 obtain⟨u,M,h4⟩:∃n:Nat,d / 14%5=(n:Int)/\n<=4:=by
  have:=r8 (d / 14) 5 ∅
  exact#[(d / 14%5).toNat,(),()]
 dsimp only;rw[show D.int (d / 14%5)=ao u by unfold ao;rw[M]]
 refine#[c,4,u,rfl,(),(),λzs zl=>?_]
 refine bU (λj N=>∃(w:W)(o:Option D),N= [some (.mV c),some (aX w),o]/\Good w/\1<=w.length/\w.length<=14/\(2<=w.length->kn w)) #[J,_,rfl,L,(),(),m] ?_ ?_
 .rintro j _ _ O ⟨a,o,rfl,g,i,y,k⟩ A z
  obtain⟨x,hx,rfl⟩:=cu O;have Q:(a.map aw).length=a.length:=aG _;refine#[_,rfl,_,rfl,bO (λe=>?_) (λe=>z _ #[a,_,rfl,g,i,y,k])];have e:((a.map aw).length:Int)<14:=IR e;refine#[_,rfl,_,rfl,a,x,rfl,g,i,(),k,λp r S t=>#[trivial,z _ #[p,_,rfl,r,(),(),λ_=>t]]]
 .rintro _ ⟨a,o,rfl,g,i,y,k⟩
  have Q:(a.map aw).length=a.length:=aG _;refine#[_,rfl,_,rfl,_,rfl,c,3,(a.map aw).length,rfl,(),(),λU yl=>#[a,U,rfl,g,i,(),(),λp r S d2 t=>q p r () () λh=>t () (k ())]]
end oH
namespace Wb
def pt:List Nat->List Dt
 |a::b::l=>(a,b)::pt (b::l)
 |_=> []
theorem Ia:∀(l:List Nat)(a:Nat),(pt (a::l)).length=l.length
 | [],_=>rfl
 |b::l,a=>GM (·+1) (Ia l b)
def iK{x y:Nat}:∀{l:List Nat},(x,y)∈pt l↔∃A B,l=A++x::y::B:=by
 intro l
 induction l with
 |nil=>exact#[λh=>(by cases h),λ#[A,B,e]=>(by cases A<;>cases e)]
 |cons a l c=>
  cases l with
  |nil=>
   refine#[λh=>(by cases h),λ#[A,B,e]=>?_]
   have:=GM b3 e
   simp at this;lia
  |cons b l=>
   rw[show pt (a::b::l)=(a,b)::pt (b::l) from rfl,bu,c]
   constructor
   .rintro(h| ⟨A,B,h⟩)
    .cases h;exact#[[],l,rfl]
    .exact#[a::A,B,by rw[h];rfl]
   .rintro⟨A,B,e⟩
    cases A with
    |nil=>cases e;exact .inl rfl
    |cons _ A=>exact .inr #[A,B,(Wp e).2]
theorem qc:∀{A A' B B':List Nat},x∉A->x∉A'->A++x::B=A'++x::B'->A=A'/\B=B'
 | [],[],_,_,_,_,e=>by cases e;exact#[rfl,rfl]
 | [],a::A',_,_,_,h,e=>by cases e;exact absurd (bF ..) h
 |a::A,[],_,_,h,_,e=>by cases e;exact absurd (bF ..) h
 |a::A,b::A',_,_,h,c,e=>by
  obtain⟨d,f⟩:=qc (λz=>h (cm _ z)) (λz=>c (cm _ z)) (Wp e).2;rw[(Wp e).1,d];exact#[rfl,f]
theorem Ap:∀{P X B:List Nat},p∉P->X++p::B=P++ [p]->X=P/\B= []
 | [],[],_,_,e=>by cases e;exact#[rfl,rfl]
 | [],x::X,B,_,e=>by have:=GM b3 e;simp at this
 |y::P,[],_,h,e=>by cases e;exact absurd (bF ..) h
 |y::P,x::X,_,h,e=>by
  obtain⟨a,b⟩:=Ap (λz=>h (cm _ z)) (Wp e).2;rw[(Wp e).1,a];exact#[rfl,b]
def uZ{A B C D:List Nat}(e:l=A++u::x::y::B)(c:l.count x=1):(l=C++x::r::D->r=y)/\(l=C++r::x::D->r=u):=by
 have d:x∉A++ [u]:=λz=>by
  have z:=Bb.mpr z;rw[e,show A++u::x::y::B=(A++ [u])++x::(y::B) by simp,uw,rz] at c;lia
 refine#[λa=>?_,λa=>?_]
 .have b:x∉C:=λz=>by
   have z:=Bb.mpr z;rw[a,uw,rz] at c;lia
  have:=(qc (A:=A++ [u]) (A':=C) (B:=y::B) (B':=r::D) d b (by rw[<-a,e];simp)).2
  exact(Wp this).1.symm
 .have b:x∉C++ [r]:=λz=>by
   have z:=Bb.mpr z;rw[a,show C++r::x::D=(C++ [r])++x::D by simp,uw,rz] at c;lia
  have:=(qc (A:=A++ [u]) (A':=C++ [r]) (B:=y::B) (B':=D) d b (by rw[show(C++ [r])++x::D=C++r::x::D by simp,<-a,e];simp)).1
  have:=GM (λl=>l.getLast?) this
  simpa using this.symm
theorem EV(b:l.Nodup)(Y:List Nat)(P:Nat->Prop):∀(M X:List Nat)(u:Nat),l=X++u::(M++v::Y)->P (aO l u)->(∀x∈M,P x->P (aO l x))->P v
 | [],X,u,e,a,_=>by
  subst e;rw[show X++u::([]++v::Y)=X++u::v::Y from rfl] at a b;rw[eY b] at a;exact a
 |m::M,X,u,e,a,h=>by
  have c:aO l u=m:=by subst e;exact eY b
  rw[c] at a;exact EV b Y P M (X++ [u]) m (by rw[e];simp) (h m (bF ..) a) λx d=>h x (cm _ d)
def along{w:W}(g:Good w){L:List Dt}{f:Dt->Nat}(iv:CQ w L f):∀{Z:List Nat}{a b:Nat},(∀d∈pt (a::b::Z),aL w d/\Rl L d)->(∀A u x y B,a::b::Z=A++u::x::y::B->y≠u/\∀r,Rl L (x,r)->r=u\/r=y)->∀d∈pt (a::b::Z),f d=f (a,b):=by
 intro Z
 induction Z with
 |nil=>intro a b _ _ d hd;cases hd with|head=>rfl|tail _ h=>cases h
 |cons c Z ih=>
  intro a b hr hu d hd;cases hd with
  |head=>rfl
  |tail _ hd=>
   have e:f (b,c)=f (a,b):=by
    obtain⟨ne,only⟩:=hu [] a b c Z rfl;have h1:=hr (a,b) (bF ..);have h2:=hr (b,c) (cm _ (bF ..));obtain⟨r,r1,r2,r3,r4⟩:=r9 g iv h1.1 h1.2 #[c,ne,h2.1,h2.2]
    rcases only r r3 with z|z
    .exact absurd z r1
    .rw[<-z];exact r4
   rw[<-e];exact ih (λd hd=>hr d (cm _ hd)) (λA u x y B e=>hu (a::A) u x y B (by rw[e];rfl)) d hd
def Ib{x y:Nat}{l:List Nat}:(x,y)∈pt l.reverse↔(y,x)∈pt l:=by
 rw[iK,iK]
 constructor
 .rintro⟨A,B,e⟩
  have:=GM List.reverse e
  rw[abv] at this;exact#[B.reverse,A.reverse,by rw[this];simp]
 .rintro⟨A,B,e⟩
  exact#[B.reverse,A.reverse,by rw[e];simp]
theorem yZ(c p:Nat):∀l:List Nat,pt (l++ [c,p])=pt (l++ [c])++ [(c,p)]
 | []=>rfl
 | [a]=>rfl
 |a::b::l=>GM (List.cons (a,b)) (yZ c p (b::l))
theorem Cd:∀(l:List Nat),(pt l).map (·.1)=l.dropLast
 | []=>rfl
 | [a]=>rfl
 |a::b::l=>GM (List.cons a) (Cd (b::l))
def g7{x y:Nat}(h:(x,y)∈pt l):x∈l/\y∈l:=by
 obtain⟨A,B,e⟩:=iK.mp h;rw[e];simp
structure Lp (w:W) (L:List Dt) (Z:List Nat):Prop where
 dart:∀d∈pt Z,aL w d/\Rl L d
 tri:∀A u x y B,Z=A++u::x::y::B->y≠u/\∀r,Rl L (x,r)->r=u\/r=y
def Lp.rev(g:Good w)(h:Lp w L Z):Lp w L Z.reverse:=by
 refine#[λd a=>?_,λA u x y B e=>?_]
 .have:=h.dart (d.2,d.1) (Ib.mp a)
  exact#[jb g this.1,lC.mp this.2]
 .have e:=GM List.reverse e
  rw[abv] at e;obtain⟨b,c⟩:=h.tri B.reverse y x u A.reverse (by rw[e];simp)
  exact#[b.symm,λr f=>(c r f).symm]
structure Loop (w:W) (p a c:Nat) (M:List Nat):Prop where
 nd:(p::a::(M++ [c])).Nodup
 pa:a∈row w p
 pc:c∈row w p
 ti:∀d∈pt (a::(M++ [c])),aL w d
def lz(p a c:Nat)(M:List Nat):List Nat:=p::a::(M++ [c,p])
def r6(p a c:Nat)(M:List Nat):pt (lz p a c M)=(p,a)::(pt (a::(M++ [c]))++ [(c,p)]):=GM (List.cons (p,a)) (yZ c p (a::M))
def pq(p a c:Nat)(M:List Nat):lz p a c M=(p::a::(M++ [c]))++ [p]:=by simp[lz]
def HL(p a c:Nat)(M:List Nat):(pt (lz p a c M)).length=(a::(M++ [c])).length+1:=by rw[r6,b8,cA,Ia];simp
section
variable {w:W} {p a c:Nat} {M:List Nat}
def Loop.dart(g:Good w)(h:Loop w p a c M):∀d∈pt (lz p a c M),aL w d:=by
 rw[r6];intro d b
 rcases bu.mp b with rfl|b
 .exact h.pa
 rcases bT.mp b with b|b
 .exact h.ti d b
 .rw[cH.mp b];exact g.sym _ _ h.pc
def Loop.cnt(h:Loop w p a c M)(b:x∈a::(M++ [c])):(lz p a c M).count x=1/\x≠p:=by
 have n:=cI.mp h.nd;have ne:x≠p:=λz=>n.1 (z▸b);refine#[?_,ne];rw[pq,uw,abj (Ne.symm ne),abj (Ne.symm ne),acC];rw[n.2.count,mo b]
def Loop.Uu(h:Loop w p a c M):(lz p a c M).count p=2:=by
 have n:=cI.mp h.nd;rw[pq,uw,rz,rz,acC,List.count_eq_zero.mpr n.1]
def Loop.mem(h:Loop w p a c M){x y:Nat}(b:(x,y)∈pt (lz p a c M)):(x=p/\y=a)\/(x=c/\y=p)\/(x,y)∈pt (a::(M++ [c])):=by
 rw[r6] at b
 rcases bu.mp b with e|b
 .cases e;exact .inl #[rfl,rfl]
 rcases bT.mp b with b|b
 .exact .inr (.inr b)
 .cases cH.mp b;exact .inr (.inl #[rfl,rfl])
def Loop.tri(h:Loop w p a c M){u x y:Nat}(e:lz p a c M=A++u::x::y::B):x∈a::(M++ [c])/\y≠u:=by
 have b:=h.Uu
 have g:x∈a::(M++ [c]):=by
  rcases h.mem (iK.mpr #[A,y::B,e]) with ⟨_,rfl⟩ | ⟨_,rfl⟩ |z
  .exact bF ..
  .rcases h.mem (x:=x) (y:=y) (iK.mpr #[A++ [u],B,by rw[e];simp]) with ⟨_,rfl⟩ | ⟨z,_⟩ |z
   .exfalso
    have n:=cI.mp h.nd;rw[pq] at e
    have:=(Ap (X:=(A++ [u]).tail) (B:=y::B) n.1 ?_).2
    .cases this
    .cases A with
     |nil=>simp at e ⊢;exact#[e.2.1.symm,e.2.2.symm]
     |cons _ A=>simp at e ⊢;exact e.2.symm
   .exact absurd (z▸(by simp:c∈a::(M++ [c]))) (cI.mp h.nd).1
   .exact absurd (g7 z).1 (cI.mp h.nd).1
  .exact(g7 z).2
 refine#[g,λz=>?_];subst z
 by_cases d:y=p
 .subst d
  have i:=GM b3 e;rw[e,uw,rz] at b;have f:(x::y::B).count y=B.count y+1:=by rw[abj (λz=>(h.cnt g).2 z),rz]
  rw[f] at b
  have k:A= []:=by
   cases A with
   |nil=>rfl
   |cons z A=>exfalso;rw[<-(Wp e).1,rz] at b;lia
  have l:B= []:=by
   apply FB;intro m;obtain⟨j,z,rfl⟩:=rY m;rw[pq] at e
   have:=GM List.getLast? e
   rw[wg,show A++y::x::y::(j++ [z])=(A++y::x::y::j)++ [z] by simp,wg] at this
   cases this;rw[uw,rz] at b;lia
  rw[k,l] at i;simp[lz] at i
 .have o:y∈a::(M++ [c]):=by
   have:y∈lz p a c M:=by rw[e];simp
   rw[pq] at this
   rcases bT.mp this with z|z
   .rcases bu.mp z with z|z
    .exact absurd z d
    .exact z
   .exact absurd (cH.mp z) d
  have f:=(h.cnt o).1;rw[e,uw,rz] at f
  have:0<(x::y::B).count y:=Bb.mpr (by simp)
  lia
end
section
variable {w:W} {p a b c d:Nat} {M N:List Nat}
structure uF (w:W) (p a c:Nat) (M:List Nat) (b d:Nat) (N:List Nat):Prop where
 l1:Loop w p a c M
 l2:Loop w p b d N
 dj:∀x∈a::(M++ [c]),x∉b::(N++ [d])
def uF.swap(h:uF w p a c M b d N):uF w p b d N a c M:=#[h.l2,h.l1,λx e z=>h.dj x z e]
def Ee(p a c:Nat)(M:List Nat)(b d:Nat)(N:List Nat):List Dt:=pt (lz p a c M)++pt (lz p b d N)
def Loop.Ce(h:Loop w p a c M)(e:(x,y)∈pt (lz p a c M)):(x=p\/x∈a::(M++ [c]))/\(y=p\/y∈a::(M++ [c])):=by
 rcases h.mem e with ⟨rfl,rfl⟩ | ⟨rfl,rfl⟩ |z
 .exact#[.inl rfl, .inr (bF ..)]
 .exact#[.inr (by simp), .inl rfl]
 .exact#[.inr (g7 z).1, .inr (g7 z).2]
def Loop.Kw(h:Loop w p a c M)(f:Rl (pt (lz p a c M)) (p,r)):r=a\/r=c:=by
 have e:=(cI.mp h.nd).1
 rcases f with z|z
 .rcases h.mem z with ⟨_,rfl⟩ | ⟨rfl,_⟩ |z
  .exact .inl rfl
  .exact absurd (by simp) e
  .exact absurd (g7 z).1 e
 .rcases h.mem (x:=r) (y:=p) z with ⟨_,rfl⟩ | ⟨rfl,_⟩ |z
  .exact absurd (by simp) e
  .exact .inr rfl
  .exact absurd (g7 z).2 e
def uF.lp(g:Good w)(h:uF w p a c M b d N):Lp w (Ee p a c M b d N) (lz p a c M):=by
 refine#[λd k=>#[h.l1.dart g d k, .inl (eN _ k)],λA u x y B e=>?_];obtain⟨i,ne⟩:=h.l1.tri e;have f:=h.l1.cnt i;refine#[ne,λr m=>?_]
 have l:∀{y:Nat},¬(x,y)∈pt (lz p b d N)/\¬(y,x)∈pt (lz p b d N):=λ {y}=>#[λz=>by
  rcases(h.l2.Ce z).1 with z|z
  .exact f.2 z
  .exact h.dj x i z,λz=>by
  rcases(h.l2.Ce z).2 with z|z
  .exact f.2 z
  .exact h.dj x i z]
 rcases m with z|z
 .rcases bT.mp z with z|z
  .obtain⟨C,D,j⟩:=iK.mp z
   exact .inr ((uZ (C:=C) (D:=D) e f.1).1 j)
  .exact absurd z l.1
 .rcases bT.mp z with z|z
  .obtain⟨C,D,j⟩:=iK.mp (show(r,x)∈_ from z)
   exact .inl ((uZ (C:=C) (D:=D) e f.1).2 j)
  .exact absurd z l.2
def Jx:Rl (Ee p a c M b d N) e↔Rl (Ee p b d N a c M) e:=by
 unfold Rl Ee;simp only[bT]
 constructor<;>(rintro((z|z) | (z|z))<;>simp[z])
def Lp.of{Z:List Nat}(h:Lp w L Z)(e:∀d,Rl L d↔Rl f d):Lp w f Z:=#[λd g=>#[(h.dart d g).1,(e d).mp (h.dart d g).2],λA u x y B q=>#[(h.tri A u x y B q).1,λr i=>(h.tri A u x y B q).2 r ((e _).mpr i)]]
def HM(p a c:Nat)(M:List Nat):(lz p a c M).reverse=lz p c a M.reverse:=by simp[lz]
def uF.Xc(g:Good w)(h:uF w p a c M b d N):mB w (Ee p a c M b d N):=by
 have f:=cI.mp h.l1.nd;have r:=cI.mp h.l2.nd;have J:a≠c:=λz=>(cI.mp f.2).1 (by rw[z];simp)
 have L:b≠d:=λz=>(cI.mp r.2).1 (by rw[z];simp)
 have s:∀{a c:Nat}{M:List Nat},(p::a::(M++ [c])).Nodup->(pt (lz p a c M)).Nodup:=λ {a c M} n=>by
  have:((pt (lz p a c M)).map (·.1)).Nodup:=by
   rw[Cd,pq,List.dropLast_concat];exact n
  exact List.Pairwise.of_map _ (λa b z e=>z (by rw[e])) this
 refine#[λd i=>?_,?_,λd i z=>?_]
 .rcases bT.mp i with i|i
  .exact h.l1.dart g d i
  .exact h.l2.dart g d i
 .refine cU.mpr #[s h.l1.nd,s h.l2.nd,?_]
  rintro⟨x,y⟩ l _ j rfl
  rcases h.l1.mem l with ⟨rfl,rfl⟩ | ⟨rfl,rfl⟩ |z
  .rcases h.l2.Kw (.inl j) with z|z
   .exact h.dj y (bF ..) (by rw[z];simp)
   .exact h.dj y (bF ..) (by rw[z];simp)
  .rcases(h.l2.Ce j).1 with z|z
   .exact f.1 (by rw[<-z];simp)
   .exact h.dj x (by simp) z
  .rcases(h.l2.Ce j).1 with q|q
   .exact f.1 (by rw[<-q];exact(g7 z).1)
   .exact h.dj x (g7 z).1 q
 .obtain⟨x,y⟩:=d
  have E:∀{a c b d:Nat}{M N:List Nat},uF w p a c M b d N->(x,y)∈pt (lz p a c M)->(y,x)∈Ee p a c M b d N->False:=λ {a c b d M N} h l j=>by
   have f:=cI.mp h.l1.nd;have r:=cI.mp h.l2.nd
   rcases bT.mp j with j|j
   .rcases h.l1.mem l with ⟨rfl,rfl⟩ | ⟨rfl,rfl⟩ |z
    .rcases h.l1.mem j with ⟨rfl,_⟩ | ⟨rfl,_⟩ |z
     .exact f.1 (bF ..)
     .exact(cI.mp f.2).1 (by simp)
     .exact f.1 (g7 z).2
    .rcases h.l1.mem j with ⟨_,rfl⟩ | ⟨rfl,_⟩ |z
     .exact(cI.mp f.2).1 (by simp)
     .exact f.1 (by simp)
     .exact f.1 (g7 z).1
    .obtain⟨A,B,e⟩:=iK.mp j
     obtain⟨C,D,o⟩:=iK.mp l;have F:=(g7 z).1;have O:=h.l1.cnt F
     have:∃u G,A=G++ [u]\/True:=#[0,[], .inr trivial]
     cases D with
     |nil=>
      have:=GM List.getLast? o
      rw[pq,wg,show C++x::y:: []=(C++ [x])++ [y] by simp,wg] at this
      cases this;exact f.1 (g7 z).2
     |cons v D=>
      have H:=(g7 z).2;have I:=h.l1.cnt H;have t:=h.l1.tri o;exact t.2 ((uZ (C:=A) (D:=B) o I.1).1 e).symm
   .rcases(h.l2.Ce j) with ⟨k,m⟩
    rcases h.l1.mem l with ⟨rfl,rfl⟩ | ⟨rfl,rfl⟩ |z
    .rcases k with k|k
     .exact f.1 (by rw[<-k];simp)
     .exact h.dj _ (by simp) k
    .rcases m with m|m
     .exact f.1 (by rw[<-m];simp)
     .exact h.dj _ (by simp) m
    .rcases k with k|k
     .exact f.1 (by rw[<-k];exact(g7 z).2)
     .exact h.dj _ (g7 z).2 k
  rcases bT.mp i with i|i
  .exact E h i z
  .refine E h.swap i ?_
   rcases bT.mp (show(y,x)∈_ from z) with z|z
   .exact eZ _ z
   .exact eN _ z
end
section
variable {w:W} {p a b c d:Nat} {M N:List Nat}
def Lp.all(g:Good w)(j:CQ w L f)(h:Lp w L (lz p a c M)):(∀e∈pt (lz p a c M),f e=f (p,a)/\f (eB e)=f (p,c)):=by
 have m:=along g j h.dart h.tri;have i:=h.rev g;rw[HM] at i;have n:=along g j i.dart i.tri;intro e k;refine#[m e k,n (eB e) ?_]
 have:=Ib (x:=e.2) (y:=e.1) (l:=lz p a c M)
 rw[HM] at this;exact this.mpr k
def za(e:CQ w L f)(g:Good w)(h:Rl L (x,r))(i:r∈row w x):f (x,aO (row w x) r)=f (r,x):=by
 have:=e (r,x) (g.sym _ _ i)
 unfold ph at this;rw[mo (lC.mp h)] at this;exact this
def Ck(e:CQ w L f)(g:¬Rl L (x,r))(h:r∈row w x):f (x,aO (row w x) r)=f (x,r):=by
 have:=e (x,r) h
 unfold ph at this;rw[ir g] at this;exact this
def Rw(g:Good w)(P:kn w)(q:row w p=X++a::(A++b::(B++c::(C++d::D))))(h:uF w p a c M b d N):False:=by
 obtain⟨k0,F,eu⟩:=P;have hL:=h.Xc g;have nr:=g.nod p;have Wr:=cI.mp h.l1.nd;have Ws:=cI.mp h.l2.nd;generalize Q:Ee p a c M b d N=L at hL;have Z1:Lp w L (lz p a c M):=Q▸h.lp g;have Z2:Lp w L (lz p b d N):=(h.swap.lp g).of λe=>by rw[<-Q];exact Jx.symm
 have R:∀e∈pt (lz p a c M),Rl L e:=λe j=>(Z1.dart e j).2;have Tu:∀e∈pt (lz p b d N),Rl L e:=λe j=>(Z2.dart e j).2
 have SQ:∀{e:Dt},Rl L e->Rl (pt (lz p a c M)) e\/Rl (pt (lz p b d N)) e:=λ {e} j=>by
  rw[<-Q] at j
  rcases j with z|z
  .rcases bT.mp z with z|z
   .exact .inl (.inl z)
   .exact .inr (.inl z)
  .rcases bT.mp z with z|z
   .exact .inl (.inr z)
   .exact .inr (.inr z)
 have Yg:∀r,Rl L (p,r)->r=a\/r=b\/r=c\/r=d:=λr s=>by
  rcases SQ s with z|z
  .rcases h.l1.Kw z with z|z
   .exact .inl z
   .exact .inr (.inr (.inl z))
  .rcases h.l2.Kw z with z|z
   .exact .inr (.inl z)
   .exact .inr (.inr (.inr z))
 have SX:(p,a)∈pt (lz p a c M):=by rw[r6];exact bF ..
 have Wi:(c,p)∈pt (lz p a c M):=by rw[r6];simp
 have Wj:(p,b)∈pt (lz p b d N):=by rw[r6];exact bF ..
 have Wk:(d,p)∈pt (lz p b d N):=by rw[r6];simp
 have one:∀f:Dt->Nat,CQ w L f->∀e,Rl L e->f e=f (p,a):=λf o=>by
  have S:=Z1.all g o;have U:=Z2.all g o;have ra:=R _ SX;have rc:Rl L (p,c):=lC.mp (R _ Wi);have rb:=Tu _ Wj;have rd:Rl L (p,d):=lC.mp (Tu _ Wk)
  have step:∀{u v:Nat}(Y X' Y':List Nat),Rl L (p,u)->u∈row w p->(∃E n,E++n=row w p/\n++E=X'++u::(Y++v::Y'))->(∀x∈Y,x≠a/\x≠b/\x≠c/\x≠d)->f (p,v)=f (u,p):=λ {u v} Y X' Y' ru I #[E,n,J,e2] hn=>by
   have jM:(E++n).Nodup:=by rw[J];exact nr
   have zY:(n++E).Nodup:=lJ.nodup_iff.mp jM
   have sr:∀x∈row w p,aO (n++E) x=aO (row w p) x:=λx i=>by
    rw[nN jM (by rw[J];exact i),J]
   refine EV zY Y' (λr=>f (p,r)=f (u,p)) Y X' u e2 ?_ λx i ih=>?_
   .rw[sr u I];exact za o g ru I
   .have zT:x∈row w p:=by
     rw[<-J]
     have:x∈n++E:=by rw[e2];simp[i]
     exact lJ.mem_iff.mp this
    rw[sr x zT];obtain⟨n1,n2,n3,n4⟩:=hn x i;exact(Ck o (λz=>by rcases Yg x z with z|z|z|z<;>contradiction) zT).trans ih
  have Wt:=nr;rw[q] at Wt;simp only[cU,cI,bT,bu,not_or] at Wt;have hA:∀x∈A,x≠a/\x≠b/\x≠c/\x≠d:=λx i=>by grind
  have hB:∀x∈B,x≠a/\x≠b/\x≠c/\x≠d:=λx i=>by grind
  have hC:∀x∈C,x≠a/\x≠b/\x≠c/\x≠d:=λx i=>by grind
  have hD:∀x∈D++X,x≠a/\x≠b/\x≠c/\x≠d:=λx i=>by
   rcases bT.mp i with i|i<;>grind
  have ma:a∈row w p:=h.l1.pa;have mc:c∈row w p:=h.l1.pc;have mb:b∈row w p:=h.l2.pa;have md:d∈row w p:=h.l2.pc;have s1:f (p,b)=f (a,p):=step A X (B++c::(C++d::D)) ra ma #[[],row w p,rfl,by rw[q];simp] hA
  have s2:f (p,c)=f (b,p):=step B (X++a::A) (C++d::D) rb mb #[[],row w p,rfl,by rw[q];simp] hB
  have s3:f (p,d)=f (c,p):=step C (X++a::(A++b::B)) D rc mc #[[],row w p,rfl,by rw[q];simp] hC
  have s4:f (p,a)=f (d,p):=step (D++X) [] (A++b::(B++c::C)) rd md #[X++a::(A++b::(B++c::C)),d::D,by rw[q];simp,by simp] hD
  have t1:=(S _ Wi).1;have t2:f (a,p)=f (p,c):=(S _ SX).2;have t3:=(U _ Wk).1;have t4:f (b,p)=f (p,d):=(U _ Wj).2;have ec:f (p,c)=f (p,a):=()
  have eb:f (p,b)=f (p,a):=()
  have ed:f (p,d)=f (p,a):=()
  intro e j
  rcases SQ j with z|z
  .rcases z with z|z
   .exact(S e z).1
   .have:=(S _ z).2;rw[DM] at this;exact this.trans ec
  .rcases z with z|z
   .exact((U e z).1).trans eb
   .have:=(U _ z).2;rw[DM] at this;exact this.trans ed
 have Z:(p::((a::(M++ [c]))++(b::(N++ [d])))).Nodup:=by
  refine cI.mpr #[λz=>?_,cU.mpr #[Wr.2,Ws.2,λx i y G e=>h.dj x i (e▸G)]]
  rcases bT.mp z with z|z
  .exact Wr.1 z
  .exact Ws.1 z
 generalize O:p::((a::(M++ [c]))++(b::(N++ [d])))=T at Z
 have SR:∀{x y:Nat},Rl L (x,y)->x∈T:=λ {x y} s=>by
  have i1:∀{x:Nat},x=p\/x∈a::(M++ [c])->x∈T:=λ {x} h=>by
   rw[<-O];exact bu.mpr (h.imp id λh=>eN _ h)
  have i2:∀{x:Nat},x=p\/x∈b::(N++ [d])->x∈T:=λ {x} h=>by
   rw[<-O];exact bu.mpr (h.imp id λh=>eZ _ h)
  rcases SQ s with z|z<;>rcases z with z|z
  .exact i1 (h.l1.Ce z).1
  .exact i1 (h.l1.Ce (show(y,x)∈_ from z)).2
  .exact i2 (h.l2.Ce z).1
  .exact i2 (h.l2.Ce (show(y,x)∈_ from z)).2
 have H:∀x∈T,∃r∈row w x,Rl L (x,r):=λx i=>by
  have go:∀{a c:Nat}{M:List Nat},Loop w p a c M->(∀e∈pt (lz p a c M),Rl L e)->∀x∈a::(M++ [c]),∃r∈row w x,Rl L (x,r):=λ {a c M} l hl x i=>by
   have:x∈(pt (lz p a c M)).map (·.1):=by rw[Cd,pq,List.dropLast_concat];exact cm _ i
   obtain⟨⟨x',r⟩,j,rfl⟩:=bh.mp this;exact#[r,l.dart g _ j,hl _ j]
  rw[<-O] at i
  rcases bu.mp i with rfl|i
  .exact#[a,h.l1.pa,R _ SX]
  rcases bT.mp i with i|i
  .exact go h.l1 R x i
  .exact go h.l2 Tu x i
 have lt:∀x∈T,x<w.length:=λx i=>by
  obtain⟨r,s,_⟩:=H x i;exact bJ s
 have lT:T.length=L.length-1/\1<=L.length:=by
  have J:L.length=(a::(M++ [c])).length+1+((b::(N++ [d])).length+1):=by rw[<-Q,Ee,cA,HL,HL]
  have e2:T.length=(a::(M++ [c])).length+(b::(N++ [d])).length+1:=by rw[<-O,b8,cA]
  lia
 have tw:=az Z (m:=ac w.length) λx i=>b9.mpr (lt x i);rw[fB] at tw;obtain⟨k,hk⟩:∃k,T.length+k=w.length:=#[w.length-T.length,()]
 have V3:∀e∈L,e.1∈T/\e.2∈T:=λe j=>#[SR (x:=e.1) (y:=e.2) (.inl j),SR (x:=e.2) (y:=e.1) (lC.mpr (.inl j))];obtain⟨L',E,n,l3⟩:=grow g k T L Z lt (by rw[<-O];simp) hk hL V3
 obtain⟨f0,ZW,Zc⟩:=HG g F;have lb:=az n.both (n.sub g);rw[j8,fD] at lb;obtain⟨m,hm⟩:∃m,2*(L'.length+m)=i9 w:=#[i9 w / 2-L'.length,()]
 have hn:3+m=k0:=()
 obtain⟨f,o,vs,vn,vl,hv⟩:=l3 3 (fill g ZW m L' 3 n hm (by rw[hn];exact Zc))
 have QN:=one f o
 have fT:∀x∈T,∀y∈row w x,f (x,y)=f (p,a):=λx i=>by
  obtain⟨r,s,rr⟩:=H x i;refine pM (g.nod x) s (λy=>f (x,y)=f (p,a)) ((za o g rr s).trans (QN _ (lC.mpr rr))) λy G _ e=>?_
  by_cases z:Rl L (x,y)
  .exact(za o g z G).trans (QN _ (lC.mpr z))
  .exact(Ck o z G).trans e
 have fN:∀x,x∉T->∀y∈row w x,f (x,y)=f (x,(row w x).headD 0):=λx i y G=>by
  have nz:∀z∈row w x,f (x,aO (row w x) z)=f (x,z):=λz hz=>Ck o (λr=>i (SR r)) hz;cases q:row w x with
  |nil=>rw[q] at G;cases G
  |cons u t=>
   have I:u∈row w x:=by rw[q];exact bF ..
   exact pM (g.nod x) I (λy=>f (x,y)=f (x,u)) (nz u I) (λz hz _ e=>(nz z hz).trans e) y G
 have:=az vn (m:=f (p,a)::((ac w.length).filter λx=>!decide (x∈T)).map λx=>f (x,(row w x).headD 0)) λv jJ=>by
  obtain⟨⟨x,y⟩,hd,rfl⟩:=hv v jJ
  by_cases z:x∈T
  .rw[fT x z y hd];exact bF ..
  .rw[fN x z y hd]
   exact cm _ (bh.mpr #[x,gE.mpr #[b9.mpr (bJ hd),by simp[z]],rfl])
 rw[b8,aG,vl] at this;have pl:=kJ (λx=>decide (x∈T)) (ac w.length);rw[fB] at pl
 have:=az Z (m:=(ac w.length).filter λx=>decide (x∈T)) λx i=>gE.mpr #[b9.mpr (lt x i),by simp[i]]
 lia
end
inductive Cr (w:W) (ok:Nat->Prop) (p:Nat):Nat->Prop
 |base:Cr w ok p p
 |step {a b:Nat}:Cr w ok p a->b∈row w a->ok b->Cr w ok p b
def Cr.lt{w:W}{p x:Nat}(g:Good w)(a:p<w.length)(h:Cr w ok p x):x<w.length:=by
 cases h with
 |base=>exact a
 |step _ h _=>exact g.rng _ _ h
def Cr.all{w:W}{p:Nat}{M:Nat->Prop}(c:M p)(d:∀a b,M a->b∈row w a->ok b->M b)(h:Cr w ok p x):M x:=by
 induction h with
 |base=>exact c
 |step _ e f g=>exact d _ _ g e f
def Cr.way(s:ok p)(h:Cr w ok p x):∃l,(p::l).Nodup/\(p::l).getLast?\x/\(∀d∈pt (p::l),aL w d)/\∀y∈p::l,ok y:=by
 induction h with
 |base=>exact#[[],by simp,rfl,(λd g=>nomatch g),λy f=>by rw[cH.mp f];exact s]
 | @step a b _ t u v=>
  obtain⟨l,j,m,n,o⟩:=v
  by_cases z:b∈p::l
  .obtain⟨A,B,e⟩:=CM z
   obtain⟨i,r⟩:∃i,A++ [b]=p::i:=by
    cases A with
    |nil=>cases e;exact#[[],rfl]
    |cons y A=>rw[(Wp e).1];exact#[A++ [b],rfl]
   have k:p::l=p::i++B:=by rw[<-r,e];simp
   refine#[i,?_,by rw[<-r,wg],λd g=>n d ?_,λy f=>o y (by rw[k];exact eN _ f)]
   .rw[k] at j;exact(cU.mp j).1
   .obtain⟨C,D,E⟩:=iK.mp (show(d.1,d.2)∈_ from g)
    exact iK.mpr #[C,D++B,by rw[k,E];simp]
  .refine#[l++ [b],?_,by rw[<-vA,wg],λd g=>?_,λy f=>?_]
   .rw[<-vA]
    exact cU.mpr #[j,by simp,λx F y f e=>z (by rw[cH.mp f] at e;exact e▸F)]
   .obtain⟨q,c,e⟩:=rY (l:=p::l) (by simp)
    have:c=a:=by rw[e,wg] at m;exact Da m
    subst this;rw[<-vA,e,h8] at g;rw[show[c]++ [b]= [c,b] from rfl,yZ,<-e] at g
    rcases bT.mp g with g|g
    .exact n d g
    .rw[cH.mp g];exact t
   .rw[<-vA] at f
    rcases bT.mp f with f|f
    .exact o y f
    .rw[cH.mp f];exact u
def Cr.loop(f:a∈row w p)(g:c∈row w p)(i:a≠c)(j:ok a)(k:¬ok p)(h:Cr w ok a c):∃M,Loop w p a c M/\∀y∈a::(M++ [c]),ok y:=by
 obtain⟨l,m,b,n,d⟩:=h.way j
 obtain⟨M,e⟩:∃M,l=M++ [c]:=by
  rcases zv l with rfl| ⟨M,y,rfl⟩
  .cases b;exact absurd rfl i
  .rw[A7] at b ⊢
   rw[<-vA,wg] at b;cases b;exact#[M,rfl]
 subst e;exact#[M,#[cI.mpr #[λz=>k (d p z),m],f,g,n],d]
def SV(g:Good w)(P:kn w)(e:row w p=X++a::(A++b::(B++c::(C++d::D)))){o1 o2:Nat->Prop}(h:∀x,o1 x->¬o2 x)(i:o1 a)(j:o2 b)(k:¬o1 p)(l:¬o2 p)(m:Cr w o1 a c)(n:Cr w o2 b d):False:=by
 have f:=g.nod p;have o:a∈row w p:=by rw[e];simp
 have q:b∈row w p:=by rw[e];simp
 have r:c∈row w p:=by rw[e];simp
 have s:d∈row w p:=by rw[e];simp
 have t:a≠c:=λz=>by rw[e,z] at f;simp[cU] at f
 have u:b≠d:=λz=>by rw[e,z] at f;simp[cU] at f
 obtain⟨M,v,y⟩:=m.loop o r t i k;obtain⟨N,E,F⟩:=n.loop q s u j l;exact Rw g P e #[v,E,λx G z=>h x (y x G) (F x z)]
end Wb
namespace oH
open PySem L2 Wb
variable {P:Program} {w:World} {mg:Str->Option Value} {base:Heap} {Z:DC} (T:Txt Z mg)
open Wy
def oD:Option Int->D
 |none=> .bC
 |some i=> .int i
def ba(f:List (Option Int)):D:= .lst (f.map oD)
def yH(o:Option Int):eE (oD o)=true:=by cases o<;>rfl
def O8(o:Option Int):kD (oD o)=true:=by cases o<;>rfl
def nA(f:List (Option Int)):(f.map oD).all eE=true:=vC.mpr λd h=>by
 obtain⟨o,_,rfl⟩:=bh.mp h;exact yH o
def Ou(a b:Option Int):iC (oD a) (oD b)=decide (a=b):=by
 cases a<;>cases b<;>simp[oD,iC]
 rename_i a b
 rw[ack];simp
theorem w4(a:Option Int):∀l:List (Option Int),inD (oD a) (l.map oD)=decide (a∈l)
 | []=>rfl
 |b::l=>by
  have:=w4 a l
  unfold inD at this ⊢;rw[cX,aa8,this,Ou,ack];simp only[abr,aaG,bu];exact or_congr #[Eq.symm,Eq.symm] aaV
def d6{f:List (Option Int)}(h:p<f.length):fc (f.map oD) (p:Int)\(oD (f.getD p none)):=gm (by rw[bW,bK,cv h];rfl)
def oP:Option Int->PyData
 |none=> .none
 |some i=> .int i
def BA(a b:Option Int):PyData.eqv (oP a) (oP b)=true↔a=b:=by
 cases a<;>cases b<;>simp[oP,PyData.eqv]
def Ar(a b:List (Option Int)):PyData.eqv (.list (a.map oP)) (.list (b.map oP))=true↔a=b:=by
 rw[PyData.eqv];exact k8 BA a b
def IZ(a b:List (Option Int)):PyData.eqv (.list (a.map oP)) (.list (b.map oP))=decide (a=b):=by
 by_cases e:a=b
 .rw[GT e];exact(Ar a b).mpr e
 .rw[Gc e]
  exact rB.mpr λz=>e ((Ar a b).mp z)
def Ds(a:List (Option Int)):(PyData.list (a.map oP)).depth<=2:=by
 have:=fQ (f:=oP) (k:=1) (λo=>by cases o<;>simp[oP,PyData.depth]) a
 simp[PyData.depth];lia
def GI(o:Option Int):(oD o).py\(oP o):=by cases o<;>rfl
def EH(f:List (Option Int)):(ba f).py\(.list (f.map oP)):=by
 unfold ba;rw[D.py,jh (g:=oP) GI];rfl
def IJ{P:D->Prop}(h:P (.bl (!decide (f=g)))):sY (ba f) (ba g) P:=by
 refine#[_,_,EH f,EH g,by have:=Ds f;lia,?_]
 rw[mo rfl,IZ];exact h
def Pr(w:W)(f:List (Option Int)):Prop:=∀p q d,q∈row w p->f.getD p none\d->f.getD q none≠some d
def jc{f:List (Option Int)}(h:i<f.length)(p:Nat):(f.set i c).getD p none=if p=i then c else f.getD p none:=by
 rw[bK,bK]
 by_cases e:p=i
 .subst e
  rw[fY h,mo rfl];rfl
 .rw[fA (Ne.symm e),ir e]
theorem Pr.set{w:W}(g:Good w)(P:Pr w f)(i:j<f.length)(h:∀d,c\d->∀q∈row w j,f.getD q none≠some d):Pr w (f.set j c):=λp q d b a=>by
 rw[jc i] at a ⊢
 by_cases e:p=j
 .subst e
  rw[mo rfl] at a;rw[ir (λe=>g.irr p (by rw[e] at b;exact b))]
  exact h d a q b
 .rw[ir e] at a
  split
  .next k=>
   subst k;intro z;exact h d z p (g.sym _ _ b) a
  .exact P p q d b a
def gN(f:List (Option Int))(p:Nat)(d:Int)(q:Nat):Prop:=f.getD q none=f.getD p none\/f.getD q none\d
def xa(f:List (Option Int))(p:Nat)(d:Int)(q:Nat):inD (oD (f.getD q none)) [oD (f.getD p none), .int d]=true↔gN f p d q:=by
 have:=w4 (f.getD q none) [f.getD p none,some d]
 rw[show[oD (f.getD p none),D.int d]= [f.getD p none,some d].map oD from rfl,this,decide_eq_true_iff,bu,cH];exact aaV
theorem vj:∀{a b:List Nat},a.Pairwise (·<·)->b.Pairwise (·<·)->(∀x,x∈a↔x∈b)->a=b
 | [],[],_,_,_=>rfl
 | [],y::b,_,_,h=>absurd ((h y).mpr (bF ..)) (by simp)
 |x::a,[],_,_,h=>absurd ((h x).mp (bF ..)) (by simp)
 |x::a,y::b,d,f,h=>by
  rw[zx] at d f;have g:=(h x).mp (bF ..);have i:=(h y).mpr (bF ..)
  have e:x=y:=by
   rcases bu.mp g with e|g
   .exact e
   .rcases bu.mp i with e|i
    .exact e.symm
    .have:=d.1 y i;have:=f.1 x g;lia
  subst e;rw[vj d.2 f.2 λz=>#[λc=>?_,λc=>?_]]
  .rcases bu.mp ((h z).mp (cm _ c)) with e|h
   .have:=d.1 z c;lia
   .exact h
  .rcases bu.mp ((h z).mpr (cm _ c)) with e|h
   .have:=f.1 z c;lia
   .exact h
def Nj:bS:=λa P=>∃(w:W)(f:List (Option Int))(p:Nat)(d:Int),a= [.fS w,ba f,ao p, .int d]/\Good w/\w.length<=14/\p<w.length/\f.length=w.length/\∀L:List Nat,L.Pairwise (·<·)->(∀x,x∈L↔Cr w (gN f p d) p x)->P (aw L)
def uT{c:List Int}(g:c.Perm (d.map λ(n:Nat)=>(n:Int)))(j:c.Pairwise (·<=·))(k:d.Nodup):∃L:List Nat,c.map D.int=L.map ao/\L.Pairwise (·<·)/\L.Perm d:=by
 have e:∀m∈c,((m.toNat:Nat):Int)=m:=λm f=>by
  obtain⟨n,_,rfl⟩:=bh.mp (g.mem_iff.mp f);simp
 have h:(c.map Int.toNat).Perm d:=by
  have:=g.map Int.toNat
  rw[cw] at this;rw[show(Int.toNat∘λ(n:Nat)=>(n:Int))=id from by funext n;simp] at this
  simpa using this
 refine#[c.map Int.toNat,?_,?_,h]
 .rw[cw]
  exact wo λm f=>by show D.int m=ao m.toNat;unfold ao;rw[e m f]
 .have i:=h.nodup_iff.mpr k
  rw[oh,i4] at i;rw[i4]
  exact(j.and i).imp λ {a b} #[l,o]=>by
   have:a.toNat<=b.toNat:=Int.toNat_le_toNat l
   lia
def yI:FnOk P w Z.K mg base cg 2 T.d_chain.f T.d_chain.fd ["web","dyeing","p","dye"] (dE Z 1 Nj):=by
 have C:=AX.nd;refine g8 1 T.d_chain.F AX [0,0,0,0,0,0,99,1,0] ∅ (λds R h=>by obtain⟨_,_,_,_,rfl,_⟩:=h;rfl) (λbD A outer s H E ds R U h=>?_)
 have hu:=U.units
 refine#[_,(ag (aP false 4 C (fP T.W (aa 0) T.m_turns.m (js T) (U.mono ∅) T.m_turns.b))
   (ag (aP false 5 C (cZ (ae (aE (aa 1) (aa 2)) (ae (aa 3) ah))))
   (ag (Lh 6 C rfl T.x_set)
   (ag (c4 7 C (fW (ae (aa 2) ah)))
   (ag (ke FS (cJ (aa 7)) (ag (HB 8 7 C)
   (aq (bq (DW.dt (wV (aK Gu (aa 8) (aa 6) (by with_unfolding_all rfl)) (tB (aK se (aE (aa 1) (aa 8)) (aa 5) (by with_unfolding_all rfl))))) (ag (Lb false 6 (aa 8))
   (aq (Hz 7 (aE (aa 4) (aa 8))))) aM))))
   (aq (Dx (IT rfl rfl T.B.sorted (aa 6))))))))),?_]
 obtain⟨j,f,p,d,rfl,g,eF,t,fl,q⟩:=h;exists _,rfl,j,rfl,j,rfl,eF,trivial;refine#[_,rfl,_,rfl,_,d6 (),_,rfl,by show 2<=sizeLine;decide,trivial,?_]
 refine#[_,rfl,by show 1<=sizeLine;decide,?_]
 refine jj (λm u=>∃(l c:List Nat)(G:Option D),u= [some (.fS j),some (ba f),some (ao p),some (.int d),some (aX j),some (.tup [oD (f.getD p none), .int d]),some (.set (cM w) (c.map λ(n:Nat)=>(n:Int))),some (.lst (l.map ao)),G]/\c.Nodup/\(∀x∈c,Cr j (gN f p d) p x)/\(∀z∈l,z<j.length/\(gN f p d z->Cr j (gN f p d) p z))/\
  (p∈c\/p∈l)/\(∀x∈c,∀y∈row j x,gN f p d y->y∈c\/y∈l)/\m=l.length+20*(20-c.length)/\l.length<=20+20*c.length) 401 ?_ ?_
 .exact#[[p],[],_,rfl,gF,(λx i=>nomatch i),λz k=>by
   rw[cH] at k;subst k;exact#[t,λ_=> .base], .inr (by simp),(λx i=>nomatch i),rfl,by show 1<=20+0;lia]
 rintro m _ ⟨l,c,G,rfl,I,J,hw,N,O,em,k⟩;have Q:gN f p d p:= .inl rfl
 have ml:c.length<=14:=by
  have:=az (m:=ac j.length) I λx i=>b9.mpr ((J x i).lt g t)
  rw[fB] at this;lia
 exists _,rfl,rfl
 rcases zv l with rfl| ⟨o,y,e⟩
 .refine bM ?_
  refine#[_,rfl,_,rfl,by rw[aG];lia,λks pm Cu=>?_]
  obtain⟨L,S,e2,e3⟩:=uT pm Cu I;rw[S];refine q L e2 λx=>?_;rw[e3.mem_iff];refine#[J x,λi=>?_];refine i.all (M:=λx=>x∈c) (N.elim id λh=>nomatch h) λa b ha hb hk=>?_;exact(O a ha b hb hk).elim id λh=>nomatch h
 .rw[A7] at e
  subst e;rw[show zk (.lst ((o++ [y]).map ao))=true by simp[zk]]
  refine eC ?_;rw[cA] at em k;simp only[rm] at em k;refine#[o.map ao,ao y,by rw[cW];rfl,?_]
  have r:=hw y (by simp)
  have X:∀x:Nat,decide ((x:Int)∈c.map λ(n:Nat)=>(n:Int))=decide (x∈c):=λx=>by
   refine aaC.mpr ?_;rw[bh];exact#[λ#[y,r,e]=>by(have:y=x:=();rw[<-this];exact r),λh=>#[x,h,rfl]]
  have keep:∀(F:DN->Prop),(y∈c\/¬gN f p d y)->(∀u,(∃(l c:List Nat)(G:Option D),u= [some (.fS j),some (ba f),some (ao p),some (.int d),some (aX j),some (.tup [oD (f.getD p none), .int d]),some (.set (cM w) (c.map λ(n:Nat)=>(n:Int))),some (.lst (l.map ao)),G]/\c.Nodup/\(∀x∈c,Cr j (gN f p d) p x)/\(∀z∈l,z<j.length/\(gN f p d z->Cr j (gN f p d) p z))/\
    (p∈c\/p∈l)/\(∀x∈c,∀y∈row j x,gN f p d y->y∈c\/y∈l)/\m-1=l.length+20*(20-c.length)/\l.length<=20+20*c.length)->F u)->
    F [some (.fS j),some (ba f),some (ao p),some (.int d),some (aX j),some (.tup [oD (f.getD p none), .int d]),some (.set (cM w) (c.map λ(n:Nat)=>(n:Int))),some (.lst (o.map ao)),some (ao y)]:=λF t hF=>by
   have drop:∀z,gN f p d z->(z∈c\/z∈o++ [y])->(z∈c\/z∈o):=λz n h=>by
    rcases h with h|h
    .exact .inl h
    .rcases bT.mp h with h|h
     .exact .inr h
     .rw[cH] at h
      subst h;exact t.elim .inl λt=>absurd n t
   exact hF _ #[o,c,_,rfl,I,J,λz k=>hw z (eN _ k),drop p Q N,λx i y r n=>drop y n (O x i y r n),(),()]
  exists _,rfl,_,rfl,_,_,_,rfl,rfl,_,rfl;refine(?_:if (if true=true then !decide ((y:Int)∈c.map λ(n:Nat)=>(n:Int)) else _)=true then _ else _);rw[mo rfl,X];refine bO (λv=>?_) (λv=>?_)
  .have v:y∉c:=by simpa using v
   refine#[_,rfl,_,rfl,_,d6 (),_,rfl,yH _,nA [f.getD p none,some d],_,rfl,?_]
   refine(?_:if (if false=true then _ else inD (oD (f.getD y none)) [oD (f.getD p none), .int d])=true then _ else _);rw[ir cP];refine bO (λok=>?_) (λok=>?_)
   .have ok:=(xa f p d y).mp ok
    have Y:=r.2 ok;have rl:=dF g y;refine#[_,rfl,_,rfl,y,rfl,by rw[aG];lia,?_]
    refine#[_,rfl,_,rfl,_,rfl,_,fo r.1,_,rfl,(by rw[aG,aG];exact small ()),?_]
    have S:AA (c.map λ(n:Nat)=>(n:Int)) (y:Int)=(c++ [y]).map λ(n:Nat)=>(n:Int):=by
     unfold AA;rw[ir (by have:=X y;rw[Gc v] at this;exact Pi this),cW];rfl
    refine#[(o++row j y).length+20*(20-(c++ [y]).length),by rw[cA,cA,rm];lia,o++row j y,c++ [y],some (ao y),?_,?_,?_,?_,?_,?_,rfl,?_]
    .rw[<-S,show(o++row j y).map ao=o.map ao++(row j y).map ao from cW ..];rfl
    .rw[cU]
     refine#[I,by simp,λx i y r z=>v ?_]
     rw[cH] at r;rw[<-r,<-z];exact i
    .intro x i
     rcases bT.mp i with i|i
     .exact J x i
     .rw[cH] at i;rw[i];exact Y
    .intro z k
     rcases bT.mp k with k|k
     .exact hw z (eN _ k)
     .exact#[g.rng _ _ k,λh=> .step Y k h]
    .rcases N with h|h
     .exact .inl (eN _ h)
     .rcases bT.mp h with h|h
      .exact .inr (eN _ h)
      .exact .inl (eZ _ h)
    .intro x i z k n
     rcases bT.mp i with i|i
     .rcases O x i z k n with h|h
      .exact .inl (eN _ h)
      .rcases bT.mp h with h|h
       .exact .inr (eN _ h)
       .exact .inl (eZ _ h)
     .rw[cH] at i
      subst i;exact .inr (eZ _ k)
    .rw[cA,cA,rm];lia
   .exact keep _ (.inr λz=>by rw[(xa f p d y).mpr z] at ok;cases ok) λu h=>#[m-1,(),h]
  .exact bM (keep _ (.inl (~~~v)) λu h=>#[m-1,(),h])
def KU{P:D->Prop}(h:P (.bl (decide (a=b)))):xK (oD a) (oD b) P:=by
 refine#[_,_,GI a,GI b,by cases a<;>simp[oP,PyData.depth],?_]
 rw[ir cP,show PyData.eqv (oP a) (oP b)=decide (a=b) by
  by_cases e:a=b
  .rw[GT e];exact(BA a b).mpr e
  .rw[Gc e];exact rB.mpr λz=>e ((BA a b).mp z)]
 exact h
def sw(a b:Int)(o:Option Int):Option Int:=if o\a then some b else if o\b then some a else o
def gG(f:List (Option Int))(l:List Nat)(a b:Int):List (Option Int):=(ac f.length).map λp=>if p∈l then sw a b (f.getD p none) else f.getD p none
def dS(f:List (Option Int))(l:List Nat)(a b:Int):(gG f l a b).length=f.length:=by unfold gG;simp
def jY(h:p<f.length):(gG f l a b).getD p none=if p∈l then sw a b (f.getD p none) else f.getD p none:=by
 unfold gG;rw[bK,bW,qp h];rfl
def tU{f g:List (Option Int)}(b:f.length=g.length)(h:∀p,p<f.length->f.getD p none=g.getD p none):f=g:=by
 refine List.ext_getElem b λi a c=>?_
 have:=h i a
 rw[bK,bK,cv a,cv c] at this;exact this
def Lj(f:List (Option Int))(a b:Int):gG f [] a b=f:=tU (dS ..) λp c=>by
 rw[jY (by rw[dS] at c;exact c),ir (by simp)]
def Av(h:p<f.length):gG f (l++ [p]) a b=(gG f l a b).set p (sw a b (f.getD p none)):=by
 refine tU (by rw[dS,cV,dS]) λx c=>?_
 rw[dS] at c;rw[jY c,jc (by rw[dS];exact h),jY c]
 by_cases e:x=p
 .subst e;rw[mo (by simp),mo rfl]
 .rw[ir e]
  by_cases z:x∈l
  .rw[mo (eN _ z),mo z]
  .rw[ir z,ir]
   intro y
   rcases bT.mp y with y|y
   .exact z y
   .exact e (~~~y)
def Ja(h:p<f.length)(d:f.getD p none≠some a)(g:f.getD p none≠some b):gG f (l++ [p]) a b=gG f l a b:=by
 rw[Av h];refine tU (by rw[cV]) λx c=>?_
 rw[cV,dS] at c;rw[jc (by rw[dS];exact h)]
 have:sw a b (f.getD p none)=f.getD p none:=by unfold sw;rw[ir d,ir g]
 by_cases e:x=p
 .subst e
  rw[mo rfl,jY c,this];split<;>rfl
 .rw[ir e]
def NH(o:Option Int):sw b a (sw a b o)=o:=by
 unfold sw
 by_cases c:o\a
 .subst c
  rw[mo rfl,mo rfl]
 .rw[ir c]
  by_cases d:o\b
  .subst d
   rw[mo rfl]
   split
   .next e=>exact e
   .rw[mo rfl]
  .rw[ir d,ir d,ir c]
def NG(a b:Int)(o:Option Int):sw a b o=none↔o=none:=by
 unfold sw
 split
 .next e=>subst e;simp
 .split
  .next e=>subst e;simp
  .exact aaV
def Cq:bS:=λc P=>∃(f:List (Option Int))(l:List Nat)(a b:Int),c= [ba f,aw l, .int a, .int b]/\f.length<=14/\l.length<=14/\(∀p∈l,p<f.length)/\P (ba (gG f l a b))
def yK:FnOk P w Z.K mg base cg 1 T.d_exchanged.f T.d_exchanged.fd ["dyeing","points","one","other"] (dE Z 1 Cq):=by
 have g:=rf.nd;refine g8 1 T.d_exchanged.F rf [0,0,0,0,1,0] ∅ (λu R h=>by obtain⟨_,_,_,_,rfl,_⟩:=h;rfl) (λG A outer s H E u R v h=>?_)
 have i:=v.units
 refine#[_,(ag (c4 4 g (tx rfl rfl T.B.list fg (aa 0)))
   (ag (dh rfl FS (br (aa 1)) (aQ 5 g) (aq (bq (aK (kE i) (aE (aa 0) (aa 5)) (aa 2) (aT _)) (aq (ja false 4 (aa 5) (aa 3))) (aq (bq (aK (kE i) (aE (aa 0) (aa 5)) (aa 3) (aT _)) (aq (ja false 4 (aa 5) (aa 2))) aM)))))
   (aq (xR 4)))),?_]
 obtain⟨f,l,a,b,rfl,I,J,x,q⟩:=h;exists _,rfl;exists _,rfl;refine bU (λj y=>∃o,y= [some (ba f),some (aw l),some (.int a),some (.int b),some (ba (gG f (l.take j) a b)),o]) #[none,?_] ?_ ?_
 .rw[List.take_zero,Lj];rfl
 .rintro j _ _ z ⟨o,rfl⟩ A k
  obtain⟨p,m,rfl⟩:=cu z;have e:=x p (dY m);have n:l.take (j+1)=l.take j++ [p]:=by rw[uz,m];rfl
  have r:k4 ((gG f (l.take j) a b).map oD).length (p:Int)\p:=by rw[aG,dS];exact BR e
  have t:∀c:Int,sw a b (f.getD p none)\c->A [some (ba f),some (aw l),some (.int a),some (.int b),some (.lst (((gG f (l.take j) a b).map oD).set p (.int c))),some (ao p)]:=λc C=>by
   refine k _ #[some (ao p),?_];rw[n,Av e,C];unfold ba;rw[vE];rfl
  exists _,rfl,_,rfl,_,d6 e,_,rfl;refine(?_:xK (oD (f.getD p none)) (oD (some a)) _);refine KU #[_,rfl,bO (λh=>?_) λh=>?_]
  .have h:=IR h
   exact#[_,rfl,trivial,_,rfl,_,rfl,_,p,rfl,r,t b (by unfold sw;rw[mo h])]
  .have h:=Pi h
   exists _,rfl,_,rfl,_,d6 e,_,rfl;refine(?_:xK (oD (f.getD p none)) (oD (some b)) _);refine KU #[_,rfl,bO (λd=>?_) λd=>?_]
   .have d:=IR d
    exact#[_,rfl,trivial,_,rfl,_,rfl,_,p,rfl,r,t a (by unfold sw;rw[ir h,mo d])]
   .have d:=Pi d
    refine k _ #[some (ao p),?_];rw[n,Ja e h d];rfl
 .rintro _ ⟨o,rfl⟩
  rw[aG,rD];exact#[_,rfl,q]
theorem Pr.gG{w:W}(g:Good w)(n:Pr w f)(E:f.length=w.length)(o:f.getD p none\a)(m:∀x,x∈l↔Cr w (gN f p b) p x):Pr w (gG f l a b):=λx y d j c=>by
 have F:=bJ j;have G:=g.rng _ _ j;rw[jY ()] at c ⊢
 have two:∀z,z∈l->f.getD z none\a\/f.getD z none\b:=λz q=>by
  cases(m z).mp q with
  |base=>exact .inl o
  |step _ _ ok=>rw[<-o];exact ok
 have out:∀u v,u∈l->v∉l->v∈row w u->f.getD v none≠some a/\f.getD v none≠some b:=λu v t A B=>by
  refine#[λz=>A ?_,λz=>A ?_]
  .exact(m v).mpr (.step ((m u).mp t) B (.inl (z.trans o.symm)))
  .exact(m v).mpr (.step ((m u).mp t) B (.inr z))
 have C:∀z,z∈l->sw a b (f.getD z none)\a\/sw a b (f.getD z none)\b:=λz q=>by
  unfold sw
  rcases two z q with h|h
  .rw[mo h];exact .inr rfl
  .by_cases e:f.getD z none\a
   .rw[mo e];exact .inr rfl
   .rw[ir e,mo h];exact .inl rfl
 by_cases k:x∈l
 .rw[mo k] at c
  by_cases i:y∈l
  .rw[mo i]
   intro z
   have:=GM (sw b a) (c.trans z.symm)
   rw[NH,NH] at this
   rcases two x k with h|h
   .exact n x y a j h (by rw[<-this];exact h)
   .exact n x y b j h (by rw[<-this];exact h)
  .rw[ir i]
   intro z;obtain⟨r,s⟩:=out x y k i j
   rcases C x k with h|h
   .rw[h] at c;cases c;exact r z
   .rw[h] at c;cases c;exact s z
 .rw[ir k] at c
  by_cases i:y∈l
  .rw[mo i]
   intro z;obtain⟨r,s⟩:=out y x i k (g.sym _ _ j)
   rcases C y i with h|h
   .rw[h] at z;cases z;exact r c
   .rw[h] at z;cases z;exact s c
  .rw[ir i]
   exact n x y d j c
end oH
namespace L2
open PySem PySem.Spec PyProof.Rows
section
variable {Z:DC} {X:Cx} {a:Expr} {ta:bw} {pos:Pos}
def Ow(b:bw):lR:=λc P=>b c λd=>∃i j:Int,d= .rng i j/\(-(2^62)<=i/\i<2^62/\-(2^62)<=j/\j<2^62/\(j-i).toNat<=1000)/\P (eM i (j-i).toNat)
def IQ{x:Str}{p:Pos}(g:X.calm=true)(N:x="list")(k:Gl X x)(l:X.mg x=none)(m:bootBuiltins x\(.type "list"))(n:DE Z X a ta)(o:x≠"__name__":=by decide)(r:(x==("__debug__":Str))=false:=by decide)
  (c:starEach [a] X.env=(false,eval a X.env)::starEach [] X.env:=by rfl) (t:(backTo pos (starEach [] X.env)).any (·.1)=false:=by rfl):DF Z X 1 (.Call (.Name x p) [a] [] pos) (Ow ta):=by
 refine(sA (oQ g) k l m (cE n e9 c) o r c t).imp ?_;intro O H Q u;rfl';obtain⟨G,y,P,s,e,h,q⟩:=u;ac_rfl;refine#[G,y,_,s,e,h,λd z v S T b dv=>?_];obtain⟨i,j,rfl,⟨A,B,C,E,F⟩,I⟩:=z;cases dv with
 |rng h=>
  refine#[_,i,j,rfl,b.sub _ _ h,A,B,C,E,F,λp f=>?_];obtain⟨J,L,M⟩:=kI b f (y4 i _);exact q _ I _ _ _ _ (b.side f) J L M
end
section
variable {Z:DC} {X:Cx} {md:List Nat} {rn:Nat} {e:Expr} {te:bw} {apos aV pos:Pos}
def UO(i:Nat)(c:bw):cN:=λE b=>∃a:List Int,b[i]?\(some (.lst (a.map D.int)))/\c b λd=>∃k q,d= .int k/\a[q]?\k/\(∀m,m<q->a[m]? ≠some k)/\E.nx (b.set i (some (.lst ((a.eraseIdx q).map D.int))))
def Ol(i:Nat)(o:DE Z X e te)(d:md.getD i 0=1:=by rfl)(p:X.N[i]?\x:=by rfl)(r:jw X.env.scope x:=by subst_eqs)(s:(x==("__debug__":Str))=false:=by decide)(t:(x==("__classdict__":Str))=false:=by decide)
  (u:attributeBase (.Name x b) "remove" X.env (eval (.Name x b) X.env)=eval (.Name x b) X.env:=by rfl)
  (w:((backTo aV (starEach [e] X.env)).all (λx=>!x.1)&&(backToKw aV (keywordEach [] X.env)).all (λx=>x.1.isSome)&&decide (([e]:List Expr).length+([]:List Keyword).length+(if ([]:List Keyword).isEmpty then 0 else 1)<30))=true:=by rfl)
  (y:(apos.endLine==aV.line)=true:=by rfl) (f:starEach [e] X.env=(false,eval e X.env)::starEach [] X.env:=by rfl) (z:(backTo aV (starEach [] X.env)).any (·.1)=false:=by rfl)
  (A:swapsWith (.Call (.Attribute (.Name x b) "remove" apos) [e] [] aV) none pos.line X.env=pure false:=by rfl):
  DSt Z X md rn (.Expr (.Call (.Attribute (.Name x b) "remove" apos) [e] [] aV) pos) (UO i te):=by
 refine(jD (yU UF PySem.F.slot_list_remove PySem.F.type_list_remove Gj (pv i p r s t) (cE o e9 f) u w y f z) A).imp ?_;intro D σ H C;rfl';obtain⟨B,ρ,E,⟨G,I,S⟩,⟨J,g,h⟩,M⟩:=C;ac_rfl;rfl';obtain⟨l0,L,Fu,O,j,P,_,_⟩:=S.one d g;ac_rfl;refine#[_,j,ty_list P,S.ev true h ?_];intro _ Q;rfl';obtain⟨k,q,rfl,R,T,U⟩:=Q;ac_rfl;refine#[rfl,λv Y H' S' x dv=>?_];rfl';cases dv.ofInt;obtain⟨l,xs,gX,e1,m,n,bE,put⟩:=S'.one d g;cases e1;rw[j] at m;cases m;rw[kA bE] at n;ac_rfl;exact#[_,J,k,q,rfl,rfl,n,R,T,M.nx _ U _ _ #[Y,I,put _ _ (.ints _)]]
end
section
variable {Z:DC} {X:Cx} {B:Bs} {md:List Nat} {rn:Nat} {ρ:DN} {σ:St} {H G:Hp} {fp:Nat->List Addr} {te:bw} {pos:Pos}
variable {elt tg iter:Expr} {ifs:List Expr} {scope:Scope} {NC:List Str} {src:List (Option Nat)} {T3:dP} {wi:jH} {g:eQ}
def RK(i:Nat)(t:lR):cN:=λE a=>t a λb=>hU b=true/\E.nx (a.set i (some (.lst b)))
def Gm(n:md.getD i 0=1)(S:SIx Z B md ρ σ H G fp)(h:t ρ λc=>hU c=true/\E.nx (ρ.set i (some (.lst c))))(M:Meets Z X B md rn E l):yw Z 1 t σ H λv m=>l.nx (σ.set i (some v)) m:=by
 obtain⟨N,p,q⟩:=S.HE;exists iR G H fp,ρ,_,p,q,h;rintro c ⟨r,s⟩ v f O m x o P u;rfl';obtain⟨y,k⟩:=S.Mt x;have z:=S.grow y;obtain⟨a,A,R,T,rfl,C,F,I,J⟩:=o.lst;cases C;obtain⟨dv,rfl⟩:=J.flat;have d:=u a (by rw[I];simp)
 ac_rfl;refine M.nx _ s _ _ #[_,_,z.v9 (f:= [a]) n (.inl #[a,A,c,[],rfl,rfl,F,rfl,(dv.kD k r).own]) (by simp) (λb e=>?_) λb e j _ L=>?_]
 .have:b=a:=by simpa using e
  subst this;exists S.ex.hh.free d.1,d.2.1;unfold jL
  split
  .rfl
  .exact d.2.2
 .have:b=a:=by simpa using e
  subst this;exact(S.nw j b L).2.1 d.1
def xQ(i:Nat)(e:X.calm=true)(f:X.N.Nodup)(c:ck X scope)(j:c8 scope X.N src NC)(k:DI Z X tg iter wi)
  (l:∀a s H,DG Z (cO X scope NC a s H) tg g) (m:∀a s H,Bd Z (cO X scope NC a s H) ifs T3) (n:∀a s H,DE Z (cO X scope NC a s H) elt te)
  (o:swapsWith (.ListComp elt [#[tg,iter,ifs,0]] scope pos) (some (.Name x b)) d.line X.env=pure true:=by rfl) (p:md.getD i 0=1:=by rfl) (q:X.N[i]?\x:=by rfl) (r:Loc X.env.scope x:=by subst_eqs)
  (t:X.fn x=true\/X.env.scope.names.lookup x\.local:=by subst_eqs)
  (u:∀x,foldedSetIterable iter X.env x=pure x:=by intro _;rfl):DSt Z X md rn (.Assign [.Name x b] (.ListComp elt [#[tg,iter,ifs,0]] scope pos) d) (RK i (R4 wi g T3 te src)):=by
 refine(vc e f q r c j k l m n o t u).imp ?_;intro z v H w;rfl';obtain⟨B,C,E,⟨G,F,S⟩,h,M⟩:=w;ac_rfl;exact Ec v H _ (Gm p S h M)
end
section
variable {Z:DC} {X:Cx} {md:List Nat} {rn:Nat} {e:Expr} {es:List Expr} {pos p2:Pos} {t:iY}
def Ez(j:H p=none)(l:G p=none)(s:bg G H)(g:h.all yo=true)(o:fH (Own Z G H 1) c h f)(i:∀b∈f,H b≠none):Own Z (upd G p (.tup c)) (upd H p (.tup c)) 2 (.ref p) (.tup h) f:=by
 refine .inr (.inl #[∅,p,c,h,rfl,rfl,aD,?_])
 have k:∀b∈f,upd H p (.tup c) b=H b:=λb d=>aN λz=>i b d (z▸j)
 revert k g
 generalize upd H p (.tup c)=n;have sg:bg G (upd G p (.tup c)):=bp l _
 revert sg
 generalize upd G p (.tup c)=q;intro sg g k
 induction o with
 |nil=>exact .nil
 |cons a r m=>
  rw[vD,ux] at g;exact .cons (.inl #[g.1,a.keep sg λb d=>k b (eN _ d)]) (m (λb d=>i b (eZ _ d)) g.2 λb d=>k b (eZ _ d))
def Hs(i j:Nat):cN:=λE a=>∃l m,a[i]?\(some (.lst l))/\a[j]?\(some (.lst m))/\E.rt (.tup [.lst l, .lst m])
def Al(i j:Nat){x1}{px py}(w:i≠j:=by decide)(A:md.getD i 0=1:=by rfl)(C:md.getD j 0=1:=by rfl)(F:X.N[i]?\x:=by rfl)(k:jw X.env.scope x:=by subst_eqs)(I:(x==("__debug__":Str))=false:=by decide)(J:(x==("__classdict__":Str))=false:=by decide)
  (L:X.N[j]?\y:=by rfl) (hw:jw X.env.scope y:=by subst_eqs) (O:(y==("__debug__":Str))=false:=by decide) (P:(y==("__classdict__":Str))=false:=by decide)
  (Q:starEach [.Name x px, .Name y py] X.env=(false,eval (.Name x px) X.env)::starEach [.Name y py] X.env:=by rfl) (R:starEach [.Name y py] X.env=(false,eval (.Name y py) X.env)::starEach [] X.env:=by rfl):
  DSt Z X md 2 (.Return (some (.Tuple [.Name x px, .Name y py] x1 p2)) pos) (Hs i j):=(t5 (Ca (cE (pv i F k I J) (cE (pv j L hw O P) e9 R) Q))).imp λD σ H #[B,ρ,E,#[G,f,S],#[l,m,T,U,h],M]=>by
 obtain⟨u,Y,o⟩:=S.at_ i _ T;rw[A] at o;obtain⟨v,k,q⟩:=S.at_ j _ U;rw[C] at q;refine#[u,Y,v,k,by show 2<=sizeLine;decide,λp g=>?_]
 have e:G p=none:=S.ex.sub.free g;have r:Ext G H (upd G p (.tup [u,v])) (upd H p (.tup [u,v])):= .new S.ex.sub g
 have s:∀b∈f i++(f j++ []),B.H₀ b=none/\H b≠none/\G b=none:=λb d=>by
  rw[iV] at d;exact(bT.mp d).elim (S.nw i b) (S.nw j b)
 refine M.rt _ h _ (f i++(f j++ [])) _ _ (S.ex.trans r) (Ez g e S.ex.sub rfl (.cons o (.cons q .nil)) λb d=>(s b d).2.1) ?_ λc t=>?_
 .rw[iV]
  exact cU.mpr #[S.nd i,S.nd j,λa ha b d z=>S.ap i j a w ha (z▸d)]
 .obtain⟨q1,n,q3⟩:=s c t
  have cp:c≠p:=λz=>n (by rw[z];exact g)
  exact#[q1,by rw[aN cp];exact n,r.off c n q3]
def Oe(i j k:Nat):cN:=λE a=>∃l m n,a[i]?\(some (.lst l))/\a[j]?\(some (.lst m))/\a[k]?\(some (.lst n))/\E.rt (.tup [.lst l, .lst m, .lst n])
def IV(i j k:Nat){x1}{px py pz}(q:i≠j/\i≠k/\j≠k:=by decide)(L:md.getD i 0=1:=by rfl)(O:md.getD j 0=1:=by rfl)(P:md.getD k 0=1:=by rfl)(Q:X.N[i]?\x:=by rfl)(r:jw X.env.scope x:=by subst_eqs)(R:(x==("__debug__":Str))=false:=by decide)(T:(x==("__classdict__":Str))=false:=by decide)
  (U:X.N[j]?\y:=by rfl) (hw:jw X.env.scope y:=by subst_eqs) (Y:(y==("__debug__":Str))=false:=by decide) (e:(y==("__classdict__":Str))=false:=by decide)
  (t:X.N[k]?\z:=by rfl) (OK:jw X.env.scope z:=by subst_eqs) (LJ:(z==("__debug__":Str))=false:=by decide) (Vn:(z==("__classdict__":Str))=false:=by decide)
  (hs:starEach [.Name x px, .Name y py, .Name z pz] X.env=(false,eval (.Name x px) X.env)::starEach [.Name y py, .Name z pz] X.env:=by rfl) (rU:starEach [.Name y py, .Name z pz] X.env=(false,eval (.Name y py) X.env)::starEach [.Name z pz] X.env:=by rfl) (SE:starEach [.Name z pz] X.env=(false,eval (.Name z pz) X.env)::starEach [] X.env:=by rfl):
  DSt Z X md 2 (.Return (some (.Tuple [.Name x px, .Name y py, .Name z pz] x1 p2)) pos) (Oe i j k):=(t5 (Ca (cE (pv i Q r R T) (cE (pv j U hw Y e) (cE (pv k t OK LJ Vn) e9 SE) rU) hs))).imp λD σ H #[B,ρ,E,#[G,f,S],#[l,m,n,h0,h1,h2,h],M]=>by
 obtain⟨u,hu,A⟩:=S.at_ i _ h0;rw[L] at A;obtain⟨v,r,C⟩:=S.at_ j _ h1;rw[O] at C;obtain⟨w,hw,F⟩:=S.at_ k _ h2;rw[P] at F;refine#[u,hu,v,r,w,hw,by show 3<=sizeLine;decide,λp g=>?_]
 have gp:G p=none:=S.ex.sub.free g;have I:Ext G H (upd G p (.tup [u,v,w])) (upd H p (.tup [u,v,w])):= .new S.ex.sub g
 have J:∀b∈f i++(f j++(f k++ [])),B.H₀ b=none/\H b≠none/\G b=none:=λb d=>by
  rw[iV] at d;exact(bT.mp d).elim (S.nw i b) λd=>(bT.mp d).elim (S.nw j b) (S.nw k b)
 refine M.rt _ h _ (f i++(f j++(f k++ []))) _ _ (S.ex.trans I) (Ez g gp S.ex.sub rfl (.cons A (.cons C (.cons F .nil))) λb d=>(J b d).2.1) ?_ λc hc=>?_
 .rw[iV]
  refine cU.mpr #[S.nd i,cU.mpr #[S.nd j,S.nd k,λa o b d z=>S.ap j k a q.2.2 o (z▸d)],λa o b d z=>?_]
  rcases bT.mp d with d|d
  .exact S.ap i j a q.1 o (z▸d)
  .exact S.ap i k a q.2.1 o (z▸d)
 .obtain⟨q1,s,q3⟩:=J c hc
  have cp:c≠p:=λz=>s (by rw[z];exact g)
  exact#[q1,by rw[aN cp];exact s,I.off c s q3]
def US(i j:Nat)(b:bS)(t:iY):cN:=λE a=>t a λc=>b c λd=>∃l m,d= .tup [.lst l, .lst m]/\hU l=true/\hU m=true/\E.nx ((a.set i (some (.lst l))).set j (some (.lst m)))
theorem Om(i j:Nat){kt}(hc:X.calm=true)(hN:X.N.Nodup)(F:FnOk X.prog X.w X.K X.mg X.base cg k f fd ps (dE Z 2 Y))(hr:c7 k X.A)(hg:Gl X z)(uQ:X.mg z\(.ref f))(g:ak X.K (.ref f)=true)(n:Binds X.K fd ps [])
  (ha:DA Z X (e::es) t) (tJ:i≠j:=by decide) (hil:i<md.length:=by decide) (Ss:j<md.length:=by decide) (iF:(z==("__debug__":Str))=false:=by decide) (he:starEach (e::es) X.env=(false,eval e X.env)::starEach es X.env:=by rfl) (eU:(backTo p2 (starEach es X.env)).any (·.1)=false:=by rfl)
  (hm:md.getD i 0=1:=by rfl) (Sx:md.getD j 0=0:=by rfl) (hi:X.N[i]?\x:=by rfl) (hj:X.N[j]?\y:=by rfl) (hx:Loc X.env.scope x:=by subst_eqs) (hy:Loc X.env.scope y:=by subst_eqs)
  (hf:X.fn x=true\/X.env.scope.names.lookup x\.local:=by subst_eqs) (Zd:X.fn y=true\/X.env.scope.names.lookup y\.local:=by subst_eqs)
  (g1:(assignEach [.Name x s, .Name y py] X.env).map (·.2)=assign (.Name x s) X.env::(assignEach [.Name y py] X.env).map (·.2):=by rfl) (g2:(assignEach [.Name y py] X.env).map (·.2)=assign (.Name y py) X.env::(assignEach [] X.env).map (·.2):=by rfl)
  (g3:(assignEach [.Name x s, .Name y py] X.env).length=2:=by rfl) (g4:(assignEach [.Name x s, .Name y py] X.env).findIdx? (·.1)=none:=by rfl)
  (hs:swapsWithSole [.Tuple [.Name x s, .Name y py] kt pt] (.Call (.Name z p) (e::es) [] p2) pos.line X.env=pure false:=by rfl) (hw:swappedStores [.Tuple [.Name x s, .Name y py] kt pt] (.Call (.Name z p) (e::es) [] p2) X.env=pure none:=by rfl)
  (h1:(assignEach [.Tuple [.Name x s, .Name y py] kt pt] X.env).map (·.2)= [assign (.Tuple [.Name x s, .Name y py] kt pt) X.env]:=by rfl):
  DSt Z X md rn (.Assign [.Tuple [.Name x s, .Name y py] kt pt] (.Call (.Name z p) (e::es) [] p2) pos) (US i j Y t):=by
 refine(xb (tX F hr hg uQ g n .nil sv ha iF he eU) (Cc hc (qF (pL hN hi hx hf) (qF (pL hN hj hy Zd) yV g2) g1) g3 g4) hs hw h1).imp ?_;rintro D σ H ⟨B,O,E,⟨G,u,S⟩,h,M⟩;obtain⟨s1,s2,en⟩:=S.HE;refine#[iR G H u,O,_,s2,en,h,λas hd vs G1 H1 x1 bE=>?_];show dE Z 2 Y (vs++ []) H1 _ E0;rw[iV];exists G1,as,_,x1.sub,bE,hd;rintro _ ⟨l,m,rfl,nl,nm,hn⟩ v f' R T x2 o nd nw;rfl';obtain⟨x',kk⟩:=S.Mt (x1.trans x2);obtain⟨a,xs,rfl,ZF,ol⟩:=o.tup;cases ol with
 | @cons v1 vr d1 dr U fr a1 ar=>
 cases ar with
 | @cons v2 vr d2 dr f2 fr a2 ar=>
 cases ar;rw[iV] at nd nw;have o1:=(a1.resolve_right λz=>by cases z.1).2
 have o2:=(a2.resolve_right λz=>by cases z.1).2
 ac_rfl;obtain⟨P,y1,e1,fs1,rfl,q1,YY,OF,ol1⟩:=o1.lst;cases q1;obtain⟨Bw,rfl⟩:=ol1.flat;obtain⟨C,y2,e2,lU,rfl,q2,LB,Vw,ol2⟩:=o2.lst;cases q2;obtain⟨xS,rfl⟩:=ol2.flat
 have Gn:∀b∈U++f2,H b=none/\T b≠none/\jL R u b=none:=λb n=>by
  obtain⟨n1,n2,n3⟩:=nw b n;exists x1.hh.free n1,n2;unfold jL
  split
  .rfl
  .exact n3
 have ob1:Own Z (jL R u) T 1 (.ref P) (.lst l) U:= .inl #[P,y1,l,[],rfl,rfl,YY,OF,(Bw.kD kk nl).own];have ob2:Own Z (jL R u) T 1 (.ref C) (.lst m) f2:= .inl #[C,y2,m,[],rfl,rfl,LB,Vw,(xS.kD kk nm).own];obtain⟨Wl,zY,S0⟩:=cU.mp nd;have off:∀b∈U++f2,∀k,b∉u k:=λb n k g=>(S.nw k b g).2.1 (Gn b n).1;have I:=(S.grow x').v9 hm ob1 Wl (λb n=>have q:=Gn b (eN _ n);#[S.ex.hh.free q.1,q.2]) λb n k _=>off b (eN _ n) k
 have XB:SIx Z B (md.set j 1) ((O.set i (some (.lst l))).set j none) (σ.set i (some (.ref P))) T (jL R u) (λk=>if k=i then U else u k):=#[I.ex,I.fl,by rw[cV];exact I.len,λk d g=>by
  by_cases z:k=j
  .subst z
   rw[qq,mo rfl] at g
   split at g<;>cases g
  .rw[fA (Ne.symm z)] at g
   rw[show(md.set j 1).getD k 0=md.getD k 0 by rw[bK,bK,fA (Ne.symm z)]];exact I.at_ k d g,I.nd,I.ap,I.nw]
 have r:=XB.v9 (i:=j) (by rw[bK,fY Ss];rfl) ob2 zY (λb n=>have q:=Gn b (eZ _ n);#[S.ex.hh.free q.1,q.2]) λb n k g=>by
  split
  .exact λz=>S0 b z b n rfl
  .exact off b (eZ _ n) k
 rw[List.set_set] at r;have J:j<O.length\/O.length<=j:=()
 exists a,[.ref P, .ref C],rfl,eG.of (x2.sub _ _ ZF),rfl, .ref P,[.ref C],rfl, .ref C,[],rfl,rfl
 rcases J with J|J
 .obtain⟨v3,SG,RW,L⟩:=r.Ih (j:=j) (d:= .lst m) (by rw[fY (by rw[cV];exact J)])
  have ev:v3= .ref C:=by
   rw[fY (by rw[cV,<-S.len];exact J)] at SG
   cases SG;rfl
  subst ev;refine M.nx _ hn _ _ #[_,_,#[L.ex,L.fl,r.len,λk c g=>?_,L.nd,L.ap,L.nw]]
  by_cases z:k=j
  .subst z
   rw[fY (by rw[cV];exact J)] at g
   cases g;exists .ref C,SG;rw[Sx];exact#[RW,mo rfl]
  .obtain⟨u',hu,Q⟩:=L.at_ k c (by rw[fA (Ne.symm z)];exact g)
   rw[show(md.set j 1).getD k 0=md.getD k 0 by rw[bK,bK,fA (Ne.symm z)]] at Q
   exact#[u',hu,Q]
 .refine M.nx _ hn _ _ #[_,_,#[r.ex,r.fl,r.len,λk c g=>?_,r.nd,r.ap,r.nw]]
  have kl:k<O.length:=by
   have:=(df.mp g).1
   rwa [cV,cV] at this
  obtain⟨u',hu,Q⟩:=r.at_ k c g;rw[show(md.set j 1).getD k 0=md.getD k 0 by rw[bK,bK,fA ()]] at Q
  exact#[u',hu,Q]
end
section
variable {Z:DC} {X:Cx} {B:Bs} {md:List Nat} {rn:Nat} {ρ:DN} {σ:St} {H G:Hp} {fp:Nat->List Addr}
def Fz{J:It}(S:SIx Z B md j h H G fp)(I:∀p k,bg G p->bg p k->bg B.H₀ k->∀i:Nat,(i<f.length->J.go i k)/\(f.length<=i->J.stop i k)/\
   ∀x a,i<f.length->J.yld i k x a->∃s d,Ext p k s a/\f[i]?\d/\Dv Z s x d)(L:iE g u E f j)(M:Meets Z X B md rn E t):
  ∃W:Nat->Nat->St->Hp->Prop,(∃m,W 0 m h H)/\∀i m h H,W i m h H->
   (J.stop i H/\t.nx h H)\/(J.go i H/\∃N:St->Hp->Prop,(∀l a,N l a->∃C,C<m/\W (i+1) C l a)/\∀x a,J.yld i H x a->BW Z md g x h a λF k=>pj Z X md rn u {t with nx:=N,ct:=N,bk:=t.nx} F k):=by
 let r:Bs:={B with Gf:=G}
 have back:∀j h H,SI Z r md j h H->SI Z B md j h H:=λj h H #[p,v,b]=>#[p,v,#[b.ex,S.fl.trans b.fl,b.len,b.at_,b.nd,b.ap,b.nw]];have O:SIx Z r md j h H G fp:=#[S.ex, .refl _,S.len,S.at_,S.nd,S.ap,S.nw];refine#[λi m h H=>m=f.length-i/\i<=f.length/\∃j,SI Z r md j h H/\iE g u E (f.drop i) j,#[_,rfl,dZ _,j,#[G,fp,O],L],?_];intro i m F k P;rfl';obtain⟨rfl,hi,R,⟨p,v,b⟩,w⟩:=P;obtain⟨T,stop,yld⟩:=I p k b.fl b.ex.sub b.ex.hh i;ac_rfl
 by_cases A:i<f.length
 .refine .inr #[T A,λl a=>∃o,SI Z r md o l a/\iE g u E (f.drop (i+1)) o,λl a n=>#[f.length-(i+1),(),rfl,A,n],λx a y=>?_]
  rfl';obtain⟨s,d,U,Y,dv⟩:=yld x a A y;rw[oS Y] at w;ac_rfl;refine#[r,R,d,_,s,v,b.grow U,dv,w,λUa h4 fw R9 S4=>?_];exact#[r,Ua,_,#[s,R9,S4],h4,#[λo q l a c=>#[o,c,q],M.rt,λo q l a c=>M.nx _ q _ _ (back _ _ _ c),λo q l a c=>#[o,c,q],λo d q l a G' ot a' c kz=>M.xc o d q l a G' ot a' #[c.ex,S.fl.trans c.fl,c.len,c.at_,c.nd,c.ap,c.nw] kz]]
 .have e:f.drop i= []:=zC ()
  rw[e] at w;exact .inl #[stop (),M.nx _ w _ _ (back _ _ _ #[p,v,b])]
variable {tg:Expr} {body:List Stmt} {g:eQ} {tb:cN} {pos:Pos}
def Ob(i:Nat)(g:eQ)(d:cN):cN:=λE b=>∃l,b[i]?\(some (.lst l))/\∀a,iE g d {nx:=λc=>c[i]?\(some (.obj a))/\E.nx (c.set i (some (.lst l))),ct:=λ_=>False,bk:=λ_=>False,rt:=λ_=>False,xc:=λ_ _=>False} l.reverse (b.set i (some (.obj a)))
def Mi(h:k≠i):(md.set i 0).getD k 0=md.getD k 0:=by rw[bK,bK,fA (Ne.symm h)]
def HN:(md.set i 0).getD i 0=0:=by
 by_cases h:i<md.length
 .rw[bK,fY h];rfl
 .rw[bK,fZ (by rw[cV];lia)];rfl
def IU(hc:X.calm=true)(hp:PassesOwn (model X.prog X.w) X.A X.env X.xe)(i:Nat)(uP:X.mg "reversed"=none)(Zf:CN Z X (md.set i 0) tg g)(hb:uD Z X (md.set i 0) rn body tb)(So:Gl X "reversed":=by rfl)(hm:md.getD i 0=1:=by rfl)
  (u:X.N[i]?\x:=by rfl) (I:jw X.env.scope x:=by subst_eqs) (hd:(x==("__debug__":Str))=false:=by decide) (dU:(x==("__classdict__":Str))=false:=by decide)
  (hs:starEach [.Name x r] X.env= [(false,eval (.Name x r) X.env)]:=by rfl) (rU:starEach [.Name x r] X.env=(false,eval (.Name x r) X.env)::starEach [] X.env:=by rfl)
  (SE:∀x1,foldedSetIterable (.Call (.Name "reversed" p0) [.Name x r] [] p1) X.env x1=pure x1:=by intro _;rfl):
  DSt Z X md rn (.For tg (.Call (.Name "reversed" p0) [.Name x r] [] p1) body [] pos) (Ob i g tb):=by
 refine(tZ hp hc (H0 So uP (cE (pv i u I hd dU) e9 rU) hs) Zf hb SE).imp ?_;rintro D' σ H ⟨B,C,E,⟨G,s,S⟩,⟨l,h1,h⟩,M⟩;obtain⟨v,I,o⟩:=S.at_ i _ h1;rw[hm] at o;obtain⟨a,n,ds,fs,rfl,p,ha,hf,ol⟩:=o.lst;cases p;obtain⟨dv,rfl⟩:=ol.flat;have il:i<C.length:=(df.mp h1).1;have am:a∈s i:=by rw[hf];exact bF ..
 obtain⟨O,n2,n3⟩:=S.nw i a am;have g0:B.G₀ a=none:=S.ex.gg.free n3
 have Xu:SIx Z #[B.G₀,upd B.H₀ a (.lst n),G] (md.set i 0) (C.set i (some (.obj a))) σ H G (λk=>if k=i then[] else s k):=by
  refine#[#[S.ex.gg,S.ex.sub,λb o e=>?_,λb p P=>?_], .refl _,by rw[cV];exact S.len,λk d e=>?_,λk=>?_,λj k b J q c=>?_,λk b c=>?_]
  .have e:upd B.H₀ a (.lst n) b\o:=e
   by_cases z:b=a
   .subst z;rw[aD] at e;rw[<-e];exact ha
   .rw[aN z] at e;exact S.ex.hh b o e
  .have p:upd B.H₀ a (.lst n) b≠none:=p
   by_cases z:b=a
   .subst z;exact n3
   .rw[aN z] at p;exact S.ex.off b p P
  .by_cases z:k=i
   .subst z
    rw[fY il] at e;cases e;exact#[_,I,by rw[HN,mo rfl];exact#[.obj a,rfl]]
   .rw[fA (Ne.symm z)] at e
    rw[Mi z,ir z];exact S.at_ k d e
  .show(if k=i then[] else s k).Nodup
   split
   .exact gF
   .exact S.nd k
  .have q:b∈(if j=i then[] else s j):=q
   have c:b∈(if k=i then[] else s k):=c
   split at q
   .cases q
   .split at c
    .cases c
    .exact S.ap j k b J q c
  .have c:b∈(if k=i then[] else s k):=c
   split at c
   .cases c
   .next z=>
    obtain⟨Q,R,T⟩:=S.nw k b c;exact#[(show upd B.H₀ a (.lst n) b=none from(aN λy=>S.ap k i b z c (by rw[y];exact am)).trans Q),R,T]
 exists _,I,a,n,rfl,cG.of ha;refine Fz Xu (λG2 H2 s1 s2 s3 k=>?_) (h a) #[?_,λd f=>f.elim,λC f=>f.elim,λC f=>f.elim,λC d f=>f.elim]
 .have h2:=cG.of (K:=X.K) (s3 _ _ (aD (H:=B.H₀) (a:=a) (o:= .lst n)))
  have l:=dv.length;rw[zw];refine#[λu=>#[(),n,h2,rfl],λu=>(show n.length<=k by lia),?_]
  rintro x U u ⟨rfl,hx⟩;obtain⟨d,jd,kz⟩:=dv.DR (hx _ h2);refine#[G2,d, .refl s2,?_,kz.mono s1];rw[List.getElem?_reverse u,<-l];exact jd
 .rintro aJ ⟨ho,hE⟩ aB U ⟨G',t,m⟩
  have ZS:i<aJ.length:=(df.mp ho).1;obtain⟨v',jJ,L⟩:=m.at_ i _ ho;rw[HN] at L
  have ev:v'= .ref a:=by
   obtain⟨L,_⟩:=L;cases L;rfl
  subst ev;have Vh:U a\(.lst n):=m.ex.hh a _ aD
  have Y:∀k,a∉t k:=λk c=>by
   have:upd B.H₀ a (.lst n) a=none:=(m.nw k a c).1
   rw[aD] at this;cases this
  refine M.nx _ hE aB U #[G',λk=>if k=i then[a] else t k,#[#[m.ex.gg,m.ex.sub,λb o e=>?_,λb p P=>?_],S.fl.trans m.fl,by rw[cV];exact m.len,λk d e=>?_,λk=>?_,λj k b J q c=>?_,λk b c=>?_]]
  .exact m.ex.hh b o ((aN λz=>by rw[z,O] at e;cases e).trans e)
  .exact m.ex.off b (λy=>p ((aN λz=>p (by rw[z];exact O)).symm.trans y)) P
  .by_cases z:k=i
   .subst z
    rw[fY ZS] at e;cases e;exact#[_,jJ,by rw[hm,mo rfl];exact .inl #[a,n,l,[],rfl,rfl,Vh,rfl,(dv.mono m.fl).own]]
   .rw[fA (Ne.symm z)] at e
    have:=m.at_ k d e
    rw[Mi z] at this;rw[ir z];exact this
  .show(if k=i then[a] else t k).Nodup
   split
   .simp
   .exact m.nd k
  .revert c
   show b∉(if k=i then[a] else t k);have F:b∈(if j=i then[a] else t j):=q;clear q
   split at F
   .rw[cH] at F
    subst F
    split
    .next z1 z2=>exact absurd (z1.trans z2.symm) J
    .exact Y k
   .split
    .intro z
     rw[cH] at z;subst z;exact Y j F
    .exact m.ap j k b J F
  .have c:b∈(if k=i then[a] else t k):=c
   split at c
   .rw[cH] at c
    subst c;exact#[O,by rw[Vh];simp,m.ex.off _ (λy=>by have y:upd B.H₀ _ (.lst n) _=none:=y;rw[aD] at y;cases y) g0]
   .obtain⟨Q,R,T⟩:=m.nw k b c
    exact#[(aN λz=>Y k (by rw[<-z];exact c)).symm.trans Q,R,T]
end
end L2
namespace oH
open PySem L2 Wb
variable {P:Program} {w:World} {mg:Str->Option Value} {base:Heap} {Z:DC} (T:Txt Z mg)
open Wy
def Dy(m:Int)(f:List (Option Int)):Prop:=∀q d,f.getD q none\d->0<=d/\d<m
def JS{w:W}(g:Good w)(i:1<=w.length)(P:2<=w.length->kn w)(R:Rs w a):(w.length:Int)+(a.length:Int)=(tc w:Int)+2:=by
 have j:=Qg g;have k:=fD w
 by_cases h:2<=w.length
 .obtain⟨c,⟨l,b,d,rfl⟩,e⟩:=P h
  have:=Rs.len g R (.inr #[h,jv.rounds g b d])
  rw[aG] at this;lia
 .have f:w.length=1:=()
  rcases R with ⟨_,rfl⟩ | ⟨m,_⟩
  .obtain rfl:=yR g f
   have:(bf ([[]]:W)).length=0:=rfl
   show((1:Nat):Int)+((1:Nat):Int)=_;lia
  .lia
def Kq.cn{w:W}(g:Good w)(h:Kq w n):Cn w n:=by
 rcases h with ⟨a,rfl⟩ | ⟨b,c,d,e,rfl⟩
 .exact#[_, .inl #[a,rfl],rfl]
 .exact#[c.map xv, .inr #[b,jv.rounds g d e],aG _]
def Nv:bS:=λa P=>∃(w:W),a= [.fS w]/\Good w/\1<=w.length/\w.length<=14/\(2<=w.length->kn w)/\P .bC
def pI:FnOk P w Z.K mg base cg 6 T.d_need_plane.f T.d_need_plane.fd ["web"] (aU Z Nv):=by
 have l:=p8.nd;refine aZ T.d_need_plane.F p8 [0] ∅ (λc R h=>by obtain⟨_,rfl,_⟩:=h;rfl) (λm A outer s H E c R a h=>?_)
 have o:=a.units;exists _,(aq (bq (c5 (cJ (aC T.d_is_plane (B9 T) a (ae (aa 0) ah)))) (aq qx) aM));obtain⟨d,rfl,g,b,i,j,q⟩:=h;refine#[_,rfl,d,rfl,g,b,i,λn k=>?_];obtain⟨p,R,rfl⟩:=k.cn g
 have:=JS g b j R
 refine#[rfl,bO (λe=>absurd this (by simpa [zk] using e)) (λe=>#[rfl,q])]
def F0:inD (.int d) (bV l)=decide (d∈l):=by
 unfold inD bV;rw[List.any_map]
 have:((λy=>iC y (.int d))∘D.int)=λo:Int=>decide (o=d):=by
  funext o
  simp[iC,Function.comp]
  by_cases h:o=d<;>simp[h]
 rw[this,ack];simp
def DL(l:List Int):(bV l).all eE=true:=by simp[bV,eE]
def P2:bS:=λa P=>∃(l:List Int)(m:Int),a= [.lst (bV l), .int m]/\0<=m/\m<1000/\l.length<=100/\(∀d,0<=d->d<m->d<=l.length->d∉l->P (.int d))/\((∀d,0<=d->d<m->d<=l.length->d∈l)->P .bC)
def yN:FnOk P w Z.K mg base cg 1 T.d_least_free.f T.d_least_free.fd ["taken","many"] (aU Z P2):=by
 have g:=p6.nd;refine aZ T.d_least_free.F p6 [0,0,0] ∅ (λk R h=>by obtain⟨_,_,rfl,_⟩:=h;rfl) (λu A outer s H E k R o h=>?_)
 have v:=o.units
 refine#[_,(ag (jB rfl FS (gd rfl T.B.range (ae (aH (C7 rfl) rfl T.B.min wQ (ae (aa 1) (ae (aW cz (aH bA rfl T.B.len bz (ae (aa 0) ah)) av) ah))) ah)) (aQ 2 g) (aq (bq (aK hV (aa 2) (aa 0) (by with_unfolding_all rfl)) (aq (aF (aa 2))) aM)))
   (aq (aF bY))),?_]
 obtain⟨l,m,rfl,x,y,C,p,q⟩:=h;have lt:((bV l).length:Int)=(l.length:Int):=by unfold bV;rw[aG]
 refine#[_,rfl,_,rfl,_,_,rfl,#[by split<;>lia,by split<;>lia],?_]
 obtain⟨n,c⟩:∃n:Nat,n=(if ((bV l).length:Int)+1<m then((bV l).length:Int)+1 else m).toNat:=#[_,rfl];refine(?_:iE _ _ _ (eM 0 (if ((bV l).length:Int)+1<m then((bV l).length:Int)+1 else m).toNat) _);rw[<-c]
 have G:(n:Int)<=m/\((n:Int)=m\/(n:Int)=(l.length:Int)+1):=by
  split at c<;>lia
 refine g9 (λj r=>∃a,r= [some (.lst (bV l)),some (.int m),a]/\∀i:Nat,i<j->(i:Int)∈l) #[_,rfl,λi h=>by lia] ?_ ?_
 .rintro j _ I ⟨a,rfl,b⟩ A t
  exists _,rfl,_,rfl,rfl,DL l,_,rfl;rw[mo rfl,show inD (ao j) (bV l)=decide ((j:Int)∈l) from F0];refine bO (λe=>?_) (λe=>t _ #[_,rfl,λi J=>?_])
  .exact#[_,rfl,p _ () () () (~~~e)]
  .by_cases z:i=j
   .subst z;simpa using e
   .exact b i ()
 .rintro _ ⟨a,rfl,b⟩
  refine q λd L M dl=>?_
  have:=b d.toNat ()
  rwa [show((d.toNat:Nat):Int)=d by lia] at this
def GP:bS:=λb P=>∃(w:W)(f:List (Option Int))(a:List Nat),b= [.fS w,ba f,aw a]/\Good w/\w.length<=14/\f.length=w.length/\a.length<=14/\(∀q∈a,q<w.length/\∃d,f.getD q none\d)/\(∀q∈a,∀r∈a,∀d,f.getD r none\d->¬Cr w (gN f q d) q r->P (.tup [ao q, .int d]))/\((∀q∈a,∀r∈a,∀d,f.getD r none\d->Cr w (gN f q d) q r)->P .bC)
def pH:FnOk P w Z.K mg base cg 3 T.d_freeing_exchange.f T.d_freeing_exchange.fd ["web","dyeing","around"] (aU Z GP):=by
 have C:=jE.nd;refine aZ T.d_freeing_exchange.F jE [0,0,0,0,0] ∅ (λS R h=>by obtain⟨_,_,_,rfl,_⟩:=h;rfl) (λbD A outer s H E S R a h=>?_)
 have hu:=a.units
 refine#[_,(ag (dh rfl FS (br (aa 2)) (aQ 3 C) (aq (dh rfl FS (br (aa 2)) (aQ 4 C) (aq (bq (aK hV (aa 4) (aC T.d_chain ((yI T).imp GO) a (ae (aa 0) (ae (aa 1) (ae (aa 3) (ae (aE (aa 1) (aa 4)) ah))))) (by with_unfolding_all rfl)) (aq (aF (cZ (ae (aa 3) (ae (aE (aa 1) (aa 4)) ah))))) aM)))))
   (aq (aF bY))),?_]
 obtain⟨l,f,c,rfl,g,U,X,al,ad,Y,q2⟩:=h;exists _,rfl;refine bU (λj p=>∃t k,p= [some (.fS l),some (ba f),some (aw c),t,k]/\∀q∈c.take j,∀r∈c,∀d,f.getD r none\d->Cr l (gN f q d) q r) #[_,_,rfl,λq b=>nomatch b] ?_ ?_
 .rintro j _ _ m ⟨t,k,rfl,n⟩ A hA
  obtain⟨x,G,rfl⟩:=cu m;have I:=dY G;have tk:c.take (j+1)=c.take j++ [x]:=by rw[uz,G];rfl
  exists _,rfl;refine bU (λi p=>∃k,p= [some (.fS l),some (ba f),some (aw c),some (ao x),k]/\∀r∈c.take i,∀d,f.getD r none\d->Cr l (gN f x d) x r) #[_,rfl,λq b=>nomatch b] ?_ ?_
  .rintro i _ _ u ⟨k,rfl,o⟩ A2 YT
   obtain⟨y,J,rfl⟩:=cu u;have M:=dY J;have Xd:c.take (i+1)=c.take i++ [y]:=by rw[uz,J];rfl
   obtain⟨xl,dx,Vs⟩:=ad x I;obtain⟨yl,v,B⟩:=ad y M;have N:fc (f.map oD) (y:Int)\(.int v):=by rw[d6 (),B];rfl
   refine#[_,rfl,_,rfl,_,rfl,_,rfl,_,rfl,_,rfl,_,N,l,f,x,v,rfl,g,U,xl,X,λL L1 O=>?_];exists rfl,cR _,_,rfl;rw[mo rfl,iH];refine bO (λe=>?_) (λe=>YT _ #[_,rfl,λr a d m=>?_])
   .have e:y∉L:=by simpa using e
    exact#[_,rfl,_,rfl,_,rfl,_,N,by show 2<=sizeLine;decide,Y x I y M v B λz=>e ((O y).mpr z)]
   .have e:y∈L:=by simpa using e
    rw[Xd] at a
    rcases bT.mp a with a|a
    .exact o r a d m
    .rw[cH] at a;subst a
     rw[B] at m;cases m;exact(O r).mp e
  .rintro _ ⟨k,rfl,o⟩
   refine hA _ #[_,_,rfl,λq b r a d Q=>?_];rw[tk] at b
   rcases bT.mp b with b|b
   .exact n q b r a d Q
   .rw[cH] at b;subst b
    rw[aG,rD] at o;exact o r a d Q
 .rintro _ ⟨t,k,rfl,n⟩
  rw[aG,rD] at n;exact q2 n
def eo(w:W)(f:List (Option Int))(p:Nat):List Nat:=(row w p).filter λq=>!decide (f.getD q none=none)
def jr{w:W}:q∈eo w f p↔q∈row w p/\∃d,f.getD q none\d:=by
 unfold eo;rw[gE];cases h:f.getD q none<;>simp
structure Given (w:W) (f:List (Option Int)) (p m:Nat) (f':List (Option Int)):Prop where
 len:f'.length=f.length
 pr:Pr w f'
 dy:Dy m f'
 at_:∃d,f'.getD p none\d
 out:∀q,q≠p->(f'.getD q none=none↔f.getD q none=none)
def Pr.free{w:W}{f:List (Option Int)}(g:Good w)(a:Pr w f)(b:p<f.length)(h:∀q∈row w p,f.getD q none≠some d):Pr w (f.set p (some d)):=a.set g b λe c q i=>by cases c;exact h q i
def vR{w:W}{f c:List (Option Int)}{p m:Nat}(g:Good w)(j:Pr w f)(a:p<f.length)(k:Dy m f){d:Int}(l:0<=d/\d<m)(h:∀q∈row w p,f.getD q none≠some d)(n:f.length=c.length)(o:∀q,q≠p->(f.getD q none=none↔c.getD q none=none)):Given w c p m (f.set p (some d)):=by
 refine#[by rw[cV,n],j.free g a h,λq e b=>?_,#[d,by rw[jc a,mo rfl]],λq i=>by rw[jc a,ir i];exact o q i]
 rw[jc a] at b
 split at b
 .cases b;exact l
 .exact k q e b
def BD(p:Nat)(d:Int):D:= .tup [.str "give",ao p, .int d]
def I0(q:Nat)(d:Int):D:= .tup [.str "exchange",ao q, .int d]
inductive qI (w:W) (f:List (Option Int)) (p m:Nat):List (Option Int)->List D->Prop
 |free (d:Int):0<=d->d<m->d<=((row w p).length:Int)->(∀q∈row w p,f.getD q none≠some d)->qI w f p m (f.set p (some d)) [BD p d]
 |gG (x:Nat) (a d:Int) (L:List Nat):(∀e:Int,0<=e->e<m->∃q∈row w p,f.getD q none\e)->x<w.length->f.getD x none\a->a≠d->0<=d->d<m->0<=a->a<m->L.Pairwise (·<·)->(∀y,y∈L↔Cr w (gN f x d) x y)->(∀q∈row w p,(gG f L a d).getD q none≠some a)->qI w f p m ((gG f L a d).set p (some a)) [I0 x d,BD p a]
theorem qI.hU{w:W}{p m:Nat}(h:qI w f p m a l):hU l=true:=by cases h<;>rfl
def qI.len{w:W}{f a:List (Option Int)}(h:qI w f p m a l):l.length<=2:=by cases h<;>simp
theorem yS:∀f:List (Option Int),hU (f.map oD)=true
 | []=>rfl
 |b::f=>by rw[cX,hU,yS f,O8];rfl
def CY{w:W}(A:(eo w f p).length<=m)(all:∀d:Int,0<=d->d<m->d<=((eo w f p).length:Int)->d∈(eo w f p).map λq=>(f.getD q none).getD 0):
  (eo w f p).length=m/\∀q∈eo w f p,∀r∈eo w f p,f.getD q none=f.getD r none->q=r:=by
 have o:∀n:Nat,(∀d:Nat,d<n->(d:Int)∈(eo w f p).map λq=>(f.getD q none).getD 0)->n<=(eo w f p).length:=λn h=>by
  have:=az (l:=(ac n).map λ(k:Nat)=>(k:Int)) (m:=(eo w f p).map λq=>(f.getD q none).getD 0) (by rw[oh,i4];exact zH.imp λ {a b} h=>by lia) λx g=>by
   obtain⟨k,i,rfl⟩:=bh.mp g;exact h k (b9.mp i)
  rwa [aG,aG,fB] at this
 have s:(eo w f p).length=m:=by
  by_cases c:(eo w f p).length<m
  .have:=o ((eo w f p).length+1) λd B=>all d () () ()
   lia
  .lia
 refine#[s,λq t r u e=>FB λne=>?_];have lt:=List.length_filter_lt_length_iff_exists.mpr (#[q,t,by simp]:∃x∈eo w f p,¬(!decide (x=q))=true)
 have:=az (l:=(ac m).map λ(k:Nat)=>(k:Int)) (m:=((eo w f p).filter λx=>!decide (x=q)).map λq=>(f.getD q none).getD 0) (by rw[oh,i4];exact zH.imp λ {a b} h=>by lia) λx g=>by
  obtain⟨k,i,rfl⟩:=bh.mp g
  have:=b9.mp i
  obtain⟨y,v,j⟩:=bh.mp (all k () () ())
  by_cases z:y=q
  .subst z
   exact bh.mpr #[r,gE.mpr #[u,by simp[Ne.symm ne]],by rw[<-e];exact j]
  .exact bh.mpr #[y,gE.mpr #[v,by simp[z]],j]
 rw[aG,aG,fB] at this;lia
theorem JF{w:W}(g:Good w)(P:kn w)(s:f.getD p none=none)(N:4<=(eo w f p).length)(un:∀q∈eo w f p,∀r∈eo w f p,f.getD q none=f.getD r none->q=r)
  (h:∀q∈eo w f p,∀r∈eo w f p,∀d,f.getD r none\d->Cr w (gN f q d) q r):False:=by
 obtain⟨a,b,c,d,e,n⟩:∃a b c d e,eo w f p=a::b::c::d::e:=by
  match eo w f p,N with
  |a::b::c::d::e,_=>exact#[a,b,c,d,e,rfl]
 have o:(eo w f p).Nodup:=(g.nod p).filter _
 have O:∃X A B C D,row w p=X++a::(A++b::(B++c::(C++d::D))):=by
  have i:∀{l:List Nat}{x:Nat}{m:List Nat},(l.filter λq=>!decide (f.getD q none=none))=x::m->∃X Y,l=X++x::Y/\(Y.filter λq=>!decide (f.getD q none=none))=m:=λ {l x m} h=>by
   obtain⟨X,Y,E,I,J,F⟩:=List.filter_eq_cons_iff.mp h;exact#[X,Y,E,F]
  obtain⟨X,Y1,E,Q⟩:=i n;obtain⟨A,Y2,I,R⟩:=i Q;obtain⟨B,Y3,J,S⟩:=i R;obtain⟨C,U,F,r4⟩:=i S;exact#[X,A,B,C,U,by rw[E,I,J,F]]
 obtain⟨X,A,B,C,D,T⟩:=O;have t:a∈eo w f p:=by rw[n];simp
 have u:b∈eo w f p:=by rw[n];simp
 have v:c∈eo w f p:=by rw[n];simp
 have y:d∈eo w f p:=by rw[n];simp
 obtain⟨_,da,Z⟩:=jr.mp t;obtain⟨_,db,hb⟩:=jr.mp u;obtain⟨_,L,G⟩:=jr.mp v;obtain⟨_,M,H⟩:=jr.mp y;rw[n] at o;simp only[cI,bu,not_or] at o;have n1:f.getD a none≠f.getD b none:=λz=>o.1.1 (un a t b u z);have n2:f.getD a none≠f.getD d none:=λz=>o.1.2.2.1 (un a t d y z);have n3:f.getD b none≠f.getD c none:=λz=>o.2.1.1 (un b u c v z);have n4:f.getD c none≠f.getD d none:=λz=>o.2.2.1.1 (un c v d y z);refine SV g P T (o1:=gN f a L) (o2:=gN f b M) (λx j k=>?_) (.inl rfl) (.inl rfl) (λz=>?_) (λz=>?_) (h a t c v L G) (h b u d y M H)
 .rcases j with j|j<;>rcases k with k|k
  .exact n1 (j.symm.trans k)
  .exact n2 (j.symm.trans (k.trans H.symm))
  .exact n3 (k.symm.trans (j.trans G.symm))
  .exact n4 (G.trans (j.symm.trans (k.trans H.symm)))
 .rcases z with z|z
  .rw[s,Z] at z;cases z
  .rw[s] at z;cases z
 .rcases z with z|z
  .rw[s,hb] at z;cases z
  .rw[s] at z;cases z
def FC{w:W}{f:List (Option Int)}{p q r m:Nat}{a b:Int}{L:List Nat}(g:Good w)(B:Pr w f)(C:f.length=w.length)(H:p<w.length)(e:Dy m f)(I:f.getD p none=none)(s:q∈eo w f p)(t:r∈eo w f p)(un:∀q∈eo w f p,∀r∈eo w f p,f.getD q none=f.getD r none->q=r)
  (i:f.getD q none\a) (j:f.getD r none\b) (k:∀x,x∈L↔Cr w (gN f q b) q x) (u:¬Cr w (gN f q b) q r):Given w f p m ((gG f L a b).set p (some a))/\a≠b/\∀x∈row w p,(gG f L a b).getD x none≠some a:=by
 have E:Pr w (gG f L a b):=B.gG g C i k;have l:=dS f L a b;have F:q∈L:=(k q).mpr .base;have G:q≠r:=λz=>u (z▸ .base);have v:a≠b:=λz=>G (un q s r t (by rw[i,j,z]))
 have inr:∀{x:Nat}{d:Int},(gG f L a b).getD x none\d->x<f.length:=λ {x d} h=>by
  apply FB;intro z;rw[bK,fZ (by rw[l];lia)] at h
  cases h
 have y:∀x∈row w p,(gG f L a b).getD x none≠some a:=λx c z=>by
  have n:=inr z;rw[jY n] at z
  split at z
  .next o=>
   unfold sw at z
   split at z
   .cases z;exact v rfl
   .split at z
    .next A=>
     have:x=r:=un x (jr.mpr #[c,_,A]) r t (A.trans j.symm)
     subst this;exact u ((k x).mp o)
    .contradiction
  .next o=>
   have:x=q:=un x (jr.mpr #[c,_,z]) q s (z.trans i.symm)
   exact o (this▸F)
 refine#[vR g E () (λx d c=>?_) (e q a i) y l λx c=>?_,v,y]
 .rw[jY (inr c)] at c
  split at c
  .unfold sw at c
   split at c
   .cases c;exact e r _ j
   .split at c
    .cases c;exact e q _ i
    .exact e x d c
  .exact e x d c
 .by_cases n:x<f.length
  .rw[jY n]
   split
   .exact NG a b _
   .exact aaV
  .rw[bK,fZ (by rw[l];lia),bK,fZ ()]
def x9{w:W}{f f1:List (Option Int)}{l0:List D}(k:w.length<=14)(h:f1.length<=14)(n:p<w.length)(i:p<f1.length)(q:∀(b:List (Option Int))(l:List D),Given w f p m b->qI w f p m b l->E.rt (.tup [ba b, .lst l]))(G:Given w f p m (f1.set p (some d)))(V:qI w f p m (f1.set p (some d)) (l0++ [BD p d]))(ll:l0.length<=1:=by decide):
  dSeq (Ht [0,0,0,0,0,1,1,0,0,0,0] false 5 (Dm 2) (Dm 7)) (dSeq (KQ [0,0,0,0,0,1,1,0,0,0,0] false 6 (QG (Br (dC (.str "give")) (Br (Dm 2) (Br (Dm 7) qP))))) (Hs 5 6)) E [some (.fS w),some (ba f),some (ao p),some (.int m),c,some (ba f1),some (.lst l0),some (.int d),e,g,a]:=by
 have j:k4 (f1.map oD).length (p:Int)\p:=by rw[aG];exact BR i
 exists _,rfl,trivial,_,rfl,_,rfl,_,p,rfl,j;refine#[_,rfl,_,rfl,_,rfl,by show 3<=sizeLine;decide,trivial,cD (),?_]
 exists _,_,rfl,rfl
 have:=q _ _ G V
 unfold ba at this;rw[vE] at this;exact this
def Nq:bS:=λb P=>∃(w:W)(f:List (Option Int))(p m:Nat),b= [.fS w,ba f,ao p, .int m]/\4<=m/\m<1000/\Good w/\1<=w.length/\w.length<=14/\(2<=w.length->kn w)/\p<w.length/\f.length=w.length/\Pr w f/\Dy m f/\f.getD p none=none/\(eo w f p).length<=m/\∀a l,Given w f p m a->qI w f p m a l->P (.tup [ba a, .lst l])
def yJ:FnOk P w Z.K mg base cg 7 T.d_dye_given.f T.d_dye_given.fd ["web","dyeing","p","many"] (dE Z 2 Nq):=by
 have k:=qZ.nd;refine g8 2 T.d_dye_given.F qZ [0,0,0,0,0,1,1,0,0,0,0] ∅ (λds R h=>by obtain⟨_,_,_,_,rfl,_⟩:=h;rfl) (λbD A outer s H E ds R n h=>?_)
 have hu:=n.units
 refine#[_,(ag (Dw (aC T.d_need_plane (pI T) n (ae (aa 0) ah)))
   (ag (uJ 4 (NC:= ["q","dyeing"]) (src:= [none,some 1]) rfl k (mE (au iO)) #[rfl,rfl,trivial] (br (aE (fP T.W (aa 0) T.m_turns.m (js T) (n.mono ∅) T.m_turns.b) (aa 2))) (λ_ _ _=>(bG 0 (show(["q","dyeing"]:List Str).Nodup from by decide+kernel))) (λ_ _ _=>(gK (aK u4 (aE (aa 1) (aa 0)) bY (aT _)))) (λ_ _ _=>(aa 0)))
   (ag (bq (DW.dt (gY (aK u4 (aE (aa 1) (aa 2)) bY (aT _)) (iA (aK Gp (aH bA rfl T.B.len bz (ae (aa 4) ah)) (aa 3) (aT _))))) (aq qx) aM)
   (ag (c4 5 k (tx rfl rfl T.B.list fg (aa 1)))
   (ag (c4 6 k (fW ah))
   (ag (aP false 7 k (aC T.d_least_free (yN T) n (ae (iw (NC:= ["q","dyeing"]) (src:= [none,some 1]) rfl (mE (au iO)) #[rfl,rfl,trivial] (br (aa 4)) (λ_ _ _=>(bG 0 (show(["q","dyeing"]:List Str).Nodup from by decide+kernel))) (λ_ _ _=>eH) (λ_ _ _=>(aE (aa 1) (aa 0)))) (ae (aa 3) ah))))
   (ag (bq (aK sh (aa 7) bY (aT _)) (ag (aP false 8 k (aC T.d_freeing_exchange (pH T) n (ae (aa 0) (ae (aa 1) (ae (aa 4) ah)))))
   (ag (bq (aK sh (aa 8) bY (aT _)) (aq (Al 5 6)) aM)
   (ag (Bv (aa 8) (jX 2 rfl (bZ (aQ 9 k) (bZ (aQ 10 k) gu))))
   (ag (aP false 7 k (aE (aa 1) (aa 9)))
   (ag (c4 5 k (Aj T.d_exchanged (yK T) n (ae (aa 1) (ae (aC T.d_chain ((yI T).imp GO) n (ae (aa 0) (ae (aa 1) (ae (aa 9) (ae (aa 10) ah))))) (ae (aa 7) (ae (aa 10) ah))))))
   (aq (gr false 6 (cZ (ae jo (ae (aa 9) (ae (aa 10) ah))))))))))) aM)
   (ag (ja false 5 (aa 2) (aa 7))
   (ag (gr false 6 (cZ (ae jo (ae (aa 2) (ae (aa 7) ah)))))
   (aq (Al 5 6))))))))))),?_]
 obtain⟨c,f,p,m,rfl,m4,m9,g,l1,o,O,u,r,Q,v,J,a5,q⟩:=h;exists _,rfl,c,rfl,g,l1,o,O;have rl:=dF g p;have rng:∀y∈row c p,y<f.length:=λy j=>by rw[r];exact g.rng _ _ j
 exists _,rfl,c,rfl,c,rfl,o,_,rfl,_,fo u;refine fM (ρ:= [none,some (ba f)]) ao (λq=>!decide (f.getD q none=none)) ao (row c p) _ [] _ (λy j Y Nn t1 t2=>?_) #[none,rfl] (small (by rw[iW];lia)) λaJ=>?_
 .refine#[_,rfl,_,rfl,_,d6 (rng y j),_,rfl,?_]
  cases S:f.getD y none with
  |none=>exact bM (t2 (by rw[S];rfl))
  |some d=>exact eC #[_,rfl,t1 (by rw[S];rfl)]
 rw[lP,show(.lst (((row c p).filter λq=>!decide (f.getD q none=none)).map ao):D)=aw (eo c f p) from rfl];exists trivial;have ap:fc (f.map oD) (p:Int)\.bC:=by rw[d6 (),J];rfl
 have t:∀y∈eo c f p,y<f.length/\∃d,f.getD y none\d:=λy j=>#[rng y (jr.mp j).1,(jr.mp j).2];exists _,rfl,_,rfl,_,ap,_,rfl;have la:((eo c f p).map ao).length=(eo c f p).length:=aG _;have al0:(eo c f p).length<=(row c p).length:=A8 _ _;have lf:(f.map oD).length=f.length:=aG _;refine bM #[_,rfl,_,rfl,_,rfl,k9 (Gc ()) ?_]
 exists _,rfl;refine#[by show 0<=sizeLine;decide,?_]
 have ei:((eo c f p).map λx=>oD (f.getD x none))=bV ((eo c f p).map λq=>(f.getD q none).getD 0):=by
  unfold bV;rw[cw];refine wo λx i=>?_;obtain⟨d,C⟩:=(t x i).2;rw[Function.comp,C];rfl
 exists _,rfl;refine jq (ρ:= [none,some (ba f)]) ao (λx=>oD (f.getD x none)) (eo c f p) _ (λx i Y hY=>#[_,rfl,_,rfl,_,d6 (t x i).1,hY]) rfl (small ()) λaJ=>?_
 rw[ei];refine#[_,rfl,_,(m:Int),rfl,(),(),by rw[aG];lia,λd U X dl dn=>#[trivial,?_],λall=>#[trivial,?_]]
 .refine#[_,rfl,_,rfl,bM ?_]
  have fr:∀y∈row c p,f.getD y none≠some d:=λy j z=>dn (bh.mpr #[y,jr.mpr #[j,d,z],by rw[z];rfl])
  have M:(eo c f p).length<=(row c p).length:=A8 _ _;rw[aG] at dl;refine x9 (f1:=f) (l0:= []) o () u () q (vR g Q () v #[U,X] fr rfl λ_ _=>aaV) (.free d U X () fr)
 .rw[aG] at all
  obtain⟨l5,un⟩:=CY a5 all;have M:=A8 (λq=>!decide (f.getD q none=none)) (row c p);have M:(eo c f p).length<=(row c p).length:=M;have P:=O ()
  refine#[_,rfl,_,rfl,eC ?_];refine#[_,rfl,_,rfl,_,rfl,c,f,eo c f p,rfl,g,o,r,(),λx i=>#[by have:=(t x i).1;lia,(t x i).2],λx i y j d C nc=>#[trivial,?_],λh=>(JF g P J () un h).elim]
  obtain⟨xl,a,I⟩:=t x i;have ax:fc (f.map oD) (x:Int)\(.int a):=by rw[d6 xl,I];rfl
  refine#[_,rfl,_,rfl,bM ?_];exists _,rfl;exists rfl,rfl;exists _,rfl,_,rfl,_,ax,trivial;refine#[_,rfl,_,rfl,_,rfl,_,rfl,_,rfl,c,f,x,d,rfl,g,o,(),r,λL L1 N=>?_]
  have Ll:∀x∈L,x<c.length:=λy j=>((N y).mp j).lt g ()
  have Xy:L.length<=14:=by
   have:=az (l:=L) (m:=ac c.length) (L1.imp λh=>bP h) λx i=>b9.mpr (Ll x i)
   rw[fB] at this;lia
  have el:=dS f L a d;refine#[_,rfl,_,rfl,f,L,a,d,rfl,(),Xy,λx i=>by rw[r];exact Ll x i,?_]
  refine#[_,rfl,_,rfl,_,rfl,_,rfl,by show 3<=sizeLine;decide,trivial,cD ∅,?_]
  obtain⟨G,ad,ef⟩:=FC g Q r u v J i j un I C N nc;have dd:=v y d C;have da:=v x a I;refine x9 (ll:=aY 1) (f1:=gG f L a d) (l0:= [I0 x d]) o () u () q G (.gG x a d L (λe e0 e5=>?_) () I ad dd.1 dd.2 da.1 da.2 L1 N ef)
  obtain⟨z,hz,ez⟩:=bh.mp (all e e0 e5 ())
  obtain⟨zr,dz,Za⟩:=jr.mp hz;exists z,zr;rw[Za] at ez ⊢;exact GM some ez
variable {P:Program} {w:World} {mg:Str->Option Value} {base:Heap} {Z:DC} (T:Txt Z mg)
theorem xV(f:b->c):∀(l:List b)(i:Nat),(l.map f).eraseIdx i=(l.eraseIdx i).map f
 | [],_=>rfl
 |_::_,0=>rfl
 |a::l,i+1=>by rw[cX,CF,CF,cX,xV f l i]
theorem AN(f:Nat->Int):∀K:List Nat,hU (K.map λp=>tupI [f p,(p:Int)])=true
 | []=>rfl
 |b::K=>by rw[cX,hU,AN f K];rfl
structure xq (w:W) (K M:List Nat):Prop where
 nk:K.Nodup
 nm:M.Nodup
 dj:∀x∈K,x∉M
 all:∀x,x<w.length↔x∈K\/x∈M
 few:∀A x B,M=A++x::B->((row w x).filter λq=>decide (q∈B++K)).length<=5
def Bi(w:W)(L:List Nat):Prop:=L.Nodup/\(∀x,x<w.length↔x∈L)/\∀A x B,L=A++x::B->((row w x).filter λq=>decide (q∈B)).length<=5
def xq.zero(w:W):xq w (ac w.length) []:=#[uy,gF,(λx _ h=>nomatch h),λx=>by simp,λA x B e=>by cases A<;>cases e]
def xW{l K a:List Nat}(h:∀x∈l,x∈K->x∈a):(l.filter λq=>decide (q∈K)).length<=(l.filter λq=>decide (q∈a)).length:=by
 rw[<-A3,<-A3];exact abh λx b c=>GT (h x b (IR c))
def xq.step{w:W}{K M:List Nat}(h:xq w K M){p:Nat}(d:p∈K)(l:((row w p).filter λq=>decide (q∈K)).length<=5){f:List Nat}(m:f.Nodup)(mk:∀x,x∈f↔x∈K/\x≠p):xq w f (M++ [p]):=by
 have n:=h.dj p d;refine#[m,cU.mpr #[h.nm,by simp,λa o b j e=>?_],λx g z=>?_,λx=>?_,λA x B e=>?_]
 .rw[cH] at j;subst j;exact n (e▸o)
 .obtain⟨r,s⟩:=(mk x).mp g
  rcases bT.mp z with z|z
  .exact h.dj x r z
  .exact s (cH.mp z)
 .rw[h.all x,mk,bT,cH]
  by_cases z:x=p
  .subst z;simp[d]
  .simp[z]
 .rcases zv B with rfl| ⟨k,y,rfl⟩
  .obtain⟨rfl,i⟩:=abe e rfl
   cases i;exact i5 (xW λx _ g=>((mk x).mp (~~~g)).1) l
  .rw[A7] at e ⊢
   have e:M++ [p]=(A++x::k)++ [y]:=by rw[e];simp
   obtain⟨t,i⟩:=abe e rfl;cases i;refine i5 (xW λz _ c=>?_) (h.few A x k t)
   rcases bT.mp c with c|c
   .rcases bT.mp c with c|c
    .exact eN _ c
    .rw[cH.mp c];exact eZ _ d
   .exact eZ _ ((mk z).mp c).1
def Ma(h:HT.lexLt [a,b] [c,d]=false):c<=a:=by
 rw[HT.jC] at h
 by_cases e:a=c
 .lia
 .rw[ir e] at h
  have:=Pi h
  lia
def Nw:bS:=λa P=>∃(w:W),a= [.fS w]/\Good w/\1<=w.length/\w.length<=14/\(2<=w.length->kn w)/\∀L:List Nat,Bi w L->P (aw L)
def sj:FnOk P w Z.K mg base cg 2 T.d_order_of_five.f T.d_order_of_five.fd ["web"] (dE Z 1 Nw):=by
 have j:=lG.nd;refine g8 1 T.d_order_of_five.F lG [0,0,1,1,1,0] ∅ (λO R h=>by obtain⟨_,rfl,_⟩:=h;rfl) (λbD A outer s H E O R r h=>?_)
 have Q:=r.units
 refine#[_,(ag (aP false 1 j (fP T.W (aa 0) T.m_turns.m (js T) (r.mono ∅) T.m_turns.b))
   (ag (c4 2 j (IQ rfl rfl rfl T.B.list fg (gW C8 rfl T.B.range Af (ae (fP T.W (aa 0) T.m_many.m (nh T) (r.mono ∅) T.m_many.b) ah))))
   (ag (c4 3 j (fW ah))
   (ag (ke FS (cJ (aa 2)) (ag (xQ 4 (NC:= ["p","turns","left"]) (src:= [none,some 1,some 2]) rfl j (mE (au gx)) #[rfl,rfl,rfl,rfl,trivial] (br (aa 2)) (λ_ _ _=>(bG 0 (show(["p","turns","left"]:List Str).Nodup from by decide+kernel))) (λ_ _ _=>eH) (λ_ _ _=>(cZ (ae (aH bA rfl T.B.len bz (ae (iw (NC:= ["q","left"]) (src:= [none,some 2]) rfl Uw #[rfl,rfl,trivial] (br (aE (aa 1) (aa 0))) (λ_ _ _=>(bG 0 (show(["q","left"]:List Str).Nodup from by decide+kernel))) (λ_ _ _=>(gK (aK se (aa 0) (aa 1) (by with_unfolding_all rfl)))) (λ_ _ _=>(aa 0))) ah)) (ae (aa 0) ah)))))
   (ag (aP true 5 j (aE (aH (KN rfl Q) rfl T.B.min wQ (ae (aa 4) ah)) av))
   (ag (gr false 3 (aa 5))
   (aq (Ol 2 (aa 5)))))))
   (aq (xR 3)))))),?_]
 obtain⟨d,rfl,g,l1,eV,S,q⟩:=h;refine#[_,rfl,d,rfl,d,rfl,(),trivial,?_]
 refine#[_,rfl,d,rfl,d,rfl,_,rfl,_,_,rfl,#[∅,∅,(),(),()],?_]
 rw[show((d.length:Int)-0).toNat=d.length by lia,kK]
 refine#[by show 0<=sizeLine;decide,?_]
 refine jj (λm ρ=>∃(L M:List Nat)(C G:Option D),ρ= [some (.fS d),some (aX d),some (aw L),some (aw M),C,G]/\L.length=m/\xq d L M) d.length #[ac d.length,[],_,_,rfl,fB,xq.zero d] ?_;rintro m _ ⟨L,M,C,G,rfl,lm,I⟩;have o:∀x∈L,x<d.length:=λx k=>(I.all x).mpr (.inl k);have U:∀x∈M,x<d.length:=λx k=>(I.all x).mpr (.inr k)
 have sz:∀{l:List Nat},l.Nodup->(∀x∈l,x<d.length)->l.length<=14:=λ {l} j h=>by
  have:=az (m:=ac d.length) j λx k=>b9.mpr (h x k)
  rw[fB] at this;lia
 have lL:=sz I.nk o;have lM:=sz I.nm U;have X:∀x,(row d x).length<=14:=λx=>by have:=dF g x;lia
 cases L with
 |nil=>
  refine#[_,rfl,rfl,bM ?_];exact#[_,rfl,q M #[I.nm,λx=>by rw[I.all x];simp,λA x B e=>by have:=I.few A x B e;rwa [iV] at this]]
 |cons a L=>
  refine#[_,rfl,rfl,eC ?_];generalize t:a::L=K at*
  have f5:∃p∈K,((row d p).filter λq=>decide (q∈K)).length<=5:=by
   by_cases n2:2<=d.length
   .obtain⟨c,F,e⟩:=S n2
    exact U3 g F e I.nk (by rw[<-t];simp) o
   .exact#[a,by rw[<-t];simp,by have:=A8 (λq=>decide (q∈K)) (row d a);have:=dF g a;lia]
  refine#[_,rfl,qz (λρ=>∃J,ρ= [J,some (aX d),some (aw K)]) ao (λ_=>true) (λp=>tupI [(((row d p).filter λq=>decide (q∈K)).length:Int),(p:Int)]) K _ [] _ (λp i N hI Y Nn hY hN=>?_) #[none,rfl] ?_ λN _=>?_]
  .obtain⟨J,rfl⟩:=hI
   exists _,rfl,_,rfl,_,fo (o p i);have rp:=X p;refine fM (ρ:= [none,some (aw K)]) ao (λq=>decide (q∈K)) ao (row d p) _ [] _ (λy hy Y Nn t1 t2=>?_) #[none,rfl] (small (by rw[iW];lia)) λN=>?_
   .refine#[_,rfl,_,rfl,rfl,cR _,_,rfl,?_]
    rw[ir cP,iH];exact bO (λe=>#[_,rfl,t1 e]) (λe=>t2 e)
   .refine#[_,rfl,by show 2<=sizeLine;decide,?_]
    have u:(D.tup [.int ((([]++((row d p).filter λq=>decide (q∈K)).map ao:List D)).length:Int), .int (p:Int)])=tupI [(((row d p).filter λq=>decide (q∈K)).length:Int),(p:Int)]:=by rw[lP,aG];rfl
    refine(?_:Y _ (D.tup [.int ((([]++((row d p).filter λq=>decide (q∈K)).map ao:List D)).length:Int), .int (p:Int)]));rw[u];exact hY _ #[_,rfl] rfl
  .exact small (by rw[iW];lia)
  .rw[List.filter_eq_self.mpr (λ_ _=>rfl),lP]
   have nl:=AN (λp:Nat=>(((row d p).filter λq=>decide (q∈K)).length:Int)) K;refine#[nl,_,rfl,K.map (λp=> [(((row d p).filter λq=>decide (q∈K)).length:Int),(p:Int)]),by rw[cw];rfl,by rw[<-t];simp,λv hm mn=>?_]
   obtain⟨p,i,rfl⟩:=bh.mp hm;exists .int (p:Int),rfl,rfl;have pK:=o p i
   have p5:((row d p).filter λq=>decide (q∈K)).length<=5:=by
    obtain⟨p0,h0,h5⟩:=f5
    have:=Ma (mn _ (bh.mpr #[p0,h0,rfl]))
    lia
   have kp:0<K.length:=uv i;have n:=fK i;have el:(K.eraseIdx (K.idxOf p)).length+1=K.length:=by rw[CI,mo n.2];lia
   refine#[_,rfl,_,rfl,trivial,cD (by rw[aG];lia),?_]
   have ix:=fE i;refine#[K.map λ(x:Nat)=>(x:Int),by unfold aw;rw[cw];rfl,_,rfl,(p:Int),K.idxOf p,rfl,?_,?_,?_]
   .have n:=fK i
    rw[bW,cv n.2];have e:=n.1;rw[bK,cv n.2] at e;exact GM (λx:Nat=>some (x:Int)) e
   .intro v Zq z
    rw[bW] at z;cases e:K[v]? with
    |none=>rw[e] at z;cases z
    |some x=>
     rw[e] at z
     have:(x:Int)=(p:Int):=Da z
     exact w9 K v Zq (by rw[e];congr 1;lia)
   .refine#[m-1,(),K.eraseIdx (K.idxOf p),M++ [p],some (.lst (K.map λp=>tupI [(((row d p).filter λq=>decide (q∈K)).length:Int),(p:Int)])),some (.int (p:Int)),?_,(),I.step i p5 (I.nk.eraseIdx _) λx=>?_]
    .have u:D.lst (((K.map λ(x:Nat)=>(x:Int)).eraseIdx (K.idxOf p)).map D.int)=aw (K.eraseIdx (K.idxOf p)):=by unfold aw;rw[xV,cw];rfl
     have e2:aw (M++ [p])= .lst (M.map ao++ [ao p]):=by unfold aw;rw[cW];rfl
     rw[<-u,e2];rfl
    .rw[<-List.erase_eq_eraseIdx_of_idxOf rfl,I.nk.mem_erase_iff];exact And.comm
theorem yE:∀L:List Nat,hU (L.map λ_=>oD none)=true
 | []=>rfl
 |_::L=>by rw[cX,hU,yE L];rfl
inductive sT (w:W):List (Option Int)->List Nat->List D->List (Option Int)->Prop
 |nil (f:List (Option Int)):sT w f [] [] f
 |cons {f f' Jb:List (Option Int)} {p:Nat} {l T:List D} {ps:List Nat}:qI w f p 5 f' l->sT w f' ps T Jb->sT w f (p::ps) (l++T) Jb
def sT.snoc{w:W}{l T:List D}(h:sT w f c T b)(v:qI w b p 5 a l):sT w f (c++ [p]) (T++l) a:=by
 induction h with
 |nil f=>have:=sT.cons v (.nil a);rwa [iV] at this
 |cons g _ d=>rw[h8];exact .cons g (d v)
def P1:bS:=λa P=>∃(w:W),a= [.fS w]/\Good w/\1<=w.length/\w.length<=14/\(2<=w.length->kn w)/\∀(f:List (Option Int))(L:List Nat)(T:List D),f.length=w.length->Pr w f->Dy 5 f->(∀q,q<w.length->∃d,f.getD q none\d)->Bi w L->L.length=w.length->sT w (aj w.length none) L.reverse T f->T.length<=28->P (.tup [ba f,aw L, .lst T])
def pD:FnOk P w Z.K mg base cg 8 T.d_five_dyes.f T.d_five_dyes.fd ["web"] (dE Z 2 P1):=by
 have i:=rg.nd;refine g8 2 T.d_five_dyes.F rg [0,1,1,1,0,0] ∅ (λds R h=>by obtain⟨_,rfl,_⟩:=h;rfl) (λbD A outer s H E ds R o h=>?_)
 have hu:=o.units
 refine#[_,(ag (Dw (aC T.d_need_plane (pI T) o (ae (aa 0) ah)))
   (ag (c4 1 i (Aj T.d_order_of_five (sj T) o (ae (aa 0) ah)))
   (ag (xQ 2 (NC:= ["p"]) (src:= [none]) rfl i (mE (au j6)) trivial (br (aa 1)) (λ_ _ _=>(bG 0 (show(["p"]:List Str).Nodup from by decide+kernel))) (λ_ _ _=>eH) (λ_ _ _=>bY))
   (ag (c4 3 i (fW ah))
   (ag (IU rfl FS 1 T.B.reversed (aQ 4 i) (ag (Om 2 5 rfl i (yJ T) (o.mono ∅) rfl T.d_dye_given.m T.d_dye_given.F.kp T.d_dye_given.b (ae (aa 0) (ae (aa 2) (ae (aa 4) (ae av ah)))))
   (aq (Hz 3 (aa 5)))))
   (aq (IV 2 1 3))))))),?_]
 obtain⟨c,rfl,g,u,v,C,q⟩:=h;exists _,rfl,c,rfl,g,u,v,C;refine#[_,rfl,c,rfl,g,u,v,C,λL O=>#[_,rfl,?_]];obtain⟨nL,I,few⟩:=id O
 have J:L.length=c.length:=by
  have:=(ur nL uy (l₂:=ac c.length)).mpr λx=>by rw[<-I x,b9]
  rw[this.length_eq,fB]
 exists _,rfl;refine jq (ρ:= [none]) ao (λ_=>oD none) L _ (λx e Y hY=>hY) rfl (small ()) λaJ=>?_
 exists yE L;refine#[by show 0<=sizeLine;decide,?_]
 refine#[_,rfl,λa=>?_];have e0:L.map (λ_=>(none:Option Int))=aj c.length none:=by rw[List.map_const',J]
 have er:(L.map ao).reverse=L.reverse.map ao:=by rw[vB]
 refine(?_:iE _ _ _ (L.map ao).reverse _);rw[er];refine bU (λj ρ=>∃(f:List (Option Int))(k:List D)(M N:Option D),ρ= [some (.fS c),some (.obj a),some (ba f),some (.lst k),M,N]/\f.length=c.length/\Pr c f/\Dy 5 f/\(∀q,f.getD q none=none↔q∉L.reverse.take j)/\k.length<=2*j/\sT c (aj c.length none) (L.reverse.take j) k f) #[L.map λ_=>none,[],none,none,?_,by rw[aG,J],λx y d _ e=>?_,λx d e=>?_,λx=>?_,dZ _,by rw[<-e0];exact .nil _] ?_ ?_
 .rw[show ba (L.map λ_=>none)= .lst (L.map λ_=>oD none) by unfold ba;rw[cw];rfl];rfl
 .exact absurd e (by rw[bK,bW];cases L[x]? <;>simp)
 .exact absurd e (by rw[bK,bW];cases L[x]? <;>simp)
 .refine#[λ_ h=>(by cases h),λ_=>?_]
  rw[bK,bW];cases L[x]? <;>rfl
 .rintro j _ _ Q ⟨f,k,M,N,rfl,r,S,U,n,ll,K⟩ A hA
  obtain⟨p,X,rfl⟩:=cu Q
  have jl:j<L.length:=by
   have:=(df.mp X).1
   rwa [zw] at this
  have pm:p∈L:=qt.mp (dY X);have t:L.reverse.take (j+1)=L.reverse.take j++ [p]:=by rw[uz,X];rfl
  have eL:L=(L.reverse.drop (j+1)).reverse++p::(L.reverse.take j).reverse:=by
   have:L.reverse=L.reverse.take j++p::L.reverse.drop (j+1):=by
    rw[<-List.singleton_append,<-h8,<-t,iT]
   have:=GM List.reverse this
   rw[abv] at this
   conv=>lhs;rw[this]
   simp
  have f5:=few _ _ _ eL
  have np:p∉L.reverse.take j:=λz=>by
   have i:=(zy L).nodup_iff.mpr nL;rw[<-iT (j+1) L.reverse,t] at i
   have:=(cU.mp i).1
   exact(cU.mp this).2.2 p z p (by simp) rfl
  have a5:(eo c f p).length<=5:=by
   refine i5 ?_ f5;unfold eo;rw[<-A3,<-A3];refine abh λx _ e=>GT (qt.mpr (FB λz=>?_));rw[(n x).mpr z] at e;simp at e
  refine#[_,rfl,_,rfl,_,rfl,c,f,p,5,rfl,∅,∅,g,u,v,C,(I p).mpr pm,r,S,U,(n p).mpr np,a5,λf' l G V=>?_]
  have hl:=V.len;exists _,_,rfl,yS _,V.hU;refine#[_,rfl,_,rfl,_,rfl,i5 (by show _<=1000;lia) ∅,hA _ #[f',k++l,_,_,rfl,by rw[G.len,r],G.pr,G.dy,λx=>?_,by rw[cA];lia,by rw[t];exact K.snoc V]]
  rw[t,bT,cH]
  by_cases z:x=p
  .subst z
   obtain⟨d,Q⟩:=G.at_;rw[Q];simp
  .rw[G.out x z,n x];simp[z]
 .rintro _ ⟨f,k,M,N,rfl,r,S,U,n,ll,K⟩
  rw[aG,rD] at K;rw[aG,zw] at ll;refine#[rfl,_,_,_,rfl,rfl,rfl,q f L k r S U (λx e=>?_) O J K ()]
  cases h:f.getD x none with
  |some d=>exact#[d,rfl]
  |none=>
   refine absurd ?_ ((n x).mp h);rw[aG,rD];exact qt.mpr ((I x).mp e)
variable {P:Program} {w:World} {mg:Str->Option Value} {base:Heap} {Z:DC} (T:Txt Z mg)
def Ka:bS:=λa P=>∃(w:W)(f:List (Option Int))(p:Nat)(d:Int),a= [aX w,ba f,ao p, .int d]/\Good w/\w.length<=14/\p<w.length/\f.length=w.length/\∀L:List Nat,L.Pairwise (·<·)->(∀x,x∈L↔Cr w (gN f p d) p x)->P (aw L)
def wF:FnOk P w Z.K mg base cg 1 T.d__law_chain.f T.d__law_chain.fd ["_law_turns","_law_dyeing","_law_p","_law_dye"] (dE Z 1 Ka):=by
 have X:=pU.nd;refine g8 1 T.d__law_chain.F pU [0,0,0,0,1,0,0] ∅ (λds R h=>by obtain⟨_,_,_,_,rfl,_⟩:=h;rfl) (λbD A outer s H E ds R hr h=>?_)
 have hu:=hr.units
 refine#[_,(ag (c4 4 X (fW (ae (aa 2) ah)))
   (ag (aP false 5 X av)
   (ag (ke FS (aK kF (aa 5) (aH bA rfl T.B.len bz (ae (aa 4) ah)) (aT _)) (ag (Le 0 rfl FS (aE (aa 4) (aa 5)) (aQ 6 X) (aq (bq (DW.dt (wV (aK hV (aa 6) (aa 4) (by with_unfolding_all rfl)) (tB (aK se (aE (aa 1) (aa 6)) (cZ (ae (aE (aa 1) (aa 2)) (ae (aa 3) ah))) (by with_unfolding_all rfl))))) (aq (gr false 4 (aa 6))) aM)))
   (aq (aP false 5 X (aW cz (aa 5) av)))))
   (aq (Dx (IS rfl T.B.sorted (aa 4))))))),?_]
 obtain⟨u,f,p,d,rfl,g,eF,hp,fl,q⟩:=h;refine#[_,rfl,by show 1<=sizeLine;decide,?_]
 exists trivial
 have few:∀fs:List Nat,fs.Nodup->(∀x∈fs,Cr u (gN f p d) p x)->fs.length<=14:=λfs J C=>by
  have:=az (m:=ac u.length) J λx l=>b9.mpr ((C x l).lt g hp)
  rw[fB] at this;lia
 refine jj (λm ρ=>∃(fs:List Nat)(k:Nat)(o:Option D),ρ= [some (aX u),some (ba f),some (ao p),some (.int d),some (aw fs),some (ao k),o]/\fs.Nodup/\(∀x∈fs,Cr u (gN f p d) p x)/\p∈fs/\k<=fs.length/\(∀i,i<k->∀y∈row u (fs.getD i 0),gN f p d y->y∈fs)/\m=20-k) 20 ?_ ?_
 .exact#[[p],0,none,rfl,by simp,λx l=>by rw[cH] at l;subst l;exact .base,by simp,dZ _,(λi G=>absurd G ()),rfl]
 rintro m _ ⟨fs,k,o,rfl,J,C,pf,Y,cl,rfl⟩;have f14:=few fs J C;have lf:(fs.map ao).length=fs.length:=aG _;refine#[_,rfl,_,rfl,_,rfl,bO (λN=>?_) λN=>?_]
 .have Y:k<fs.length:=by
   have:=IR N
   lia
  have af:fs.getD k 0∈fs:=getD_mem Y;have al:=(C _ af).lt g hp;have rl:=dF g (fs.getD k 0);exists _,rfl,_,rfl,_,rfl,_,gM Y,_,_,rfl,fo al;refine bU (λj ρ=>∃(c:List Nat)(o:Option D),ρ= [some (aX u),some (ba f),some (ao p),some (.int d),some (aw c),some (ao k),o]/\c.Nodup/\(∀x∈c,Cr u (gN f p d) p x)/\(∃t,c=fs++t)/\∀y∈(row u (fs.getD k 0)).take j,gN f p d y->y∈c) #[fs,_,rfl,J,C,#[[],by simp],λy v=>by simp at v] ?_ ?_
  .rintro j _ _ hd ⟨c,o,rfl,O,Q,⟨t,I⟩,S⟩ A hA
   obtain⟨y,v,rfl⟩:=cu hd;have ym:y∈row u (fs.getD k 0):=dY v
   have tk:(row u (fs.getD k 0)).take (j+1)=(row u (fs.getD k 0)).take j++ [y]:=by
    rw[uz,v];rfl
   have f2:=few c O Q
   have keep:(y∈c\/¬gN f p d y)->A [some (aX u),some (ba f),some (ao p),some (.int d),some (aw c),some (ao k),some (ao y)]:=λhk=>by
    refine hA _ #[c,some (ao y),rfl,O,Q,#[t,I],λz r ok=>?_];rw[tk] at r
    rcases bT.mp r with r|r
    .exact S z r ok
    .rw[cH] at r
     subst r;exact hk.elim id λh=>absurd ok h
   exists _,rfl,_,rfl,rfl,cR _,_,rfl;refine(?_:if (if true=true then !inD (ao y) (c.map ao) else _)=true then _ else _);rw[mo rfl,iH];refine bO (λU=>?_) (λU=>?_)
   .have U:y∉c:=by simpa using U
    refine#[_,rfl,_,rfl,_,d6 (by have:=g.rng _ _ ym;lia),_,rfl,_,rfl,_,d6 (),_,rfl,by show 2<=sizeLine;decide,yH _,nA [f.getD p none,some d],_,rfl,?_]
    refine(?_:if (if false=true then _ else inD (oD (f.getD y none)) [oD (f.getD p none), .int d])=true then _ else _);rw[ir cP];refine bO (λok=>?_) (λok=>?_)
    .have ok:=(xa f p d y).mp ok
     refine#[_,rfl,_,rfl,trivial,cD (by rw[aG];lia),?_]
     refine hA _ #[c++ [y],some (ao y),?_,?_,?_,#[t++ [y],by rw[I,h8]],λz r ok=>?_]
     .have:aw (c++ [y])= .lst (c.map ao++ [ao y]):=by unfold aw;rw[cW];rfl
      rw[this];rfl
     .rw[cU]
      refine#[O,by simp,λx l z r e=>U ?_]
      rw[cH] at r;rw[<-r,<-e];exact l
     .intro x l
      rcases bT.mp l with l|l
      .exact Q x l
      .rw[cH] at l
       subst l;exact .step (C _ af) ym ok
     .rw[tk] at r
      rcases bT.mp r with r|r
      .exact eN _ (S z r ok)
      .exact eZ _ r
    .exact keep (.inr λz=>by rw[(xa f p d y).mpr z] at ok;cases ok)
   .exact bM (keep (.inl (~~~U)))
  .rintro _ ⟨c,o,rfl,O,Q,⟨t,I⟩,S⟩
   rw[aG,rD] at S;exists _,rfl,trivial
   have g2:∀i,i<fs.length->c.getD i 0=fs.getD i 0:=λi G=>by
    rw[I,bK,bK,kW G]
   have l2:fs.length<=c.length:=by rw[I,cA];lia
   have s2:∀x∈fs,x∈c:=λx l=>by rw[I];exact eN _ l
   refine#[20-(k+1),(),c,k+1,o,rfl,O,Q,s2 p pf,(),λi G y v ok=>?_,rfl]
   rw[g2 i ()] at v
   by_cases e:i=k
   .subst e;exact S y v ok
   .exact s2 y (cl i () y v ok)
 .have Y:¬(k<fs.length):=λh=>by
   have:=Pi N
   lia
  refine#[_,rfl,fs.map λ(n:Nat)=>(n:Int),?_,by rw[aG];lia,λks pm Cu=>?_]
  .rw[cw];rfl
  obtain⟨L,e1,e2,e3⟩:=uT pm Cu J;rw[e1];refine q L e2 λx=>?_;rw[e3.mem_iff];refine#[C x,λl=>?_];refine l.all (M:=λx=>x∈fs) pf λa b ha N hk=>?_;obtain⟨i,G,e⟩:=zF.mp ha;refine cl i () b ?_ hk
  rw[bK,cv G];show b∈row u fs[i];rw[e];exact N
end oH
namespace L2
open PySem PySem.Spec PyProof.Rows PyProof
section
variable {Z:DC} {X:Cx}
theorem xu{f:Nat->Int}(g:Int->Int->Bool)(e:∀a b,g a b=decide (a<b)):∀k,argBest (λi j=>g (f i) (f j)) k<=k/\∀i,i<=k->f (argBest (λi j=>g (f i) (f j)) k)<=f i
 |0=>#[aY _,λi h=>by(obtain rfl:i=0:=();exact Int.le_refl _)]
 |k+1=>by
  obtain⟨l,d⟩:=xu (f:=f) g e k;unfold argBest;simp only[e] at l d ⊢
  by_cases c:f (k+1)<f (argBest (λi j=>decide (f i<f j)) k)
  .rw[mo (GT c)]
   refine#[aY _,λi m=>?_]
   by_cases z:i=k+1
   .subst z;exact Int.le_refl _
   .have:=d i ();lia
  .rw[ir (~~~c)]
   refine#[(),λi m=>?_]
   by_cases z:i=k+1
   .subst z;lia
   .exact d i ()
def Fl(P:X.calm=true):cB X (.builtin "min") (λL H Q=>∃(p:Addr)(c:List Int),L= [.ref p]/\H p\(.tup (c.map V.int))/\c≠ []/\∀n∈c,(∀m∈c,n<=m)->Q (.int n) H):=by
 intro M s σ H L us Q I R h;obtain⟨p,c,rfl,S,T,q⟩:=h;obtain⟨u,rfl,U⟩:=R.one;subst U;obtain⟨d,r,z,hz⟩:=I.tuple (eG.of S);have Y:=r.length;rw[aG] at Y;have LX:0<c.length:=zG.mpr T
 have C:∀i:Nat,(g:i<c.length)->∃t,d[i]?\(.int c[i] t):=λi g=>by
  obtain⟨w,hw,Z⟩:=r.get (i:=i) (x:= .int c[i]) (by rw[bW,cv g];rfl)
  obtain⟨t,rfl⟩:=Z;exact#[t,hw]
 refine call_min_walk (wpAny_pyIter_tuple z ?_)
 have rR:p≠s.heap.objs.size:=by
  obtain⟨o,E,_⟩:=z;exact bP (Fk E)
 let f:Nat->Int:=λi=>c.getD i 0
 have B:∀k,(y:k<c.length)->f k=c[k]:=λk y=>by
  show c.getD k 0=_;rw[bK,cv y];rfl
 refine#[_,_,_,d.toArray.size,_,_,λi j=>(λa b=>decide (a<b)) (f i) (f j),rfl,Walks.tuple (show X.A.in1.handled=none from I.ok.hd P) s.heap.objs.size p rR d.toArray,#[#[_,GE _ rfl,rfl,rfl],z.push _],?_,?_,?_,?_]
 .intro b hb
  have:b=s.heap.objs.size\/b=p:=by simpa using hb
  obtain⟨o,E,_⟩:=z;have lt:=Fk E;have e:(s.heap.push {cls:= .type "tuple_iterator",data:= .fields [.ref p, .int 0 0].toArray}).objs.size=s.heap.objs.size+1:=by simp[Heap.push]
  rcases this with rfl|rfl
  .exact CL (vx _) e.symm
  .exact CL (qs lt) e.symm
 .rw[cQ];lia
 .intro i j u v s' Q' E' FY jJ hq
  have F:d[i]?\u:=by simpa using FY
  have l:d[j]?\v:=by simpa using jJ
  have g:i<c.length:=by have:=(df.mp F).1;lia
  have N:j<c.length:=by have:=(df.mp l).1;lia
  obtain⟨t1,h1⟩:=C i g;obtain⟨t2,h2⟩:=C j N;rw[h1] at F;rw[h2] at l;obtain rfl:=Da F;cases Da l;have BL:Q' (.bool (decide (c[i]<c[j]))) s':=by rw[<-B i g,<-B j N];exact hq
  exact HT.ve _ _ _ _ _ _ _ _ _ _ BL
 .intro v h' tk O kk
  have kept:∀b o,s.heap.get? b\o->h'.get? b\o:=λb o e=>kk b o (by simp;exact bP (Fk e)) (AC _ e)
  obtain⟨y,G⟩:=xu (f:=f) (λa b=>decide (a<b)) (λ_ _=>rfl) (d.toArray.size-1);generalize argBest (λi j=>(λa b=>decide (a<b)) (f i) (f j)) (d.toArray.size-1)=k at O y G;rw[cQ] at y G;have J:k<c.length:=()
  have l:d[k]?\v:=by simpa using O
  obtain⟨t,ht⟩:=C k J;rw[ht] at l;cases Da l;refine#[.int c[k],H,I.kept kept,#[t,rfl],q _ (lO J) λm uP=>?_];obtain⟨i,g,rfl⟩:=zF.mp uP
  have:=G i ()
  rw[B i g,B k J] at this;exact this
def Rr:bS:=λb P=>∃a:List Int,b= [.tup (a.map D.int)]/\a≠ []/\∀n∈a,(∀m∈a,n<=m)->P (.int n)
def KO(b:X.calm=true):cB X (.builtin "min") (g6 Z Rr):=by
 refine(Fl b).imp ?_;intro l H Q c;rfl';obtain⟨G,o,P,s,dv,⟨f,rfl,g,i⟩,q⟩:=c;obtain⟨v,rfl,a⟩:=dv.ofOne;obtain⟨p,r,rfl,h,e⟩:=a.pB;ac_rfl;rw[kA e] at h;exact#[p,f,rfl,s _ _ h,g,λn j k=>q _ (i n j k) _ G H (.refl s) (.int n)]
end
end L2
namespace oH
open PySem L2 Wb
variable {P:Program} {w:World} {mg:Str->Option Value} {base:Heap} {Z:DC} (T:Txt Z mg)
open Wy
def Qa:bS:=λa P=>∃(f:List (Option Int))(p:Nat)(d:Option Int),a= [ba f,ao p,oD d]/\p<f.length/\P (ba (f.set p d))
def pC:FnOk P w Z.K mg base cg 1 T.d__law_with.f T.d__law_with.fd ["_law_dyeing","_law_p","_law_dye"] (dE Z 1 Qa):=by
 have a:=qY.nd;refine g8 1 T.d__law_with.F qY [0,0,0,1] ∅ (λb R h=>by obtain⟨_,_,_,rfl,_⟩:=h;rfl) (λi A outer s H E b R c h=>?_)
 have j:=c.units
 refine#[_,(ag (c4 3 a (tx rfl rfl T.B.list fg (aa 0)))
   (ag (ja false 3 (aa 1) (aa 2))
   (aq (xR 3)))),?_]
 obtain⟨f,p,d,rfl,e,q⟩:=h;have ld:(f.map oD).length=f.length:=aG _;exists _,rfl;have g:(f.map oD).set p (oD d)=(f.set p d).map oD:=by rw[vE]
 refine#[_,rfl,trivial,_,rfl,_,rfl,_,_,rfl,uU (by rw[ld];exact e),?_]
 have:=q
 unfold ba at this;rw[<-g] at this;exact#[_,rfl,this]
def KY{P:D->Prop}(h:P (.bl (!decide (a=b)))):sY (.str a) (.str b) P:=#[.str a, .str b,rfl,rfl,by simp[PyData.depth],by
 have:PyData.eqv (.str a) (.str b)=decide (a=b):=by
  rw[PyData.eqv]
  by_cases z:a=b<;>simp[z]
 rw[mo rfl,this];exact h]
def Kb:bS:=λa P=>∃(s:Str)(x n m:Nat)(d:Int),a= [.tup [.str s,ao x, .int d], .str s,ao n, .int m]/\x<n/\0<=d/\d<m/\P (.bl true)
def jf:FnOk P w Z.K mg base cg 2 T.d__law_is_deed.f T.d__law_is_deed.fd ["_law_deed","_law_word","_law_points","_law_many"] (aU Z Kb):=by
 have j:=mS.nd;refine aZ T.d__law_is_deed.F mS [0,0,0,0] ∅ (λg R h=>by obtain⟨_,_,_,_,_,rfl,_⟩:=h;rfl) (λl A outer s H E g R a h=>?_)
 have b:=a.units
 refine#[_,(ag (bq (DW.dt (gY (c5 (cJ (jW "tuple" (aa 0) rfl T.B.isinstance rfl T.B.tuple Ag))) (gY (aK (gI b) (aH bA rfl T.B.len bz (ae (aa 0) ah)) av (aT _)) (iA (aK (gI b) (aE (aa 0) av) (aa 1) (aT _)))))) (aq (aF gU)) aM)
   (ag (bq (DW.dt (gY (c5 (cJ (aC T.d__law_whole (iJ T) a (ae (aE (aa 0) av) ah)))) (gY (c5 (cJ (aC T.d__law_whole (iJ T) a (ae (aE (aa 0) av) ah)))) (iA (aK kF (aH (KO rfl) rfl T.B.min wQ (ae (fh (aa 0) (gb av) f9) ah)) av (aT _)))))) (aq (aF gU)) aM)
   (aq (aF (tq (qv kF (aE (aa 0) av) (aa 2) (aT _)) (wR (qv kF (aE (aa 0) av) (aa 3) (aT _)))))))),?_]
 obtain⟨s,x,n,m,d,rfl,o,p,i,q⟩:=h;refine#[_,rfl,rfl,rfl,bM ?_];exists _,rfl;dsimp only[qP,Hn,dC];refine(?_:sY (.int 3) (.int 3) _);refine sZ #[_,rfl,bM ?_];refine#[_,rfl,_,rfl,_,rfl,KY #[_,rfl,k9 (by simp) ?_]]
 refine#[_,rfl,_,rfl,_,rfl,rfl,bM ?_];refine#[_,rfl,_,rfl,_,rfl,rfl,bM ?_];refine#[_,rfl,λz=>absurd z.1 (show ¬HT.cC 3 0 (some 1)=0 by decide),[(x:Int),d],rfl,by simp,λk c _=>?_]
 have r:0<=k:=by
  simp only[bu,aca,or_false] at c
  rcases c with rfl|rfl<;>lia
 refine#[_,rfl,k9 (Gc ()) ?_]
 refine#[_,rfl,_,rfl,_,rfl,_,rfl,bO (λ_=>?_) (λe=>absurd (show(x:Int)<(n:Int) by lia) (Pi e))]
 exists _,rfl,_,rfl,_,rfl;refine(?_:R (.bl (decide (d<(m:Int)))));rw[GT i];exact q
def Np:bS:=λb P=>∃(w:W)(f:List (Option Int))(p m:Nat),b= [aX w,ba f,ao p, .int m]/\Good w/\w.length<=14/\p<w.length/\f.length=w.length/\m<1000/\∀a:List Int,a.length<=15->(∀d,d∈a↔0<=d/\d<m/\d<=((row w p).length:Int)/\∀q∈row w p,f.getD q none≠some d)->P (.lst (bV a))
def z5:FnOk P w Z.K mg base cg 1 T.d__law_free.f T.d__law_free.fd ["_law_turns","_law_dyeing","_law_p","_law_many"] (aU Z Np):=by
 have C:=qW.nd;refine aZ T.d__law_free.F qW [0,0,0,0,0] ∅ (λG R h=>by obtain⟨_,_,_,_,rfl,_⟩:=h;rfl) (λbD A outer s H E G R I h=>?_)
 have hu:=I.units
 refine#[_,(ag (aP false 4 C (iw (NC:= ["_law_q","_law_dyeing"]) (src:= [none,some 1]) rfl (mE (au iM)) #[rfl,rfl,trivial] (br (aE (aa 0) (aa 2))) (λ_ _ _=>(bG 0 (show(["_law_q","_law_dyeing"]:List Str).Nodup from by decide+kernel))) (λ_ _ _=>eH) (λ_ _ _=>(aE (aa 1) (aa 0)))))
   (aq (aF (iw (NC:= ["_law_dye","_law_taken"]) (src:= [none,some 4]) rfl (mE (au iM)) #[rfl,rfl,trivial] (rL rfl T.B.range (ae (aH (C7 rfl) rfl T.B.min wQ (ae (aa 3) (ae (aW cz (aH bA rfl T.B.len bz (ae (aa 4) ah)) av) ah))) ah)) (λ_ _ _=>(bG 0 (show(["_law_dye","_law_taken"]:List Str).Nodup from by decide+kernel))) (λ_ _ _=>(gK (aK hV (aa 0) (aa 1) (by with_unfolding_all rfl)))) (λ_ _ _=>(aa 0)))))),?_]
 obtain⟨b,f,p,m,rfl,g,eV,J,fl,m9,q⟩:=h;have rl:=dF g p;exists _,rfl,_,rfl,_,fo J;refine jq (ρ:= [none,some (ba f)]) ao (λx=>oD (f.getD x none)) (row b p) _ (λx i Y L=>#[_,rfl,_,rfl,_,d6 (by have:=g.rng _ _ i;lia),L]) rfl (small ()) λM=>?_
 have N:((row b p).map λx=>oD (f.getD x none))=((row b p).map λx=>f.getD x none).map oD:=by rw[cw];rfl
 rw[N];have j:∀c:Option Int,c∈((row b p).map λx=>f.getD x none)↔∃x∈row b p,f.getD x none=c:=λc=>bh;have O:((row b p).map λx=>f.getD x none).length=(row b p).length:=aG _;generalize ((row b p).map λx=>f.getD x none)=a at j O;have TZ:(a.map oD).length=a.length:=aG _;exists trivial;refine#[_,rfl,_,rfl,_,_,rfl,#[by split<;>lia,by split<;>lia],?_]
 obtain⟨n,l⟩:∃n:Nat,n=(if ((a.map oD).length:Int)+1<m then((a.map oD).length:Int)+1 else m).toNat:=#[_,rfl]
 have u:∀k:Int,(0<=k/\k<(n:Int))↔(0<=k/\k<m/\k<=((row b p).length:Int)):=λk=>by
  split at l<;>lia
 have Q:n<=15:=by split at l<;>lia
 rw[<-l,kK];refine fM (ρ:= [none,some (ba a)]) ao (λ(k:Nat)=>!decide (some (k:Int)∈a)) ao (ac n) _ [] _ (λk v Y Nn S U=>?_) #[none,rfl] (small (by rw[iW,fB];lia)) λM=>?_
 .have e:inD (ao k) (a.map oD)=decide (some (k:Int)∈a):=w4 (some (k:Int)) a
  exists _,rfl,_,rfl,rfl,nA _,_,rfl;rw[mo rfl,e];exact bO (λe=>#[_,rfl,S e]) (λe=>U e)
 .have X:((ac n).filter λ(k:Nat)=>!decide (some (k:Int)∈a)).map ao=bV (((ac n).filter λ(k:Nat)=>!decide (some (k:Int)∈a)).map λ(k:Nat)=>(k:Int)):=by unfold bV;rw[cw];rfl
  rw[lP,X];have lf:=A8 (λ(k:Nat)=>!decide (some (k:Int)∈a)) (ac n);rw[fB] at lf;refine q _ (by rw[aG];lia) λd=>?_
  rw[bh]
  constructor
  .rintro⟨k,v,rfl⟩
   obtain⟨y,h2⟩:=gE.mp v;have y:=b9.mp y;obtain⟨o,r,t⟩:=(u k).mp #[(),()]
   refine#[o,r,t,λx i z=>?_]
   have:some (k:Int)∉a:=by simpa using h2
   exact this ((j _).mpr #[x,i,z])
  .rintro⟨o,r,t,a4⟩
   have:=(u d).mpr #[o,r,t]
   refine#[d.toNat,gE.mpr #[b9.mpr (),?_],()]
   rw[show((d.toNat:Nat):Int)=d by lia]
   simp only[abT,decide_eq_false_iff_not];intro z;obtain⟨x,i,e⟩:=(j _).mp z;exact a4 x i e
def Kc:bS:=λa P=>∃(w:W)(f:List (Option Int))(p:Nat)(d:Int),a= [aX w,ba f,ao p, .int d]/\Good w/\w.length<=14/\p<w.length/\f.length=w.length/\(∀q∈row w p,f.getD q none≠some d)/\P (.bl true)
def mM:FnOk P w Z.K mg base cg 1 T.d__law_is_free.f T.d__law_is_free.fd ["_law_turns","_law_dyeing","_law_p","_law_dye"] (aU Z Kc):=by
 have o:=mT.nd;refine aZ T.d__law_is_free.F mT [0,0,0,0] ∅ (λc R h=>by obtain⟨_,_,_,_,rfl,_⟩:=h;rfl) (λr A outer s H E c R i h=>?_)
 have t:=i.units;refine#[_,(aq (aF (qv hV (aa 3) (iw (NC:= ["_law_q","_law_dyeing"]) (src:= [none,some 1]) rfl (mE (au gR)) #[rfl,rfl,trivial] (br (aE (aa 0) (aa 2))) (λ_ _ _=>(bG 0 (show(["_law_q","_law_dyeing"]:List Str).Nodup from by decide+kernel))) (λ_ _ _=>eH) (λ_ _ _=>(aE (aa 1) (aa 0)))) (by with_unfolding_all rfl)))),?_]
 obtain⟨a,f,p,d,rfl,g,u,j,v,k,q⟩:=h;have y:=dF g p;exists _,rfl,_,rfl,_,rfl,_,fo j;refine jq (ρ:= [none,some (ba f)]) ao (λx=>oD (f.getD x none)) (row a p) _ (λx b Y l=>#[_,rfl,_,rfl,_,d6 (by have:=g.rng _ _ b;lia),l]) rfl (small ()) λB=>?_
 have m:((row a p).map λx=>oD (f.getD x none))=((row a p).map λx=>f.getD x none).map oD:=by rw[cw];rfl
 rw[m];exists rfl,nA _;have n:inD (.int d) (((row a p).map λx=>f.getD x none).map oD)=decide (some d∈(row a p).map λx=>f.getD x none):=w4 (some d) _;rw[mo rfl,n,Gc λz=>?_]
 .exact q
 .obtain⟨x,b,e⟩:=bh.mp z
  exact k x b e
def TC:bS:=λb P=>∃(w:W)(f:List (Option Int))(x:Nat)(a d:Int)(L:List Nat),b= [aX w,ba f,ao x, .int d]/\Good w/\w.length<=14/\x<w.length/\f.length=w.length/\f.getD x none\a/\L.Pairwise (·<·)/\(∀y,y∈L↔Cr w (gN f x d) x y)/\P (ba (gG f L a d))
def so:FnOk P w Z.K mg base cg 2 T.d__law_exchanged.f T.d__law_exchanged.fd ["_law_turns","_law_dyeing","_law_q","_law_dye"] (aU Z TC):=by
 have r:=kR.nd;refine aZ T.d__law_exchanged.F kR [0,0,0,0,1,0] ∅ (λN R h=>by obtain⟨_,_,_,_,_,_,rfl,_⟩:=h;rfl) (λbD A outer s H E N R t h=>?_)
 have O:=t.units
 refine#[_,(ag (c4 4 r (tx rfl rfl T.B.list fg (aa 1)))
   (ag (dh rfl FS (br (aC T.d__law_chain ((wF T).imp GO) t (ae (aa 0) (ae (aa 1) (ae (aa 2) (ae (aa 3) ah)))))) (aQ 5 r) (aq (ja false 4 (aa 5) (aW HS (aW cz (aE (aa 1) (aa 2)) (aa 3)) (aE (aa 1) (aa 5))))))
   (aq (aF (aa 4))))),?_]
 obtain⟨m,f,x,a,d,L,rfl,g,Q,G,S,n,U,I,q⟩:=h
 have X:∀y∈L,y<m.length/\(f.getD y none\a\/f.getD y none\d):=λy i=>by
  have C:=(I y).mp i;exists C.lt g G;exact C.all (M:=λy=>f.getD y none\a\/f.getD y none\d) (.inl n) λu v O hv Y=>Y.imp (λz=>z.trans n) id
 exists _,rfl;refine#[_,rfl,_,rfl,_,rfl,_,rfl,m,f,x,d,rfl,g,Q,G,S,λb Xx XA=>?_];obtain rfl:b=L:=vj Xx U λy=>(XA y).trans (I y).symm;refine bU (λj ρ=>∃(h:List (Option Int))(o:Option D),ρ= [some (aX m),some (ba f),some (ao x),some (.int d),some (ba h),o]/\h.length=f.length/\∀y,y<f.length->h.getD y none=if y∈b.take j then sw a d (f.getD y none) else f.getD y none) #[f,_,rfl,rfl,λy i=>by rw[ir (by simp)]] ?_ ?_
 .rintro j _ _ hd ⟨h,o,rfl,p,k⟩ A hA
  obtain⟨y,i,rfl⟩:=cu hd;have ym:=dY i;obtain⟨yl,yc⟩:=X y ym;have tk:b.take (j+1)=b.take j++ [y]:=by rw[uz,i];rfl
  obtain⟨c,J,hs⟩:∃c,f.getD y none\c/\sw a d (some c)\(a+d-c):=by
   rcases yc with e|e
   .refine#[a,e,?_]
    unfold sw;rw[mo rfl];congr 1;lia
   .refine#[d,e,?_]
    unfold sw
    split
    .next z=>cases z;congr 1;lia
    .rw[mo rfl];congr 1;lia
  have ax:fc (f.map oD) (x:Int)\(.int a):=by rw[d6 (),n];rfl
  have Yh:fc (f.map oD) (y:Int)\(.int c):=by rw[d6 (),J];rfl
  have ix:k4 (h.map oD).length (y:Int)\y:=by rw[aG];exact BR ()
  exists _,rfl,_,rfl,_,ax,_,rfl,_,rfl,_,rfl,_,Yh,trivial,_,rfl,_,rfl,_,y,rfl,ix;refine hA _ #[h.set y (some (a+d-c)),some (ao y),?_,by rw[cV,p],λz hz=>?_]
  .have e:ba (h.set y (some (a+d-c)))= .lst ((h.map oD).set y (.int (a+d-c))):=by unfold ba;rw[vE];rfl
   rw[e];rfl
  .rw[jc (),tk]
   by_cases e:z=y
   .subst e
    rw[mo rfl,mo (by simp),J,hs]
   .rw[ir e,k z hz]
    have:z∈b.take j++ [y]↔z∈b.take j:=by simp[e]
    by_cases l:z∈b.take j
    .rw[mo l,mo (this.mpr l)]
    .rw[ir l,ir λq3=>l (this.mp q3)]
 .rintro _ ⟨h,o,rfl,p,k⟩
  rw[aG,rD] at k
  have:h=gG f b a d:=tU (by rw[dS,p]) λy i=>by rw[jY (),k y ()]
  rw[this];exact#[_,rfl,q]
def dD(t:Str×Nat×Int):D:= .tup [.str t.1,ao t.2.1, .int t.2.2]
def Eo{P:D->Prop}(h:gj l\c)(f:(PyData.list c).depth<=64)(q:P (.bl (!l.isEmpty))):sY (.lst l) (.lst []) P:=by
 refine#[.list c, .list [],by rw[D.py,h];rfl,rfl,f,?_]
 have:PyData.eqv (.list c) (.list [])=l.isEmpty:=by
  cases l with
  |nil=>
   have:c= []:=(Da h).symm
   rw[this];decide
  |cons a l=>
   cases c with
   |nil=>
    rw[gj] at h;cases e:a.py with
    |none=>rw[e] at h;cases h
    |some x=>
     rw[e] at h;cases d:gj l with
     |none=>rw[d] at h;cases h
     |some y=>rw[d] at h;cases h
   |cons b c=>rw[PyData.eqv];rfl
 rw[mo rfl,this];exact q
def pA{l:List Int}{P:D->Prop}(q:P (.bl (!l.isEmpty))):sY (.lst (bV l)) (.lst []) P:=by
 refine Eo (jh (g:=λi=>PyData.int i) (λi=>rfl) l) ?_ (by unfold bV;rw[List.isEmpty_map];exact q)
 rw[PyData.depth]
 have:=fQ (f:=λi:Int=>PyData.int i) (k:=1) (λt=>by simp[PyData.depth]) l
 lia
def u0{l:List (Str×Nat×Int)}{P:D->Prop}(q:P (.bl (!l.isEmpty))):sY (.lst (l.map dD)) (.lst []) P:=by
 refine Eo (jh (g:=λt:Str×Nat×Int=>PyData.tuple [.str t.1, .int t.2.1, .int t.2.2]) (λi=>rfl) l) ?_ (by rw[List.isEmpty_map];exact q)
 rw[PyData.depth]
 have:=fQ (f:=λt:Str×Nat×Int=>PyData.tuple [.str t.1, .int t.2.1, .int t.2.2]) (k:=3) (λt=>by simp[PyData.depth,PyData.depthAll]) l
 lia
def P0:bS:=λc P=>∃(w:W)(f a:List (Option Int))(p m:Nat)(l:List D)(b:List (Str×Nat×Int)),c= [aX w,ba f,ao p, .int m, .lst (l++b.map dD)]/\Good w/\w.length<=14/\p<w.length/\f.length=w.length/\b.length<=30/\m<1000/\qI w f p m a l/\P (.tup [ba a,ao l.length])
def z4:FnOk P w Z.K mg base cg 3 T.d__law_done.f T.d__law_done.fd ["_law_turns","_law_dyeing","_law_p","_law_many","_law_deeds"] (aU Z P0):=by
 have I:=qV.nd;refine aZ T.d__law_done.F qV [0,0,0,0,0,0,0] ∅ (λO R h=>by obtain⟨_,_,_,_,_,_,_,rfl,_⟩:=h;rfl) (λbD A outer s H E O R c h=>?_)
 have o:=c.units
 refine#[_,(ag (aP false 5 I (aC T.d__law_free (z5 T) c (ae (aa 0) (ae (aa 1) (ae (aa 2) (ae (aa 3) ah))))))
   (ag (bq (DW.dt (wV (aK (gI o) (aa 4) (cF ah) (aT _)) (tB (aK (gI o) (aa 5) (cF ah) (aT _))))) (ag (bq (DW.dt (gY (c5 (cJ (aC T.d__law_is_deed (jf T) c (ae (aE (aa 4) av) (ae jo (ae (aH bA rfl T.B.len bz (ae (aa 0) ah)) (ae (aa 3) ah))))))) (iA (aK (gI o) (aE (aE (aa 4) av) av) (aa 2) (aT _))))) (aq (aF bY)) aM)
   (ag (bq (c5 (cJ (aC T.d__law_is_free (mM T) c (ae (aa 0) (ae (aa 1) (ae (aa 2) (ae (aE (aE (aa 4) av) av) ah))))))) (aq (aF bY)) aM)
   (aq (aF (cZ (ae (aC T.d__law_with ((pC T).imp GO) c (ae (aa 1) (ae (aa 2) (ae (aE (aE (aa 4) av) av) ah)))) (ae av ah))))))) aM)
   (ag (bq (DW.dt (gY (aK kF (aH bA rfl T.B.len bz (ae (aa 4) ah)) av (aT _)) (iA (c5 (cJ (aC T.d__law_is_deed (jf T) c (ae (aE (aa 4) av) (ae jo (ae (aH bA rfl T.B.len bz (ae (aa 0) ah)) (ae (aa 3) ah)))))))))) (aq (aF bY)) aM)
   (ag (bq (DW.dt (gY (c5 (cJ (aC T.d__law_is_deed (jf T) c (ae (aE (aa 4) av) (ae jo (ae (aH bA rfl T.B.len bz (ae (aa 0) ah)) (ae (aa 3) ah))))))) (iA (aK se (aE (aa 1) (aE (aE (aa 4) av) av)) (cZ (ae bY (ae (aE (aE (aa 4) av) av) ah))) (by with_unfolding_all rfl))))) (aq (aF bY)) aM)
   (ag (aP false 6 I (aC T.d__law_exchanged (so T) c (ae (aa 0) (ae (aa 1) (ae (aE (aE (aa 4) av) av) (ae (aE (aE (aa 4) av) av) ah))))))
   (ag (bq (DW.dt (gY (aK (gI o) (aE (aE (aa 4) av) av) (aa 2) (aT _)) (iA (c5 (cJ (aC T.d__law_is_free (mM T) c (ae (aa 0) (ae (aa 6) (ae (aa 2) (ae (aE (aE (aa 4) av) av) ah)))))))))) (aq (aF bY)) aM)
   (aq (aF (cZ (ae (aC T.d__law_with ((pC T).imp GO) c (ae (aa 6) (ae (aa 2) (ae (aE (aE (aa 4) av) av) ah)))) (ae av ah))))))))))),?_]
 obtain⟨i,f,f',p,m,l,k,rfl,g,r,C,t,tl,Q,V,q⟩:=h;have lw:(i.map aw).length=i.length:=aG _;have lt:(k.map dD).length=k.length:=aG _;refine#[_,rfl,_,rfl,_,rfl,_,rfl,i,f,p,m,rfl,g,r,C,t,Q,λn _ J=>#[trivial,?_]];cases V with
 |free d u v dl M=>
  have G:(!n.isEmpty)=true:=by
   have:=(J d).mpr #[u,v,dl,M]
   cases n with
   |nil=>cases this
   |cons _ _=>rfl
  exists _,rfl;dsimp only[Di,qP];refine#[∅,u0 (l:=("give",p,d)::k) #[_,rfl,eC ?_]]
  exists _,rfl;dsimp only[Di,qP];refine#[∅,pA #[_,rfl,?_]]
  rw[G];refine eC ?_;have e:fc ([BD p d]++k.map dD) 0\(BD p d):=oN (j:=0) rfl;refine#[_,rfl,_,e,_,rfl,_,rfl,_,p,(i.map aw).length,m,d,rfl,(),u,v,rfl,bM ?_]
  refine#[_,rfl,_,e,_,rfl,_,rfl,sZ #[_,rfl,k9 (by simp) ?_]]
  refine#[_,rfl,_,rfl,_,rfl,_,rfl,_,e,_,rfl,i,f,p,d,rfl,g,r,C,t,M,rfl,bM ?_];exact#[_,rfl,_,rfl,_,rfl,_,e,_,rfl,f,p,some d,rfl,(),by show 2<=sizeLine;decide,q]
 |gG x a d L S U N ad u v X Y L1 Lm ef=>
  have G:(!n.isEmpty)=false:=by
   cases n with
   |nil=>rfl
   |cons b n=>
    obtain⟨b0,bm,bl,bn⟩:=(J b).mp (bF ..);obtain⟨z,hz,ez⟩:=S b b0 bm;exact absurd ez (bn z hz)
  exists _,rfl;dsimp only[Di,qP];refine#[∅,u0 (l:=("exchange",x,d)::("give",p,a)::k) #[_,rfl,eC ?_]]
  exists _,rfl;dsimp only[Di,qP];refine#[∅,pA #[_,rfl,?_]]
  rw[G];refine bM ?_;have e:fc ([I0 x d,BD p a]++k.map dD) 0\(I0 x d):=oN (j:=0) rfl;have y:fc ([I0 x d,BD p a]++k.map dD) 1\(BD p a):=oN (j:=1) rfl;have ll:([I0 x d,BD p a]++k.map dD).length=k.length+2:=by rw[cA,lt];simp only[b8,iW];lia
  have ax:fc (f.map oD) (x:Int)\(.int a):=by rw[d6 (),N];rfl
  refine#[_,rfl,_,rfl,k9 (Gc ()) ?_]
  refine#[_,rfl,_,e,_,rfl,_,rfl,_,x,(i.map aw).length,m,d,rfl,(),u,v,rfl,bM ?_]
  refine#[_,rfl,_,y,_,rfl,_,rfl,_,p,(i.map aw).length,m,a,rfl,(),X,Y,rfl,bM ?_]
  refine#[_,rfl,_,rfl,_,e,_,rfl,_,ax,_,rfl,_,e,_,rfl,by show 2<=sizeLine;decide,rfl,rfl,_,rfl,k9 ?_ ?_]
  .rw[ir cP]
   show inD (.int a) [.bC, .int d]=false;simp[inD,iC,ad,Ne.symm ad]
  exists _,rfl,_,rfl,_,rfl,_,e,_,rfl,_,rfl,_,e,_,rfl,i,f,x,a,d,L,rfl,g,r,U,t,N,L1,Lm,trivial;refine#[_,rfl,_,y,_,rfl,_,rfl,sZ #[_,rfl,k9 (by simp) ?_]]
  refine#[_,rfl,_,rfl,_,rfl,_,rfl,_,y,_,rfl,i,gG f L a d,p,a,rfl,g,r,C,by rw[dS,t],ef,rfl,bM ?_]
  exact#[_,rfl,_,rfl,_,rfl,_,y,_,rfl,gG f L a d,p,some a,rfl,by rw[dS];lia,by show 2<=sizeLine;decide,q]
variable {P:Program} {w:World} {mg:Str->Option Value} {base:Heap} {Z:DC} (T:Txt Z mg)
def P6:bS:=λa P=>∃(w:W)(L:List Nat),a= [aX w,aw L]/\Good w/\w.length<=14/\L.length=w.length/\Bi w L/\P (.bl true)
def tT:FnOk P w Z.K mg base cg 2 T.d__law_is_order.f T.d__law_is_order.fd ["_law_turns","_law_order"] (aU Z P6):=by
 have c:=lE.nd;refine aZ T.d__law_is_order.F lE [0,0,0] ∅ (λu R h=>by obtain⟨_,_,rfl,_⟩:=h;rfl) (λbD A outer s H E u R k h=>?_)
 have m:=k.units
 refine#[_,(ag (bq (DW.dt (gY (c5 (cJ (jW "list" (aa 1) rfl T.B.isinstance rfl T.B.list fg))) (iA (aK (gI m) (iw (NC:= ["_law_p"]) (src:= [none]) rfl (mE (au fq)) trivial (br (aa 1)) (λ_ _ _=>(bG 0 (show(["_law_p"]:List Str).Nodup from by decide+kernel))) (λ_ _ _=>(gK (c5 (cJ (aC T.d__law_whole (iJ T) k (ae (aa 0) ah)))))) (λ_ _ _=>(aa 0))) (cF ah) (aT _))))) (aq (aF gU)) aM)
   (ag (bq (aK (gI m) (aH ID rfl T.B.sorted i8 (ae (aa 1) ah)) (gW (IC rfl) rfl T.B.list fg (ae (gW C8 rfl T.B.range Af (ae (aH bA rfl T.B.len bz (ae (aa 0) ah)) ah)) ah)) (aT _)) (aq (aF gU)) aM)
   (ag (jB rfl FS (gd rfl T.B.range (ae (aH bA rfl T.B.len bz (ae (aa 1) ah)) ah)) (aQ 2 c) (aq (bq (aK Gp (aH bA rfl T.B.len bz (ae (iw (NC:= ["_law_q","_law_order","_law_k"]) (src:= [none,some 1,some 2]) rfl (mE (au fq)) #[rfl,rfl,rfl,rfl,trivial] (br (aE (aa 0) (aE (aa 1) (aa 2)))) (λ_ _ _=>(bG 0 (show(["_law_q","_law_order","_law_k"]:List Str).Nodup from by decide+kernel))) (λ_ _ _=>(gK (aK se (aa 0) (fh (aa 1) (gb (aa 2)) f9) (by with_unfolding_all rfl)))) (λ_ _ _=>(aa 0))) ah)) av (aT _)) (aq (aF gU)) aM)))
   (aq (aF gU))))),?_]
 obtain⟨a,L,rfl,g,eV,lL,O,q⟩:=h;have lw:(a.map aw).length=a.length:=aG _;have v:(L.map ao).length=L.length:=aG _;obtain⟨c,o,few⟩:=O;refine#[_,rfl,rfl,rfl,bM ?_];exists _,rfl;refine fM (ρ:= [none]) ao (λ_=>false) ao L _ [] _ (λx p Y C r d=>#[_,rfl,_,rfl,rfl,d rfl]) #[none,rfl] (small (by rw[iW];lia)) λG=>?_
 rw[lP,show(L.filter λ_=>false)= [] by simp]
 refine#[∅,pA (l:= []) #[_,rfl,bM ?_]]
 refine#[_,rfl,L.map λ(n:Nat)=>(n:Int),by rw[cw];rfl,by rw[aG];lia,λks I J=>?_]
 obtain⟨M,N,Q,S⟩:=uT I J c;rw[N];have U:M=ac a.length:=vj Q zH λx=>by rw[S.mem_iff,<-o x,b9]
 refine#[_,rfl,_,rfl,_,_,rfl,#[∅,∅,(),(),()],?_]
 rw[show(((a.map aw).length:Int)-0).toNat=a.length by lia,kK]
 refine xN #[_,rfl,k9 (by rw[U];simp) ?_]
 refine#[_,rfl,#[(),by show((L.map ao).length:Int)<2^62;lia],?_]
 rw[show(((L.map ao).length:Int)).toNat=L.length by lia]
 refine g9 (λj ρ=>∃i,ρ= [some (aX a),some (aw L),i]) #[none,rfl] ?_ ?_
 .rintro j _ b ⟨i,rfl⟩ A X
  have jm:L.getD j 0∈L:=getD_mem b;have jl:=(o _).mpr jm;have rl:=dF g (L.getD j 0);exists _,rfl,_,rfl,_,rfl,_,gM b,_,fo jl;have cd:cutD (L.map ao) (some (j:Int)) none=(L.drop j).map ao:=by rw[ko _ _ (by rw[v];lia),aba]
  have t:L.drop j=L.getD j 0::L.drop (j+1):=by
   rw[bK,cv b];exact mY b
  have f5:=few (L.take j) (L.getD j 0) (L.drop (j+1)) (by rw[<-t,iT])
  refine fM (ρ:= [none,some (aw L),some (ao j)]) ao (λq=>decide (q∈L.drop j)) ao (row a (L.getD j 0)) _ [] _ (λy hy Y C r d=>?_) #[none,rfl] (small (by rw[iW];lia)) λG=>?_
  .refine#[_,rfl,_,rfl,_,rfl,?_]
   dsimp only[ao,Dj,aw];rw[cd];exists rfl,cR _,_,rfl;rw[ir cP,show D.int (y:Int)=ao y from rfl,iH];exact bO (λe=>#[_,rfl,r e]) (λe=>d e)
  .have ef:((row a (L.getD j 0)).filter λq=>decide (q∈L.drop j))=(row a (L.getD j 0)).filter λq=>decide (q∈L.drop (j+1)):=by
    refine List.filter_congr λx p=>?_
    have:x≠L.getD j 0:=λz=>g.irr _ (z▸p)
    rw[t];exact aaC.mpr #[λh=>(bu.mp h).resolve_left this,cm _]
   rw[lP,ef];have lf:(((row a (L.getD j 0)).filter λq=>decide (q∈L.drop (j+1))).map ao).length=((row a (L.getD j 0)).filter λq=>decide (q∈L.drop (j+1))).length:=aG _;refine#[_,rfl,k9 (Gc ()) (X _ #[_,rfl])]
 .rintro _ ⟨i,rfl⟩
  exact q
def qI.tri{w:W}{l:List D}(h:qI w f p m b l):∃c:List (Str×Nat×Int),l=c.map dD:=by
 cases h with
 |free d=>exact#[[("give",p,d)],rfl]
 |gG x a d=>exact#[[("exchange",x,d),("give",p,a)],rfl]
theorem sT.tri{w:W}{T:List D}(h:sT w f d T c):∃e:List (Str×Nat×Int),T=e.map dD:=by
 induction h with
 |nil f=>exact#[[],rfl]
 |cons g _ i=>
  obtain⟨a,rfl⟩:=g.tri;obtain⟨b,rfl⟩:=i;exact#[a++b,by rw[cW]]
def qI.gl{w:W}(h:qI w f p m b l):b.length=f.length:=by
 cases h with
 |free d=>rw[cV]
 |gG x a d=>rw[cV,dS]
def P8:bS:=λa P=>∃(w:W)(L:List Nat)(T:List D)(f:List (Option Int)),a= [aX w,aw L, .lst T]/\Good w/\1<=w.length/\w.length<=14/\L.length=w.length/\(∀x∈L,x<w.length)/\T.length<=28/\sT w (aj w.length none) L.reverse T f/\P (ba f)
def wH:FnOk P w Z.K mg base cg 4 T.d__law_walked.f T.d__law_walked.fd ["_law_turns","_law_order","_law_deeds"] (aU Z P8):=by
 have c:=n0.nd;refine aZ T.d__law_walked.F n0 [0,0,0,0,0,0,0] ∅ (λx R h=>by obtain⟨_,_,_,_,rfl,_⟩:=h;rfl) (λbD A outer s H E x R t h=>?_)
 have y:=t.units
 refine#[_,(ag (aP false 3 c (aW j3 (cF (ae bY ah)) (aH bA rfl T.B.len bz (ae (aa 0) ah))))
   (ag (aP false 4 c (gW sW rfl T.B.list fg (ae (aa 2) ah)))
   (ag (dh rfl FS (Hx rfl T.B.reversed (ae (aa 1) ah)) (aQ 5 c) (ag (aP false 6 c (aC T.d__law_done (z4 T) t (ae (aa 0) (ae (aa 3) (ae (aa 5) (ae av (ae (aa 4) ah)))))))
   (ag (bq (aK sh (aa 6) bY (aT _)) (aq (aF bY)) aM)
   (ag (aP false 3 c (aE (aa 6) av))
   (aq (aP false 4 c (fh (aa 4) (gb (aE (aa 6) av)) f9)))))))
   (ag (bq (aK (gI y) (aa 4) (cF ah) (aT _)) (aq (aF bY)) aM)
   (aq (aF (aa 3))))))),?_]
 obtain⟨a,L,T,f,rfl,g,l1,z,lL,C,G,K,q⟩:=h;have lw:(a.map aw).length=a.length:=aG _
 have I:(aj a.length [D.bC]).flatten=(aj a.length (none:Option Int)).map oD:=by
  rw[List.map_replicate];generalize a.length=n
  induction n with
  |zero=>rfl
  |succ n J=>rw[wj,jG,J];rfl
 refine#[by show 1<=sizeLine;decide,_,rfl,(),(),by show 1*_<=sizeLine;exact small (),trivial,?_]
 exists _,rfl;exists trivial;exists _,rfl;have M:(L.map ao).reverse=L.reverse.map ao:=by rw[vB]
 refine(?_:iE _ _ _ (L.map ao).reverse _);rw[M];refine bU (λj N=>∃(h:List (Option Int))(d:List D)(k m:Option D),N= [some (aX a),some (aw L),some (.lst T),some (ba h),some (.lst d),k,m]/\h.length=a.length/\d.length<=28/\sT a h (L.reverse.drop j) d f) #[aj a.length none,T,none,none,?_,zD,G,K] ?_ ?_
 .have e:ba (aj a.length none)= .lst (aj (((a.map aw).length:Int)).toNat [D.bC]).flatten:=by
   rw[show(((a.map aw).length:Int)).toNat=a.length by lia,I];rfl
  rw[e];rfl
 .rintro j _ _ O ⟨h,d,k,m,rfl,o,r,i⟩ A Q
  obtain⟨p,u,rfl⟩:=cu O;have S:p∈L:=qt.mp (dY u);have U:=C p S
  have X:L.reverse.drop j=p::L.reverse.drop (j+1):=by
   obtain⟨Y,e⟩:=df.mp u;rw[mY Y,e]
  rw[X] at i;cases i with
  | @cons _ h2 _ _ l T2 _ V v=>
  obtain⟨b,rfl⟩:=v.tri;have lt:(b.map dD).length=b.length:=aG _;have ll:=cA (as:=l) (bs:=b.map dD);refine#[_,rfl,_,rfl,_,rfl,_,rfl,a,h,h2,p,5,l,b,rfl,g,z,U,o,(),∅,V,trivial,?_]
  refine#[_,rfl,_,rfl,bM ?_];exists _,rfl,_,rfl,trivial;exists _,rfl,_,rfl,_,rfl,trivial;have cd:cutD (l++b.map dD) (some (l.length:Int)) none=b.map dD:=by rw[ko _ _ (by rw[ll];lia),List.drop_left]
  rw[cd];exact Q _ #[h2,b.map dD,some (ao p),some (.tup [ba h2,ao l.length]),rfl,V.gl.trans o,(),v]
 .rintro _ ⟨h,d,k,m,rfl,o,r,i⟩
  rw[aG,zC (aY _)] at i;cases i;exists _,rfl;refine#[∅,u0 (l:= []) #[_,rfl,bM ?_]]
  exact#[_,rfl,q]
end oH
namespace L2
open PySem PySem.Spec PyProof PyProof.Rows
def Bn 
  (g:Q (newEnv a s.heap.objs.size b (cellsFrom (s.heap.objs.size+1) a.names c) e none .none (some d) builtinsNs) {s with heap:=pushCells (s.heap.push {cls:= .type "dict",data:= .dict #[]}) a.names}):
  wpAny M A (newFunctionEnv a b c [] e none .none (some d)) Q E s:=by
 simp only[newFunctionEnv,Option.isSome_some,aal];refine wpAny_bind (wpAny_alloc ?_);refine wpAny_bind (wpAny_layCells _ (λf kind cells=>by cases h:kind==NameKind.cell<;>simp[h]) _ _ _ _ ?_)
 rw[show({s with heap:=s.heap.push {cls:= .type "dict",data:= .dict #[]}}:Shared).heap.objs.size=s.heap.objs.size+1 from aax ..]
 rw[List.forIn_nil];exact wpAny_bind (be (be g))
theorem rH:∀(names:List (Str×NameKind))(n:Nat)(acc:List (Str×Addr)),(∀x y c,acc.lookup x\c->acc.lookup y\c->x=y)->(∀x c,acc.lookup x\c->c<n)->
  ∀x y c,(cellsFrom n names acc).lookup x\c->(cellsFrom n names acc).lookup y\c->x=y
 | [],_,_,h,_=>h
 | (d,kind)::r,n,acc,h,f=>by
  unfold cellsFrom
  split
  .have j:∀x c,bv x ((d,n)::acc)\c->(x=d/\c=n)\/(x≠d/\acc.lookup x\c):=λx c e=>by
    rw[lN] at e;cases g:x==d with
    |true=>rw[g] at e;exact .inl #[by simpa using g,(Da e).symm]
    |false=>rw[g] at e;exact .inr #[by simpa using g,e]
   refine rH r (n+1) ((d,n)::acc) (λx y c l m=>?_) λx c e=>?_
   .rcases j x c l with ⟨a,b⟩ | ⟨a,b⟩<;>rcases j y c m with ⟨k,i⟩ | ⟨k,i⟩
    .rw[a,k]
    .exact absurd (f y c i) (by rw[b];exact lQ _)
    .exact absurd (f x c b) (by rw[i];exact lQ _)
    .exact h x y c b i
   .rcases j x c e with ⟨_,b⟩ | ⟨_,b⟩
    .rw[b];exact vx _
    .exact qs (f x c b)
  .exact rH r n acc h f
theorem rJ:∀(names:List (Str×NameKind))(h:Heap)(acc:List (Str×Addr))(x:Str)(c:Addr),(cellsFrom h.objs.size names acc).lookup x\c->
  acc.lookup x\c\/(h.objs.size<=c/\(x,NameKind.cell)∈names/\(pushCells h names).IsCell c none)
 | [],_,_,_,_,e=> .inl e
 | (a,kind)::r,h,acc,x,c,e=>by
  unfold cellsFrom at e;unfold pushCells
  split at e
  .next b=>
   rw[mo b];have j:kind= .cell:=by simpa using b
   have:=rJ r (h.push {cls:= .type "cell",data:= .cell none}) ((a,h.objs.size)::acc) x c (by rw[aax];exact e)
   rcases this with z| ⟨d,f,g⟩
   .rw[lN] at z
    cases i:x==a with
    |true=>
     rw[i] at z;have k:=Da z;have l:x=a:=by simpa using i
     subst k l j;exact .inr #[aY _,bF,_,abw r _ _ _ (GE _ rfl),rfl]
    |false=>rw[i] at z;exact .inl z
   .rw[aax] at d
    exact .inr #[Nat.le_of_succ_le d,cm _ f,g]
  .next b=>
   rw[ir b]
   rcases rJ r h acc x c e with z| ⟨d,f,g⟩
   .exact .inl z
   .exact .inr #[d,cm _ f,g]
theorem m6:∀(names:List (Str×NameKind))(n:Nat)(acc:List (Str×Addr))(x:Str),((x,NameKind.cell)∈names\/∃c,acc.lookup x\c)->∃c,(cellsFrom n names acc).lookup x\c
 | [],_,_,_,h=>h.elim (λz=>by cases z) id
 | (a,kind)::r,n,acc,x,h=>by
  unfold cellsFrom
  split
  .refine m6 r (n+1) _ x ?_
   by_cases e:x=a
   .subst e;exact .inr #[n,by simp[lN]]
   .have ne:(x==a)=false:=by simpa using e
    rcases h with h| ⟨c,h⟩
    .rcases bu.mp h with z|z
     .cases z;exact absurd rfl e
     .exact .inl z
    .exact .inr #[c,by rw[lN,ne];exact h]
  .next b=>
   refine m6 r n acc x ?_
   rcases h with h|h
   .rcases bu.mp h with z|z
    .cases z;exact absurd rfl b
    .exact .inl z
   .exact .inr h
structure fG (X:Cx) (scope:Scope):Prop where
 kind:scope.kind= .function
 names:∀x∈scope.names,x.2= .local->scope.names.lookup x.1\.local
 uniq:∀x∈scope.names,x.2= .free->scope.names.lookup x.1\.free
 own:∀x∈scope.names,x.2= .cell->scope.names.lookup x.1\.cell
 free:∀x∈scope.names,x.2= .free->X.env.kindOf x.1\.cell\/X.env.kindOf x.1\.free
def rK(X:Cx)(a:Scope)(NC:List Str)(ex:List Addr)(s:Shared)(H:Hp):Cx:=
 {X with N:=NC,s₀:=s,H₀:=H,env:=compEnvC a (cellsFrom (s.heap.objs.size+1) a.names (fV X.env a.names [])) s.heap.objs.size X.env,outer:=X.stack,stack:=X.stack,ex:=ex,fn:=λx=>a.names.lookup x==some .cell,pn:= [],xe:=λ_ _=>False}
theorem uH:∀(names:List (Str×NameKind))(a:List (Str×Addr))(x:Str)(c:Addr),(fV env names a).lookup x\c->(x,NameKind.free)∈names\/a.lookup x\c
 | [],_,_,_,h=> .inr h
 | (n,k)::r,a,x,c,h=>by
  rw[fV] at h
  split at h
  .next d=>
   have e:k= .free:=by simpa using d
   rcases uH r _ x c h with z|z
   .exact .inl (cm _ z)
   .rw[lN] at z
    cases b:x==n with
    |true=>
     have:x=n:=by simpa using b
     subst this e;exact .inl bF
    |false=>rw[b] at z;exact .inr z
  .rcases uH r a x c h with z|z
   .exact .inl (cm _ z)
   .exact .inr z
section
variable {X:Cx} {pins:List (Addr×Obj)} {σ:St} {H:Hp} {s:Shared} {scope:Scope} {NC:List Str} {ex:List Addr} {src:List (Option Nat)}
theorem fG.cells(c:fG X scope)(ok:X.Ok):∀x∈scope.names,x.2= .free->∃c,X.env.cells.lookup x.1\c:=λx a e=>ok.has x.1 (c.free x a e)
def fG.F7(c:fG X scope)(h:(compEnvC scope g C X.env).kindOf x\k)(i:k= .cell\/k= .free):scope.names.lookup x\.free\/scope.names.lookup x\.cell:=by
 have a:(relabel scope X.env).names.lookup x\k:=h;unfold relabel at a;rw[dA] at a;cases e:scope.names.lookup x with
 |none=>rw[e] at a;cases a
 |some b=>
  rw[e] at a;have f:(if (b==NameKind.free&&X.env.scope.kind== .function&&X.env.kindOf x==some .cell) then NameKind.cell else b)=k:=Da a
  by_cases d:b= .free
  .rw[d];exact .inl rfl
  .have j:(b==NameKind.free)=false:=by simpa using d
   rw[j,zA,zA,ir cP] at f
   rcases i with z|z
   .rw[f,z];exact .inr rfl
   .rw[f] at d;exact absurd z d
theorem fG.cell(c:fG X scope)(I:Inv X pins σ H s)(h:(cellsFrom (s.heap.objs.size+1) scope.names (fV X.env scope.names [])).lookup x\d):
  (scope.names.lookup x\.free/\X.env.cells.lookup x\d/\d<s.heap.objs.size)\/(scope.names.lookup x\.cell/\s.heap.objs.size<d/\(pushCells (s.heap.push {cls:= .type "dict",data:= .dict #[]}) scope.names).IsCell d none):=by
 have b:(cellsFrom (s.heap.push {cls:= .type "dict",data:= .dict #[]}).objs.size scope.names (fV X.env scope.names [])).lookup x\d:=by rw[aax];exact h
 rcases rJ _ _ _ x d b with z| ⟨a,f,g⟩
 .have e:=cY _ _ (c.cells I.ok) (λ_ _ z=>by cases z) x d z
  rcases uH _ _ x d z with y|y
  .obtain⟨v,i⟩:=I.cell x d e
   exact .inl #[c.uniq _ y rfl,e,i.lt]
  .cases y
 .rw[aax] at a
  exact .inr #[c.own _ f rfl,a,g]
def IH(I:Inv X pins σ H s)(c:fG X scope)(g:∀b∈ex,dQ X pins H b)(i:∀b∈ex,b<s.heap.objs.size):(rK X scope NC ex s H).Ok where
 mod:=I.ok.mod
 kind:=c.kind
 glob:=I.ok.glob
 blt:=I.ok.blt
 above:=aY _
 inj:=rH _ _ _ (λx y d j k=>I.ok.inj x y d (cY _ _ (c.cells I.ok) (λ_ _ z=>by cases z) x d j) (cY _ _ (c.cells I.ok) (λ_ _ z=>by cases z) y d k)) λx d h=>by
  obtain⟨v,l⟩:=I.cell x d (cY _ _ (c.cells I.ok) (λ_ _ z=>by cases z) x d h)
  exact qs l.lt
 has:=λx f=>m6 _ _ _ x (by
  have:scope.names.lookup x\.free\/scope.names.lookup x\.cell:=by rcases f with h|h<;>exact c.F7 h (by simp)
  rcases this with z|z
  .exact .inr (j9 _ _ x (.inl (mem_lookup z)))
  .exact .inl (mem_lookup z))
 cab:=λx d f e=>by
  have f:(scope.names.lookup x==some .cell)=true:=f
  rcases c.cell I e with ⟨z,_⟩ | ⟨_,z,_⟩
  .rw[z] at f;cases f
  .exact qk z
 hd:=I.ok.hd
 frames:=I.ok.frames
 stk:= .inl rfl
 exf:=λb a=>#[bP (i b a),λx d e=>by
  rcases c.cell I e with ⟨_,z,_⟩ | ⟨_,z,_⟩
  .exact(g b a).2.2.2.2.1 x d z
  .exact λy=>absurd (i b a) (by rw[<-y];exact Nat.not_lt_of_lt z)]
 bs:=I.bs
 bsz:=i5 I.ok.bsz I.sz
 noex:=λb o e a=>by
  rcases(g b a).2.2.2.1 with z|z
  .exact I.ok.noex b o e z
  .exact absurd (iU (Fk e) (i5 I.ok.bsz z)) (lQ _)
 exfs:=λb a z=>(bu.mp (I.xh b z)).elim (g b a).2.1 (g b a).2.2.1
 funs:=I.stack
 frf:=I.zg
end
section
variable {X:Cx} {pins:List (Addr×Obj)} {σ:St} {H:Hp} {s:Shared} {scope:Scope} {NC:List Str} {ex:List Addr} {src:List (Option Nat)}
theorem Fo{tk:Nat}(I:Inv X pins σ H s)(c:fG X scope)(w:c8 scope X.N src NC)(B:∀b∈ex,dQ X pins H b)(C:∀b∈ex,b<s.heap.objs.size):
  Inv (rK X scope NC ex s H) [] (iQ src σ) H {s with heap:=pushCells (s.heap.push {cls:= .type "dict",data:= .dict #[]}) scope.names,toks:=tk}:=by
 have f:∀b o,s.heap.get? b\o->(pushCells (s.heap.push {cls:= .type "dict",data:= .dict #[]}) scope.names).get? b\o:=λb o e=>abw _ _ b o (AC _ e);have E:=(Heap.Ns.new s.heap (.type "dict")).keeps (abw scope.names _);have a:∀d v,s.heap.IsCell d v->(pushCells (s.heap.push {cls:= .type "dict",data:= .dict #[]}) scope.names).IsCell d v:=λd v #[o,F,h]=>#[o,f d o F,h];refine#[IH I c B C,rfl,I.bare,Un.kept f,#[_,E,λj x v G J Q=>?_],λx d e=>?_,I.hok.fresh (aY _),λx d e=>?_,λp L=>absurd (show p∈([]:List (Addr×Obj)) from L) (by simp),I.hok.kept f,?_]
 .have g:(iQ src σ)[j]?\(some v):=J
  unfold iQ at g;rw[bW] at g;cases t:src[j]? with
  |none=>rw[t] at g;cases g
  |some o=>
   rw[t] at g;cases o with
   |none=>cases g
   |some i=>
    have k:(σ[i]?).bind id\v:=Da g
    have M:σ[i]?\(some v):=by
     cases q:σ[i]? with
     |none=>rw[q] at k;cases k
     |some z=>rw[q] at k;exact GM some k
    obtain⟨O,n⟩:=w.at t G;have A:=c.free _ (mem_lookup n) rfl;obtain⟨m,R,P⟩:=I.loc;obtain⟨u,r,l⟩:=P i x v O M (A.elim (λz=> .inr (.inl z)) (λz=> .inr (.inr z)));refine#[u,r, .inr #[?_,?_]]
    .show(relabel scope X.env).names.lookup x=_\/(relabel scope X.env).names.lookup x=_
     unfold relabel;rw[dA,n]
     by_cases z:(NameKind.free==NameKind.free&&X.env.scope.kind== .function&&X.env.kindOf x==some .cell)=true
     .left;simp only[Option.map_some,z,aal]
     .right;simp only[Option.map_some,z];rfl
    .obtain⟨d,h⟩:=m6 scope.names (s.heap.objs.size+1) (fV X.env scope.names []) x (.inr (j9 (env:=X.env) scope.names [] x (.inl (mem_lookup n))))
     exists d,h
     rcases c.cell I h with ⟨_,y,_⟩ | ⟨y,_⟩
     .rcases l with ⟨l,_⟩ | ⟨_,S,e,z⟩
      .exfalso;rcases A with z|z<;>(rw[l] at z;cases z)
      .rw[y] at e;cases e;exact a d _ z
     .rw[n] at y;cases y
 .rcases c.cell I e with ⟨_,y,_⟩ | ⟨_,_,y⟩
  .obtain⟨v,z⟩:=I.cell x d y
   exact#[v,a d v z]
  .exact#[none,y]
 .rcases c.cell I e with ⟨_,y,_⟩ | ⟨_,y,_⟩
  .exact I.freeC x d y
  .exact I.hok.fresh (qk y)
 .show(iQ src σ).length=NC.length
  unfold iQ;rw[aG];exact w.len
def Dd(I:Inv X pins σ H s)(p:∀b∈ex,dQ X pins H b)(J:Inv (rK X scope NC ex s H) m l g c)
  (r:Heap.SameBut s.heap.objs.size c.heap i):Inv X pins σ g {c with heap:=i}:=by
 have h:∀b o,b≠s.heap.objs.size->c.heap.get? b\o->i.get? b\o:=λb o a e=>r.extBut b o a e;have ne:∀b o,s.heap.get? b\o->b≠s.heap.objs.size:=λb o e=>bP (Fk e);have u:=J.base;refine I.KI (ch:=ex) (show c.os=s.os from J.os) #[λb o e n a f=>h b o (ne b o e) (u.keep b o e n a f),λb o e n a f=>?_,u.free,λb o e f=>?_,u.tups,u.frzs,u.tbls] ?_ J.bare λb a=>?_
 .obtain⟨t,q⟩:=u.slot b o e n a f
  exact#[t,h b _ (ne b o e) q]
 .obtain⟨j,q⟩:=u.there b o e f
  exact#[j,h b j (ne b o e) q]
 .intro b o e
  have k:∀b o,g b\o->b≠s.heap.objs.size:=λb o e z=>by
   have:=J.free
   rw[z] at e;have w:g s.heap.objs.size=none:=this;rw[w] at e;cases e
  refine(J.hok b o e).qe (λd v x q=>h d v ?_ q) (λ_ q=>q) λ_ _ q=>q
  rcases x with z|z
  .rw[z];exact k b o e
  .exact k d _ z
 .obtain⟨_,y,_,A,B,C⟩:=p b a
  exact#[A,y,B,C]
end
section
variable {X:Cx} {elt iter tg:Expr} {ifs:List Expr} {scope:Scope} {pos:Pos} {wi:TI} {g:TG} {tt:TT} {te:TE} {src:List (Option Nat)} {NC:List Str}
theorem Bp{RR:Value->Addr->Result->Shared->Prop}{Q:VK}
  (hc:X.calm=true) (c:fG X scope) (dB:c8 scope X.N src NC) (I2:Inv X j σ I l) (T:Turn X.prog X.w X.K tg J F it Z) (iZ:Z 0 l.heap) (f2:∀b∈F,dQ X j I b)
  (hg:∀s H,PG (rK X scope NC F s H) tg g) (ht:∀s H,kY (rK X scope NC F s H) ifs tt) (he:∀s H,PE (rK X scope NC F s H) elt te)
  (hW:∀D,I D=none->∃W:Nat->Nat->St->Hp->Prop,(∃m,W 0 m (iQ src σ) (upd I D (.lst [])))/\∀i m eO I,W i m eO I->
   (J.stop i I/\Q (.ref D) I)\/
   (J.go i I/\∃N:St->Hp->Prop,(∀G a,N G a->∃m',m'<m/\W (i+1) m' G a)/\∀x U,J.yld i I x U->g x eO U λfw H4=>tt fw H4 λb H5=>
    if b=true then te fw H5 λv H6=>∃ys,H6 D\(.lst ys)/\ys.length<sizeLine/\N fw (upd H6 D (.lst (ys++ [v]))) else N fw H5))
  (FG:∀D C U G a M,Inv X j σ U C->(∀b∈F,dQ X j U b)->Inv (rK X scope NC F C U) [] G a M->Q (.ref D) a->RR (.ref D) C.heap.objs.size (.ok .next) M):
  wpAny (model X.prog X.w) X.A (newList []) (λacc zj=>wpAny (model X.prog X.w) X.A (newFunctionEnv scope X.env.globals (fV X.env scope.names []) [] X.env.qual none .none (some X.env)) (λjA qf=>
   codeAny (model X.prog X.w) X.A (.compStart (.ListComp elt [#[tg,iter,ifs,0]] scope pos) 0 (.ref it) acc {jA with scope:=relabel scope X.env}) (RR acc jA.locals) qf) E zj) E l:=by
 rfl';obtain⟨W,⟨m0,w0⟩,turn⟩:=hW l.heap.objs.size I2.fresh;have I3:Inv X j σ (upd I l.heap.objs.size (.lst [])) {l with heap:=l.heap.push {cls:= .type "list",data:= .seq ([]:List Value).toArray}}:=I2.Ed (its:= []) (t':=l.toks) .nil (dZ _)
 ac_rfl
 have Mf:∀b∈F,b<l.heap.objs.size:=λb B=>by
  obtain⟨o,e,_⟩:=T.obj _ _ iZ b B;exact Fk e
 have f3:∀b∈F,dQ X j (upd I l.heap.objs.size (.lst [])) b:=λb B=>#[by rw[aN (bP (Mf b B))];exact(f2 b B).1,(f2 b B).2]
 refine M2 ?_
 suffices key:∀C:Shared,Inv X j σ (upd I l.heap.objs.size (.lst [])) C->(∀b o,l.heap.get? b\o->C.heap.get? b\o)->
   wpAny (model X.prog X.w) X.A (newFunctionEnv scope X.env.globals (fV X.env scope.names []) [] X.env.qual none .none (some X.env)) (λjA qf=>
    codeAny (model X.prog X.w) X.A (.compStart (.ListComp elt [#[tg,iter,ifs,0]] scope pos) 0 (.ref it) (.ref l.heap.objs.size) {jA with scope:=relabel scope X.env}) (RR (.ref l.heap.objs.size) jA.locals) qf) E C from
  key _ I3 λb o e=>AC _ e
 intro C I3 NP;have sF:Z 0 C.heap:=T.keep _ _ _ iZ λb _ o e=>NP b o e
 have zV:∀b∈F,b<C.heap.objs.size:=λb B=>by
  obtain⟨o,e,_⟩:=T.obj _ _ sF b B;exact Fk e
 generalize Va:upd I l.heap.objs.size (.lst [])=U at I3 f3 w0;refine Bn ?_;have I4:=Fo (src:=src) (NC:=NC) (ex:=F) (tk:=C.toks) I3 c dB f3 zV;have ET:Z 0 (pushCells (C.heap.push {cls:= .type "dict",data:= .dict #[]}) scope.names):=T.keep _ _ _ sF λb B o e=>abw _ _ b o (AC _ e);generalize L:rK X scope NC F C U=k at I4
 have R:∀{a:Hp},(∀b∈F,a b=none)->∀b∈F,dQ k [] a b:=λ {a} hn b B=>by
  subst L;refine#[hn b B,bP (zV b B),λz=>?_, .inl B,λx d e=>?_,λp hp=>absurd (show p∈([]:List (Addr×Obj)) from hp) (by simp)]
  .exact(I4.ok.exfs b B) z
  .exact(I4.ok.exf b B).2 x d e
 have loop:codeAny (model X.prog X.w) X.A (.compLoop (.ListComp elt [#[tg,iter,ifs,0]] scope pos) 0 (.ref it) (.ref l.heap.objs.size) k.env) (RR (.ref l.heap.objs.size) C.heap.objs.size)
   {C with heap:=pushCells (C.heap.push {cls:= .type "dict",data:= .dict #[]}) scope.names,toks:=C.toks}:=by
  refine ab2 rfl (λn M=>∃i G a,Inv k [] G a M/\Z i M.heap/\(∀b∈F,a b=none)/\W i n G a) (λn M hI=>?_) m0 #[0,_,_,I4,ET,λb B=>(f3 b B).1,w0];obtain⟨i,G,a,I5,sH,uN,w5⟩:=hI;show wpAny _ X.A ((compTurn (.ListComp elt [#[tg,iter,ifs,0]] scope pos) 0 (.ref it) (.ref l.heap.objs.size) k.env).onRaise (λx=>do noteFrame x k.env;theTreesLotGoes x)) _ _ M
  refine acp ?_;rw[compTurn_list]
  have jN:∀{α:Type}{t:Sem α}{Q:α->Shared->Prop}{E:Value->Shared->Prop}{s:Shared},wpAny (model k.prog k.w) k.A t Q k.xe s->wpAny (model X.prog X.w) X.A t Q E s:=λ {α t Q E s} h=>by
   subst L;exact wpAny_mono h (λ_ _ q=>q) λ_ _ f=>f.elim
  have BE:k.calm=true:=by subst L;exact hc
  have eP:k.prog=X.prog:=by subst L;rfl
  have ew:k.w=X.w:=by subst L;rfl
  have eK:k.K=X.K:=by subst L;rfl
  have eA:k.A=X.A:=by subst L;rfl
  have LM:PG k tg g:=by subst L;exact hg _ _
  have LY:kY k ifs tt:=L▸ht _ _;have LK:PE k elt te:=L▸he _ _;refine wpAny_bind (aan (wpAny_bind ?_))
  rcases turn i n G a w5 with ⟨stop,qn⟩ | ⟨go,N,hN,step⟩
  .have hd:=T.done k eP ew eK BE i [] M G a (notedBy (model X.prog X.w) X.A k.env λe M=>RR (.ref l.heap.objs.size) C.heap.objs.size (.error e) M) I5 (R uN) sH stop
   rw[eA] at hd;refine thn hd λr s6 O=>?_;obtain⟨hr,I6⟩:=O;subst hr;refine be ?_;subst L;exact FG _ C U G a s6 I3 f3 I6 qn
  .have hd:=T.item k eP ew eK BE i [] M G a (notedBy (model X.prog X.w) X.A k.env λe M=>RR (.ref l.heap.objs.size) C.heap.objs.size (.error e) M) I5 (R uN) sH go
   rw[eA] at hd;refine thn hd λr s6 O=>?_;rfl';obtain⟨u,hr,h6⟩:=O;ac_rfl;subst hr;refine wpAny_bind (thn h6 λ_ s7 O=>?_);rfl';obtain⟨x,H7,I7,r7,y7,sI,FA⟩:=O;ac_rfl;have E7:=I7.pinned (R FA) (T.obj _ _ sI)
   have again:∀{S:St}{Y:Hp}{s8:Shared},Inv k ([]++lA F s7.heap) S Y s8->N S Y->∃m,m<n/\∃i G a,Inv k [] G a s8/\Z i s8.heap/\(∀b∈F,a b=none)/\W i m G a:=λ {S Y s8} I8 n8=>by
    obtain⟨m',hm,w8⟩:=hN S Y n8;refine#[m',hm,i+1,S,Y,I8.ji,T.keep _ _ _ sI λb B o e=>(I8.pin (b,o) (eZ _ (eZ _ (dM B e)))).1,λb B=>?_,w8];obtain⟨o,e,d⟩:=T.obj _ _ sI b B;exact(I8.pin (b,o) (eZ _ (eZ _ (dM B e)))).2.1
   refine wpAny_bind (jN (thn (LM _ s7 G H7 x u _ E7 r7 (step x H7 y7)) λ_ s8 O=>?_));rfl';obtain⟨S,Y,I8,q8⟩:=O;ac_rfl;refine wpAny_bind (jN (thn (LY _ s8 S Y _ I8 q8) λb s9 O=>?_));obtain⟨H9,I9,q9⟩:=O;cases b with
   |false=>
    rw[ir cP] at q9;exact be #[L▸rfl,again I9 q9]
   |true=>
    rw[mo rfl] at q9;refine wpAny_bind (wpAny_bind (jN (thn (LK _ s9 S H9 _ I9 q9) λy J6 O=>?_)));rfl';obtain⟨v,Iq,Kn,M3,ys,hD,hz,M1⟩:=O;ac_rfl;refine wpAny_bind (jN (thn (kC _ J6 S Iq (.ref l.heap.objs.size) [v] _ [y] (λ_ a=>N S a) Kn rfl (.cons M3 .nil) #[_,ys,v,rfl,rfl,hD,hz,M1]) λ_ J7 O=>?_));rfl';obtain⟨_,Ir,Bf,_,GJ⟩:=O;ac_rfl;exact be (be #[L▸rfl,again Bf GJ])
 subst L;exact aa3 loop (T.self _ 0 _ _ _ ET loop)
def Pw(i:X.calm=true)(c:fG X scope)(j:c8 scope X.N src NC)(k:PI X tg iter wi)
  (l:∀b s H,PG (rK X scope NC b s H) tg g) (n:∀b s H,kY (rK X scope NC b s H) ifs tt) (o:∀b s H,PE (rK X scope NC b s H) elt te)
  (p:∀x,foldedSetIterable iter X.env x=pure x:=by intro _;rfl):PE X (.ListComp elt [#[tg,iter,ifs,0]] scope pos) (NJ wi g tt te src):=by
 intro a s e H Q I h;rw[acD];refine aay (use:=none) rfl p (gq (c.cells I.ok)) c.kind c.names (thn (k a s e H _ I h) λv P r=>thn r λR S t=>?_);rfl';obtain⟨Y,d,Z,J,H2,rfl,y,T,z,B,E⟩:=t;ac_rfl;refine Bp (RR:=λacc C=>compPost (model X.prog X.w) X.A X.xe none (EP X a e Q) acc C) (Q:=Q) i c j y T z B (l d) (n d) (o d) E ?_;intro D s3 H3 aB F s' G L f q;obtain⟨m,M,_⟩:=f.loc;exact#[m,M,λh' O=>#[.ref D,F,Dd G L f O,rfl,q]]
end
section
variable {Z:DC} {X:Cx} {elt iter tg:Expr} {ifs:List Expr} {scope:Scope} {pos:Pos} {wi:jH} {g:eQ} {tt:dP} {te:bw} {src:List (Option Nat)} {NC:List Str}
def Oh(b:X.calm=true)(c:fG X scope)(d:c8 scope X.N src NC)(e:DI Z X tg iter wi)
  (f:∀a s H,DG Z (rK X scope NC a s H) tg g) (h:∀a s H,Bd Z (rK X scope NC a s H) ifs tt) (i:∀a s H,DE Z (rK X scope NC a s H) elt te)
  (j:∀x,foldedSetIterable iter X.env x=pure x:=by intro _;rfl):DE Z X (.ListComp elt [#[tg,iter,ifs,0]] scope pos) (Od wi g tt te src):=(Pw b c d e f h i j).imp BY
end
variable {X:Cx}
def Uv(d:Scope)(e:X.env.scope=d:=by rfl)(k:b.kind= .function:=by rfl)(a:∀x∈b.names,x.2= .local->b.names.lookup x.1\.local:=by decide+kernel)
  (u:∀x∈b.names,x.2= .free->b.names.lookup x.1\.free:=by decide+kernel) (o:∀x∈b.names,x.2= .cell->b.names.lookup x.1\.cell:=by decide+kernel)
  (c:∀x∈b.names,x.2= .free->d.names.lookup x.1\.cell\/d.names.lookup x.1\.free:=by decide+kernel):fG X b:=#[k,a,u,o,λx f g=>by
 have:=c x f g
 rw[<-e] at this;exact this]
def Rv{NC:List Str}(k:e.kind= .function:=by rfl)(a:∀x∈e.names,x.2= .local->e.names.lookup x.1\.local:=by decide+kernel)(b:∀x∈e.names,x.2≠ .cell:=by decide+kernel)
  (d:∀x∈e.names,x.2= .free->c.names.lookup x.1\.free\/c.names.lookup x.1\.cell:=by decide+kernel):ck (rK X c NC f s H) e:=#[k,a,b,λx g h=>by
 show(relabel c X.env).names.lookup x.1=_\/(relabel c X.env).names.lookup x.1=_;unfold relabel;rw[dA]
 rcases d x g h with z|z
 .rw[z]
  by_cases y:(NameKind.free==NameKind.free&&X.env.scope.kind== .function&&X.env.kindOf x.1==some .cell)=true
  .left;simp only[Option.map_some,y,aal]
  .right;simp only[Option.map_some,y];rfl
 .rw[z]
  left
  rfl]
end L2
namespace oH
open PySem L2 Wb
variable {P:Program} {w:World} {mg:Str->Option Value} {base:Heap} {Z:DC} (T:Txt Z mg)
open Wy
def Ny:bS:=λa P=>∃(w:W)(f:List (Option Int))(L:List Nat)(T:List D),a= [aX w, .tup [ba f,aw L, .lst T]]/\Good w/\1<=w.length/\w.length<=14/\f.length=w.length/\Pr w f/\Dy 5 f/\(∀q,q<w.length->∃d,f.getD q none\d)/\Bi w L/\L.length=w.length/\sT w (aj w.length none) L.reverse T f/\T.length<=28/\P (.bl true)
def lu:FnOk P w Z.K mg base cg 5 T.d__law_is_right.f T.d__law_is_right.fd ["_law_turns","_law_found"] (aU Z Ny):=by
 have nd:=lF.nd;refine aZ T.d__law_is_right.F lF [0,0] ∅ (λN R h=>by obtain⟨_,_,_,_,rfl,_⟩:=h;rfl) (λbD A outer s H E N R c h=>?_)
 have b:=c.units
 refine#[_,(ag (bq (DW.dt (gY (c5 (cJ (jW "tuple" (aa 1) rfl T.B.isinstance rfl T.B.tuple Ag))) (gY (aK (gI b) (aH bA rfl T.B.len bz (ae (aa 1) ah)) av (aT _)) (iA (c5 (cJ (aC T.d__law_is_order (tT T) c (ae (aa 0) (ae (aE (aa 1) av) ah))))))))) (aq (aF gU)) aM)
   (ag (bq (DW.dt (gY (c5 (cJ (jW "list" (aE (aa 1) av) rfl T.B.isinstance rfl T.B.list fg))) (iA (c5 (cJ (jW "list" (aE (aa 1) av) rfl T.B.isinstance rfl T.B.list fg)))))) (aq (aF gU)) aM)
   (ag (bq (aK (gI b) (iw (NC:= ["_law_dye"]) (src:= [none]) rfl (mE (au fu)) trivial (br (aE (aa 1) av)) (λ_ _ _=>(bG 0 (show(["_law_dye"]:List Str).Nodup from by decide+kernel))) (λ_ _ _=>(gK (DW.dt (gY (c5 (cJ (aC T.d__law_whole (iJ T) c (ae (aa 0) ah)))) (gY (aK kF (aa 0) av (aT _)) (iA (aK Gp (aa 0) av (aT _)))))))) (λ_ _ _=>(aa 0))) (cF ah) (aT _)) (aq (aF gU)) aM)
   (ag (bq (aK (gI b) (aC T.d__law_walked (wH T) c (ae (aa 0) (ae (aE (aa 1) av) (ae (aE (aa 1) av) ah)))) (aE (aa 1) av) (aT _)) (aq (aF gU)) aM)
   (aq (aF (qv (kE b) (Oh (NC:= ["_law_p","_law_turns","_law_found"]) (src:= [none,some 0,some 1]) rfl (Uv (au fu)) #[rfl,rfl,rfl,rfl,trivial] (rL rfl T.B.range (ae (aH bA rfl T.B.len bz (ae (aa 0) ah)) ah)) (λ_ _ _=>(bG 0 (show(["_law_p","_law_turns","_law_found"]:List Str).Nodup from by decide+kernel) (hx:= .inr rfl))) (λ_ _ _=>(gK (aK (gI b) (iw (NC:= ["_law_q","_law_p","_law_found"]) (src:= [none,some 0,some 2]) rfl Rv #[rfl,rfl,rfl,rfl,trivial] (br (aE (aa 1) (aa 0))) (λ_ _ _=>(bG 0 (show(["_law_q","_law_p","_law_found"]:List Str).Nodup from by decide+kernel))) (λ_ _ _=>(gK (aK (kE b) (aE (aE (aa 2) av) (aa 1)) (aE (aE (aa 2) av) (aa 0)) (aT _)))) (λ_ _ _=>(aa 0))) (cF ah) (aT _)))) (λ_ _ _=>(aa 0))) (cF ah) (aT _)))))))),?_]
 obtain⟨a,f,L,T,rfl,g,Q,o,fl,S,U,i,O,r,K,X,q⟩:=h;have lw:(a.map aw).length=a.length:=aG _;have mL:=O.2.1;refine#[_,rfl,rfl,rfl,bM ?_];exists _,rfl;dsimp only[qP,Hn,dC];refine(?_:sY (.int 3) (.int 3) _);refine sZ #[_,rfl,bM ?_];refine#[_,rfl,_,rfl,_,rfl,a,L,rfl,g,o,r,O,rfl,bM ?_];refine#[_,rfl,_,rfl,rfl,rfl,bM ?_];refine#[_,rfl,_,rfl,rfl,rfl,bM ?_];exists _,rfl,_,rfl;refine fM (ρ:= [none]) oD (λ_=>false) oD f _ [] _ (λx hx Y t t1 k=>?_) #[none,rfl] (small (by rw[iW];lia)) λu=>?_
 .obtain⟨d,rfl,d0,d4⟩:∃d,x\d/\0<=d/\d<5:=by
   obtain⟨j,hj,e⟩:=zF.mp hx;obtain⟨d,C⟩:=i j ()
   have e2:f.getD j none=x:=by rw[bK,cv hj,e];rfl
   exact#[d,e2.symm.trans C,U j d C]
  refine#[_,rfl,_,rfl,rfl,bM ?_];refine#[_,rfl,_,rfl,k9 (Gc ()) ?_]
  refine#[_,rfl,_,rfl,k9 (Gc ()) (k rfl)]
 .rw[lP,show(f.filter λ_=>false)= [] by simp]
  refine#[∅,pA (l:= []) #[_,rfl,bM ?_]]
  refine#[_,rfl,_,rfl,_,rfl,_,rfl,_,rfl,a,L,T,f,rfl,g,Q,o,r,λx hx=>(mL x).mpr hx,X,K,_,rfl,_,rfl,IJ #[_,rfl,k9 (by simp) ?_]]
  refine#[_,rfl,#[(),by show((a.map aw).length:Int)<2^62;lia],?_]
  rw[show(((a.map aw).length:Int)).toNat=a.length by lia,kK]
  refine fM (ρ:= [none,some (aX a),some (.tup [ba f,aw L, .lst T])]) ao (λ_=>false) ao (ac a.length) _ [] _ (λp hp Y t t1 k=>?_) #[none,rfl] (small (by rw[iW,fB];lia)) λu=>?_
  .have G:=b9.mp hp
   have rl:=dF g p;exists _,rfl,_,rfl,_,fo G;refine fM (ρ:= [none,some (ao p),some (.tup [ba f,aw L, .lst T])]) ao (λ_=>false) ao (row a p) _ [] _ (λy m Y t u1 u2=>?_) #[none,rfl] (small (by rw[iW];lia)) λu=>?_
   .obtain⟨n,I⟩:=i p G
    obtain⟨J,M⟩:=i y (g.rng _ _ m);have ne:n≠J:=λz=>S p y n m I (z▸M);have a1:fc (f.map oD) (p:Int)\(.int n):=by rw[d6 (),I];rfl
    have a2:fc (f.map oD) (y:Int)\(.int J):=by rw[d6 (by have:=g.rng _ _ m;lia),M];rfl
    refine#[_,rfl,_,rfl,_,rfl,_,a1,_,rfl,_,rfl,_,rfl,_,a2,xM #[_,rfl,k9 (~~~ne) (u2 rfl)]]
   .rw[lP,show((row a p).filter λ_=>false)= [] by simp]
    refine#[∅,pA (l:= []) #[_,rfl,k9 (by simp) (k rfl)]]
  .rw[lP,show((ac a.length).filter λ_=>false)= [] by simp]
   refine#[∅,(Dg (v:= []) (w:= []) q:xK (.lst []) (.lst []) _)]
end oH
namespace L2
open PySem PySem.Spec PyProof.Rows
section
variable {Z:DC} {X:Cx} {B:Bs} {md:List Nat} {rn:Nat} {ρ:DN} {σ:St} {H G:Hp} {fp:Nat->List Addr} {k c e:Expr} {tk te tz:bw} {tc:dP} {pos:Pos}
def SIx.forget{i:Nat}{v:V}(S:SIx Z B md ρ σ H G fp):SIx Z B md (ρ.set i none) (σ.set i (some v)) H G fp where
 ex:=S.ex
 fl:=S.fl
 len:=by rw[cV,cV];exact S.len
 at_:=λj c h=>by
  by_cases z:i=j
  .subst z
   by_cases a:i<ρ.length
   .rw[fY a] at h;cases h
   .rw[A5 (lK a),fZ (lK a)] at h;cases h
  .rw[fA z] at h ⊢
   exact S.at_ j c h
 nd:=S.nd
 ap:=S.ap
 nw:=S.nw
end
section
variable {Z:DC} {X:Cx} {B:Bs} {md:List Nat} {rn:Nat} {ρ e8:DN} {σ:St} {H G:Hp} {fp:Nat->List Addr}
def SIx.weak(S:SIx Z B md ρ σ H G fp)(a:e8.length=ρ.length)(h:∀(k:Nat)(d:D),e8[k]?\(some d)->ρ[k]?\(some d)):SIx Z B md e8 σ H G fp:=#[S.ex,S.fl,a.trans S.len,λk d e=>S.at_ k d (h k d e),S.nd,S.ap,S.nw]
def KR(i j:Nat):cN:=λE a=>∃b,a[i]?\(some (.tup b))/\b.all yo=true/\j<a.length/\E.nx ((a.set i none).set j none)
def Fv(hc:X.calm=true)(hp:PassesOwn (model X.prog X.w) X.A X.env X.xe)(hN:X.N.Nodup)(i j:Nat)(hm:md.getD i 0=2:=by rfl)(I:i≠j:=by decide)
  (hi:X.N[i]?\x:=by rfl) (s:jw X.env.scope x:=by subst_eqs) (n:(x==("__debug__":Str))=false:=by decide) (dU:(x==("__classdict__":Str))=false:=by decide)
  (hj:X.N[j]?\r:=by rfl) (hx:Loc X.env.scope r:=by subst_eqs) (hf:X.fn r=true\/X.env.scope.names.lookup r\.local:=by subst_eqs) (hw:jw X.env.scope r:=by subst_eqs) (he:(r==("__debug__":Str))=false:=by decide) (LG:(r==("__classdict__":Str))=false:=by decide)
  (di:attributeBase (.Name r g) "clear" X.env (eval (.Name r g) X.env)=eval (.Name r g) X.env:=by rfl) (cj:(a.endLine==u.line)=true:=by rfl)
  (lW:swapsWith (.Call (.Attribute (.Name r g) "clear" a) [] [] u) none Q7.line X.env=pure false:=by rfl)
  (hs:∀y,foldedSetIterable (.Name x px) X.env y=pure y:=by intro _;rfl):
  DSt Z X md rn (.For (.Name r pr) (.Name x px) [.Expr (.Call (.Attribute (.Name r g) "clear" a) [] [] u) Q7] [] C) (KR i j):=by
 refine(tZ hp hc (PC (pv i hi s n dU)) (pL hN hj hx hf) (yY (jD (HW UF PySem.F.slot_list_clear PySem.F.type_list_clear JD (pv j hj hw he LG) di cj) lW)) hs).imp ?_;rintro D σ H ⟨B,J,E,⟨G,fp,S⟩,⟨oq,L,hl,jl,h⟩,M⟩;obtain⟨v,s,o⟩:=S.at_ i _ L;rw[hm] at o;obtain⟨T,ys,rfl,O,ol⟩:=o.tup;have yl:=ol.length;exists _,s,T,rfl,#[ys,eG.of (S.ex.sub _ _ O)];refine Ls (λ_ f p=>∃(c:DN)(b:List L2.D),SIx Z B md c f p G fp/\c.length=J.length/\c[i]?\(some (.tup b))/\b.length=oq.length/\b.all yo=true/\(∀m d,m≠i->m≠j->J[m]?\(some d)->c[m]?\(some d))/\f[i]?\(some (.ref T))) #[J,oq,S,rfl,L,rfl,hl,λ_ _ _ _ q=>q,s] (λk f p _ #[c,b,e,_]=>eG.of (e.ex.sub _ _ O)) ?_ ?_
 .rintro k y f p hy ⟨c,b,e,t,P,dl,Q,R,U⟩
  have kl:k<b.length:=by
   have:=(df.mp hy).1
   lia
  obtain⟨Fu,h0⟩:∃Fu,b[k]?\(.lst Fu):=by
   have:=vC.mp Q b[k] (lO kl)
   rw[cv kl]
   revert this
   cases b[k]<;>intro q<;>first|exact#[_,rfl] |cases q
  have S1:=e.forget (i:=j) (v:=y);have Y:(c.set j none)[i]?\(some (.tup b)):=by rw[fA (Ne.symm I)];exact P
  obtain⟨T',ys',l,xs,gX,e1,e2,e3,e4,e5,e6,bE,put⟩:=S1.Xi hm Y h0;rw[fA (Ne.symm I),U] at e2;cases e2;rw[e.ex.sub _ _ O] at e3;cases e3;rw[hy] at e5;cases e5;refine#[.ref l,fY (by rw[<-e.len,t];exact jl),ty_list e6,l,xs,rfl,rfl,e6,?_]
  refine#[_,_,put [] [] .nil,by rw[cV,cV,t],fY (by rw[cV];exact(df.mp P).1),by rw[cV,dl],?_,λm d m1 m2 q=>?_,?_]
  .rw[vC]
   intro d n
   rcases List.mem_or_eq_of_mem_set n with n|rfl
   .exact vC.mp Q d n
   .rfl
  .rw[fA (Ne.symm m1),fA (Ne.symm m2)]
   exact R m d m1 m2 q
  .rw[fA (Ne.symm I)];exact U
 .rintro f p ⟨c,b,e,t,P,dl,Q,R,U⟩
  refine M.nx _ h f p #[G,fp,e.weak (by rw[cV,cV,t]) λk d q=>?_]
  have kj:k≠j:=λz=>by
   subst z;rw[fY (by rw[cV];exact jl)] at q
   cases q
  rw[fA (Ne.symm kj)] at q
  have ki:k≠i:=λz=>by
   subst z;rw[fY (df.mp L).1] at q;cases q
  rw[fA (Ne.symm ki)] at q;exact R k d ki kj q
end
def eS(K:ab)(x:Str)(st:Stmt):Prop:=∃(d:Addr)(b c:Option Addr)(e:Array (Option Value))(f kV g h a i:Value),N2 K x d/\CT K x x st d b c e f kV g h a i/\bd K a x=true/\ak K (.ref d)=true
def E9(K:ab)(C:Addr)(m a:Str)(st:Stmt):Prop:=∃(d:Addr)(c e:Option Addr)(f:Array (Option Value))(g kV h i b j:Value),ay K (.ref C) m\(some (.ref d))/\bB K (.ref d)=true/\CT K m a st d c e f g kV h i b j/\bd K b a=true/\ak K (.ref d)=true
abbrev qJ(K:ab)(x:Str):Prop:=b5 K mainGlobals x\none
section
variable {K:ab} {h:Heap} {mg:Str->Option Value}
def Ys{x:Str}{st:Stmt}{d:Addr}{e f:Option Addr}{g:Array (Option Value)}{i kV j m b n:Value}(a:N2 K x d)(l:CT K x x st d e f g i kV j m b n)(c:bd K b x=true)(k:ak K (.ref d)=true):eS K x st:=#[_,_,_,_,_,_,_,_,_,_,a,l,c,k]
def mfH{C:Addr}{m b:Str}{st:Stmt}{d:Addr}{g i:Option Addr}{j:Array (Option Value)}{n kV o p e q:Value}(a:ay K (.ref C) m\(some (.ref d)))(f:bB K (.ref d)=true)(l:CT K m b st d g i j n kV o p e q)(c:bd K e b=true)(k:ak K (.ref d)=true):E9 K C m b st:=#[_,_,_,_,_,_,_,_,_,_,a,f,l,c,k]
noncomputable def dN.ch{x:Str}{st:Stmt}{d:List Str}(X:K.In h)(G:h.Ns mainGlobals mg)(e:eS K x st)
  (b:∀(kV f i:Value)(j:Option Addr)(m n:Value)(g:List Value),g.length=d.length->bindArgs (bi x x (iz st) (fI st) (au st) .none kV f i j m n) #[g,[]]=pure (d.zip g)):dN K mg x st d:=
 Classical.choice (by
  obtain⟨_,_,_,_,_,_,_,_,_,_,a,l,c,k⟩:=e;exact#[.of X G a l c k b])
noncomputable def Bg.ch{Z:DC}{m d:Str}{st:Stmt}{g:List Str}(e:E9 Z.K Z.C m d st)
  (b:∀(kV i n:Value)(o:Option Addr)(p q:Value)(j:List Value),j.length=g.length->bindArgs (bi m d (iz st) (fI st) (au st) .none kV i n o p q) #[j,[]]=pure (g.zip j)):Bg Z m d st g:=
 Classical.choice (by
  obtain⟨_,_,_,_,_,_,_,_,_,_,a,f,l,c,k⟩:=e;exact#[.of a f l c k b])
end
end L2
namespace oH
open PySem L2 Wb
variable {P:Program} {w:World} {mg:Str->Option Value} {base:Heap} {Z:DC} (T:Txt Z mg)
open Wy
def Cs:bS:=λb P=>∃(a:List Int),b= [.mV a]/\a.length<=63/\P (.bl true)
def Pa:FnOk P w Z.K mg base cg 9 T.d_law.f T.d_law.fd ["_law_script"] (aU Z Cs):=by
 have i:=Ij.nd;refine aZ T.d_law.F Ij [0,0,0,2,0] ∅ (λl R h=>by obtain⟨_,rfl,_⟩:=h;rfl) (λS A outer s H E l R a h=>?_)
 have n:=a.units
 refine#[_,(ag (aP false 1 i (aC T.d__law_drawn (yL T) a (ae (aa 0) ah)))
   (ag (aP false 2 i (K4 T.mkW (u5 T) (a.mono ∅) rfl T.mC T.m___init__b (ae (aa 1) ah)))
   (ag (Lg 3 i (pD T) (a.mono ∅) rfl T.d_five_dyes.m T.d_five_dyes.F.kp T.d_five_dyes.b (ae (aa 2) ah))
   (ag (bq (c5 (cJ (aC T.d__law_is_right (lu T) a (ae (aa 1) (ae (aa 3) ah))))) (aq (aF gU)) aM)
   (ag (Fv rfl FS i 3 4)
   (aq (aF (tq (aC T.d__law_is_right (lu T) a (ae (aa 1) (ae (aC T.d_five_dyes ((pD T).imp GO) a (ae (aa 2) ah)) ah))) (wR (qv (kE n) (fP T.W (aa 2) T.m_turns.m (js T) (a.mono ∅) T.m_turns.b) (aa 1) (aT _))))))))))),?_]
 obtain⟨o,rfl,U,q⟩:=h;refine#[_,rfl,o,rfl,λc g e d k=>#[trivial,?_]];exists _,rfl,c,rfl,g,e,d,trivial;refine#[_,rfl,c,rfl,g,e,d,k,λf L T p r t u O v K x=>?_];refine#[_,rfl,_,rfl,c,f,L,T,rfl,g,e,d,p,r,t,u,O,v,K,x,rfl,bM ?_];refine#[_,rfl,rfl,by show 4<5;decide,?_]
 refine#[_,rfl,_,rfl,c,rfl,g,e,d,k,λy z B C G I J M j N Q=>#[c,y,z,B,rfl,g,e,d,C,G,I,J,M,j,N,Q,true,rfl,eC ?_]];refine#[_,rfl,c,rfl,c,rfl,d,_,rfl,Dh ?_];rw[GT rfl];exact q
set_option hygiene false in
local macro_rules| `(tactic|and_intros)=> `(tactic| (intro _ _ _ _ _ _ _ hl;first| (obtain⟨_,rfl⟩:=L2.QS hl;rfl) | (obtain⟨_,_,rfl⟩:=L2.QT hl;rfl) | (obtain⟨_,_,_,rfl⟩:=L2.QU hl;rfl) | (obtain⟨_,_,_,_,rfl⟩:=L2.QV hl;rfl) | (obtain⟨_,_,_,_,_,rfl⟩:=L2.We hl;rfl)))
def all_mk{l:b6}{w:World}(X:K.In h)(G:h.Ns mainGlobals a)(y:a "law"\(.ref o)) 
  
  
  (Y:b5 K mainGlobals "Web"\(some (.ref C)))
  (a0:eS K "round_from" mw)
  (a1:eS K "lands" pR)
  (a2:eS K "count" y9)
  (a3:eS K "is_plane" pQ)
  (a4:eS K "need_plane" mv)
  (a5:eS K "chain" y8)
  (a6:eS K "exchanged" nJ)
  (a7:eS K "least_free" mi)
  (a8:eS K "freeing_exchange" gJ)
  (a9:eS K "dye_given" iO)
  (XF:eS K "order_of_five" gx)
  (XG:eS K "five_dyes" j6)
  (XH:eS K "is_among" pP)
  (XI:eS K "alien_fault" kN)
  (XJ:eS K "self_fault" mz)
  (XM:eS K "twice_fault" kQ)
  (XO:eS K "lone_fault" mj)
  (XQ:eS K "reached_from_first" d9)
  (XR:eS K "apart_fault" kO)
  (XS:eS K "first_fault" kP)
  (XT:eS K "_law_cell_at" jO)
  (XU:eS K "_law_reserve" jQ)
  (XW:eS K "_law_draws" l9)
  (XX:eS K "_law_lands" mf)
  (XY:eS K "_law_places" iN)
  (XZ:eS K "_law_grown" jt)
  (X0:eS K "_law_web" pO)
  (X1:eS K "_law_named" ju)
  (X2:eS K "_law_chain" l7)
  (X3:eS K "_law_with" nI)
  (X4:eS K "_law_whole" mh)
  (X5:eS K "_law_is_deed" jP)
  (X6:eS K "_law_free" iM)
  (X7:eS K "_law_is_free" gR)
  (X8:eS K "_law_exchanged" iL)
  (X9:eS K "_law_done" nH)
  (Ya:eS K "_law_full" j5)
  (Yb:eS K "_law_drawn" l8)
  (Yc:eS K "_law_is_order" fq)
  (Yd:eS K "_law_walked" kM)
  (Ye:eS K "_law_is_right" fu)
  (u:N2 K "law" c)
  (d:CT K "law" "law" GL c z A B E F H I r J)
  (Yi:bd K r "law"=true)
  (Z8:ak K (.ref c)=true)
  (m0:ay K (.ref C) "__init__"\(some (.ref b)))
  (f0:bB K (.ref b)=true)
  (f:CT K "__init__" "Web.__init__" fO b L M N O Q R S t U)
  (g:bd K t "Web.__init__"=true)
  (i:ak K (.ref b)=true)
  (m1:E9 K C "many" "Web.many" pN)
  (m2:E9 K C "turns" "Web.turns" j4)
  (m3:E9 K C "ties" "Web.ties" lD)
  (m4:E9 K C "tied" "Web.tied" v8)
  (m5:E9 K C "behind" "Web.behind" l6)
  (j:bQ K C Str.empty=true)
  (OC:b4 K C=true)
  (k:ce K C=true)
  (m:ay K (.ref C) "__setattr__"\(some (.builtin "object.__setattr__")))
  (n:cs K C=true)
  (Z9:ak K (.ref C)=true)
  (nR:ay K (.ref C) "rows"\none)
  (Ux:b5 K mainGlobals "__name__"\(some (.str "law_mapdye_k54_whole_five_dyes" q)))
  (Yj:b5 K mainGlobals "MOST_POINTS"\(some (.int 14 p)))
  (Xo:qJ K "len")
  (Qm:qJ K "range")
  (Xp:qJ K "max")
  (Xq:qJ K "min")
  (E2:qJ K "enumerate")
  (Xt:qJ K "zip")
  (NT:qJ K "sorted")
  (Xm:qJ K "all")
  (CC:qJ K "isinstance")
  (Xn:qJ K "int")
  (T8:qJ K "bool")
  (T9:qJ K "list")
  (Qn:qJ K "tuple")
  (Xs:qJ K "sum")
  (Hi:qJ K "reversed")
  (Xr:qJ K "set")
  :∃x:FuncData,(∀(s:Shared)(v:Value),BindsTo s x #[[v],[]] [("_law_script",v)])/\∀base:Heap,K.In base->base.Ns mainGlobals a->FnOk l.prog w K a base cg 40 o x ["_law_script"] (L2.ug K):=by
 have e:=y.symm.trans (abb X G u);cases e;have E0:=tF (st:=fO) f g i;have e0:=E0.binds (ps:= ["self","turns"]) (by and_intros)
 let Z:DC:=#[K,C]
 let T:Txt Z a:=#[#[KB X G Xo,KB X G Qm,KB X G Xp,KB X G Xq,KB X G E2,KB X G Xt,KB X G NT,KB X G Xm,KB X G CC,KB X G Xn,KB X G T8,KB X G T9,KB X G Qn,KB X G Xs,KB X G Hi],KB X G Xr, .ch X G a0 (by and_intros), .ch X G a1 (by and_intros), .ch X G a2 (by and_intros), .ch X G a3 (by and_intros), .ch X G a4 (by and_intros), .ch X G a5 (by and_intros), .ch X G a6 (by and_intros), .ch X G a7 (by and_intros), .ch X G a8 (by and_intros), .ch X G a9 (by and_intros), .ch X G XF (by and_intros), .ch X G XG (by and_intros), .ch X G XH (by and_intros), .ch X G XI (by and_intros), .ch X G XJ (by and_intros), .ch X G XM (by and_intros), .ch X G XO (by and_intros), .ch X G XQ (by and_intros), .ch X G XR (by and_intros), .ch X G XS (by and_intros), .ch X G XT (by and_intros), .ch X G XU (by and_intros), .ch X G XW (by and_intros), .ch X G XX (by and_intros), .ch X G XY (by and_intros), .ch X G XZ (by and_intros), .ch X G X0 (by and_intros), .ch X G X1 (by and_intros), .ch X G X2 (by and_intros), .ch X G X3 (by and_intros), .ch X G X4 (by and_intros), .ch X G X5 (by and_intros), .ch X G X6 (by and_intros), .ch X G X7 (by and_intros), .ch X G X8 (by and_intros), .ch X G X9 (by and_intros), .ch X G Ya (by and_intros), .ch X G Yb (by and_intros), .ch X G Yc (by and_intros), .ch X G Yd (by and_intros), .ch X G Ye (by and_intros), .of X G u d Yi Z8 (by and_intros),#[#[j,OC,k,m],nR],abb X G Y,b,_,E0,#[n,m0,f0,Z9],e0, .ch m1 (by and_intros), .ch m2 (by and_intros), .ch m3 (by and_intros), .ch m4 (by and_intros), .ch m5 (by and_intros),#[q,abb X G Ux],#[p,abb X G Yj]]
 exact#[_,λs v=> .of_eq rfl,λbase _ _=>(((Pa (P:=l.prog) (w:=w) (base:=base) T).mono ∅).imp (L2.OX (Z:=Z)))]
def walk{l:b6}{q:Program}{a:List Str}{i:(Str->Option Value)->Heap->Prop}{c:World->Heap->Prop}{d:DefRec}{K:Params->ab}(j:l.most\63)(k:d.params.defaults= [])
  (m:∀(w:World)(h:Heap),c w h->(K w.params).In h)
  (F:∀(w:World)(b:Str->Option Value)(e:Addr)(h:Heap),(K w.params).In h->h.Ns mainGlobals b->b d.name\(.ref e)->
   ∃g:FuncData,(∀(s:Shared)(u:Value),BindsTo s g #[[u],[]] [("_law_script",u)])/\∀base:Heap,(K w.params).In base->base.Ns mainGlobals b->FnOk l.prog w (K w.params) b base cg 40 e g ["_law_script"] (ug (K w.params))):
  dm q a i c l.row.toRowW d [] (λf n=>dc f n):=L2.T4 40 ∅ j k m F
end oH
namespace PySem.W.Fast
def tw15052949779130751992:=0
def tw5575876285962869356:=0
def tw14919067122917571425:=0
def tw9760532414313662547:=0
def tw16221493294568306341:=0
def tw4718604350777909700:=0
def tw16719394420196031464:=0
def tw225952376432477238:=0
def tw9820602937854242235:=0
def tw17228997543677439770:=0
def tw12750054005913372247:=0
def tw9462917969120568628:=0
def tw1665996141484403832:=0
def tw18024868527577216074:=0
def tw9167747335096950399:=0
def tw6858333774637367119:=0
def tw4341813688342737050:=0
def tw7443494304087300402:=0
def tw11661048277166032774:=0
def tw2751004169509726604:=0
def tw12868440422867538853:=0
def tw8211754255186355556:=0
def tw12260497165836650296:=0
def tw9698899813488392570:=0
def tw6951797762976322785:=0
def tw6698468395857299492:=0
def tw17439689145166851658:=0
def tw5392357664553032474:=0
def tw1004782791659128172:=0
def tw2034762626670194880:=0
def tw16814708511692093414:=0
def tw14532972848208193556:=0
def tw17328838417610477475:=0
def tw7676544164876382984:=0
def tw8615269597847926621:=0
def tw1899050889930209702:=0
def tw13778162161121405206:=0
def tw2940168868632975073:=0
def tw15443626563827792272:=0
def tw15856121826561712726:=0
def tw177686685752519767:=0
def tw16692862397019499473:=0
def tw15376815808311405515:=0
def tw3769672634873231959:=0
def tw1466056607584958947:=0
def tw13136960771864927083:=0
def tw15031977809818326696:=0
def tw7954773947619845512:=0
def tw13161324236148709736:=0
def tw16602420962923925062:=0
def tw5024431023306510884:=0
def tw1185970672818582152:=0
def tw10691224257512303209:=0
def tw2277683814958929817:=0
def tw13604030532888327905:=0
def tw5816920136972412532:=0
def tw16947798152748199137:=0
def tw2766658589656315253:=0
def tw5764760830646182480:=0
def tw8909469685728162831:=0
def tw15724008930372689147:=0
def tw1439126087782359046:=0
def tw12987356395926670508:=0
def tw11598145698191715699:=0
def tw2855060946101078241:=0
def tw16574300502452122397:=0
def tw8181223353442788821:=0
def tw9339771761060564650:=0
def tw14831724305295703977:=0
def tw15546205999983569845:=0
def tw9684695038694634336:=0
def tw769000114621642845:=0
def tw6477734905442843828:=0
def tw11079214786274798081:=0
def tw5021772229393999145:=0
def tw16313002255847823284:=0
def tw7115438138825231288:=0
def tw7224347229119815070:=0
def tw1640427409243354243:=0
def tw16943387441971159291:=0
def tw3372114601094772832:=0
def tw16614492388952095518:=0
def tw8496694022552963859:=0
def tw13228347457137389798:=0
def tw4932580349931899466:=0
def tw8069084435941769211:=0
def tw16440297175789708291:=0
def tw16961296159714625987:=0
def tw5628853585345132147:=0
def tw2306545897079843280:=0
def tw14527899280172385500:=0
def tw9994205580944032092:=0
def tw5397428207303761695:=0
def tw14570324894005223387:=0
def tw9278504325458884856:=0
def tw13237976345679884877:=0
def tw5557928938347171542:=0
def tw8106031061628994991:=0
def tw17472008013999702806:=0
def tw5604165771838767128:=0
def tw7418859387535725345:=0
def tw250593806443425308:=0
def tw10334676796856767207:=0
def tw16487688389252413901:=0
def tw836874777558452352:=0
def tw386334068596738786:=0
def tw13282335454052972552:=0
def tw4525074078419283309:=0
def tw5447497190024412511:=0
def tw3770338060543755414:=0
def tw17417853704716745451:=0
def tw8566518089848566495:=0
def tw16624024732532300557:=0
def tw1564471471435862709:=0
def tw5490935879990938463:=0
def tw17950550562892926474:=0
def tw15720149927684535001:=0
def tw4817463848012427372:=0
def tw14959058524682076368:=0
def tw3765051847190445936:=0
def tw4082067952961805196:=0
def tw15106708983894785741:=0
def tw7527948047036373215:=0
def tw5258942410001425269:=0
def tw16708297719082283642:=0
def tw15868557321585271099:=0
def tw12533514340179890099:=0
def tw6779161894858451724:=0
def tw10431377562654703457:=0
def tw8599314245493212290:=0
def tw15753183769920433334:=0
def tw10753650737446378125:=0
def tw343825308678703770:=0
def tw1956875049283442540:=0
def tw15480260039065896100:=0
def tw14703649543140573156:=0
def tw7756213359241536810:=0
def tw15395784215928277214:=0
def tw15597562176326825695:=0
def tw17876596006725670278:=0
def tw11407514379430045515:=0
def tw7960410247429731972:=0
def tw12825613609248321547:=0
def tw10744898493718668476:=0
def tw3553857265683273276:=0
def tw9706651201753890168:=0
def tw634750413033423316:=0
def tw16044846704481885058:=0
def tw12282794040980078721:=0
def tw12734208308564124320:=0
def tw6185496380580024957:=0
def tw9945735217577973039:=0
def tw529310738283979446:=0
def tw15747898953062976622:=0
def tw2595688630077190177:=0
def tw15579523946380120718:=0
def tw6852277302523202156:=0
def tw16274523244576652883:=0
def tw1436724384891595766:=0
def tw362147966432411098:=0
def tw17361419317719587279:=0
def tw13539904590244223949:=0
def tw2794814158231116903:=0
def tw13393846660051577277:=0
def tw1636156840458718158:=0
def tw3503649426295375189:=0
def tw7483232459805642802:=0
def tw916256325779749976:=0
def tw5519984049252162463:=0
def tw14995163496028893976:=0
def tw2993361107121130027:=0
def tw7944843426930898495:=0
def tw17661056519518022869:=0
def tw6576995424996998948:=0
def tw12981222061351810204:=0
def tw7870050726374954207:=0
def tw7355336150822332605:=0
def tw13169159837336434771:=0
def tw656456613919529754:=0
def tw448749078638591483:=0
def tw17065867388617021333:=0
def tw12076553107323479050:=0
def tw10600853875306553626:=0
def tw1581210204143870527:=0
def tw9074618404716213514:=0
def tw12807007949414731928:=0
def tw8953149877898532229:=0
def tw15097159670327003786:=0
def tw17838619580872309522:=0
def tw6224707590654069751:=0
def tw4659378927262471442:=0
def tw9226512520247307333:=0
def tw5682227573354045924:=0
def tw7099899101627381106:=0
def tw16367699215388204340:=0
def tw1887029820554623597:=0
def tw589385553751104955:=0
def tw8092895933982442541:=0
def tw12118714432690905100:=0
def tw11787453817374908804:=0
def tw4607947581237058168:=0
def tw6307825956527556141:=0
def tw18201970387858631543:=0
def tw16507203871314859720:=0
def tw17179991256877104154:=0
def tw8920161272105932980:=0
def tw2935249002501852033:=0
def tw9776837897440015734:=0
def tw3976956327768445730:=0
def tw12820218020645815117:=0
def tw16480015769420050364:=0
def tw8396214587096669616:=0
def tw5343931592002404390:=0
def tw10186040309848726580:=0
def tw16890245461752635093:=0
def tw15041685391153696077:=0
def tw3026794208680383773:=0
def tw7223367263073945465:=0
def tw5746986077803488749:=0
def tw5093399331067788037:=0
def tw4739208930623286253:=0
def tw2491417047091477691:=0
def tw11667939445135799310:=0
def tw13556992286679967126:=0
def tw4704974639768623207:=0
def tw10673561630844516590:=0
def tw4826600234940034870:=0
def tw16827154767860340121:=0
def tw12442066521589741036:=0
def tw15041591137021888421:=0
def tw17601975901142271792:=0
def tw2617204847350416488:=0
def tw17451486542438186659:=0
def tw1054268537191167516:=0
def tw11355882512508493850:=0
def tw13027477333545319505:=0
def tw17893935562414791152:=0
def tw7306326132510252361:=0
def tw10880046717175816583:=0
def tw7058799062740106435:=0
def tw6545881905569999079:=0
def tw9195939743835551882:=0
def tw3128564716553820848:=0
def tw15107341229667968638:=0
def tw3234589660597560621:=0
def tw13534437116714055128:=0
def tw16952506159662447022:=0
end PySem.W.Fast
open PySem PySem.W PyProof.Rows
set_option maxRecDepth 100000 in
set_option maxHeartbeats 0 in
theorem PySem.Challenge.cw_mapdye_k54_whole_five_dyes_holds : PySem.Challenge.rw_mapdye_k54_whole_five_dyes.Holds := by
 w_on;o_law;k_head;(case hw=>w_witness2)
 k_fill
 refine oH.walk (l:=PySem.Challenge.rw_mapdye_k54_whole_five_dyes) rfl rfl (λw h Y=>PySem.W.kIn_of Y) ?F
 case F=>
  intro w mg fa h KX G uQ
  refine' oH.all_mk KX G uQ ?_ ?_ ?_ ?_ ?_ ?_ ?_ ?_ ?_ ?_ ?_ ?_ ?_ ?_ ?_ ?_ ?_ ?_ ?_ ?_ ?_ ?_ ?_ ?_ ?_ ?_ ?_ ?_ ?_ ?_ ?_ ?_ ?_ ?_ ?_ ?_ ?_ ?_ ?_ ?_ ?_ ?_ ?_ ?_ ?_ ?_ ?_ ?_ ?_ ?_ ?_ ?_ ?_ ?_ ?_ ?_ ?_ ?_ ?_ ?_ ?_ ?_ ?_ ?_ ?_ ?_ ?_ ?_ ?_ ?_ ?_ ?_ ?_ ?_ ?_ ?_ ?_ ?_ ?_ ?_ ?_
  all_goals (try (first| (show _=_;k_is) | (refine' L2.Ys ?_ ?_ ?_ ?_<;>(try (show _=_;k_is))) | (refine' L2.mfH ?_ ?_ ?_ ?_ ?_<;>(try (show _=_;k_is)))))


