import PyProof.Rows.All
import Wide.All
import OpenK.AllK
import Wide.FinOn
import Lean
import PyProof.EqAt
import PyProof.EqKinds
import PyProof.TupleCall
import PyProof.RaisesMany
import KE.KSortTup
import PyProof.NeKinds
import PyProof.SetKind
import PyProof.SetRoads
import PyProof.SetNew
import PyProof.WalksS
import PyProof.CollectWalk
import PyProof.TupleKey
import PyProof.IsRules
import PyProof.InstEq
import KE.KRevIter
import PyProof.FitsBits
import PyProof.P3Eq
import PyProof.ListRange
import PyProof.RulesAs
import PyProof.NsDelKeeps
import PyProof.PassesOwn
import PyProof.FString
import PyProof.MeetsSeq
import PyProof.DictRoadsH
import PyProof.DictTruth
import PyProof.MinMaxWalk
import PySem.Challenge.RW_mapdye_k66_not_plane_or_not_filled
local macro_rules|`(tactic|subst_eqs)=>`(tactic|first|exact Or.inl rfl|exact Or.inr rfl|exact Or.inr (Or.inl rfl)|exact Or.inr (Or.inr rfl)|assumption)
local macro_rules|`(tactic|bv_omega)=>`(tactic|exact ⟨rfl,rfl,rfl,by decide+kernel,rfl,by decide+kernel,by decide+kernel⟩)
local macro_rules|`(#[$x,$y,*])=>`(⟨$x,$y,*⟩)
local macro_rules|`(#[$x])=>`(⟨$x⟩)
local macro_rules|`(tactic|exists $x,*)=>`(tactic|refine⟨$x,* ,?_⟩)
open PySem.W renaming kitOne→ac,Frag→aj,findIn→am,keepIn→aA,nsIn→aD,codeIn→aE,specialIn→aS,hasDictIn→bd,emptyDict→bh,isFn→bj,mroIn→bv,fnOf→b0,instObj→b4,plainGet→b6,clsIn→ce,OpenLaw→cm,lookIn→cq,instIn→cr,plainOver→cu,methodObj→cv,takesIn→cF,takerIn→cP,readsIn→cS,makesIn→cV,findCls→da,WalkO→dV
open List renaming replicate→ak,range→aB,lookup→bc,length→db,Nodup→dL
open PySem renaming Spec→bi,Within→b5,SetTable→dm,call→dy
open Array renaming replicate→dc
abbrev mo:=@if_neg
abbrev tz:=@if_pos
abbrev Gc:=@decide_eq_false
abbrev KB:=@congrArg
abbrev KM:=@decide_eq_true
abbrev On:=@if_false
abbrev Pi:=@of_decide_eq_true
abbrev SZ:=@of_decide_eq_false
abbrev aat:=@beq_eq_false_iff_ne
abbrev aaw:=@beq_iff_eq
abbrev aaC:=@if_true
abbrev aaK:=@getElem?_pos
abbrev aaO:=@beq_self_eq_true
abbrev aaP:=@decide_eq_decide
abbrev abf:=@or_false
abbrev abU:=@bne_self_eq_false
abbrev abV:=@decide_eq_true_eq
open PySem renaming wpAny_bind→ir,wpAny_pure→AC,wpAny_holding→M2,wpAny_Call_Name_kw→PP,wpAny_truthy_bool→SB,wpAny_newObj_type→aar,wpAny_loadPart_at→aas,wpAny_isSubtype_exc→aau,wpAny_standAt→aav,wpAny_call→aay,codeAny_mono→aaz,mem_of_lookup→aaB,wpAny_call_entry→aaD,wpAny_passesOwn→aaE,wpAny_setState_of→aaG,sizeLine_eq→aaJ,wpAny_rule→aaL,codeAny_call_builtin→aaN,wpAny_field→aaQ,wpAny_comprehension_free→aaV,call_meets→aa0,wpAny_newList→aa9,plainObj_wpAny_Assign_Attribute→abk,wpAny_execs_nil→abm,codeAny_of_tree→abr,codeAny_builtin→abv,wpAny_specialOf→abx,wpAny_loadPart→abB,wpAny_of_eq→abG,wpAny_newFunctionEnv_cells→abN,wpAny_attempt→abQ,plainId_quiet→abR,wpAny_lookBehind→ab0,pastItsLine_dict→ab1,wpAny_forIn_list→ab8,wpAny_Call_method_late→acs,codeAny_compStart_list→acu,wpAny_setField→acz,wpAny_seqItems→acA,wpAny_nsSet1→acD,wpAny_typeOf→acE,codeAny_loop→acH
open PySem.Heap renaming get?_push_of_some→Da,lt_size→Fk,get?_push_size→GM,get?_update_other→P3,get?_update_self→UF,get?_update_ne→aaI,size_update→aaM,size_push→aaZ,get?_push_ne→aa4
open PyProof.Rows renaming wpS_bind→Do,wpS_pure→FM,wpS_mono→Pv,wpS_forRange→Re,callWith_type1→UV,wpS_get→aaR,wpS_modify→aa1,wpS_lift→abc,slot_tuple_getitem→abl,callWith_builtin1→abp,size_push'→abt,args_list_sort→abC,assignInOrder_cons→abH,listUpdate_at→abP,subscriptTail_builtinR→acr,seqEpoch_at→acv,sortedAll_old→acB,sortedAll_at→acI,plain_sorted→acJ,entry_sorted→acK,args_sorted1→acL,collect_list→acM
open Option.some renaming inj→FB
open Classical renaming byContradiction→FS
open PySem.PassesOwn renaming never→GE
open PySem.W renaming mg_none_of→GT,mg_of→KF,kia_one→SL,callWith_K→aax,cellsFrom_some→aa5,methodCall_KW→abg,looks_findIn→abn,plainGet_of→abA,any_some→ab5,looks_specialIn→acm
open PyProof.Rows.KeyOrd renaming kle_trans→IR,kle_of_klt→Os,kle_refl→Wp,klt_of_kle_of_klt→aaX
open PySem.F renaming plainAttrs_list→W1,excBase_ValueError→aaF,args_tuple_add_2→ab2,slot_list_append→ab9,type_list_append→aca,slot_list_insert→acb,type_list_insert→acd,entry_tuple_add→ack,slot_tuple_add→acq
open Prod renaming ext→aaA
open List.Pairwise renaming imp_of_mem→aaH
open Prod.mk renaming inj→aaS,injEq→acC
open PySem.Calls renaming call_function_entry→aaT,callWith_builtin→aa6,Name_function_global→abM
open PySem.SeqAt.EqAt renaming int_int→aaU
open PySem.Obj renaming data_mapFields→aaW,isFreed_of_fields→abh
open Array renaming size_setIfInBounds→aaY,getElem?_setIfInBounds→abD,toList_inj→ab4,toList_filterMap→acx
open List renaming pairwise_singleton→aa2,reverse_perm→aa3,pairwise_lt_range→aa7,all_cons→aa8,take_succ_eq_append_getElem→abd,filter_cons→abe,pairwise_reverse→abi,concat_eq_append→abj,of_mem_zip→abo,getElem?_append→abq,reverse_reverse→abu,exists_mem_of_length_pos→aby,filterMap_cons→abz,countP_eq_length_filter→abE,count_set→abF,mem_filterMap→abI,find?_eq_none→abK,map_replicate→abL,any_cons→abO,reverse_cons→abW,mem_of_find?_eq_some→abX,count_replicate_self→abY,nodup_range→ab6,cons_append→ace,any_eq_true→acf,getElem_map→acg,getElem_mem→ach,map_set→aci,foldl_cons→acn,range_succ→aco,getElem_replicate→acy,map_nil→acF,any_map→acN,all_map→acO
open Nat renaming lt_succ_self→aba,ne_of_gt→abZ,mod_self→ab3,add_comm→acG
open Option renaming bind_some→abb
open PySem.Around renaming under_plainId→abw
open PySem.Code renaming quiet_builtin→abJ
open PySem.MeetsSeq3 renaming plain_eq_loop→abS
open Bool renaming not_true→abT,or_eq_true→acp
open PySem.SetTable renaming toList_insertAt→ab7,insertAt_perm→acw
open List.Perm renaming eq_of_pairwise→acj
def af{g:Prop}(h:∀G:Prop,(g->G)->G):g:=h g id
set_option hygiene false in
local macro_rules|`(tactic|rfl')=>`(tactic|refine af fun G0 k0=>?_)
set_option hygiene false in
local macro_rules|`(tactic|ac_rfl)=>`(tactic|refine k0 ?_)
set_option Elab.async false
set_option linter.all false
set_option maxRecDepth 100000
abbrev bG:= @List.getD_eq_getElem?_getD
abbrev aV:= @List.length_map
abbrev cX:= @List.getElem?_eq_some_iff
abbrev dD:= @List.getElem?_eq_getElem
abbrev bu:= @Nat.le_refl
abbrev dh:= @List.length_append
abbrev dE:= @List.mem_cons_self
abbrev eM:= @List.mem_cons_of_mem
abbrev fY:= @Array.length_toList
abbrev i9:= @List.mem_append_right
abbrev cO:= @List.length_cons
abbrev cY:= @List.size_toArray
abbrev eF:= @List.mem_of_getElem?
abbrev gn:= @List.getElem?_append_left
abbrev bO:= @Nat.ne_of_lt
abbrev b8:= @List.mem_cons
abbrev fM:= @Array.getElem?_toList
abbrev eO:= @Bool.false_ne_true
abbrev fk:= @Nat.lt_of_lt_of_le
abbrev fm:= @List.mem_singleton
abbrev eQ:= @List.getElem?_map
abbrev i7:= @List.getElem?_append_right
abbrev fE:= @Bool.false_eq_true
abbrev eG:= @List.mem_append
abbrev dz:= @List.map_cons
abbrev fF:= @List.length_take
abbrev iG:= @List.getElem?_eq_none
abbrev fG:= @List.append_nil
abbrev cZ:= @Nat.zero_le
abbrev dO:= @List.mem_map
abbrev i8:= @List.mem_append_left
abbrev f6:= @List.map_append
abbrev eH:= @List.map_map
abbrev jn:= @Array.toList_append
abbrev lL:= @List.getElem?_set_self
abbrev iA:= @List.length_set
abbrev gQ:= @List.mem_range
abbrev kB:= @List.mem_iff_getElem
abbrev gq:= @Nat.lt_irrefl
abbrev lM:= @List.getElem?_set_ne
abbrev jo:= @Nat.le_of_not_lt
abbrev j8:= @List.pairwise_map
abbrev iH:= @List.nodup_nil
abbrev mT:= @List.take_append_drop
abbrev mU:= @List.getElem?_of_mem
abbrev jq:= @List.nodup_cons
abbrev kC:= @List.getElem?_set
abbrev kD:= @List.nodup_append
abbrev tT:= @List.drop_eq_getElem_cons
abbrev qp:= @List.length_replicate
abbrev tU:= @List.getElem?_replicate
abbrev jr:= @Nat.le_trans
abbrev vv:= @List.getElem?_cons_succ
abbrev za:= @Array.getElem?_eq_some_iff
abbrev js:= @Nat.le_succ
abbrev oW:= @List.length_drop
abbrev oX:= @Nat.mod_eq_of_lt
abbrev vw:= @List.take_of_length_le
abbrev tV:= @List.getD_cons_succ
abbrev qq:= @List.flatten_cons
abbrev qr:= @List.append_assoc
abbrev kE:= @Nat.sub_self
abbrev zb:= @List.getElem?_take_of_lt
abbrev qs:= @List.mem_reverse
abbrev vx:= @List.pairwise_append
abbrev Bh:= @List.perm_ext_iff_of_nodup
abbrev tW:= @List.length_range
abbrev Bi:= @Array.getElem?_eq_getElem
abbrev tX:= @List.lookup_cons
abbrev Bj:= @List.set_eq_of_length_le
abbrev vy:= @Bool.eq_false_iff
abbrev GH:= @Array.getD_eq_getD_getElem?
abbrev zc:= @List.replicate_succ
abbrev zd:= @List.reverse_append
abbrev Bk:= @List.length_pos_of_mem
abbrev Bl:= @List.drop_eq_nil_of_le
abbrev GI:= @List.nodup_iff_pairwise_ne
abbrev vz:= @Bool.and_eq_true
abbrev vA:= @List.not_mem_nil
abbrev vB:= @List.mem_flatten
abbrev ze:= @List.getElem?_drop
abbrev GJ:= @List.pairwise_iff_getElem
abbrev vC:= @List.nil_append
abbrev vD:= @List.mem_filter
abbrev zf:= @Nat.lt_succ_of_lt
abbrev GK:= @List.length_eq_zero_iff
abbrev GL:= @List.drop_of_length_le
abbrev Bm:= @Array.size_extract
abbrev zg:= @List.length_nil
abbrev GN:= @List.length_singleton
abbrev Ke:= @Array.perm_iff_toList_perm
abbrev Bn:= @List.flatMap_cons
abbrev Bo:= @Array.toList_push
abbrev Bp:= @List.ext_getElem?
abbrev GO:= @Array.toList_reverse
abbrev vE:= @Nat.zero_add
abbrev Kf:= @List.idxOf_lt_length_iff
abbrev GP:= @List.getElem?_range
abbrev GQ:= @List.flatten_append
abbrev tY:= @Nat.mod_lt
abbrev Es:= @List.range_succ_eq_map
abbrev y2:= @List.getElem_take
abbrev uT:= @Nat.mul_le_mul
abbrev y3:= @List.all_eq_true
abbrev uU:= @List.map_take
abbrev uV:= @List.map_drop
abbrev Et:= @List.length_reverse
abbrev Eu:= @List.length_pos_iff
abbrev uW:= @Nat.le_of_lt
abbrev Ew:= @List.getElem_idxOf
abbrev y4:= @Bool.false_and
abbrev y6:= @Bool.and_false
abbrev y8:= @List.take_zero
abbrev y9:= @Bool.xor_false
namespace L2
open PySem PySem.Spec PyProof.Rows
abbrev Key:=Sum Int Str
def NL:Key->Value->Bool
 | .inl k,v=>Value.isInt k v
 | .inr x,v=>Value.isStrOf x v
def Xz(w:World):Key->Int
 | .inl k=>hashInt k
 | .inr x=>hashStr w x
theorem cW:∀{k:Key}{v:Value},NL k v=true->(∃i t,k=Sum.inl i/\v=Value.int i t)\/(∃x t,k=Sum.inr x/\v=Value.str x t)
 | .inl i,v,h=>by
  obtain⟨t,e⟩:=Value.isInt_shape (k:=i) (v:=v) h;exact .inl #[i,t,rfl,e]
 | .inr x,v,h=>by
  obtain⟨t,e⟩:=Value.isStrOf_shape (x:=x) (v:=v) h;exact .inr #[x,t,rfl,e]
def Qx(a b:Int):decide ((Sum.inl a:Key)=Sum.inl b)=(a==b):=by
 by_cases e:a=b
 .subst e;simp
 .have h:¬(Sum.inl a:Key)=Sum.inl b:=λq=>e (Sum.inl.inj q)
  rw[Gc h];exact(aat.mpr e).symm
def QB(a b:Str):decide ((Sum.inr a:Key)=Sum.inr b)=decide (a=b):=by
 by_cases e:a=b
 .subst e;simp
 .have h:¬(Sum.inr a:Key)=Sum.inr b:=λq=>e (Sum.inr.inj q)
  rw[Gc h,Gc e]
def Qy(a:Int)(b:Str):decide ((Sum.inl a:Key)=Sum.inr b)=false:=Gc (λq=>nomatch q)
def QA(a:Str)(b:Int):decide ((Sum.inr a:Key)=Sum.inl b)=false:=Gc (λq=>nomatch q)
def yb(prog:Program)(w:World):PySem.KeyKind prog w Key where
 is:=NL
 hash:=Xz w
 inj:=λv a b g f=>by
  rcases cW g with ⟨i,t,rfl,rfl⟩ | ⟨x,t,rfl,rfl⟩
  .rcases cW f with ⟨j,u,rfl,e⟩ | ⟨y,u,rfl,e⟩
   .injection e with c _;rw[c]
   .exact nomatch e
  .rcases cW f with ⟨j,u,rfl,e⟩ | ⟨y,u,rfl,e⟩
   .exact nomatch e
   .injection e with c _;rw[c]
 byValue:=λk v h=>by
  rcases cW h with ⟨i,t,rfl,rfl⟩ | ⟨x,t,rfl,rfl⟩<;>rfl
 pyHash:=λd h=>by
  rcases cW d with ⟨i,t,rfl,rfl⟩ | ⟨x,t,rfl,rfl⟩
  .exact wpAny_pyHash_int h
  .exact wpAny_pyHash_str h
 eqBool:=λl d h=>by
  rcases cW l with ⟨i,t,rfl,rfl⟩ | ⟨x,t,rfl,rfl⟩
  .rcases cW d with ⟨j,u,rfl,rfl⟩ | ⟨y,u,rfl,rfl⟩
   .rw[Qx] at h;exact wpAny_eqBool_int h
   .rw[Qy] at h;exact SeqAt.EqAt.int_str i t y u _ _ _ _ h
  .rcases cW d with ⟨j,u,rfl,rfl⟩ | ⟨y,u,rfl,rfl⟩
   .rw[QA] at h;exact SeqAt.EqAt.str_int x t j u _ _ _ _ h
   .rw[QB] at h;exact wpAny_eqBool_str h
 «strs»:=λk x t v h=>by
  rcases cW h with ⟨i,u,rfl,e⟩ | ⟨y,u,rfl,e⟩
  .exact nomatch e
  .injection e with c _
   subst c;cases v<;>rfl
inductive V where
 |aY|bl (b:Bool) |int (i:Int) |str (x:Str) |Kq (b:Array UInt8) |Ht (b:UInt64) |ref (a:Addr) |ty (n:String)
 deriving DecidableEq
def RelV:V->Value->Prop
 | .aY,u=>u=Value.none
 | .bl b,u=>u=Value.bool b
 | .int i,u=>∃t,u=Value.int i t
 | .str x,u=>∃t,u=Value.str x t
 | .Kq b,u=>∃t,u=Value.bytes b t
 | .Ht b,u=>∃t,u=Value.float b t
 | .ref a,u=>u=Value.ref a
 | .ty n,u=>u=Value.type n
abbrev Vals:List V->List Value->Prop:=Paired RelV
theorem Vals.length{xs:List V}{a:List Value}(r:Vals xs a):xs.length=a.length:=Paired.length r
theorem Vals.get:∀{a:List V}{b:List Value}{i:Nat}{x:V},Vals a b->a[i]? =some x->∃u,b[i]? =some u/\RelV x u
 |_,_,_,_, .nil,e=>by simp at e
 |_,_,0,_, .cons r _,e=>by simp at e;subst e;exact#[_,rfl,r]
 |_,_,i+1,x, .cons _ t,e=>by
  obtain⟨u,c,d⟩:=Vals.get (i:=i) (x:=x) t (by simpa using e)
  exact#[u,by simpa using c,d]
theorem Vals.set{x:V}(r:RelV x u):∀{a:List V}{b:List Value}(i:Nat),Vals a b->Vals (a.set i x) (b.set i u)
 |_,_,_, .nil=> .nil
 |_,_,0, .cons _ t=> .cons r t
 |_,_,i+1, .cons q t=> .cons q (Vals.set r i t)
theorem Vals.append:∀{a b:List V}{c d:List Value},Vals a c->Vals b d->Vals (a++b) (c++d)
 |_,_,_,_, .nil,s=>s
 |_,_,_,_, .cons r t,s=> .cons r (Vals.append t s)
theorem Vals.take:∀{xs:List V}{a:List Value}(n:Nat),Vals xs a->Vals (xs.take n) (a.take n)
 |_,_,0,_=> .nil
 |_,_,_+1, .nil=> .nil
 |_,_,n+1, .cons r t=> .cons r (Vals.take n t)
theorem Vals.drop:∀{xs:List V}{a:List Value}(n:Nat),Vals xs a->Vals (xs.drop n) (a.drop n)
 |_,_,0,r=>r
 |_,_,_+1, .nil=> .nil
 |_,_,n+1, .cons _ t=>Vals.drop n t
def ke:Option V->Option Value->Prop
 |some v,some u=>RelV v u
 |none,none=>True
 |_,_=>False
def KV{a:Type}:List (a×V)->List (a×Value)->Prop:=Paired λ(p:a×V)(q:a×Value)=>p.1=q.1/\RelV p.2 q.2
def kV:Key->V
 | .inl i=> .int i
 | .inr x=> .str x
inductive HO where
  |lst (xs:List V)
  |tup (xs:List V)
  |dK (fe:List (Key×V)) |dT (fe:List (List Key×V))
  |set (S:Int->Bool) (n:Nat)
  |ins (C dx:Addr) (fs:List (Str×V))
  |own (x:Addr)
  |xd (fs:List (Str×V))
  |met (f x:Addr)
  |rng (lo hi:Int)
  |qC (o:Obj) (u:HO)
  |Gs (ps:Array Value)
  |ext (φ:Heap->Prop)
abbrev Hp:=Addr->Option HO
def upd(H:Hp)(a:Addr)(o:HO):Hp:=λb=>if b=a then some o else H b
def au{a:Addr}{o:HO}:upd H a o a=some o:=by unfold upd;rw[tz rfl]
def aw{a b:Addr}{o:HO}(h:b≠a):upd H a o b=H b:=by unfold upd;rw[mo h]
def aC{H:Hp}{a b:Addr}{o:HO}(h:H a=some o)(h':H b=none):a≠b:=by
 intro e;subst e;rw[h] at h';cases h'
section
variable (P:Program) (w:World)
def cn(H:Hp)(h:Heap)(a:Addr):HO->Prop
 | .lst c=>c.length<=sizeLine/\∃(b:List Value)(n:Nat),Vals c b/\h.get? a=some {cls:= .type "list",data:= .seq b.toArray n}
 | .tup c=>c.length<=sizeLine/\∃b:List Value,Vals c b/\IsTup h a b.toArray
 | .dK e=>e.length<=sizeLine/\(a==sysModules)=false/\∃j,KV e j/\h.DictOf (yb P w) a j
 | .dT e=>e.length<=sizeLine/\(a==sysModules)=false/\∃c:List (List Key×Addr×Value),
   Paired (λ(p:List Key×V)(q:List Key×Addr×Value)=>p.1=q.1/\H q.2.1=some (.tup (p.1.map kV))/\RelV p.2 q.2.2) e c/\
   ∃o k r,h.get? a=some o/\o.ExactDict/\o.data= .dict k r/\k.toList=c.map (entryOfKey (tupleKind (yb P w)))/\(c.map (·.1)).Nodup
 | .set S n=>h.SetOf (intKind P w) a S n
 | .ins C g fs=>H g=some (.own a)/\fs.length<=1000/\g≠a/\h.get? a=some (b4 C g)/\
   ∃d,h.Ns1 g d/\(∀f,ke (fs.lookup f) (d f))/\b5 d (fs.map (·.1))
 | .own _=>∃o,h.get? a=some o
 | .xd fs=>∃d,h.Ns1 a d/\∀f,ke (fs.lookup f) (d f)
 | .rng lo s=>∃t u v,h.get? a=some {cls:= .type "range",data:= .fields [.int lo t, .int s u, .int 1 v].toArray}
 | .qC o u=>h.get? a=some o/\cn H h a u
 | .Gs y=>h.get? a=some {cls:= .none,data:= .fields y}
 | .met f x=>h.get? a=some (cv (.ref f) (.ref x))
 | .ext i=>i h/\(∃o,h.get? a=some o)/\∀l m:Heap,i l->(∀o,l.get? a=some o->m.get? a=some o)->i m
def gx(H:Hp)(h:Heap):Prop:=∀a o,H a=some o->cn P w H h a o
end
section
variable {P:Program} {w:World} {H H':Hp} {h h':Heap} {a:Addr} {o:HO}
theorem cn.lt(x:cn P w H h a o):a<h.objs.size:=by
 cases o with
 |lst b=>obtain⟨_,_,_,_,e⟩:=x;exact Fk e
 |tup b=>obtain⟨_,_,_,p⟩:=x;exact p.lt
 |dK c=>obtain⟨_,_,_,_,o,_,_,e,_⟩:=x;exact Fk e
 |dT c=>obtain⟨_,_,_,_,o,_,_,e,_⟩:=x;exact Fk e
 |set S n=>obtain⟨o,_,_,_,e,_⟩:=x;exact Fk e
 |ins C d fs=>obtain⟨_,_,_,e,_⟩:=x;exact Fk e
 |own y=>obtain⟨_,e⟩:=x;exact Fk e
 |xd fs=>obtain⟨_,⟨_,_,_,e,_⟩,_⟩:=x;exact Fk e
 |rng lo g=>obtain⟨_,_,_,e⟩:=x;exact Fk e
 |qC i u=>obtain⟨e,_⟩:=x;exact Fk e
 |Gs j=>exact Fk (show h.get? a=some _ from x)
 |met f y=>exact Fk (show h.get? a=some _ from x)
 |ext k=>obtain⟨_,⟨_,e⟩,_⟩:=x;exact Fk e
theorem Paired.Sy:∀{c:List e}{d:List g},Paired F c d->(∀a b,F a b->G a b)->Paired G c d
 |_,_, .nil,_=> .nil
 |_,_, .cons r t,f=> .cons (f _ _ r) (Paired.Sy t f)
theorem cn.oK(x:cn P w H h a o)(k:∀b u,(b=a\/H b=some (.own a))->h.get? b=some u->h'.get? b=some u)
  (E:∀b,H b=some (.own a)->H' b=some (.own a)) (F:∀b m,H b=some (.tup m)->H' b=some (.tup m)):cn P w H' h' a o:=by
 induction o with
 |lst m=>obtain⟨z,l,n,r,e⟩:=x;exact#[z,l,n,r,k _ _ (.inl rfl) e]
 |tup m=>obtain⟨z,l,r,g,e,c⟩:=x;exact#[z,l,r,g,k _ _ (.inl rfl) e,c]
 |dK G=>obtain⟨z,y,I,r,g,i,j,e,c⟩:=x;exact#[z,y,I,r,g,i,j,k _ _ (.inl rfl) e,c]
 |dT G=>
  obtain⟨z,y,m,r,g,i,j,e,c⟩:=x;exact#[z,y,m,Paired.Sy r λp q z=>#[z.1,F _ _ z.2.1,z.2.2],g,i,j,k _ _ (.inl rfl) e,c]
 |set S n=>obtain⟨g,i,j,t,e,c⟩:=x;exact#[g,i,j,t,k _ _ (.inl rfl) e,c]
 |ins C N fs=>
  rfl';obtain⟨d,z,ne,e,s,⟨A,i,j,L,c⟩,r⟩:=x;ac_rfl;exact#[E _ d,z,ne,k _ _ (.inl rfl) e,s,#[A,i,j,k _ _ (.inr d) L,c],r]
 |own y=>obtain⟨g,e⟩:=x;exact#[g,k _ _ (.inl rfl) e]
 |xd fs=>obtain⟨s,⟨A,i,j,e,c⟩,r⟩:=x;exact#[s,#[A,i,j,k _ _ (.inl rfl) e,c],r]
 |rng lo Q=>obtain⟨t,u,v,e⟩:=x;exact#[t,u,v,k _ _ (.inl rfl) e]
 |qC g u M=>obtain⟨e,q⟩:=x;exact#[k _ _ (.inl rfl) e,M q]
 |Gs B=>
  have e:h.get? a=some {cls:= .none,data:= .fields B}:=x;show h'.get? a=some {cls:= .none,data:= .fields B};exact k a _ (.inl rfl) e
 |met f y=>
  have e:h.get? a=some (cv (.ref f) (.ref y)):=x;show h'.get? a=some (cv (.ref f) (.ref y));exact k a _ (.inl rfl) e
 |ext R=>obtain⟨p,⟨o,e⟩,st⟩:=x;exact#[st _ _ p λo q=>k _ _ (.inl rfl) q,#[o,k _ _ (.inl rfl) e],st]
theorem gx.lt(x:gx P w H h)(e:H a=some o):a<h.objs.size:=(x a o e).lt
def gx.fresh(x:gx P w H h)(e:h.objs.size<=a):H a=none:=by
 cases q:H a with
 |none=>rfl
 |some u=>exact absurd (fk (x.lt q) e) (gq _)
def gx.kept(x:gx P w H h)(k:∀b u,h.get? b=some u->h'.get? b=some u):gx P w H h':=λa o e=>
 (x a o e).oK (λb u _ q=>k b u q) (λ_ q=>q) λ_ _ q=>q
def gx.laid(x:gx P w H h)(k:∀b u,h.get? b=some u->h'.get? b=some u)(g:h.objs.size<=a)(new:cn P w (upd H a o) h' a o):gx P w (upd H a o) h':=λb u e=>by
 have d:=x.fresh g
 by_cases f:b=a
 .subst f;rw[au] at e;cases e;exact new
 .rw[aw f] at e
  exact(x b u e).oK (λc v _ q=>k c v q) (λc q=>by rw[aw (aC q d)];exact q) λc i q=>by rw[aw (aC q d)];exact q
end
def Rd(H:Hp)(a:Addr)(u:HO):Prop:=H a=some u\/∃o,H a=some (.qC o u)
def Rd.ok{P:Program}{w:World}{H:Hp}{a:Addr}(r:Rd H a u)(x:gx P w H h):cn P w H h a u:=by
 rcases r with r| ⟨o,r⟩
 .exact x a u r
 .obtain⟨_,q⟩:=x a _ r
  exact q
def L7:Option HO->Prop
 |some (.lst _)=>True
 |some (.dK _)=>True
 |some (.dT _)=>True
 |some (.set _ _)=>True
 |some (.ins _ _ _)=>True
 |some (.ext _)=>True
 |_=>False
section
variable {P:Program} {w:World} {H:Hp} {h h':Heap} {x e:Addr} {o':HO}
def gx.write(ok:gx P w H h)(a:L7 (H x))(j:e=x\/H e=some (.own x))(k:∀b u,b≠e->h.get? b=some u->h'.get? b=some u)(n:∃u,h'.get? e=some u)
  (new:cn P w (upd H x o') h' x o'):gx P w (upd H x o') h':=λb u q=>by
 have l:∀c y,H c=some (.own y)->c≠x:=λc y r z=>by subst z;rw[r] at a;exact a
 have o:∀c d,H c=some (.tup d)->c≠x:=λc d r z=>by subst z;rw[r] at a;exact a
 by_cases f:b=x
 .subst f;rw[au] at q;cases q;exact new
 .rw[aw f] at q
  by_cases g:b=e
  .have m:H b=some (.own x):=by
    rcases j with z|z
    .exact absurd (g.trans z) f
    .rw[g];exact z
   obtain⟨v,p⟩:=n;rw[q] at m;cases m;exact#[v,by rw[g];exact p]
  .refine(ok b u q).oK (λc v i r=>k c v ?_ r) (λc r=>by rw[aw (l c b r)];exact r) λc d r=>by rw[aw (o c d r)];exact r
   rcases i with rfl|i
   .exact g
   .rintro rfl
    rcases j with z|z
    .exact l c b i z
    .rw[i] at z;cases z;exact f rfl
end
structure Un (fs ex:List Addr) (H H':Hp) (h h':Heap):Prop where
 keep:∀b o,h.get? b=some o->H b=none->b∉fs->b∉ex->h'.get? b=some o
 slot:∀b o,h.get? b=some o->H b=none->b∈fs->b∉ex->∃sl,h'.get? b=some {o with slots:=sl}
 free:∀b o,h.get? b=some o->H b=none->b∉ex->H' b=none
 there:∀b o,h.get? b=some o->b∉ex->∃o',h'.get? b=some o'
 tups:∀b xs,H b=some (.tup xs)->H' b=some (.tup xs)
 frzs:∀b o u,H b=some (.qC o u)->H' b=some (.qC o u)
 tbls:∀b ps,H b=some (.Gs ps)->∃more,H' b=some (.Gs (ps++more))
section
variable {fs ZY ex pL:List Addr} {H H1 H2:Hp} {h h1 h2 h':Heap} {a x e:Addr} {o:HO}
def Un.any(u:Un fs ex H H1 h h1)(q:h.get? b=some c)(n:H b=none)(d:b∉ex):∃g,h1.get? b=some {c with slots:=g}:=by
 by_cases f:b∈fs
 .exact u.slot b c q n f d
 .exact#[c.slots,u.keep b c q n f d]
def Un.kept(k:∀b u,h.get? b=some u->h'.get? b=some u):Un fs ex H H h h':=
 #[λb c q _ _ _=>k b c q,λb c q _ _ _=>#[c.slots,k b c q],λ_ _ _ n _=>n,λb c q _=>#[c,k b c q],λ_ _ q=>q,λ_ _ _ q=>q,λ_ d q=>#[#[],by rw[q];simp]]
def Un.refl:Un fs ex H H h h:=Un.kept λ_ _ q=>q
def Un.laid(k:∀b u,h.get? b=some u->h'.get? b=some u)(d:h.objs.size<=a)(c:H a=none):Un fs ex H (upd H a o) h h' where
 keep:=λb u q _ _ _=>k b u q
 slot:=λb u q _ _ _=>#[u.slots,k b u q]
 free:=λb u q n _=>by rw[aw (bO (fk (Fk q) d))];exact n
 there:=λb u q _=>#[u,k b u q]
 tups:=λb f q=>by rw[aw (aC q c)];exact q
 frzs:=λb u f q=>by rw[aw (aC q c)];exact q
 tbls:=λb g q=>#[#[],by rw[aw (aC q c),q];simp]
def Un.write(c:L7 (H x))(j:e=x\/H e=some (.own x))(k:∀b u,b≠e->h.get? b=some u->h'.get? b=some u)(l:∃u,h'.get? e=some u):Un fs ex H (upd H x o) h h':=by
 have f:∀b,H b=none->b≠x:=λb n z=>by subst z;rw[n] at c;exact c
 have g:∀b,H b=none->b≠e:=λb n z=>by
  subst z
  rcases j with r|r
  .exact f b n r
  .rw[n] at r;cases r
 have d:∀b u,H b=some u->¬L7 (some u)->b≠x:=λb u q m z=>by subst z;rw[q] at c;exact m c
 refine#[λb u q n _ _=>k b u (g b n) q,λb u q n _ _=>#[u.slots,k b u (g b n) q],λb u q n _=>by rw[aw (f b n)];exact n,λb u q _=>?_,
  λb p q=>by rw[aw (d b _ q λz=>z)];exact q,λb u p q=>by rw[aw (d b _ q λz=>z)];exact q,λb s q=>#[#[],by rw[aw (d b _ q λz=>z),q];simp]]
 by_cases i:b=e
 .subst i;exact l
 .exact#[u,k b u i q]
end
def RN(h:Heap)(H:Hp):List Addr:=(aB h.objs.size).filter λa=>(H a).isSome
def sF(h:Heap)(H:Hp):Heap:=PySem.W.hideAll h (RN h H)
def HG(h:Heap)(H:Hp):(sF h H).objs.size=h.objs.size:=PySem.W.hideAll_size _ _
def K2(e:h.get? b=some o)(n:H b=none):(sF h H).get? b=some o:=
 PySem.W.hideAll_get _ e λa=>by
  have q:(H b).isSome=true:=(vD.mp a).2;rw[n] at q;simp at q
def N7(e:(sF h H).get? b=some o):h.get? b=some o/\H b=none:=by
 have a:h.get? b=some o:=PySem.W.of_hideAll (RN h H) e;exists a;cases q:H b with
 |none=>rfl
 |some x=>
  have c:b∈RN h H:=vD.mpr #[gQ.mpr (Fk a),by simp[q]]
  have z:(sF h H).get? b=none:=PySem.W.hideAll_none (RN h H) c;rw[z] at e;cases e
structure Mod (K:aj) (mg:Str->Option Value) (base:Heap):Prop where
 kin:K.In base
 glob:base.Ns mainGlobals mg
 blt:∃mb,base.Ns builtinsNs mb/\∀x:Str,x≠"__name__"->mb x=bootBuiltins x
 nolimit:base.NoLimit
structure Cx where
 prog:Program
 w:World
 K:aj
 mg:Str->Option Value
 base:Heap
 A:Around
 N:List Str
 s₀:Shared
 H₀:Hp
 env:Env
 outer:List Env
 stack:List Env
 ex:List Addr
 fn:Str->Bool
 calm:Bool
 pn:List (Addr×Obj)
 xe:Value->Shared->Prop
def rZ(l:List Env):List Addr:=l.filterMap (·.frame)
abbrev Cx.fs(X:Cx):List Addr:=rZ X.outer
def pI(a:Scope)(x:Str):Prop:=a.names.lookup x=some .local\/a.names.lookup x=some .cell\/a.names.lookup x=some .free
def Loc(a:Scope)(x:Str):Prop:=a.names.lookup x=some .local\/a.names.lookup x=some .cell
def Look(env:Env)(h:Heap)(m:Str->Option Value)(x:Str)(u:Value):Prop:=
 (env.kindOf x=some .local/\m x=some u)\/((env.kindOf x=some .cell\/env.kindOf x=some .free)/\∃c,env.cells.lookup x=some c/\h.IsCell c (some u))
structure Cx.Ok (X:Cx):Prop where
 mod:Mod X.K X.mg X.base
 kind:X.env.scope.kind= .function
 glob:X.env.globals=mainGlobals
 blt:X.env.builtins=builtinsNs
 above:X.s₀.heap.objs.size<=X.env.locals
 inj:∀x y c,X.env.cells.lookup x=some c->X.env.cells.lookup y=some c->x=y
 has:∀x,(X.env.kindOf x=some .cell\/X.env.kindOf x=some .free)->∃c,X.env.cells.lookup x=some c
 cab:∀x c,X.fn x=true->X.env.cells.lookup x=some c->X.s₀.heap.objs.size<=c
 hd:X.calm=true->X.A.handled=none
 frames:X.A.frames=some X.stack
 stk:X.stack=X.outer\/(X.stack=X.env::X.outer/\X.env.frame=some X.env.locals)
 exf:∀b∈X.ex,b≠X.env.locals/\∀x c,X.env.cells.lookup x=some c->c≠b
 bs:∀b o,X.base.get? b=some o->X.s₀.heap.get? b=some o/\X.H₀ b=none
 bsz:X.base.objs.size<=X.s₀.heap.objs.size
 noex:∀b o,X.base.get? b=some o->b∉X.ex
 exfs:∀b∈X.ex,b∉X.fs
 funs:X.s₀.heap.FunFrames X.base X.outer
 frf:∀b∈X.fs,X.H₀ b=none
structure Inv (X:Cx) (pins:List (Addr×Obj)) (σ:List (Option V)) (H:Hp) (s:Shared):Prop where
 ok:X.Ok
 os:s.os=X.s₀.os
 bare:AllBare s.gens
 base:Un X.fs X.ex X.H₀ H X.s₀.heap s.heap
 loc:∃m,s.heap.Ns X.env.locals m/\∀(i:Nat)(x:Str)(v:V),X.N[i]? =some x->σ[i]? =some (some v)->pI X.env.scope x->∃u,RelV v u/\Look X.env s.heap m x u
 cell:∀x c,X.env.cells.lookup x=some c->∃v,s.heap.IsCell c v
 free:H X.env.locals=none
 freeC:∀x c,X.env.cells.lookup x=some c->H c=none
 pin:∀p∈X.pn++pins,s.heap.get? p.1=some p.2/\H p.1=none/\p.1≠X.env.locals/\p.1∉X.fs/\∀v,p.2.data≠ .cell v
 hok:gx X.prog X.w H s.heap
 len:σ.length=X.N.length
section
variable {X:Cx} {pins:List (Addr×Obj)} {σ:List (Option V)} {H H':Hp} {s:Shared} {h':Heap}
def Cx.Ok.XW(ok:X.Ok)(e:X.base.get? b=some o):b∉X.fs:=λa=>by
 have:=(ok.funs.mem a).1
 rw[e] at this;cases this
theorem Inv.bs(I:Inv X pins σ H s):∀b o,X.base.get? b=some o->s.heap.get? b=some o/\H b=none:=λb o e=>
 #[I.base.keep b o (I.ok.bs b o e).1 (I.ok.bs b o e).2 (I.ok.XW e) (I.ok.noex b o e),I.base.free b o (I.ok.bs b o e).1 (I.ok.bs b o e).2 (I.ok.noex b o e)]
def Inv.bk(I:Inv X pins σ H s):∀b o,X.base.get? b=some o->s.heap.get? b=some o:=λb o e=>(I.bs b o e).1
theorem Inv.mod(I:Inv X pins σ H s):Mod X.K X.mg X.base:=I.ok.mod
def Inv.cR(I:Inv X pins σ H s):X.K.In s.heap:=I.ok.mod.kin.keeps I.bk
theorem Inv.lt(I:Inv X pins σ H s):X.env.locals<s.heap.objs.size:=let #[_,a,_]:=I.loc;a.lt
def Inv.sz(I:Inv X pins σ H s):X.s₀.heap.objs.size<=s.heap.objs.size:=jr I.ok.above (uW I.lt)
def Inv.SE(I:Inv X pins σ H s)(h:s.heap.objs.size<=a):a∉X.fs:=λb=>by
 obtain⟨_,o,c,_⟩:=I.ok.funs.mem b;exact absurd (fk (Fk c) (jr I.sz h)) (gq _)
def Inv.wK(I:Inv X pins σ H s):∀x c,X.env.cells.lookup x=some c->c≠X.env.locals:=λx c e z=>by
 obtain⟨v,o,a,b⟩:=I.cell x c e;obtain⟨m,⟨g,h,i,d,f,_⟩,_⟩:=I.loc;rw[z,d] at a;cases a;rw[f] at b;cases b
theorem Inv.funs(I:Inv X pins σ H s):s.heap.FunFrames X.base X.outer:=by
 have all:∀(l:List Env),(∀b∈rZ l,b∈X.fs)->X.s₀.heap.FunFrames X.base l->s.heap.FunFrames X.base l:=by
  intro l
  induction l with
  |nil=>intro _ _;trivial
  |cons env r g=>
   intro f h;rfl';obtain⟨j,⟨L,o,a,k,m,n⟩,p⟩:=h;have c:L∈X.fs:=f L (by unfold rZ;rw[abz,a];exact dE)
   obtain⟨t,e⟩:=I.base.slot L o m (I.ok.frf L c) c λz=>I.ok.exfs L z c;ac_rfl;exact#[j,#[L,_,a,k,e,n],g (λb d=>f b (by unfold rZ;rw[abz,a];exact eM _ d)) p]
 exact all X.outer (λ_ d=>d) I.ok.funs
theorem Inv.stack(I:Inv X pins σ H s):s.heap.FunFrames X.base X.stack:=by
 rcases I.ok.stk with e| ⟨e,a⟩
 .rw[e];exact I.funs
 .rw[e]
  obtain⟨m,b,_⟩:=I.loc;refine .cons (by rw[I.ok.kind];decide) a b ?_ I.funs
  exact Heap.get?_none_of_le (jr I.ok.bsz I.ok.above)
def Inv.D9(I:Inv X pins σ H s):∀b∈rZ X.stack,b∈X.env.locals::X.fs:=λb a=>by
 rcases I.ok.stk with e| ⟨e,c⟩
 .rw[e] at a;exact eM _ a
 .rw[e] at a
  unfold rZ at a;rw[abz,c] at a;exact a
def Inv.yM(I:Inv X pins σ H s):∀b∈rZ X.stack,H b=none:=λb a=>by
 rcases b8.mp (I.D9 b a) with e|a
 .rw[e];exact I.free
 .obtain⟨_,o,c,_⟩:=I.ok.funs.mem a
  exact I.base.free b o c (I.ok.frf b a) λz=>I.ok.exfs b z a
def Inv.step{g':Array GenState}{d':Drawn}{ch:List Addr}(I:Inv X pins σ H s)
  (t:∀b∈ch,(b∈X.ex\/X.s₀.heap.objs.size<=b)/\b≠X.env.locals/\(∀x c,X.env.cells.lookup x=some c->c≠b)/\∀p∈X.pn++pins,p.1≠b)
  (keep:∀b o,b≠X.env.locals->b∉X.fs->b∉ch->s.heap.get? b=some o->H b=none->h'.get? b=some o)
  (slot:∀b o,b≠X.env.locals->b∈X.fs->b∉ch->s.heap.get? b=some o->H b=none->∃E,h'.get? b=some {o with slots:=E}) (free:∀b o,b∉ch->s.heap.get? b=some o->H b=none->H' b=none)
  (there:∀b o,b∉ch->s.heap.get? b=some o->∃y,h'.get? b=some y)
  (tups:∀b xs,H b=some (.tup xs)->H' b=some (.tup xs)) (frzs:∀b o u,H b=some (.qC o u)->H' b=some (.qC o u)) (tbls:∀b C,H b=some (.Gs C)->∃more,H' b=some (.Gs (C++more)))
  (N:∀m,s.heap.Ns X.env.locals m->h'.Ns X.env.locals m) (hok:gx X.prog X.w H' h') (O:AllBare g'):
  Inv X pins σ H' {s with heap:=h',gens:=g',drawn:=d',toks:=t'}:=by
 have G:∀b o,X.s₀.heap.get? b=some o->b≠X.env.locals:=λb o e=>bO (fk (Fk e) I.ok.above)
 have Ic:∀b o,X.s₀.heap.get? b=some o->b∉X.ex->b∉ch:=λb o e a h=>by
  rcases(t b h).1 with z|z
  .exact a z
  .exact absurd (fk (Fk e) z) (gq _)
 have f:∀x c,X.env.cells.lookup x=some c->∀v,s.heap.IsCell c v->h'.IsCell c v:=λx c e v #[o,j,F]=>by
  have A:c∉ch:=λz=>(t c z).2.2.1 x c e rfl
  by_cases J:c∈X.fs
  .obtain⟨E,q⟩:=slot c o (I.wK x c e) J A j (I.freeC x c e)
   exact#[_,q,F]
  .exact#[o,keep c o (I.wK x c e) J A j (I.freeC x c e),F]
 refine#[I.ok,I.os,O,#[λb o e n h a=>?_,λb o e n h a=>?_,λb o e n a=>?_,λb o e a=>?_,λb xs e=>tups b xs (I.base.tups b xs e),λb o xs e=>frzs b o xs (I.base.frzs b o xs e),λb C e=>?_],?_,λx c e=>?_,?_,λx c e=>?_,λp L=>?_,hok,I.len]
 .exact keep b o (G b o e) h (Ic b o e a) (I.base.keep b o e n h a) (I.base.free b o e n a)
 .obtain⟨E,g⟩:=I.base.slot b o e n h a
  obtain⟨P,B⟩:=slot b _ (G b o e) h (Ic b o e a) g (I.base.free b o e n a);exact#[P,B]
 .obtain⟨y,g⟩:=I.base.there b o e a
  exact free b y (Ic b o e a) g (I.base.free b o e n a)
 .obtain⟨y,g⟩:=I.base.there b o e a
  exact there b y (Ic b o e a) g
 .obtain⟨Q,g⟩:=I.base.tbls b C e
  obtain⟨R,B⟩:=tbls b _ g;exact#[Q++R,by rw[B,Array.append_assoc]]
 .obtain⟨m,S,T⟩:=I.loc
  refine#[m,N m S,λi x v g B U=>?_];obtain⟨u,r,l⟩:=T i x v g B U;exists u,r
  rcases l with l| ⟨k,c,e,z⟩
  .exact .inl l
  .exact .inr #[k,c,e,f x c e _ z]
 .obtain⟨v,z⟩:=I.cell x c e
  exact#[v,f x c e v z]
 .obtain⟨m,⟨o,_,_,j,_⟩,_⟩:=I.loc
  exact free _ o (λz=>(t _ z).2.1 rfl) j I.free
 .obtain⟨v,o,j,F⟩:=I.cell x c e
  exact free c o (λz=>(t c z).2.2.1 x c e rfl) j (I.freeC x c e)
 .obtain⟨e,n,ne,M,d⟩:=I.pin p L
  have A:p.1∉ch:=λz=>(t p.1 z).2.2.2 p L rfl;exact#[keep p.1 p.2 ne M A e n,free p.1 p.2 A e n,ne,M,d]
def Inv.un{t':Nat}(I:Inv X pins σ H s)(u:Un X.fs [] H H' s.heap h')(hok:gx X.prog X.w H' h'):Inv X pins σ H' {s with heap:=h',toks:=t'}:=by
 rfl';obtain⟨m,⟨o,p,q,d,r⟩,_⟩:=id I.loc;obtain⟨t,h⟩:=u.any d I.free (by simp)
 ac_rfl
 exact I.step (g':=s.gens) (d':=s.drawn) (ch:= []) (λ_ z=>nomatch z) (λb o _ c _ e n=>u.keep b o e n c (by simp)) (λb o _ c _ e n=>u.slot b o e n c (by simp)) (λb o _ e n=>u.free b o e n (by simp)) (λb o _ e=>u.there b o e (by simp)) u.tups u.frzs u.tbls (λv i=>by
  rfl';obtain⟨x,j,k,f,l⟩:=i;ac_rfl;rw[d] at f;cases f;exact#[_,j,k,h,l]) hok I.bare
def Inv.call{g':Array GenState}{t':Nat}{d':Drawn}{ch:List Addr}(I:Inv X pins σ H s)(u:Un (rZ X.stack) ch H H' s.heap h')(hok:gx X.prog X.w H' h')(j:AllBare g')
  (g:∀b∈ch,(b∈X.ex\/X.s₀.heap.objs.size<=b)/\b≠X.env.locals/\(∀x c,X.env.cells.lookup x=some c->c≠b)/\∀p∈X.pn++pins,p.1≠b):
  Inv X pins σ H' {s with heap:=h',gens:=g',drawn:=d',toks:=t'}:=by
 rfl';obtain⟨m,⟨o,A,B,h,r⟩,_⟩:=id I.loc;obtain⟨C,f⟩:=u.any h I.free λz=>(g _ z).2.1 rfl;ac_rfl
 exact I.step (ch:=ch) g (λb o f l a e n=>u.keep b o e n (λz=>(b8.mp (I.D9 b z)).elim f l) a) (λb o _ _ a e n=>u.any e n a) (λb o a e n=>u.free b o e n a) (λb o a e=>u.there b o e a) u.tups u.frzs u.tbls (λE q=>by
  rfl';obtain⟨F,t,v,i,y⟩:=q;ac_rfl;rw[h] at i;cases i;exact#[_,t,v,f,y]) hok j
def Inv.turned{t':Nat}{it:Addr}(I:Inv X pins σ H s)(k:∀b o,b≠it->s.heap.get? b=some o->h'.get? b=some o)(g:H it=none)(d:it≠X.env.locals)
  (h:it∈X.ex\/X.s₀.heap.objs.size<=it) (i:∀x c,X.env.cells.lookup x=some c->c≠it) (j:∀p∈X.pn++pins,p.1≠it):Inv X pins σ H {s with heap:=h',toks:=t'}:=by
 have f:∀b u,H b=some u->b≠it:=λb u e z=>by rw[z,g] at e;cases e
 refine I.step (g':=s.gens) (d':=s.drawn) (ch:= [it]) (λb l=>?_) (λb o _ _ a e _=>k b o (λz=>a (by simp[z])) e) (λb o _ _ a e _=>#[o.slots,k b o (λz=>a (by simp[z])) e]) (λ_ _ _ _ n=>n)
  (λb o a e=>#[o,k b o (λz=>a (by simp[z])) e]) (λ_ _ e=>e) (λ_ _ _ e=>e) (λb B e=>#[#[],by rw[e];simp]) (λm t=>?_) (λb u e=>?_) I.bare
 .have e:b=it:=by simpa using l
  subst e;exact#[h,d,i,j]
 .obtain⟨o,w,y,A,r⟩:=t
  exact#[o,w,y,k _ o (Ne.symm d) A,r]
 .refine(I.hok b u e).oK (λc v a q=>k c v ?_ q) (λ_ q=>q) λ_ _ q=>q
  rcases a with z|z
  .rw[z];exact f b u e
  .exact f c _ z
def Inv.tok(I:Inv X pins σ H s)(t:Nat):Inv X pins σ H {s with toks:=t}:=I.un (h':=s.heap) (t':=t) Un.refl I.hok
theorem Inv.kept{t':Nat}(I:Inv X pins σ H s)(k:∀b u,s.heap.get? b=some u->h'.get? b=some u):Inv X pins σ H {s with heap:=h',toks:=t'}:=I.un (Un.kept k) (I.hok.kept k)
theorem Inv.laid{a:Addr}{o:HO}{t':Nat}(I:Inv X pins σ H s)(k:∀b u,s.heap.get? b=some u->h'.get? b=some u)(c:s.heap.objs.size<=a)(new:cn X.prog X.w (upd H a o) h' a o):
  Inv X pins σ (upd H a o) {s with heap:=h',toks:=t'}:=I.un (Un.laid k c (I.hok.fresh c)) (I.hok.laid k c new)
theorem Inv.write{x e:Addr}{o:HO}{t':Nat}(I:Inv X pins σ H s)(a:L7 (H x))(c:e=x\/H e=some (.own x))(k:∀b u,b≠e->s.heap.get? b=some u->h'.get? b=some u)(d:∃u,h'.get? e=some u)
  (new:cn X.prog X.w (upd H x o) h' x o):Inv X pins σ (upd H x o) {s with heap:=h',toks:=t'}:=I.un (Un.write a c k d) (I.hok.write a c k d new)
def Inv.tj(I:Inv X pins σ H s)(h:∀p∈a,s.heap.get? p.1=some p.2/\H p.1=none/\p.1≠X.env.locals/\p.1∉X.fs/\∀v,p.2.data≠ .cell v):Inv X a σ H s:=
 #[I.ok,I.os,I.bare,I.base,I.loc,I.cell,I.free,I.freeC,λp b=>(eG.mp b).elim (λz=>I.pin p (i8 _ z)) (h p),I.hok,I.len]
def uB{N:List Str}(c:N.Nodup){i j:Nat}{x:Str}(a:N[i]? =some x)(b:N[j]? =some x):i=j:=by
 obtain⟨f,d⟩:=cX.mp a;obtain⟨g,e⟩:=cX.mp b;exact(List.getElem_inj c).mp (d.trans e.symm)
def store_ok2(I:Inv X pins σ H s)(hN:X.N.Nodup)(O:X.N[i]? =some x)(B:Loc X.env.scope x)(r:RelV v u)
  (h:∀S,Inv X pins (σ.set i (some v)) H S->(∃a,Heap.SameBut a s.heap S.heap/\(a=X.env.locals\/X.env.cells.lookup x=some a))->Q () S) (hf:X.fn x=true\/X.env.scope.names.lookup x=some .local:=by subst_eqs):wpAny M A (storeName X.env x u) Q E s:=by
 obtain⟨m,T,hl⟩:=id I.loc;have Ff:(X.env.scope.kind== .class|| (X.env.scope.kind== .module&&X.env.locals !=X.env.globals))=false:=by rw[I.ok.kind];rfl
 have JH:i<σ.length:=by rw[I.len];exact(cX.mp O).1
 have wK:=I.wK
 have g:∀{a:Addr}{L:Heap},(∃o,s.heap.get? a=some o/\H a=none)->Heap.SameBut a s.heap L->gx X.prog X.w H L:=λ {a L} ha f b ob e=>by
  obtain⟨_,_,Cn⟩:=ha;refine(I.hok b ob e).oK (λc P t q=>(f.2 c ?_).trans q) (λ_ q=>q) λ_ _ q=>q;rintro rfl
  rcases t with rfl|t
  .rw[Cn] at e;cases e
  .rw[Cn] at t;cases t
 rcases B with F|F
 .refine wpAny_storeName_local F T (λL Cr f=>?_) Ff
  obtain⟨oL,_,_,xI,_⟩:=id T;refine h _ #[I.ok,I.os,I.bare,#[λb o e n G B=>?_,λb o e n G B=>?_,I.base.free,λb o e B=>?_,I.base.tups,I.base.frzs,I.base.tbls],#[_,Cr,λj y U l C Y=>?_],λy c e=>?_,I.free,I.freeC,λp Z=>?_,g #[oL,xI,I.free] f,by simpa using I.len] #[_,f, .inl rfl]
  .exact(f.2 b (bO (fk (Fk e) I.ok.above))).trans (I.base.keep b o e n G B)
  .obtain⟨sl,l⟩:=I.base.slot b o e n G B
   exact#[sl,(f.2 b (bO (fk (Fk e) I.ok.above))).trans l]
  .obtain⟨o',l⟩:=I.base.there b o e B
   exact#[o',(f.2 b (bO (fk (Fk e) I.ok.above))).trans l]
  .by_cases J:j=i
   .subst J
    rw[O] at l;cases l;rw[lL JH] at C;cases C;exact#[u,r, .inl #[F,by simp]]
   .rw[lM (Ne.symm J)] at C
    obtain⟨u',r',q⟩:=hl j y U l C Y;exists u',r'
    rcases q with ⟨k,e⟩ | ⟨k,c,e,z⟩
    .refine .inl #[k,?_]
     have:y≠x:=λe=>J (uB hN l (e▸O))
     simp[this,e]
    .exact .inr #[k,c,e,z.sameBut f (wK y c e)]
  .obtain⟨P,z⟩:=I.cell y c e
   exact#[P,z.sameBut f (wK y c e)]
  .obtain⟨e,n,ne,nf,d⟩:=I.pin p Z
   exact#[(f.2 p.1 ne).trans e,n,ne,nf,d]
 .have Uc:X.fn x=true:=by
   rcases hf with z|z
   .exact z
   .rw[z] at F;cases F
  obtain⟨c,t⟩:=I.ok.has x (.inl F);obtain⟨P,z⟩:=I.cell x c t;refine wpAny_storeName_cell I.ok.kind F t z (λL su f=>?_);obtain⟨oc,Xe,Xf⟩:=id z;refine h {s with heap:=L} #[I.ok,I.os,I.bare,#[λb o e n G B=>?_,λb o e n G B=>?_,I.base.free,λb o e B=>?_,I.base.tups,I.base.frzs,I.base.tbls],#[m,T.sameBut f (Ne.symm (wK x c t)),λj y U l C Y=>?_],λy R e=>?_,I.free,I.freeC,λp Z=>?_,g #[oc,Xe,I.freeC x c t] f,by simpa using I.len] #[c,f, .inr t]
  .exact(f.2 b (bO (fk (Fk e) (I.ok.cab x c Uc t)))).trans (I.base.keep b o e n G B)
  .obtain⟨sl,l⟩:=I.base.slot b o e n G B
   exact#[sl,(f.2 b (bO (fk (Fk e) (I.ok.cab x c Uc t)))).trans l]
  .obtain⟨o',l⟩:=I.base.there b o e B
   exact#[o',(f.2 b (bO (fk (Fk e) (I.ok.cab x c Uc t)))).trans l]
  .by_cases J:j=i
   .subst J
    rw[O] at l;cases l;rw[lL JH] at C;cases C;exact#[u,r, .inr #[.inl F,c,t,su]]
   .rw[lM (Ne.symm J)] at C
    obtain⟨u',r',q⟩:=hl j y U l C Y;exists u',r'
    rcases q with q| ⟨k,R,e,z'⟩
    .exact .inl q
    .refine .inr #[k,R,e,z'.sameBut f ?_]
     rintro rfl;exact J (uB hN l (I.ok.inj _ _ _ e t▸O))
  .by_cases WO:R=c
   .subst WO;exact#[_,su]
   .obtain⟨w2,z2⟩:=I.cell y R e
    exact#[w2,z2.sameBut f WO]
  .obtain⟨e,n,ne,nf,d⟩:=I.pin p Z
   refine#[(f.2 p.1 ?_).trans e,n,ne,nf,d];intro q;rw[q,Xe] at e;have q':oc=p.2:=FB e;exact d P (by rw[<-q'];exact Xf)
def jJ{x:Str}{v:V}(I:Inv X pins σ H s)(b:X.N.Nodup)(c:X.N[i]? =some x)(d:Loc X.env.scope x)(r:RelV v u)
  (h:∀a,Inv X pins (σ.set i (some v)) H a->Q () a) (e:X.fn x=true\/X.env.scope.names.lookup x=some .local:=by subst_eqs):wpAny M A (storeName X.env x u) Q E s:=
 store_ok2 I b c d r (λa f _=>h a f) e
def Inv.He{s':Shared}{ch:List Addr}(I:Inv X pins σ H s)(a:s'.os=s.os)(u:Un (rZ X.stack) ch H H' s.heap s'.heap)(hok:gx X.prog X.w H' s'.heap)(d:AllBare s'.gens)
  (f:∀b∈ch,(b∈X.ex\/X.s₀.heap.objs.size<=b)/\b≠X.env.locals/\(∀x c,X.env.cells.lookup x=some c->c≠b)/\∀p∈X.pn++pins,p.1≠b):Inv X pins σ H' s':=by
 obtain⟨h,g',d',t',g⟩:=s';have e:g=s.os:=a;subst e;exact I.call (g':=g') (t':=t') (d':=d') u hok d f
end
abbrev XK:=Value->Option Addr->Hp->Prop
abbrev St:=List (Option V)
abbrev VK:=V->Hp->Prop
abbrev TE:=St->Hp->VK->Prop
abbrev TT:=St->Hp->(Bool->Hp->Prop)->Prop
abbrev TA:=St->Hp->(List V->Hp->Prop)->Prop
structure Ends where
 nx:St->Hp->Prop
 rt:VK
 bk:St->Hp->Prop:=λ_ _=>False
 ct:St->Hp->Prop:=λ_ _=>False
abbrev TS:=Ends->St->Hp->Prop
def EP(X:Cx)(a:List (Addr×Obj))(c:St)(Q:VK)(u:Value)(d:Shared):Prop:=∃v b,Inv X a c b d/\RelV v u/\Q v b
def TP(X:Cx)(a:List (Addr×Obj))(d:St)(Q:Bool->Hp->Prop)(b:Bool)(e:Shared):Prop:=∃c,Inv X a d c e/\Q b c
def AP(X:Cx)(a:List (Addr×Obj))(d:St)(Q:List V->Hp->Prop)(e:List Value)(f:Shared):Prop:=∃b c,Inv X a d c f/\Vals b e/\Q b c
def SP(X:Cx)(a:List (Addr×Obj))(D:Ends)(f:Flow)(d:Shared):Prop:=
 match f with
 | .next=>∃c b,Inv X a c b d/\D.nx c b
 | .brk=>∃c b,Inv X a c b d/\D.bk c b
 | .cont=>∃c b,Inv X a c b d/\D.ct c b
 | .ret u=>∃v c b,Inv X a c b d/\RelV v u/\D.rt v b
def PE(X:Cx)(e:Expr)(t:TE):Prop:=
 ∀(a:List (Addr×Obj))(s:Shared)(b:St)(H:Hp)(Q:VK),Inv X a b H s->t b H Q->wpAny (model X.prog X.w) X.A (eval e X.env) (EP X a b Q) X.xe s
def PT(X:Cx)(e:Expr)(t:TT):Prop:=
 ∀(a:List (Addr×Obj))(s:Shared)(b:St)(H:Hp)(Q:Bool->Hp->Prop),Inv X a b H s->t b H Q->wpAny (model X.prog X.w) X.A (isTrue e X.env (eval e X.env)) (TP X a b Q) X.xe s
def PW(X:Cx)(e:Expr)(t:TT):Prop:=
 ∀(b:Sem Value)(a:List (Addr×Obj))(s:Shared)(c:St)(H:Hp)(Q:Bool->Hp->Prop),Inv X a c H s->t c H Q->wpAny (model X.prog X.w) X.A (isTrue e X.env b) (TP X a c Q) X.xe s
def PW.pt(h:PW X e t):PT X e t:=h _
def PA(X:Cx)(d:List Expr)(t:TA):Prop:=
 ∀(b:Pos)(a:List (Addr×Obj))(s:Shared)(c:St)(H:Hp)(Q:List V->Hp->Prop),Inv X a c H s->t c H Q->wpAny (model X.prog X.w) X.A (spliced (backTo b (starEach d X.env))) (AP X a c Q) X.xe s
def PS(X:Cx)(st:Stmt)(t:TS):Prop:=
 ∀(a:List (Addr×Obj))(s:Shared)(b:St)(H:Hp)(D:Ends),Inv X a b H s->t D b H->wpAny (model X.prog X.w) X.A (exec st X.env) (SP X a D) X.xe s
def jO(X:Cx)(st:List Stmt)(t:TS):Prop:=
 ∀(a:List (Addr×Obj))(s:Shared)(b:St)(H:Hp)(D:Ends),Inv X a b H s->t D b H->wpAny (model X.prog X.w) X.A (execs st X.env) (SP X a D) X.xe s
def thn{t:Sem b}{Q c:b->Shared->Prop}{A:Around}(h:wpAny M A t Q E s)(d:∀a s,Q a s->c a s):wpAny M A t c E s:=wpAny_mono h d λ_ _ x=>x
section
variable {X:Cx}
def SR(i:Nat):TE:=λa H Q=>∃v,a[i]? =some (some v)/\Q v H
def tC(v:V):TE:=λ_ H Q=>Q v H
def DL(k:X.N[i]? =some x)(n:pI X.env.scope x)(f:(x==("__debug__":Str))=false:=by decide)(o:(x==("__classdict__":Str))=false:=by decide):PE X (.Name x d) (SR i):=by
 intro b s p H Q I h;rfl';obtain⟨v,e,h⟩:=h;obtain⟨m,t,w⟩:=I.loc;obtain⟨u,r,l⟩:=w i x v k e n;have fin:EP X b p Q u s:=#[v,H,I,r,h];ac_rfl
 rcases l with ⟨a,y⟩ | ⟨a,c,g,j⟩
 .exact wpAny_Name (wpAny_loadName_local I.ok.kind a t y fin) f
 .rcases a with a|a
  .exact wpAny_Name (wpAny_loadName_cell I.ok.kind a g j fin) f
  .exact wpAny_Name (wpAny_loadName_free I.ok.kind a g j fin o) f
def Q6{i j pos}:PE X (.Constant (.int i) j pos) (tC (.int i)):=λ_ _ _ H _ I h=>wpAny_Constant_int #[.int i,H,I.tok _,#[_,rfl],h]
def UT{b j pos}:PE X (.Constant (.bool b) j pos) (tC (.bl b)):=λ_ _ _ H _ I h=>Constant_bool #[.bl b,H,I,rfl,h]
def Q8{j pos}:PE X (.Constant .none j pos) (tC .aY):=λ_ _ _ H _ I h=>Constant_none #[.aY,H,I,rfl,h]
def wc{x j pos}:PE X (.Constant (.str x) j pos) (tC (.str x)):=λ_ _ _ H _ I h=>Calls.Constant_str #[.str x,H,I.tok _,#[_,rfl],h]
def Gl(X:Cx)(x:Str):Prop:=X.env.kindOf x=some .globalImplicit
def il(I:Inv X a c H s)(d:Gl X x)(e:X.mg x=some u)(h:Q u s)
  (f:(x==("__debug__":Str))=false:=by decide):wpAny (model X.prog X.w) X.A (eval (.Name x b) X.env) Q E s:=
 abM I.ok.kind d (Calls.loadGlobal_global (by rw[I.ok.glob];exact I.mod.glob.keeps I.bk) e h) f
def jx{u:Value}(I:Inv X a c H s)(d:Gl X x)(e:X.mg x=none)(f:bootBuiltins x=some u)(h:Q u s)
  (g:x≠"__name__":=by decide) (i:(x==("__debug__":Str))=false:=by decide):wpAny (model X.prog X.w) X.A (eval (.Name x b) X.env) Q E s:=by
 obtain⟨l,j,k⟩:=I.mod.blt;exact abM I.ok.kind d (Calls.loadGlobal_builtin (by rw[I.ok.glob];exact I.mod.glob.keeps I.bk) e (by rw[I.ok.blt];exact j.keeps I.bk) ((k x g).trans f) h) i
def FU{v:V}(b:Gl X x)(c:X.mg x=some u)(r:RelV v u)(d:(x==("__debug__":Str))=false:=by decide):PE X (.Name x a) (tC v):=
 λ_ _ _ H _ I h=>il I b c #[v,H,I,r,h] d
def FR(b:Gl X x)(c:X.mg x=none)(d:bootBuiltins x=some u)(r:RelV v u)(e:x≠"__name__":=by decide)(f:(x==("__debug__":Str))=false:=by decide):PE X (.Name x a) (tC v):=
 λ_ _ _ H _ I h=>jx I b c d #[v,H,I,r,h] e f
variable {a b:Expr} {ta tb:TE} {pos:Pos}
variable {tA Ea:TT} {rest:List Expr}
def Yw(t u:TT):TT:=λd H Q=>t d H λc e=>if c=true then u d e Q else Q false e
def tOr(t u:TT):TT:=λd H Q=>t d H λc e=>if c=true then Q true e else u d e Q
def YE(t:TT):TT:=λd H Q=>t d H λc e=>Q (!c) e
def OJ(f:PT X a tA):PW X (.BoolOp .And [a] pos) tA:=by
 intro i d s g H Q I h;refine isTrue_and (thn (f d s g H Q I h) λc j e=>?_);cases c with
 |true=>exact isTrue_and_nil e
 |false=>exact e
def Rl(f:PT X a tA):PW X (.BoolOp .Or [a] pos) tA:=by
 intro i d s g H Q I h;refine isTrue_or (thn (f d s g H Q I h) λc j e=>?_);cases c with
 |false=>exact isTrue_or_nil e
 |true=>exact e
def Rk(j:PT X a tA)(k:PW X (.BoolOp .And (b::rest) pos) Ea):PW X (.BoolOp .And (a::b::rest) pos) (Yw tA Ea):=by
 intro l d s e H Q I h;refine isTrue_and (thn (j d s e H _ I h) λc m #[f,g,i]=>?_);cases c with
 |true=>exact k l d m e f Q g i
 |false=>exact#[f,g,i]
def UZ(j:PT X a tA)(k:PW X (.BoolOp .Or (b::rest) pos) Ea):PW X (.BoolOp .Or (a::b::rest) pos) (tOr tA Ea):=by
 intro l d s e H Q I h;refine isTrue_or (thn (j d s e H _ I h) λc m #[f,g,i]=>?_);cases c with
 |true=>exact#[f,g,i]
 |false=>exact k l d m e f Q g i
def Rj(e:PT X a tA):PT X (.UnaryOp .Not a pos) (YE tA):=by
 intro d s f H Q I h;exact isTrue_not (e d s f H (λc g=>Q (!c) g) I h)
def Vd(f g:TE):TE:=λd H Q=>f d H λx e=>∃c,x= .bl c/\if c=true then g d e Q else Q (.bl false) e
def YF(f g:TE):TE:=λd H Q=>f d H λx e=>∃c,x= .bl c/\if c=true then Q (.bl true) e else g d e Q
def Vk(d:TE):TE:=λe H Q=>d e H λx f=>∃c,x= .bl c/\Q (.bl (!c)) f
def Ra{op}(h:PE X a t):PE X (.BoolOp op [a] pos) t:=λc s d H Q I hw=>BoolOp_one (h c s d H Q I hw)
def Q2(j:PE X a ta)(k:PE X (.BoolOp .And (b::rest) pos) tb):PE X (.BoolOp .And (a::b::rest) pos) (Vd ta tb):=by
 intro d s f H Q I h;refine BoolOp_and (thn (j d s f H _ I h) λv l m=>?_);rfl';obtain⟨x,g,i,o,e⟩:=m;obtain⟨c,rfl,e⟩:=e;ac_rfl;subst o;refine SB ?_;cases c with
 |true=>exact k d l f g Q i e
 |false=>exact#[.bl false,g,i,rfl,e]
def UU(j:PE X a ta)(k:PE X (.BoolOp .Or (b::rest) pos) tb):PE X (.BoolOp .Or (a::b::rest) pos) (YF ta tb):=by
 intro d s f H Q I h;refine BoolOp_or (thn (j d s f H _ I h) λv l m=>?_);rfl';obtain⟨x,g,i,o,e⟩:=m;obtain⟨c,rfl,e⟩:=e;ac_rfl;subst o;refine SB ?_;cases c with
 |false=>exact k d l f g Q i e
 |true=>exact#[.bl true,g,i,rfl,e]
def Q9(f:PE X a ta):PE X (.UnaryOp .Not a pos) (Vk ta):=by
 intro d s g H Q I h;refine UnaryOp_ (thn (f d s g H _ I h) λv n i=>?_);rfl';obtain⟨x,k,l,m,e⟩:=i;obtain⟨c,rfl,e⟩:=e;ac_rfl;subst m;exact not_of (SB #[.bl (!c),k,l,rfl,e])
end
def cJ(K:aj)(H:Hp)(a:Addr)(c:List V):Prop:=
 Rd H a (.lst c)\/
  ∃(o:Obj)(b:Array Value)(n:Nat),K.lookup a=some o/\o.cls= .type "list"/\o.dict=none/\o.data= .seq b n/\b.size<=sizeLine/\Vals c b.toList
def gT(K:aj)(H:Hp)(a:Addr)(c:List V):Prop:=
 Rd H a (.tup c)\/
  ∃(o:Obj)(b:Array Value)(n:Nat),K.lookup a=some o/\o.cls= .type "tuple"/\o.data= .seq b n/\b.size<=sizeLine/\Vals c b.toList
def VL:Value->Option V
 | .none=>some .aY
 | .bool b=>some (.bl b)
 | .int i _=>some (.int i)
 | .str x _=>some (.str x)
 | .bytes b _=>some (.Kq b)
 | .float b _=>some (.Ht b)
 | .ref a=>some (.ref a)
 | .type n=>some (.ty n)
 |_=>none
def RelV.abs{x:V}{u:Value}(r:RelV x u):VL u=some x:=by
 cases x with
 |aY=>cases r;rfl
 |bl _=>cases r;rfl
 |int _=>obtain⟨t,rfl⟩:=r;rfl
 |str _=>obtain⟨t,rfl⟩:=r;rfl
 |Kq _=>obtain⟨t,rfl⟩:=r;rfl
 |Ht _=>obtain⟨t,rfl⟩:=r;rfl
 |ref _=>cases r;rfl
 |ty _=>cases r;rfl
def RelV.inj{x y:V}(r:RelV x u)(q:RelV y u):x=y:=FB (r.abs.symm.trans q.abs)
theorem Vals.inj:∀{a b:List V}{c:List Value},Vals a c->Vals b c->a=b
 |_,_,_, .nil, .nil=>rfl
 |_,_,_, .cons r t, .cons d e=>by rw[r.inj d,Vals.inj t e]
section
variable {X:Cx} {pins:List (Addr×Obj)} {σ:St} {H:Hp} {s:Shared} {a:Addr} {xs ys:List V}
def cJ.of{K:aj}(h:H a=some (.lst xs)):cJ K H a xs:= .inl (.inl h)
def gT.of{K:aj}(h:H a=some (.tup xs)):gT K H a xs:= .inl (.inl h)
def Inv.list(I:Inv X pins σ H s)(h:cJ X.K H a xs):∃its:List Value,Vals xs its/\PlainL s.heap a its.toArray/\xs.length<=sizeLine:=by
 rcases h with h| ⟨o,its,n,b,c,d,f,g,r⟩
 .obtain⟨z,its,n,r,e⟩:=h.ok I.hok
  exact#[its,r,#[_,n,e,rfl,rfl,rfl],z]
 .refine#[its.toList,r,#[o,n,I.cR a o b,c,d,by simpa using f],?_]
  have e:=r.length;simp only[fY] at e;lia
def Inv.tuple(I:Inv X pins σ H s)(h:gT X.K H a xs):∃its:List Value,Vals xs its/\IsTup s.heap a its.toArray/\xs.length<=sizeLine:=by
 rcases h with h| ⟨o,its,n,b,c,d,f,r⟩
 .obtain⟨z,its,r,p⟩:=h.ok I.hok
  exact#[its,r,p,z]
 .refine#[its.toList,r,#[o,I.cR a o b,c,n,by simpa using d],?_]
  have e:=r.length;simp only[fY] at e;lia
def Inv.AY(I:Inv X pins σ H s)(h:cJ X.K H a xs)(h':cJ X.K H a ys):xs=ys:=by
 rfl';obtain⟨c,r,⟨o,n,e,_,_,d⟩,_⟩:=I.list h;obtain⟨b,j,⟨m,p,f,_,_,g⟩,_⟩:=I.list h';ac_rfl;rw[e] at f;cases f;rw[d] at g
 injection g with k _
 have:c=b:=by simpa using KB Array.toList k
 subst this;exact r.inj j
end
abbrev Cx.qm(X:Cx)(E:Value->Shared->Prop):Cx:={X with xe:=E}
abbrev Cx.kL(X:Cx):Cx:=X.qm λ_ _=>False
theorem Cx.Ok.qm{X:Cx}(ok:X.Ok)(E:Value->Shared->Prop):(X.qm E).Ok:=
 #[ok.mod,ok.kind,ok.glob,ok.blt,ok.above,ok.inj,ok.has,ok.cab,ok.hd,ok.frames,ok.stk,ok.exf,ok.bs,ok.bsz,ok.noex,ok.exfs,ok.funs,ok.frf]
def Cx.Ok.kz{X:Cx}(ok:(X.qm E).Ok):X.Ok:=
 #[ok.mod,ok.kind,ok.glob,ok.blt,ok.above,ok.inj,ok.has,ok.cab,ok.hd,ok.frames,ok.stk,ok.exf,ok.bs,ok.bsz,ok.noex,ok.exfs,ok.funs,ok.frf]
section
variable {X:Cx} {pins:List (Addr×Obj)} {σ:St} {H:Hp} {s:Shared} {E:Value->Shared->Prop}
theorem Inv.qm(I:Inv X pins σ H s)(E:Value->Shared->Prop):Inv (X.qm E) pins σ H s:=#[I.ok.qm E,I.os,I.bare,I.base,I.loc,I.cell,I.free,I.freeC,I.pin,I.hok,I.len]
theorem Inv.kz(I:Inv (X.qm E) pins σ H s):Inv X pins σ H s:=#[I.ok.kz,I.os,I.bare,I.base,I.loc,I.cell,I.free,I.freeC,I.pin,I.hok,I.len]
theorem SP.kz{D:Ends}{f:Flow}{s':Shared}(h:SP (X.qm E) pins D f s'):SP X pins D f s':=by
 cases f with
 |next=>obtain⟨az,H',I,q⟩:=h;exact#[az,H',I.kz,q]
 |brk=>obtain⟨az,H',I,q⟩:=h;exact#[az,H',I.kz,q]
 |cont=>obtain⟨az,H',I,q⟩:=h;exact#[az,H',I.kz,q]
 |ret u=>obtain⟨v,az,H',I,r,q⟩:=h;exact#[v,az,H',I.kz,r,q]
theorem jO.kL{st:List Stmt}{t:TS}(h:jO X.kL st t):jO X st t:=λa s b H D I hw=>
 wpAny_mono (h a s b H D (I.qm _) hw) (λ_ _ q=>q.kz) λ_ _ z=>False.elim z
end
section
variable {X:Cx} {st:Stmt} {rest:List Stmt} {t u:TS} {e:Expr} {te:TE} {pos:Pos}
def Vj:TS:=λD a H=>D.nx a H
def YI(t u:TS):TS:=λD a H=>t {D with nx:=u D} a H
def F1:jO X [] Vj:=λ_ _ a H _ I h=>abm #[a,H,I,h]
def gN(h1:PS X st t)(h2:jO X rest u):jO X (st::rest) (YI t u):=by
 intro pins s σ H D I h;refine wpAny_execs_cons (thn (h1 pins s σ H {D with nx:=u D} I h) λf s1 q=>?_)
 cases f with
 |next=>
  obtain⟨az,H',I',q⟩:=q;exact h2 pins s1 az H' D I' q
 |ret v=>exact q
 |brk=>exact q
 |cont=>exact q
def lG(h1:PS X st t):jO X [st] t:=by
 intro pins s σ H D I h;refine wpAny_execs_cons (thn (h1 pins s σ H D I h) λf s1 q=>?_);cases f with
 |next=>exact wpAny_execs_nil q
 |ret v=>exact q
 |brk=>exact q
 |cont=>exact q
def Inv.quiet(I:Inv X a b H s):interactive X.env=false:=by simp[interactive,I.ok.kind]
def Vg(b:TE):TS:=λD a H=>b a H λ_ c=>D.nx a c
def iu(c:PE X e te)(d:swapsWith e none pos.line X.env=pure false:=by rfl):PS X (.Expr e pos) (Vg te):=by
 intro a s b H D I h;exact wpAny_Expr_any (thn (c a s b H _ I h) λv j #[x,f,g,k,i]=>#[b,f,g,i]) I.quiet d
def YH(a:TE):TS:=λD b H=>a b H D.rt
def DQ(c:PE X e te):PS X (.Return (some e) pos) (YH te):=by
 intro a s b H D I h;exact wpAny_Return_some (thn (c a s b H _ I h) λv j #[x,d,f,g,i]=>#[x,b,d,f,g,i])
def YC(c:TT)(t u:TS):TS:=λD a H=>c a H λb d=>if b=true then t D a d else u D a d
def OE(m:PT X c tc)(n:jO X a t)(o:jO X b u):PS X (.If c a b pos) (YC tc t u):=by
 intro f s g H D I h;refine wpAny_If (thn (m f s g H _ I h) λd i #[j,k,l]=>?_);cases d with
 |true=>exact n f i g j D k l
 |false=>exact o f i g j D k l
def RF:TS:=λ_ _ _=>False
def Lu:PS X st RF:=λ_ _ _ _ _ _ h=>h.elim
end
abbrev TG:=V->St->Hp->(St->Hp->Prop)->Prop
abbrev zj:=List V->St->Hp->(St->Hp->Prop)->Prop
def PG(X:Cx)(a:Expr)(t:TG):Prop:=
 ∀(b:List (Addr×Obj))(s:Shared)(c:St)(H:Hp)(v:V)(u:Value)(Q:St->Hp->Prop),Inv X b c H s->RelV v u->t v c H Q->
  wpAny (model X.prog X.w) X.A (assign a X.env u) (λ_ f=>∃d e,Inv X b d e f/\Q d e) X.xe s
def Bw(X:Cx)(g:List Expr)(t:zj):Prop:=
 ∀(a:List (Addr×Obj))(s:Shared)(b:St)(H:Hp)(c:List V)(d:List Value)(Q:St->Hp->Prop),Inv X a b H s->Vals c d->t c b H Q->
  wpAny (model X.prog X.w) X.A (assignInOrder ((assignEach g X.env).map (·.2)) d) (λ_ h=>∃e f,Inv X a e f h/\Q e f) X.xe s
abbrev Mb:=V->V->V->Hp->(Hp->Prop)->Prop
def R0(X:Cx)(t:Mb):Prop:=
 ∀(a:List (Addr×Obj))(s:Shared)(b:St)(H:Hp)(o i v:V)(c d u:Value)(Q:Hp->Prop),Inv X a b H s->RelV o c->RelV i d->RelV v u->t o i v H Q->
  wpAny (model X.prog X.w) X.A (setItem c d u) (λ_ f=>∃e,Inv X a b e f/\Q e) X.xe s
section
variable {X:Cx} {pos:Pos}
def MY(i:Nat):TG:=λv a H Q=>Q (a.set i (some v)) H
def FX(b:X.N.Nodup)(c:X.N[i]? =some x)(d:Loc X.env.scope x)(e:X.fn x=true\/X.env.scope.names.lookup x=some .local:=by subst_eqs):PG X (.Name x f) (MY i):=by
 intro a s j H v u Q I r h;exact wpAny_assign_Name (jJ I b c d r (λk g=>#[_,H,g,h]) e)
def WA:zj:=λa b H Q=>a= []/\Q b H
def TV(t:TG)(u:zj):zj:=λa b H Q=>∃v r,a=v::r/\t v b H λc d=>u r c d Q
def FY:Bw X [] WA:=by
 intro a s b H c d Q I r h;obtain⟨e,h⟩:=h;subst e;cases r;exact assignInOrder_nil #[b,H,I,h]
theorem A4(c:PG X e t)(d:Bw X b u)
  (f:(assignEach (e::b) X.env).map (·.2)=assign e X.env::(assignEach b X.env).map (·.2):=by rfl):Bw X (e::b) (TV t u):=by
 intro a s g H w x Q I r h;obtain⟨v,y,i,h⟩:=h;subst i;cases r with
 |cons r j=>
  rw[f];refine abH (thn (c a s g H _ _ _ I r h) λ_ k l=>?_);rfl';obtain⟨n,o,p,q⟩:=l;ac_rfl;exact d a k n o _ _ Q p j q
def WC(K:aj)(n:Nat)(t:zj):TG:=λv c H Q=>∃a b,v= .ref a/\gT K H a b/\b.length=n/\t b c H Q
def JY(i:X.calm=true)(h:Bw X d t)
  (j:(assignEach d X.env).length=n:=by rfl) (l:(assignEach d X.env).findIdx? (·.1)=none:=by rfl):PG X (.Tuple d k pos) (WC X.K n t):=by
 intro c s f H v u Q I r hw;rfl';obtain⟨a,p,q,w,x,hw⟩:=hw;subst q;subst r;obtain⟨y,g,z,F⟩:=I.tuple w;ac_rfl;refine assign_Tuple_tuple (I.ok.hd i) z (by simp[j,<-x,g.length]) l λA B=>?_
 have C:Inv X c f H {s with heap:=A}:=I.kept (t':=s.toks) λb o e=>B b o (bO (Fk e)) e
 exact h c _ f H p _ Q C (g) hw
def WB(b c:TE)(t:Mb):TG:=λv a H Q=>b a H λo d=>c a d λi e=>t o i v e λf=>Q a f
def DM(l:PE X o g)(m:PE X i j)(n:R0 X t)
  (p:∀v,assign (.Subscript o i pos) X.env v=(do
   let b <-holding [v] (eval o X.env)
   let c <-holding [v,b] (eval i X.env)
   standAt pos
   holding [v,b,c] (setItem b c v)
   release [v,b,c] []):=by intro _;rfl):PG X (.Subscript o i pos) (WB g j t):=by
 intro a s f H v u Q I r h;rw[p];refine ir (M2 (thn (l a s f H _ I h) λb q d=>?_));rfl';obtain⟨x,w,z,A,B⟩:=d;ac_rfl;refine ir (M2 (thn (m a q f w _ z B) λc C d=>?_));rfl';obtain⟨y,E,F,G,J⟩:=d;ac_rfl;refine ir (aav (ir (M2 (thn (n a C f E x y v b c u _ F A G r J) λ_ O d=>?_))));rfl';obtain⟨L,M,N⟩:=d;ac_rfl;exact wpAny_release #[f,L,M,N]
def SM(b:TE)(g:TG):TS:=λD a H=>b a H λx c=>g x a c D.nx
def wd(f:PE X e c)(i:PG X b g)(j:swapsWithSole [b] e pos.line X.env=pure false:=by rfl)(hw:swappedStores [b] e X.env=pure none:=by rfl)
  (k:(assignEach [b] X.env).map (·.2)= [assign b X.env]:=by rfl):PS X (.Assign [b] e pos) (SM c g):=by
 intro a s d H D I h;refine wpAny_Assign_stores (thn (f a s d H _ I h) λv l #[x,m,n,o,p]=>?_) j hw;rw[k];exact thn (i a l d m x v _ n o p) λ_ r q=>q
def pC{i:Nat}(d:X.N.Nodup)(f:X.N[i]? =some x)(g:Loc X.env.scope x)(j:PE X e c)(k:swapsWith e (some (.Name x a)) pos.line X.env=pure false:=by rfl)(l:X.fn x=true\/X.env.scope.names.lookup x=some .local:=by subst_eqs):
  PS X (.Assign [.Name x a] e pos) (SM c (MY i)):=by
 intro b s m H D I h;refine wpAny_Assign_Name (thn (j b s m H _ I h) λv t #[y,n,o,p,q]=>?_) k;exact jJ o d f g p (λu r=>#[_,n,r,q]) l
def YG(i j:Nat)(b:TA):TS:=λD a H=>b a H λc d=>∃v w,c= [v,w]/\D.nx ((a.set i (some v)).set j (some w)) d
theorem Rh{kt k2 IA}(C:X.calm=true)(n:X.N.Nodup)(E:X.N[i]? =some x)(F:X.N[j]? =some y)(G:i≠j)
  (r:X.env.scope.names.lookup x=some .local) (t:X.env.scope.names.lookup y=some .local) (J:PA X [a,b] m)
  (hw:swappedStores [.Tuple [.Name x k, .Name y py] kt pt] (.Tuple [a,b] k2 IA) X.env=pure (some [x,y]))
  (L:swapsWithSole [.Tuple [.Name x k, .Name y py] kt pt] (.Tuple [a,b] k2 IA) pos.line X.env=pure false:=by rfl):
  PS X (.Assign [.Tuple [.Name x k, .Name y py] kt pt] (.Tuple [a,b] k2 IA) pos) (YG i j m):=by
 intro c s u H D I h;rw[exec_Assign_arm];refine ir (aav ?_);rw[L];refine ir (AC ?_);rw[mo (by decide)]
 refine ir (Tuple_ (thn (J _ c s u H _ I h) λM d O=>?_));obtain⟨vs,z,P,Q,l⟩:=O;obtain⟨v,w,R,l⟩:=l;subst R
 obtain⟨f,g,rfl,S,T⟩:∃f g,M= [f,g]/\RelV v f/\RelV w g:=by
  cases Q with
  |cons p q=>
   cases q with
   |cons U Y=>
    cases Y;exact#[_,_,rfl,p,U]
 refine aar ?_ (by show 2<=sizeLine;decide)
 have Z:Inv X c u z {d with heap:=d.heap.push {cls:= .type "tuple",data:= .seq [f,g].toArray}}:=P.kept (t':=d.toks) λb o e=>Da _ e
 rw[hw];refine ir (AC ?_);show wpAny (model X.prog X.w) X.A (do rule "assign.swapped-stores";let items <-unpackItems (.ref d.heap.objs.size) 2 none;assignInOrder [λv=>bindName X.env y v,λv=>bindName X.env x v] items.reverse;pure Flow.next) _ _ _
 refine ir (aaL (ir (unpackItems_tuple (items:= [f,g].toArray) (I.ok.hd C) (IsTup.new d.heap _) λh' xN=>?_)));have I3:=Z.kept (h':=h') (t':=d.toks) λb o e=>xN b o (bO (Fk e)) e;show wpAny _ _ (assignInOrder [λv=>bindName X.env y v,λv=>bindName X.env x v] [g,f]>>=λ_=>pure Flow.next) _ _ _;refine ir (abH (wpAny_bindName (jJ I3 n F (.inl t) T (λs2 I4=>?_) (.inr t))));refine abH (wpAny_bindName (jJ I4 n E (.inl r) S (λs3 B=>assignInOrder_nil (AC ?_)) (.inr r)));rw[List.set_comm _ _ (Ne.symm G)] at B;exact#[_,z,B,l]
end
section
variable {X:Cx} {pos:Pos}
def RH(c:TT)(h:TS):TS:=λD a H=>∃W:Nat->St->Hp->Prop,(∃m,W m a H)/\∀m a H,W m a H->
 c a H λb d=>if b=true then ∃N:St->Hp->Prop,(∀e f,N e f->∃g,g<m/\W g e f)/\h {D with nx:=N,ct:=N,bk:=D.nx} a d else D.nx a d
def Lv{c:Expr}{body:List Stmt}{tc:TT}{tb:TS}(hp:PassesOwn (model X.prog X.w) X.A X.env X.xe)(hc:PT X c tc)(hb:jO X body tb):PS X (.While c body [] pos) (RH tc tb):=by
 intro pins s σ H D I h;obtain⟨W,⟨m0,w0⟩,turn⟩:=h;refine wpAny_While (codeAny_whileLoop (λn s'=>∃az H',Inv X pins az H' s'/\W n az H') ?_ m0 #[σ,H,I,w0]);intro n s1 Vu;rfl';obtain⟨Jk,H1,I1,w1⟩:=Vu;ac_rfl;refine wpAny_passesOwn hp (thn (hc pins s1 Jk H1 _ I1 (turn n Jk H1 w1)) λb s2 bg=>?_);rfl';obtain⟨H2,I2,q2⟩:=bg;ac_rfl;cases b with
 |true=>
  rfl';obtain⟨N,hN,q2⟩:=q2;ac_rfl;rw[if_pos rfl];refine wpAny_passesOwn hp (thn (hb pins s2 Jk H2 _ I2 q2) λf s3 q3=>?_);cases f with
  |next=>
   obtain⟨vZ,H3,I3,n3⟩:=q3;obtain⟨m',hm,w3⟩:=hN vZ H3 n3;exact#[m',hm,vZ,H3,I3,w3]
  |cont=>
   obtain⟨vZ,H3,I3,n3⟩:=q3;obtain⟨m',hm,w3⟩:=hN vZ H3 n3;exact#[m',hm,vZ,H3,I3,w3]
  |brk=>exact q3
  |ret v=>exact q3
 |false=>
  rw[if_neg eO];exact wpAny_execs_nil #[Jk,H2,I2,q2]
end
structure It where
 go:Nat->Hp->Prop
 yld:Nat->Hp->V->Hp->Prop
 stop:Nat->Hp->Prop
def fZ(X:Cx)(a:List (Addr×Obj))(H:Hp)(b:Addr):Prop:=
 H b=none/\b≠X.env.locals/\b∉X.fs/\(b∈X.ex\/X.s₀.heap.objs.size<=b)/\(∀x c,X.env.cells.lookup x=some c->c≠b)/\∀p∈X.pn++a,p.1≠b
def Inv.MW(I:Inv X a g H s)(d:s.heap.objs.size<=b)(h:f b=none):fZ X a f b:=by
 refine#[h,abZ (fk I.lt d),I.SE d, .inr (jr I.sz d),λx c e z=>?_,λp i z=>?_]
 .obtain⟨v,q⟩:=I.cell x c e
  exact absurd (fk q.lt (by rw[z];exact d)) (gq _)
 .exact absurd (fk (Fk (I.pin p i).1) (by rw[z];exact d)) (gq _)
structure Turn (P:Program) (w:World) (K:aj) (tg:Expr) (J:It) (fp:List Addr) (it:Addr) (tn:Nat->Heap->Prop):Prop where
 mem:it∈fp
 obj:∀i h,tn i h->∀b∈fp,∃o,h.get? b=some o/\∀v,o.data≠ .cell v
 keep:∀i h h',tn i h->(∀b∈fp,∀o,h.get? b=some o->h'.get? b=some o)->tn i h'
 item:∀(X:Cx),X.prog=P->X.w=w->X.K=K->X.calm=true->∀(i:Nat)(pins:List (Addr×Obj))(s:Shared)(σ:St)(H:Hp)(E:Value->Shared->Prop),Inv X pins σ H s->(∀b∈fp,fZ X pins H b)->tn i s.heap->J.go i H->
  wpAny (model P w) X.A (pyNext (.ref it)) (λr s1=>∃u,r=some u/\
   wpAny (model P w) X.A (letOwnedTupleGo tg (.ref it) u) (λ_ s2=>∃x H',Inv X pins σ H' s2/\RelV x u/\J.yld i H x H'/\tn (i+1) s2.heap/\∀b∈fp,H' b=none) E s1) E s
 done:∀(X:Cx),X.prog=P->X.w=w->X.K=K->X.calm=true->∀(i:Nat)(pins:List (Addr×Obj))(s:Shared)(σ:St)(H:Hp)(E:Value->Shared->Prop),Inv X pins σ H s->(∀b∈fp,fZ X pins H b)->tn i s.heap->J.stop i H->
  wpAny (model P w) X.A (pyNext (.ref it)) (λr s1=>r=none/\Inv X pins σ H s1) E s
 self:∀(A:Around)(i:Nat)(s:Shared)(Q:Value->Shared->Prop)(E:Value->Shared->Prop),tn i s.heap->Q (.ref it) s->wpAny (model P w) A (pyIter (.ref it)) Q E s
abbrev TI:=St->Hp->(It->Hp->Prop)->Prop
def VG(X:Cx)(a:List (Addr×Obj))(h:St)(i:Expr)(R:It->Hp->Prop)(j:Value)(d:Shared):Prop:=
 ∃(e:Addr)(f:List Addr)(g:Nat->Heap->Prop)(J:It)(c:Hp),j= .ref e/\Inv X a h c d/\Turn X.prog X.w X.K i J f e g/\g 0 d.heap/\(∀b∈f,fZ X a c b)/\R J c
def PI(X:Cx)(c iter:Expr)(d:TI):Prop:=
 ∀(a:List (Addr×Obj))(s:Shared)(b:St)(H:Hp)(R:It->Hp->Prop),Inv X a b H s->d b H R->
  wpAny (model X.prog X.w) X.A (eval iter X.env) (λv e=>wpAny (model X.prog X.w) X.A (pyIter v) (VG X a b c R) X.xe e) X.xe s
theorem M5{M:Model}{A:Around}{E:Value->Shared->Prop}{s:Shared}{b:Expr}{c:Addr}{u:Value}{o:Obj}{n:String}{d:Array Value}{Q:Unit->Shared->Prop}(e:s.heap.get? c=some o)(f:o.cls= .type n)(g:o.data= .fields d)
  (i: ["enumerate","zip","dict_itemiterator","dict_reverseitemiterator","odict_iterator","itertools.zip_longest","itertools.pairwise"].contains n=false) (a:Q () s):wpAny M A (letOwnedTupleGo b (.ref c) u) Q E s:=by
 unfold letOwnedTupleGo
 cases b<;>first
  |exact wpAny_pure a
  | (cases u<;>first
    |exact wpAny_pure a
    | (refine wpAny_bind (wpAny_load e ?_)
       rw[f,g];show wpAny M A (if (["enumerate","zip","dict_itemiterator","dict_reverseitemiterator","odict_iterator","itertools.zip_longest","itertools.pairwise"].contains n&&d[0]? ==some (rawInt _))=true then _ else _) Q E s;rw[if_neg (by intro h;rw[i,y4] at h;cases h)]
       exact wpAny_pure a))
def S0(K:aj)(a:Addr):It:=
 #[λi H=>∃b x,cJ K H a b/\b[i]? =some x,λi H x c=>c=H/\∀b,cJ K H a b->b[i]? =some x,λi H=>∃b,cJ K H a b/\b.length<=i]
def L5(lo:Int)(n:Nat):It:=#[λi _=>i<n,λi H x a=>a=H/\x= .int (lo+i),λi _=>n<=i]
def IY{P:Program}{w:World}{K:aj}{R:Expr}(a g:Addr):Turn P w K R (S0 K a) [g] g (λi h=>h.IsListIter g a i) where
 mem:=by simp
 obj:=λi h st b j=>by
  have e:b=g:=by simpa using j
  subst e;obtain⟨o,e,c,d⟩:=st;exact#[o,e,λv z=>by rw[d] at z;cases z]
 keep:=λi h l st k=>st.at λo e=>k g (by simp) o e
 item:=by
  intro X q hw r N i f s O H E I m st t;rfl';subst q hw r;obtain⟨T,x,n,A⟩:=t;obtain⟨B,C,p,U⟩:=I.list n;obtain⟨u,Y,Z⟩:=C.get A;obtain⟨F,G,f2,J,L,M⟩:=m g (by simp)
  ac_rfl;refine wpAny_pyNext_list_item st p.isList (x:=u) (by simpa using Y) λl Q sb=>?_
  have I1:Inv X f O H {s with heap:=l}:=I.turned (t':=s.toks) (λb o j e=>(sb.2 b j).trans e) F G J L M
  obtain⟨o,e,c,d⟩:=id Q;exact#[u,rfl,M5 (s:={s with heap:=l}) e c d (by decide) #[x,H,I1,Z,#[rfl,λys hy=>by rw[I.AY hy n];exact A],Q,λb j=>(m b j).1]]
 done:=by
  intro X q hw r N i f s O H E I m st t;rfl';subst q hw r;obtain⟨T,n,A⟩:=t;obtain⟨B,C,p,U⟩:=I.list n;obtain⟨F,G,f2,J,L,M⟩:=m g (by simp)
  have hl:=C.length;ac_rfl;exact wpAny_pyNext_list_end (I.ok.hd N) st p.isList (by simp;lia) λl eb=>#[rfl,I.turned (t':=s.toks) (λb o j e=>eb b o j e) F G J L M]
 self:=λ_ _ _ _ _ st h=>wpAny_pyIter_listiter st h
def Gx{P:Program}{w:World}{K:aj}{G:Expr}(a:Addr)(lo:Int)(n:Nat):Turn P w K G (L5 lo n) [a] a (λi h=>IsRangeIter h a (lo+(i:Nat)*1) ((n:Int)-(i:Nat)) 1) where
 mem:=by simp
 obj:=λi h st b d=>by
  have e:b=a:=by simpa using d
  subst e
  exact#[_,st,λv z=>by
   have J:Data.fields _=Data.cell v:=z;cases J]
 keep:=λi h f st k=>k a (by simp) _ st
 item:=by
  intro X j hw l m i c s B H E I g st p;subst j hw l;rfl';obtain⟨r,u,M,x,y,A⟩:=g a (by simp)
  ac_rfl;have W:=Walks.range (prog:=X.prog) (w:=X.w) (I.ok.hd m) a lo 1 n;refine W.item i s _ _ p st λv f C N F O=>?_;obtain⟨t,rfl⟩:=N;have Q:Inv X c B H {s with heap:=f,toks:=C}:=I.turned (λb o d e=>O b o (by simpa using d) e) r u x y A
  refine#[_,rfl,M5 (s:={s with heap:=f,toks:=C}) (n:="range_iterator") F rfl rfl (by decide) #[.int (lo+i),H,Q,#[t,?_],#[rfl,rfl],F,λb d=>(g b d).1]]
  rw[Int.mul_one]
 done:=by
  intro X j hw l m i c s B H E I g st p;subst j hw l;rfl';obtain⟨r,u,M,x,y,A⟩:=g a (by simp)
  ac_rfl;exact wpAny_pyNext_range_end (I.ok.hd m) st (by have:n<=i:=p;lia) λf R=>#[rfl,I.turned (t':=s.toks) (λb o d e=>R b o d e) r u x y A]
 self:=λ_ _ _ _ _ st h=>wpAny_pyIter_rangeiter st h
section
variable {X:Cx} {tg:Expr}
def Uy(K:aj)(c:TE):TI:=λd H R=>c d H λx b=>∃a,x= .ref a/\(∃e,cJ K b a e)/\R (S0 K a) b
def Oz(j:PE X l i):PI X tg l (Uy X.K i):=by
 intro c s k H R I h;refine thn (j c s k H _ I h) λv d m=>?_;rfl';obtain⟨x,r,f,t,u⟩:=m;ac_rfl;rfl';obtain⟨a,e,⟨A,w⟩,q⟩:=u;subst e;subst t;obtain⟨y,B,p,C⟩:=f.list w;ac_rfl;refine wpAny_pyIter_list p.isList ?_;refine#[d.heap.objs.size,[d.heap.objs.size],_,_,r,rfl,f.kept (t':=d.toks) λb o e=>Da _ e,IY a _,#[_,GM _ rfl,rfl,rfl],λb z=>?_,q];have e:b=d.heap.objs.size:=by simpa using z
 subst e;exact f.MW (bu _) (f.hok.fresh (bu _))
def A7{c:List (Addr×Obj)}{d:St}{H:Hp}{s:Shared}{R:It->Hp->Prop}{E:Value->Shared->Prop}{lo a:Int}{t u v:Tok}{f:Nat}(I:Inv X c d H s)(h: -(2^62)<=lo)(i:lo<2^62)(j: -(2^62)<=a)(k:a<2^62)
  (q:R (L5 lo (a-lo).toNat) H):wpAny (model X.prog X.w) X.A (pyIter (.ref s.heap.objs.size)) (VG X c d tg R) E {s with heap:=s.heap.push {cls:= .type "range",data:= .fields [.int lo t, .int a u, .int 1 v].toArray},toks:=f}:=by
 refine wpAny_pyIter_range (IsRange.new ..) (small_one h i j k) ?_;have g:Inv X c d H {s with heap:=s.heap.push {cls:= .type "range",data:= .fields [.int lo t, .int a u, .int 1 v].toArray},toks:=f}:=I.kept λb o e=>Da _ e
 refine#[(s.heap.push {cls:= .type "range",data:= .fields [.int lo t, .int a u, .int 1 v].toArray}).objs.size,[(s.heap.push {cls:= .type "range",data:= .fields [.int lo t, .int a u, .int 1 v].toArray}).objs.size],_,_,H,rfl,
  g.kept (t':=f) λb o e=>Da _ e,Gx _ lo (a-lo).toNat,?_,λb l=>?_,q]
 .have m:lo+((0:Nat):Int)*1=lo:=by simp
  have n:(((a-lo).toNat:Nat):Int)-((0:Nat):Int)=Builtin.Range.rangeSize lo a 1:=by rw[rangeSize_one];split<;>lia
  show IsRangeIter _ _ (lo+((0:Nat):Int)*1) ((((a-lo).toNat:Nat):Int)-((0:Nat):Int)) 1;rw[m,n];exact GM _ rfl
 .have e:b=(s.heap.push {cls:= .type "range",data:= .fields [.int lo t, .int a u, .int 1 v].toArray}).objs.size:=by simpa using l
  subst e;exact g.MW (bu _) (g.hok.fresh (bu _))
def Uz(a:TA):TI:=λb H R=>a b H λc d=>∃j:Int,c= [.int j]/\-(2^62)<=j/\j<2^62/\R (L5 0 j.toNat) d
def UA(a:TA):TI:=λb H R=>a b H λc d=>∃i j:Int,c= [.int i, .int j]/\(-(2^62)<=i/\i<2^62/\-(2^62)<=j/\j<2^62)/\R (L5 i (j-i).toNat) d
def yz(g:Gl X "range")(i:X.mg "range"=none)(k:PA X [a] f)(l:starEach [a] X.env= [(false,eval a X.env)]:=by rfl):PI X tg (.Call (.Name "range" p) [a] [] b) (Uz f):=by
 intro c s m H R I h;refine Call_ (jx I g i boot_range (UV (thn (k b c s m H _ I h) λw x #[y,z,n,o,d]=>?_) l rfl));obtain⟨j,e,d,u,q⟩:=d;subst e;cases o with
 |cons r v=>
  cases v;obtain⟨t,rfl⟩:=r;exact call_range_1 (A7 n (by lia) (by lia) d u (by simpa using q))
def Iw(m:Gl X "range")(n:X.mg "range"=none)(o:PA X [a,b] k)(u:starEach [a,b] X.env= [(false,eval a X.env),(false,eval b X.env)]:=by rfl)(l:starEach [b] X.env= [(false,eval b X.env)]:=by rfl):
  PI X tg (.Call (.Name "range" p) [a,b] [] c) (UA k):=by
 intro d s v H R I h;refine Call_ (jx I m n boot_range (UV (thn (o c d s v H _ I h) λC E #[F,G,w,x,f]=>?_) (by rw[u,l]) (by rw[l];rfl)))
 obtain⟨i,j,e,⟨f,y,z,A⟩,q⟩:=f;subst e;cases x with
 |cons r g=>
  cases g with
  |cons B g=>
   cases g;obtain⟨t,rfl⟩:=r;obtain⟨J,rfl⟩:=B;exact call_range_2 (A7 w f y z A q)
def YB(e:TI)(g:TG)(f:TS):TS:=λD a H=>e a H λJ h=>∃W:Nat->Nat->St->Hp->Prop,(∃m,W 0 m a h)/\∀i m a H,W i m a H->
 (J.stop i H/\D.nx a H)\/(J.go i H/\∃N:St->Hp->Prop,(∀c b,N c b->∃d,d<m/\W (i+1) d c b)/\∀x b,J.yld i H x b->g x a b λj k=>f {D with nx:=N,ct:=N,bk:=D.nx} j k)
def mw(a:List Addr)(h:Heap):List (Addr×Obj):=a.filterMap λb=>(h.get? b).map λo=>(b,o)
def eN(c:b∈a)(e:h.get? b=some o):(b,o)∈mw a h:=abI.mpr #[b,c,by rw[e];rfl]
def Il(c:p∈mw a h):p.1∈a/\h.get? p.1=some p.2:=by
 obtain⟨b,d,e⟩:=abI.mp c;cases q:h.get? b with
 |none=>rw[q] at e;cases e
 |some o=>
  rw[q] at e;have f:(b,o)=p:=FB e;subst f;exact#[d,q]
def Inv.pinned(I:Inv X a f H s)(i:∀b∈c,fZ X a H b)(j:∀b∈c,∃o,s.heap.get? b=some o/\∀v,o.data≠ .cell v):Inv X (a++mw c s.heap) f H s:=
 I.tj λp k=>(eG.mp k).elim (λz=>I.pin p (i9 _ z)) λz=>by
  rfl';obtain⟨g,e⟩:=Il z;obtain⟨m,n,q,_⟩:=i p.1 g;obtain⟨o,h,d⟩:=j p.1 g;ac_rfl;rw[e] at h;cases h;exact#[e,m,n,q,d]
def Inv.jK(I:Inv X (a++pl) b H s):Inv X a b H s:=I.tj λp c=>I.pin p (i9 _ (i8 _ c))
theorem JZ(C:PassesOwn (model X.prog X.w) X.A X.env X.xe)(hc:X.calm=true)(hi:PI X tg iter Z)(hg:PG X tg g)(c:jO X t tb)
  (hs:∀x,foldedSetIterable iter X.env x=pure x:=by intro _;rfl):PS X (.For tg iter t [] P) (YB Z g tb):=by
 intro a s σ H D I h;refine wpAny_For (thn (hi a s σ H _ I h) λv s1 h1=>thn h1 λK7 s2 h2=>?_) hs;rfl';obtain⟨it,E,tn,J,H2,e,I2,T,k4,f2,W,⟨m0,w0⟩,F⟩:=h2;subst e;ac_rfl;have j:∀{q:Hp},(∀b∈E,q b=none)->∀b∈E,fZ X a q b:=λhn b c=>#[hn b c,(f2 b c).2];refine codeAny_forLoop_any (λn s'=>∃i G q,Inv X a G q s'/\tn i s'.heap/\(∀b∈E,q b=none)/\W i n G q) ?_ m0 #[0,σ,H2,I2,k4,λb c=>(f2 b c).1,w0];intro n s3 Vu;rfl';obtain⟨i,L,O,I3,vV,Wy,w3⟩:=Vu;ac_rfl
 rcases F i n L O w3 with ⟨stop,qn⟩ | ⟨go,N,hN,step⟩
 .refine aaE C (thn (T.done X rfl rfl rfl hc i a s3 L O X.xe I3 (j Wy) vV stop) λr s4 B=>?_)
  obtain⟨R,I4⟩:=B;subst R;exact abm #[L,O,I4,qn]
 .refine aaE C (thn (T.item X rfl rfl rfl hc i a s3 L O X.xe I3 (j Wy) vV go) λr s4 B=>?_)
  obtain⟨u,R,h4⟩:=B;subst R;refine aaE C (thn h4 λ_ s5 B=>?_);rfl';obtain⟨x,H5,I5,r5,y5,S,zF⟩:=B;ac_rfl;have SX:=I5.pinned (j zF) (T.obj _ _ S);refine aaE C (thn (hg _ s5 L H5 x u _ SX r5 (step x H5 y5)) λ_ s6 B=>?_);rfl';obtain⟨U,H6,I6,q6⟩:=B;ac_rfl;refine aaE C (thn (c _ s6 U H6 _ I6 q6) λf Y y=>?_)
  have again:∀{k:St}{l:Hp},Inv X (a++mw E s5.heap) k l Y->N k l->∃m,m<n/\∃i G q,Inv X a G q Y/\tn i Y.heap/\(∀b∈E,q b=none)/\W i m G q:=λ {k l} p M=>by
   obtain⟨m',hm,w7⟩:=hN k l M;refine#[m',hm,i+1,k,l,p.jK,T.keep _ _ _ S λb c o e=>(p.pin (b,o) (i9 _ (i9 _ (eN c e)))).1,λb c=>?_,w7];obtain⟨o,e,d⟩:=T.obj _ _ S b c;exact(p.pin (b,o) (i9 _ (i9 _ (eN c e)))).2.1
  cases f with
  |next=>obtain⟨k,l,p,M⟩:=y;exact again p M
  |cont=>obtain⟨k,l,p,M⟩:=y;exact again p M
  |brk=>obtain⟨k,l,p,y⟩:=y;exact#[k,l,p.jK,y]
  |ret v=>obtain⟨x7,k,l,p,r7,y⟩:=y;exact#[x7,k,l,p.jK,r7,y]
end
abbrev R2:=V->V->Hp->VK->Prop
def OpR(X:Cx)(f:Value->Value->Sem Value)(r:R2):Prop:=
 ∀(a:List (Addr×Obj))(s:Shared)(b:St)(H:Hp)(x y:V)(v u:Value)(Q:VK),Inv X a b H s->RelV x v->RelV y u->r x y H Q->
  wpAny (model X.prog X.w) X.A (f v u) (EP X a b Q) X.xe s
def CallR(X:Cx)(f:Value)(r:List V->Hp->VK->Prop):Prop:=
 ∀(a:List (Addr×Obj))(s:Shared)(b:St)(H:Hp)(c:List V)(d:List Value)(Q:VK),Inv X a b H s->Vals c d->r c H Q->
  wpAny (model X.prog X.w) X.A (call f d) (EP X a b Q) X.xe s
def VI(X:Cx)(r:V->Hp->(Bool->Hp->Prop)->Prop):Prop:=
 ∀(a:List (Addr×Obj))(s:Shared)(b:St)(H:Hp)(x:V)(v:Value)(Q:Bool->Hp->Prop),Inv X a b H s->RelV x v->r x H Q->
  wpAny (model X.prog X.w) X.A (truthy v) (TP X a b Q) X.xe s
def O9(r:R2)(b c:TE):TE:=λa H Q=>b a H λx d=>c a d λy e=>r x y e Q
def rI(C:Int->Int->Prop)(g:Int->Int->V):R2:=λx y H Q=>∃i j,x= .int i/\y= .int j/\C i j/\Q (g i j) H
def Af(g:Int->Int->V):R2:=λx y H Q=>∃i j,x= .int i/\y= .int j/\Q (g i j) H
section
variable {X:Cx} {a b c:Expr} {ta tb tc:TE} {pos:Pos}
def Mh(l:PE X a ta)(m:PE X b tb){d:List (Addr×Obj)}{s:Shared}{e:St}{H:Hp}{R:V->V->Hp->Prop}(I:Inv X d e H s)
  (h:ta e H λx k=>tb e k λy g=>R x y g) {Q:Value->Shared->Prop} {f:Value->Value->Sem Value}
  (n:∀v u j x y g,Inv X d e g j->RelV x v->RelV y u->R x y g->wpAny (model X.prog X.w) X.A (f v u) Q X.xe j):
  wpAny (model X.prog X.w) X.A (eval a X.env) (λv i=>wpAny (model X.prog X.w) X.A (eval b X.env) (λu o=>wpAny (model X.prog X.w) X.A (f v u) Q X.xe o) X.xe i) X.xe s:=by
 refine thn (l d s e H _ I h) λv p #[x,k,q,r,t]=>?_;refine thn (m d p e k _ q t) λu j #[y,g,z,B,C]=>?_;exact n v u j x y g z r B C
def Ow(f:OpR X (binaryOp e) r)(g:PE X a ta)(i:PE X b tb):PE X (.BinOp a e b pos) (O9 r ta tb):=by
 intro d s j H Q I h;exact wpAny_BinOp (Mh g i I h λv u k x y l m n o q=>f d k j l x y v u Q m n o q)
def QR{f:Value->Value->Sem Value}{C:Int->Int->Prop}{g:Int->Int->Int}
  (rule:∀(i j:Int)(t u:Tok)(s:Shared)(Q:Value->Shared->Prop)(E:Value->Shared->Prop),C i j->Q (.int (g i j) s.toks) {s with toks:=s.toks+1}->wpAny (model X.prog X.w) X.A (f (.int i t) (.int j u)) Q E s):
  OpR X f (rI C λi j=> .int (g i j)):=by
 intro d s n H x y v u Q I e k h;obtain⟨i,j,rfl,rfl,l,q⟩:=h;obtain⟨t,rfl⟩:=e;obtain⟨m,rfl⟩:=k;exact rule i j t m s _ _ l #[.int (g i j),H,I.tok _,#[_,rfl],q]
def Oc{f:Value->Value->Sem Value}{g:Int->Int->Int}
  (rule:∀(i j:Int)(t u:Tok)(s:Shared)(Q:Value->Shared->Prop)(E:Value->Shared->Prop),Q (.int (g i j) s.toks) {s with toks:=s.toks+1}->wpAny (model X.prog X.w) X.A (f (.int i t) (.int j u)) Q E s):
  OpR X f (Af λi j=> .int (g i j)):=by
 intro d s m H x y v u Q I e k h;obtain⟨i,j,rfl,rfl,q⟩:=h;obtain⟨t,rfl⟩:=e;obtain⟨l,rfl⟩:=k;exact rule i j t l s _ _ #[.int (g i j),H,I.tok _,#[_,rfl],q]
def Ob{f:Value->Value->Sem Value}{g:Int->Int->Bool}
  (rule:∀(i j:Int)(t u:Tok)(s:Shared)(Q:Value->Shared->Prop)(E:Value->Shared->Prop),Q (.bool (g i j)) s->wpAny (model X.prog X.w) X.A (f (.int i t) (.int j u)) Q E s):
  OpR X f (Af λi j=> .bl (g i j)):=by
 intro d s m H x y v u Q I e k h;obtain⟨i,j,rfl,rfl,q⟩:=h;obtain⟨t,rfl⟩:=e;obtain⟨l,rfl⟩:=k;exact rule i j t l s _ _ #[.bl (g i j),H,I,rfl,q]
def RY(i j:Int):Prop:=0<j/\j<1073741824
def RZ(i j:Int):Prop:=0<=j/\j<=1000000/\i.natAbs<2^64
def Jl(i j:Int):Prop:=(-(2^64)<i/\i<2^64)\/(-(2^64)<j/\j<2^64)
def Jl.ok(h:Jl i j):IntMulOk i j:=by
 rcases h with ⟨d,e⟩ | ⟨d,e⟩
 .exact .of_left (intBits_le_64 d e)
 .exact .of_right (intBits_le_64 d e)
def QS:OpR X (binaryOp .Add) (Af λi j=> .int (i+j)):=Oc λ_ _ _ _ _ _ _ q=>add_int q
def Q1:OpR X (binaryOp .Sub) (Af λi j=> .int (i-j)):=Oc λ_ _ _ _ _ _ _ q=>sub_int q
def QX:OpR X (binaryOp .Mult) (rI Jl λi j=> .int (i*j)):=QR λ_ _ _ _ _ _ _ d q=>mul_int q d.ok
def Oe:OpR X (binaryOp .FloorDiv) (rI RY λi j=> .int (i / j)):=QR λi j _ _ _ _ _ d q=>by
 have e:(0:Int)<j:=d.1;have f:j<1073741824:=d.2;exact floordiv_int (by lia) (by rw[Int.fdiv_eq_ediv_of_nonneg i (by lia)];exact q) (.inl (PyProof.noPylong_small (by lia)))
def QW:OpR X (binaryOp .Mod) (rI (λ_ j=>0<j) λi j=> .int (i%j)):=QR λi j _ _ _ _ _ d q=>by
 have e:(0:Int)<j:=d;exact mod_int' (by lia) (by rw[Int.fmod_eq_emod_of_nonneg i (by lia)];exact q)
def QZ:OpR X (binaryOp .Pow) (rI RZ λi j=> .int (i^j.toNat)):=QR λ_ _ _ _ _ _ _ d q=>pow_int_small d.1 d.2.1 d.2.2 q
def QT:OpR X (binaryOp .BitAnd) (Af λi j=> .int (Builtin.bitAnd i j)):=Oc λ_ _ _ _ _ _ _ q=>and_int q
end
section
variable {X:Cx} {a b c:Expr} {ta tb tc:TE} {pos:Pos}
def JE(I:Inv X d f H s)(q:Q (.bl k) H)(e:k=g):EP X d f Q (.bool g) s:=by
 subst e;exact#[.bl k,H,I,rfl,q]
def UP:OpR X (compareOp .Lt) (Af λi j=> .bl (decide (i<j))):=Ob λ_ _ _ _ _ _ _ q=>lt_int q
def UO:OpR X (compareOp .LtE) (Af λi j=> .bl (decide (i<=j))):=Ob λ_ _ _ _ _ _ _ q=>le_int q
def UN:OpR X (compareOp .Gt) (Af λi j=> .bl (decide (j<i))):=Ob λ_ _ _ _ _ _ _ q=>gt_int q
def QV:OpR X (compareOp .Is) (λx y H Q=>y= .aY/\Q (.bl (decide (x= .aY))) H):=by
 intro d s g H x y v u Q I e f h;obtain⟨rfl,q⟩:=h;subst f;refine is_none_gen (JE I q ?_)
 cases x<;>first
  | (cases e;rfl)
  | (obtain⟨t,rfl⟩:=e;rfl)
def Of:OpR X (compareOp .IsNot) (λx y H Q=>y= .aY/\Q (.bl (!decide (x= .aY))) H):=by
 intro d s g H x y v u Q I e f h;obtain⟨rfl,q⟩:=h;subst f;refine isnot_none_gen (JE I q ?_)
 cases x<;>first
  | (cases e;rfl)
  | (obtain⟨t,rfl⟩:=e;rfl)
def OpR.or(h:OpR X f r)(k:OpR X f e):OpR X f (λx y H Q=>r x y H Q\/e x y H Q):=by
 intro d s g H x y v u Q I i j q
 rcases q with q|q
 .exact h d s g H x y v u Q I i j q
 .exact k d s g H x y v u Q I i j q
def bD(b:Expr)(h:d≠ .In:=by decide)(e:d≠ .NotIn:=by decide):behindInMarks d b=false:=by
 have f:(d==CmpOp.In)=false:=by cases d<;>first|rfl|exact absurd rfl h
 have g:(d==CmpOp.NotIn)=false:=by cases d<;>first|rfl|exact absurd rfl e
 cases b<;>simp[behindInMarks,f,g]
def Ol(f:OpR X (compareOp e) r)(g:PE X a ta)(i:PE X b tb)(j:behindInMarks e b=false):PE X (.Compare a [e] [b] pos) (O9 r ta tb):=by
 intro d s k H Q I h;exact wpAny_Compare1 (Mh g i I h λv u l x y m n o p q=>f d l k m x y v u Q n o p q) j
def IS(t:TE):TT:=λd H Q=>t d H λx e=>∃k,x= .bl k/\Q k e
def OG(i:OpR X (compareOp f) r)(j:PE X a ta)(l:PE X b tb)(m:behindInMarks f b=false):PT X (.Compare a [f] [b] pos) (IS (O9 r ta tb)):=by
 intro d s g H Q I h
 refine wpAny_isTrue_Compare1 (thn (j d s g H _ I h) λv n #[x,o,p,q,t]=>thn (l d n g o _ p t) λu w #[y,A,B,C,E]=>
  thn (i d w g A x y v u _ B q C E) λc M #[z,F,G,J,k,e,L]=>?_) m
 subst e;subst J;exact SB #[F,G,L]
def Eb(r f:R2)(g h tc:TE):TE:=λd H Q=>g d H λx i=>h d i λy j=>r x y j λz e=>∃k,z= .bl k/\
 (if k=true then tc d e λl m=>f y l m Q else Q (.bl false) e)
theorem Ln(q:OpR X (compareOp i) r)(t:OpR X (compareOp j) l)(w:PE X a ta)(A:PE X b tb)(B:PE X c tc)
  (C:lastMarks [i,j] [b,c]=false:=by with_unfolding_all rfl):PE X (.Compare a [i,j] [b,c] pos) (Eb r l ta tb tc):=by
 intro f s g H Q I h
 refine Compare_chain (thn (w f s g H _ I h) λv E #[x,F,G,J,L]=>chain_link (thn (A f E g F _ G L) λu M #[y,N,O,m,P]=>
  thn (q f M g N x y v u _ O J m P) λd R #[z,n,o,S,k,e,p]=>?_)) C
 subst e;subst S;refine SB ?_;cases k with
 |false=>exact ite_ff #[.bl false,n,o,rfl,p]
 |true=>exact ite_tt (chain_last (thn (B f R g n _ o p) λT U #[Y,Z,I4,r4,q4]=>t f U g Z y Y u T Q I4 m r4 q4))
theorem Lw(q:OpR X (compareOp i) r)(t:OpR X (compareOp j) l)(w:PE X a ta)(A:PE X b tb)(B:PE X c tc)
  (C:lastMarks [i,j] [b,c]=false:=by with_unfolding_all rfl):PT X (.Compare a [i,j] [b,c] pos) (IS (Eb r l ta tb tc)):=by
 intro f s g H Q I h
 refine isTrue_chain (thn (w f s g H _ I h) λv E #[x,F,G,J,L]=>test_link (thn (A f E g F _ G L) λu M #[y,N,O,m,P]=>
  thn (q f M g N x y v u _ O J m P) λd R #[z,n,o,S,k,e,p]=>?_)) C
 subst e;subst S;refine SB ?_;cases k with
 |false=>
  rfl';obtain⟨k',U,Y⟩:=p;cases U;ac_rfl;exact ite_ff #[n,o,Y]
 |true=>
  refine ite_tt (test_last (thn (B f R g n _ o p) λZ s4 #[z',H4,I4,r4,q4]=>thn (t f s4 g H4 y z' u Z _ I4 m r4 q4) λd' s5 #[z2,H5,I5,r5,k2,e2,q5]=>?_));subst e2;subst r5;exact SB #[H5,I5,q5]
def R4(K:aj)(x:V)(H:Hp)(k:Bool):Prop:=
 match x with
 | .aY=>k=false
 | .bl b=>k=b
 | .int i=>k=(i !=0)
 | .str y=>y.length<=sizeLine/\k=((y.length:Int) !=0)
 | .Kq y=>y.size<=sizeLine/\k=((y.size:Int) !=0)
 | .ref p=>(∃d,cJ K H p d/\k= !d.isEmpty)\/(∃d,gT K H p d/\k= !d.isEmpty)\/∃e,H p=some (.dK e)/\k= !e.isEmpty
 |_=>False
def Fu(r:KV e f):(!f.isEmpty)= !e.isEmpty:=by
 cases r<;>rfl
def vf(r:Vals e d):(!d.toArray.isEmpty)= !e.isEmpty:=by
 cases r<;>simp
def l6:(sizeLine:Nat)<2^63:=by rw[aaJ];decide
def RO:VI X (λx H Q=>∃k,R4 X.K x H k/\Q k H):=by
 intro pins s σ H x v Q I rx h;obtain⟨k,e,q⟩:=h;have hl:=l6;have hs:sizeLine=16777216:=sizeLine_eq;cases x with
 |aY=>
  cases rx;have e':k=false:=e;subst e';exact truthy_none #[H,I,q]
 |bl b=>
  cases rx;have e':k=b:=e;subst e';exact wpAny_truthy_bool #[H,I,q]
 |int i=>
  obtain⟨t,rfl⟩:=rx;have e':k=(i !=0):=e;subst e';exact PySem.P.truthy_int #[H,I,q]
 |str y=>
  obtain⟨t,rfl⟩:=rx;obtain⟨hy,e'⟩:y.length<=sizeLine/\k=((y.length:Int) !=0):=e;subst e';exact PySem.P.truthy_str (by lia) #[H,I.tok _,q]
 |Kq y=>
  obtain⟨t,rfl⟩:=rx;obtain⟨hy,e'⟩:y.size<=sizeLine/\k=((y.size:Int) !=0):=e;subst e';exact PySem.W.truthy_bytes (by lia) #[H,I.tok _,q]
 |ref p=>
  subst rx;have e':(∃xs,cJ X.K H p xs/\k= !xs.isEmpty)\/(∃xs,gT X.K H p xs/\k= !xs.isEmpty)\/∃fe,H p=some (.dK fe)/\k= !fe.isEmpty:=e
  rcases e' with ⟨xs,hx,e'⟩ | ⟨xs,hx,e'⟩ | ⟨fe,hx,e'⟩
  .subst e'
   obtain⟨its,r,pl,hz⟩:=I.list hx;have hlen:=r.length;exact wpAny_truthy_list pl.isList (by simp only[cY];lia) #[H,I.tok _,by rw[vf r];exact q]
  .subst e'
   obtain⟨its,r,pl,hz⟩:=I.tuple hx;have hlen:=r.length;exact truthy_tuple pl (by simp only[cY];lia) #[H,I.tok _,by rw[vf r];exact q]
  .subst e'
   obtain⟨hz,hS,vs,r,m⟩:fe.length<=sizeLine/\(p==sysModules)=false/\∃vs,KV fe vs/\s.heap.DictOf (yb X.prog X.w) p vs:=I.hok p _ hx;have hlen:fe.length=vs.length:=Paired.length r;exact wpAny_truthy_dict hS m (by lia) #[H,I.tok _,by rw[Fu r];exact q]
 |_=>exact(show False from e).elim
def Lx(i:PE X a ta)(j:∀d,isTrue a X.env d=(do let v <-d;standAt a.pos;holding [v] (truthy v))):
  PT X a (λf H Q=>ta f H λx g=>∃k,R4 X.K x g k/\Q k g):=by
 intro e s f H Q I h;exact isTrue_plain (thn (i e s f H _ I h) λv l #[x,m,n,o,p]=>RO e l f m x v Q n o p) (j _)
def vals1(r:Vals [x] d):∃u,d= [u]/\RelV x u:=by
 cases r with
 |cons e f=>cases f;exact#[_,rfl,e]
def vals2(r:Vals [x,y] d):∃u e,d= [u,e]/\RelV x u/\RelV y e:=by
 cases r with
 |cons f g=>
  cases g with
  |cons h i=>cases i;exact#[_,_,rfl,f,h]
def Hf(g:X.calm=true):CallR X (.builtin "max") (λe H Q=>∃i j,e= [.int i, .int j]/\Q (.int (if j>i then j else i)) H):=by
 intro f s m H e n Q I r h;rfl';obtain⟨i,j,rfl,q⟩:=h;obtain⟨u,p,rfl,⟨t,rfl⟩,⟨v,rfl⟩⟩:=vals2 r;ac_rfl;refine max_two_ints (I.ok.hd g) λw x k=>#[_,H,I.kept k,?_,q]
 by_cases d:j>i
 .rw[tz d,tz d];exact#[_,rfl]
 .rw[mo d,mo d];exact#[_,rfl]
end
structure wy (h:Heap) (x dx C:Addr) (mA:Str->Option Value):Prop where
 obj:h.get? x=some (b4 C dx)
 ns:h.Ns1 dx mA
 ne:dx≠x
def qL{h:Heap}(n:h.Ns1 c d):∃od,h.get? c=some od/\∀b,cq b od=some (d b):=by
 rfl';obtain⟨o,f,u,i,j,k,_,l⟩:=n;ac_rfl;refine#[o,i,λb=>?_];have e:=l b;unfold nsFind findBy at e;rw[<-Array.find?_toList] at e;unfold cq;rw[j];dsimp only
 split
 .rename_i y q
  rw[q] at e;exact KB some e
 .rename_i q
  rw[q] at e
  have a:f.toList.any (·.refKey)=false:=by
   rw[List.any_eq_false];intro y m;obtain⟨z,t,p⟩:=k y (Array.mem_toList_iff.mp m);simp[DictEntry.refKey,p]
  have r:¬f.toList.any (·.refKey)=true:=by rw[a];exact eO
  rw[mo r];exact KB some e
def wy.look(I:wy h x c C d):∃b,PySem.W.InstAt h x (b4 C c) C (some b)/\∀a,cq a b=some (d a):=
 let #[b,e,f]:=qL I.ns
 #[b,#[I.obj,rfl,rfl,e],f]
section
variable {prog:Program} {w:World} {A:Around} {E:Value->Shared->Prop} {s:Shared} {K:aj} {x dx C f:Addr} {mA:Str->Option Value} {name:Str} {v:Value}
def get_map(X:K.In s.heap)(I:wy s.heap x dx C mA)(b:b6 K C name=true)(c:bd K C=true)
  (d:am K (.ref C) name=some none) (e:mA name=some v) (g:PySem.W.handedIn v=true) (h:Q v {s with toks:=s.toks+1}):
  wpAny (model prog w) A (getAttr (.ref x) name a) Q E s:=by
 obtain⟨j,J,i⟩:=I.look;exact PySem.W.get_value X J (abA b).1 (PySem.W.findObj_own c d rfl (by rw[i,e])) g h
def KQ(X:K.In s.heap)(I:wy s.heap x dx C mA)(a:b6 K C name=true)
  (b:am K (.ref C) name=some (some (.ref f))) (c:bj K (.ref f)=true) (d:mA name=none) (h:Q (.ref f,[.ref x]) s):
  wpAny (model prog w) A (getMethod (.ref x) name pl) Q E s:=by
 obtain⟨e,J,g⟩:=I.look;exact PySem.W.method_fn X J (abA a).1 (abA a).2 b (aaw.mp c) (by show(cq name e).map (·.isSome)=some false;rw[g,d];rfl) h
def OS{e:List Str}(X:K.In s.heap)(I:wy s.heap x dx C mA)
  (j:am K (.ref C) "__setattr__"=some (some (.builtin "object.__setattr__"))) (k:cu K C=true) (l:cP K C name=some none) (m:bd K C=true)
  (hw:b5 mA e) (B:e.length<=sizeLine)
  (h:∀c,wy c x dx C (λy=>if y=name then some v else mA y)->Heap.SameBut dx s.heap c->Q () {s with heap:=c,toks:=s.toks+2}):
  wpAny (model prog w) A (setAttr (.ref x) name v) Q E s:=by
 rfl';obtain⟨F,J,G⟩:=I.look;obtain⟨H,o,p⟩:=PySem.W.any_some m;ac_rfl;refine PySem.W.set_plain X J j (PySem.W.osa_open (s:={s with toks:=s.toks+1}) (r:=none) X J k l λb=>?_)
 have q:s.heap.get? x=some #[.ref C,some dx, .plain, #[]]:=I.obj;refine ir (AC (ir (ir (abB q (ir (PySem.W.Looks.here (s:={s with toks:=s.toks+1}) (PySem.W.looks_clsIn X o) ?_))))))
 rw[p];refine AC (a:=some dx) (ir (AC (ir ?_)));refine acD (s:={s with toks:=s.toks+1}) I.ns λc g i=>?_
 rfl';obtain⟨oD,L,M,t,u,z⟩:=g.count (PySem.Within.cons name v hw);ac_rfl;refine ir (ab0 t (by rw[u];exact ab1 (jr z (by rw[cO];lia))) ?_)
 exact AC (h _ #[(i.2 _ (Ne.symm I.ne)).trans I.obj,g,I.ne] i)
def Le(X:K.In s.heap)(c:cV K C=true)
  (e:am K (.ref C) "__init__"=some (some (.ref f))) (i:PySem.W.typeIn K (.ref f)=some (.type "function"))
  (h:codeAny (model prog w) (A.under (.builtin "type.__call__" #[.ref C::a,b])) (.call (.ref f) #[.ref (s.heap.objs.size+1)::a,b]) (PySem.W.InitBack (s.heap.objs.size+1) R)
   {s with heap:=(s.heap.push bh).push (b4 C s.heap.objs.size)}):
  codeAny (model prog w) A (.call (.ref C) #[a,b]) R s:=by
 obtain⟨j,g,d,t,os⟩:=s;exact PySem.W.make_core (PySem.W.makes_of X c) (abn X e) (λself=>PySem.W.bind_fn X self i) (.inl rfl) h
end
def i6(f:Str)(v:V):List (Str×V)->List (Str×V)
 | []=> [(f,v)]
 | (g,x)::r=>if g=f then(g,v)::r else(g,x)::i6 f v r
theorem l7(f g:Str)(v:V):∀fs:List (Str×V),(i6 f v fs).lookup g=if g=f then some v else fs.lookup g
 | []=>by
  show bc g [(f,v)]=_
  by_cases h:g=f
  .have a:(g==f)=true:=aaw.mpr h
   simp only[bc,a,tz h]
  .have a:(g==f)=false:=aat.mpr h
   simp only[bc,a,mo h]
 | (k,x)::r=>by
  have c:=l7 f g v r;rw[show i6 f v ((k,x)::r)=(if k=f then(k,v)::r else(k,x)::i6 f v r) from rfl]
  by_cases b:k=f
  .rw[tz b]
   by_cases h:g=k
   .have a:(g==k)=true:=aaw.mpr h
    simp only[bc,a,tz (h.trans b)]
   .have a:(g==k)=false:=aat.mpr h
    simp only[bc,a,mo (λe:g=f=>h (e.trans b.symm))]
  .rw[mo b]
   by_cases h:g=k
   .have a:(g==k)=true:=aaw.mpr h
    simp only[bc,a,mo (λe:g=f=>b (h.symm.trans e))]
   .have a:(g==k)=false:=aat.mpr h
    simp only[bc,a];exact c
theorem jV(f:Str)(v:V):∀fs:List (Str×V),f∈(i6 f v fs).map (·.1)/\∀g,g∈fs.map (·.1)->g∈(i6 f v fs).map (·.1)
 | []=>#[by simp[i6],λg h=>by simp at h]
 | (k,x)::r=>by
  obtain⟨b,c⟩:=jV f v r;rw[show i6 f v ((k,x)::r)=(if k=f then(k,v)::r else(k,x)::i6 f v r) from rfl]
  by_cases a:k=f
  .rw[tz a]
   subst a;exact#[by simp,λg h=>h]
  .rw[mo a]
   refine#[?_,λg h=>?_]
   .rw[dz]
    exact eM _ b
   .rw[dz] at h ⊢
    rcases b8.mp h with e|e
    .exact b8.mpr (.inl e)
    .exact eM _ (c g e)
theorem l4(f:Str)(v:V):∀fs:List (Str×V),(i6 f v fs).length<=fs.length+1
 | []=>by simp[i6]
 | (k,x)::r=>by
  have b:=l4 f v r;rw[show i6 f v ((k,x)::r)=(if k=f then(k,v)::r else(k,x)::i6 f v r) from rfl]
  by_cases a:k=f
  .rw[tz a,cO,cO];lia
  .rw[mo a,cO,cO];lia
def ke.some_of{v:V}{o:Option Value}(r:ke (some v) o):∃u,o=some u/\RelV v u:=by
 cases o with
 |none=>exact(show False from r).elim
 |some u=>exact#[u,rfl,r]
def ke.none_of(r:ke none o):o=none:=by
 cases o with
 |none=>rfl
 |some u=>exact(show False from r).elim
def xC{v:V}{u:Value}(r:RelV v u):PySem.W.handedIn u=true:=by
 cases v with
 |aY=>cases(show u=Value.none from r);rfl
 |bl b=>cases(show u=Value.bool b from r);rfl
 |int i=>obtain⟨t,e⟩:=(show ∃t,u=Value.int i t from r);cases e;rfl
 |str x=>obtain⟨t,e⟩:=(show ∃t,u=Value.str x t from r);cases e;rfl
 |Kq b=>obtain⟨t,e⟩:=(show ∃t,u=Value.bytes b t from r);cases e;rfl
 |Ht b=>obtain⟨t,e⟩:=(show ∃t,u=Value.float b t from r);cases e;rfl
 |ref a=>cases(show u=Value.ref a from r);rfl
 |ty n=>cases(show u=Value.type n from r);rfl
section
variable {P:Program} {w:World} {H H':Hp} {h h':Heap} {a C dx:Addr} {fs ZY:List (Str×V)}
def sH(hok:gx P w H h)(e:H a=some (.ins C dx fs)):∃b,wy h a dx C b/\(∀f,ke (fs.lookup f) (b f))/\b5 b (fs.map (·.1))/\fs.length<=1000/\H dx=some (.own a):=by
 obtain⟨d,z,ne,c,b,n,r,q⟩:=(show cn P w H h a (.ins C dx fs) from hok a _ e);exact#[b,#[c,n,ne],r,q,z,d]
end
structure wk (K:aj) (C:Addr):Prop where
 pg:b6 K C Str.empty=true
 hd:bd K C=true
 po:cu K C=true
 sa:am K (.ref C) "__setattr__"=some (some (.builtin "object.__setattr__"))
def wk.get{K:aj}{C:Addr}(c:wk K C)(f:Str):b6 K C f=true:=c.pg
def fO(K:aj)(C:Addr)(f:Str):Prop:=am K (.ref C) f=some none
def fO.IT{K:aj}{C:Addr}{f:Str}(n:fO K C f):cP K C f=some none:=by
 unfold cP;rw[show am K (.ref C) f=some none from n];rfl
structure Meth (K:aj) (C:Addr) (m:Str) (f:Addr):Prop where
 at_:am K (.ref C) m=some (some (.ref f))
 fn:bj K (.ref f)=true
 kp:aA K (.ref f)=true
section
variable {X:Cx} {pins:List (Addr×Obj)} {σ:St} {H:Hp} {s:Shared} {a C dx:Addr} {fs:List (Str×V)} {f:Str} {v:V} {A:Around} {E:Value->Shared->Prop}
def Fd(I:Inv X pins σ H s)(e:H a=some (.ins C dx fs))(c:wk X.K C)(n:fO X.K C f)(l:fs.lookup f=some v)
  (h:∀u d,Inv X pins σ H d->RelV v u->Q u d):wpAny (model X.prog X.w) A (getAttr (.ref a) f b) Q E s:=by
 obtain⟨i,O,r,_,_,_⟩:=sH I.hok e;obtain⟨u,j,g⟩:=ke.some_of (v:=v) (o:=i f) (by rw[<-l];exact r f)
 exact get_map I.cR O (c.get f) c.hd n j (xC g) (h u _ (I.tok _) g)
def vd{pl:Sem Bool}(I:Inv X pins σ H s)(e:H a=some (.ins C dx fs))(c:wk X.K C)(k:Meth X.K C m g)(l:fs.lookup m=none)
  (h:Q (.ref g,[.ref a]) s):wpAny (model X.prog X.w) A (getMethod (.ref a) m pl) Q E s:=by
 obtain⟨b,O,r,_,_,_⟩:=sH I.hok e;have d:b m=none:=ke.none_of (by rw[<-l];exact r m)
 exact KQ I.cR O (c.get m) k.at_ k.fn d h
def Ga(I:Inv X pins σ H s)(e:H a=some (.ins C dx fs))(c:wk X.K C)(n:fO X.K C f)(N:fs.length<1000)(m:RelV y u)
  (h:∀i,Inv X pins σ (upd H a (.ins C dx (i6 f y fs))) i->Q () i):wpAny (model X.prog X.w) A (setAttr (.ref a) f u) Q E s:=by
 rfl';obtain⟨j,O,r,k,_,l⟩:=sH I.hok e;have t:(fs.map (·.1)).length<=sizeLine:=by rw[aV,aaJ];lia
 ac_rfl;refine OS I.cR O c.sa c.po n.IT c.hd k t λB d F=>h _ ?_;have G:∃o,B.get? dx=some o:=let #[o,_,_,J,_]:=d.ns;#[o,J];refine I.write (x:=a) (e:=dx) (by rw[e];exact True.intro) (.inr l) (λb q L z=>(F.2 b L).trans z) G ?_
 refine#[by rw[aw O.ne];exact l,?_,O.ne,d.obj,_,d.ns,λg=>?_,λg M=>?_]
 .have:=l4 f y fs;lia
 .show ke ((i6 f y fs).lookup g) (if g=f then some u else j g)
  rw[l7]
  by_cases q:g=f
  .rw[tz q,tz q];exact m
  .rw[mo q,mo q];exact r g
 .by_cases q:g=f
  .rw[q];exact(jV f y fs).1
  .refine(jV f y fs).2 g (k g λz=>M ?_)
   show(if g=f then some u else j g)=none;rw[mo q];exact z
def Inv.made(I:Inv X pins σ H s):Inv X pins σ (upd (upd H s.heap.objs.size (.own (s.heap.objs.size+1))) (s.heap.objs.size+1) (.ins C s.heap.objs.size []))
  {s with heap:=(s.heap.push bh).push (b4 C s.heap.objs.size)}:=by
 have c:(s.heap.push bh).get? s.heap.objs.size=some bh:=GM s.heap rfl
 have d:((s.heap.push bh).push (b4 C s.heap.objs.size)).get? (s.heap.objs.size+1)=some (b4 C s.heap.objs.size):=by
  have:=GM (s.heap.push bh) (o:=b4 C s.heap.objs.size) rfl
  rwa [aaZ] at this
 have g:(s.heap.push bh).Ns s.heap.objs.size (λ_=>none):=#[bh, #[],_,c,rfl,(λe h=>absurd h (by simp)),λ_=>rfl]
 have i:=I.laid (a:=s.heap.objs.size) (o:= .own (s.heap.objs.size+1)) (h':=s.heap.push bh) (t':=s.toks) (λb u q=>Da _ q) (bu _) #[_,c];refine i.laid (a:=s.heap.objs.size+1) (o:= .ins C s.heap.objs.size []) (t':=s.toks) (λb u q=>Da _ q) (Nat.le_of_eq (aaZ _ _)) ?_;have ne:s.heap.objs.size≠s.heap.objs.size+1:=bO (aba _);refine#[by rw[aw ne,au],cZ _,ne,d,λ_=>none,(Heap.Ns1.of_empty g).at λo q=>Da _ q,λ_=>True.intro,λy j=>absurd rfl j]
def EL{f:Str}{s:Shared}(d:attributeBase e f env (eval e env)=eval e env)
  (h:wpAny (model prog w) A (eval e env) (λo b=>wpAny (model prog w) A (getAttr o f true) Q E b) E s):wpAny (model prog w) A (eval (.Attribute e f c) env) Q E s:=
 Attribute_any_ h (by rw[arm_eval_Attribute,d])
end
def YA(K:aj)(c:TE)(f:Str):TE:=λd H Q=>c d H λx b=>∃a C e fs v,x= .ref a/\b a=some (.ins C e fs)/\wk K C/\fO K C f/\fs.lookup f=some v/\Q v b
def Yn(K:aj)(e g:TE)(f:Str):TS:=λD b H=>g b H λy h=>e b h λx c=>∃a C d fs,x= .ref a/\c a=some (.ins C d fs)/\wk K C/\fO K C f/\fs.length<1000/\
 D.nx b (upd c a (.ins C d (i6 f y fs)))
section
variable {X:Cx} {o e value:Expr} {f:Str} {pos pos' YL:Pos} {ta tv:TE}
def Q5(d:PE X e ta)(g:attributeBase e f X.env (eval e X.env)=eval e X.env):PE X (.Attribute e f pos) (YA X.K ta f):=by
 intro b s i H Q I h;refine EL g (thn (d b s i H _ I h) λu A j=>?_);rfl';obtain⟨x,m,p,r,a,C,E,fs,v,t,w,c,n,l,q⟩:=j;ac_rfl;subst t;obtain rfl:u=Value.ref a:=r;exact Fd p w c n l λF G y z=>#[v,m,y,z,q]
def Rg(g:PE X o ta)(i:PE X value tv)(j:swapsWith value (some (.Attribute o f pos')) pos.line X.env=pure false):PS X (.Assign [.Attribute o f pos'] value pos) (Yn X.K ta tv f):=by
 intro b s d H D I h;refine abk (thn (i b s d H _ I h) λu k #[y,m,p,r,q]=>thn (g b k d m _ p q) λt F #[x,G,v,w,a,C,J,fs,z,A,c,n,l,B]=>?_) j;subst z;obtain rfl:t=Value.ref a:=w;exact Ga v A c n l r λL E=>#[d,_,E,B]
end
section
variable {X:Cx} {pins:List (Addr×Obj)} {σ:St} {H:Hp} {s:Shared} {A:Around} {E:Value->Shared->Prop} {Q:Value->Shared->Prop} {c:Value} {b:Bool}
inductive kg (K:aj) (H:Hp):V->Value->Prop where
 |aY:kg K H .aY (.type "NoneType")
 |bl (x:Bool):kg K H (.bl x) (.type "bool")
 |int (i:Int):kg K H (.int i) (.type "int")
 |str (x:Str):kg K H (.str x) (.type "str")
 |Ht (x:UInt64):kg K H (.Ht x) (.type "float")
 |lst {a:Addr} {xs:List V} (e:H a=some (.lst xs)):kg K H (.ref a) (.type "list")
 |qC {a:Addr} {o:Obj} {xs:List V} (e:H a=some (.qC o (.lst xs))):kg K H (.ref a) (.type "list")
 |tup {a:Addr} {xs:List V} (e:H a=some (.tup xs)):kg K H (.ref a) (.type "tuple")
 |dK {a:Addr} {fe:List (Key×V)} (e:H a=some (.dK fe)):kg K H (.ref a) (.type "dict")
 |dT {a:Addr} {fe:List (List Key×V)} (e:H a=some (.dT fe)):kg K H (.ref a) (.type "dict")
 |ins {a C dx:Addr} {fs:List (Str×V)} (e:H a=some (.ins C dx fs)) (cl:wk K C) (ha:am K (.ref C) "__class__"=some (some (.builtin "object.__class__")))
   (hn:aS K (.builtin "object.__class__") "__get__"=some (some (.builtin "getset_descriptor.__get__"))) (htk:cF K (.builtin "object.__class__")=some true)
   (hm:bv K C (.type "object")=some true):kg K H (.ref a) (.ref C)
def HU{x:V}{u t:Value}(I:Inv X pins σ H s)(rx:RelV x u)(ty:kg X.K H x t)(e:ac X.K t c=some b)(h:∀tk,Q (.bool b) {s with toks:=tk}):
  wpAny (model X.prog X.w) A (call (.builtin "isinstance") [u,c]) Q E s:=by
 cases ty with
 |aY=>cases(show u=Value.none from rx);exact PySem.W.kia_one PySem.W.kitx_none I.cR True.intro e (λz=>nomatch z) h
 |bl y=>cases(show u=Value.bool y from rx);exact PySem.W.kia_one PySem.W.kitx_bool I.cR True.intro e (λz=>nomatch z) h
 |int i=>obtain⟨t,q⟩:=(show ∃t,u=Value.int i t from rx);cases q;exact PySem.W.kia_one PySem.W.kitx_int I.cR True.intro e (λz=>nomatch z) h
 |str y=>obtain⟨t,q⟩:=(show ∃t,u=Value.str y t from rx);cases q;exact PySem.W.kia_one PySem.W.kitx_str I.cR True.intro e (λz=>nomatch z) h
 |Ht y=>obtain⟨t,q⟩:=(show ∃t,u=Value.float y t from rx);cases q;exact PySem.W.kia_one PySem.W.kitx_float I.cR True.intro e (λz=>nomatch z) h
 | @lst a xs ea=>
  cases(show u=Value.ref a from rx);obtain⟨_,_,n,_,h1⟩:=(show cn X.prog X.w H s.heap a (.lst xs) from I.hok a _ ea);exact PySem.W.kia_one PySem.W.kitx_list I.cR #[_,h1,rfl] e (λz=>nomatch z) h
 | @qC a ob xs ea=>
  cases(show u=Value.ref a from rx);obtain⟨_,_,_,n,_,h1⟩:=(show cn X.prog X.w H s.heap a (.qC ob (.lst xs)) from I.hok a _ ea);exact PySem.W.kia_one PySem.W.kitx_list I.cR #[_,h1,rfl] e (λz=>nomatch z) h
 | @tup a xs ea=>
  cases(show u=Value.ref a from rx);obtain⟨_,_,_,p⟩:=(show cn X.prog X.w H s.heap a (.tup xs) from I.hok a _ ea);obtain⟨o,h1,h2,_⟩:=p;exact PySem.W.kia_one PySem.W.kitx_tuple I.cR #[o,h1,h2] e (λz=>nomatch z) h
 | @dK a fe ea=>
  cases(show u=Value.ref a from rx);obtain⟨_,_,vs,_,p⟩:=(show cn X.prog X.w H s.heap a (.dK fe) from I.hok a _ ea);obtain⟨o,es,ep,h1,h2,_⟩:=p;exact PySem.W.kia_one PySem.W.kitx_dict I.cR #[o,h1,h2.1] e (λz=>nomatch z) h
 | @dT a fe ea=>
  cases(show u=Value.ref a from rx);obtain⟨_,_,xs,_,o,es,ep,h1,h2,_⟩:=(show cn X.prog X.w H s.heap a (.dT fe) from I.hok a _ ea);exact PySem.W.kia_one PySem.W.kitx_dict I.cR #[o,h1,h2.1] e (λz=>nomatch z) h
 | @ins a C dx fs ea cl ha hn htk hm=>
  rfl';cases(show u=Value.ref a from rx);obtain⟨mA,O,_⟩:=sH I.hok ea;obtain⟨od,J,_⟩:=O.look;ac_rfl;exact PySem.W.kia_one (PySem.W.kitx_own (cl.get _) cl.hd ha hn htk hm) I.cR J e (λz=>nomatch z) h
end
structure bQ (k:Nat) (A:Around):Prop where
 hd:A.handled=none
 dp:A.depth+3*k+5<recursionLimit
 un:A.units+16*k+200<cLine
def bQ.mono(r:bQ k A)(h:j<=k):bQ j A:=#[r.hd,by have:=r.dp;lia,by have:=r.un;lia]
theorem bQ.deeper(r:bQ (k+1) A)(env:Env):bQ k (A.deeper env):=
 #[r.hd,by have:=r.dp;show A.depth+1+3*k+5<_;lia,by have:=r.un;show A.units+3+16*k+200<_;lia]
def FD{A:Around}:(A.under (.builtin "type.__call__" #[.ref C::a,b])).depth=A.depth+1:=by
 first|rfl|simp[Around.under,Code.weight,Code.isCreation,Code.isGuard,Code.isCaller,Code.frames,Code.isFrame,guardIds]
def FE{A:Around}:(A.under (.builtin "type.__call__" #[.ref C::a,b])).units=A.units+1:=by
 first|rfl|simp[Around.under,Code.cUnits,Code.frames,Code.isFrame]
def bQ.make(r:bQ (k+1) A)(C:Addr)(a:List Value)(b:List (Str×Value)):bQ k (A.under (.builtin "type.__call__" #[.ref C::a,b])):=
 #[r.hd,by have:=r.dp;rw[FD];lia,by have:=r.un;rw[FE];lia]
theorem bQ.depth{k:Nat}(r:bQ k A):A.depth<recursionLimit:=by have:=r.dp;lia
theorem bQ.units{k:Nat}(r:bQ k A):A.units+64<cLine:=by have:=r.un;lia
def SO:TA:=λ_ H Q=>Q [] H
def Vf(b:TE)(tr:TA):TA:=λa H Q=>b a H λx c=>tr a c λd e=>Q (x::d) e
section
variable {X:Cx} {e:Expr} {es:List Expr} {te:TE} {t:TA} {pos:Pos}
def fU:PA X [] SO:=λ_ _ _ _ H Q I h=>Calls.spliced_nil #[[],H,I, .nil,h]
def bS(d:PE X e te)(f:PA X es t)(g:starEach (e::es) X.env=(false,eval e X.env)::starEach es X.env:=by rfl):PA X (e::es) (Vf te t):=by
 intro b a s c H Q I h;rw[g];show wpAny _ _ (spliced ((false,eval e X.env)::backTo b (starEach es X.env))) _ _ s;refine Calls.spliced_cons (thn (d a s c H _ I h) λu i j=>?_);rfl';obtain⟨x,l,m,n,o⟩:=j;ac_rfl;exact thn (f b a i c l _ m o) λz A #[p,q,r,v,w]=>#[x::p,q,r, .cons n v,w]
def YK(t:TA):TE:=λc H Q=>t c H λa b=>a.length<=sizeLine/\∀p,b p=none->Q (.ref p) (upd b p (.tup a))
def YD(t:TA):TE:=λc H Q=>t c H λa b=>a.length<=sizeLine/\∀p,b p=none->Q (.ref p) (upd b p (.lst a))
def Rb{x1}(h:PA X es t):PE X (.Tuple es x1 pos) (YK t):=by
 intro a s g H Q I i;refine wpAny_Tuple_spliced (thn (h pos a s g H _ I i) λj c #[k,d,f,r,z,q]=>#[r.length▸z,?_]);have l:d c.heap.objs.size=none:=f.hok.fresh (bu _);refine#[.ref c.heap.objs.size,upd d c.heap.objs.size (.tup k),f.laid (t':=c.toks) (λb u e=>Da _ e) (bu _) ?_,rfl,q _ l];exact#[z,j,r,#[_,GM _ rfl,rfl,_,rfl]]
def JX(h:PA X es t):PE X (.List es pos) (YD t):=by
 intro a s g H Q I i;refine wpAny_List_spliced (thn (h pos a s g H _ I i) λj c #[k,d,f,r,z,q]=>#[r.length▸z,?_]);have l:d c.heap.objs.size=none:=f.hok.fresh (bu _);refine#[.ref c.heap.objs.size,upd d c.heap.objs.size (.lst k),f.laid (t':=c.toks) (λb u e=>Da _ e) (bu _) ?_,rfl,q _ l];exact#[z,j,0,r,GM _ rfl]
end
abbrev Sp:=List V->Hp->VK->XK->Prop
abbrev pF:=List Env->Hp->Shared->XK->Value->Shared->Prop
structure Env0 (P:Program) (w:World) (K:aj) (mg:Str->Option Value) (base:Heap) (A:Around) (outer:List Env) (s:Shared) (H:Hp):Prop where
 frames:A.frames=some outer
 mod:Mod K mg base
 bs:∀b o,base.get? b=some o->s.heap.get? b=some o/\H b=none
 bsz:base.objs.size<=s.heap.objs.size
 funs:s.heap.FunFrames base outer
 frf:∀b∈rZ outer,H b=none
 hok:gx P w H s.heap
 bare:AllBare s.gens
def CE(outer:List Env)(P:Program)(w:World)(H:Hp)(s:Shared)(Q:VK)(u:Value)(a:Shared):Prop:=
 ∃v b,a.os=s.os/\AllBare a.gens/\Un (rZ outer) [] H b s.heap a.heap/\gx P w b a.heap/\RelV v u/\Q v b
def CR(b:pF)(outer:List Env)(P:Program)(w:World)(H:Hp)(s:Shared)(Q:VK)(E:XK)(r:Result)(a:Shared):Prop:=
 match r with
 | .ok (.ret u)=>CE outer P w H s Q u a
 | .ok _=>False
 | .error e=>b outer H s E e a
structure FnOk (P:Program) (w:World) (K:aj) (mg:Str->Option Value) (base:Heap) (CX:pF) (k:Nat) (f:Addr) (fd:FuncData) (ps:List Str) (sp:Sp):Prop where
 len:∀vs H Q E,sp vs H Q E->vs.length=ps.length
 run:∀(A:Around)(outer:List Env)(s:Shared)(H:Hp)(args:Args)(us:List Value)(vs:List V)(Q:VK)(E:XK),bQ k A->Env0 P w K mg base A outer s H->BindsTo s fd args (ps.zip us)->Vals vs us->sp vs H Q E->
  codeAny (model P w) A (.call (.ref f) args) (CR CX outer P w H s Q E) s
theorem FnOk.mono{P:Program}{w:World}{K:aj}{b:Str->Option Value}{base:Heap}(F:FnOk P w K b base c j f d ps e)(h:j<=k):
  FnOk P w K b base c k f d ps e:=#[F.len,λA outer s H a g i Q E l=>F.run A outer s H a g i Q E (l.mono h)]
def FnOk.imp{P:Program}{w:World}{K:aj}{base:Heap}{d:pF}{f:Addr}{g i:Sp}(F:FnOk P w K c base d k f e ps g)
  (h:∀a H Q E,i a H Q E->g a H Q E):FnOk P w K c base d k f e ps i:=
 #[λa H Q E q=>F.len a H Q E (h _ _ _ _ q),λA outer s H b j a Q E l m n o p=>F.run A outer s H b j a Q E l m n o (h _ _ _ _ p)]
def Env0.make{P:Program}{w:World}{K:aj}{a:Str->Option Value}{base:Heap}{A:Around}{outer:List Env}{s:Shared}{H:Hp}(e:Env0 P w K a base A outer s H)(C:Addr)(b:List Value)(c:List (Str×Value)):
  Env0 P w K a base (A.under (.builtin "type.__call__" #[.ref C::b,c])) outer s H:=#[by first|exact e.frames| (simpa [Around.under,Code.envs,Code.isFrame,pushEnvs] using e.frames),e.mod,e.bs,e.bsz,e.funs,e.frf,e.hok,e.bare]
section
variable {X:Cx} {pins:List (Addr×Obj)} {σ:St} {H:Hp} {s s':Shared}
def Inv.E5(I:Inv X pins σ H s):Env0 X.prog X.w X.K X.mg X.base X.A X.stack s H:=
 #[I.ok.frames,I.ok.mod,I.bs,jr I.ok.bsz I.sz,I.stack,I.yM,I.hok,I.bare]
def Inv.after(I:Inv X pins σ H s)(h:CE X.stack X.prog X.w H s Q u s'):EP X pins σ Q u s':=by
 obtain⟨v,c,os,bare,un,hok,r,q⟩:=h;obtain⟨e,g,d,t,a⟩:=s';obtain rfl:a=s.os:=os;exact#[v,c,I.call (h':=e) (g':=g) (d':=d) (t':=t) (ch:= []) un hok bare (λb z=>absurd z (by simp)),r,q]
end
def Ve(a:Sp)(b:List V)(E:XK)(t:TA):TE:=λc H Q=>t c H λd e=>a (d++b) e Q E
def IQ(C:Addr)(m:Str)(d:Sp)(e:List V)(E:XK)(f:TE)(t:TA):TE:=λb H Q=>f b H λx c=>∃a g fs,x= .ref a/\c a=some (.ins C g fs)/\fs.lookup m=none/\
 t b c λh i=>d (x::(h++e)) i Q E
def Vi(C:Addr)(c:Sp)(d:List V)(E:XK)(t:TA):TE:=λe H Q=>t e H λf b=>∀x a,b x=none->b a=none->a≠x->
 c (.ref x::(f++d)) (upd (upd b a (.own x)) x (.ins C a [])) (λv g=>v= .aY/\Q (.ref x) g) E
def Binds(K:aj)(d:FuncData)(b:List Str)(c:List Value):Prop:=
 ∀(s:Shared)(a:List Value),K.In s.heap->(a++c).length=b.length->BindsTo s d #[a,[]] (b.zip (a++c))
def Binds.all{K:aj}{c:FuncData}{b:List Str}(h:∀a:List Value,a.length=b.length->bindArgs c #[a,[]]=pure (b.zip a)):Binds K c b []:=λs a _ d=>by
 rw[fG] at d ⊢;exact .of_eq (h a d)
def Passes(c:pF)(X:Cx)(E:XK):Prop:=∀(a:List (Addr×Obj))(d:St)(H:Hp)(s:Shared)(e:Value)(b:Shared),Inv X a d H s->c X.stack H s E e b->X.xe e b
section
variable {X:Cx} {CX:pF} {k:Nat} {f C:Addr} {fd:FuncData} {ps:List Str} {sp:Sp} {br:List V} {ds:List Value} {E:XK} {x m:Str} {p pos apos:Pos} {e o:Expr} {es:List Expr} {ta:TE} {t:TA}
theorem DS{pins:List (Addr×Obj)}{σ:St}{H:Hp}{s:Shared}{Q:VK}{us:List Value}{vs:List V}(F:FnOk X.prog X.w X.K X.mg X.base CX k f fd ps sp)(hr:bQ k X.A)(hb:Binds X.K fd ps ds)(hd:Vals br ds)(hx:Passes CX X E)
  (I:Inv X pins σ H s) (r:Vals vs us) (h:sp (vs++br) H Q E):wpAny (model X.prog X.w) X.A (call (.ref f) us) (EP X pins σ Q) X.xe s:=by
 have r2:Vals (vs++br) (us++ds):=r.append hd;have hl:(us++ds).length=ps.length:=by rw[<-r2.length];exact F.len _ _ _ _ h
 refine wpAny_call (codeAny_mono (F.run X.A X.stack s H #[us,[]] (us++ds) (vs++br) Q E hr I.E5 (hb s us I.cR hl) r2 h) λr s' hq=>?_);cases r with
 |error e=>exact hx pins σ H s e s' I hq
 |ok fl=>
  cases fl with
  |ret u=>exact I.after hq
  |next=>exact False.elim hq
  |brk=>exact False.elim hq
  |cont=>exact False.elim hq
def FT(F:FnOk X.prog X.w X.K X.mg X.base CX k f fd ps sp)(c:bQ k X.A)(d:Gl X x)(g:X.mg x=some (.ref f))(i:aA X.K (.ref f)=true)(j:Binds X.K fd ps ds)(l:Vals br ds)(n:Passes CX X E)
  (u:PA X (e::es) t) (v:(x==("__debug__":Str))=false:=by decide) (y:starEach (e::es) X.env=(false,eval e X.env)::starEach es X.env:=by rfl) (z:(backTo pos (starEach es X.env)).any (·.1)=false:=by rfl):
  PE X (.Call (.Name x p) (e::es) [] pos) (Ve sp br E t):=by
 intro a s B H Q I h;refine PP (il I d g ?_ v);refine aax (h₀:=X.base) I.ok.mod.kin i (thn (u pos a s B H _ I h) λG J #[L,M,b,r,q]=>#[b.cR,?_]) y z;exact DS F c j l n b r q
def Ov{pl:Sem Bool}(v:PE X o ta)(c:wk X.K C)(d:Meth X.K C m f)(F:FnOk X.prog X.w X.K X.mg X.base CX k f fd ps sp)(y:bQ k X.A)(z:Binds X.K fd ps ds)(B:Vals br ds)(G:Passes CX X E)(J:PA X (e::es) t)
  (L:starEach (e::es) X.env=(false,eval e X.env)::starEach es X.env:=by rfl) (M:(backTo pos (starEach es X.env)).any (·.1)=false:=by rfl)
  (N:eval (.Call (.Attribute o m apos) (e::es) [] pos) X.env=(do
   let g <-eval o X.env
   standAt apos.atName
   let (f,first) <-holding [g] (getMethod g m pl)
   callWith pos f first (backTo pos (starEach (e::es) X.env)) (backToKw pos (keywordEach [] X.env))):=by rfl):
  PE X (.Call (.Attribute o m apos) (e::es) [] pos) (IQ C m sp br E ta t):=by
 intro b s i H Q I h;refine abg (pl:=pl) (thn (v b s i H _ I h) λu O #[x,P,j,R,a,Y,fs,S,T,l,q]=>?_) N;subst S;obtain rfl:u=Value.ref a:=R;refine vd j T c d l ?_;refine aax (first:= [.ref a]) (h₀:=X.base) I.ok.mod.kin d.kp (thn (J pos b O i P _ j q) λus Z #[vs,p,n,r,U]=>#[n.cR,?_]) L M;exact DS (us:= .ref a::us) (vs:= .ref a::vs) F y z B G n (.cons rfl r) U
def Lo{pl:Sem Bool}(j:PE X o ta)(c:wk X.K C)(g:Meth X.K C m f)(F:FnOk X.prog X.w X.K X.mg X.base CX k f fd ps sp)(n:bQ k X.A)(r:Binds X.K fd ps ds)(v:Vals br ds)(y:Passes CX X E)
  (z:eval (.Call (.Attribute o m apos) [] [] pos) X.env=(do
   let i <-eval o X.env
   standAt apos.atName
   let (f,first) <-holding [i] (getMethod i m pl)
   callWith pos f first (backTo pos (starEach [] X.env)) (backToKw pos (keywordEach [] X.env))):=by rfl):
  PE X (.Call (.Attribute o m apos) [] [] pos) (IQ C m sp br E ta SO):=by
 intro b s B H Q I h;refine abg (pl:=pl) (thn (j b s B H _ I h) λu M #[x,N,d,G,a,O,fs,J,L,l,q]=>?_) z;subst J;obtain rfl:u=Value.ref a:=G;refine vd d L c g l ?_;exact PySem.W.callWith_K0 (first:= [.ref a]) d.cR g.kp (DS (us:= [.ref a]) (vs:= [.ref a]) F n r v y d (.cons rfl .nil) q)
structure Mk (K:aj) (C f:Addr):Prop where
 makes:cV K C=true
 init:am K (.ref C) "__init__"=some (some (.ref f))
 fn:bj K (.ref f)=true
 kp:aA K (.ref C)=true
theorem LB{pins:List (Addr×Obj)}{σ:St}{H:Hp}{s:Shared}{Q:VK}{us:List Value}{vs:List V}(M:Mk X.K C f)(F:FnOk X.prog X.w X.K X.mg X.base CX k f fd ps sp)(hr:bQ (k+1) X.A)(hb:Binds X.K fd ps ds)(hd:Vals br ds)
  (hx:Passes CX X E) (I:Inv X pins σ H s) (r:Vals vs us)
  (h:∀x dx,H x=none->H dx=none->dx≠x->sp (.ref x::(vs++br)) (upd (upd H dx (.own x)) x (.ins C dx [])) (λv H2=>v= .aY/\Q (.ref x) H2) E):
  wpAny (model X.prog X.w) X.A (call (.ref C) us) (EP X pins σ Q) X.xe s:=by
 have hq:=h (s.heap.objs.size+1) s.heap.objs.size (I.hok.fresh (js _)) (I.hok.fresh (bu _)) (bO (Nat.lt_succ_self _));have I2:=Inv.made (C:=C) I;have r2:Vals (V.ref (s.heap.objs.size+1)::(vs++br)) (Value.ref (s.heap.objs.size+1)::(us++ds)):= .cons rfl (r.append hd)
 have hl:(Value.ref (s.heap.objs.size+1)::us++ds).length=ps.length:=by
  have e:=r2.length;rw[F.len _ _ _ _ hq] at e;exact e.symm
 refine wpAny_call (Le (f:=f) I.cR M.makes M.init (beq_iff_eq.mp M.fn) (codeAny_mono (F.run _ X.stack _ _ #[Value.ref (s.heap.objs.size+1)::us,[]] (Value.ref (s.heap.objs.size+1)::(us++ds)) _ _ E (hr.make C us [])
  (I2.E5.make C us []) (hb _ (Value.ref (s.heap.objs.size+1)::us) I2.cR hl) r2 hq) λr s' xK=>?_))
 cases r with
 |error e=>exact hx pins σ _ _ e s' I2 xK
 |ok fl=>
  cases fl with
  |ret u=>
   rfl';obtain⟨v,H',I3,rv,ev,q3⟩:=I2.after xK;subst ev;ac_rfl;exact#[rv,#[V.ref (s.heap.objs.size+1),H',I3,rfl,q3]]
  |next=>exact False.elim xK
  |brk=>exact False.elim xK
  |cont=>exact False.elim xK
def Ou(M:Mk X.K C f)(F:FnOk X.prog X.w X.K X.mg X.base CX k f fd ps sp)(c:bQ (k+1) X.A)(d:Gl X x)(g:X.mg x=some (.ref C))(i:Binds X.K fd ps ds)(j:Vals br ds)(l:Passes CX X E)
  (n:PA X (e::es) t) (u:(x==("__debug__":Str))=false:=by decide) (v:starEach (e::es) X.env=(false,eval e X.env)::starEach es X.env:=by rfl) (y:(backTo pos (starEach es X.env)).any (·.1)=false:=by rfl):
  PE X (.Call (.Name x p) (e::es) [] pos) (Vi C sp br E t):=by
 intro a s z H Q I h;refine PP (il I d g ?_ u);refine aax (h₀:=X.base) I.ok.mod.kin M.kp (thn (n pos a s z H _ I h) λB G #[J,L,b,r,q]=>#[b.cR,?_]) v y;exact LB M F c i j l b r q
end
section
variable {X:Cx} {CX:pF} {k:Nat} {f C:Addr} {fd:FuncData} {ps ks:List Str} {sp:Sp} {E:XK} {x m:Str} {p pos apos aam:Pos} {e o:Expr} {es:List Expr} {kws:List Keyword} {te ta:TE} {t tk:TA} {nm:Option Str}
variable {g:List Value->List Value->List Value} {gV:List V->List V->List V}
end
structure aF (N P:List Str) (sc:Scope):Prop where
 kind:sc.kind= .function
 co:sc.isCoroutine=false
 gen:sc.isGenerator=false
 nd:N.Nodup
 pre:N.take P.length=P
 par:∀x∈P,sc.names.lookup x=some .local\/sc.names.lookup x=some .cell
 nofree:∀y∈sc.names,y.2≠ .free
theorem wG{kindOf:Str->Option NameKind}{x:Str}:∀{binds:List (Str×Value)}{m:Str->Option Value},(∀v,(x,v)∉binds)->bindL kindOf binds m x=m x
 | [],_,_=>rfl
 | (n,v)::r,m,h=>by
  unfold bindL;rw[wG λw hw=>h w (eM _ hw)]
  split
  .have:x≠n:=by rintro rfl;exact h v dE
   simp[this]
  .rfl
theorem wD{kindOf:Str->Option NameKind}{x:Str}:∀{binds:List (Str×Value)}{m:Str->Option Value},(∀v,(x,v)∉binds)->bindC kindOf binds m x=m x
 | [],_,_=>rfl
 | (n,v)::r,m,h=>by
  unfold bindC;rw[wD λw hw=>h w (eM _ hw)]
  split
  .rfl
  .have:x≠n:=by rintro rfl;exact h v dE
   simp[this]
theorem wF{kindOf:Str->Option NameKind}{x:Str}{v:Value}:∀{P:List Str}{a:List Value}{i:Nat}{m:Str->Option Value},P.Nodup->P[i]? =some x->a[i]? =some v->kindOf x=some .local->
  bindL kindOf (P.zip a) m x=some v
 | [],_,_,_,_,h,_,_=>by simp at h
 |_::_,[],_,_,_,_,h,_=>by simp at h
 |p::P,w::a,0,m,d,b,c,e=>by
  simp at b c;subst b;subst c;show bindL kindOf ((p,w)::P.zip a) m p=_;unfold bindL;rw[wG λv f=>(jq.mp d).1 (abo f).1,tz e];simp
 |p::P,w::a,i+1,m,d,b,c,e=>by
  show bindL kindOf ((p,w)::P.zip a) m x=_;unfold bindL;exact wF (i:=i) (jq.mp d).2 (by simpa using b) (by simpa using c) e
theorem wC{kindOf:Str->Option NameKind}{x:Str}{v:Value}:∀{P:List Str}{a:List Value}{i:Nat}{m:Str->Option Value},P.Nodup->P[i]? =some x->a[i]? =some v->kindOf x≠some .local->
  bindC kindOf (P.zip a) m x=some v
 | [],_,_,_,_,h,_,_=>by simp at h
 |_::_,[],_,_,_,_,h,_=>by simp at h
 |p::P,w::a,0,m,d,b,c,e=>by
  simp at b c;subst b;subst c;show bindC kindOf ((p,w)::P.zip a) m p=_;unfold bindC;rw[wD λv f=>(jq.mp d).1 (abo f).1,mo e];simp
 |p::P,w::a,i+1,m,d,b,c,e=>by
  show bindC kindOf ((p,w)::P.zip a) m x=_;unfold bindC;exact wC (i:=i) (jq.mp d).2 (by simpa using b) (by simpa using c) e
def start(N:List Str)(a:List V):St:=a.map some++ak (N.length-a.length) none
def jS(g:pF)(P:Program)(w:World)(K:aj)(mg:Str->Option Value)(base:Heap)(N:List Str)(b:Str)(a:Scope)(f:Addr)(c:Value)(A:Around)(outer:List Env)(s:Shared)(H:Hp)(E:XK):Cx where
 prog:=P
 w:=w
 K:=K
 mg:=mg
 base:=base
 A:=A.deeper (envOfC b a s.heap.objs.size f c)
 N:=N
 s₀:=s
 H₀:=H
 env:=envOfC b a s.heap.objs.size f c
 outer:=outer
 stack:=envOfC b a s.heap.objs.size f c::outer
 ex:= []
 calm:=true
 fn:=λ_=>true
 pn:= []
 xe:=λe h=>wpAny (model P w) (A.deeper (envOfC b a s.heap.objs.size f c)) (leaving (envOfC b a s.heap.objs.size f c) e) (λ_ d=>g outer H s E e d) (λi d=>g outer H s E i d) h
def Av{a:Scope}{n:Nat}(h:a.names.lookup x=some .cell):∃c,(cellsFrom n a.names []).lookup x=some c:=by
 have q:=aa5 a.names n [] (.inl h);exact Option.isSome_iff_exists.mp q
theorem xP{CX:pF}{P:Program}{w:World}{K:aj}{F:Str->Option Value}{base:Heap}{N l:List Str}{qual:Str}{d:Scope}{f:Addr}{cd:Value}{A:Around}{outer:List Env}{s J:Shared}{H:Hp}{E:XK}{G:List Value}{m:List V}
  (S:aF N l d) (Q:A.handled=none) (j:Env0 P w K F base A outer s H) (U:m.length=l.length) (r:Vals m G)
  (x:InCallC s s.heap.objs.size (bindL (envOfC qual d s.heap.objs.size f cd).kindOf (l.zip G) λ_=>none) (cellsFrom (s.heap.objs.size+1) d.names []) (bindC (envOfC qual d s.heap.objs.size f cd).kindOf (l.zip G) λ_=>none) J):
  Inv (jS CX P w K F base N qual d f cd A outer s H E) [] (start N m) H J:=by
 have X:l.length<=N.length:=by have:=KB db S.pre;rw[fF] at this;lia
 obtain⟨B,Y,rfl,L⟩:=x.done;have I:∀b:Addr,b∉(jS CX P w K F base N qual d f cd A outer s H E).ex:=λb z=>absurd (show b∈([]:List Addr) from z) (by simp)
 refine#[#[j.mod,S.kind,rfl,rfl,bu _,λy z c B g=>?_,λy o=>?_,λy c _ h=>?_,λ_=>Q,Around.frames_deeper j.frames, .inr #[rfl,rfl],λb z=>absurd z (I b),j.bs,j.bsz,λb _ _=>I b,λb z=>absurd z (I b),j.funs,j.frf],
  rfl,j.bare,Un.kept L,#[_,x.toInCall.ns,λi y v B g Z=>?_],λy c h=>#[_,x.cell y c h],j.hok.fresh (bu _),λy c h=>?_,λp t=>absurd (show p∈([]:List (Addr×Obj)) from t) (by simp),j.hok.kept L,?_]
 .exact name_of_addr x.apart (aaB B) (aaB g)
 .have o:d.names.lookup y=some .cell\/d.names.lookup y=some .free:=o
  rcases o with o|o
  .exact Av o
  .exact absurd rfl (S.nofree _ (aaB o))
 .exact uW (x.above y c (aaB h))
 .have C:i<m.length:=by
   unfold start at g
   by_cases C:i<m.length
   .exact C
   .rw[i7 (by simpa using C)] at g
    rw[tU] at g
    split at g<;>cases g
  have R:m[i]? =some v:=by
   unfold start at g;rw[gn (by simpa using C),eQ] at g
   cases e:m[i]? with
   |none=>rw[e] at g;cases g
   |some a=>rw[e] at g;cases g;rfl
  obtain⟨u,M,T⟩:=r.get R
  have t:l[i]? =some y:=by
   rw[<-S.pre,zb (by lia)];exact B
  have O:l.Nodup:=by rw[<-S.pre];exact S.nd.sublist (List.take_sublist _ _)
  exists u,T
  rcases S.par y (eF t) with k|k
  .exact .inl #[k,wF O t M k]
  .obtain⟨c,e⟩:=Av (n:=s.heap.objs.size+1) k
   refine .inr #[.inl k,c,e,?_];have q:=x.cell y c e;rw[wC O t M (by show d.names.lookup y≠_;rw[k];decide)] at q
   exact q
 .exact j.hok.fresh (uW (x.above y c (aaB h)))
 .unfold start
  show _=N.length;rw[dh,aV,qp];lia
theorem MV{B:pF}{P:Program}{w:World}{K:aj}{C:Str->Option Value}{base:Heap}{k:Nat}{f:Addr}{i c:Str}{d:Arguments}{g:List Stmt}{a:Scope}{U kV p X l Y oc:Value}{Z od:Option Addr}
  {Ae:Array (Option Value)} {N F:List Str} {L:Sp} (lk:K.lookup f=some #[oc,od, .func (b0 i c d g a U kV p X Z l Y),Ae]) (eU:aE K l c=true) (S:aF N F a)
  (len:∀h H Q E,L h H Q E->h.length=F.length)
  (gB:∀(A:Around)(outer:List Env)(s:Shared)(H:Hp)(h:List V)(Q:VK)(E:XK),bQ k (A.deeper (envOfC c a s.heap.objs.size f l))->L h H Q E->
   ∃t,jO (jS B P w K C base N c a f l A outer s H E) g t/\t {nx:=λ_ j=>Q .aY j,rt:=Q} (start N h) H):
  FnOk P w K C base B (k+1) f (b0 i c d g a U kV p X Z l Y) F L:=by
 refine#[len,λA outer s H args us h Q E M z hb r ui=>?_];have hl:=len _ _ _ _ ui;have KX:K.In s.heap:=z.mod.kin.keeps λb o e=>(z.bs b o e).1;have O:s.heap.NoLimit:=z.mod.nolimit.keeps λb o e=>(z.bs b o e).1
 have HH:∀y∈F.zip us,a.names.lookup y.1=some .local\/(a.names.lookup y.1=some .cell/\((cellsFrom (s.heap.objs.size+1) a.names []).lookup y.1).isSome=true):=λ#[n,v] hy=>by
  rcases S.par n (abo hy).1 with q|q
  .exact .inl q
  .exact .inr #[q,aa5 _ _ _ (.inl q)]
 refine codeAny_call_function M.depth (KX _ _ lk) rfl S.co S.gen rfl (PySem.W.codeRec_of KX eU) (hb _ _ _ _ ?_);refine abN S.kind HH λenv he s1 x=>?_;subst he;obtain⟨t,ht,hq⟩:=gB A outer s H h Q E (M.deeper _) ui;refine#[O.keeps x.toInCall.keep,codeAny_func ?_];have I:Inv (jS B P w K C base N c a f l A outer s H E) [] (start N h) H s1:=xP S M.hd z hl r x;refine wpAny_mono (ht [] s1 (start N h) H _ I hq) (λfl R m=>?_) λe R m=>m
 have fin:∀{G:St}{j:Hp}{v:V}{u:Value},Inv (jS B P w K C base N c a f l A outer s H E) [] G j R->RelV v u->Q v j->CE outer P w H s Q u R:=
  λ {G j v u} J T q=>#[v,j,J.os,J.bare,J.base,J.hok,T,q]
 cases fl with
 |ret u=>
  obtain⟨v,G,j,J,T,q⟩:=m;exact fin J T q
 |next=>
  obtain⟨G,j,J,q⟩:=m;exact fin (v:=V.aY) (u:=Value.none) J rfl q
 |brk=>
  obtain⟨_,_,_,q⟩:=m;exact False.elim q
 |cont=>
  obtain⟨_,_,_,q⟩:=m;exact False.elim q
section
variable {X:Cx} {x:Str} {p pos:Pos} {e:Expr} {es:List Expr} {t:TA} {id T:String} {r:List V->Hp->VK->Prop}
def Yz(r:List V->Hp->VK->Prop)(t:TA):TE:=λa H Q=>t a H λb c=>r b c Q
def uK(c:CallR X (.builtin id) r)(d:Gl X x)(f:X.mg x=none)(g:bootBuiltins x=some (.builtin id))(i:PA X (e::es) t)(j:x≠"__name__":=by decide)(k:(x==("__debug__":Str))=false:=by decide)
  (l:starEach (e::es) X.env=(false,eval e X.env)::starEach es X.env:=by rfl) (m:(backTo pos (starEach es X.env)).any (·.1)=false:=by rfl):PE X (.Call (.Name x p) (e::es) [] pos) (Yz r t):=by
 intro a s b H Q I h;refine PP (jx I d f g ?_ j k);exact abp (thn (i pos a s b H _ I h) λn o #[q,u,v,w,y]=>c a o b u q n Q v w y) l m
def Ir(c:CallR X (.type T) r)(d:Gl X x)(f:X.mg x=none)(g:bootBuiltins x=some (.type T))(i:PA X (e::es) t)(j:x≠"__name__":=by decide)(k:(x==("__debug__":Str))=false:=by decide)
  (l:starEach (e::es) X.env=(false,eval e X.env)::starEach es X.env:=by rfl) (m:(backTo pos (starEach es X.env)).any (·.1)=false:=by rfl):PE X (.Call (.Name x p) (e::es) [] pos) (Yz r t):=by
 intro a s b H Q I h;refine PP (jx I d f g ?_ j k);exact UV (thn (i pos a s b H _ I h) λn o #[q,u,v,w,y]=>c a o b u q n Q v w y) l m
end
end L2
namespace HT
open PySem PyProof.Rows
def lexLt:List Int->List Int->Bool
 | [],[]=>false
 | [],_::_=>true
 |_::_,[]=>false
 |x::a,y::b=>if x=y then lexLt a b else decide (x<y)
def gM(x y:Int)(a b:List Int):lexLt (x::a) (y::b)=if x=y then lexLt a b else decide (x<y):=rfl
def xW:lexLt [] []=false:=rfl
def vO(y:Int)(a:List Int):lexLt [] (y::a)=true:=rfl
def vN(x:Int)(a:List Int):lexLt (x::a) []=false:=rfl
def KJ(A:Around)(s:Shared)(a:Int)(t:Tok)(c:Int)(u:Tok):∃e,SeqAt.EqAt A s (.int a t) (.int c u) e/\(e=true↔a=c):=
 #[(a==c),aaU a t c u,by simp]
def Ly(A:Around)(s:Shared)(a:Int)(t:Tok)(c:Int)(u:Tok)(prog:Program)(w:World)(E:Value->Shared->Prop)(Q:Value->Shared->Prop)(h:Q (.bool (decide (a<c))) s):
  wpAny (model prog w) A (richCompare .Lt (.int a t) (.int c u)) Q E s:=
 (PyProof.Rows.lt_int h:wpAny (model prog w) A (compareOp .Lt (.int a t) (.int c u)) Q E s)
section
open PySem.SeqAt
open PySem.AutoSeq1 (wpAny_loadPart')
open PySem.MeetsSeq PySem.MeetsSeq2 PySem.MeetsSeq3
end
section
variable {prog:Program} {w:World} {A:Around} {E:Value->Shared->Prop} {s:Shared}
def Ml(r:IsTup s.heap t c.toArray)(u:IsTup s.heap b a.toArray)(h:c≠ [])
  (v:a= []->Q (.ref t) s) (x:a≠ []->Q (.ref s.heap.objs.size) {s with heap:=s.heap.push {cls:= .type "tuple",data:= .seq (c++a).toArray}})
  (y:c.length+a.length<=sizeLine):wpAny (model prog w) A (binaryOp .Add (.ref t) (.ref b)) Q E s:=by
 rfl';obtain⟨⟨cls,i,data,j⟩,f,k,n,l⟩:=id r;obtain⟨⟨C,m,data2,o⟩,g,p,q,d⟩:=id u;ac_rfl;simp only at k l p d;subst k l p d;have e:c.toArray++a.toArray=(c++a).toArray:=by simp
 by_cases hw:a= []
 .exact concat_meets #[_,f,rfl] #[_,g,rfl] noFill_tuple_add seq_tuple_add acq ack (ab2 _ _)
   (tuple_addW1 t b c.toArray a.toArray n q i m j o (by simpa using h) (by simp[hw])) #[f,g,v hw]
 .refine concat_meets #[_,f,rfl] #[_,g,rfl] noFill_tuple_add seq_tuple_add acq ack (ab2 _ _)
   (tuple_addW2 t b c.toArray a.toArray n q i m j o (by simpa using h) (by simpa using hw) (by rw[cY,cY];exact y)) #[f,g,?_]
  rw[e];exact x hw
def bT(n d:Nat):Option Int->Nat
 |none=>d
 |some v=>if v<0 then(v+(n:Int)).toNat else min v.toNat n
def Rv(n d:Nat)(b:d<=n)(o:Option Int):bT n d o<=n:=by
 cases o with
 |none=>exact b
 |some v=>
  show(if v<0 then(v+(n:Int)).toNat else min v.toNat n)<=n
  by_cases a:v<0
  .rw[tz a];lia
  .rw[mo a];exact Nat.min_le_right _ _
def EW(v:Int)(n d:Nat):(if v<0 then max (v+(n:Int)) 0 else min v (n:Int))=((bT n d (some v):Nat):Int):=by
 show(if v<0 then max (v+(n:Int)) 0 else min v (n:Int))=(((if v<0 then(v+(n:Int)).toNat else min v.toNat n):Nat):Int)
 by_cases a:v<0
 .simp only[tz a];lia
 .simp only[mo a];lia
def EH(lo a:Option Int)(n:Nat):Builtin.Slice.sliceAdjust lo a 1 (n:Int)=(((bT n 0 lo:Nat):Int),((bT n n a:Nat):Int)):=by
 have b:¬((1:Int)<0):=by lia
 unfold Builtin.Slice.sliceAdjust;simp only[b,On];refine aaA ?_ ?_
 .cases lo with
  |none=>rfl
  |some v=>exact EW v n 0
 .cases a with
  |none=>rfl
  |some v=>exact EW v n n
def FZ(i j:Nat):Builtin.Slice.slicePlaces (i:Int) (j:Int) 1=j-i:=by
 unfold Builtin.Slice.slicePlaces;have a:(1:Int)>0:=by lia
 simp only[a,aaC,Int.ediv_one]
 split<;>lia
def vn(p:IsPart v o)(h:Q o s):wpAny (model prog w) A (Builtin.Slice.slicePartIndex v) Q E s:=by
 cases p with
 |none=>exact slicePart_none h
 |int i t=>exact slicePart_int h
def tO{f:Addr}{b c:Value}{lo a:Option Int}{n:Nat}{Q:Int×Int×Nat->Shared->Prop}(g:s.heap.IsSliceOf f b c .none)(pl:IsPart b lo)(i:IsPart c a)
  (h:Q (((bT n 0 lo:Nat):Int),1,bT n n a-bT n 0 lo) s):wpAny (model prog w) A (Builtin.Slice.sliceApplied (.ref f) (pure (n:Int))) Q E s:=by
 rfl';obtain⟨os,d,l,e⟩:=id g;ac_rfl;unfold Builtin.Slice.sliceApplied Builtin.Slice.sliceFields;refine ir (ir (aaQ d e (x:=b) rfl (ir (aaQ d e (x:=c) rfl (ir (aaQ d e (x:= .none) rfl (AC ?_)))))));refine ir (slicePart_none ?_);rw[mo (by decide)]
 refine ir (vn pl (ir (vn i (ir (AC ?_)))));show wpAny _ _ (match Builtin.Slice.sliceAdjust lo a 1 (n:Int) with| (lo,a)=>pure (lo,(1:Int),Builtin.Slice.slicePlaces lo a 1)) _ _ s
 rw[EH lo a n];show wpAny _ _ (pure (((bT n 0 lo:Nat):Int),(1:Int),Builtin.Slice.slicePlaces ((bT n 0 lo:Nat):Int) ((bT n n a:Nat):Int) 1)) _ _ s;rw[FZ];exact AC h
def Ls(a:Array Value)(i k:Nat):((aB k).filterMap λ(m:Nat)=>a[((i:Int)+(m:Int)*1).toNat]?).toArray=((a.toList.drop i).take k).toArray:=by
 have e:(λ(m:Nat)=>a[((i:Int)+(m:Int)*1).toNat]?)=λm=>a[i+m]? :=by
  funext m
  have:((i:Int)+(m:Int)*1).toNat=i+m:=by lia
  rw[this]
 rw[e]
 have:=pick_run a i k
 rw[List.filterMap_map] at this;have b:((λx=>a[x]?)∘λx=>i+x)=λm=>a[i+m]? :=rfl;rw[b] at this;rw[this]
theorem qD{t e:Addr}{a:Array Value}{g i:Value}{lo b:Option Int}{Q:Value->Shared->Prop}(c:IsTup s.heap t a)(j:s.heap.IsSliceOf e g i .none)(pl:IsPart g lo)(k:IsPart i b)
  (hw:¬(bT a.size 0 lo=0/\bT a.size a.size b=a.size))
  (h:Q (.ref s.heap.objs.size) {s with heap:=s.heap.push {cls:= .type "tuple",data:= .seq ((a.toList.drop (bT a.size 0 lo)).take (bT a.size a.size b-bT a.size 0 lo)).toArray}})
  (p:a.size<=sizeLine):wpAny (model prog w) A (getItem (.ref t) (.ref e)) Q E s:=by
 have d:sizeOk (.seq ((a.toList.drop (bT a.size 0 lo)).take (bT a.size a.size b-bT a.size 0 lo)).toArray):=by
  show((a.toList.drop (bT a.size 0 lo)).take (bT a.size a.size b-bT a.size 0 lo)).toArray.size<=sizeLine;rw[cY,fF,oW,fY];lia
 have r:bT a.size a.size b<=a.size:=Rv _ _ (bu _) b;obtain⟨os,l,n,u⟩:=id j;have f:s.TypeIs (.ref e) "slice":=#[os,l,n];unfold getItem
 try with_reducible refine wpAny_holding ?_
 first|refine wpAny_bind (wpAny_pure ?_) |skip
 refine wpAny_bind (wpAny_sequenceKey c.typeIs (by decide) ?_)
 refine wpAny_bind (wpAny_callSpecial?_slot (name:=Str.ofString "__getitem__") c.typeIs PyProof.Rows.slot_tuple_getitem
  (wpAny_call_entry PyProof.Rows.slot_tuple_getitem c.typeIs entry_tuple_getitem ?_ (args_tuple_getitem _ _)))
 show wpAny _ _ (Builtin.Tuple.tupleItemsOf (.ref t)>>=_) _ _ s;refine wpAny_bind (tupleItemsOf_ c ?_);refine wpAny_bind (wpAny_typeOf f ?_);rw[if_pos (by decide)]
 refine wpAny_bind (tO j pl k ?_)
 have o:¬((((bT a.size 0 lo:Nat):Int)==0&&(1:Int)==1&&(bT a.size a.size b-bT a.size 0 lo)==a.size)=true):=by
  intro q;rw[vz,vz] at q;have v:((bT a.size 0 lo:Nat):Int)=0:=eq_of_beq q.1.1;have x:bT a.size a.size b-bT a.size 0 lo=a.size:=eq_of_beq q.2;exact hw #[by lia,by lia]
 show wpAny _ _ (if (((bT a.size 0 lo:Nat):Int)==0&&(1:Int)==1&&(bT a.size a.size b-bT a.size 0 lo)==a.size)=true then _ else _) _ _ s;rw[if_neg o,Ls]
 first
  |exact wpAny_bind (m:=Builtin.Tuple.tupleExact _) (wpAny_newObj_type (wpAny_pure #[_,rfl,wpAny_pure h]) d)
  |exact wpAny_bind (m:=Builtin.Tuple.tupleExact _) (wpAny_newObj_type (wpAny_bind (wpAny_pure (wpAny_pure #[_,rfl,wpAny_pure h]))) d)
  |exact wpAny_bind (wpAny_bind (m:=Builtin.Tuple.tupleExact _) (wpAny_newObj_type (wpAny_pure (wpAny_pure #[_,rfl,wpAny_pure h])) d))
  |exact wpAny_bind (wpAny_bind (m:=Builtin.Tuple.tupleExact _) (wpAny_newObj_type (wpAny_pure #[_,rfl,wpAny_pure h]) d))
end
end HT
namespace L2
open PySem PySem.Spec PyProof.Rows
abbrev TO:=St->Hp->(Option Int->Hp->Prop)->Prop
def PO(X:Cx)(e:Option Expr)(t:TO):Prop:=
 ∀(a:List (Addr×Obj))(s:Shared)(b:St)(H:Hp)(Q:Option Int->Hp->Prop),Inv X a b H s->t b H Q->
  wpAny (model X.prog X.w) X.A (evalPart e X.env) (λu d=>∃o c,Inv X a b c d/\IsPart u o/\Q o c) X.xe s
def O8:TO:=λ_ H Q=>Q none H
def Vl(t:TE):TO:=λa H Q=>t a H λx b=>∃i,x= .int i/\Q (some i) b
def intsAre_of:∀{b:List Value},Vals (a.map V.int) b->IntsAre b a:=by
 induction a with
 |nil=>intro b r;rw[acF] at r;cases r;exact .nil
 |cons n a c=>
  intro b r;rw[dz] at r;cases r with
  |cons d f=>
   obtain⟨t,e⟩:=d;subst e;exact .cons n t (c f)
section
variable {X:Cx} {e:Expr} {te:TE} {lo hi:Option Expr} {tl th:TO} {pos p2:Pos}
def OB:PO X none O8:=by
 intro a s b H Q I h;rw[evalPart_none];exact AC #[none,H,I, .none,h]
def OC(h:PE X e te):PO X (some e) (Vl te):=by
 intro a s b H Q I hw;rw[evalPart_some];refine thn (h a s b H _ I hw) λu l c=>?_;rfl';obtain⟨x,f,g,j,k⟩:=c;obtain⟨i,rfl,q⟩:=k;obtain⟨t,rfl⟩:=j;ac_rfl;exact#[some i,f,g, .int i t,q]
def G9(X:Cx)(r:V->Option Int->Option Int->Hp->VK->Prop):Prop:=
 ∀(a:List (Addr×Obj))(s:Shared)(b:St)(H:Hp)(x:V)(v c d:Value)(lo f:Option Int)(g:Addr)(Q:VK),Inv X a b H s->RelV x v->s.heap.IsSliceOf g c d .none->IsPart c lo->IsPart d f->r x lo f H Q->
  ∃T id,typeLookup (.type T) "__getitem__"=pure (some (.builtin id))/\s.TypeIs v T/\wpAny (model X.prog X.w) X.A (getItem v (.ref g)) (EP X a b Q) X.xe s
def G9.or(h:G9 X r)(m:G9 X c):G9 X (λx lo b H Q=>r x lo b H Q\/c x lo b H Q):=by
 intro a s d H x v f g lo b i Q I j k pl l q
 rcases q with q|q
 .exact h a s d H x v f g lo b i Q I j k pl l q
 .exact m a s d H x v f g lo b i Q I j k pl l q
def tSl(r:V->Option Int->Option Int->Hp->VK->Prop)(b:TE)(c d:TO):TE:=λa H Q=>b a H λx f=>c a f λl g=>d a g λu h=>r x l u h Q
def Lq(m:G9 X r)(n:PE X e te)(o:PO X lo tl)(p:PO X hi th):PE X (.Subscript e (.Slice lo hi none p2) pos) (tSl r te tl th):=by
 intro a s d H Q I h;refine Subscript_ (thn (n a s d H _ I h) λv t f=>?_);rfl';obtain⟨x,y,z,A,B⟩:=f;ac_rfl;refine wpAny_Slice (thn (o a t d y _ z B) λi C #[l,E,F,pl,G]=>thn (p a C d E _ F G) λj c f=>?_);rfl';obtain⟨u,k,J,L,M⟩:=f;ac_rfl;rw[evalPart_none];refine AC ?_;have N:Inv X a d k {c with heap:=c.heap.push {cls:= .type "slice",data:= .fields [i,j, .none].toArray}}:=J.kept (t':=c.toks) λb S q=>Da _ q
 obtain⟨T,id,O,P,R⟩:=m a {c with heap:=c.heap.push {cls:= .type "slice",data:= .fields [i,j, .none].toArray}} d k x v i j l u c.heap.objs.size Q N A (Heap.IsSliceOf.new ..) pl L M
 exact tail_any (ops:= [.ref c.heap.objs.size,v]) P O R (by with_unfolding_all rfl)
def u0(a:List V)(lo b:Option Int):List V:=(a.drop (HT.bT a.length 0 lo)).take (HT.bT a.length a.length b-HT.bT a.length 0 lo)
def rQ(a:List V)(lo b:Option Int):(u0 a lo b).length<=a.length:=by
 unfold u0;rw[fF,oW];lia
def Yi(K:aj):V->Option Int->Option Int->Hp->VK->Prop:=λx lo c H Q=>∃a b,x= .ref a/\gT K H a b/\
 ¬(HT.bT b.length 0 lo=0/\HT.bT b.length b.length c=b.length)/\∀p,H p=none->Q (.ref p) (upd H p (.tup (u0 b lo c)))
def Rw:G9 X (Yi X.K):=by
 intro i s u H x v w y lo f z Q I l m pl n h;rfl';obtain⟨a,d,rfl,t,hw,q⟩:=h;subst l;obtain⟨g,r,j,k⟩:=I.tuple t;have c:g.toArray.size=d.length:=by rw[cY];exact r.length.symm
 ac_rfl;exists "tuple",_,abl.lookup,j.typeIs;refine HT.qD j m pl n (by rw[c];exact hw) ?_ (by rw[c];exact k)
 rw[c];refine#[.ref s.heap.objs.size,_,I.laid (t':=s.toks) (o:= .tup (u0 d lo f)) (λb B q=>Da _ q) (bu _) ?_,rfl,q _ (I.hok.fresh (bu _))];exact#[jr (rQ d lo f) k,_,(r.drop (HT.bT d.length 0 lo)).take (HT.bT d.length d.length f-HT.bT d.length 0 lo),IsTup.new _ _]
def U4(K:aj):R2:=λx y H Q=>∃a b d c,x= .ref a/\y= .ref b/\gT K H a d/\gT K H b c/\d≠ []/\d.length+c.length<=sizeLine/\
 (c= []->Q (.ref a) H)/\(c≠ []->∀p,H p=none->Q (.ref p) (upd H p (.tup (d++c))))
def Vals.ye(r:Vals a b):b= []↔a= []:=by
 cases r with
 |nil=>simp
 |cons _ _=>simp
def Od:OpR X (binaryOp .Add) (U4 X.K):=by
 intro f s F H x y v u Q I i j h;rfl';obtain⟨a,b,l,m,rfl,rfl,n,p,r,g,t,A⟩:=h;subst i;subst j;obtain⟨B,d,C,_⟩:=I.tuple n;obtain⟨J,c,E,_⟩:=I.tuple p;ac_rfl;refine HT.Ml C E (λz=>r (d.ye.mp z)) (λz=>#[.ref a,H,I,rfl,t (c.ye.mp z)]) (λz=>?_) (by rw[<-d.length,<-c.length];exact g)
 refine#[.ref s.heap.objs.size,_,I.laid (t':=s.toks) (o:= .tup (l++m)) (λb L q=>Da _ q) (bu _) ?_,rfl,A (λw=>z (c.ye.mpr w)) _ (I.hok.fresh (bu _))];exact#[by rw[dh];exact g,_,d.append c,IsTup.new _ _]
end
def nP(n:Nat)(i:Int):Option Nat:=if 0<=i then(if i<n then some i.toNat else none) else if-(n:Int)<=i then some (i+n).toNat else none
def iJ{a:Type}(b:List a)(i:Int):Option a:=(nP b.length i).bind λj=>b[j]?
def Fw(h:nP n i=some j):seqIndex? i n=some j/\j<n/\-(n:Int)<=i/\i<n:=by
 unfold nP at h
 by_cases b:0<=i
 .rw[tz b] at h
  by_cases a:i<n
  .rw[tz a] at h
   have e:i.toNat=j:=FB h;exact#[by rw[seqIndex_of b a,e],by lia,by lia,a]
  .rw[mo a] at h;cases h
 .rw[mo b] at h
  by_cases a: -(n:Int)<=i
  .rw[tz a] at h
   have e:(i+n).toNat=j:=FB h;exact#[by rw[seqIndex_neg (by lia) a,e],by lia,a,by lia]
  .rw[mo a] at h;cases h
def EJ(h:iJ a i=some v):∃j,seqIndex? i a.length=some j/\a[j]? =some v/\j<a.length/\-(a.length:Int)<=i/\i<a.length:=by
 unfold iJ at h;cases e:nP a.length i with
 |none=>rw[e] at h;cases h
 |some j=>
  rw[e] at h;obtain⟨c,d,f,g⟩:=Fw e;exact#[j,c,h,d,f,g]
def EK{b:Type}{a:List b}{j:Nat}{v:b}(h:a[j]? =some v):iJ a (j:Int)=some v:=by
 have c:j<a.length:=(cX.mp h).1
 have e:nP a.length (j:Int)=some j:=by
  unfold nP;rw[tz (by lia),tz (by lia)];simp
 unfold iJ;rw[e];exact h
def wz(b:Expr):Prop:=∀o i,subscripted b false o i=operate [o,i] (getItem o i)
def GV(X:Cx)(r:R2):Prop:=
 ∀(c a:Expr)(b:List (Addr×Obj))(s:Shared)(d:St)(H:Hp)(x y:V)(v u:Value)(Q:VK),Inv X b d H s->RelV x v->RelV y u->r x y H Q->
  subscripted a false v u=operate [v,u] (getItem v u)->wpAny (model X.prog X.w) X.A (subscriptTail c a v u) (EP X b d Q) X.xe s
def Pz(X:Cx)(id:String)(r:V->List V->Hp->VK->Prop):Prop:=
 ∀(a:List (Addr×Obj))(s:Shared)(b:St)(H:Hp)(x:V)(c:List V)(v:Value)(d:List Value)(Q:VK),Inv X a b H s->RelV x v->Vals c d->r x c H Q->
  wpAny (model X.prog X.w) X.A (call (.builtin id) (v::d)) (EP X a b Q) X.xe s
section
variable {X:Cx} {a b:Expr} {ta tb:TE} {pos:Pos}
def GV.or(h:GV X r)(l:GV X f):GV X (λx y H Q=>r x y H Q\/f x y H Q):=by
 intro c d e s g H x y v u Q I i j q k
 rcases q with q|q
 .exact h c d e s g H x y v u Q I i j q k
 .exact l c d e s g H x y v u Q I i j q k
def Oq(d:GV X r)(e:PE X a ta)(f:PE X b tb)(g:wz b):PE X (.Subscript a b pos) (O9 r ta tb):=by
 intro c s i H Q I h;exact Subscript_ (Mh e f I h λv u j x y k l m n q=>d a b c j i k x y v u Q l m n q (g _ _))
def Yc(K:aj):R2:=λx y H Q=>∃p c i v,x= .ref p/\y= .int i/\cJ K H p c/\iJ c i=some v/\Q v H
def Yd(K:aj):R2:=λx y H Q=>∃p c i v,x= .ref p/\y= .int i/\gT K H p c/\iJ c i=some v/\Q v H
def Fx:GV X (Yc X.K):=by
 intro e f c s l H x y v u Q I A B h m;rfl';obtain⟨p,R,i,z,rfl,rfl,E,F,q⟩:=h;subst A;obtain⟨t,rfl⟩:=B;obtain⟨g,r,pl,S⟩:=I.list E;obtain⟨j,d,G,T,J,L⟩:=EJ F;obtain⟨w,n,M⟩:=r.get G;have N:=r.length;have U:=l6;have fin:EP X c l Q w s:=#[z,H,I,M,q];ac_rfl
 by_cases o:0<=i
 .have k:i.toNat=j:=by
   rw[seqIndex_of o L] at d;exact FB d
  exact item_listR pl.isList o (by lia) (by rw[k];simpa using n) fin m
 .have k:(i+(g.toArray.size:Int)).toNat=j:=by
   rw[seqIndex_neg (by lia) J] at d
   rw[cY,<-N];exact FB d
  exact acr (x:=w) pl.isList.typeIs slot_list_getitem.lookup
   (wpAny_getItem_list_neg (Q:=λr O=>r=w/\EP X c l Q r O) pl.isList (by lia) (by rw[cY]<;>lia) (by lia) (by rw[k];simpa using n) #[rfl,fin]) m
def Qv:GV X (Yd X.K):=by
 intro d e c s f H x y v u Q I g k h l;rfl';obtain⟨p,M,i,z,rfl,rfl,n,o,q⟩:=h;subst g;obtain⟨t,rfl⟩:=k;obtain⟨A,r,pl,N⟩:=I.tuple n;obtain⟨j,B,C,O,P,R⟩:=EJ o;obtain⟨w,E,F⟩:=r.get C;have G:=r.length;have S:=l6;have fin:EP X c f Q w s:=#[z,H,I,F,q];ac_rfl
 exact acr (x:=w) pl.typeIs slot_tuple_getitem.lookup
  (getItem_tuple (j:=j) (Q:=λr J=>r=w/\EP X c f Q r J) pl (by lia) (by lia) (by rw[cY,<-G];exact B) (by simpa using E) #[rfl,fin]) l
def FF(c:List Value)(n j:Nat)(u:Value):Obj.mapSeq (·.setIfInBounds j u) {cls:= .type "list",data:= .seq c.toArray n}={cls:= .type "list",data:= .seq (c.set j u).toArray n}:=by
 simp[Obj.mapSeq]
theorem Inv.lst{c:List (Addr×Obj)}{d:St}{H:Hp}{s:Shared}{p:Addr}{xs:List V}(I:Inv X c d H s)(h:H p=some (.lst xs)):
  ∃(its:List Value)(n:Nat),Vals xs its/\s.heap.get? p=some {cls:= .type "list",data:= .seq its.toArray n}/\xs.length<=sizeLine:=by
 obtain⟨z,its,n,r,e⟩:=I.hok p _ h;exact#[its,n,r,e,z]
def Inv.QJ{its c:List Value}(I:Inv X d j H s)(h:H p=some (.lst xs))
  (l:s.heap.get? p=some {cls:= .type "list",data:= .seq its.toArray n}) (k:f {cls:= .type "list",data:= .seq its.toArray n}={cls:= .type "list",data:= .seq c.toArray i}) (r:Vals g c) (m:g.length<=sizeLine) (t:Nat):
  Inv X d j (upd H p (.lst g)) {s with heap:=s.heap.update p f,toks:=t}:=by
 have e:(s.heap.update p f).get? p=some {cls:= .type "list",data:= .seq c.toArray i}:=by
  rw[UF f l (by rw[k]<;>rfl),k]
 refine I.write (x:=p) (e:=p) (by rw[h];trivial) (.inl rfl) (λb u o q=>(P3 _ _ (Ne.symm o)).trans q) #[_,e] ?_
 exact#[m,c,i,r,e]
def U6:V->V->V->Hp->(Hp->Prop)->Prop:=λo i v H Q=>∃p c k j,o= .ref p/\i= .int k/\H p=some (.lst c)/\nP c.length k=some j/\Q (upd H p (.lst (c.set j v)))
def set_list:R0 X U6:=by
 intro c s A H o i v M N u Q I B C E h;rfl';obtain⟨p,G,k,j,rfl,rfl,m,J,q⟩:=h;subst B;obtain⟨t,rfl⟩:=C;obtain⟨d,n,r,f,L⟩:=I.lst m;obtain⟨e,P,w,x⟩:=Fw J;have g:=r.length;have R:=l6;ac_rfl
 have y:Inv X c A (upd H p (.lst (G.set j v))) {s with heap:=s.heap.update p (Obj.mapSeq (·.setIfInBounds j u))}:=
  I.QJ m f (FF d n j u) (r.set E j) (by rw[iA];exact L) s.toks
 by_cases z:0<=k
 .have l:k.toNat=j:=by
   rw[seqIndex_of z x] at e;exact FB e
  exact PySem.W.ki_setAt f z (by lia) (by rw[cY,<-g];exact x) (by rw[l];exact#[_,y,q])
 .have l:(k+(d.toArray.size:Int)).toNat=j:=by
   rw[seqIndex_neg (by lia) w] at e
   rw[cY,<-g];exact FB e
  exact PySem.W.ki_setBack f (by lia) (by rw[cY,<-g];exact w) (by lia) (by rw[l];exact#[_,y,q])
def Ag(lo c:Option Int)(n:Nat):(sliceBounds lo c none n).1=((HT.bT n 0 lo:Nat):Int)/\(sliceBounds lo c none n).2.1=((HT.bT n n c:Nat):Int)/\(sliceBounds lo c none n).2.2=1:=by
 refine#[?_,?_,rfl]
 .cases lo with
  |none=>simp[sliceBounds,HT.bT]
  |some i=>
   simp only[sliceBounds,HT.bT,Option.getD_none,show(1:Int)>0 by decide,aaC]
   by_cases h:i<0
   .simp only[h,aaC]<;>lia
   .simp only[h,On]<;>lia
 .cases c with
  |none=>simp[sliceBounds,HT.bT]
  |some i=>
   simp only[sliceBounds,HT.bT,Option.getD_none,show(1:Int)>0 by decide,aaC]
   by_cases h:i<0
   .simp only[h,aaC]<;>lia
   .simp only[h,On]<;>lia
def yE(c:List Value)(lo d:Option Int):slicePick c.toArray lo d none=((c.drop (HT.bT c.length 0 lo)).take (HT.bT c.length c.length d-HT.bT c.length 0 lo)).toArray:=by
 obtain⟨e,f,g⟩:=Ag lo d c.toArray.size;unfold slicePick;rw[e,f,g];simp only[sliceRange_one,pick_run,cY]<;>rfl
def Yh(K:aj):V->Option Int->Option Int->Hp->VK->Prop:=λx lo d H Q=>∃a c,x= .ref a/\cJ K H a c/\∀p,H p=none->Q (.ref p) (upd H p (.lst (u0 c lo d)))
def OT:G9 X (Yh X.K):=by
 intro f s t H x v u w lo e y Q I i j pl k h;rfl';obtain⟨a,c,rfl,m,q⟩:=h;subst i;obtain⟨n,r,g,p⟩:=I.list m;have d:=r.length;ac_rfl;exists "list",_,slot_list_getitem.lookup,g.isList.typeIs;refine wpAny_getItem_list_slice g.isList j pl k .none (by simp) ?_ (by rw[cY]<;>lia)
 rw[yE,<-d];refine#[.ref s.heap.objs.size,_,I.laid (t':=s.toks) (o:= .lst (u0 c lo e)) (λb A q=>Da _ q) (bu _) ?_,rfl,q _ (I.hok.fresh (bu _))];exact#[jr (rQ c lo e) p,_,0,(r.drop (HT.bT c.length 0 lo)).take (HT.bT c.length c.length e-HT.bT c.length 0 lo),GM _ rfl]
def hV:V->Bool
 | .aY=>true
 | .bl _=>true
 | .int _=>true
 | .str _=>true
 |_=>false
def xq:V->V->Bool
 | .aY, .aY=>true
 | .bl a, .bl b=>a==b
 | .bl a, .int b=>(if a then 1 else 0)==b
 | .int a, .bl b=>a==(if b then 1 else 0)
 | .int a, .int b=>a==b
 | .str a, .str b=>a==b
 |_,_=>false
def Qb{A:Around}{s:Shared}{y x:V}{u v:Value}(ry:RelV y u)(rx:RelV x v)(fy:hV y=true)(fx:hV x=true):SeqAt.EqAt A s u v (xq y x):=by
 cases y with
 |aY=>
  cases ry;cases x with
  |aY=>cases rx;exact SeqAt.EqAt.same _
  |bl b=>cases rx;exact SeqAt.EqAt.none_bool b
  |int b=>obtain⟨t,rfl⟩:=rx;exact SeqAt.EqAt.none_int b t
  |str b=>obtain⟨t,rfl⟩:=rx;exact SeqAt.EqAt.none_str b t
  |_=>exact absurd (show false=true from fx) eO
 |bl a=>
  subst ry;cases x with
  |aY=>cases rx;exact SeqAt.EqAt.bool_none a
  |bl b=>cases rx;exact SeqAt.EqAt.bool_bool a b
  |int b=>obtain⟨t,rfl⟩:=rx;exact SeqAt.EqAt.bool_int a b t
  |str b=>obtain⟨t,rfl⟩:=rx;exact SeqAt.EqAt.bool_str a b t
  |_=>exact absurd (show false=true from fx) eO
 |int a=>
  obtain⟨t',rfl⟩:=ry;cases x with
  |aY=>cases rx;exact SeqAt.EqAt.int_none a t'
  |bl b=>cases rx;exact SeqAt.EqAt.int_bool a t' b
  |int b=>obtain⟨t,rfl⟩:=rx;exact SeqAt.EqAt.int_int a t' b t
  |str b=>obtain⟨t,rfl⟩:=rx;exact SeqAt.EqAt.int_str a t' b t
  |_=>exact absurd (show false=true from fx) eO
 |str a=>
  obtain⟨t',rfl⟩:=ry;cases x with
  |aY=>cases rx;exact SeqAt.EqAt.str_none a t'
  |bl b=>cases rx;exact SeqAt.EqAt.str_bool a t' b
  |int b=>obtain⟨t,rfl⟩:=rx;exact SeqAt.EqAt.str_int a t' b t
  |str b=>obtain⟨t,rfl⟩:=rx;exact SeqAt.EqAt.str_str a t' b t
  |_=>exact absurd (show false=true from fx) eO
 |_=>exact absurd (show false=true from fy) eO
def pK(x:V)(u:Value):Bool:=match u with
 | .none=>xq .aY x
 | .bool b=>xq (.bl b) x
 | .int i _=>xq (.int i) x
 | .str z _=>xq (.str z) x
 |_=>false
def v9{x y:V}{u:Value}(r:RelV y u)(f:hV y=true):pK x u=xq y x:=by
 cases y with
 |aY=>cases r;rfl
 |bl b=>cases r;rfl
 |int i=>obtain⟨t,rfl⟩:=r;rfl
 |str z=>obtain⟨t,rfl⟩:=r;rfl
 |_=>exact absurd (show false=true from f) eO
theorem ni:∀{c:List V}{d:List Value},Vals c d->c.all hV=true->d.any (pK x)=c.any λy=>xq y x
 |_,_, .nil,_=>rfl
 |y::c,u::d, .cons r t,f=>by
  rw[aa8,vz] at f;rw[abO,abO,v9 r f.1,ni t f.2]
theorem jE(g:RelV x v)(h:hV x=true):∀{d:List V}{e:List Value},Vals d e->d.all hV=true->∀u∈e,SeqAt.EqAt A s u v (pK x u)
 |_,_, .nil,_=>λu c=>by cases c
 |y::d,u::e, .cons r t,f=>λi c=>by
  rw[aa8,vz] at f
  rcases b8.mp c with rfl|c
  .rw[v9 r f.1];exact Qb r g f.1 h
  .exact jE g h t f.2 i c
def Qu(x:V)(c:List V):Bool:=c.any λy=>xq y x
def U5(K:aj)(d:Bool):R2:=λx y H Q=>∃p c,y= .ref p/\(cJ K H p c\/gT K H p c)/\hV x=true/\c.all hV=true/\Q (.bl (if d then !Qu x c else Qu x c)) H
def Im:OpR X (compareOp .In) (U5 X.K false):=by
 intro e s l H x y v u Q I f i h;rfl';obtain⟨p,n,rfl,d,g,fs,q⟩:=h;subst i;ac_rfl
 rcases d with d|d
 .obtain⟨c,r,pl,k⟩:=I.list d
  refine SeqAt.in_listAt (pK x) pl.isList (λw hw=>jE f g r fs w (by simpa using hw)) #[.bl _,H,I,rfl,?_]
  rw[show c.toArray.any (pK x)=c.any (pK x) by simp,ni r fs]
  exact q
 .obtain⟨c,r,pl,k⟩:=I.tuple d
  refine SeqAt.in_tupleAt (pK x) pl (λw hw=>jE f g r fs w (by simpa using hw)) #[.bl _,H,I,rfl,?_]
  rw[show c.toArray.any (pK x)=c.any (pK x) by simp,ni r fs]
  exact q
def Ac:OpR X (compareOp .NotIn) (U5 X.K true):=by
 intro e s l H x y v u Q I f i h;rfl';obtain⟨p,n,rfl,d,g,fs,q⟩:=h;subst i;ac_rfl
 rcases d with d|d
 .obtain⟨c,r,pl,k⟩:=I.list d
  refine SeqAt.notIn_listAt (pK x) pl.isList (λw hw=>jE f g r fs w (by simpa using hw)) #[.bl _,H,I,rfl,?_]
  rw[show c.toArray.any (pK x)=c.any (pK x) by simp,ni r fs]
  exact q
 .obtain⟨c,r,pl,k⟩:=I.tuple d
  refine SeqAt.notIn_tupleAt (pK x) pl (λw hw=>jE f g r fs w (by simpa using hw)) #[.bl _,H,I,rfl,?_]
  rw[show c.toArray.any (pK x)=c.any (pK x) by simp,ni r fs]
  exact q
def zt:CallR X (.builtin "len") (λi H Q=>∃p d,i= [.ref p]/\(cJ X.K H p d\/gT X.K H p d)/\Q (.int d.length) H):=by
 intro j s n H i o Q I r h;rfl';obtain⟨p,d,rfl,e,q⟩:=h;obtain⟨u,rfl,l⟩:=vals1 r;subst l;have v:=l6;ac_rfl
 rcases e with e|e
 .obtain⟨f,g,pl,m⟩:=I.list e
  have c:=g.length;exact Calls.call_len_list pl.isList (by simp only[cY]<;>lia) #[.int d.length,H,I.tok _,#[s.toks+1,by rw[cY,c]],q]
 .obtain⟨f,g,pl,m⟩:=I.tuple e
  have c:=g.length;exact len_tuple pl (by simp only[cY]<;>lia) #[.int d.length,H,I.tok _,#[s.toks+1,by rw[cY,c]],q]
def zu:CallR X (.type "list") (λA H Q=>∃p f,A= [.ref p]/\(cJ X.K H p f\/gT X.K H p f)/\∀l,H l=none->Q (.ref l) (upd H l (.lst f))):=by
 intro j s C H A F Q I r h;obtain⟨p,f,rfl,k,q⟩:=h;obtain⟨u,rfl,E⟩:=vals1 r;subst E
 have fin:∀(c:List Value),Vals f c->f.length<=sizeLine->∀(d:Heap)(g:Nat),(∀b B,s.heap.get? b=some B->d.get? b=some B)->
   d.get? s.heap.objs.size=some {cls:= .type "list",dict:=none,data:= .seq c.toArray g,slots:= #[]}->EP X j C Q (.ref s.heap.objs.size) {s with heap:=d}:=λc i m d g t e=>
  #[.ref s.heap.objs.size,_,I.laid (t':=s.toks) t (bu _) (show cn X.prog X.w _ d _ (.lst f) from#[m,c,g,i,e]),rfl,q _ (I.hok.fresh (bu _))]
 rcases k with k|k
 .obtain⟨c,i,pl,m⟩:=I.list k
  have v:=i.length;obtain⟨o,x,y,n,z⟩:=pl.isList;exact call_list_seq p (.inl rfl) x y z (λd g t e=>fin c i m d g t e) (by simp only[cY]<;>lia)
 .obtain⟨c,i,pl,m⟩:=I.tuple k
  have v:=i.length;obtain⟨o,x,y,n,z⟩:=pl;exact call_list_seq p (.inr rfl) x y z (λd g t e=>fin c i m d g t e) (by simp only[cY]<;>lia)
def RP(K:aj)(T:String)(x:V)(H:Hp):Prop:=match x with
 | .str _=>T="str"
 | .int _=>T="int"
 | .ref p=>(T="list"/\∃d,cJ K H p d)\/(T="tuple"/\∃o,K.lookup p=some o/\o.cls= .type "tuple"/\o.dict=none)\/
   (T="dict"/\((∃c,H p=some (.dK c))\/∃c,H p=some (.dT c)))\/(T="set"/\∃S n,H p=some (.set S n))
 |_=>False
theorem Kc(I:Inv X g m H s)(r:RelV x v)(h:RP X.K T x H):
  s.TypeIs v T/\∀a,v= .ref a->∃l,s.heap.get? a=some l/\l.dict=none:=by
 cases x with
 |str z=>
  obtain⟨t,rfl⟩:=r;cases(show T="str" from h);exact#[typeIs_str s z t,λ_ e=>nomatch e]
 |int i=>
  obtain⟨t,rfl⟩:=r;cases(show T="int" from h);exact#[typeIs_int s i t,λ_ e=>nomatch e]
 |ref p=>
  subst r
  rcases h with ⟨rfl,A,q⟩ | ⟨rfl,o,d,u,j⟩ | ⟨rfl,d⟩ | ⟨rfl,S,n,d⟩
  .obtain⟨w,_,pl,_⟩:=I.list q
   refine#[pl.isList.typeIs,λa e=>?_];cases e;obtain⟨o,n,e,c,j,_⟩:=pl;exact#[o,e,j]
  .refine#[#[o,I.cR p o d,u],λa e=>?_]
   cases e;exact#[o,I.cR _ o d,j]
  .have z:∃o,s.heap.get? p=some o/\o.ExactDict:=by
    rcases d with ⟨y,d⟩ | ⟨y,d⟩
    .obtain⟨_,_,_,_,o,_,_,e,f,_⟩:=I.hok p _ d
     exact#[o,e,f]
    .obtain⟨_,_,_,_,o,_,_,e,f,_⟩:=I.hok p _ d
     exact#[o,e,f]
   obtain⟨o,e,f⟩:=z;refine#[#[o,e,f.1],λa k=>?_];cases k;exact#[o,e,f.2.1]
  .obtain⟨o,_,_,_,e,f,_⟩:=I.hok p _ d
   refine#[#[o,e,f.1],λa k=>?_];cases k;exact#[o,e,f.2.1]
 |_=>exact False.elim h
def Yx(K:aj)(T:String)(r:V->List V->Hp->VK->Prop)(d:TE):TE:=λe H Q=>d e H λx c=>RP K T x c/\r x [] c Q
def tBM(K:aj)(T:String)(r:V->List V->Hp->VK->Prop)(e:TE)(t:TA):TE:=λc H Q=>e c H λx d=>RP K T x d/\t c d λf g=>r x f g Q
variable {o e:Expr} {es:List Expr} {to:TE} {t:TA} {name:Str} {apos aP:Pos} {T id:String} {r:V->List V->Hp->VK->Prop}
def Q3(i:PlainAttrs T)(slot:Slot T name id)(j:typeOf (.builtin id)=pure (.type "method_descriptor"))(k:Pz X id r)(l:PE X o to)
  (m:attributeBase o name X.env (eval o X.env)=eval o X.env:=by rfl) (n:(apos.endLine==aP.line)=true:=by rfl):PE X (.Call (.Attribute o name apos) [] [] aP) (Yx X.K T r to):=by
 intro c s d H Q I h;refine wpAny_Call_method0_late m n (thn (l c s d H _ I h) λv p q=>?_);rfl';obtain⟨x,w,f,g,y,z⟩:=q;obtain⟨A,B⟩:=Kc f g y;ac_rfl;exact#[T,id,i,slot,j,A,B,aa6 rfl (PySem.evalArgs_none (k c p d w x [] v [] Q f g .nil z))]
def yy(l:PlainAttrs T)(slot:Slot T name id)(m:typeOf (.builtin id)=pure (.type "method_descriptor"))(n:Pz X id r)(p:PE X o to)(q:PA X (e::d) t)
  (u:attributeBase o name X.env (eval o X.env)=eval o X.env:=by rfl)
  (w:((backTo f (starEach (e::d) X.env)).all (λx=>!x.1)&&(backToKw f (keywordEach [] X.env)).all (λx=>x.1.isSome)
   &&decide ((e::d).length+([]:List Keyword).length+(if ([]:List Keyword).isEmpty then 0 else 1)<30))=true:=by rfl)
  (y:(apos.endLine==f.line)=true:=by rfl) (z:starEach (e::d) X.env=(false,eval e X.env)::starEach d X.env:=by rfl) (A:(backTo f (starEach d X.env)).any (·.1)=false:=by rfl):
  PE X (.Call (.Attribute o name apos) (e::d) [] f) (tBM X.K T r to t):=by
 intro c s g H Q I h;refine acs u w y rfl (thn (p c s g H _ I h) λv B C=>?_);rfl';obtain⟨x,F,i,j,G,J⟩:=C;obtain⟨L,M⟩:=Kc i j G;ac_rfl;exists T,id,l,slot,m,L,M;have k:=q f c B g F _ i J;rw[z] at k ⊢;refine aa6 (by show(false|| (backTo f (starEach d X.env)).any (·.1))=false;rw[A]<;>rfl) (Calls.evalArgs_plain ?_)
 exact thn k λN O #[P,R,S,U,Y]=>n c O g R x P v N Q S j U Y
end
def Py(X:Cx)(id:String)(r:V->List V->Hp->VK->Prop):Prop:=
 ∀(a:List (Addr×Obj))(s:Shared)(b:St)(H:Hp)(x:V)(c:List V)(v:Value)(d:List Value)(Q:VK),Inv X a b H s->RelV x v->Vals c d->r x c H Q->
  wpAny (model X.prog X.w) X.A (call (.builtin id) (v::d)) (EP X a b Q) X.xe s
def Vals.one(h:Vals [x] a):∃u,a= [u]/\RelV x u:=by
 cases h with|cons r t=>cases t;exact#[_,rfl,r]
def Vals.two{x y:V}(h:Vals [x,y] a):∃u v,a= [u,v]/\RelV x u/\RelV y v:=by
 cases h with
 |cons r t=>
  obtain⟨v,rfl,q⟩:=Vals.one t;exact#[_,v,rfl,r,q]
theorem Vals.zero:∀{a:List Value},Vals [] a->a= []
 |_, .nil=>rfl
theorem Vals.dropLast(h:Vals a b):Vals a.dropLast b.dropLast:=by
 induction h with
 |nil=>exact .nil
 |cons r t c=>
  cases t with
  |nil=>exact .nil
  |cons q d=>exact .cons r c
theorem Vals.rep(h:Vals a b):∀k:Nat,Vals (ak k a).flatten (ak k b).flatten
 |0=> .nil
 |k+1=>by
  rw[zc,zc,qq,qq];exact Vals.append h (Vals.rep h k)
def E6(l:List c):l.eraseIdx (l.length-1)=l.dropLast:=by
 induction l with
 |nil=>rfl
 |cons a r d=>
  cases r with
  |nil=>rfl
  |cons b r=>
   have e:(a::b::r).length-1=((b::r).length-1)+1:=by
    have f:(a::b::r).length=r.length+2:=rfl;have g:(b::r).length=r.length+1:=rfl;lia
   rw[e,List.eraseIdx_cons_succ,d]
   all_goals rfl
theorem foldl_rep(a:List Value):∀(k:Nat)(b:List Value),
  List.foldl (λc d=>c++d) b.toArray (ak k a.toArray)=(b++(ak k a).flatten).toArray
 |0,b=>by simp
 |k+1,b=>by
  have e:b.toArray++a.toArray=(b++a).toArray:=by simp
  have f:(b++a)++(ak k a).flatten=b++(ak (k+1) a).flatten:=by
   rw[zc,qq,qr]
  rw[<-f,<-foldl_rep a k (b++a),<-e,zc,acn]
section
variable {X:Cx} {pins:List (Addr×Obj)} {σ:St} {H:Hp} {s:Shared} {l b:Addr} {xs ys zs:List V}
def Inv.NV{its its':List Value}(I:Inv X pins σ H s)(a:H l=some (.lst xs))
  (e:s.heap.get? l=some {cls:= .type "list",data:= .seq its.toArray n}) (c:f its.toArray=its'.toArray) (d:Vals ys its') (g:ys.length<=sizeLine):
  Inv X pins σ (upd H l (.lst ys)) {s with heap:=s.heap.update l (Obj.mapSeq f),toks:=t'}:=by
 have q:=PySem.IsL.update e f;rw[c] at q;refine I.write (x:=l) (e:=l) (by rw[a];exact trivial) (.inl rfl) (λj u h i=>(P3 s.heap (Obj.mapSeq f) (Ne.symm h)).trans i) #[_,q] ?_
 exact#[g,its',_,d,q]
def Inv.JP{its:List Value}{t':Nat}(I:Inv X pins σ H s)(a:Vals ys its)(c:ys.length<=sizeLine):
  Inv X pins σ (upd H s.heap.objs.size (.lst ys)) {s with heap:=s.heap.push {cls:= .type "list",data:= .seq its.toArray},toks:=t'}:=
 I.laid (λ_ _ q=>Da _ q) (bu _) #[c,its,0,a,GM _ rfl]
theorem Inv.fresh(I:Inv X pins σ H s):H s.heap.objs.size=none:=I.hok.fresh (bu _)
def Inv.vg(I:Inv X pins σ H s)(a:H l=some (.lst xs)):xs.length<=sizeLine/\∃(its:List Value)(n:Nat),Vals xs its/\xs.length=its.length/\s.heap.get? l=some {cls:= .type "list",data:= .seq its.toArray n}:=by
 obtain⟨z,its,n,r,e⟩:=I.hok l _ a;exact#[z,its,n,r,r.length,e]
def Lh(h:n<=sizeLine):Builtin.List.listTooLong n=false:=by
 unfold Builtin.List.listTooLong;exact Gc (by lia)
end
section
variable {X:Cx}
def OL:V->List V->Hp->VK->Prop:=λx b H Q=>∃l a y,x= .ref l/\b= [y]/\H l=some (.lst a)/\a.length<sizeLine/\Q .aY (upd H l (.lst (a++ [y])))
def me:Py X "list.append" OL:=by
 intro b s j H x k v m Q I d f h;rfl';obtain⟨l,p,y,rfl,rfl,c,t,q⟩:=h;subst d;obtain⟨u,rfl,i⟩:=f.one;obtain⟨z,a,n,r,w,e⟩:=I.vg c;ac_rfl;refine aa0 F.slot_list_append #[_,e,rfl] F.entry_list_append (F.args_list_append_2 _ _) (PySem.list_append l a.toArray n u (by rw[cY];lia)) #[e,?_]
 refine#[.aY,_,I.NV (its':=a++ [u]) c e (by simp) (r.append (.cons i .nil)) ?_,rfl,q]
 rw[dh,GN];lia
def Yf:V->List V->Hp->VK->Prop:=λx b H Q=>∃l a y,x= .ref l/\b= []/\H l=some (.lst a)/\a[a.length-1]? =some y/\Q y (upd H l (.lst a.dropLast))
def QL:Py X "list.pop" Yf:=by
 intro c s t H x w v A Q I f g h;rfl';obtain⟨l,C,y,rfl,rfl,d,j,q⟩:=h;subst f;have b:=g.zero;subst b;obtain⟨z,a,n,r,k,e⟩:=I.vg d;obtain⟨u,m,o⟩:=r.get j;ac_rfl
 have p:a.toArray[a.toArray.size-1]? =some u:=by
  show a.toArray[a.length-1]? =some u;rw[<-fM,<-k];exact m
 refine aa0 F.slot_list_pop #[_,e,rfl] F.entry_list_pop (F.args_list_pop_1 _) (MeetsSeq.list_pop_last l a.toArray n u p (by rw[cY];lia)) #[e,?_]
 refine#[y,_,I.NV (its':=a.dropLast) d e ?_ r.dropLast ?_,o,q]
 .show a.toArray.eraseIdxIfInBounds (a.toArray.size-1)=a.dropLast.toArray
  rw[cY,List.eraseIdxIfInBounds_toArray,E6]
 .rw[List.length_dropLast]
  lia
def Ya:R2:=λx y H Q=>∃l b a c,x= .ref l/\y= .ref b/\H l=some (.lst a)/\H b=some (.lst c)/\a.length+c.length<=sizeLine/\∀p,H p=none->Q (.ref p) (upd H p (.lst (a++c)))
def JW:OpR X (binaryOp .Add) Ya:=by
 intro c s w H x y v u Q I f g h;rfl';obtain⟨l,b,B,C,rfl,rfl,j,k,E,q⟩:=h;subst f;subst g;obtain⟨z,a,n,r,F,e⟩:=I.vg j;obtain⟨G,d,J,m,o,p⟩:=I.vg k;ac_rfl;refine PySem.P.add_list e p ?_ (by rw[cY,cY];lia)
 have t:a.toArray++d.toArray=(a++d).toArray:=by simp
 rw[t];exact#[.ref _,_,I.JP (t':=s.toks) (r.append m) (by rw[dh];lia),rfl,q _ I.fresh]
def Yg:R2:=λx y H Q=>∃l k a,x= .ref l/\y= .int k/\H l=some (.lst a)/\-(2^63)<=k/\k<2^63/\a.length*k.toNat<=sizeLine/\
 ∀p,H p=none->Q (.ref p) (upd H p (.lst (ak k.toNat a).flatten))
def len_rep(a:List b)(k:Nat):(ak k a).flatten.length=k*a.length:=by
 induction k with
 |zero=>simp
 |succ k c=>rw[zc,qq,dh,c,Nat.succ_mul,acG]
def Q0:OpR X (binaryOp .Mult) Yg:=by
 intro g s O H x y v u Q I j o h;rfl';obtain⟨l,k,R,rfl,rfl,w,A,B,i,q⟩:=h;subst j;obtain⟨t,rfl⟩:=o;obtain⟨z,b,n,r,C,e⟩:=I.vg w;have c:b.toArray.size*k.toNat<=sizeLine:=by rw[cY,<-C];exact i
 ac_rfl
 have E:¬b.toArray.size*k.toNat>(2^63-1) / 8:=by
  have:(sizeLine:Nat)<=(2^63-1) / 8:=by decide
  lia
 have G:¬(!Builtin.List.listFitsIndex k)=true:=by
  rw[fitsIndex_both A B];exact eO
 have J:¬Builtin.List.listTooLong (b.toArray.size*k.toNat)=true:=by
  rw[Lh c];exact eO
 have L:List.foldl (λd f=>d++f) #[] (ak (if b.toArray.isEmpty=true then 0 else k.toNat) b.toArray)=(ak k.toNat b).flatten.toArray:=by
  have M:∀m:Nat,List.foldl (λd f=>d++f) #[] (ak m b.toArray)=(ak m b).flatten.toArray:=λm=>by
   have:=foldl_rep b m []
   rw[vC] at this;exact this
  rw[M];cases b with
  |nil=>simp
  |cons a S=>rw[mo (by simp)]
 refine wpAny_binaryOp_repeat_ref (T:="list") (U:="int") (by decide) #[_,e,rfl] (λN=>typeIs_int N k t) noFill_list_mul F.fills_int_mul F.slot_int_rmul repeat_list F.slot_int_index.lookup
  (aa0 F.slot_int_rmul (typeIs_int s k t) F.entry_int_rmul (F.args_int_rmul_2 _ _) (int___rmul___int_list k t l b.toArray n)
   #[e,rfl,#[_,e,rfl],aa0 F.slot_list_mul #[_,e,rfl] F.entry_list_mul (F.args_list_mul_2 _ _) (AutoListH.list___mul___list_int_3 l b.toArray n k t G E J) #[e,?_]])
 rw[L];exact#[.ref _,_,I.JP (t':=s.toks) (r.rep k.toNat) (by rw[len_rep,Nat.mul_comm];exact i),rfl,q _ I.fresh]
end
section
variable {prog:Program} {w:World} {A:Around} {E:Value->Shared->Prop} {s:Shared}
end
section
variable {X:Cx}
end
end L2
namespace Vx
open PySem PySem.W PySem.Calls PyProof.Rows
def uo:∀(c:List Int)(d:List Value),WellAll P h d (c.map WData.int)->IntsAre d c:=by
 intro c
 induction c with
 |nil=>
  intro d w;rw[acF] at w;cases w;exact .nil
 |cons n c e=>
  intro d w;rw[dz] at w;cases w with
  |cons a b=>
   cases a;exact .cons _ _ (e _ b)
theorem IH{l:OpenLaw}(o:l.most=some n) 
  (j:l.row.toRowW.claim.pre args=true) (p:WellAll P h c args):
  ∃a k b,c= [Value.ref a]/\args= [WData.list (b.map WData.int)]/\h.get? a=some {cls:= .type "list",data:= .seq k.toArray}/\IntsAre k b/\b.length<=n:=by
 have i:WShape.hasAll [] args [.list .int]=true:=(pre_splitW j).1;have m:l.pre.holds [] {args:=args}=true:=(pre_splitW j).2;obtain⟨d,r,rfl,s,t⟩:=hasAllW_cons i;obtain rfl:=hasAllW_nil t;obtain⟨A,rfl,u⟩:=hasW_list s;obtain⟨b,rfl⟩:=items_int u
 have e:b.length<=n:=by
  unfold OpenLaw.pre at m
  have f:(WTm.not (.lt (.lit (.int (n:Int))) (.len (.arg 0)))).holds [] {args:= [.list (b.map .int)]}=true:=by
   have f:=(holds_andW m).1;rw[o] at f;exact f
  have g:=condW_of f (w_not (w_lt w_lit (w_len_list (w_arg rfl))));rw[aV] at g;refine jo λq=>?_;have v:(n:Int)<((b.length:Nat):Int):=by lia
  first
   | (rw[B v] at g;exact absurd g (by decide))
   | (simp at g;lia)
 cases p with
 |cons w x=>
  cases x;cases w with
  |list y z=>exact#[_,_,b,rfl,rfl,y,uo b _ z,e]
def Iz(l:OpenLaw)(args:List WData):l.row.toRowW.claim.post args (.bool true) args=true:=
 postW_of (r:=l.row.toRowW) (X:=(true==true))
  (show WShape.has [] (.bool true) .bool=true by first|rfl|decide|simp[WShape.has,WShape.arms,WShape.armsAll])
  (show(WTm.eq .res (.lit (.bool true))).value [] {args:=args,res:=some (.bool true),after:=args}=some (.bool (true==true)) from w_eq_bool (w_res rfl) w_lit) rfl
def BA{l:OpenLaw} 
  (C:l.most=some n) (E:d.params.defaults= [])
  (call:∀(w:World)(e b:Shared)(m u:Str->Option Value)(j:Addr)(o:Obj)(v p g:Value)(a:Addr)(i:List Value)(s:List Int),
   Ground q c [] x w e m u b.heap->y w b.heap->
   b.heap.get? j=some o->o.data= .func (docDef d.name d.params d.body d.scope v p g)->b.heap.CodeRec p d.name->m d.name=some (.ref j)->
   b.heap.get? a=some {cls:= .type "list",data:= .seq i.toArray}->IntsAre i s->s.length<=n->b.gens= #[]->
   codeAny (model l.prog w) callerA (.call (.ref j) #[[.ref a],[]]) (λr t=>r= .ok (.ret (.bool true))/\OldK b.heap t.heap/\t.os=b.os/\AllBare t.gens) b):
  WalkO q c x y l.row.toRowW d [] (λf i=>dy f i):=by
 intro w e b m u G Y j o v p g F kV H I J z L M A B as N O Xl P Fl;obtain rfl:F= .none:=Dflts.none z E;obtain rfl:kV= .none:=Dflts.noKw z;rfl';obtain⟨a,i,s,rfl,rfl,R,h,k⟩:=IH C N P;ac_rfl;refine enter_call (aaz (call w e b m u j o v p g a i s G Y H (fd_plain I) J L R h k M) λr t S=>?_);obtain⟨rfl,T,U,X⟩:=S;exact#[.inl #[.bool true, .bool true,[],rfl,λ_=>rfl, .bool true,Iz l _,λ_=>#[List.Pairwise.nil,λ_ Z=>(nomatch Z)]],T,U,X]
section
variable {prog:Program} {w:World} {A:Around} {E:Value->Shared->Prop} {s:Shared} {K:Frag}
end
end Vx
namespace L2
open PySem PySem.Spec PyProof.Rows
theorem qZ:∀{a:List Value}{b:List Int},IntsAre a b->Vals (b.map V.int) a
 |_,_, .nil=> .nil
 |_,_, .cons n t h=> .cons #[t,rfl] (qZ h)
def L8(H:Hp):Prop:=∀b,H b=none\/∃o a,H b=some (.qC o (.lst a))
theorem K9{P:Program}{w:World}{K:aj}{l E:Str->Option Value}{L:pF}{k:Nat}{G a:Addr}{M:FuncData}{x:Str}{N:Sp}{c:Shared}{j:List Value}{p:List Int}
  (O:K.In c.heap) (Q:c.heap.Ns mainGlobals l) (f:c.heap.Ns builtinsNs E) (zH:∀x:Str,x≠"__name__"->E x=bootBuiltins x) (W9:c.heap.NoLimit) (hg:c.gens= #[])
  (B:c.heap.get? a=some {cls:= .type "list",data:= .seq j.toArray}) (R:IntsAre j p) (S:p.length<=sizeLine) (hr:bQ k callerA)
  (F:∀base:Heap,K.In base->base.Ns mainGlobals l->FnOk P w K l base L k G M [x] N) (T5:∀(s:Shared)(u:Value),BindsTo s M #[[u],[]] [(x,u)])
  (ui:∀H:Hp,L8 H->cJ K H a (p.map V.int)->N [.ref a] H (λv _=>v= .bl true) λ_ _ _=>False)
  (TY:∀H e g,L [] H c (λ_ _ _=>False) e g->False):
  codeAny (model P w) callerA (.call (.ref G) #[[.ref a],[]]) (λr g=>r= .ok (.ret (.bool true))/\OldK c.heap g.heap/\g.os=c.os/\AllBare g.gens) c:=by
 have T:=qZ R;have XH:=R.length
 have i:∀H:Hp,L8 H->cJ K H a (p.map V.int)->gx P w H c.heap->(∀b,H b≠none->b=a)->(H a≠none->K.lookup a=none)->
   codeAny (model P w) callerA (.call (.ref G) #[[.ref a],[]]) (λr g=>r= .ok (.ret (.bool true))/\OldK c.heap g.heap/\g.os=c.os/\AllBare g.gens) c:=by
  intro H U hS hok X hK;have Y:∀{b:Addr}{o:Obj},c.heap.get? b=some o->H b=none->(sF c.heap H).get? b=some o:=λe n=>K2 e n
  have N2:∀{b:Addr}{o:Obj}{t:Array DictEntry}{y:Nat},c.heap.get? b=some o->o.data= .dict t y->H b=none:=λ {b o t y} e d=>by
   cases q:H b with
   |none=>rfl
   |some u=>
    have I:b=a:=X b (by rw[q];simp)
    subst I;rw[B] at e;cases e;have d':Data.seq j.toArray _=Data.dict t y:=d;cases d'
  have C:∀{b:Addr}{m:Str->Option Value},c.heap.Ns b m->(sF c.heap H).Ns b m:=λ {b m} #[o,t,y,e,d,r]=>#[o,t,y,Y e (N2 e d),d,r]
  have Z:K.In (sF c.heap H):=λb o e=>Y (O b o e) (by
   cases q:H b with
   |none=>rfl
   |some u=>
    have I:b=a:=X b (by rw[q];simp)
    subst I;rw[hK (by rw[q];simp)] at e;cases e)
  have hM:Mod K l (sF c.heap H):=#[Z,C Q,#[E,C f,zH],let #[mc,h1,h2]:=W9;#[mc,C h1,h2]];have e0:Env0 P w K l (sF c.heap H) callerA [] c H:=#[rfl,hM,λb o e=>N7 e,Nat.le_of_eq (HG _ _),trivial,λb f=>absurd (show b∈([]:List Addr) from f) (by simp),hok, .of_eq hg]
  refine aaz ((F _ Z (C Q)).run callerA [] c H #[[.ref a],[]] [.ref a] [.ref a] _ _ hr e0 (T5 c (.ref a)) (.cons rfl .nil) (ui H U hS)) λr g h=>?_;cases r with
  |error e=>exact(TY H e g h).elim
  |ok fl=>
   cases fl with
   |next=>exact False.elim h
   |brk=>exact False.elim h
   |cont=>exact False.elim h
   |ret u=>
    rfl';obtain⟨v,H',os,bare,un,Xg,r',q⟩:=h;have q':v= .bl true:=q;subst q';ac_rfl;obtain rfl:u=Value.bool true:=r';refine#[rfl,OldK.of_keep λb o e=>?_,os,bare];cases q:H b with
    |none=>exact un.keep b o e q (by intro z;exact absurd (show b∈([]:List Addr) from z) (by simp)) (by simp)
    |some u=>
     rcases U b with z| ⟨ob,xs,z⟩
     .rw[q] at z;cases z
     .have z2:=un.frzs b ob _ z
      obtain⟨e1,_⟩:=hok b _ z;obtain⟨e2,_⟩:=Xg b _ z2;rw[e] at e1;cases e1;exact e2
 cases J:K.lookup a with
 |some o=>
  have e:=O a o J;rw[B] at e;cases FB e;refine i (λ_=>none) (λ_=> .inl rfl) (.inr #[_,j.toArray,_,J,rfl,rfl,rfl,by rw[cY,XH];exact S,by simpa using T]) (λb u z=>by have A:(none:Option HO)=some u:=z;cases A) (λb z=>absurd rfl z) λz=>absurd rfl z
 |none=>
  refine i (λb=>if b=a then some (.qC {cls:= .type "list",data:= .seq j.toArray} (.lst (p.map V.int))) else none) (λb=>?_) (.inl (.inr #[{cls:= .type "list",data:= .seq j.toArray},tz rfl])) (λb u z=>?_) (λb z=>?_) λ_=>J
  .by_cases f:b=a
   .exact .inr #[_,_,tz f]
   .exact .inl (mo f)
  .by_cases f:b=a
   .have A:=(tz f).symm.trans z
    obtain rfl:=FB A;subst f;exact#[B,by rw[aV];exact S,j,_,T,B]
   .have A:=(mo f).symm.trans z
    cases A
  .by_cases f:b=a
   .exact f
   .exact absurd (mo f) z
def Pl{l:cm}{n k:Nat}{q:Program}{i:List Str}{I:(Str->Option Value)->Heap->Prop}{A:World->Heap->Prop}{d:DefRec}{K:Params->aj}{CX:World->pF}{sp:World->Sp}{x:Str}
  (J:l.most=some n) (L:n<=sizeLine) (M:d.params.defaults= []) (N:bQ k callerA)
  (O:∀(w:World)(h:Heap),A w h->(K w.params).In h)
  (F:∀(w:World)(m:Str->Option Value)(r:Addr)(h:Heap),(K w.params).In h->h.Ns mainGlobals m->m d.name=some (.ref r)->
   ∃y:FuncData,(∀(s:Shared)(u:Value),BindsTo s y #[[u],[]] [(x,u)])/\
    ∀base:Heap,(K w.params).In base->base.Ns mainGlobals m->FnOk l.prog w (K w.params) m base (CX w) k r y [x] (sp w))
  (P:∀(w:World)(H:Hp)(a:Addr)(t:List Int),t.length<=n->L8 H->cJ (K w.params) H a (t.map V.int)->sp w [.ref a] H (λv _=>v= .bl true) λ_ _ _=>False)
  (Q:∀(w:World)(H:Hp)(s:Shared)(e:Value)(z:Shared),CX w [] H s (λ_ _ _=>False) e z->False):
  dV q i I A l.row.toRowW d [] (λf B=>dy f B):=by
 refine Vx.BA J M λw C p m mb r o pm cd R a B t G Y ho hd eU S U j c X=>?_;have E:=O w _ Y;obtain⟨y,Z,hF⟩:=F w m r _ E G.T.g S;exact K9 E G.T.g G.T.b G.T.builtins G.T.nolimit X U j (jr c L) N hF Z (λH hO hS=>P w H a t c hO hS) λH e z=>Q w H p e z
def inClass(s:Stmt)(j:Nat):Stmt:=match s with
 | .ClassDef _ _ _ body _ _ _ _ _ _ _=>body.getD j (.Pass #[0,0,0,0])
 |_=> .Pass #[0,0,0,0]
def hJ(s:Stmt):Arguments:=match s with
 | .FunctionDef _ a _ _ _ _ _ _ _ _=>a
 |_=>{posonlyargs:= [],args:= [],vararg:=none,kwonlyargs:= [],kw_defaults:= [],kwarg:=none,defaults:= []}
def cU(s:Stmt):List Stmt:=match s with
 | .FunctionDef _ _ b _ _ _ _ _ _ _=>b
 |_=> []
def ao(s:Stmt):Scope:=match s with
 | .FunctionDef _ _ _ _ _ _ sc _ _ _=>sc
 |_=>{kind:= .function,names:= [],isGenerator:=false,isCoroutine:=false}
abbrev cz:pF:=λ_ _ _ _ _ _=>False
abbrev E0:XK:=λ_ _ _=>False
def uJ:Passes cz X E0:=λ_ _ _ _ _ _ _ h=>h.elim
structure m8 (K:aj) (x qual:Str) (st:Stmt) (f:Addr) (fd:FuncData):Prop where
 ex:∃(oc:Value)(od:Option Addr)(kV doc pm:Value)(an:Option Addr)(aX ct:Value)(Ae:Array (Option Value)),
  fd=b0 x qual (hJ st) (cU st) (ao st) .none kV doc pm an aX ct/\K.lookup f=some #[oc,od, .func fd,Ae]/\aE K aX qual=true
 kp:aA K (.ref f)=true
section
variable {P:Program} {w:World} {K:aj} {mg:Str->Option Value} {base:Heap}
def m8.ok{x a:Str}{st:Stmt}{f:Addr}{e:FuncData}{N c:List Str}{k:Nat}{d:Sp}(F:m8 K x a st f e)(S:aF N c (ao st))(len:∀vs H Q E,d vs H Q E->vs.length=c.length)
  (g:∀(b:Value)(A:Around)(outer:List Env)(s:Shared)(H:Hp)(vs:List V)(Q:VK)(E:XK),bQ k (A.deeper (envOfC a (ao st) s.heap.objs.size f b))->d vs H Q E->
   ∃t,jO (jS cz P w K mg base N a (ao st) f b A outer s H E).kL (cU st) t/\t {nx:=λ_ i=>Q .aY i,rt:=Q} (start N vs) H):FnOk P w K mg base cz (k+1) f e c d:=by
 rfl';obtain⟨u,v,kV,l,y,z,b,B,C,rfl,m,n⟩:=F.ex;ac_rfl;refine MV m n S len λA outer s H vs Q E o p=>?_;obtain⟨t,h,q⟩:=g b A outer s H vs Q E o p;exact#[t,h.kL,q]
def m8.binds{st:Stmt}{ps:List Str}(F:m8 K x a st f j)
  (h:∀(kV b c:Value)(d:Option Addr)(e g:Value)(i:List Value),i.length=ps.length->bindArgs (b0 x a (hJ st) (cU st) (ao st) .none kV b c d e g) #[i,[]]=pure (ps.zip i)):Binds K j ps []:=by
 rfl';obtain⟨m,n,kV,b,c,d,e,g,o,rfl,p,q⟩:=F.ex;ac_rfl;exact .all (h kV b c d e g)
def jv{x a:Str}{st:Stmt}{f:Addr}{i:Value}{j e:Option Addr}{m:Array (Option Value)}{kV b g d h:Value}(l:K.lookup f=some #[i,j, .func (b0 x a (hJ st) (cU st) (ao st) .none kV b g e d h),m])
  (c:aE K d a=true) (k:aA K (.ref f)=true):m8 K x a st f (b0 x a (hJ st) (cU st) (ao st) .none kV b g e d h):=#[#[i,j,kV,b,g,e,d,h,m,rfl,l,c],k]
end
def c9(h:n<=1000):n<sizeLine:=Nat.lt_of_le_of_lt h (by decide)
section
variable {X:Cx}
def pv(i:Nat)(b:X.N[i]? =some x:=by rfl)(c:pI X.env.scope x:=by subst_eqs)(d:(x==("__debug__":Str))=false:=by decide)
  (e:(x==("__classdict__":Str))=false:=by decide):PE X (.Name x a) (SR i):=DL b c d e
end
def aZ{A B:Prop}(h:B):if false=true then A else B:=by
 rw[mo eO];exact h
def cG{A B:Prop}(h:A):if true=true then A else B:=by
 rw[tz rfl];exact h
def aJ(H a:Hp):Prop:=∀b o,H b=some o->a b=some o
def aJ.refl(H:Hp):aJ H H:=λ_ _ h=>h
def aJ.trans{H d e:Hp}(a:aJ H d)(b:aJ d e):aJ H e:=λc o h=>b c o (a c o h)
def aJ.free(e:aJ H a)(h:a l=Option.none):H l=Option.none:=by
 cases q:H l with
 |none=>rfl
 |some o=>
  rw[e l o q] at h;cases h
def jk(env:Env):List (Str×NameKind)->List (Str×Addr)->List (Str×Addr)
 | [],a=>a
 | (n,k)::r,a=>if k==NameKind.free then jk env r ((n,(env.cells.lookup n).getD 0)::a) else jk env r a
def iK(h:∀x∈b.names,x.2= .free->∃c,env.cells.lookup x.1=some c):closureFor b env=pure (jk env b.names []):=by
 simp only[closureFor]
 have j:∀(names:List (Str×NameKind))(d:List (Str×Addr)),(∀x∈names,x.2= .free->∃c,env.cells.lookup x.1=some c)->
   (forIn names d λx e=>if (x.snd==NameKind.free)=true then(do let a <-cellOf env x.fst;pure (ForInStep.yield ((x.fst,a)::e))) else pure (ForInStep.yield e))=(pure (jk env names d):Sem _):=by
  intro names
  induction names with
  |nil=>intro d _;rfl
  |cons x r l=>
   obtain⟨n,k⟩:=x;intro d h;rw[List.forIn_cons,jk];have f:=λd=>l d λy m=>h y (eM _ m);cases g:k==NameKind.free with
   |false=>
    simp only[g,fE,On];exact f d
   |true=>
    have o:k= .free:=by simpa using g
    obtain⟨c,i⟩:=h (n,k) dE o;simp only at i;simp only[aaC,cellOf,i];exact f _
 rw[j _ _ h];rfl
theorem fR:∀(names:List (Str×NameKind))(a:List (Str×Addr)),(∀x∈names,x.2= .free->∃c,env.cells.lookup x.1=some c)->(∀x c,a.lookup x=some c->env.cells.lookup x=some c)->
  ∀x c,(jk env names a).lookup x=some c->env.cells.lookup x=some c
 | [],a,_,b=>b
 | (n,k)::r,a,h,b=>by
  rw[jk]
  split
  .rename_i g
   refine fR r _ (λy d=>h y (eM _ d)) λx c e=>?_;obtain⟨l,f⟩:=h (n,k) dE (by simpa using g)
   rw[tX] at e
   split at e
   .rename_i i
    have j:x=n:=by simpa using i
    subst j;simp only at f;rw[f] at e ⊢;exact e
   .exact b x c e
  .exact fR r a (λy d=>h y (eM _ d)) b
theorem oY{env:Env}:∀(names:List (Str×NameKind))(a:List (Str×Addr))(x:Str),((x,NameKind.free)∈names\/∃c,a.lookup x=some c)->∃c,(jk env names a).lookup x=some c
 | [],a,x,h=>by
  rcases h with h|h
  .cases h
  .exact h
 | (n,k)::r,a,x,h=>by
  rw[jk]
  split
  .rename_i b
   refine oY r _ x ?_
   by_cases e:x=n
   .subst e;exact .inr #[(env.cells.lookup x).getD 0,by simp[tX]]
   .have ne:(x==n)=false:=by simpa using e
    rcases h with h| ⟨c,h⟩
    .rcases b8.mp h with z|z
     .cases z;exact absurd rfl e
     .exact .inl z
    .exact .inr #[c,by rw[tX,ne];exact h]
  .rename_i b
   refine oY r a x ?_
   rcases h with h|h
   .rcases b8.mp h with z|z
    .cases z;exact absurd rfl b
    .exact .inl z
   .exact .inr h
def mS(src:List (Option Nat))(a:St):St:=src.map λo=>o.bind λi=>(a[i]?).bind id
def dB(a:Scope)(b:List Str):List (Option Nat)->List Str->Prop
 | [],[]=>True
 |none::r,_::n=>dB a b r n
 |some i::r,x::n=>b[i]? =some x/\a.names.lookup x=some .free/\dB a b r n
 |_,_=>False
theorem dB.len:∀{src:List (Option Nat)}{NC:List Str},dB a b src NC->src.length=NC.length
 | [],[],_=>rfl
 |none::r,_::n,h=>by have:=dB.len (src:=r) (NC:=n) h;simp[this]
 |some i::r,_::n,h=>by have:=dB.len (src:=r) (NC:=n) h.2.2;simp[this]
 | [],_::_,h=>h.elim
 |none::_,[],h=>h.elim
 |some _::_,[],h=>h.elim
theorem dB.at{a:Scope}:∀{src:List (Option Nat)}{NC:List Str}{j i:Nat}{x:Str},dB a d src NC->src[j]? =some (some i)->NC[j]? =some x->d[i]? =some x/\a.names.lookup x=some .free
 | [],[],_,_,_,_,h,_=>by simp at h
 |none::r,_::n,0,_,_,_,h,_=>by simp at h
 |none::r,_::n,j+1,i,x,h,b,c=>dB.at (src:=r) (NC:=n) (j:=j) h (by simpa using b) (by simpa using c)
 |some k::r,y::n,0,i,x,h,b,c=>by
  have e:k=i:=by simpa using b
  have f:y=x:=by simpa using c
  subst e f;exact#[h.1,h.2.1]
 |some k::r,_::n,j+1,i,x,h,b,c=>dB.at (src:=r) (NC:=n) (j:=j) h.2.2 (by simpa using b) (by simpa using c)
 | [],_::_,_,_,_,h,_,_=>h.elim
 |none::_,[],_,_,_,h,_,_=>h.elim
 |some _::_,[],_,_,_,h,_,_=>h.elim
structure cC (X:Cx) (scope:Scope):Prop where
 kind:scope.kind= .function
 names:∀x∈scope.names,x.2= .local->scope.names.lookup x.1=some .local
 nocell:∀x∈scope.names,x.2≠ .cell
 free:∀x∈scope.names,x.2= .free->X.env.kindOf x.1=some .cell\/X.env.kindOf x.1=some .free
theorem jf{env:Env}:∀(names:List (Str×NameKind))(x:Str),
  (names.map λ(n,k)=>if (k==NameKind.free&&env.scope.kind== .function&&env.kindOf n==some .cell) then(n,NameKind.cell) else(n,k)).lookup x=
   (names.lookup x).map λk=>if (k==NameKind.free&&env.scope.kind== .function&&env.kindOf x==some .cell) then NameKind.cell else k
 | [],_=>rfl
 | (n,k)::r,x=>by
  have c:=jf (env:=env) r x;show bc x ((if (k==NameKind.free&&env.scope.kind== .function&&env.kindOf n==some .cell)=true then(n,NameKind.cell) else(n,k))::_)=_;cases b:x==n with
  |true=>
   have e:x=n:=by simpa using b
   subst e
   by_cases a:(k==NameKind.free&&env.scope.kind== .function&&env.kindOf x==some .cell)=true
   .rw[tz a,tX,tX]
    simp only[b];show some NameKind.cell=some (if _ then _ else _);rw[tz a]
   .rw[mo a,tX,tX]
    simp only[b];show some k=some (if _ then _ else _);rw[mo a]
  |false=>
   by_cases a:(k==NameKind.free&&env.scope.kind== .function&&env.kindOf n==some .cell)=true
   .rw[tz a];simp only[tX,b];exact c
   .rw[mo a];simp only[tX,b];exact c
def mem_lookup{names:List (Str×NameKind)}{x:Str}{k:NameKind}(h:names.lookup x=some k):(x,k)∈names:=aaB h
def c5(X:Cx)(a:Scope)(NC:List Str)(ex:List Addr)(s:Shared)(H:Hp):Cx:=
 {X with N:=NC,s₀:=s,H₀:=H,env:=compEnvC a (jk X.env a.names []) s.heap.objs.size X.env,outer:=X.stack,stack:=X.stack,ex:=ex,fn:=λ_=>false,pn:= [],xe:=λ_ _=>False}
section
variable {X:Cx} {pins:List (Addr×Obj)} {σ:St} {H:Hp} {s:Shared} {scope:Scope} {NC:List Str} {ex:List Addr} {src:List (Option Nat)}
theorem cC.cells(c:cC X scope)(ok:X.Ok):∀x∈scope.names,x.2= .free->∃c,X.env.cells.lookup x.1=some c:=λx a e=>ok.has x.1 (c.free x a e)
def cC.UD(c:cC X scope)(h:(compEnvC scope (jk X.env scope.names []) C X.env).kindOf x=some k)(i:k= .cell\/k= .free):scope.names.lookup x=some .free:=by
 have a:(relabel scope X.env).names.lookup x=some k:=h;unfold relabel at a;rw[jf] at a;cases e:scope.names.lookup x with
 |none=>rw[e] at a;cases a
 |some b=>
  have g:=c.nocell _ (mem_lookup e);rw[e] at a;have f:(if (b==NameKind.free&&X.env.scope.kind== .function&&X.env.kindOf x==some .cell) then NameKind.cell else b)=k:=FB a
  by_cases d:b= .free
  .rw[d]
  .have j:(b==NameKind.free)=false:=by simpa using d
   rw[j,y4,y4,mo eO] at f
   rcases i with z|z
   .rw[f] at g;exact absurd z g
   .rw[f] at d;exact absurd z d
def Mm(I:Inv X pins σ H s)(c:cC X scope)(f:∀b∈ex,fZ X pins H b)(g:∀b∈ex,b<s.heap.objs.size):(c5 X scope NC ex s H).Ok where
 mod:=I.ok.mod
 kind:=c.kind
 glob:=I.ok.glob
 blt:=I.ok.blt
 above:=bu _
 inj:=λx y d i j=>I.ok.inj x y d (fR _ _ (c.cells I.ok) (λ_ _ z=>by cases z) x d i) (fR _ _ (c.cells I.ok) (λ_ _ z=>by cases z) y d j)
 has:=λx k=>oY _ _ x (.inl (mem_lookup (by rcases k with h|h<;>exact c.UD h (by simp))))
 cab:=λ_ _ z=>by cases z
 hd:=I.ok.hd
 frames:=I.ok.frames
 stk:= .inl rfl
 exf:=λb a=>#[bO (g b a),λx d e=>(f b a).2.2.2.2.1 x d (fR _ _ (c.cells I.ok) (λ_ _ z=>by cases z) x d e)]
 bs:=I.bs
 bsz:=jr I.ok.bsz I.sz
 noex:=λb o e a=>by
  rcases(f b a).2.2.2.1 with z|z
  .exact I.ok.noex b o e z
  .exact absurd (fk (Fk e) (jr I.ok.bsz z)) (gq _)
 exfs:=λb a z=>(b8.mp (I.D9 b z)).elim (f b a).2.1 (f b a).2.2.1
 funs:=I.stack
 frf:=I.yM
theorem Aw{tk:Nat}(I:Inv X pins σ H s)(c:cC X scope)(A:dB scope X.N src NC)(E:∀b∈ex,fZ X pins H b)(F:∀b∈ex,b<s.heap.objs.size)
  (G:h.Ns s.heap.objs.size (λ_=>none)) (J:Heap.SameBut s.heap.objs.size (s.heap.push C) h):
  Inv (c5 X scope NC ex s H) [] (mS src σ) H {s with heap:=h,toks:=tk}:=by
 have f:∀b o,s.heap.get? b=some o->h.get? b=some o:=λb o e=>J.extBut b o (bO (Fk e)) (Da _ e);have t:∀x d,(jk X.env scope.names []).lookup x=some d->X.env.cells.lookup x=some d:=λx d=>fR _ _ (c.cells I.ok) (λ_ _ z=>by cases z) x d
 have a:∀d v,s.heap.IsCell d v->h.IsCell d v:=λd v #[o,L,k]=>#[o,f d o L,k];refine#[Mm I c E F,rfl,I.bare,Un.kept f,#[_,G,λj x v M O U=>?_],λx d e=>?_,I.hok.fresh (bu _),λx d e=>I.freeC x d (t x d e),λp P=>absurd (show p∈([]:List (Addr×Obj)) from P) (by simp),I.hok.kept f,?_]
 .have g:(mS src σ)[j]? =some (some v):=O
  unfold mS at g;rw[eQ] at g;cases w:src[j]? with
  |none=>rw[w] at g;cases g
  |some o=>
   rw[w] at g;cases o with
   |none=>cases g
   |some i=>
    have n:(σ[i]?).bind id=some v:=FB g
    have Q:σ[i]? =some (some v):=by
     cases q:σ[i]? with
     |none=>rw[q] at n;cases n
     |some z=>rw[q] at n;exact KB some n
    rfl';obtain⟨S,y⟩:=A.at w M;have B:=c.free _ (mem_lookup y) rfl;obtain⟨m,Z,T⟩:=I.loc;obtain⟨u,r,l⟩:=T i x v S Q (B.elim (λz=> .inr (.inl z)) (λz=> .inr (.inr z)));ac_rfl;refine#[u,r, .inr #[?_,?_]]
    .show(relabel scope X.env).names.lookup x=_\/(relabel scope X.env).names.lookup x=_
     unfold relabel;rw[jf,y]
     by_cases z:(NameKind.free==NameKind.free&&X.env.scope.kind== .function&&X.env.kindOf x==some .cell)=true
     .left;simp only[Option.map_some,z,aaC]
     .right;simp only[Option.map_some,z];rfl
    .obtain⟨d,k⟩:=oY (env:=X.env) scope.names [] x (.inl (mem_lookup y))
     exists d,k
     rcases l with ⟨l,_⟩ | ⟨_,d',e,z⟩
     .exfalso;rcases B with z|z<;>(rw[l] at z;cases z)
     .rw[t x d k] at e;cases e;exact a d _ z
 .obtain⟨v,z⟩:=I.cell x d (t x d e)
  exact#[v,a d v z]
 .show(mS src σ).length=NC.length
  unfold mS;rw[aV];exact A.len
def comp_back(I:Inv X pins σ H s)(p:∀b∈ex,fZ X pins H b)(J:Inv (c5 X scope NC ex s H) m l g c)
  (r:Heap.SameBut s.heap.objs.size c.heap i):Inv X pins σ g {c with heap:=i}:=by
 have h:∀b o,b≠s.heap.objs.size->c.heap.get? b=some o->i.get? b=some o:=λb o a e=>r.extBut b o a e;have ne:∀b o,s.heap.get? b=some o->b≠s.heap.objs.size:=λb o e=>bO (Fk e);have u:=J.base;refine I.He (ch:=ex) (show c.os=s.os from J.os) #[λb o e n a f=>h b o (ne b o e) (u.keep b o e n a f),λb o e n a f=>?_,u.free,λb o e f=>?_,u.tups,u.frzs,u.tbls] ?_ J.bare λb a=>?_
 .obtain⟨t,q⟩:=u.slot b o e n a f
  exact#[t,h b _ (ne b o e) q]
 .obtain⟨j,q⟩:=u.there b o e f
  exact#[j,h b j (ne b o e) q]
 .intro b o e
  have k:∀b o,g b=some o->b≠s.heap.objs.size:=λb o e z=>by
   have:=J.free
   rw[z] at e;have w:g s.heap.objs.size=none:=this;rw[w] at e;cases e
  refine(J.hok b o e).oK (λd v x q=>h d v ?_ q) (λ_ q=>q) λ_ _ q=>q
  rcases x with z|z
  .rw[z];exact k b o e
  .exact k d _ z
 .obtain⟨_,y,_,A,B,C⟩:=p b a
  exact#[A,y,B,C]
end
def m9(X:Cx)(b:List Expr)(t:TT):Prop:=
 ∀(a:List (Addr×Obj))(s:Shared)(d:St)(H:Hp)(Q:Bool->Hp->Prop),Inv X a d H s->t d H Q->
  wpAny (model X.prog X.w) X.A (forIn b true λc r=>if r=true then do let ok <-isTrue c X.env (eval c X.env);pure (ForInStep.yield ok) else pure (ForInStep.yield r)) (TP X a d Q) X.xe s
def Pb:TT:=λ_ H Q=>Q true H
def F2:m9 X [] Pb:=λ_ _ _ H _ I h=>wpAny_tests_nil #[H,I,h]
def OH(h:PT X c t):m9 X [c] t:=λa s b H Q I q=>wpAny_tests_one (h a s b H Q I q)
def Y6(J:It)(g:TG)(o:TT)(p:TE)(D:Addr)(Q:VK)(q:St)(H:Hp):Prop:=
 ∃W:Nat->Nat->St->Hp->Prop,(∃m,W 0 m q H)/\∀i m e a,W i m e a->
  (J.stop i a/\Q (.ref D) a)\/
  (J.go i a/\∃N:St->Hp->Prop,(∀f h,N f h->∃j,j<m/\W (i+1) j f h)/\∀x k,J.yld i a x k->g x e k λc r=>o c r λb l=>
   if b=true then p c l λv n=>∃d,n D=some (.lst d)/\d.length<sizeLine/\N c (upd n D (.lst (d++ [v]))) else N c l)
def O7(c:TI)(g:TG)(d:TT)(e:TE)(src:List (Option Nat)):TE:=λa H Q=>c a H λJ b=>∀D,b D=none->Y6 J g d e D Q (mS src a) (upd b D (.lst []))
section
variable {X:Cx} {elt iter tg:Expr} {ifs:List Expr} {scope:Scope} {pos:Pos} {wi:TI} {g:TG} {tt:TT} {te:TE} {src:List (Option Nat)} {NC:List Str}
theorem uZ{RR:Value->Addr->Result->Shared->Prop}{Q:VK}
  (hc:X.calm=true) (c:cC X scope) (fA:dB scope X.N src NC) (I2:Inv X j σ I B) (T:Turn X.prog X.w X.K tg J F it tn) (k4:tn 0 B.heap) (f2:∀b∈F,fZ X j I b)
  (hg:∀s H,PG (c5 X scope NC F s H) tg g) (ht:∀s H,m9 (c5 X scope NC F s H) ifs tt) (he:∀s H,PE (c5 X scope NC F s H) elt te)
  (hW:∀D,I D=none->∃W:Nat->Nat->St->Hp->Prop,(∃m,W 0 m (mS src σ) (upd I D (.lst [])))/\∀i m fw I,W i m fw I->
   (J.stop i I/\Q (.ref D) I)\/
   (J.go i I/\∃N:St->Hp->Prop,(∀G a,N G a->∃m',m'<m/\W (i+1) m' G a)/\∀x U,J.yld i I x U->g x fw U λfN H4=>tt fN H4 λb H5=>
    if b=true then te fN H5 λv H6=>∃ys,H6 D=some (.lst ys)/\ys.length<sizeLine/\N fN (upd H6 D (.lst (ys++ [v]))) else N fN H5))
  (T3:∀D C U G a M,Inv X j σ U C->(∀b∈F,fZ X j U b)->Inv (c5 X scope NC F C U) [] G a M->Q (.ref D) a->RR (.ref D) C.heap.objs.size (.ok .next) M):
  wpAny (model X.prog X.w) X.A (newList []) (λacc Gq=>wpAny (model X.prog X.w) X.A (newFunctionEnv scope X.env.globals (jk X.env scope.names []) [] X.env.qual none .none (some X.env)) (λnq yP=>
   codeAny (model X.prog X.w) X.A (.compStart (.ListComp elt [#[tg,iter,ifs,0]] scope pos) 0 (.ref it) acc {nq with scope:=relabel scope X.env}) (RR acc nq.locals) yP) E Gq) E B:=by
 rfl';obtain⟨W,⟨m0,w0⟩,turn⟩:=hW B.heap.objs.size I2.fresh;have I3:Inv X j σ (upd I B.heap.objs.size (.lst [])) {B with heap:=B.heap.push {cls:= .type "list",data:= .seq ([]:List Value).toArray}}:=I2.JP (its:= []) (t':=B.toks) .nil (cZ _)
 ac_rfl
 have Ld:∀b∈F,b<B.heap.objs.size:=λb l=>by
  obtain⟨o,e,_⟩:=T.obj _ _ k4 b l;exact Fk e
 have f3:∀b∈F,fZ X j (upd I B.heap.objs.size (.lst [])) b:=λb l=>#[by rw[aw (bO (Ld b l))];exact(f2 b l).1,(f2 b l).2]
 refine aar ?_
 suffices key:∀C:Shared,Inv X j σ (upd I B.heap.objs.size (.lst [])) C->(∀b o,B.heap.get? b=some o->C.heap.get? b=some o)->
   wpAny (model X.prog X.w) X.A (newFunctionEnv scope X.env.globals (jk X.env scope.names []) [] X.env.qual none .none (some X.env)) (λnq yP=>
    codeAny (model X.prog X.w) X.A (.compStart (.ListComp elt [#[tg,iter,ifs,0]] scope pos) 0 (.ref it) (.ref B.heap.objs.size) {nq with scope:=relabel scope X.env}) (RR (.ref B.heap.objs.size) nq.locals) yP) E C from
  key _ I3 λb o e=>Da _ e
 intro C I3 Vo;have vV:tn 0 C.heap:=T.keep _ _ _ k4 λb _ o e=>Vo b o e
 have Ia:∀b∈F,b<C.heap.objs.size:=λb l=>by
  obtain⟨o,e,_⟩:=T.obj _ _ vV b l;exact Fk e
 generalize hH3:upd I B.heap.objs.size (.lst [])=U at I3 f3 w0;refine wpAny_newFunctionEnv c.nocell (by intro y hy;simp at hy) (λh1 Ct Cu=>?_) c.kind
 have I4:=Aw (src:=src) (NC:=NC) (ex:=F) (tk:=C.toks+([]:List (Str×Value)).length) I3 c fA f3 Ia Ct Cu;have O3:tn 0 h1:=T.keep _ _ _ vV λb l o e=>Cu.extBut b o (bO (Ia b l)) (Da _ e);generalize L:c5 X scope NC F C U=k at I4
 have R:∀{a:Hp},(∀b∈F,a b=none)->∀b∈F,fZ k [] a b:=λ {a} hn b l=>by
  subst L;refine#[hn b l,bO (Ia b l),λz=>?_, .inl l,λx d e=>?_,λp hp=>absurd (show p∈([]:List (Addr×Obj)) from hp) (by simp)]
  .exact(I4.ok.exfs b l) z
  .exact(I4.ok.exf b l).2 x d e
 have Y:codeAny (model X.prog X.w) X.A (.compLoop (.ListComp elt [#[tg,iter,ifs,0]] scope pos) 0 (.ref it) (.ref B.heap.objs.size) k.env) (RR (.ref B.heap.objs.size) C.heap.objs.size)
   {C with heap:=h1,toks:=C.toks+([]:List (Str×Value)).length}:=by
  refine acH rfl (λn M=>∃i G a,Inv k [] G a M/\tn i M.heap/\(∀b∈F,a b=none)/\W i n G a) (λn M hI=>?_) m0 #[0,_,_,I4,O3,λb l=>(f3 b l).1,w0];obtain⟨i,G,a,I5,vW,zF,w5⟩:=hI;show wpAny _ X.A ((compTurn (.ListComp elt [#[tg,iter,ifs,0]] scope pos) 0 (.ref it) (.ref B.heap.objs.size) k.env).onRaise (λx=>do noteFrame x k.env;theTreesLotGoes x)) _ _ M
  refine wpAny_noted ?_;rw[compTurn_list]
  have kL:∀{α:Type}{t:Sem α}{Q:α->Shared->Prop}{E:Value->Shared->Prop}{s:Shared},wpAny (model k.prog k.w) k.A t Q k.xe s->wpAny (model X.prog X.w) X.A t Q E s:=λ {α t Q E s} h=>by
   subst L;exact wpAny_mono h (λ_ _ q=>q) λ_ _ f=>f.elim
  have K0:k.calm=true:=by subst L;exact hc
  have eP:k.prog=X.prog:=by subst L;rfl
  have ew:k.w=X.w:=by subst L;rfl
  have eK:k.K=X.K:=by subst L;rfl
  have eA:k.A=X.A:=by subst L;rfl
  have Ud:PG k tg g:=by subst L;exact hg _ _
  have Uq:m9 k ifs tt:=L▸ht _ _;have T9:PE k elt te:=L▸he _ _;refine ir (aav (ir ?_))
  rcases turn i n G a w5 with ⟨stop,qn⟩ | ⟨go,N,hN,step⟩
  .have hd:=T.done k eP ew eK K0 i [] M G a (notedBy (model X.prog X.w) X.A k.env λe M=>RR (.ref B.heap.objs.size) C.heap.objs.size (.error e) M) I5 (R zF) vW stop
   rw[eA] at hd;refine thn hd λr s6 O=>?_;obtain⟨hr,I6⟩:=O;subst hr;refine AC ?_;subst L;exact T3 _ C U G a s6 I3 f3 I6 qn
  .have hd:=T.item k eP ew eK K0 i [] M G a (notedBy (model X.prog X.w) X.A k.env λe M=>RR (.ref B.heap.objs.size) C.heap.objs.size (.error e) M) I5 (R zF) vW go
   rw[eA] at hd;refine thn hd λr s6 O=>?_;rfl';obtain⟨u,hr,h6⟩:=O;ac_rfl;subst hr;refine ir (thn h6 λ_ s7 O=>?_);rfl';obtain⟨x,H7,I7,r7,y7,yJ,MX⟩:=O;ac_rfl;have L4:=I7.pinned (R MX) (T.obj _ _ yJ)
   have again:∀{S:St}{Z:Hp}{s8:Shared},Inv k ([]++mw F s7.heap) S Z s8->N S Z->∃m,m<n/\∃i G a,Inv k [] G a s8/\tn i s8.heap/\(∀b∈F,a b=none)/\W i m G a:=λ {S Z s8} I8 n8=>by
    obtain⟨m',hm,w8⟩:=hN S Z n8;refine#[m',hm,i+1,S,Z,I8.jK,T.keep _ _ _ yJ λb l o e=>(I8.pin (b,o) (i9 _ (i9 _ (eN l e)))).1,λb l=>?_,w8];obtain⟨o,e,d⟩:=T.obj _ _ yJ b l;exact(I8.pin (b,o) (i9 _ (i9 _ (eN l e)))).2.1
   refine ir (kL (thn (Ud _ s7 G H7 x u _ L4 r7 (step x H7 y7)) λ_ s8 O=>?_));rfl';obtain⟨S,Z,I8,q8⟩:=O;ac_rfl;refine ir (kL (thn (Uq _ s8 S Z _ I8 q8) λb s9 O=>?_));obtain⟨H9,I9,q9⟩:=O;cases b with
   |false=>
    rw[mo eO] at q9;exact AC #[L▸rfl,again I9 q9]
   |true=>
    rw[tz rfl] at q9;refine ir (ir (kL (thn (T9 _ s9 S H9 _ I9 q9) λy Rt O=>?_)));rfl';obtain⟨v,Pw,SW,U3,ys,hD,hz,U0⟩:=O;ac_rfl;refine ir (kL (thn (me _ Rt S Pw (.ref B.heap.objs.size) [v] _ [y] (λ_ a=>N S a) SW rfl (.cons U3 .nil) #[_,ys,v,rfl,rfl,hD,hz,U0]) λ_ Ru O=>?_));rfl';obtain⟨_,SV,LZ,_,U2⟩:=O;ac_rfl;exact AC (AC #[L▸rfl,again LZ U2])
 subst L;exact acu Y (T.self _ 0 _ _ _ O3 Y)
def Ot(j:X.calm=true)(c:cC X scope)(k:dB scope X.N src NC)(l:PI X tg iter wi)
  (n:∀b s H,PG (c5 X scope NC b s H) tg g) (o:∀b s H,m9 (c5 X scope NC b s H) ifs tt) (p:∀b s H,PE (c5 X scope NC b s H) elt te)
  (r:∀x,foldedSetIterable iter X.env x=pure x:=by intro _;rfl):PE X (.ListComp elt [#[tg,iter,ifs,0]] scope pos) (O7 wi g tt te src):=by
 intro a s f H Q I h;rw[eval_ListComp];refine aaV (use:=none) rfl r (iK (c.cells I.ok)) c.kind c.names (thn (l a s f H _ I h) λv R t=>thn t λS U u=>?_);rfl';obtain⟨Z,d,tn,J,H2,rfl,z,T,B,E,F⟩:=u;ac_rfl;refine uZ (RR:=λe C=>compPost (model X.prog X.w) X.A X.xe none (EP X a f Q) e C) (Q:=Q) j c k z T B E (n d) (o d) (p d) F ?_;intro D s3 H3 az G s' L M i q;obtain⟨m,O,_⟩:=i.loc;exact#[m,O,λh' P=>#[.ref D,G,comp_back L M i P,rfl,q]]
def RE(b:TI)(g:TG)(c:TT)(d:TE)(src:List (Option Nat))(i:Nat):TS:=λD a H=>O7 b g c d src a H λv e=>D.nx (a.set i (some v)) e
def uL(hc:X.calm=true)(hN:X.N.Nodup)(ic:X.N[i]? =some x)(hx:Loc X.env.scope x)(c:cC X scope)(fA:dB scope X.N src NC)(hi:PI X tg iter wi)
  (hg:∀t s H,PG (c5 X scope NC t s H) tg g) (ht:∀t s H,m9 (c5 X scope NC t s H) ifs tt) (he:∀t s H,PE (c5 X scope NC t s H) elt te)
  (lU:swapsWith (.ListComp elt [#[tg,iter,ifs,0]] scope pos) (some (.Name x r)) S.line X.env=pure true)
  (hf:X.fn x=true\/X.env.scope.names.lookup x=some .local:=by subst_eqs)
  (hs:∀x,foldedSetIterable iter X.env x=pure x:=by intro _;rfl):PS X (.Assign [.Name x r] (.ListComp elt [#[tg,iter,ifs,0]] scope pos) S) (RE wi g tt te src i):=by
 intro f s u H D I h;rw[exec_Assign_Name_used _ _ _ _ lU];refine ir (aav (ir ?_));show wpAny _ X.A (do let _ <-comprehension (.ListComp elt [#[tg,iter,ifs,0]] scope pos) scope X.env _ (newList []) false (eval iter X.env) (some (assign (.Name x r) X.env))) _ _ s
 refine ir (wpAny_mono (aaV (use:=some (assign (.Name x r) X.env)) (Q:=λ_ j=>SP X f D .next j) rfl hs (iK (c.cells I.ok)) c.kind c.names
  (thn (hi f s u H _ I h) λv s1 h1=>thn h1 λK7 s2 h2=>?_)) (λ_ j hq=>AC (AC hq)) λ_ _ e=>e)
 rfl';obtain⟨it,F,tn,J,H2,rfl,I2,T,k4,f2,hW⟩:=h2;ac_rfl;refine uZ (RR:=λG C=>compPost (model X.prog X.w) X.A X.xe (some (assign (.Name x r) X.env)) (λ_ j=>SP X f D .next j) G C) (Q:=λv k=>D.nx (u.set i (some v)) k) hc c fA I2 T k4 f2 (hg F) (ht F) (he F) hW ?_;intro a l H3 az k j n f3 L q;obtain⟨m,hn,_⟩:=L.loc;have U:Inv X f u k j:=comp_back n f3 L (.refl ..);have Y:l.heap.objs.size≠X.env.locals:=abZ n.lt
 have nc:∀y d,X.env.cells.lookup y=some d->d≠l.heap.objs.size:=λy d e z=>by
  obtain⟨v,hv⟩:=n.cell y d e
  have:=hv.lt
  rw[z] at this;exact absurd this (gq _)
 have np:∀p∈X.pn++f,p.1≠l.heap.objs.size:=λp B z=>by
  have:=Fk (n.pin p B).1
  rw[z] at this;exact absurd this (gq _)
 rfl';obtain⟨M,es,ep,O,Z,rC⟩:=id hn;have WI:k l.heap.objs.size=none:=L.free;ac_rfl
 have IP:Inv X ((l.heap.objs.size,M)::f) u k j:=U.tj λp B=>by
  rcases b8.mp B with z|z
  .rw[z]
   exact#[O,WI,Y,n.SE (bu _),λv w=>by rw[Z] at w;cases w]
  .exact U.pin p (i9 _ z)
 refine wpAny_assign_Name (jJ (x:=x) IP hN ic hx (v:= .ref a) rfl (λs5 P=>?_) hf);have R:=(P.pin (l.heap.objs.size,M) (i9 _ dE)).1;refine#[m,#[M,es,ep,R,Z,rC],λh6 sb=>?_];have SX:Inv X f (u.set i (some (.ref a))) k s5:=P.tj λp B=>P.pin p (i9 _ (eM _ B));exact#[_,k,SX.turned (t':=s5.toks) (it:=l.heap.objs.size) (λb o hb e=>sb.extBut b o hb e) WI Y (.inr n.sz) nc np,q]
end
section
variable {X:Cx} {pins:List (Addr×Obj)} {σ:St} {H:Hp} {s:Shared} {h':Heap} {fp:List Addr}
def Inv.Gy{t':Nat}(I:Inv X pins σ H s)(d:∀b∈fp,fZ X pins H b)(k:∀b o,b∉fp->s.heap.get? b=some o->h'.get? b=some o):Inv X pins σ H {s with heap:=h',toks:=t'}:=by
 refine I.step (g':=s.gens) (d':=s.drawn) (ch:=fp) (λb g=>?_) (λb o _ _ a e _=>k b o a e) (λb o _ _ a e _=>#[o.slots,k b o a e]) (λ_ _ _ _ n=>n)
  (λb o a e=>#[o,k b o a e]) (λ_ _ e=>e) (λ_ _ _ e=>e) (λb y e=>#[#[],by rw[e];simp]) (λm h=>?_) (λb u e=>?_) I.bare
 .obtain⟨_,i,_,j,l,p⟩:=d b g
  exact#[j,i,l,p]
 .obtain⟨o,t,w,x,r⟩:=h
  exact#[o,t,w,k _ o (λz=>(d _ z).2.1 rfl) x,r]
 .have f:∀b u,H b=some u->b∉fp:=λb u e z=>by rw[(d b z).1] at e;cases e
  refine(I.hok b u e).oK (λc v a q=>k c v ?_ q) (λ_ q=>q) λ_ _ q=>q
  rcases a with z|z
  .rw[z];exact f b u e
  .exact f c _ z
def Inv.Ph(I:Inv X pins σ H s)(g:∀b∈fp,fZ X pins H b)(k:∀b o,b∉fp->s.heap.get? b=some o->h'.get? b=some o)(i:s.heap.objs.size<=t)
  (new:cn X.prog X.w (upd H t o) h' t o):Inv X pins σ (upd H t o) {s with heap:=h',toks:=t'}:=by
 have l:H t=none:=I.hok.fresh i;have d:∀b u,H b=some u->upd H t o b=some u:=λb u e=>by rw[aw (aC e l)];exact e
 refine I.step (g':=s.gens) (d':=s.drawn) (ch:=fp) (λb f=>?_) (λb o _ _ a e _=>k b o a e) (λb o _ _ a e _=>#[o.slots,k b o a e]) (λb o _ e n=>?_)
  (λb o a e=>#[o,k b o a e]) (λb G e=>d b _ e) (λb _ _ e=>d b _ e) (λb J e=>#[#[],by rw[d b _ e];simp]) (λm p=>?_) (λb u e=>?_) I.bare
 .obtain⟨_,x,_,y,A,B⟩:=g b f
  exact#[y,x,A,B]
 .rw[aw (bO (fk (Fk e) i))];exact n
 .obtain⟨o,C,E,F,r⟩:=p
  exact#[o,C,E,k _ o (λz=>(g _ z).2.1 rfl) F,r]
 .by_cases f:b=t
  .subst f
   rw[au] at e;cases FB e;exact new
  .rw[aw f] at e
   have j:∀b u,H b=some u->b∉fp:=λb u e z=>by rw[(g b z).1] at e;cases e
   refine(I.hok b u e).oK (λc v a q=>k c v ?_ q) (λh q=>d h _ q) λh _ q=>d h _ q
   rcases a with z|z
   .rw[z];exact j b u e
   .exact j c _ z
end
def SY(K:aj)(a:Addr):It:=
 #[λi H=>∃b x,cJ K H a b/\b[i]? =some x,λi H y c=>∃t x,y= .ref t/\H t=none/\c=upd H t (.tup [.int i,x])/\∀b,cJ K H a b->b[i]? =some x,λi H=>∃b,cJ K H a b/\b.length<=i]
def Fv(e:h.get? t=some {cls:= .type "tuple",data:= .seq [u,v].toArray}):IsTup h t [u,v].toArray:=#[_,e,rfl,_,rfl]
def IW{P:Program}{w:World}{K:aj}{Y:List Expr}{k1}{Z:Pos}(a e l:Addr)(ne:e≠l):
  Turn P w K (.Tuple Y k1 Z) (SY K a) [e,l] e (λi h=>(∃g,IsEnum h e l i g)/\h.IsListIter l a i) where
 mem:=by simp
 obj:=λi h st b f=>by
  obtain⟨⟨g,m⟩,o,A,c,d⟩:=st
  rcases b8.mp f with z|z
  .subst z
   exact#[_,m,λv w=>by cases w]
  .have B:b=l:=by simpa using z
   subst B;exact#[o,A,λv z=>by rw[d] at z;cases z]
 keep:=λi h t st k=>by
  obtain⟨⟨g,m⟩,k4⟩:=st;exact#[#[g,k e (by simp) _ m],k4.at λo q=>k l (by simp) o q]
 item:=by
  intro X C hw F R i j s S H E I r st G;rfl';subst C hw F;obtain⟨xs,x,y,L⟩:=G;obtain⟨M,N,p,hz⟩:=I.list y;obtain⟨u,hu,ru⟩:=N.get L;obtain⟨⟨g,m⟩,n⟩:=st;ac_rfl;refine wpAny_pyNext_enum_item m n p.isList (x:=u) (by simpa using hu) ne λt Ck W4 O aak kk=>?_
  have k2:∀b o,b∉ [e,l]->s.heap.get? b=some o->t.get? b=some o:=λb o f q=>kk b o (λz=>f (by simp[z])) (λz=>f (by simp[z])) q
  have I1:Inv X j S (upd H s.heap.objs.size (.tup [.int i,x])) {s with heap:=t,toks:=s.toks+1}:=
   I.Ph r k2 (bu _) #[by show 2<=sizeLine;decide,[.int i s.toks,u], .cons #[_,rfl] (.cons ru .nil),Fv O]
  refine#[_,rfl,wpAny_letOwnedTupleGo_enum Ck λh2 Q T=>?_]
  have lt:∀b∈ [e,l],b<s.heap.objs.size:=λb f=>by
   rcases b8.mp f with z|z
   .rw[z];exact Fk m
   .obtain⟨o,A,_⟩:=n
    have B:b=l:=by simpa using z
    rw[B];exact Fk A
  have U:∀b∈ [e,l],fZ X j (upd H s.heap.objs.size (.tup [.int i,x])) b:=λb f=>#[by rw[aw (bO (lt b f))];exact(r b f).1,(r b f).2]
  refine#[.ref s.heap.objs.size,_,I1.Gy (t':=s.toks+1) U (λb o f q=>T.extBut b o (λz=>f (by simp[z])) q),rfl,#[_,x,rfl,I.hok.fresh (bu _),rfl,λys hy=>by rw[I.AY hy y];exact L],#[#[u,?_],W4.extBut T.extBut (Ne.symm ne)],λb f=>(U b f).1]
  have z:((i+1:Nat):Int)=(i:Int)+1:=by lia
  rw[z];exact Q
 done:=by
  intro X C hw F R i j s S H E I r st G;rfl';subst C hw F;obtain⟨xs,y,L⟩:=G;obtain⟨M,N,p,hz⟩:=I.list y;have hl:=N.length;obtain⟨⟨g,m⟩,n⟩:=st;ac_rfl;exact wpAny_pyNext_enum_end (I.ok.hd R) m n p.isList (by simp;lia) λt eb=>#[rfl,I.Gy (t':=s.toks) r λb o f q=>eb b o (λz=>f (by simp[z])) q]
 self:=λ_ _ _ _ _ st h=>by
  obtain⟨⟨g,m⟩,_⟩:=st;exact wpAny_pyIter_enum m h
section
variable {X:Cx}
def Uw(K:aj)(c:TA):TI:=λd H R=>c d H λe b=>∃a,e= [.ref a]/\(∃f,b a=some (.lst f))/\R (SY K a) b
def Oy{k1}(v:Gl X "enumerate")(w:X.mg "enumerate"=none)(x:PA X [a] j)(y:starEach [a] X.env= [(false,eval a X.env)]:=by rfl):
  PI X (.Tuple r k1 t) (.Call (.Name "enumerate" p) [a] [] d) (Uw X.K j):=by
 intro f s A H R I h;refine Call_ (jx I v w boot_enumerate (UV (thn (x d f s A H _ I h) λQ c #[S,B,g,C,E]=>?_) y rfl));rfl';obtain⟨l,e,⟨U,G⟩,q⟩:=E;subst e;obtain⟨u,rfl,J⟩:=C.one;subst J;obtain⟨z,L,n,Y,k,e⟩:=g.vg G;ac_rfl;refine call_enumerate_1 e λZ m i fH M=>?_;refine wpAny_pyIter_enum m ?_;have N:c.heap.objs.size+1≠c.heap.objs.size:=Nat.succ_ne_self _;refine#[c.heap.objs.size+1,[c.heap.objs.size+1,c.heap.objs.size],_,_,B,rfl,g.kept (t':=c.toks) M,IW l _ _ N,#[#[_,m],i],λb O=>?_,q]
 have o:c.heap.objs.size<=b:=by
  rcases b8.mp O with z|z
  .rw[z];exact js _
  .have P:b=c.heap.objs.size:=by simpa using z
   rw[P];exact bu _
 exact g.MW o (g.hok.fresh o)
end
end L2
namespace Wb
abbrev W:=List (List Nat)
def row(w:W)(p:Nat):List Nat:=w.getD p []
inductive Reach (w:W):Nat->Nat->Prop
 |refl (p):Reach w p p
 |step {p q r}:Reach w p q->r∈row w q->Reach w p r
structure Good (w:W):Prop where
 rng:∀p q,q∈row w p->q<w.length
 irr:∀p,p∉row w p
 nod:∀p,(row w p).Nodup
 sym:∀p q,q∈row w p->p∈row w q
 con:∀p,p<w.length->Reach w 0 p
def bx(h:q∈row w p):p<w.length:=by
 apply FS;intro a;unfold row at h;rw[bG,iG (by lia)] at h
 simp at h
def tB(h:p<w.length):w[p]? =some (row w p):=by
 unfold row;rw[bG,dD h];rfl
def J5(h:w[p]? =some r):row w p=r:=by
 unfold row;rw[bG,h];rfl
def F7(h:w.length<=p):row w p= []:=by
 unfold row;rw[bG,iG h];rfl
def Reach.trans(h:Reach w p q)(a:Reach w q r):Reach w p r:=by
 induction a with
 |refl=>exact h
 |step _ b c=>exact .step c b
def Reach.symm(a:∀p q,q∈row w p->p∈row w q)(h:Reach w p q):Reach w q p:=by
 induction h with
 |refl=>exact .refl _
 |step _ b c=>exact(Reach.step (.refl _) (a _ _ b)).trans c
def Reach.mono{w a:W}(b:∀p q,q∈row w p->q∈row a p){p q:Nat}(h:Reach w p q):Reach a p q:=by
 induction h with
 |refl=>exact .refl _
 |step _ c d=>exact .step d (b _ _ c)
def ins{a:Type}(b:List a)(i:Nat)(x:a):List a:=b.take i++x::b.drop i
def um(a:List b)(i:Nat)(x:b):(ins a i x).Perm (x::a):=by
 unfold ins;have h:= @List.perm_middle _ x (a.take i) (a.drop i);rw[mT] at h;exact h
def ck:a∈ins b i x↔a=x\/a∈b:=by
 rw[(um b i x).mem_iff,b8]
def mj(h:a.Nodup)(c:x∉a):(ins a i x).Nodup:=by
 rw[(um a i x).nodup_iff,jq];exact#[c,h]
def Fs(a:List b)(i:Nat)(x:b):(ins a i x).length=a.length+1:=by
 rw[(um a i x).length_eq];rfl
def tE(h:p<w.length):row (w.set p r) x=if p=x then r else row w x:=by
 unfold row;rw[bG,kC]
 by_cases e:p=x
 .rw[tz e,tz e,tz h];rfl
 .rw[mo e,mo e,bG]
def LA:row (w++ [r]) x=if x=w.length then r else row w x:=by
 unfold row;rw[bG,abq]
 split
 .rw[mo (by lia),bG]
 .split
  .rename_i h e;subst e;simp
  .rename_i h e
   rw[bG,iG (by simp;lia),iG (by lia)]
def KR:Good [[]]:=by
 have a:∀p,row [[]] p= []:=λp=>by
  unfold row;cases p with
  |zero=>rfl
  |succ n=>simp
 refine#[λp q h=>?_,λp h=>?_,λp=>?_,λp q h=>?_,λp h=>?_]
 .rw[a] at h;cases h
 .rw[a] at h;cases h
 .rw[a];exact iH
 .rw[a] at h;cases h
 .have:p=0:=by simp at h;exact h
  subst this;exact .refl _
def leaf(w:W)(p i:Nat):W:=(w.set p (ins (row w p) i w.length))++ [[p]]
def fT(w:W)(p i:Nat):(leaf w p i).length=w.length+1:=by unfold leaf;simp
def lH{p i x:Nat}(h:p<w.length):row (leaf w p i) x=if x=w.length then[p] else if p=x then ins (row w p) i w.length else row w x:=by
 unfold leaf;rw[LA,iA,tE h]
def HA{p i:Nat}(g:Good w)(h:p<w.length):Good (leaf w p i):=by
 have b:=λx=>lH (i:=i) (x:=x) h;have d:∀x,w.length∉row w x:=λx a=>gq _ (g.rng _ _ a)
 have mono:∀x q,q∈row w x->q∈row (leaf w p i) x:=λx q c=>by
  have:=bx c
  rw[b,mo (by lia)]
  split
  .rename_i e;subst e;exact ck.mpr (.inr c)
  .exact c
 refine#[λx q a=>?_,λx a=>?_,λx=>?_,λx q a=>?_,λx a=>?_]
 .rw[b] at a;rw[fT]
  split at a
  .simp at a;lia
  .split at a
   .rcases ck.mp a with e|e
    .lia
    .have:=g.rng _ _ e;lia
   .have:=g.rng _ _ a;lia
 .rw[b] at a
  split at a
  .simp at a;lia
  .split at a
   .rcases ck.mp a with e|e
    .lia
    .rename_i f;subst f;exact g.irr _ e
   .exact g.irr _ a
 .rw[b];split
  .simp
  .split
   .exact mj (g.nod _) (d _)
   .exact g.nod _
 .rw[b] at a
  split at a
  .have e:q=p:=by simpa using a
   subst e
   rename_i e
   rw[b,mo (by lia),tz rfl,e]
   exact ck.mpr (.inl rfl)
  .split at a
   .rename_i e;subst e
    rcases ck.mp a with e|e
    .rw[b,tz e];simp
    .exact mono _ _ (g.sym _ _ e)
   .exact mono _ _ (g.sym _ _ a)
 .rw[fT] at a
  by_cases e:x=w.length
  .refine Reach.step ((g.con p h).mono mono) ?_
   rw[b,mo (by lia),tz rfl,e]
   exact ck.mpr (.inl rfl)
  .exact(g.con x (by lia)).mono mono
def tie(w:W)(p i u j:Nat):W:=(w.set p (ins (row w p) i u)).set u (ins (row w u) j p)
def fL(w:W)(p i u j:Nat):(tie w p i u j).length=w.length:=by unfold tie;simp
def n0{p i u j x:Nat}(a:p<w.length)(b:u<w.length):row (tie w p i u j) x=if u=x then ins (row w u) j p else if p=x then ins (row w p) i u else row w x:=by
 unfold tie;rw[tE (by simpa using b),tE a]
def KU{p i u j:Nat}(g:Good w)(l:p<w.length)(m:u<w.length)(ne:u≠p)(k:u∉row w p):Good (tie w p i u j):=by
 have b:=λx=>n0 (i:=i) (j:=j) (x:=x) l m;have d:p∉row w u:=λh=>k (g.sym _ _ h)
 have mono:∀x q,q∈row w x->q∈row (tie w p i u j) x:=λx q f=>by
  rw[b]
  split
  .rename_i e;subst e;exact ck.mpr (.inr f)
  .split
   .rename_i e;subst e;exact ck.mpr (.inr f)
   .exact f
 refine#[λx q a=>?_,λx a=>?_,λx=>?_,λx q a=>?_,λx a=>?_]
 .rw[b] at a;rw[fL]
  split at a
  .rcases ck.mp a with e|e
   .lia
   .exact g.rng _ _ e
  .split at a
   .rcases ck.mp a with e|e
    .lia
    .exact g.rng _ _ e
   .exact g.rng _ _ a
 .rw[b] at a
  split at a
  .rename_i c;subst c
   rcases ck.mp a with e|e
   .exact ne e
   .exact g.irr _ e
  .split at a
   .rename_i c;subst c
    rcases ck.mp a with e|e
    .exact ne e.symm
    .exact g.irr _ e
   .exact g.irr _ a
 .rw[b];split
  .exact mj (g.nod _) d
  .split
   .exact mj (g.nod _) k
   .exact g.nod _
 .rw[b] at a
  split at a
  .rename_i c;subst c
   rcases ck.mp a with e|e
   .subst e;rw[b,mo ne,tz rfl];exact ck.mpr (.inl rfl)
   .exact mono _ _ (g.sym _ _ e)
  .split at a
   .rename_i c;subst c
    rcases ck.mp a with e|e
    .subst e;rw[b,tz rfl];exact ck.mpr (.inl rfl)
    .exact mono _ _ (g.sym _ _ e)
   .exact mono _ _ (g.sym _ _ a)
 .rw[fL] at a;exact(g.con x a).mono mono
theorem good_ren(g:Good w)(l:j.length=w.length)(k:∀p,p<w.length->ord p<w.length)
  (inj:∀p q,p<w.length->q<w.length->ord p=ord q->p=q) (i:∀y,y<w.length->∃p,p<w.length/\ord p=y)
  (m:∀p,p<w.length->(row j (ord p)).Perm ((row w p).map ord)):Good j:=by
 have mem:∀p q,p<w.length->(q∈row j (ord p)↔∃a,a∈row w p/\ord a=q):=λp q d=>by
  rw[(m p d).mem_iff,dO]
 have reach:∀{p q},Reach w p q->Reach j (ord p) (ord q):=λ {p q} h=>by
  induction h with
  |refl=>exact .refl _
  |step _ n r=>exact .step r ((mem _ _ (bx n)).mpr #[_,n,rfl])
 refine#[λy q c=>?_,λy c=>?_,λy=>?_,λy q c=>?_,λy c=>?_]
 .obtain⟨p,d,rfl⟩:=i y (by have:=bx c;lia)
  obtain⟨a,f,rfl⟩:=(mem p q d).mp c;rw[l];exact k a (g.rng _ _ f)
 .obtain⟨p,d,rfl⟩:=i y (by have:=bx c;lia)
  obtain⟨a,f,e⟩:=(mem p _ d).mp c
  have:=inj a p (g.rng _ _ f) d e
  subst this;exact g.irr _ f
 .by_cases c:y<w.length
  .obtain⟨p,d,rfl⟩:=i y c
   rw[(m p d).nodup_iff];unfold dL;rw[j8];refine aaH ?_ (g.nod p);intro a b f s ne e;exact ne (inj a b (g.rng _ _ f) (g.rng _ _ s) e)
  .rw[F7 (by lia)];exact iH
 .obtain⟨p,d,rfl⟩:=i y (by have:=bx c;lia)
  obtain⟨a,f,rfl⟩:=(mem p q d).mp c;exact(mem a _ (g.rng _ _ f)).mpr #[p,g.sym _ _ f,rfl]
 .rw[l] at c
  obtain⟨p,d,rfl⟩:=i y c;obtain⟨z,t,u⟩:=i 0 (by lia)
  have o:=reach (((g.con z t).symm g.sym).trans (g.con p d));rw[u] at o;exact o
def ay(l:List Nat)(x:Nat):Nat:=l.getD ((l.idxOf x+1)%l.length) 0
def cp(w:W)(d:Nat×Nat):Nat×Nat:=(d.2,ay (row w d.2) d.1)
def ba(w:W)(d:Nat×Nat):Prop:=d.2∈row w d.1
def qX(h:x∈l):l[(l.idxOf x+1)%l.length]? =some (ay l x):=by
 have a:0<l.length:=Bk h;unfold ay;rw[bG,dD (tY _ a)];rfl
def j6(h:x∈l):ay l x∈l:=eF (qX h)
def NX(f:a<n)(g:b<n)(e:(a+1)%n=(b+1)%n):a=b:=by
 by_cases d:a+1=n
 .by_cases c:b+1=n
  .lia
  .rw[d,ab3,oX (by lia)] at e;lia
 .by_cases c:b+1=n
  .rw[c,ab3,oX (by lia)] at e;lia
  .rw[oX (by lia),oX (by lia)] at e;lia
def qY(g:l.Nodup)(a:x∈l)(b:y∈l)(e:ay l x=ay l y):x=y:=by
 have o:0<l.length:=Bk a;have c:=qX a;have h:=qX b;rw[e] at c;have d:=Kf.mpr a;have f:=Kf.mpr b;obtain⟨p,i⟩:=cX.mp c;obtain⟨r,j⟩:=cX.mp h;have q:=(List.getElem_inj g).mp (i.trans j.symm);have k:=NX d f q;have m:=Ew d;have n:=Ew f;rw[<-m,<-n];simp only[k]
def jF(g:Good w)(h:ba w d):ba w (cp w d):=j6 (g.sym _ _ h)
def yf(g:Good w)(h:ba w d)(c:ba w e)(q:cp w d=cp w e):d=e:=by
 have a:d.2=e.2:=KB Prod.fst q;have b:ay (row w d.2) d.1=ay (row w e.2) e.1:=KB Prod.snd q;rw[<-a] at b;have f:d.1∈row w d.2:=g.sym _ _ h;have i:e.1∈row w d.2:=by rw[a];exact g.sym _ _ c
 exact aaA (qY (g.nod _) f i b) a
def bB(w:W):List (Nat×Nat):=(aB w.length).flatMap λp=>(row w p).map λq=>(p,q)
def bw:d∈bB w↔ba w d:=by
 unfold bB ba;rw[List.mem_flatMap]
 constructor
 .rintro⟨p,_,h⟩
  obtain⟨q,a,rfl⟩:=dO.mp h;exact a
 .intro h
  exact#[d.1,gQ.mpr (bx h),dO.mpr #[d.2,h,rfl]]
theorem aT [DecidableEq b]:∀{l m:List b},l.Nodup->(∀x∈l,x∈m)->l.length<=m.length
 | [],_,_,_=>cZ _
 |a::r,m,g,h=>by
  have c:=jq.mp g;have d:=h a dE;have i:=aT (l:=r) (m:=m.erase a) c.2 λx f=>(List.mem_erase_of_ne (λ(e:x=a)=>c.1 (by rw[<-e];exact f))).mpr (h x (eM _ f))
  rw[List.length_erase_of_mem d] at i
  have:=Bk d
  simp only[cO];lia
def fg(g:Good w)(p:Nat):(row w p).length<=w.length:=by
 have:=aT (m:=aB w.length) (g.nod p) λx a=>gQ.mpr (g.rng _ _ a)
 simpa using this
theorem AG{f:b->List c}{k:Nat}:∀{l:List b},(∀x∈l,(f x).length<=k)->(l.flatMap f).length<=l.length*k
 | [],_=>by simp
 |a::r,h=>by
  have e:=AG (f:=f) (k:=k) (l:=r) λx d=>h x (eM _ d)
  have:=h a dE
  rw[Bn,dh,cO,Nat.succ_mul];lia
def iL(g:Good w):(bB w).length<=w.length*w.length:=by
 have:=AG (f:=λp=>(row w p).map λq=>(p,q)) (k:=w.length) (l:=aB w.length) λx _=>by rw[aV];exact fg g x
 rw[tW] at this;exact this
def bz(w:W):Nat->Nat×Nat->Nat×Nat
 |0,d=>d
 |n+1,d=>cp w (bz w n d)
theorem cL(g:Good w)(h:ba w d):∀n,ba w (bz w n d)
 |0=>h
 |n+1=>jF g (cL g h n)
theorem lA(m:Nat):∀n,bz w (n+m) d=bz w n (bz w m d)
 |0=>by rw[vE];rfl
 |n+1=>by rw[Nat.succ_add];show cp w (bz w (n+m) d)=cp w (bz w n (bz w m d));rw[lA m n]
theorem xR(g:Good w)(h:ba w d)(a:ba w e):∀n,bz w n d=bz w n e->d=e
 |0,q=>q
 |n+1,q=>xR g h a n (yf g (cL g h n) (cL g a n) q)
def walk(w:W)(d:Nat×Nat)(k:Nat):List (Nat×Nat):=(aB k).map λi=>bz w i d
def rg(w:W)(d:Nat×Nat)(k:Nat):walk w d (k+1)=walk w d k++ [bz w k d]:=by
 unfold walk;rw[aco,f6];rfl
def gO(w:W)(d:Nat×Nat)(k:Nat):(walk w d k).length=k:=by unfold walk;simp
def mG(g:Good w)(h:ba w d):∀e∈walk w d k,ba w e:=λe a=>by
 obtain⟨i,_,rfl⟩:=dO.mp a;exact cL g h i
def oQ(g:Good w)(h:ba w d)(a:∀j,0<j->j<k->bz w j d≠d):(walk w d k).Nodup:=by
 unfold walk dL;rw[j8];refine aaH ?_ aa7;intro i j f b lt e;have l:=gQ.mp b;have c:bz w i d=bz w i (bz w (j-i) d):=by rw[<-lA (j-i) i,show i+(j-i)=j by lia];exact e
 exact a (j-i) (by lia) (by lia) (xR g h (cL g h _) i c).symm
def yQ(g:Good w)(h:ba w d){k:Nat}(a:∀j,0<j->j<k->bz w j d≠d):k<=(bB w).length:=by
 have:=aT (m:=bB w) (oQ g h a) λe b=>bw.mpr (mG g h e b)
 rwa [gO] at this
def uY(g:Good w){S:Nat->Prop}(c:S 0)(d:∀p q,S p->q∈row w p->S q):∀p,p<w.length->S p:=λp e=>by
 have:∀{a b},Reach w a b->S a->S b:=λ {a b} h f=>by
  induction h with
  |refl=>exact f
  |step _ i j=>exact d _ _ j i
 exact this (g.con p e) c
def lexLe(a b:Nat×Nat):Prop:=a.1<b.1\/(a.1=b.1/\a.2<=b.2)
def uw(h:lexLe a b)(c:lexLe b a):a=b:=by
 unfold lexLe at h c;exact aaA (by lia) (by lia)
def jB(rows:Nat->List Nat)(n:Nat):List (Nat×Nat):=(aB n).flatMap λp=>((rows p).filter λq=>decide (p<q)).map λq=>(p,q)
theorem nZ{e c:Type}{R:c->c->Prop}{f:e->List c}:∀{l:List e},(∀x∈l,(f x).Pairwise R)->l.Pairwise (λa b=>∀x∈f a,∀y∈f b,R x y)->(l.flatMap f).Pairwise R
 | [],_,_=>List.Pairwise.nil
 |a::r,h,p=>by
  have g:=List.pairwise_cons.mp p;rw[Bn,vx];refine#[h a dE,nZ (λx d=>h x (eM _ d)) g.2,λx d y i=>?_];obtain⟨b,j,k⟩:=List.mem_flatMap.mp i;exact g.1 b j x d y k
end Wb
namespace L2
open PySem PySem.Spec PyProof.Rows
section
variable {X:Cx}
theorem Vals.ins{x:V}{u:Value}(r:RelV x u){a:List V}{b:List Value}(i:Nat)(h:Vals a b):Vals (Wb.ins a i x) (Wb.ins b i u):=(h.take i).append (.cons r (h.drop i))
def OM:V->List V->Hp->VK->Prop:=λx b H Q=>∃l a i y,x= .ref l/\b= [.int i,y]/\H l=some (.lst a)/\0<=i/\i<=a.length/\a.length<sizeLine/\Q .aY (upd H l (.lst (Wb.ins a i.toNat y)))
def yc:Py X "list.insert" OM:=by
 intro b s u H x w v A Q I f g h;rfl';obtain⟨l,C,i,y,rfl,rfl,c,E,G,J,q⟩:=h;subst f;obtain⟨L,d,rfl,⟨t,rfl⟩,k⟩:=g.two;obtain⟨z,a,n,r,M,e⟩:=I.vg c;have N:=l6;ac_rfl
 have m:¬(!Builtin.List.listFitsIndex i)=true:=by
  rw[fitsIndex_both (by lia) (by lia)]
  exact eO
 refine aa0 F.slot_list_insert #[_,e,rfl] F.entry_list_insert (F.args_list_insert_3 _ _ _) (AutoSeq1.list_insert_list_int_val_1 l a.toArray n i t d m (by rw[cY];lia)) #[e,?_]
 refine#[.aY,_,I.NV (its':=Wb.ins a i.toNat d) c e ?_ (r.ins k i.toNat) ?_,rfl,q]
 .have o:¬i<0:=by lia
  have p:min i.toNat a.length=i.toNat:=by lia
  simp only[o,On,cY,p];apply ab4.mp;unfold Wb.ins;simp;exact vw (by rw[oW];lia)
 .rw[Wb.Fs];lia
def Rm(K:aj):V->List V->Hp->VK->Prop:=λx b H Q=>∃(l:Addr)(a:List V)(y:V)(j:Nat)(z:V),x= .ref l/\b= [y]/\H l=some (.lst a)/\hV y=true/\a.all hV=true/\a[j]? =some z/\xq z y=true/\
 (∀(m:Nat) z,m<j->a[m]? =some z->xq z y=false)/\Q (.int j) H
def Lf:Py X "list.index" (Rm X.K):=by
 intro t s U H x Y v Z Q I A B h;rfl';obtain⟨l,d,y,j,z,rfl,rfl,E,G,fs,f,J,L,q⟩:=h;subst A;obtain⟨u,rfl,M⟩:=B.one;obtain⟨fH,a,n,r,hl,e⟩:=I.vg E;obtain⟨w,hw,N⟩:=r.get f;ac_rfl
 have O:j<a.toArray.size:=by
  obtain⟨b,_⟩:=cX.mp hw;simpa using b
 have flat:∀(m:Nat) z,d[m]? =some z->hV z=true:=λm z h=>(y3.mp fs) z (eF h)
 have g:a.toArray[j]=w:=by
  obtain⟨b,i⟩:=cX.mp hw;simpa using i
 have bZ:=l6
 have zK:j<d.length:=by
  obtain⟨b,_⟩:=cX.mp f;exact b
 refine aa0 F.slot_list_index #[_,e,rfl] F.entry_list_index (F.args_list_index_2 _ _) (SeqAt.list_indexAt l a.toArray n none #[] u (pK y) j O (by lia) ?_ ?_) #[e,λw hw=>jE M G r fs w (by simpa using hw),?_]
 .rw[g,v9 N (flat j z f)];exact J
 .intro m P R
  have HI:m<a.length:=by simpa using P
  obtain⟨c,k⟩:∃c,d[m]? =some c:=#[_,dD (by lia)]
  obtain⟨S,o,p⟩:=r.get k
  have T:a.toArray[m]=S:=by
   obtain⟨b,i⟩:=cX.mp o;simpa using i
  rw[T,v9 p (flat m c k)];exact L m c R k
 .exact#[.int j,H,I.tok _,#[_,rfl],q]
end
mutual
inductive Dp (K:aj) (H:Hp):V->PyData->Prop
 |aY:Dp K H .aY .none
 |bl (b:Bool):Dp K H (.bl b) (.bool b)
 |int (i:Int):Dp K H (.int i) (.int i)
 |str (x:Str) (h:PyData.strOk x=true):Dp K H (.str x) (.str x)
 |lst {a:Addr} {xs:List V} {ds:List PyData}:cJ K H a xs->jb K H xs ds->Dp K H (.ref a) (.list ds)
 |tup {a:Addr} {xs:List V} {ds:List PyData}:gT K H a xs->jb K H xs ds->Dp K H (.ref a) (.tuple ds)
inductive jb (K:aj) (H:Hp):List V->List PyData->Prop
 |nil:jb K H [] []
 |cons {v:V} {vs:List V} {d:PyData} {ds:List PyData}:Dp K H v d->jb K H vs ds->jb K H (v::vs) (d::ds)
end
section
variable {X:Cx} {pins:List (Addr×Obj)} {σ:St} {H:Hp} {s:Shared}
mutual
theorem Dp.reads(I:Inv X pins σ H s):∀{v:V}{d:PyData}{u:Value},Dp X.K H v d->RelV v u->(∃as,Reads s.heap u d as)/\d.canLay0=true
 |_,_,_, .aY,r=>by cases r;exact#[#[_, .none],rfl]
 |_,_,_, .bl b,r=>by cases r;exact#[#[_, .bool b],rfl]
 |_,_,_, .int i,r=>by obtain⟨t,rfl⟩:=r;exact#[#[_, .int i t],rfl]
 |_,_,_, .str x h,r=>by obtain⟨t,rfl⟩:=r;exact#[#[_, .str x t],by simpa [PyData.canLay0] using h]
 |_,_,_, .lst h a,r=>by
  cases r;obtain⟨its,rv,pl,hz⟩:=I.list h;obtain⟨⟨as,ra⟩,c⟩:=jb.reads I a rv;obtain⟨o,ho,hc,n,hd⟩:=pl.isList;exact#[#[_, .list ho hc hd (by simpa using ra)],by simpa [PyData.canLay0] using c]
 |_,_,_, .tup h a,r=>by
  cases r;obtain⟨its,rv,pl,hz⟩:=I.tuple h;obtain⟨⟨as,ra⟩,c⟩:=jb.reads I a rv;obtain⟨o,ho,hc,n,hd⟩:=pl;exact#[#[_, .tuple ho hc hd (by simpa using ra)],by simpa [PyData.canLay0] using c]
theorem jb.reads(I:Inv X pins σ H s):∀{vs:List V}{ds:List PyData}{us:List Value},jb X.K H vs ds->Vals vs us->(∃as,ReadsAll s.heap us ds as)/\PyData.canLayAll0 ds=true
 |_,_,_, .nil, .nil=>#[#[_, .nil],by simp[PyData.canLayAll0]]
 |_,_,_, .cons a as, .cons r rs=>by
  obtain⟨⟨x,h1⟩,c1⟩:=Dp.reads I a r;obtain⟨⟨y,h2⟩,c2⟩:=jb.reads I as rs;exact#[#[_, .cons h1 h2],by simp[PyData.canLayAll0,c1,c2]]
end
end
section
variable {X:Cx}
def Yb(K:aj):R2:=λx y H Q=>∃d e,Dp K H x d/\Dp K H y e/\d.depth<=64/\Q (.bl (PyData.eqv d e)) H
def Ye(K:aj):R2:=λx y H Q=>∃d e,Dp K H x d/\Dp K H y e/\d.depth<=64/\Q (.bl (!PyData.eqv d e)) H
def QU(n:X.A.units+64<cLine):OpR X (compareOp .Eq) (Yb X.K):=by
 intro a s o H x y v u Q I b c h;rfl';obtain⟨d,e,g,i,r,q⟩:=h;obtain⟨⟨t,j⟩,k⟩:=g.reads I b;obtain⟨⟨bs,l⟩,m⟩:=i.reads I c;ac_rfl;exact SeqAt.compareEq_reads j l k m (by have:=Nat.min_le_left d.depth e.depth;lia) #[.bl _,H,I,rfl,q]
def QY(n:X.A.units+64<cLine):OpR X (compareOp .NotEq) (Ye X.K):=by
 intro a s o H x y v u Q I b c h;rfl';obtain⟨d,e,g,i,r,q⟩:=h;obtain⟨⟨t,j⟩,k⟩:=g.reads I b;obtain⟨⟨bs,l⟩,m⟩:=i.reads I c;ac_rfl;exact SeqAt.compareNe_reads j l k m (by have:=Nat.min_le_left d.depth e.depth;lia) #[.bl _,H,I,rfl,q]
end
def nD(n:Nat):PyData:= .int n
def tu(r:List Nat):PyData:= .list (r.map nD)
theorem u7{e:Type}{f:e->PyData}(g:∀a b,PyData.eqv (f a) (f b)=true↔a=b):∀c d:List e,PyData.eqvAll (c.map f) (d.map f)=true↔c=d
 | [],[]=>by simp[PyData.eqvAll]
 | [],_::_=>by simp[PyData.eqvAll]
 |_::_,[]=>by simp[PyData.eqvAll]
 |a::c,b::d=>by
  have h:=u7 g c d;simp[PyData.eqvAll,g,h]
def Qc(a b:Nat):PyData.eqv (nD a) (nD b)=true↔a=b:=by
 simp[nD,PyData.eqv];lia
def AD(a b:List Nat):PyData.eqv (tu a) (tu b)=true↔a=b:=by
 unfold tu;rw[PyData.eqv];exact u7 Qc a b
theorem pY{f:c->PyData}{k:Nat}(d:∀a,(f a).depth<=k):∀b:List c,PyData.depthAll (b.map f)<=k
 | []=>by simp[PyData.depthAll]
 |a::b=>by
  have:=d a
  have e:=pY d b;simp[PyData.depthAll];lia
def u5(a:List Nat):(tu a).depth<=2:=by
 unfold tu;rw[PyData.depth]
 have:=pY (f:=nD) (k:=1) (λn=>by simp[nD,PyData.depth]) a
 lia
end L2
namespace L2
open PySem PySem.Spec PyProof.Rows
theorem Vals.of_get:∀{a:List V}{b:List Value},a.length=b.length->(∀(k:Nat) x u,a[k]? =some x->b[k]? =some u->RelV x u)->Vals a b
 | [],[],_,_=> .nil
 | [],_::_,h,_=>by simp at h
 |_::_,[],h,_=>by simp at h
 |x::a,u::b,h,r=> .cons (r 0 x u rfl rfl) (Vals.of_get (by simpa using h) λk y w c d=>r (k+1) y w (by simpa using c) (by simpa using d))
section
variable {X:Cx}
def BH:CallR X (.builtin "isinstance") (λa H Q=>∃(x:V)(n:String)(t:Value)(b:Bool),a= [x, .ty n]/\kg X.K H x t/\ac X.K t (.type n)=some b/\Q (.bl b) H):=by
 intro c s k H a l Q I d h;rfl';obtain⟨x,n,t,b,rfl,g,e,q⟩:=h;obtain⟨o,p,rfl,i,j⟩:=d.two;subst j;ac_rfl;exact HU I i g e λr=>#[.bl b,H,I.tok _,rfl,q]
def zv:CallR X (.builtin "sorted") (λf H Q=>∃(p:Addr)(c:List Int),f= [.ref p]/\cJ X.K H p (c.map V.int)/\c.length<64/\∀(q:Addr)(a:List Int),H q=none->a.Perm c->a.Pairwise (·<=·)->Q (.ref q) (upd H q (.lst (a.map V.int)))):=by
 intro g s z H f A Q I j h;rfl';obtain⟨p,c,rfl,l,C,q⟩:=h;obtain⟨u,rfl,m⟩:=j.one;subst m;obtain⟨d,r,pl,_⟩:=I.list l;have n:=r.length;rw[aV] at n;ac_rfl;refine sorted_ints pl.isList (intsAre_of r) (by lia) λout a t i v=>?_
 obtain⟨e,w⟩:=acI s.heap d out;have x:H (s.heap.objs.size+1)=none:=I.hok.fresh (js _);have E:=i.length_eq;have F:64<=sizeLine:=by decide
 refine#[.ref (s.heap.objs.size+1),_,I.laid (t':=s.toks) (λb o y=>acB y) (js _) (o:= .lst (a.map V.int)) #[by rw[aV];lia,out.toList,e,qZ t,by simpa using w],rfl,q _ a x i v]
end
theorem wN(b g h k f:Expr)(i l:List Expr)(a:Scope)(d:Pos)(j e:Value)(env:Env):
  compTurn (.ListComp b [#[g,h,i,0],#[k,f,l,0]] a d) 0 j e env=(do
   standAt h.pos
   match <-pyNext j with
   |none=>pure (.done .next)
   |some v=>
    letOwnedTupleGo g j v
    assign g env v
    let ok <-forIn i true λc r=>if r=true then do let ok <-isTrue c env (eval c env);pure (ForInStep.yield ok) else pure (ForInStep.yield r)
    if ok=true then
     let x <-eval f env
     standAt f.pos
     let x <-foldedSetIterable f env x
     let m <-holding [x] (pyIter x)
     let _ <-runOwn (.compStart (.ListComp b [#[g,h,i,0],#[k,f,l,0]] a d) 1 m e env) env
     again (.compLoop (.ListComp b [#[g,h,i,0],#[k,f,l,0]] a d) 0 j e env)
    else again (.compLoop (.ListComp b [#[g,h,i,0],#[k,f,l,0]] a d) 0 j e env)):=by rfl
theorem wO(b j k f h:Expr)(l i:List Expr)(a:Scope)(e:Pos)(g d:Value)(env:Env):
  compTurn (.ListComp b [#[j,k,l,0],#[f,h,i,0]] a e) 1 g d env=(do
   standAt h.pos
   match <-pyNext g with
   |none=>pure (.done .next)
   |some v=>
    letOwnedTupleGo f g v
    assign f env v
    let ok <-forIn i true λc r=>if r=true then do let ok <-isTrue c env (eval c env);pure (ForInStep.yield ok) else pure (ForInStep.yield r)
    if ok=true then
     (do let _ <-call (.builtin "list.append") [d,<-eval b env])
     again (.compLoop (.ListComp b [#[j,k,l,0],#[f,h,i,0]] a e) 1 g d env)
    else again (.compLoop (.ListComp b [#[j,k,l,0],#[f,h,i,0]] a e) 1 g d env)):=by rfl
section
variable {X XC:Cx} {elt i0 t0 i1 t1:Expr} {f0 f1:List Expr} {scope:Scope} {pos:Pos} {wi gH:TI} {g g1:TG} {tt fj:TT} {te:TE} {src:List (Option Nat)} {NC:List Str}
theorem vJ{b a:Value}{env:Env}{R:Result->Shared->Prop}{s:Shared}{A:Around}
  (c:codeAny (model X.prog X.w) A (.compLoop (.ListComp elt [#[t0,i0,f0,0],#[t1,i1,f1,0]] scope pos) 1 b a env) R s)
  (d:∀(Q:Value->Shared->Prop)(E:Value->Shared->Prop),Q b s->wpAny (model X.prog X.w) A (pyIter b) Q E s):
  codeAny (model X.prog X.w) A (.compStart (.ListComp elt [#[t0,i0,f0,0],#[t1,i1,f1,0]] scope pos) 1 b a env) R s:=by
 refine codeAny_of_tree ?_;refine wpAny_notedAt ?_;unfold compStart;refine wpAny_bind (wpAny_askSetting (wpAny_ite ?_))
 split
 .first
   |exact wpAny_bind (wpAny_pure (wpAny_pure #[rfl,c]))
   |exact wpAny_pure #[rfl,c]
 .refine wpAny_bind (wpAny_rule ?_)
  exact wpAny_bind (wpAny_standAt (wpAny_bind (d _ _ (wpAny_pure #[rfl,c]))))
theorem EY{a:List (Addr×Obj)}{s:Shared}{σ:St}{H:Hp}{g D:Addr}{F:List Addr}{tn:Nat->Heap->Prop}{J:It}{R:Result->Shared->Prop}{N:St->Hp->Prop}
  (Qs:XC.xe=λ_ _=>False) (hc:XC.calm=true) (I:Inv XC a σ H s) (T:Turn XC.prog XC.w XC.K t1 J F g tn) (st:tn 0 s.heap) (f2:∀b∈F,fZ XC a H b)
  (hg:PG XC t1 g1) (ht:m9 XC f1 fj) (he:PE XC elt te)
  (hW:∃W:Nat->Nat->St->Hp->Prop,(∃m,W 0 m σ H)/\∀i m fw O,W i m fw O->(J.stop i O/\N fw O)\/
   (J.go i O/\∃L:St->Hp->Prop,(∀j c,L j c->∃m',m'<m/\W (i+1) m' j c)/\∀x H3,J.yld i O x H3->g1 x fw H3 λfN H4=>fj fN H4 λb H5=>
    if b=true then te fN H5 λv H6=>∃P,H6 D=some (.lst P)/\P.length<sizeLine/\L fN (upd H6 D (.lst (P++ [v]))) else L fN H5))
  (hR:∀j c B,Inv XC a j c B->N j c->R (.ok .next) B):
  codeAny (model XC.prog XC.w) XC.A (.compStart (.ListComp elt [#[t0,i0,f0,0],#[t1,i1,f1,0]] scope pos) 1 (.ref g) (.ref D) XC.env) R s:=by
 obtain⟨W,⟨m0,w0⟩,S⟩:=hW
 have kL:∀{α:Type}{t:Sem α}{Q:α->Shared->Prop}{E:Value->Shared->Prop}{s:Shared},wpAny (model XC.prog XC.w) XC.A t Q XC.xe s->wpAny (model XC.prog XC.w) XC.A t Q E s:=λ {α t Q E s} h=>
  wpAny_mono h (λ_ _ q=>q) λ_ _ f=>by rw[Qs] at f;exact f.elim
 have l:∀{c:Hp},(∀b∈F,c b=none)->∀b∈F,fZ XC a c b:=λhn b C=>#[hn b C,(f2 b C).2]
 have U:codeAny (model XC.prog XC.w) XC.A (.compLoop (.ListComp elt [#[t0,i0,f0,0],#[t1,i1,f1,0]] scope pos) 1 (.ref g) (.ref D) XC.env) R s:=by
  refine acH rfl (λn B=>∃i j c,Inv XC a j c B/\tn i B.heap/\(∀b∈F,c b=none)/\W i n j c) (λn B hI=>?_) m0 #[0,σ,H,I,st,λb C=>(f2 b C).1,w0];rfl';obtain⟨i,j,c,I5,vW,zF,w5⟩:=hI;ac_rfl;show wpAny _ XC.A ((compTurn (.ListComp elt [#[t0,i0,f0,0],#[t1,i1,f1,0]] scope pos) 1 (.ref g) (.ref D) XC.env).onRaise (λx=>do noteFrame x XC.env;theTreesLotGoes x)) _ _ B
  refine wpAny_noted ?_;rw[wO];refine ir (aav (ir ?_))
  rcases S i n j c w5 with ⟨stop,qn⟩ | ⟨go,L,hN,step⟩
  .refine thn (T.done XC rfl rfl rfl hc i a B j c _ I5 (l zF) vW stop) λr s6 k=>?_
   obtain⟨hr,I6⟩:=k;subst hr;exact AC (hR j c s6 I6 qn)
  .refine thn (T.item XC rfl rfl rfl hc i a B j c _ I5 (l zF) vW go) λr s6 k=>?_
   rfl';obtain⟨u,hr,h6⟩:=k;ac_rfl;subst hr;refine ir (thn h6 λ_ s7 k=>?_);rfl';obtain⟨x,H7,I7,r7,y7,yJ,MX⟩:=k;ac_rfl;have L4:=I7.pinned (l MX) (T.obj _ _ yJ)
   have nextT:∀{z:St}{G:Hp}{M:Shared},Inv XC (a++mw F s7.heap) z G M->L z G->∃m,m<n/\∃i j c,Inv XC a j c M/\tn i M.heap/\(∀b∈F,c b=none)/\W i m j c:=λ {z G M} Z n8=>by
    obtain⟨m',hm,w8⟩:=hN z G n8;refine#[m',hm,i+1,z,G,Z.jK,T.keep _ _ _ yJ λb C o e=>(Z.pin (b,o) (i9 _ (i9 _ (eN C e)))).1,λb C=>?_,w8];obtain⟨o,e,d⟩:=T.obj _ _ yJ b C;exact(Z.pin (b,o) (i9 _ (i9 _ (eN C e)))).2.1
   refine ir (kL (thn (hg _ s7 j H7 x u _ L4 r7 (step x H7 y7)) λ_ M k=>?_));rfl';obtain⟨z,G,Z,q8⟩:=k;ac_rfl;refine ir (kL (thn (ht _ M z G _ Z q8) λb s9 k=>?_));obtain⟨H9,I9,q9⟩:=k;cases b with
   |false=>
    rw[mo eO] at q9;exact AC #[rfl,nextT I9 q9]
   |true=>
    rw[tz rfl] at q9;refine ir (ir (kL (thn (he _ s9 z H9 _ I9 q9) λy Rt k=>?_)));rfl';obtain⟨v,Pw,SW,U3,P,hD,hz,U0⟩:=k;ac_rfl;refine ir (kL (thn (me _ Rt z Pw (.ref D) [v] _ [y] (λ_ c=>L z c) SW rfl (.cons U3 .nil) #[_,P,v,rfl,rfl,hD,hz,U0]) λ_ Ru k=>?_));rfl';obtain⟨_,SV,LZ,_,U2⟩:=k;ac_rfl;exact AC (AC #[rfl,nextT LZ U2])
 exact vJ (X:=XC) U λQ E q=>T.self _ 0 _ _ _ st q
def tIn(p:TG)(q:TT)(r:TE)(D:Addr)(J:It)(N:St->Hp->Prop):St->Hp->Prop:=λs H=>
 ∃W:Nat->Nat->St->Hp->Prop,(∃m,W 0 m s H)/\∀i m d a,W i m d a->(J.stop i a/\N d a)\/
  (J.go i a/\∃e:St->Hp->Prop,(∀h j,e h j->∃k,k<m/\W (i+1) k h j)/\∀x l,J.yld i a x l->p x d l λc t=>q c t λb n=>
   if b=true then r c n λv o=>∃f,o D=some (.lst f)/\f.length<sizeLine/\e c (upd o D (.lst (f++ [v]))) else e c n)
def SQ(g:TG)(l:TT)(n:TI)(o:TG)(p:TT)(q:TE)(D:Addr)(J:It)(Q:VK)(r:St)(H:Hp):Prop:=
 ∃W:Nat->Nat->St->Hp->Prop,(∃m,W 0 m r H)/\∀i m d a,W i m d a->
  (J.stop i a/\Q (.ref D) a)\/
  (J.go i a/\∃N:St->Hp->Prop,(∀e f,N e f->∃h,h<m/\W (i+1) h e f)/\∀x j,J.yld i a x j->g x d j λc s=>l c s λb k=>
   if b=true then n c k λt u=>tIn o p q D t N c u else N c k)
def SN(c:TI)(g:TG)(d:TT)(e:TI)(f:TG)(h:TT)(i:TE)(src:List (Option Nat)):TE:=λa H Q=>c a H λJ b=>∀D,b D=none->SQ g d e f h i D J Q (mS src a) (upd b D (.lst []))
theorem BO{j:List (Addr×Obj)}{σ:St}{l:Shared}{P:Hp}{it:Addr}{F:List Addr}{Z:Nat->Heap->Prop}{J:It}{RR:Value->Addr->Result->Shared->Prop}{E:Value->Shared->Prop}{Q:VK}
  (hc:X.calm=true) (c:cC X scope) (fA:dB scope X.N src NC) (I2:Inv X j σ P l) (T:Turn X.prog X.w X.K t0 J F it Z) (k4:Z 0 l.heap) (f2:∀b∈F,fZ X j P b)
  (hg:∀ex s H,PG (c5 X scope NC ex s H) t0 g) (ht:∀ex s H,m9 (c5 X scope NC ex s H) f0 tt) (qG:∀ex s H,PI (c5 X scope NC ex s H) t1 i1 gH) (Nl:∀ex s H,PG (c5 X scope NC ex s H) t1 g1)
  (NA:∀ex s H,m9 (c5 X scope NC ex s H) f1 fj) (he:∀ex s H,PE (c5 X scope NC ex s H) elt te) (xM:∀env x,foldedSetIterable i1 env x=pure x)
  (hW:∀D,P D=none->SQ g tt gH g1 fj te D J Q (mS src σ) (upd P D (.lst [])))
  (T3:∀D B H3 G v I,Inv X j σ H3 B->(∀b∈F,fZ X j H3 b)->Inv (c5 X scope NC F B H3) [] G v I->Q (.ref D) v->RR (.ref D) B.heap.objs.size (.ok .next) I):
  wpAny (model X.prog X.w) X.A (newList []) (λacc Gq=>wpAny (model X.prog X.w) X.A (newFunctionEnv scope X.env.globals (jk X.env scope.names []) [] X.env.qual none .none (some X.env)) (λnq yP=>
   codeAny (model X.prog X.w) X.A (.compStart (.ListComp elt [#[t0,i0,f0,0],#[t1,i1,f1,0]] scope pos) 0 (.ref it) acc {nq with scope:=relabel scope X.env}) (RR acc nq.locals) yP) E Gq) E l:=by
 rfl';obtain⟨W,⟨m0,w0⟩,turn⟩:=hW l.heap.objs.size I2.fresh;have I3:Inv X j σ (upd P l.heap.objs.size (.lst [])) {l with heap:=l.heap.push {cls:= .type "list",data:= .seq ([]:List Value).toArray}}:=I2.JP (its:= []) (t':=l.toks) .nil (cZ _)
 ac_rfl
 have Ld:∀b∈F,b<l.heap.objs.size:=λb k=>by
  obtain⟨o,e,_⟩:=T.obj _ _ k4 b k;exact Fk e
 have f3:∀b∈F,fZ X j (upd P l.heap.objs.size (.lst [])) b:=λb k=>#[by rw[aw (bO (Ld b k))];exact(f2 b k).1,(f2 b k).2]
 refine aar ?_
 suffices key:∀B:Shared,Inv X j σ (upd P l.heap.objs.size (.lst [])) B->(∀b o,l.heap.get? b=some o->B.heap.get? b=some o)->
   wpAny (model X.prog X.w) X.A (newFunctionEnv scope X.env.globals (jk X.env scope.names []) [] X.env.qual none .none (some X.env)) (λnq yP=>
    codeAny (model X.prog X.w) X.A (.compStart (.ListComp elt [#[t0,i0,f0,0],#[t1,i1,f1,0]] scope pos) 0 (.ref it) (.ref l.heap.objs.size) {nq with scope:=relabel scope X.env}) (RR (.ref l.heap.objs.size) nq.locals) yP) E B from
  key _ I3 λb o e=>Da _ e
 intro B I3 Vo;have vV:Z 0 B.heap:=T.keep _ _ _ k4 λb _ o e=>Vo b o e
 have Ia:∀b∈F,b<B.heap.objs.size:=λb k=>by
  obtain⟨o,e,_⟩:=T.obj _ _ vV b k;exact Fk e
 generalize hH3:upd P l.heap.objs.size (.lst [])=H3 at I3 f3 w0;refine wpAny_newFunctionEnv c.nocell (by intro y hy;simp at hy) (λh1 Ct Cu=>?_) c.kind
 have I4:=Aw (src:=src) (NC:=NC) (ex:=F) (tk:=B.toks+([]:List (Str×Value)).length) I3 c fA f3 Ia Ct Cu;have O3:Z 0 h1:=T.keep _ _ _ vV λb k o e=>Cu.extBut b o (bO (Ia b k)) (Da _ e);generalize C:c5 X scope NC F B H3=a at I4
 have L:∀{v:Hp},(∀b∈F,v b=none)->∀b∈F,fZ a [] v b:=λ {v} hn b k=>by
  subst C;refine#[hn b k,bO (Ia b k),λz=>?_, .inl k,λx d e=>?_,λp hp=>absurd (show p∈([]:List (Addr×Obj)) from hp) (by simp)]
  .exact(I4.ok.exfs b k) z
  .exact(I4.ok.exf b k).2 x d e
 have K0:a.calm=true:=by subst C;exact hc
 have eP:a.prog=X.prog:=by subst C;rfl
 have ew:a.w=X.w:=by subst C;rfl
 have eK:a.K=X.K:=by subst C;rfl
 have eA:a.A=X.A:=by subst C;rfl
 have Qs:a.xe=λ_ _=>False:=by subst C;rfl
 have Ud:PG a t0 g:=by subst C;exact hg _ _ _
 have Uq:m9 a f0 tt:=C▸ht _ _ _;have hiC:PI a t1 i1 gH:=C▸qG _ _ _;have WZ:PG a t1 g1:=C▸Nl _ _ _;have Xo:m9 a f1 fj:=C▸NA _ _ _;have T9:PE a elt te:=C▸he _ _ _
 have kL:∀{α:Type}{t:Sem α}{Q:α->Shared->Prop}{E:Value->Shared->Prop}{s:Shared},wpAny (model a.prog a.w) a.A t Q a.xe s->wpAny (model X.prog X.w) X.A t Q E s:=λ {α t Q E s} h=>by
  rw[<-eP,<-ew,<-eA];exact wpAny_mono h (λ_ _ q=>q) λ_ _ f=>by rw[Qs] at f;exact f.elim
 have S:codeAny (model X.prog X.w) X.A (.compLoop (.ListComp elt [#[t0,i0,f0,0],#[t1,i1,f1,0]] scope pos) 0 (.ref it) (.ref l.heap.objs.size) a.env) (RR (.ref l.heap.objs.size) B.heap.objs.size)
   {B with heap:=h1,toks:=B.toks+([]:List (Str×Value)).length}:=by
  refine acH rfl (λn I=>∃i G v,Inv a [] G v I/\Z i I.heap/\(∀b∈F,v b=none)/\W i n G v) (λn I hI=>?_) m0 #[0,_,_,I4,O3,λb k=>(f3 b k).1,w0];rfl';obtain⟨i,G,v,I5,vW,zF,w5⟩:=hI;ac_rfl;show wpAny _ X.A ((compTurn (.ListComp elt [#[t0,i0,f0,0],#[t1,i1,f1,0]] scope pos) 0 (.ref it) (.ref l.heap.objs.size) a.env).onRaise (λx=>do noteFrame x a.env;theTreesLotGoes x)) _ _ I
  refine wpAny_noted ?_;rw[wN];refine ir (aav (ir ?_))
  rcases turn i n G v w5 with ⟨stop,qn⟩ | ⟨go,N,hN,step⟩
  .have hd:=T.done a eP ew eK K0 i [] I G v (notedBy (model X.prog X.w) X.A a.env λe I=>RR (.ref l.heap.objs.size) B.heap.objs.size (.error e) I) I5 (L zF) vW stop
   rw[eA] at hd;refine thn hd λr s6 O=>?_;obtain⟨hr,I6⟩:=O;subst hr;refine AC ?_;subst C;exact T3 _ B _ G v s6 I3 f3 I6 qn
  .have hd:=T.item a eP ew eK K0 i [] I G v (notedBy (model X.prog X.w) X.A a.env λe I=>RR (.ref l.heap.objs.size) B.heap.objs.size (.error e) I) I5 (L zF) vW go
   rw[eA] at hd;refine thn hd λr s6 O=>?_;obtain⟨u,hr,h6⟩:=O;subst hr;refine ir (thn h6 λ_ s7 O=>?_);rfl';obtain⟨x,H7,I7,r7,y7,yJ,MX⟩:=O;ac_rfl;have L4:=I7.pinned (L MX) (T.obj _ _ yJ)
   have nextT:∀{U:St}{Y:Hp}{s8:Shared},Inv a ([]++mw F s7.heap) U Y s8->N U Y->∃m,m<n/\∃i G v,Inv a [] G v s8/\Z i s8.heap/\(∀b∈F,v b=none)/\W i m G v:=λ {U Y s8} I8 n8=>by
    obtain⟨m',hm,w8⟩:=hN U Y n8;refine#[m',hm,i+1,U,Y,I8.jK,T.keep _ _ _ yJ λb k o e=>(I8.pin (b,o) (i9 _ (i9 _ (eN k e)))).1,λb k=>?_,w8];obtain⟨o,e,d⟩:=T.obj _ _ yJ b k;exact(I8.pin (b,o) (i9 _ (i9 _ (eN k e)))).2.1
   refine ir (kL (thn (Ud _ s7 G H7 x u _ L4 r7 (step x H7 y7)) λ_ s8 O=>?_));rfl';obtain⟨U,Y,I8,q8⟩:=O;ac_rfl;refine ir (kL (thn (Uq _ s8 U Y _ I8 q8) λb s9 O=>?_));obtain⟨H9,I9,q9⟩:=O;cases b with
   |false=>
    rw[mo eO] at q9;exact AC #[C▸rfl,nextT I9 q9]
   |true=>
    rw[tz rfl] at q9;refine ir (kL (thn (hiC _ s9 U H9 _ I9 q9) λv1 Rt Z5=>?_));refine ir (aav (ir (abG (xM _ v1) (ir (M2 (kL (thn Z5 λK7 Ru Z6=>?_)))))));rfl';obtain⟨NG,fp1,tn1,J1,SV,rfl,LZ,T1,Yt,ZT,hin⟩:=Z6;ac_rfl;refine ir (wpAny_runOwn ?_);have tr:∀(cd:Code)(R:Result->Shared->Prop),codeAny (model a.prog a.w) a.A cd R Ru->codeAny (model X.prog X.w) X.A cd R Ru:=λcd R h=>by rw[eP,ew,eA] at h;exact h
    exact tr _ _ (EY Qs K0 LZ T1 Yt ZT WZ Xo T9 hin λG v I Y4 n12=>AC #[C▸rfl,nextT Y4 n12])
 subst C;exact acu S (T.self _ 0 _ _ _ O3 S)
def Q7(e:X.calm=true)(c:cC X scope)(f:dB scope X.N src NC)(i:PI X t0 i0 wi)
  (j:∀a s H,PG (c5 X scope NC a s H) t0 g) (k:∀a s H,m9 (c5 X scope NC a s H) f0 tt) (l:∀a s H,PI (c5 X scope NC a s H) t1 i1 gH) (n:∀a s H,PG (c5 X scope NC a s H) t1 g1)
  (o:∀a s H,m9 (c5 X scope NC a s H) f1 fj) (p:∀a s H,PE (c5 X scope NC a s H) elt te)
  (q:∀x,foldedSetIterable i0 X.env x=pure x:=by intro _;rfl) (r:∀env x,foldedSetIterable i1 env x=pure x:=by intro _ _;rfl):
  PE X (.ListComp elt [#[t0,i0,f0,0],#[t1,i1,f1,0]] scope pos) (SN wi g tt gH g1 fj te src):=by
 intro b s t H Q I h;rw[eval_ListComp];refine aaV (use:=none) rfl q (iK (c.cells I.ok)) c.kind c.names (thn (i b s t H _ I h) λv O u=>thn u λP R w=>?_);obtain⟨S,U,Y,J,Z,rfl,y,T,z,A,B⟩:=w
 exact BO e c f y T z A j k l n o p r B λD s3 H3 az C s' E F d G=>by
  obtain⟨m,L,_⟩:=d.loc;exact#[m,L,λh' M=>#[.ref D,C,comp_back E F d M,rfl,G]]
end
end L2
namespace KS
open PySem PySem.W PyProof.Rows
section
variable {prog:Program} {w:World} {A:Around} {E:Value->Shared->Prop} {s:Shared}
def vo(c:s.heap.get? a=some (seqObj "list" b.toArray n))(j:b.length<2)
  (h:G (.done (.ret .none)) {s with heap:=sortedHeap s.heap a b b.toArray}):wpAny (model prog w) A (Builtin.«list.sort» #[[.ref a],[]]) G E s:=by
 rw[list_sort_plain];have m:a<s.heap.objs.size:=Fk c;refine ir (listItems_at c rfl (ir (abP c rfl ?_)));obtain⟨l,d⟩:∃k,(s.heap.update a (Obj.mapSeq λ_=> #[])).get? a=some (seqObj "list" #[] k):=#[_,get?_update_seq c (λ_=> #[])];refine ir (acv d rfl (ir (wpAny_newTuple (ir (aa9 (M2 ?_))))));have e:(((s.heap.update a (Obj.mapSeq λ_=> #[])).push (seqObj "tuple" b.toArray 0)).push (seqObj "list" #[] 0)).get? a=some (seqObj "list" #[] l):=Da _ (Da _ d);show wpAny (model prog w) A _ G E {s with heap:=((s.heap.update a (Obj.mapSeq λ_=> #[])).push (seqObj "tuple" b.toArray 0)).push (seqObj "list" #[] 0)}
 dsimp only;have f:b.toArray.size<2:=j;rw[tz f,tz f];refine ir (AC ?_);rw[StateT.run_pure];refine ir (AC ?_);dsimp only
 have g:(arrOf (SortSt.mk' general' (b.toArray.zip b.toArray) #[] 7 none)).map (·.2)=b.toArray:=by
  show(b.toArray.zip b.toArray).map (·.2)=b.toArray;apply ab4.mp;simp[List.map_snd_zip]
 refine ir (acv e rfl (ir (abP e rfl ?_ (hsz2:=by rw[g];rw[aaJ];lia))))
 simp only[abU,fE,On];have i:=h;unfold sortedHeap at i;rw[g];exact AC i
def Ai(e:s.heap.IsList l a.toArray)(f:a.length<2)(h:G (.ref (s.heap.objs.size+1)) {s with heap:=sortedAll s.heap a a.toArray}):
  wpAny (model prog w) A (call (.builtin "sorted") [.ref l]) G E s:=by
 refine aaT kind_sorted acJ acK (acL (.ref l)) ?_;unfold Builtin.«sorted»;have b:a.length<=sizeLine:=by rw[aaJ];lia
 refine ir (m:=checkCount "sorted" 1 1 _) (AC (ir (acM e (ir (aa9 ?_ b)) b)));have c:((s.heap.push (seqObj "list" #[] 0)).update s.heap.objs.size (Obj.mapSeq (·++a.toArray))).objs.size=s.heap.objs.size+1:=by rw[aaM,abt]
 have d:(((s.heap.push (seqObj "list" #[] 0)).update s.heap.objs.size (Obj.mapSeq (·++a.toArray))).push (seqObj "list" a.toArray 0)).get? (s.heap.objs.size+1)=some (seqObj "list" a.toArray 0):=by
  rw[<-c];exact GM _ rfl
 show wpAny (model prog w) _ _ _ E {s with heap:=((s.heap.push (seqObj "list" #[] 0)).update s.heap.objs.size (Obj.mapSeq (·++a.toArray))).push (seqObj "list" a.toArray 0)}
 rw[c];exact ir (M2 (aaD slot_list_sort #[_,d,rfl] entry_list_sort (vo d f #[_,rfl,AC #[_,rfl,h]]) (abC _)))
end
end KS
namespace L2
open PySem PySem.Spec PyProof.Rows
section
variable {X:Cx} {pins:List (Addr×Obj)} {σ:St} {H:Hp} {s:Shared} {h':Heap}
end
def uH(k:Nat×Nat):List V:= [.int (k.1:Nat), .int (k.2:Nat)]
def EC(H:Hp)(L:List (Addr×(Nat×Nat))):Prop:=∀p∈L,H p.1=some (.tup (uH p.2))
def jW(a b:Nat×Nat):Bool:=if a.1=b.1 then decide (a.2<b.2) else decide (a.1<b.1)
def uv(x y:Nat×Nat):jW x y=true↔x.1<y.1\/(x.1=y.1/\x.2<y.2):=by
 unfold jW
 by_cases e:x.1=y.1
 .rw[tz e,decide_eq_true_iff]
  lia
 .rw[mo e,decide_eq_true_iff]
  lia
def La(x y z:Nat×Nat)(h:jW x z=true):jW x y=true\/jW y z=true:=by
 rw[uv] at*;rw[uv];lia
def NO(x y z:Nat×Nat)(h:jW x y=true)(a:jW y z=true):jW x z=true:=by
 rw[uv] at*;lia
def xV(h:jW b a=false):Wb.lexLe a b:=by
 unfold jW at h;unfold Wb.lexLe
 by_cases e:b.1=a.1
 .rw[tz e] at h
  have:=SZ h
  right;lia
 .rw[mo e] at h
  have:=SZ h
  left;lia
def Qz 
  (n:IsTup s.heap x [.int a i, .int b j].toArray) (o:IsTup s.heap y [.int c k, .int d l].toArray)
  (h:C (if a=c then decide (b<d) else decide (a<c)) s):wpAny (model prog w) A (keyLt' (tuples' true) (.ref x) (.ref y)) C E s:=by
 rfl';obtain⟨u,f,_,v,q⟩:=n;obtain⟨z,g,_,B,r⟩:=o;ac_rfl;refine PySem.W.kat_lt f q g r ?_;refine PySem.W.kat_cons (aaU a i c k prog w _ _ ?_)
 by_cases e:a=c
 .rw[tz e] at h
  rw[show(a==c)=true by simpa using e]
  refine PySem.W.kat_yes (PySem.W.kat_cons (aaU b j d l prog w _ _ ?_))
  by_cases m:b=d
  .rw[show(b==d)=true by simpa using m]
   refine PySem.W.kat_yes (PySem.W.kat_nil ?_);rw[show decide (b<d)=false by simp;lia] at h
   simpa using h
  .rw[show(b==d)=false by simpa using m]
   refine PySem.W.kat_no (PySem.W.kat_one _ _ ?_);exact lt_int h
 .rw[mo e] at h
  rw[show(a==c)=false by simpa using e]
  exact PySem.W.kat_no (oneLt_int h)
section
variable {X:Cx}
theorem rf:∀{as:List Addr}{us:List Value},Vals (as.map V.ref) us->us=as.map Value.ref
 | [],_, .nil=>rfl
 |a::as,_, .cons r t=>by cases r;rw[rf t];rfl
theorem qS:∀b:List Addr,Vals (b.map V.ref) (b.map Value.ref)
 | []=> .nil
 |a::b=> .cons rfl (qS b)
def Ll(I:Inv X b c H s)(h:H a=some (.tup (uH k))):
  ∃t u,IsTup s.heap a [.int (k.1:Nat) t, .int (k.2:Nat) u].toArray:=by
 rfl';obtain⟨e,r,p,_⟩:=I.tuple (gT.of h);obtain⟨g,i,rfl,⟨t,rfl⟩,⟨u,rfl⟩⟩:=Vals.two r;ac_rfl;exact#[t,u,p]
end
end L2
set_option maxHeartbeats 4000000
namespace L2
open PySem PySem.Spec PySem.Calls PyProof.Rows PySem.W Builtin Builtin.ObjectAttr
def zO(s:String):Value->Bool
 | .type a=>a==s
 |_=>false
def JK(l:List Value):Bool:=match l with
 |a::b::c::d::r=>zO "ValueError" a&&zO "Exception" b&&zO "BaseException" c&&zO "object" d&&r.isEmpty
 |_=>false
def isRef:Value->Bool
 | .ref _=>true
 |_=>false
def pB:List Value->Bool
 | []=>false
 |v::r=>if isRef v then pB r else JK (v::r)
def wa(h:zO s v=true):v= .type s:=by
 unfold zO at h
 split at h
 .rw[aaw.mp h]
 .cases h
def xQ(h:JK l=true):l= [.type "ValueError", .type "Exception", .type "BaseException", .type "object"]:=by
 cases l with
 |nil=>cases h
 |cons a l=>cases l with
  |nil=>cases h
  |cons b l=>cases l with
   |nil=>cases h
   |cons c l=>cases l with
    |nil=>cases h
    |cons d r=>
     have h:(zO "ValueError" a&&zO "Exception" b&&zO "BaseException" c&&zO "object" d&&r.isEmpty)=true:=h;simp only[vz] at h;rw[wa h.1.1.1.1,wa h.1.1.1.2,wa h.1.1.2,wa h.1.2,List.isEmpty_iff.mp h.2]
def DK(K:Frag)(C:Addr):Bool:=(clsIn K C).any λa=>pB a.mro
structure kh (K:Frag) (C:Addr):Prop where
 hd:hasDictIn K C=true
 ga:findIn K (.ref C) "__getattribute__"=some (some (.builtin "BaseException.__getattribute__"))
 gh:findIn K (.ref C) "__getattr__"=some none
 sa:findIn K (.ref C) "__setattr__"=some (some (.builtin "object.__setattr__"))
 ov:DK K C=true
 cl:findIn K (.ref C) "__class__"=some (some (.builtin "object.__class__"))
 be:mroIn K C (.type "BaseException")=some true
 ob:mroIn K C (.type "object")=some true
section
variable {prog:Program} {w:World} {A:Around} {E:Value->Shared->Prop} {s:Shared} {K:Frag} {x C:Addr} {ox:Obj} {od:Option Obj} {name:Str}
def Bg{fill a:Bool}{b:Tok}{Q:Value->Shared->Prop}(X:K.In s.heap)(I:InstAt s.heap x ox C od)(c:kh K C)
  (h:wpAny (model prog w) A.in1 (Builtin.«object.__getattribute__» #[[.ref x, .str name b],[]]) (λfin d=>match fin with| .done (.ret v)=>wpAny (model prog w) A (handedOut v) Q E d|_=>False) (λ_ _=>False) s):
  wpAny (model prog w) A (getAttrBy (.ref x) (.str name b) fill a) Q E s:=by
 unfold getAttrBy;refine M2 (ir (I.type _ _ _ _ (λ_ _ e=>e) (ir (looks_findIn X c.ga _ _ _ _ (λ_ _ e=>e) ?_))));dsimp only;rw[show(onTheHeap (.ref C)&&Value.builtin "BaseException.__getattribute__"==Value.builtin "object.__getattribute__")=false from by rw[show(Value.builtin "BaseException.__getattribute__"==Value.builtin "object.__getattribute__")=false from by decide+kernel,y6],mo (by decide)]
 unfold getAttrByItsOwn;refine ir (looks_hook (mc:= .ref C) (r:=none) X c.gh _ _ _ _ (λ_ _ e=>e) (ir (abQ (M2 ?_))));unfold callGetattribute;rw[show(a&&onTheHeap (Value.builtin "BaseException.__getattribute__"))=false from y6 _,mo (by decide)]
 unfold boundAndCalled;rw[F.excAttr_ValueError.ga.bind];refine ir (AC ?_);show wpAny _ _ (call (.builtin "BaseException.__getattribute__") [.ref x, .str name b]) _ _ _;refine aay ?_;refine aaN F.excAttr_ValueError.ga.plain F.entry_bexc_ga ?_;refine @check_slot (model prog w) _ _ s "BaseException.__getattribute__" "BaseException" "__getattribute__" (.ref x) [.str name b] [] _ (by decide+kernel) (by decide+kernel) (I.type.andThen (looks_mroIn X c.be)) (F.args_bexc_ga (.ref x) (.str name b)) ?_
 refine wpAny_mono h (λfin d z=>?_) λ_ _ z=>z.elim
 rcases fin with (_|_|_|_) |_<;>first|exact z|exact z.elim
def Jh(X:K.In s.heap)(I:InstAt s.heap x ox C od)(b:findObj K C od name=some (.value v))(h:Q (.done (.ret v)) s):
  wpAny (model prog w) A (Builtin.«object.__getattribute__» #[[.ref x, .str name a],[]]) Q E s:=by
 obtain⟨c,g,d,t,os⟩:=s;have e:=I.type (M:=model prog w);have f:=looks_find (M:=model prog w) X I b;unfold Builtin.«object.__getattribute__»;refine ir (AC (ir (AC (ir (e.at (ir (f.at ?_)))))));exact AC h
def LX{P:Value->Shared->Prop}(X:K.In s.heap)(I:InstAt s.heap x ox C od)(e:findObj K C od name=some (.bind g a))
  (h:wpAny (model prog w) A (call g [a, .ref x, .ref C]) P E s):
  wpAny (model prog w) A (Builtin.«object.__getattribute__» #[[.ref x, .str name c],[]]) (λfin b=>match fin with| .done (.ret v)=>P v b|_=>False) E s:=by
 obtain⟨f,k,d,t,os⟩:=s;have i:=I.type (M:=model prog w);have j:=looks_find (M:=model prog w) X I e;unfold Builtin.«object.__getattribute__»;refine ir (AC (ir (AC (ir (i.at (ir (j.at ?_)))))));exact ir (M2 (wpAny_mono h (λv b z=>AC z) λ_ _ z=>z))
def GD(X:K.In s.heap)(I:InstAt s.heap x ox C od)(c:kh K C)(b:findObj K C od name=some (.value v))(d:handedIn v=true)(h:Q v {s with toks:=s.toks+1}):
  wpAny (model prog w) A (getAttr (.ref x) name a) Q E s:=by
 unfold getAttr;refine ir (wpAny_mkText ?_);refine Bg (s:={s with toks:=s.toks+1}) X I c (Jh (s:={s with toks:=s.toks+1}) X I b ?_)
 show wpAny _ _ (handedOut v) _ _ _;rw[handedOut_of d];exact AC h
def GF(X:K.In s.heap)(I:InstAt s.heap x ox C od)(c:kh K C)(b:specialIn K (.builtin "object.__class__") "__get__"=some (some (.builtin "getset_descriptor.__get__")))(htk:takesIn K (.builtin "object.__class__")=some true)
  (h:Q (some (.ref C)) {s with toks:=s.toks+1}):wpAny (model prog w) A (getAttr? (.ref x) "__class__") Q E s:=by
 have d:findObj K C od "__class__"=some (.bind (.builtin "getset_descriptor.__get__") (.builtin "object.__class__")):=by
  obtain⟨f,e,_⟩:=ab5 c.hd;unfold findObj;rw[e,abb,c.cl,abb];dsimp only;rw[b,abb];dsimp only;rw[htk];rfl
 unfold getAttr? getAttrBy?;refine ir (wpAny_mkText (ir (abQ ?_)))
 have key:wpAny (model prog w) A.in1 (Builtin.«object.__getattribute__» #[[.ref x, .str "__class__" s.toks],[]]) (λfin a=>match fin with| .done (.ret v)=>v= .ref C/\a={s with toks:=s.toks+1} |_=>False) (λ_ _=>False) {s with toks:=s.toks+1}:=by
  refine LX (P:=λv a=>v= .ref C/\a={s with toks:=s.toks+1}) (s:={s with toks:=s.toks+1}) X I d (aay (class_get (s:={s with toks:=s.toks+1}) (ox:=ox) (od:=od) X I c.ob ?_))
  exact#[rfl,rfl]
 refine Bg (s:={s with toks:=s.toks+1}) X I c (wpAny_mono key (λfin a z=>?_) λ_ _ z=>z.elim)
 rcases fin with (_|_|_|_) |_<;>first|exact z.elim|skip
 obtain⟨rfl,rfl⟩:=z;exact AC (AC h)
def K8(c:kh K C)(f:specialIn K (.builtin "object.__class__") "__get__"=some (some (.builtin "getset_descriptor.__get__")))(htk:takesIn K (.builtin "object.__class__")=some true):
  KitX K (.ref x) (.ref C) (λh=>InstAt h x ox C od) where
 ty:=λ_ _ _ I=>I.type
 it:=λ_ _ X _=>by
  obtain⟨g,a,_⟩:=ab5 c.hd;unfold clsIn at a
  split at a
  .rename_i i j l m b
   intro r t u v k q;unfold isType loadHead;exact ir (abB (k _ _ (X _ _ b)) (AC q))
  .cases a
 ne:=λh o y p n B X d=>by
  obtain⟨g,a,_⟩:=ab5 c.hd;refine vy.mpr λq=>?_;have e:C=o:=Value.ref.inj (aaw.mp q);subst e;unfold clsIn at a
  split at a
  .rename_i i j l m b
   have z:=(X _ _ b).symm.trans d;cases z
  .cases a
 ca:=λX I k=>GF X I c f htk k
end
def ID(self:Value)(e:pB l=true):refuseLoop self "__setattr__" l=pure ():=by
 induction l with
 |nil=>cases e
 |cons v r b=>
  rw[pB] at e;cases a:isRef v with
  |true=>
   rw[tz a] at e;cases v with
   |ref c=>rw[refuseLoop_ref];exact b e
   |_=>cases a
  |false=>
   rw[mo (by rw[a];exact eO)] at e
   rw[xQ e];exact F.store_ValueError.passes self
abbrev bU(C t:Addr)(d:Option Addr):Obj:={cls:= .ref C,dict:=d,data:= .fields [.ref t, .none, .none, .none, .bool false, .none].toArray}
section
variable {prog:Program} {w:World} {A:Around} {E:Value->Shared->Prop} {s:Shared} {K:Frag} {x C:Addr} {ox:Obj} {od:Option Obj} {name:Str} {R:Result->Shared->Prop}
theorem y0(X:K.In s.heap)(I:InstAt s.heap x ox C od)(c:kh K C)(k:takerIn K C name=some none)
  (h:∀b,wpAny (model prog w) A.in1 (storeInOwnDict (.ref x) (.ref C) (.str name g) name v b)
   (λfin i=>match fin with| .done f=>R (.ok f) i| .again j=>j.quiet=true/\codeAny (model prog w) A j R i) (λe i=>R (.error e) i) s):
  codeAny (model prog w) A (.call (.builtin "object.__setattr__") #[[.ref x, .str name g,v],[]]) R s:=by
 rfl';have SF:=PySem.F.store_object;obtain⟨m,n,o⟩:=ab5 c.ov;have sub:Looks (model prog w) s.heap (isInstance (.ref x) (.type "object")) true:=I.type.andThen (looks_mroIn X c.ob);obtain⟨d,p,r⟩:=Option.bind_eq_some_iff.mp k;ac_rfl;refine aaN SF.slot.plain SF.entry (@check_slot (model prog w) _ _ s "object.__setattr__" "object" "__setattr__" (.ref x) [.str name g,v] [] _ SF.kind SF.split sub (SF.args (.ref x) (.str name g) v) ?_);have t:Looks (model prog w) s.heap (mroOf (.ref C)) m.mro:=(looks_clsIn X n).andThen .now
 have u:Looks (model prog w) s.heap (storeTaker? d) none:=by
  cases d with
  |none=>exact .now
  |some a=>
   obtain⟨b,y,q⟩:=Option.map_eq_some_iff.mp r;refine(looks_takesIn X y).andThen ?_;cases b with
   |true=>cases q
   |false=>exact .now
 rw[osa_eq,refuse_eq];refine ir (ir (I.type.here (ir (t.here ?_))));rw[ID _ o];refine AC (ir (I.type.here (ir ((looks_findIn X p).here (ir (u.here ?_))))));exact h _
def Vt(X:K.In s.heap)(c:kh K C)(j:s.heap.get? x=some (bU C t (some d)))(k:s.heap.Ns1 d f)(ne:d≠x)(m:takerIn K C name=some none)
  (hw:b5 f i) (G:i.length<=sizeLine)
  (h:∀e,e.Ns1 d (λy=>if y=name then some v else f y)->Heap.SameBut d s.heap e->Q () {s with heap:=e,toks:=s.toks+2}):
  wpAny (model prog w) A (setAttr (.ref x) name v) Q E s:=by
 rfl';obtain⟨o,p,_⟩:=qL k;have J:InstAt s.heap x (bU C t (some d)) C (some o):=#[j,rfl,rfl,p];obtain⟨H,q,r⟩:=ab5 c.hd;ac_rfl;refine set_plain X J c.sa (y0 (s:={s with toks:=s.toks+1}) X J c m λb=>?_)
 refine ir (AC (ir (ir (abB j (ir (Looks.here (s:={s with toks:=s.toks+1}) (looks_clsIn X q) ?_))))))
 rw[r];refine AC (a:=some d) (ir (AC (ir ?_)));refine acD (s:={s with toks:=s.toks+1}) k λe l u=>?_
 rfl';obtain⟨oD,I,L,z,B,F⟩:=l.count (PySem.Within.cons name v hw);ac_rfl;refine ir (ab0 z (by rw[B];exact ab1 (jr F (by rw[cO];lia))) ?_)
 exact AC (h _ l u)
def Vs(X:K.In s.heap)(c:kh K C)(i:s.heap.get? x=some (bU C t none))(u:takerIn K C name=some none)
  (h:∀f,f.Ns1 s.heap.objs.size (λy=>if y=name then some v else none)->f.get? x=some (bU C t (some s.heap.objs.size))->(∀b o,b≠x->s.heap.get? b=some o->f.get? b=some o)->Q () {s with heap:=f,toks:=s.toks+2}):
  wpAny (model prog w) A (setAttr (.ref x) name v) Q E s:=by
 have J:InstAt s.heap x (bU C t none) C none:=#[i,rfl,rfl,trivial];obtain⟨M,z,B⟩:=ab5 c.hd;refine set_plain X J c.sa (y0 (s:={s with toks:=s.toks+1}) X J c u λb=>?_)
 obtain⟨a,g,d,l,os⟩:=s;dsimp only at*;have m:(a.push {cls:= .type "dict",data:= .dict #[]}).get? x=some (bU C t none):=Da _ i;have n:x≠a.objs.size:=bO (Fk i);refine ir (AC (ir (ir (abB i (ir (Looks.here (s:=#[a,g,d,l+1,os]) (looks_clsIn X z) ?_))))));rw[B];refine ir (wpAny_alloc' ?_);refine ir (wpAny_update' m ?_);refine AC ?_
 have j:((a.push {cls:= .type "dict",data:= .dict #[]}).update x λo=>{cls:=o.cls,dict:=some a.objs.size,data:=o.data,slots:=o.slots}).get? a.objs.size=some {cls:= .type "dict",data:= .dict #[]}:=
  (aaI _ _ _ _ n.symm).trans (Heap.get?_push_at rfl rfl)
 have xH:((a.push {cls:= .type "dict",data:= .dict #[]}).update x λo=>{cls:=o.cls,dict:=some a.objs.size,data:=o.data,slots:=o.slots}).Ns a.objs.size (λ_=>none):=
  #[_, #[],_,j,rfl,λe F=>absurd F (by simp),λ_=>rfl]
 show wpAny _ _ (storeInDict a.objs.size (.str name l) name v) _ _ _;unfold storeInDict newKeyGuard;refine ir (AC (ir (acD (Heap.Ns1.of_empty xH) λf p q=>?_)));rfl';obtain⟨oD,O,P,H,I,L⟩:=p.count (Within.cons name v Within.nil);ac_rfl;refine ir (ab0 H (by rw[I];exact ab1 (jr L (by rw[cO,zg,aaJ];lia))) ?_)
 refine AC (h f p ?_ λb S k r=>?_)
 .exact(q.2 x n).trans (UF _ m rfl)
 .exact(q.2 b (bO (Fk r))).trans ((aaI _ _ _ _ k).trans (Da _ r))
end
section
variable {M:Model} {A:Around} {E:Value->Shared->Prop} {h:Heap} {g:Array GenState} {d:Drawn} {t:Nat} {os:OsState}
variable {nm q:Str} {C N:Addr} {bs bm Ko:List Value} {h7:Bool} {sn:List Str} {sub:List Value} {ab:Bool} {col:Option Bool} {dd:Option Addr} {k0 k1 k2 k3 k5:Option Value} {B newId kn:String}
def BK(F:ExcBaseFacts B newId kn Ko)(T8:(Value.ref C::bm).contains (.type B)=true){rest:List Value}{Q:Unit->Shared->Prop}(hC:h.get? C=some (excClassObj nm q C N bs bm h7 sn sub ab col dd k0 k1 k2 k3 k5 newId))
  (hq:Q () #[h,g,d,t,os]):wpAny M A (checkBuiltinCall newId #[.ref C::rest,[]]) Q E #[h,g,d,t,os]:=by
 have aad:=F.noStar;simp only[checkBuiltinCall,F.newKind,F.newSplit,F.newRow]
 repeat (first|refine wpAny_loadPart_at hC ?_| (refine wpAny_isSubtype_exc hC ?_;rw[T8]) |refine wpAny_staticBase_exc hC ?_|refine wpAny_madeBy_exc hC ?_|simp only[bne_self_eq_false,fE,if_false]|wp_step)
 exact hq
def zx(F:ExcBaseFacts B newId kn Ko)(zI:(Value.ref C::bm).contains (.type B)=true){e:Addr}{oe:Obj}{rest:List Value}{Q:Unit->Shared->Prop}
  (hC:h.get? C=some (excClassObj nm q C N bs bm h7 sn sub ab col dd k0 k1 k2 k3 k5 newId)) (he:h.get? e=some oe) (Ff:oe.cls= .ref C) (hq:Q () #[h,g,d,t,os]):
  wpAny M A (checkBuiltinCall kn #[.ref e::rest,[]]) Q E #[h,g,d,t,os]:=by
 have Y0:=F.noStar;simp only[checkBuiltinCall,F.initKind,F.initSplit,F.initRow]
 repeat (first| (with_reducible refine wpAny_loadPart_at he ?_;rw[Ff]) |with_reducible refine wpAny_loadPart_at hC ?_| (with_reducible refine wpAny_isSubtype_exc hC ?_;rw[zI]) |wp_step)
 refine wpAny_onRaise ?_
 rw[show ∀(a b:String)(n:Nat),Bind.check #[.positional,"*",B, .self,[#["args", .varPos,false]]] a b n (List.map (λx=>x.fst) ({pos:=Value.ref e::rest}:Args).kw)=pure () from
  λa b n=>check_star_args _ _ _ _ _ _]
 exact wpAny_pure hq
end
section
variable {prog:Program} {w:World} {A:Around} {R:Result->Shared->Prop} {h:Heap} {g:Array GenState} {d:Drawn} {t:Nat} {os:OsState}
variable {nm q:Str} {C N:Addr} {bs bm Ko:List Value} {h7:Bool} {sn:List Str} {sub:List Value} {ab:Bool} {col:Option Bool} {dd:Option Addr} {k0 k1 k2 k3 k5:Option Value} {B newId kn:String}
def Hs(F:ExcBaseFacts B newId kn Ko)(zI:(Value.ref C::bm).contains (.type B)=true)(T6:(Value.ref C::bm).contains (.type "AttributeError")=false)(T7:(Value.ref C::bm).contains (.type "NameError")=false)
  {rest:List Value} (hC:h.get? C=some (excClassObj nm q C N bs bm h7 sn sub ab col dd k0 k1 k2 k3 k5 newId))
  (hq:R (.ok (.ret (.ref (h.objs.size+1)))) #[(h.push {cls:= .type "tuple",data:= .seq rest.toArray}).push (bU C h.objs.size none),g,d,t,os]) (HP:rest.length<=sizeLine):
  codeAny (model prog w) A (.builtin newId #[.ref C::rest,[]]) R #[h,g,d,t,os]:=by
 have aab:=F.ends;refine codeAny_builtinAt F.entry ?_;unfold Builtin.«BaseException.__new__»;refine PySem.wpAt_bind ?_;show PySem.wpAt _ _ _ (stack>>=_) _ _ _;refine PySem.wpAt_bind (PySem.wpAt_stack λp below=>PySem.wpAt_of_wpAny ?_)
 wp_walk
 refine PySem.wpAt_of_wpAny ?_;rw[F.owner]
 repeat (first|with_reducible refine wpAny_madeHere_exc F.canon hC ?_|with_reducible refine wpAny_loadPart_at hC ?_| (with_reducible refine wpAny_isSubtype_exc hC ?_;first|rw[zI]|rw[T6]|rw[T7]) |wp_step)
 show R _ _;rw[Heap.size_push];exact hq
def u9(F:ExcBaseFacts B newId kn Ko)(zI:(Value.ref C::bm).contains (.type B)=true){e t0:Addr}{od:Option Addr}{rest:List Value}(hC:h.get? C=some (excClassObj nm q C N bs bm h7 sn sub ab col dd k0 k1 k2 k3 k5 newId))(he:h.get? e=some (bU C t0 od))
  (hq:∀h' t',h'.get? e=some (bU C t' od)->(∀b o,b≠e->h.get? b=some o->h'.get? b=some o)->R (.ok (.ret .none)) #[h',g,d,t,os]) (HP:rest.length<=sizeLine):
  codeAny (model prog w) A (.call (.builtin kn) #[.ref e::rest,[]]) R #[h,g,d,t,os]:=by
 refine codeAny_call_builtin F.init.plain F.initEntry (zx F zI hC he rfl ?_)
 wp_walk
 have vM:e≠h.objs.size:=bO (Heap.lt_size he);refine hq _ h.objs.size ?_ λb o hb ho=>?_
 .rw[Heap.get?_update_self _ (Heap.get?_push_of_some _ he) rfl]
  rfl
 .rw[Heap.get?_update_other _ _ (Ne.symm hb)]
  exact Heap.get?_push_of_some _ ho
def vt(F:ExcBaseFacts B newId kn Ko)(zI:(Value.ref C::bm).contains (.type B)=true)(T6:(Value.ref C::bm).contains (.type "AttributeError")=false)(T7:(Value.ref C::bm).contains (.type "NameError")=false)
  {rest:List Value} {init:Value} (hC:h.get? C=some (excClassObj nm q C N bs bm h7 sn sub ab col dd k0 k1 k2 k3 k5 newId)) (call:Looks (model prog w) h (specialOf (.ref C) "__call__") (some (.builtin "type.__call__"))) (typ:Looks (model prog w) h (isInstance (.ref C) (.type "type")) true)
  (hi:Looks (model prog w) h (typeLookup (.ref C) "__init__") (some init)) (hb:∀self,Looks (model prog w) h (bindSpecial init self) (init,[self])) (HP:rest.length<=sizeLine)
  (hq:codeAny (model prog w) (A.under (.builtin "type.__call__" #[.ref C::rest,[]])) (.call init #[.ref (h.objs.size+1)::rest,[]]) (InitBack (h.objs.size+1) R) #[(h.push {cls:= .type "tuple",data:= .seq rest.toArray}).push (bU C h.objs.size none),g,d,t,os]):
  codeAny (model prog w) A (.call (.ref C) #[rest,[]]) R #[h,g,d,t,os]:=by
 refine codeAny_of_tree ?_;show wpAny _ _ (callAny (.ref C) _) _ _ _;refine nd_load hC ?_;show wpAny _ _ (callAny.viaDunder (.ref C) _) _ _ _;unfold callAny.viaDunder;refine wpAny_bind (call.at ?_);dsimp only;rw[tc_bind];refine wpAny_bind (wpAny_pure (wpAny_bind (wpAny_pure ?_)));refine wpAny_pure (a:=Fin.again (.call (.builtin "type.__call__") #[.ref C::rest,[]])) (And.intro rfl ?_);refine codeAny_call_builtin_at (Code.quiet_builtin _ (by decide+kernel)) entry_typeCall (check_slot tc_kind tc_split typ (tc_args _ _ _) ?_)
 have hm:Looks (model prog w) h (mroOf (.ref C)) (.ref C::bm):=((Looks.ld (part:=none) hC).andThen .now).andThen .now
 have made:Looks (model prog w) h (Bind.madeBy (.ref C)) (some newId):=by
  intro A Q E s k q;obtain⟨h2,g2,d2,t2,sW⟩:=s;exact wpAny_madeBy_exc (k _ _ hC) q
 unfold Builtin.«type.__call__»
 repeat (first|simp only[List.isEmpty_cons,fE,if_false]|with_reducible refine wpAny_call ?_|lk)
 refine codeAny_call_builtin_code (Code.quiet_builtin _ F.quiet) (BK F zI hC ?_);refine Hs F zI T6 T7 hC ?_ HP;have k:∀b o,h.get? b=some o->((h.push {cls:= .type "tuple",data:= .seq rest.toArray}).push (bU C h.objs.size none)).get? b=some o:=λb o e=>Heap.get?_push_of_some _ (Heap.get?_push_of_some _ e);have hx:((h.push {cls:= .type "tuple",data:= .seq rest.toArray}).push (bU C h.objs.size none)).get? (h.objs.size+1)=some (bU C h.objs.size none):=by heap_get
 have t1:Looks (model prog w) ((h.push {cls:= .type "tuple",data:= .seq rest.toArray}).push (bU C h.objs.size none)) (typeOf (.ref (h.objs.size+1))) (.ref C):=(Looks.ld hx).andThen .now
 have s0:Looks (model prog w) h (isSubtype (.ref C) (.ref C)) true:=by
  intro A Q E s k q;obtain⟨h2,g2,d2,t2,sW⟩:=s;refine wpAny_isSubtype_exc (k _ _ hC) ?_;rw[show(Value.ref C::bm).contains (.ref C)=true by simp]
  exact q
 have s1:=s0.keeps k;have i1:=hi.keeps k;have b1:=(hb (.ref (h.objs.size+1))).keeps k;unfold isInstance callSpecial? specialOf
 repeat (first|with_reducible refine wpAny_call ?_|lk)
 refine codeAny_mono hq λr s' z=>?_
 rcases r with e| (v|_|_|_)<;>first|exact z|exact z.elim|skip
 obtain⟨rfl,z⟩:=z;exact wpAny_pure (wpAny_pure z)
end
def pJ(C a:Addr)(d:Option Addr):HO:= .ext λh=>∃t,h.get? a=some (bU C t d)
def zl(a:Addr)(fs:List (Str×V)):HO:= .ext λh=>fs.length<=1000/\∃mA,h.Ns1 a mA/\(∀f,ke (fs.lookup f) (mA f))/\b5 mA (fs.map (·.1))
section
variable {P:Program} {w:World} {H:Hp} {h:Heap} {a C:Addr} {d:Option Addr} {fs:List (Str×V)}
def En{t:Addr}(e:h.get? a=some (bU C t d)):cn P w H h a (pJ C a d):=#[#[t,e],#[_,e],λh1 h2 #[t,p] k=>#[t,k _ p]]
def Po{mA:Str->Option Value}(hl:fs.length<=1000)(n:h.Ns1 a mA)(r:∀f,ke (fs.lookup f) (mA f))(q:b5 mA (fs.map (·.1))):cn P w H h a (zl a fs):=
 #[#[hl,mA,n,r,q],let #[o,_,_,e,_]:=n;#[o,e],λh1 h2 #[hl,mA,#[o,es,ep,e,c],r,q] k=>#[hl,mA,#[o,es,ep,k _ e,c],r,q]]
def wg(hok:gx P w H h)(e:H a=some (pJ C a d)):∃t,h.get? a=some (bU C t d):=(hok a _ e).1
def Eo(hok:gx P w H h)(e:H a=some (zl a fs)):fs.length<=1000/\∃mA,h.Ns1 a mA/\(∀f,ke (fs.lookup f) (mA f))/\b5 mA (fs.map (·.1)):=(hok a _ e).1
end
section
variable {X:Cx} {pins:List (Addr×Obj)} {σ:St} {H:Hp} {s:Shared}
theorem Inv.RS{a dx:Addr}{o1 o2:HO}{h':Heap}{t':Nat}(I:Inv X pins σ H s)(mu:L7 (H a))(sD:s.heap.objs.size<=dx)(k:∀b u,b≠a->s.heap.get? b=some u->h'.get? b=some u)(Fg:∃u,h'.get? a=some u)
  (XR:cn X.prog X.w (upd (upd H a o1) dx o2) h' a o1) (XS:cn X.prog X.w (upd (upd H a o1) dx o2) h' dx o2):Inv X pins σ (upd (upd H a o1) dx o2) {s with heap:=h',toks:=t'}:=by
 have nd:H dx=none:=I.hok.fresh sD
 obtain⟨oa,ha⟩:∃o,H a=some o:=by
  cases q:H a with
  |none=>rw[q] at mu;exact mu.elim
  |some o=>exact#[o,rfl]
 have QM:a≠dx:=aC ha nd;have FJ:∀c y,H c=some (.own y)->c≠a:=λc y r z=>by subst z;rw[r] at mu;exact mu
 have JS:∀c xs,H c=some (.tup xs)->c≠a:=λc xs r z=>by subst z;rw[r] at mu;exact mu
 have XT:∀c o u,H c=some (.qC o u)->c≠a:=λc o u r z=>by subst z;rw[r] at mu;exact mu
 have XY:∀c ps,H c=some (.Gs ps)->c≠a:=λc ps r z=>by subst z;rw[r] at mu;exact mu
 have up:∀b u,b≠a->H b=some u->upd (upd H a o1) dx o2 b=some u:=λb u hb e=>by rw[aw (aC e nd),aw hb];exact e
 refine I.un (h':=h') (t':=t') #[λb o e n _ _=>?_,λb o e n _ _=>#[o.slots,?_],λb o e n _=>?_,λb o e _=>?_,λb xs e=>up b _ (JS b xs e) e,λb o u e=>up b _ (XT b o u e) e,λb ps e=>#[#[],by rw[up b _ (XY b ps e) e];simp]] λb u e=>?_
 .exact k b o (λz=>by rw[z,ha] at n;cases n) e
 .exact k b o (λz=>by rw[z,ha] at n;cases n) e
 .rw[aw (λz=>by rw[z] at e;exact absurd (Heap.lt_size e) (Nat.not_lt.mpr sD)),aw (λz=>by rw[z,ha] at n;cases n)];exact n
 .by_cases z:b=a
  .rw[z];exact Fg
  .exact#[o,k b o z e]
 .by_cases z:b=dx
  .subst z;rw[au] at e;cases e;exact XS
  .rw[aw z] at e
   by_cases z2:b=a
   .subst z2;rw[au] at e;cases e;exact XR
   .rw[aw z2] at e
    refine(I.hok b u e).oK (λc v hc q=>k c v ?_ q) (λc q=>up c _ (FJ c b q) q) λc xs q=>up c _ (JS c xs q) q
    rcases hc with y|y
    .rw[y];exact z2
    .exact FJ c b y
variable {a C:Addr} {fs:List (Str×V)} {f:Str} {v:V} {A:Around} {E:Value->Shared->Prop}
def R5(H:Hp)(C a:Addr)(f:Str)(y:V)(fs:List (Str×V))(Q:Hp->Prop):Prop:=
 (fs= []/\H a=some (pJ C a none)/\∀dx,H dx=none->Q (upd (upd H a (pJ C a (some dx))) dx (zl dx [(f,y)])))\/
 (∃dx,H a=some (pJ C a (some dx))/\H dx=some (zl dx fs)/\fs.length<1000/\Q (upd H dx (zl dx (i6 f y fs))))
def Ep{y:V}{u:Value}{Q:Unit->Shared->Prop}{R:Hp->Prop}(I:Inv X pins σ H s)(c:kh X.K C)(n:fO X.K C f)(ry:RelV y u)(p:R5 H C a f y fs R)
  (h:∀H' s',Inv X pins σ H' s'->R H'->Q () s'):wpAny (model X.prog X.w) A (setAttr (.ref a) f u) Q E s:=by
 rcases p with ⟨rfl,e,q⟩ | ⟨dx,e,ed,hl,q⟩
 .obtain⟨t,et⟩:=wg I.hok e
  refine Vs I.cR c et n.IT λh' hn hx k=>?_;refine h _ _ (I.RS (by rw[e];exact True.intro) (bu _) k #[_,hx] (En hx) ?_) (q s.heap.objs.size I.fresh)
  refine Po (by simp) hn (λg=>?_) (λg hg=>?_)
  .by_cases z:g=f
   .rw[if_pos z,z];simp only[bc,beq_self_eq_true];exact ry
   .rw[if_neg z]
    have hb:(g==f)=false:=beq_eq_false_iff_ne.mpr z;simp only[bc,hb];exact True.intro
  .by_cases z:g=f
   .rw[z];simp
   .rw[if_neg z] at hg;exact absurd rfl hg
 .obtain⟨t,et⟩:=wg I.hok e
  obtain⟨_,mA,hn,r,wi⟩:=Eo I.hok ed
  have ne:dx≠a:=by
   rintro rfl;obtain⟨o,es,ep,eo,hd,_⟩:=hn;rw[et] at eo;cases eo;cases hd
  have hz:(fs.map (·.1)).length<=sizeLine:=by rw[aV,sizeLine_eq];lia
  refine Vt I.cR c et hn ne n.IT wi hz λh' Cr sb=>h _ _ (I.write (x:=dx) (e:=dx) (by rw[ed];exact True.intro) (.inl rfl) (λb q hb z=>(sb.2 b hb).trans z) (let #[o,_,_,e',_]:=Cr;#[o,e']) ?_) q
  refine Po (by have:=l4 f y fs;lia) Cr (λg=>?_) (λg hg=>?_)
  .rw[l7]
   by_cases q:g=f
   .rw[if_pos q,if_pos q];exact ry
   .rw[if_neg q,if_neg q];exact r g
  .by_cases q:g=f
   .rw[q];exact(jV f y fs).1
   .refine(jV f y fs).2 g (wi g λz=>hg ?_)
    show(if g=f then some u else mA g)=none;rw[if_neg q];exact z
end
def U9(K:aj)(ta tv:TE)(f:Str):TS:=λD σ H=>tv σ H λy H1=>ta σ H1 λx H2=>∃a C fs,x= .ref a/\kh K C/\fO K C f/\R5 H2 C a f y fs λH3=>D.nx σ H3
section
variable {X:Cx} {o e value:Expr} {f:Str} {pos pos' YL:Pos} {ta tv:TE}
def F0(ha:PE X o ta)(hv:PE X value tv)(hs:swapsWith value (some (.Attribute o f pos')) pos.line X.env=pure false):PS X (.Assign [.Attribute o f pos'] value pos) (U9 X.K ta tv f):=by
 intro pins s σ H D I h;refine plainObj_wpAny_Assign_Attribute (thn (hv pins s σ H _ I h) λu s1 #[y,H1,I1,ry,q]=>thn (ha pins s1 σ H1 _ I1 q) λov s2 #[x,H2,I2,rx,a,C,fs,ex,c,n,p]=>?_) hs;subst ex;obtain rfl:ov=Value.ref a:=rx;exact Ep I2 c n ry p λH3 s3 I3 q=>#[σ,_,I3,q]
inductive Jm:V->Value->Prop where
 |own (D:Addr):Jm (.ref D) (.ref D)
 |blt (n:String):Jm (.ty n) (.type n)
end
structure pQ (K:aj) (C:Addr):Prop where
 obj:∃nm q N bs bm h7 sn sub ab col dd k0 k1 k2 k3 k5,K.lookup C=some (excClassObj nm q C N bs bm h7 sn sub ab col dd k0 k1 k2 k3 k5 "ValueError.__new__")/\(Value.ref C::bm).contains (.type "ValueError")=true/\
  (Value.ref C::bm).contains (.type "AttributeError")=false/\(Value.ref C::bm).contains (.type "NameError")=false
structure Ha (K:aj) (C:Addr) (init:Value):Prop extends pQ K C where
 call:aS K (.ref C) "__call__"=some (some (.builtin "type.__call__"))
 typ:cr K (.ref C) (.type "type")=some true
 ini:am K (.ref C) "__init__"=some (some init)
 kp:aA K (.ref C)=true
def RQ{H:Hp}{a:Addr}{o:HO}(e:H a=some o):upd H a o=H:=by
 funext b
 by_cases h:b=a
 .rw[h,au,e]
 .rw[aw h]
def RK(C:Addr)(sp:Sp)(E:XK)(t:TA):TE:=λσ H Q=>t σ H λvs H1=>∀e,H1 e=none->sp (.ref e::vs) (upd H1 e (pJ C e none)) (λv H2=>v= .aY/\Q (.ref e) H2) E
def RJ(K:aj)(t:TA):TE:=λσ H Q=>t σ H λvs H1=>∃a C d y,vs= [.ref a,y]/\H1 a=some (pJ C a d)/\pQ K C/\Q .aY H1
section
variable {X:Cx} {CX:pF} {k:Nat} {f C:Addr} {fd:FuncData} {ps:List Str} {sp:Sp} {E:XK} {x m:Str} {p pos apos:Pos} {e o:Expr} {es:List Expr} {ta:TE} {t:TA}
theorem IG{pins:List (Addr×Obj)}{σ:St}{H:Hp}{s:Shared}{Q:VK}{us:List Value}{vs:List V}(M:Ha X.K C (.ref f))(hf:bj X.K (.ref f)=true)(F:FnOk X.prog X.w X.K X.mg X.base CX k f fd ps sp)(hr:bQ (k+1) X.A)(hb:Binds X.K fd ps [])
  (Nz:ps.length<=1000) (hx:Passes CX X E) (I:Inv X pins σ H s) (r:Vals vs us)
  (h:∀e,H e=none->sp (.ref e::vs) (upd H e (pJ C e none)) (λv H2=>v= .aY/\Q (.ref e) H2) E):
  wpAny (model X.prog X.w) X.A (call (.ref C) us) (EP X pins σ Q) X.xe s:=by
 obtain⟨nm,q,N,bs,bm,h7,sn,sub,ab,col,dd,k0,k1,k2,k3,k5,hC,cB,cA,cN⟩:=M.obj;have hq:=h (s.heap.objs.size+1) (I.hok.fresh (js _))
 have Ut:((s.heap.push {cls:= .type "tuple",data:= .seq us.toArray}).push (bU C s.heap.objs.size none)).get? (s.heap.objs.size+1)=some (bU C s.heap.objs.size none):=by
  have:=Heap.get?_push_size (s.heap.push {cls:= .type "tuple",data:= .seq us.toArray}) (o:=bU C s.heap.objs.size none) rfl
  rwa [Heap.size_push] at this
 have I2:Inv X pins σ (upd H (s.heap.objs.size+1) (pJ C (s.heap.objs.size+1) none)) {s with heap:=(s.heap.push {cls:= .type "tuple",data:= .seq us.toArray}).push (bU C s.heap.objs.size none)}:=
  I.laid (t':=s.toks) (λb u q=>Heap.get?_push_of_some _ (Heap.get?_push_of_some _ q)) (js _) (En Ut)
 have r2:Vals (V.ref (s.heap.objs.size+1)::vs) (Value.ref (s.heap.objs.size+1)::us):= .cons rfl r
 have hl:((Value.ref (s.heap.objs.size+1)::us)++ []).length=ps.length:=by
  have e:=r2.length;rw[F.len _ _ _ _ hq] at e;rw[fG];exact e.symm
 have hlen:us.length<=sizeLine:=by
  rw[fG,cO] at hl;exact uW (c9 (by lia))
 have zH:=hb _ (Value.ref (s.heap.objs.size+1)::us) I2.cR hl;rw[fG] at zH;obtain⟨hh,g,d,tk,os⟩:=s
 refine wpAny_call (vt (init:= .ref f) PySem.F.excBase_ValueError cB cA cN (I.cR _ _ hC) (PySem.W.looks_specialIn I.cR M.call) (PySem.W.looks_instIn I.cR M.typ) (PySem.W.looks_findIn I.cR M.ini) (λself=>PySem.W.bind_fn I.cR self (beq_iff_eq.mp hf)) hlen
  (codeAny_mono (F.run _ X.stack _ _ #[Value.ref (hh.objs.size+1)::us,[]] (Value.ref (hh.objs.size+1)::us) _ _ E (hr.make C us []) (I2.E5.make C us []) zH r2 hq) λr s' xK=>?_))
 cases r with
 |error e=>exact hx pins σ _ _ e s' I2 xK
 |ok fl=>
  cases fl with
  |ret u=>
   refine af λG0 k0=>?_;obtain⟨v,H',I3,rv,ev,q3⟩:=I2.after xK;subst ev;refine k0 ?_;exact#[rv,#[V.ref (hh.objs.size+1),H',I3,rfl,q3]]
  |next=>exact False.elim xK
  |brk=>exact False.elim xK
  |cont=>exact False.elim xK
def Lr(M:Ha X.K C (.ref f))(hf:bj X.K (.ref f)=true)(F:FnOk X.prog X.w X.K X.mg X.base CX k f fd ps sp)(hr:bQ (k+1) X.A)(hg:Gl X x)(hm:X.mg x=some (.ref C))(hb:Binds X.K fd ps [])(Nz:ps.length<=1000)(hx:Passes CX X E)
  (ha:PA X (e::es) t) (eV:(x==("__debug__":Str))=false:=by decide) (he:starEach (e::es) X.env=(false,eval e X.env)::starEach es X.env:=by rfl) (b9:(backTo pos (starEach es X.env)).any (·.1)=false:=by rfl):
  PE X (.Call (.Name x p) (e::es) [] pos) (RK C sp E t):=by
 intro pins s σ H Q I h;refine wpAny_Call_Name_kw (il I hg hm ?_ eV);refine PySem.W.callWith_K (h₀:=X.base) I.ok.mod.kin M.kp (thn (ha pos pins s σ H _ I h) λus s1 #[vs,H1,I1,r,q]=>#[I1.cR,?_]) he b9;exact IG M hf F hr hb Nz hx I1 r q
def A3{C0:Addr}{pl:Sem Bool}(hg:Gl X x)(hm:X.mg x=some (.ref C0))(sg:aS X.K (.ref C0) "__getattribute__"=some (some (.builtin "type.__getattribute__")))(rd:cS X.K C0 (.type "type")=true)
  (fc:da X.K (.ref C0) (.type "type") "__init__"=some (.val (.builtin "ValueError.__init__"))) (ha:PA X (e::es) t) (eV:(x==("__debug__":Str))=false:=by decide)
  (he:starEach (e::es) X.env=(false,eval e X.env)::starEach es X.env:=by rfl) (b9:(backTo pos (starEach es X.env)).any (·.1)=false:=by rfl)
  (ht:eval (.Call (.Attribute (.Name x p) "__init__" apos) (e::es) [] pos) X.env=(do
   let ov <-eval (.Name x p) X.env
   standAt apos.atName
   let (f,first) <-holding [ov] (getMethod ov "__init__" pl)
   callWith pos f first (backTo pos (starEach (e::es) X.env)) (backToKw pos (keywordEach [] X.env))):=by rfl):
  PE X (.Call (.Attribute (.Name x p) "__init__" apos) (e::es) [] pos) (RJ X.K t):=by
 intro pins s σ H Q I h;refine PySem.W.methodCall_KW (pl:=pl) (il I hg hm ?_ eV) ht;refine PySem.W.method_cls I.cR sg (PySem.W.cls_value I.cR rd fc (by decide+kernel) ?_)
 refine PyProof.Rows.callWith_builtin1 (thn (ha pos pins _ σ H _ (I.tok _) h) λus s1 #[vs,H1,I1,r1,a,C,d,y,ev,ea,xo,q1]=>?_) he b9;refine af λG0 k0=>?_;subst ev;obtain⟨u1,u2,rfl,ra,ry⟩:=r1.two;subst ra;obtain⟨nm,q,N,bs,bm,h7,sn,sub,ab,col,dd,k0,k1,k2,k3,k5,hC,cB,cA,cN⟩:=xo.obj;obtain⟨t0,et⟩:=wg I1.hok ea;obtain⟨hh,g,dr,tk,os⟩:=s1;refine k0 ?_;refine wpAny_call (u9 PySem.F.excBase_ValueError cB (I1.cR _ _ hC) et (λh' t' Qr kk=>?_) (by show 1<=sizeLine;decide))
 have I2:=I1.write (x:=a) (e:=a) (o:=pJ C a d) (t':=tk) (by rw[ea];exact True.intro) (.inl rfl) (λb u hb q=>kk b u hb q) #[_,Qr] (En Qr)
 rw[RQ ea] at I2;exact#[.aY,H1,I2,rfl,q1]
end
section
variable {X:Cx} {pins:List (Addr×Obj)} {σ:St} {H:Hp} {s:Shared} {A:Around} {E:Value->Shared->Prop} {Q:Value->Shared->Prop} {b:Bool}
end
def cC.of(f:Scope)(e:X.env.scope=f)(k:d.kind= .function)(a:∀x∈d.names,x.2= .local->d.names.lookup x.1=some .local)(b:∀x∈d.names,x.2≠ .cell)
  (c:∀x∈d.names,x.2= .free->f.names.lookup x.1=some .cell\/f.names.lookup x.1=some .free):cC X d:=#[k,a,b,λx g h=>by rw[<-e] at c;exact c x g h]
structure eZ (K:aj) (mg:Str->Option Value) (x:Str) (st:Stmt) (ps:List Str) where
 f:Addr
 fd:FuncData
 F:m8 K x x st f fd
 b:Binds K fd ps []
 m:mg x=some (.ref f)
def aR(h:H p=none)(o:HO):aJ H (upd H p o):=λb u q=>by rw[aw (aC q h)];exact q
def small(h:n<=1000):n<=sizeLine:=uW (c9 h)
abbrev i5(C t:Addr)(a:Value)(d:Option Addr):Obj:={cls:= .ref C,dict:=d,data:= .fields [.ref t,a, .none, .none, .bool false, .none].toArray}
def kF(C a:Addr)(d:Option Addr):HO:= .ext λh=>∃t b,h.get? a=some (i5 C t b d)
section
variable {P:Program} {w:World} {H:Hp} {h:Heap} {a C:Addr} {d:Option Addr}
def MS{tb:Value}(e:h.get? a=some (i5 C t tb d)):cn P w H h a (kF C a d):=#[#[t,tb,e],#[_,e],λb c #[t,tb,p] k=>#[t,tb,k _ p]]
def JF(hok:gx P w H h)(e:H a=some (kF C a d)):∃t b,h.get? a=some (i5 C t b d):=(hok a _ e).1
end
def EE(h:Heap)(T:Addr):Prop:=∃o a,h.get? T=some o/\o.data= .fields a/\a[3]? =some .none
section
variable {M:Model} {A:Around} {E:Value->Shared->Prop} {s:Shared}
def yd 
  (N:A.frames=some (env::outer)) (v:s.heap.FunFrames base (env::outer)) (O:env.frame=some L)
  (w:s.heap.get? e=some (i5 C t j d))
  (h:∀k T,s.heap.objs.size<=T->k.get? e=some (i5 C t (.ref T) d)->EE k T->(∀b o,s.heap.get? b=some o->b≠e->∃p,k.get? b=some {o with slots:=p})->
   (∀b o,s.heap.get? b=some o->b≠e->b∉rZ (env::outer)->k.get? b=some o)->Q () {s with heap:=k}):
  wpAny M A (do let a <-frameOf env;let pl <-entryPlaceOf L J;let b <-EntryCells.newEntry g a .none (rawInt L) .none pl;setField (.ref e) 1 b) (λ_ P=>wpAny M A (setFlight (.ref e) none) Q E P) E s:=by
 have q:(i5 C t j d).data= .fields [.ref t,j, .none, .none, .bool false, .none].toArray:=rfl;have R:1<([.ref t,j, .none, .none, .bool false, .none].toArray:Array Value).size:=by simp
 have S:e∉(env::outer).filterMap (·.frame):=λU=>by
  obtain⟨_,o,m,X⟩:=v.mem U;rw[w] at m;injection m with m;subst m;exact X _ q
 refine ir (wpAny_frameOf_fun N v O λc n=>?_);refine ir (wpAny_entryPlaceOf λpl y=>?_);unfold EntryCells.newEntry newFields;refine ir (aar ?_ (y.sizeOk5 _ _ _ _ _));have z:c.get? e=some (i5 C t j d):=(n.2.1 e S).trans w;have B:=Da (h:=c) {cls:= .type "traceback",dict:=none,data:= .fields ([g, .ref L, .none,rawInt L, .none]++(if pl.isEmpty then ak 6 Value.none else pl)).toArray} z;refine acz B q R ?_;have F:c.objs.size≠e:=abZ (Fk z);have G:=aaW q (·.setIfInBounds 1 (Value.ref c.objs.size));have H:=UF (Obj.mapFields (·.setIfInBounds 1 (Value.ref c.objs.size))) B (abh G)
 have I:=(P3 (c.push {cls:= .type "traceback",dict:=none,data:= .fields ([g, .ref L, .none,rawInt L, .none]++(if pl.isEmpty then ak 6 Value.none else pl)).toArray})
  (Obj.mapFields (·.setIfInBounds 1 (Value.ref c.objs.size))) (Ne.symm F)).trans (GM c rfl)
 unfold setFlight;refine ir (aaQ H G (x:= .ref c.objs.size) (by simp) ?_)
 rw[tz (show(Value.ref c.objs.size !=Value.none)=true from by simp)]
 refine acz I rfl (by simp only[cY,dh,cO,zg]<;>lia) ?_
 have keep:∀b o,b≠e->c.get? b=some o->
   (((c.push {cls:= .type "traceback",dict:=none,data:= .fields ([g, .ref L, .none,rawInt L, .none]++(if pl.isEmpty then ak 6 Value.none else pl)).toArray}).update e (Obj.mapFields (·.setIfInBounds 1 (Value.ref c.objs.size)))).update c.objs.size
     (Obj.mapFields (·.setIfInBounds 3 ((none:Option Addr).elim Value.none λf=>rawInt f)))).get? b=some o:=λb o l i=>by
  have r:c.objs.size≠b:=abZ (Fk i);rw[P3 _ _ r,P3 _ _ (Ne.symm l)];exact Da _ i
 refine h _ c.objs.size (by rw[n.1];exact bu _) ?_ #[_,_,UF _ I (abh (aaW rfl _)),aaW rfl _,by first| (simp;done) | (rcases y with rfl| ⟨_,_,_,_,_,_,_,rfl⟩<;>simp)] (λb o i l=>?_) (λb o i l u=>?_)
 .rw[P3 _ _ F];exact H
 .obtain⟨p,Y⟩:=n.2.2 b o i
  exact#[p,keep b _ l Y]
 .exact keep b o l ((n.2.1 b u).trans i)
def HX{base:Heap} 
  (G:A.frames=some (env::outer)) (H:s.heap.FunFrames base (env::outer)) (r:env.frame=some L)
  (u:s.heap.get? e=some (i5 C t g d)) (I:g= .none\/∃T,g= .ref T/\T≠e/\EE s.heap T)
  (h:∀c T,s.heap.objs.size<=T->c.get? e=some (i5 C t (.ref T) d)->EE c T->(∀b o,s.heap.get? b=some o->b≠e->∃J,c.get? b=some J)->(∀b o,s.heap.get? b=some o->b≠e->g≠ .ref b->∃k,c.get? b=some {o with slots:=k})->
   (∀b o,s.heap.get? b=some o->b≠e->g≠ .ref b->b∉rZ (env::outer)->c.get? b=some o)->Q () {s with heap:=c}):
  wpAny M A (noteFrame (.ref e) env) (λ_ N=>wpAny M A (setFlight (.ref e) none) Q E N) E s:=by
 have O:(i5 C t g d).data= .fields [.ref t,g, .none, .none, .bool false, .none].toArray:=rfl;unfold noteFrame;simp only[r];refine ir (aaQ (x:=g) u O rfl ?_)
 rcases I with rfl| ⟨T,rfl,P,Y,R,l,m,i⟩
 .rw[mo (by decide)]
  exact yd G H r u λc T p v i j y=>h c T p v i (λb o q n=>let #[k,z]:=j b o q n;#[_,z]) (λb o q n _=>j b o q n) λb o q n _=>y b o q n
 .rw[tz (show(Value.ref T !=Value.none)=true from by simp)]
  refine ir (aaQ l m i ?_);rw[mo (show ¬((Value.none==rawInt L)=true) from by simp[rawInt])]
  refine ir (acz l m (za.mp i).1 ?_);have a:∀b,b≠T->(s.heap.update T (Obj.mapFields (·.setIfInBounds 3 Value.none))).get? b=s.heap.get? b:=λb f=>P3 _ _ (Ne.symm f)
  have S:∀b o,s.heap.get? b=some o->(∀U,o.data≠ .fields U)->b≠T:=λb o f B q=>by
   rw[q,l] at f;injection f with f;subst f;exact B R m
  have F:=UF (Obj.mapFields (·.setIfInBounds 3 Value.none)) l (abh (aaW m _));refine yd (s:={s with heap:=s.heap.update T (Obj.mapFields (·.setIfInBounds 3 Value.none))}) G (H.of_keeps λb o f B=>#[o,(a b (S b o f B)).trans f,rfl]) r ((a e (Ne.symm P)).trans u) λc X p v i j y=>?_
  refine h c X (by rw[Heap.size_after_update] at p;exact p) v i (λb o q n=>?_) (λb o q n z=>j b o ((a b λw=>z (by rw[w])).trans q) n) λb o q n z=>y b o ((a b λw=>z (by rw[w])).trans q) n
  by_cases z:b=T
  .subst z
   obtain⟨k,z⟩:=j b _ F n;exact#[_,z]
  .obtain⟨k,z⟩:=j b o ((a b z).trans q) n
   exact#[_,z]
end
def VH(X:Cx)(H:Hp)(h:Heap)(a:Value):Prop:=a= .none\/∃T,a= .ref T/\X.s₀.heap.objs.size<=T/\T≠X.env.locals/\(∀x c,X.env.cells.lookup x=some c->c≠T)/\(∀p∈X.pn,p.1≠T)/\H T=none/\EE h T
def wq(X:Cx)(H:Hp)(s:Shared)(a:Addr):Prop:=∃C t b d,H a=some (kF C a d)/\s.heap.get? a=some (i5 C t b d)/\VH X H s.heap b
structure VB (P:Program) (w:World) (outer:List Env) (H:Hp) (s:Shared) (a:Addr) (H':Hp) (s':Shared):Prop where
 os:s'.os=s.os
 bare:AllBare s'.gens
 un:Un (rZ outer) [] H H' s.heap s'.heap
 hok:gx P w H' s'.heap
 obj:∃C t tb d,H' a=some (kF C a d)/\s'.heap.get? a=some (i5 C t tb d)/\(tb= .none\/∃T,tb= .ref T/\s.heap.objs.size<=T/\H' T=none/\EE s'.heap T)
def vG(P:Program)(w:World):pF:=λouter H s E e c=>∃a b,e= .ref a/\VB P w outer H s a b c/\E e none b
section
variable {X:Cx} {pins:List (Addr×Obj)} {σ:St} {H H':Hp} {s s':Shared} {a:Addr}
def Inv.Mg(I:Inv X pins σ H s):Inv X [] σ H s:=#[I.ok,I.os,I.bare,I.base,I.loc,I.cell,I.free,I.freeC,λp b=>I.pin p (by rw[fG] at b;exact i8 _ b),I.hok,I.len]
def Qd(I:Inv X pins σ H s)(f:VB X.prog X.w X.stack H s a H' s'):Inv X [] σ H' s'/\wq X H' s' a:=by
 rfl';obtain⟨os,bare,un,hok,C,t,h,d,i,j,k⟩:=f;have l:Inv X pins σ H' s':=I.He (ch:= []) os un hok bare (λb z=>absurd z (by simp))
 ac_rfl;refine#[l.Mg,C,t,h,d,i,j,k.imp id λ#[T,m,e,n,q]=>#[T,m,jr I.sz e,?_,λx c r z=>?_,λp u z=>?_,n,q]]
 .exact λz=>absurd (fk I.lt e) (by rw[z];exact gq _)
 .obtain⟨v,o,y,_⟩:=I.cell x c r
  exact absurd (fk (Fk y) e) (by rw[z];exact gq _)
 .have:=(I.pin p (i8 _ u)).1
  exact absurd (fk (Fk this) e) (by rw[z];exact gq _)
def AU(r:X.stack=X.env::X.outer)(Y:X.env.frame=some X.env.locals)(I:Inv X [] σ H s)(f:wq X H s a)
  (h:∀s',Inv X [] σ H s'->wq X H s' a->Q () s'):
  wpAny M X.A (noteFrame (.ref a) X.env) (λ_ s'=>wpAny M X.A (setFlight (.ref a) none) Q E s') E s:=by
 obtain⟨C,t,Z,d,j,h2,B⟩:=f;have fr:s.heap.FunFrames X.base (X.env::X.outer):=by rw[<-r];exact I.stack
 refine HX (base:=X.base) (by rw[I.ok.frames,r]) fr Y h2 (B.imp id λ#[T,e1,_,_,_,_,P,e7]=>#[T,e1,(λz=>by rw[z,j] at P;cases P),e7]) λk T F G J k0 k1 R=>?_
 have tr:∀b u,H b=some u->b≠a->∀o,s.heap.get? b=some o->k.get? b=some o:=λb u i vM o l=>by
  refine R b o l vM (λz=>?_) λz=>?_
  .rcases B with q| ⟨T,q,_,_,_,_,L,_⟩
   .rw[q] at z;cases z
   .rw[q] at z;cases z;rw[i] at L;cases L
  .have:=I.yM b (by rw[r];exact z)
   rw[i] at this;cases this
 have hok:gx X.prog X.w H k:=λb u i=>by
  by_cases z:b=a
  .subst z;rw[j] at i;cases i;exact MS G
  .refine(I.hok b u i).oK (λc v g q=>?_) (λ_ q=>q) λ_ _ q=>q
   rcases g with rfl|g
   .exact tr c u i z v q
   .exact tr c _ g (λw=>by rw[w,j] at g;cases g) v q
 have N:H T=none:=I.hok.fresh F;have O:∀c o,s.heap.get? c=some o->c≠T:=λc o g z=>absurd (fk (Fk g) F) (by rw[z];exact gq _)
 have fin:∀ch:List Addr,(∀b,Z= .ref b->b∈ch)->(∀b∈ch,(b∈X.ex\/X.s₀.heap.objs.size<=b)/\b≠X.env.locals/\(∀x c,X.env.cells.lookup x=some c->c≠b)/\∀p∈X.pn++ [],p.1≠b)->Inv X [] σ H {s with heap:=k}:=λch S h6=>by
  refine I.He (s':={s with heap:=k}) (ch:=ch) rfl #[λb o e n i g=>?_,λb o e n _ g=>?_,λb o _ n _=>n,λb o e _=>?_,λ_ _ q=>q,λ_ _ _ q=>q,λ_ ps q=>#[#[],by rw[q];simp]] hok I.bare h6
  .exact R b o e (λz=>by rw[z,j] at n;cases n) (λz=>g (S b z)) (by rw[<-r];exact i)
  .exact k1 b o e (λz=>by rw[z,j] at n;cases n) (λz=>g (S b z))
  .by_cases z:b=a
   .exact#[_,by rw[z];exact G]
   .exact k0 b o e z
 have I':Inv X [] σ H {s with heap:=k}:=by
  rcases B with q| ⟨U,q,q2,q3,q4,q5,L,q7⟩
  .exact fin [] (λb z=>by rw[q] at z;cases z) λb z=>absurd z (by simp)
  .refine fin [U] (λb z=>by rw[q] at z;cases z;exact dE ..) λb z=>?_
   have:b=U:=by simpa using z
   subst this;exact#[.inr q2,q3,q4,λp y=>q5 p (by rw[fG] at y;exact y)]
 refine h _ I' #[C,t, .ref T,d,j,G, .inr #[T,rfl,jr I.sz F,?_,λx c g=>?_,λp y=>?_,N,J]]
 .obtain⟨m,⟨o,_,_,l,_⟩,_⟩:=I.loc
  exact(O _ _ l).symm
 .obtain⟨v,o,l,_⟩:=I.cell x c g
  exact O _ _ l
 .exact O _ _ (I.pin p (i8 _ y)).1
end
def EF(X:Cx)(b:St)(H:Hp)(a:Addr):Prop:=∀s,Inv X [] b H s->wq X H s a->X.xe (.ref a) s
def MU{P:Program}{w:World}{K:aj}{e:Str->Option Value}{base:Heap}{N:List Str}{c:Str}{b:Scope}{f:Addr}{g:Value}{A:Around}{outer:List Env}{s k:Shared}{H i:Hp}{E:XK}{l:St}{a:Addr}
  (I:Inv (jS (vG P w) P w K e base N c b f g A outer s H E) [] l i k) (m:wq (jS (vG P w) P w K e base N c b f g A outer s H E) i k a) (h:E (.ref a) none i):(jS (vG P w) P w K e base N c b f g A outer s H E).xe (.ref a) k:=by
 show wpAny _ _ (leaving _ _) _ _ _;unfold leaving;refine ir (AU (X:=jS (vG P w) P w K e base N c b f g A outer s H E) rfl rfl I m λB j n=>?_);rfl';obtain⟨C,t,p,d,q,r,u⟩:=n;ac_rfl;exact#[a,i,rfl,#[j.os,j.bare,j.base,j.hok,C,t,p,d,q,r,u.imp id λ#[T,v,x,_,_,_,y,z]=>#[T,v,x,y,z]],h]
end L2
namespace TS
open PySem PyProof.Rows
def e9:Bool->Keyed->Array Keyed->Nat->Nat->Nat->StateT SortSt Sem (Option Nat):=sortPriv%PySem.Builtin.gallop
def pA:Array Keyed->Array Keyed->StateT SortSt Sem (Array Keyed):=sortPriv%PySem.Builtin.mergeLo
def pz:Array Keyed->Array Keyed->StateT SortSt Sem (Array Keyed):=sortPriv%PySem.Builtin.mergeHi
def setMinGallop':Nat->StateT SortSt Sem Unit:=sortPriv%PySem.Builtin.setMinGallop
def jR(left:Bool)(key:Keyed)(arr:Array Keyed)(base i:Nat):StateT SortSt Sem (Option Bool):=do
 let x <-elem' arr (base+i)
 if left then lt' x key else return (<-lt' key x).map (!·)
def E9(left:Bool)(key:Keyed)(arr:Array Keyed)(base n a:Nat):e9 left key arr base n a=(do
 let mut lastofs:=0
 let mut ofs:=1
 let mut lo:=0
 let mut hi:=0
 let some right <-jR left key arr base a|return none
 if right then
  let b:=n-a
  for _ in [0:n] do
   if ofs>=b then break
   let some more <-jR left key arr base (a+ofs) |return none
   if !more then break
   lastofs:=ofs
   ofs:=2*ofs+1
  lo:=a+lastofs+1
  hi:=a+min ofs b
 else
  let b:=a+1
  for _ in [0:n] do
   if ofs>=b then break
   let some found <-jR left key arr base (a-ofs) |return none
   if found then break
   lastofs:=ofs
   ofs:=2*ofs+1
  lo:=a+1-min ofs b
  hi:=a-lastofs
 for _ in [0:n] do
  if lo>=hi then break
  let m:=lo+(hi-lo) / 2
  let some more <-jR left key arr base m|return none
  if more then lo:=m+1 else hi:=m
 return some hi):=rfl
def gR(O:KeyOrd)(key:Keyed->O.α)(S:Keyed->Prop)(a:SortKind)(M:Model)(A:Around)(E:Value->Shared->Prop)(s:Shared):Prop:=
 ∀(x y:Keyed)(st:SortSt)(Q:Option Bool->SortSt->Prop),S x->S y->kindOf st=a->Q (some (O.blt (key x) (key y))) st->wpS M A E s (lt' x y) Q st
section
variable {O:KeyOrd} {key:Keyed->O.α} {S:Keyed->Prop} {k0:SortKind} {M:Model} {A:Around} {E:Value->Shared->Prop} {s:Shared} {st:SortSt}
def dQ(O:KeyOrd)(key:Keyed->O.α)(left:Bool)(k x:Keyed):Bool:=if left then O.blt (key x) (key k) else !O.blt (key k) (key x)
def bq{i:Nat}(h:arr[i]? =some x)(q:Q x st):wpS M A E s (elem' arr i) Q st:=by
 rw[elem'_eq,h];exact FM q
theorem kA(C:gR O key S k0 M A E s)(d:arr[base+i]? =some x)(a:S k)(b:S x)(c:kindOf st=k0)
  (q:Q (some (dQ O key left k x)) st):wpS M A E s (jR left k arr base i) Q st:=by
 unfold jR;refine Do (bq d ?_);unfold dQ at q;cases left with
 |true=>exact C _ _ _ _ b a c q
 |false=>exact Do (C _ _ _ _ a b c (FM q))
structure Seg (S:Keyed->Prop) (arr:Array Keyed) (base n:Nat) (g:Nat->Keyed):Prop where
 at_:∀i,i<n->arr[base+i]? =some (g i)
 mem:∀i,i<n->S (g i)
theorem gP(C:gR O key S k0 M A E s){base n a:Nat}(G:Seg S arr base n g)(H:S k)(J:kindOf st=k0)(X:a<n)
  (mono:∀i j,i<=j->j<n->dQ O key left k (g j)=true->dQ O key left k (g i)=true)
  (q:∀p,p<=n->(∀i,i<p->dQ O key left k (g i)=true)->(∀i,p<=i->i<n->dQ O key left k (g i)=false)->Q (some p) st):wpS M A E s (e9 left k arr base n a) Q st:=by
 rw[E9];refine Do (kA C (G.at_ _ X) H (G.mem _ X) J ?_)
 have P:∀i j,i<=j->j<n->dQ O key left k (g i)=false->dQ O key left k (g j)=false:=λi j dU hj h=>by
  cases e:dQ O key left k (g j) with
  |false=>rfl
  |true=>rw[mono i j dU hj e] at h;cases h
 have fin:∀lo b,lo<=b->b<=n->(∀i,i<lo->dQ O key left k (g i)=true)->(∀i,b<=i->i<n->dQ O key left k (g i)=false)->
   wpS M A E s (do
    let mut lo:=lo
    let mut b:=b
    for _ in [0:n] do
     if lo>=b then break
     let m:=lo+(b-lo) / 2
     let some more <-jR left k arr base m|return none
     if more then lo:=m+1 else b:=m
    return some b) Q st:=by
  intro lo b R hn B y;dsimp only
  refine Do (Pv (Re (I:=λx c f=>f=st/\∃lo b,c=(none,lo,b)/\lo<=b/\b<=n/\b-lo<=n-x/\(∀i,i<lo->dQ O key left k (g i)=true)/\(∀i,b<=i->i<n->dQ O key left k (g i)=false))
   (Q:=λc f=>f=st/\∃b,c=(none,b,b)/\b<=n/\(∀i,i<b->dQ O key left k (g i)=true)/\(∀i,b<=i->i<n->dQ O key left k (g i)=false)) ?step ?fin #[rfl,lo,b,rfl,R,hn,by lia,B,y]) ?post)
  case fin=>
   rintro c f ⟨rfl,lo,b,rfl,r,w,t,l,L⟩
   have:lo=b:=by lia
   subst this;exact#[rfl,lo,rfl,w,l,L]
  case step=>
   rintro x c f _ Y ⟨rfl,lo,b,rfl,r,w,t,l,L⟩;dsimp only
   by_cases v:lo>=b
   .rw[tz v]
    have:lo=b:=by lia
    subst this;exact FM #[rfl,lo,rfl,w,l,L]
   .rw[mo v]
    have u:lo+(b-lo) / 2<n:=by lia
    refine Do (kA C (G.at_ _ u) H (G.mem _ u) J ?_);cases e:dQ O key left k (g (lo+(b-lo) / 2)) with
    |true=>
     dsimp only;rw[tz rfl];exact FM #[rfl,_,_,rfl,by lia,w,by lia,λi b=>mono _ _ (by lia) u e,L]
    |false=>
     dsimp only;rw[mo (by decide)]
     exact FM #[rfl,_,_,rfl,by lia,by lia,by lia,l,λi B y=>P _ _ B y e]
  case post=>
   rintro c f ⟨rfl,b,rfl,T,N,F⟩;exact FM (q _ T N F)
 dsimp only;cases Z:dQ O key left k (g a) with
 |true=>
  rw[tz rfl]
  refine Do (Pv (Re (I:=λx c f=>f=st/\∃d o,c=(none,d,o)/\d<o/\x<o/\a+d<n/\dQ O key left k (g (a+d))=true)
   (Q:=λc f=>f=st/\∃d o,c=(none,d,o)/\d<o/\a+d<n/\dQ O key left k (g (a+d))=true/\(n-a<=o\/(a+o<n/\dQ O key left k (g (a+o))=false))) ?step ?fin2 #[rfl,0,1,rfl,by lia,by lia,by lia,Z]) ?post)
  case fin2=>
   rintro c f ⟨rfl,d,o,rfl,r,w,t,l⟩;exact#[rfl,d,o,rfl,r,t,l, .inl (by lia)]
  case step=>
   rintro x c f _ Y ⟨rfl,d,o,rfl,r,w,t,l⟩;dsimp only
   by_cases v:o>=n-a
   .rw[tz v]
    exact FM #[rfl,d,o,rfl,r,t,l, .inl v]
   .rw[mo v]
    have u:a+o<n:=by lia
    refine Do (kA C (G.at_ _ u) H (G.mem _ u) J ?_);cases e:dQ O key left k (g (a+o)) with
    |true=>
     dsimp only;rw[mo (by decide)]
     exact FM #[rfl,_,_,rfl,by lia,by lia,u,e]
    |false=>
     dsimp only;rw[tz (by decide)]
     exact FM #[rfl,d,o,rfl,r,t,l, .inr #[u,e]]
  case post=>
   rintro c f ⟨rfl,d,o,rfl,T,N,F,z⟩;refine fin (a+d+1) (a+min o (n-a)) (by lia) (by lia) (λi b=>mono _ _ (by lia) N F) (λi B y=>?_)
   rcases z with z| ⟨z,U⟩
   .lia
   .exact P _ _ (by lia) y U
 |false=>
  rw[mo (by decide)]
  refine Do (Pv (Re (I:=λx c f=>f=st/\∃d o,c=(none,d,o)/\d<o/\x<o/\d<=a/\dQ O key left k (g (a-d))=false)
   (Q:=λc f=>f=st/\∃d o,c=(none,d,o)/\d<o/\d<=a/\dQ O key left k (g (a-d))=false/\(a+1<=o\/(o<=a/\dQ O key left k (g (a-o))=true))) ?step ?fin2 #[rfl,0,1,rfl,by lia,by lia,by lia,Z]) ?post)
  case fin2=>
   rintro c f ⟨rfl,d,o,rfl,r,w,t,l⟩;exact#[rfl,d,o,rfl,r,t,l, .inl (by lia)]
  case step=>
   rintro x c f _ Y ⟨rfl,d,o,rfl,r,w,t,l⟩;dsimp only
   by_cases v:o>=a+1
   .rw[tz v]
    exact FM #[rfl,d,o,rfl,r,t,l, .inl v]
   .rw[mo v]
    have u:a-o<n:=by lia
    refine Do (kA C (G.at_ _ u) H (G.mem _ u) J ?_);cases e:dQ O key left k (g (a-o)) with
    |true=>
     dsimp only;rw[tz rfl];exact FM #[rfl,d,o,rfl,r,t,l, .inr #[by lia,e]]
    |false=>
     dsimp only;rw[mo (by decide)]
     exact FM #[rfl,_,_,rfl,by lia,by lia,by lia,e]
  case post=>
   rintro c f ⟨rfl,d,o,rfl,T,N,F,z⟩;refine fin (a+1-min o (a+1)) (a-d) (by lia) (by lia) (λi b=>?_) (λi B y=>P _ _ B y F)
   rcases z with z| ⟨z,U⟩
   .lia
   .exact mono _ _ (by lia) (by lia) U
end
section
variable {O:KeyOrd} {key:Keyed->O.α} {S:Keyed->Prop} {k0:SortKind} {M:Model} {A:Around} {E:Value->Shared->Prop} {s:Shared} {st bH:SortSt}
def ky(O:KeyOrd)(key:Keyed->O.α)(a:Array Keyed)(i:Nat):O.α:=key (a[i]?.getD (.none, .none))
def iO(h:a[i]? =b[j]?):ky O key a i=ky O key b j:=by unfold ky;rw[h]
def jt(O:KeyOrd)(key:Keyed->O.α)(xs:Array Keyed)(a b:Nat):Prop:=∀i j,a<=i->i<=j->j<b->O.kle (ky O key xs i) (ky O key xs j)
def Ki(O:KeyOrd)(key:Keyed->O.α)(c:Array Keyed)(a b:Nat):Prop:=∀i j,a<=i->i<=j->j<b->O.kle (ky O key c j) (ky O key c i)
structure gU (bH st:SortSt) (lo hi:Nat):Prop where
 perm:(arrOf st).Perm (arrOf bH)
 kind:kindOf st=kindOf bH
 failed:failedOf st=failedOf bH
 pend:pendingOf st=pendingOf bH
 out:∀i,i<lo\/hi<=i->(arrOf st)[i]? =(arrOf bH)[i]?
theorem gU.refl(st:SortSt)(lo a:Nat):gU st st lo a:=#[.refl _,rfl,rfl,rfl,λ_ _=>rfl]
theorem gU.trans{d e:SortSt}{lo c:Nat}(a:gU bH d lo c)(b:gU d e lo c):gU bH e lo c:=
 #[b.perm.trans a.perm,b.kind.trans a.kind,b.failed.trans a.failed,b.pend.trans a.pend,λi h=>(b.out i h).trans (a.out i h)]
theorem gU.size{lo b:Nat}(a:gU bH st lo b):(arrOf st).size=(arrOf bH).size:=a.perm.size_eq
theorem gU.mirror{lo a i j:Nat}(c:lo<=i)(d:j<=a)(b:j<=(arrOf st).size):gU st (setArr st (mirror (arrOf st) i j ((j-i) / 2))) lo a:=
 #[mirror_perm _ _ _ _,rfl,rfl,rfl,λk h=>by
  show(PyProof.Rows.mirror (arrOf st) i j ((j-i) / 2))[k]? =_;rw[getElem?_mirror_all b,mo (by lia)]]
theorem gU.bubble{lo a src d:Nat}(b:d<=src)(e:lo<=src-d)(f:src<a)(c:src<(arrOf st).size):gU st (setArr st (bubble (arrOf st) src d)) lo a:=
 #[bubble_perm _ _ _,rfl,rfl,rfl,λk h=>by
  show(PyProof.Rows.bubble (arrOf st) src d)[k]? =_;rw[getElem?_bubble c d b,mo (by lia),mo (by lia)]]
def qI{i j:Nat}(c:j<=a.size)(k:Nat):ky O key (mirror a i j ((j-i) / 2)) k=if i<=k/\k<j then ky O key a (i+j-1-k) else ky O key a k:=by
 have e:=getElem?_mirror_all (i:=i) c k
 by_cases b:i<=k/\k<j
 .rw[tz b] at e ⊢;exact iO e
 .rw[mo b] at e ⊢;exact iO e
def gd(c:j<=a.size)(b:∀k,i<=k->k<j->ky O key a k=ky O key a (j-1))(k:Nat):ky O key (mirror a i j ((j-i) / 2)) k=ky O key a k:=by
 rw[qI c]
 split
 .rw[b _ (by lia) (by lia),b k (by lia) (by lia)]
 .rfl
def xS(f:src<a.size)(g:d<=src)(k:Nat):
  ky O key (bubble a src d) k=if k=src-d then ky O key a src else if src-d<k/\k<=src then ky O key a (k-1) else ky O key a k:=by
 have e:=getElem?_bubble f d g k
 by_cases b:k=src-d
 .rw[tz b] at e ⊢;exact iO e
 .rw[mo b] at e ⊢
  by_cases c:src-d<k/\k<=src
  .rw[tz c] at e ⊢;exact iO e
  .rw[mo c] at e ⊢;exact iO e
structure Ok (S:Keyed->Prop) (k0:SortKind) (st:SortSt):Prop where
 mem:∀p,p∈(arrOf st).toList->S p
 kind:kindOf st=k0
def Ok.step{lo b:Nat}(o:Ok S k0 bH)(a:gU bH st lo b):Ok S k0 st:=
 #[λp c=>o.mem p ((Ke.mp a.perm).mem_iff.mp c),a.kind.trans o.kind]
def Ok.at{i:Nat}(o:Ok S k0 st)(a:i<(arrOf st).size):(arrOf st)[i]? =some ((arrOf st)[i]?.getD (.none, .none))/\S ((arrOf st)[i]?.getD (.none, .none)):=by
 have e:(arrOf st)[i]? =some (arrOf st)[i]:=aaK _ i a;rw[e];exact#[rfl,o.mem _ (by simp)]
def oS(C:gR O key S k0 M A E s)(o:Ok S k0 st)(a:i<(arrOf st).size)(b:j<(arrOf st).size)
  (q:Q (some (O.blt (ky O key (arrOf st) i) (ky O key (arrOf st) j))) st):wpS M A E s (ltAt' i j) Q st:=by
 rw[ltAt'_eq];obtain⟨c,d⟩:=o.at a;obtain⟨e,f⟩:=o.at b;refine Do (aaR (Do (bq c (Do (bq e (C _ _ _ _ d f o.kind q))))))
theorem wpS_binarySort(C:gR O key S k0 M A E s){lo n ok:Nat}{Q:Bool->SortSt->Prop}(o:Ok S k0 st)(X:lo+n<=(arrOf st).size)(hok:ok<=n)(F:jt O key (arrOf st) lo (lo+ok))
  (h:∀b,gU st b lo (lo+n)->jt O key (arrOf b) lo (lo+n)->Q true b):wpS M A E s (binarySort' lo n ok) Q st:=by
 rw[binarySort'_eq]
 refine wpS_bind (wpS_mono (wpS_forRange (I:=λk c b=>c=(none,())/\gU st b lo (lo+n)/\jt O key (arrOf b) lo (lo+min k n))
  (Q:=λc b=>c=(none,())/\gU st b lo (lo+n)/\jt O key (arrOf b) lo (lo+n)) ?step ?fin ?init) ?post)
 case post=>
  rintro c b ⟨rfl,f,e⟩;exact wpS_pure (h b f e)
 case init=>
  refine#[rfl, .refl _ _ _,λi j t y G=>?_]
  by_cases p:ok=0
  .have:i=j:=by lia
   subst this;exact KeyOrd.kle_refl _
  .exact F i j t y (by lia)
 case fin=>
  rintro c b ⟨H,f,e⟩;exists H,f
  rwa [show min (max (max ok 1) n) n=n by lia] at e
 case step=>
  rintro k c b J Y ⟨rfl,f,e⟩;rw[show min k n=k by lia] at e
  have L:=o.step f;have Z:=f.size;have q:lo+k<(arrOf b).size:=by lia
  refine wpS_bind (wpS_mono (wpS_forRange (I:=λx c d=>d=b/\∃l r,c=(none,l,r)/\l<=r/\r<=k/\r-l<=k-x/\
    (∀i,i<l->O.kle (ky O key (arrOf b) (lo+i)) (ky O key (arrOf b) (lo+k)))/\(∀i,r<=i->i<k->O.klt (ky O key (arrOf b) (lo+k)) (ky O key (arrOf b) (lo+i))))
   (Q:=λc d=>d=b/\∃l r,c=(none,l,r)/\l<=k/\
    (∀i,i<l->O.kle (ky O key (arrOf b) (lo+i)) (ky O key (arrOf b) (lo+k)))/\(∀i,l<=i->i<k->O.klt (ky O key (arrOf b) (lo+k)) (ky O key (arrOf b) (lo+i)))) ?istep ?ifin ?iinit) ?ipost)
  case iinit=>exact#[rfl,0,k,rfl,by lia,by lia,by lia,λi t=>by lia,λi p u=>by lia]
  case ifin=>
   rintro c d ⟨rfl,l,r,rfl,v,w,N,g,m⟩
   have:l=r:=by lia
   subst this;exact#[rfl,l,l,rfl,w,g,m]
  case istep=>
   rintro x c d _ P ⟨rfl,l,r,rfl,v,w,N,g,m⟩;dsimp only
   by_cases z:l>=r
   .rw[if_pos z]
    have:l=r:=by lia
    subst this;exact wpS_pure #[rfl,l,l,rfl,w,g,m]
   .rw[if_neg z]
    refine wpS_bind (oS C L q (by lia) ?_)
    cases B:O.blt (ky O key (arrOf d) (lo+k)) (ky O key (arrOf d) (lo+(l+r) / 2))
    case true=>
     simp only[if_true];refine wpS_pure #[rfl,l,(l+r) / 2,rfl,by lia,by lia,by lia,g,λi p u=>?_]
     exact KeyOrd.klt_of_klt_of_kle B (e _ _ (by lia) (by lia) (by lia))
    case false=>
     simp only[fE,if_false];refine wpS_pure #[rfl,(l+r) / 2+1,r,rfl,by lia,by lia,by lia,λi p=>?_,m]
     exact KeyOrd.kle_trans (e (lo+i) (lo+(l+r) / 2) (by lia) (by lia) (by lia)) (show O.kle _ _ from B)
  case ipost=>
   rintro c d ⟨rfl,l,r,rfl,R,g,m⟩;show wpS _ _ _ _ (do moveDown' (lo+k) (lo+l);pure (ForInStep.yield (none,()))) _ _
   rw[moveDown'_eq];have ed:lo+k-(lo+l)=k-l:=by lia
   refine wpS_bind (wpS_modify (wpS_pure #[rfl,f.trans (gU.bubble (by lia) (by lia) (by lia) q),?_]))
   rw[show min (k+1) n=k+1 by lia]
   intro i j t y G;show O.kle (ky O key (bubble (arrOf d) (lo+k) (lo+k-(lo+l))) i) (ky O key (bubble (arrOf d) (lo+k) (lo+k-(lo+l))) j);rw[xS q (by lia),xS q (by lia),show lo+k-(lo+k-(lo+l))=lo+l by lia]
   have T:∀a,lo<=a->a<lo+l->O.kle (ky O key (arrOf d) a) (ky O key (arrOf d) (lo+k)):=λa p u=>by
    have:=g (a-lo) (by lia);rwa [show lo+(a-lo)=a by lia] at this
   have U:∀a,lo+l<=a->a<lo+k->O.klt (ky O key (arrOf d) (lo+k)) (ky O key (arrOf d) a):=λa p u=>by
    have:=m (a-lo) (by lia) (by lia);rwa [show lo+(a-lo)=a by lia] at this
   repeat' split
   all_goals first
    | (exfalso;lia)
    |exact KeyOrd.kle_refl _
    |exact T _ (by lia) (by lia)
    |exact KeyOrd.kle_of_klt (U _ (by lia) (by lia))
    |exact e _ _ (by lia) (by lia) (by lia)
end
def EI(lo a d:Nat):StateT SortSt Sem AscSt:=
 forIn [a:d] ((none,a):AscSt) λ_ b=>do
  let c <-ltAt' (lo+b.snd) (lo+b.snd-1)
  match c with
  |some e=>if e=true then pure (ForInStep.done (none,b.snd)) else pure (ForInStep.yield (none,b.snd+1))
  |_=>pure (ForInStep.done (some none,b.snd))
def tailL(lo n b:Nat):StateT SortSt Sem (Option Nat):=do
 reverseSlice' lo (lo+n)
 let a <-EI lo n b
 match a.fst with
 |some r=>pure r
 |none=>pure (some a.snd)
def BY(lo n c:Nat):StateT SortSt Sem DescSt:=
 forIn [n:c] ((none,n,0):DescSt) λ_ a=>do
  let b <-ltAt' (lo+a.snd.fst) (lo+a.snd.fst-1)
  match b with
  |some d=>
   if d=true then
    if a.snd.snd>0 then do
     reverseSlice' (lo+a.snd.fst-(a.snd.snd+1)) (lo+a.snd.fst)
     pure (ForInStep.yield (none,a.snd.fst+1,0))
    else pure (ForInStep.yield (none,a.snd.fst+1,0))
   else do
    let b <-ltAt' (lo+a.snd.fst-1) (lo+a.snd.fst)
    match b with
    |some e=>
     if e=true then pure (ForInStep.done (none,a.snd.fst,a.snd.snd))
     else pure (ForInStep.yield (none,a.snd.fst+1,a.snd.snd+1))
    |_=>pure (ForInStep.done (some none,a.snd.fst,a.snd.snd))
  |_=>pure (ForInStep.done (some none,a.snd.fst,a.snd.snd))
def descP(lo n b:Nat):StateT SortSt Sem (Option Nat):=do
 liftM (rule "list.sort.descending-run")
 let a <-BY lo (n+1) b
 match a.fst with
 |some r=>pure r
 |none=>
  if a.snd.snd>0 then do
   reverseSlice' (lo+a.snd.fst-(a.snd.snd+1)) (lo+a.snd.fst)
   tailL lo a.snd.fst b
  else tailL lo a.snd.fst b
theorem zC(lo c:Nat):countRun' lo c=(do
  let a <-EI lo 1 c
  match a.fst with
  |some r=>pure r
  |none=>
   if (a.snd==c)=true then pure (some a.snd)
   else if a.snd>1 then do
    let e <-ltAt' lo (lo+a.snd-1)
    match e with
    |some g=>if g=true then pure (some a.snd) else do
      reverseSlice' lo (lo+a.snd)
      descP lo a.snd c
    |_=>pure none
   else descP lo a.snd c):=by
 rw[countRun'_eq];dsimp only;unfold descP tailL BY EI
 congr 1
 funext a
 obtain⟨r,n⟩:=a;cases r with
 |some r=>rfl
 |none=>
  dsimp only
  split
  .rfl
  .split
   .congr 1
    funext x
    cases x with
    |none=>rfl
    |some g=>
     dsimp only
     split
     .rfl
     .congr 1
      funext _r
      (congr 1;funext _u;congr 1;congr 1;funext s2;obtain⟨d,h,i⟩:=s2;cases d with
 |some d=>rfl
 |none=>(dsimp only;split;(congr 1;funext _v;(congr 1;funext _w;congr 1;(funext s3;obtain⟨b,f⟩:=s3;cases b<;>rfl)));(congr 1;funext _w;congr 1;(funext s3;obtain⟨b,f⟩:=s3;cases b<;>rfl))))
   ·(congr 1;funext _u;congr 1;congr 1;funext s2;obtain⟨d,h,i⟩:=s2;cases d with
 |some d=>rfl
 |none=>(dsimp only;split;(congr 1;funext _v;(congr 1;funext _w;congr 1;(funext s3;obtain⟨b,f⟩:=s3;cases b<;>rfl)));(congr 1;funext _w;congr 1;(funext s3;obtain⟨b,f⟩:=s3;cases b<;>rfl))))
section
variable {O:KeyOrd} {key:Keyed->O.α} {S:Keyed->Prop} {k0:SortKind} {prog:Program} {w:World} {A:Around} {E:Value->Shared->Prop} {s:Shared} {st bH:SortSt}
def Bf(C:gR O key S k0 (model prog w) A E s){lo a b:Nat}{Q:AscSt->SortSt->Prop}(o:Ok S k0 st)(v:lo+b<=(arrOf st).size)(y:1<=a)(f:a<=b)(l:jt O key (arrOf st) lo (lo+a))
  (h:∀n,a<=n->n<=b->jt O key (arrOf st) lo (lo+n)->(n=b\/O.klt (ky O key (arrOf st) (lo+n)) (ky O key (arrOf st) (lo+n-1)))->Q (none,n) st):
  wpS (model prog w) A E s (EI lo a b) Q st:=by
 unfold EI;refine Re (I:=λx c e=>e=st/\c=(none,x)/\jt O key (arrOf st) lo (lo+x)) ?step ?fin #[rfl,rfl,l]
 case fin=>
  rintro c e ⟨rfl,rfl,d⟩;rw[show max a b=b by lia] at d ⊢
  exact h b f (bu _) d (.inl rfl)
 case step=>
  rintro x c e m p ⟨rfl,rfl,d⟩;dsimp only;refine Do (oS C o (by lia) (by lia) ?_)
  cases g:O.blt (ky O key (arrOf e) (lo+x)) (ky O key (arrOf e) (lo+x-1))
  case true=>
   simp only[aaC];exact FM (h x m (by lia) d (.inr g))
  case false=>
   simp only[fE,On];refine FM #[rfl,rfl,λi j k q z=>?_]
   by_cases r:j<lo+x
   .exact d i j k q r
   .have t:j=lo+x:=by lia
    subst t
    by_cases u:i=lo+x
    .subst u;exact Wp _
    .exact IR (d i (lo+x-1) k (by lia) (by lia)) g
def tS(h:Q () (setArr st (mirror (arrOf st) i j ((j-i) / 2)))):wpS (model prog w) A E s (reverseSlice' i j) Q st:=by
 rw[reverseSlice'_eq];exact aa1 h
def yZ(C:gR O key S k0 (model prog w) A E s){lo n a:Nat}{Q:Option Nat->SortSt->Prop}(o:Ok S k0 st)(f:lo+a<=(arrOf st).size)(g:1<=n)(k:n<=a)(l:Ki O key (arrOf st) lo (lo+n))
  (h:∀m b,gU st b lo (lo+a)->1<=m->m<=a->jt O key (arrOf b) lo (lo+m)->Q (some m) b):wpS (model prog w) A E s (tailL lo n a) Q st:=by
 unfold tailL;have c:lo+n<=(arrOf st).size:=by lia
 refine Do (tS ?_);have d:gU st (setArr st (mirror (arrOf st) lo (lo+n) ((lo+n-lo) / 2))) lo (lo+a):=gU.mirror (bu _) (by lia) c
 refine Do (Bf C (o.step d) (by rw[d.size];exact f) g k ?_ λm p q e _=>FM (h m _ d (by lia) q e))
 intro i j r t u;show O.kle (ky O key (mirror (arrOf st) lo (lo+n) ((lo+n-lo) / 2)) i) (ky O key (mirror (arrOf st) lo (lo+n) ((lo+n-lo) / 2)) j);rw[qI c,qI c,tz (by lia),tz (by lia)]
 exact l _ _ (by lia) (by lia) (by lia)
def Ja(C:gR O key S k0 (model prog w) A E s){lo n d:Nat}{Q:DescSt->SortSt->Prop}(o:Ok S k0 st)(Y:lo+d<=(arrOf st).size)(p:1<=n)(P:n<=d)(R:Ki O key (arrOf st) lo (lo+n))
  (h:∀m b a,gU st a lo (lo+d)->n<=m->m<=d->Ki O key (arrOf a) lo (lo+m)->b+1<=m->(∀i,lo+m-(b+1)<=i->i<lo+m->ky O key (arrOf a) i=ky O key (arrOf a) (lo+m-1))->Q (none,m,b) a):
  wpS (model prog w) A E s (BY lo n d) Q st:=by
 unfold BY
 refine Re (I:=λx c a=>∃b,c=(none,x,b)/\gU st a lo (lo+d)/\Ki O key (arrOf a) lo (lo+x)/\b+1<=x/\
   (∀i,lo+x-(b+1)<=i->i<lo+x->ky O key (arrOf a) i=ky O key (arrOf a) (lo+x-1))) ?step ?fin #[0,rfl, .refl _ _ _,R,by lia,λi p r=>by congr 1;lia]
 case fin=>
  rintro c a ⟨b,rfl,e,f,q,g⟩;rw[show max n d=d by lia] at f q g ⊢
  exact h d b a e P (bu _) f q g
 case step=>
  rintro x c a Z T ⟨b,rfl,e,f,q,g⟩;dsimp only;have F:=o.step e;have hz:=e.size;have G:lo+x<=(arrOf a).size:=by lia
  refine Do (oS C F (by lia) (by lia) ?_)
  cases H:O.blt (ky O key (arrOf a) (lo+x)) (ky O key (arrOf a) (lo+x-1))
  case true=>
   simp only[aaC]
   have J:∀t:Array Keyed,(∀k,ky O key t k=ky O key (arrOf a) k)->Ki O key t lo (lo+(x+1)):=by
    intro t L i j l u U;rw[L,L]
    by_cases v:j<lo+x
    .exact f i j l u v
    .have y:j=lo+x:=by lia
     subst y
     by_cases z:i=lo+x
     .subst z;exact Wp _
     .exact IR (Os H) (f i (lo+x-1) l (by lia) (by lia))
   by_cases M:b>0
   .rw[tz M]
    refine Do (tS (FM #[0,rfl,e.trans (gU.mirror (by lia) (by lia) G),J _ (gd G g),by lia,λi p r=>by congr 1;lia]))
   .rw[mo M]
    exact FM #[0,rfl,e,J _ (λ_=>rfl),by lia,λi p r=>by congr 1;lia]
  case false=>
   simp only[fE,On];refine Do (oS C F (by lia) (by lia) ?_)
   cases X:O.blt (ky O key (arrOf a) (lo+x-1)) (ky O key (arrOf a) (lo+x))
   case true=>
    simp only[aaC];exact FM (h x b a e (by lia) (by lia) f q g)
   case false=>
    simp only[fE,On];have N:ky O key (arrOf a) (lo+x)=ky O key (arrOf a) (lo+x-1):=O.total _ _ H X;refine FM #[b+1,rfl,e,λi j l u U=>?_,by lia,λi p r=>?_]
    .by_cases v:j<lo+x
     .exact f i j l u v
     .have y:j=lo+x:=by lia
      subst y
      by_cases z:i=lo+x
      .subst z;exact Wp _
      .rw[N];exact f i (lo+x-1) l (by lia) (by lia)
    .rw[show lo+(x+1)-1=lo+x by lia]
     by_cases B:i=lo+x
     .subst B;rfl
     .rw[N];exact g i (by lia) (by lia)
def yS(C:gR O key S k0 (model prog w) A E s){lo n b:Nat}{Q:Option Nat->SortSt->Prop}(o:Ok S k0 st)(u:lo+b<=(arrOf st).size)(v:n+1<=b)(x:Ki O key (arrOf st) lo (lo+(n+1)))
  (h:∀m a,gU st a lo (lo+b)->1<=m->m<=b->jt O key (arrOf a) lo (lo+m)->Q (some m) a):wpS (model prog w) A E s (descP lo n b) Q st:=by
 unfold descP;refine Do (abc (aaL #[rfl,?_]));refine Do (Ja C o u (by lia) v x λm d a c y p q G r=>?_)
 dsimp only;have H:=c.size;have e:lo+m<=(arrOf a).size:=by lia
 by_cases t:d>0
 .rw[tz t]
  have f:gU a (setArr a (mirror (arrOf a) (lo+m-(d+1)) (lo+m) ((lo+m-(lo+m-(d+1))) / 2))) lo (lo+b):=gU.mirror (by lia) (by lia) e
  refine Do (tS (yZ C (o.step (c.trans f)) (by rw[f.size];lia) (by lia) p ?_ λg k l=>h g k ((c.trans f).trans l)))
  intro i j z B F;show O.kle (ky O key (mirror (arrOf a) _ _ _) j) (ky O key (mirror (arrOf a) _ _ _) i);rw[gd e r,gd e r];exact q i j z B F
 .rw[mo t]
  exact yZ C (o.step c) (by lia) (by lia) p q λg k l=>h g k (c.trans l)
def wpS_countRun(C:gR O key S k0 (model prog w) A E s){lo a:Nat}{Q:Option Nat->SortSt->Prop}(o:Ok S k0 st)(v:lo+a<=(arrOf st).size)(I:1<=a)
  (h:∀m e,gU st e lo (lo+a)->1<=m->m<=a->jt O key (arrOf e) lo (lo+m)->Q (some m) e):wpS (model prog w) A E s (countRun' lo a) Q st:=by
 rw[zC];refine Do (Bf C o v (bu 1) I (λi j c x y=>by have:i=j:=(by lia);subst this;exact Wp _) λn z B d f=>?_)
 dsimp only
 by_cases g:n=a
 .rw[tz (by simpa using g)]
  exact FM (h n st (.refl _ _ _) z B d)
 .rw[mo (by simpa using g)]
  have F:O.klt (ky O key (arrOf st) (lo+n)) (ky O key (arrOf st) (lo+n-1)):=f.resolve_left g
  by_cases G:n>1
  .rw[tz G]
   refine Do (oS C o (by lia) (by lia) ?_)
   cases J:O.blt (ky O key (arrOf st) lo) (ky O key (arrOf st) (lo+n-1))
   case true=>
    simp only[aaC];exact FM (h n st (.refl _ _ _) z B d)
   case false=>
    simp only[fE,On];have l:lo+n<=(arrOf st).size:=by lia
    have b:∀k,lo<=k->k<lo+n->ky O key (arrOf st) k=ky O key (arrOf st) (lo+n-1):=by
     intro k H L;have M:=d lo k (by lia) H L
     have N:=d k (lo+n-1) H (by lia) (by lia)
     exact KeyOrd.kle_antisymm N (IR J M)
    have p:gU st (setArr st (mirror (arrOf st) lo (lo+n) ((lo+n-lo) / 2))) lo (lo+a):=gU.mirror (bu _) (by lia) l
    refine Do (tS (yS C (o.step p) (by rw[p.size];lia) (by lia) ?_ λP R T=>h P R (p.trans T)))
    intro i j c x y;show O.kle (ky O key (mirror (arrOf st) _ _ _) j) (ky O key (mirror (arrOf st) _ _ _) i);rw[gd l b,gd l b]
    by_cases q:j<lo+n
    .rw[b i c (by lia),b j (by lia) q];exact Wp _
    .have U:j=lo+n:=by lia
     subst U
     by_cases r:i=lo+n
     .subst r;exact Wp _
     .rw[b i c (by lia)];exact Os F
  .rw[mo G]
   have X:n=1:=by lia
   subst X;refine yS C o v (by lia) ?_ h
   intro i j c x y
   by_cases r:i=j
   .subst r;exact Wp _
   .have t:i=lo:=by lia
    have u:j=lo+1:=by lia
    subst t;subst u;exact Os F
end
section lists
variable (O:KeyOrd) (key:Keyed->O.α)
def LE(x y:Keyed):Prop:=O.kle (key x) (key y)
structure MI (l o ra rb:List Keyed):Prop where
 perm:(o++(ra++rb)).Perm l
 so:o.Pairwise (LE O key)
 sa:ra.Pairwise (LE O key)
 sb:rb.Pairwise (LE O key)
 le:∀x∈o,∀y∈ra++rb,LE O key x y
def Res(l r:List Keyed):Prop:=r.Perm l/\r.Pairwise (LE O key)
variable {O key}
def MI.l8{l o xs e b:List Keyed}(m:MI O key l o (xs++e) b)(h:∀x∈xs,∀y∈b,LE O key x y):MI O key l (o++xs) e b:=by
 obtain⟨f,g,c⟩:=vx.mp m.sa;refine#[by simpa [qr] using m.perm,vx.mpr #[m.so,f,λx d y a=>m.le x d y (by simp[a])],g,m.sb,λx d y a=>?_]
 rcases eG.mp d with z|z
 .refine m.le x z y ?_
  rcases eG.mp a with u|u<;>simp[u]
 .rcases eG.mp a with u|u
  .exact c x z y u
  .exact h x z y u
def MI.swap(m:MI O key l o a b):MI O key l o b a:=
 #[(List.Perm.append_left o List.perm_append_comm).trans m.perm,m.so,m.sb,m.sa,λx c y d=>m.le x c y (by rcases eG.mp d with u|u<;>simp[u])]
def MI.l9{l o xs a b:List Keyed}(m:MI O key l o a (xs++b))(h:∀x∈xs,∀y∈a,LE O key x y):MI O key l (o++xs) a b:=(m.swap.l8 h).swap
def MI.E4(m:MI O key l o a []):Res O key l (o++a):=
 #[by simpa using m.perm,vx.mpr #[m.so,m.sa,λx b y c=>m.le x b y (by simp[c])]]
def MI.C8(m:MI O key l o a b)(h:∀y∈b,∀x∈a,LE O key y x):Res O key l (o++b++a):=by
 have c:MI O key l o a (b++ []):=by rw[fG];exact m
 exact(c.l9 h).E4
end lists
def Df(a b:Array Keyed)(h e f d:Nat)(out:Array Keyed)(g:Nat):StateT SortSt Sem (ForInStep (Option (Array Keyed)×Array Keyed×Nat×Nat×Nat×Nat×Nat)):=do
 let c <-elem' a d
 let out:Array Keyed:=out.push c
 let d:Nat:=d+1
 if (d+1==a.size)=true then pure (ForInStep.done (some (out++b.extract g b.size++a.extract d a.size),out,d,g,h,e,f))
 else if (decide (e<7)&&decide (f<7))=true then pure (ForInStep.done (none,out,d,g,h,e,f))
 else pure (ForInStep.yield (none,out,d,g,h,e,f))
def uz(a b:Array Keyed)(f g i d:Nat)(out:Array Keyed)(e:Nat):StateT SortSt Sem (ForInStep (Option (Array Keyed)×Array Keyed×Nat×Nat×Nat×Nat×Nat)):=do
 let c <-elem' b d
 let out:Array Keyed:=out.push c
 let d:Nat:=d+1
 if (d==b.size)=true then pure (ForInStep.done (some (out++a.extract e a.size++b.extract d b.size),out,e,d,f,g,i))
 else do
  let c <-elem' a e
  let h <-e9 true c b d (b.size-d) 0
  match h with
  |some k=>
   if k>0 then
    if (d+k==b.size)=true then pure (ForInStep.done (some (out++b.extract d (d+k)++a.extract e a.size++b.extract (d+k) b.size),out++b.extract d (d+k),e,d+k,f,g,k))
    else Df a b f g k e (out++b.extract d (d+k)) (d+k)
   else Df a b f g k e out d
  |_=>pure (ForInStep.done (some (out++a.extract e a.size++b.extract d b.size),out,e,d,f,g,i))
def qK(a b:Array Keyed)(g i c e:Nat)(out:Array Keyed)(f:Nat):StateT SortSt Sem (ForInStep (Option (Array Keyed)×Array Keyed×Nat×Nat×Nat×Nat×Nat)):=do
 setMinGallop' f
 let d <-elem' b e
 let h <-e9 false d a c (a.size-c) 0
 match h with
 |some k=>
  if k>0 then
   if (c+k+1==a.size)=true then pure (ForInStep.done (some (out++a.extract c (c+k)++b.extract e b.size++a.extract (c+k) a.size),out++a.extract c (c+k),c+k,e,f,k,g))
   else if (c+k==a.size)=true then pure (ForInStep.done (some (out++a.extract c (c+k)++a.extract (c+k) a.size++b.extract e b.size),out++a.extract c (c+k),c+k,e,f,k,g))
   else uz a b f k g e (out++a.extract c (c+k)) (c+k)
  else uz a b f k g e out c
 |_=>pure (ForInStep.done (some (out++a.extract c a.size++b.extract e b.size),out,c,e,f,i,g))
def Dh(a b:Array Keyed)(c:Option (Array Keyed)×Array Keyed×Nat×Nat×Nat×Nat×Nat):StateT SortSt Sem (ForInStep (Option (Array Keyed)×Array Keyed×Nat×Nat×Nat×Nat×Nat)):=
 if c.2.2.2.2.1>1 then qK a b c.2.2.2.2.2.2 c.2.2.2.2.2.1 c.2.2.1 c.2.2.2.1 c.2.1 (c.2.2.2.2.1-1) else qK a b c.2.2.2.2.2.2 c.2.2.2.2.2.1 c.2.2.1 c.2.2.2.1 c.2.1 c.2.2.2.2.1
def Dg(a b:Array Keyed)(e:Nat)(c:Option (Array Keyed)×Array Keyed×Nat×Nat×Nat×Nat):StateT SortSt Sem (ForInStep (Option (Array Keyed)×Array Keyed×Nat×Nat×Nat×Nat)):=do
 let y <-elem' b c.2.2.2.1
 let x <-elem' a c.2.2.1
 let d <-lt' y x
 match d with
 |some f=>
  if f=true then do
   let y <-elem' b c.2.2.2.1
   if (c.2.2.2.1+1==b.size)=true then pure (ForInStep.done (some (c.2.1.push y++a.extract c.2.2.1 a.size++b.extract (c.2.2.2.1+1) b.size),c.2.1.push y,c.2.2.1,c.2.2.2.1+1,0,c.2.2.2.2.2+1))
   else if c.2.2.2.2.2+1>=e then pure (ForInStep.done (none,c.2.1.push y,c.2.2.1,c.2.2.2.1+1,0,c.2.2.2.2.2+1))
   else pure (ForInStep.yield (none,c.2.1.push y,c.2.2.1,c.2.2.2.1+1,0,c.2.2.2.2.2+1))
  else do
   let x <-elem' a c.2.2.1
   if (c.2.2.1+1+1==a.size)=true then pure (ForInStep.done (some (c.2.1.push x++b.extract c.2.2.2.1 b.size++a.extract (c.2.2.1+1) a.size),c.2.1.push x,c.2.2.1+1,c.2.2.2.1,c.2.2.2.2.1+1,0))
   else if c.2.2.2.2.1+1>=e then pure (ForInStep.done (none,c.2.1.push x,c.2.2.1+1,c.2.2.2.1,c.2.2.2.2.1+1,0))
   else pure (ForInStep.yield (none,c.2.1.push x,c.2.2.1+1,c.2.2.2.1,c.2.2.2.2.1+1,0))
 |_=>pure (ForInStep.done (some (c.2.1++a.extract c.2.2.1 a.size++b.extract c.2.2.2.1 b.size),c.2.1,c.2.2.1,c.2.2.2.1,c.2.2.2.2.1,c.2.2.2.2.2))
def sR(a b:Array Keyed)(f:Option (Array Keyed)×Array Keyed×Nat×Nat×Nat):StateT SortSt Sem (ForInStep (Option (Array Keyed)×Array Keyed×Nat×Nat×Nat)):=do
 let e <-forIn [0:a.size+b.size] (none,f.2.1,f.2.2.1,f.2.2.2.1,0,0) λ_ c=>Dg a b f.2.2.2.2 c
 match e.1 with
 |some r=>pure (ForInStep.done (some r,e.2.1,e.2.2.1,e.2.2.2.1,f.2.2.2.2))
 |none=>do
  liftM (rule "list.sort.gallop")
  let d <-forIn [0:a.size+b.size] (none,e.2.1,e.2.2.1,e.2.2.2.1,f.2.2.2.2+1,e.2.2.2.2.1,e.2.2.2.2.2) λ_ c=>Dh a b c
  match d.1 with
  |some r=>pure (ForInStep.done (some r,d.2.1,d.2.2.1,d.2.2.2.1,d.2.2.2.2.1))
  |none=>do
   setMinGallop' (d.2.2.2.2.1+1)
   pure (ForInStep.yield (none,d.2.1,d.2.2.1,d.2.2.2.1,d.2.2.2.2.1+1))
def bnd{b d:Type}{m c:StateT SortSt Sem b}{f a:b->StateT SortSt Sem d}(h:m=c)(g:∀x,f x=a x):m>>=f=c>>=a:=by rw[h,show f=a from funext g]
def B8{a:Type}{n:Nat}{d:a}{f b:Nat->a->StateT SortSt Sem (ForInStep a)}(h:∀i c,f i c=b i c):forIn [0:n] d f=forIn [0:n] d b:=by rw[show f=b from funext λi=>funext (h i)]
def fB [Decidable c] (h:c->x=a) (g:¬c->y=b):(if c then x else y)=if c then a else b:=by
 by_cases e:c
 .rw[tz e,tz e];exact h e
 .rw[mo e,mo e];exact g e
def z8(a b:Array Keyed):pA a b=(do
 rule "list.sort.merge-lo"
 let total:=a.size+b.size
 let done (out:Array Keyed) (c d:Nat):=out++a.extract c a.size++b.extract d b.size
 let e (out:Array Keyed) (c d:Nat):=out++b.extract d b.size++a.extract c a.size
 let mut out:Array Keyed:= [<-elem' b 0].toArray
 let mut c:=0
 let mut d:=1
 if d==b.size then return done out c d
 if c+1==a.size then return e out c d
 let mut minGallop:=gallopOf (<-get)
 for _ in [0:total] do
  let mut acount:=0
  let mut bcount:=0
  for _ in [0:total] do
   let some Hc <-lt' (<-elem' b d) (<-elem' a c) |return done out c d
   if Hc then
    out:=out.push (<-elem' b d);d:=d+1;bcount:=bcount+1;acount:=0
    if d==b.size then return done out c d
    if bcount>=minGallop then break
   else
    out:=out.push (<-elem' a c);c:=c+1;acount:=acount+1;bcount:=0
    if c+1==a.size then return e out c d
    if acount>=minGallop then break
  rule "list.sort.gallop"
  minGallop:=minGallop+1
  for _ in [0:total] do
   if minGallop>1 then minGallop:=minGallop-1
   setMinGallop' minGallop
   let some k <-e9 false (<-elem' b d) a c (a.size-c) 0|return done out c d
   acount:=k
   if k>0 then
    out:=out++a.extract c (c+k);c:=c+k
    if c+1==a.size then return e out c d
    if c==a.size then return done out c d
   out:=out.push (<-elem' b d);d:=d+1
   if d==b.size then return done out c d
   let some k <-e9 true (<-elem' a c) b d (b.size-d) 0|return done out c d
   bcount:=k
   if k>0 then
    out:=out++b.extract d (d+k);d:=d+k
    if d==b.size then return done out c d
   out:=out.push (<-elem' a c);c:=c+1
   if c+1==a.size then return e out c d
   if acount<7&&bcount<7 then break
  minGallop:=minGallop+1
  setMinGallop' minGallop
 unsupported "internal:list.sort.merge-bound"):=rfl
theorem Dq(a b:Array Keyed):pA a b=(do
 liftM (rule "list.sort.merge-lo")
 let y <-elem' b 0
 if (1==b.size)=true then pure ([y].toArray++a.extract 0 a.size++b.extract 1 b.size)
 else if (0+1==a.size)=true then pure ([y].toArray++b.extract 1 b.size++a.extract 0 a.size)
 else do
  let d <-get
  let e <-forIn [0:a.size+b.size] (none, [y].toArray,0,1,gallopOf d) λ_ c=>sR a b c
  match e.1 with
  |some r=>pure r
  |none=>liftM (unsupported (α:=Array Keyed) "internal:list.sort.merge-bound")):=by
 rw[z8];dsimp only;refine bnd rfl λ_=>bnd rfl λy=>?_;refine KB (ite _ _) (KB (ite _ _) ?_);refine bnd rfl λg=>bnd (B8 λ_ c=>?_) λu=>?_
 .unfold sR
  refine bnd (B8 λ_ t=>?_) λt=>?_
  .unfold Dg
   refine bnd rfl λ_=>bnd rfl λ_=>bnd rfl λz=>?_;cases z<;>rfl
  .obtain⟨i,l⟩:=t
   cases i with
   |some r=>rfl
   |none=>
    dsimp only;refine bnd rfl λ_=>bnd (B8 λ_ u=>?_) λu=>?_
    .unfold Dh
     have m:∀h,qK a b u.2.2.2.2.2.2 u.2.2.2.2.2.1 u.2.2.1 u.2.2.2.1 u.2.1 h=qK a b u.2.2.2.2.2.2 u.2.2.2.2.2.1 u.2.2.1 u.2.2.2.1 u.2.1 h:=λ_=>rfl;refine fB (λ_=>?_) (λ_=>?_)
     all_goals
      unfold qK;refine bnd rfl λ_=>bnd rfl λ_=>bnd rfl λz=>?_;cases z with
      |none=>rfl
      |some k=>
       dsimp only;refine fB (λ_=>?_) (λ_=>?_)
       .refine fB (λ_=>rfl) (λ_=>fB (λ_=>rfl) (λ_=>?_))
        unfold uz;refine bnd rfl λ_=>fB (λ_=>rfl) (λ_=>bnd rfl λ_=>bnd rfl λz=>?_);cases z with
        |none=>rfl
        |some k=>rfl
       .unfold uz
        refine bnd rfl λ_=>fB (λ_=>rfl) (λ_=>bnd rfl λ_=>bnd rfl λz=>?_);cases z with
        |none=>rfl
        |some k=>rfl
    .obtain⟨f,j⟩:=u
     cases f<;>rfl
 .obtain⟨f,j⟩:=u
  cases f<;>rfl
structure GS (st ar:SortSt):Prop where
 arr:arrOf ar=arrOf st
 kind:kindOf ar=kindOf st
 failed:failedOf ar=failedOf st
 pend:pendingOf ar=pendingOf st
def GS.refl(st:SortSt):GS st st:=#[rfl,rfl,rfl,rfl]
theorem GS.trans(x:GS a b)(y:GS b c):GS a c:=#[y.arr.trans x.arr,y.kind.trans x.kind,y.failed.trans x.failed,y.pend.trans x.pend]
def tN(g:Nat):setMinGallop' g=modify λs=>SortSt.mk' (kindOf s) (arrOf s) (pendingOf s) g (failedOf s):=rfl
def ext_toList(a:Array Keyed)(i j:Nat):(a.extract i j).toList=(a.toList.drop i).take (j-i):=by
 rw[Array.toList_extract]
def lh(a:Array Keyed)(i:Nat):(a.extract i a.size).toList=a.toList.drop i:=by
 rw[ext_toList,vw (by simp)]
def drop_cons{xs:Array Keyed}(h:xs[i]? =some x):xs.toList.drop i=x::xs.toList.drop (i+1):=by
 have a:xs.toList[i]? =some x:=by rw[<-h];simp
 obtain⟨b,e⟩:=cX.mp a;rw[tT b,e]
def nz(l:List Keyed)(i k:Nat):l.drop i=(l.drop i).take k++l.drop (i+k):=by
 rw[<-List.drop_drop,mT]
def eE{l:List Keyed}{i k:Nat}{x:Keyed}(h:x∈(l.drop i).take k):∃j,j<k/\i+j<l.length/\l[i+j]? =some x:=by
 obtain⟨j,a⟩:=mU h;rw[List.getElem?_take] at a
 split at a
 .rename_i c
  rw[ze] at a;exact#[j,c,(cX.mp a).1,a]
 .cases a
def gE{l:List Keyed}{i:Nat}{x:Keyed}(h:x∈l.drop i):∃j,i+j<l.length/\l[i+j]? =some x:=by
 obtain⟨j,a⟩:=mU h;rw[ze] at a;exact#[j,(cX.mp a).1,a]
section
variable {O:KeyOrd} {key:Keyed->O.α} {S:Keyed->Prop} {k0:SortKind} {M:Model} {A:Around} {E:Value->Shared->Prop} {s:Shared} {st bH:SortSt}
def pE(h:∀a,GS st a->Q () a):wpS M A E s (setMinGallop' g) Q st:=by
 rw[tN];exact aa1 (h _ #[rfl,rfl,rfl,rfl])
structure mW (O:KeyOrd) (key:Keyed->O.α) (S:Keyed->Prop) (a b:Array Keyed):Prop where
 ma:∀x∈a.toList,S x
 mb:∀x∈b.toList,S x
 sa:a.toList.Pairwise (LE O key)
 sb:b.toList.Pairwise (LE O key)
 na:1<=a.size
 nb:1<=b.size
 first:∀y,b[0]? =some y->∀x∈a.toList,LE O key y x
 last:∀x,a[a.size-1]? =some x->∀y∈b.toList,LE O key y x
def mW.C8(T:mW O key S a b)(h:c+1=a.size):∀y∈b.toList.drop d,∀x∈a.toList.drop c,LE O key y x:=λy f x g=>by
 obtain⟨j,i,e⟩:=gE g;rw[fY] at i
 have:c+j=a.size-1:=by lia
 rw[this] at e;exact T.last x (by rw[<-e];simp) y (List.mem_of_mem_drop f)
def fV{l:List Keyed}(h:l.Pairwise (LE O key)){i j:Nat}{x y:Keyed}(k:i<=j)(b:l[i]? =some x)(a:l[j]? =some y):LE O key x y:=by
 by_cases e:i=j
 .subst e
  rw[b] at a;cases a;exact Wp _
 .obtain⟨c,d⟩:=cX.mp b
  obtain⟨f,g⟩:=cX.mp a;rw[<-d,<-g];exact GJ.mp h i j c f (by lia)
def pD{xs:Array Keyed}(m:∀x∈xs.toList,S x){i n:Nat}(h:i+n<=xs.size):Seg S xs i n (λj=>xs[i+j]?.getD (.none, .none)):=
 #[λj a=>by
  have:i+j<xs.size:=by lia
  rw[aaK xs (i+j) this];rfl,λj a=>by
  have:i+j<xs.size:=by lia
  rw[aaK xs (i+j) this];exact m _ (by simp)]
def bA{xs:Array Keyed}{i:Nat}(h:i<xs.size):∃x,xs[i]? =some x/\x∈xs.toList/\xs.toList[i]? =some x:=by
 refine#[xs[i],aaK xs i h,by simp,?_]
 rw[fM];exact aaK xs i h
def lD{a:Array Keyed}{i:Nat}{x:Keyed}(h:a[i]? =some x):a.toList[i]? =some x:=by rw[fM];exact h
def kj{a:Array Keyed}{i:Nat}{x:Keyed}(h:a.toList[i]? =some x):a[i]? =some x:=by rw[<-fM];exact h
structure IV (O:KeyOrd) (key:Keyed->O.α) (a b out:Array Keyed) (ia ib:Nat):Prop where
 mi:MI O key (a.toList++b.toList) out.toList (a.toList.drop ia) (b.toList.drop ib)
 ha:ia<a.size
 hb:ib<b.size
def IV.uO{a b out:Array Keyed}(v:MI O key (a.toList++b.toList) out.toList (a.toList.drop c) (b.toList.drop d))(e:b[d]? =some y)(h:∀x∈a.toList.drop c,LE O key y x):
  MI O key (a.toList++b.toList) (out.push y).toList (a.toList.drop c) (b.toList.drop (d+1)):=by
 rw[drop_cons e] at v;rw[Bo];exact MI.l9 (xs:= [y]) v λx f=>by rw[fm.mp f];exact h
def IV.uN{a b out:Array Keyed}(v:MI O key (a.toList++b.toList) out.toList (a.toList.drop c) (b.toList.drop d))(e:a[c]? =some x)(h:∀y∈b.toList.drop d,LE O key x y):
  MI O key (a.toList++b.toList) (out.push x).toList (a.toList.drop (c+1)) (b.toList.drop d):=by
 rw[drop_cons e] at v;rw[Bo];exact MI.l8 (xs:= [x]) v λx e=>by rw[fm.mp e];exact h
theorem IV.l9{a b out:Array Keyed}(v:MI O key (a.toList++b.toList) out.toList (a.toList.drop d) (b.toList.drop c))(h:∀y∈(b.toList.drop c).take k,∀x∈a.toList.drop d,LE O key y x):
  MI O key (a.toList++b.toList) (out++b.extract c (c+k)).toList (a.toList.drop d) (b.toList.drop (c+k)):=by
 rw[nz b.toList c k] at v;rw[jn,ext_toList,show c+k-c=k by lia]
 exact MI.l9 v h
theorem IV.l8{a b out:Array Keyed}(v:MI O key (a.toList++b.toList) out.toList (a.toList.drop c) (b.toList.drop d))(h:∀x∈(a.toList.drop c).take k,∀y∈b.toList.drop d,LE O key x y):
  MI O key (a.toList++b.toList) (out++a.extract c (c+k)).toList (a.toList.drop (c+k)) (b.toList.drop d):=by
 rw[nz a.toList c k] at v;rw[jn,ext_toList,show c+k-c=k by lia]
 exact MI.l8 v h
def IV.t7{a b out:Array Keyed}(v:MI O key (a.toList++b.toList) out.toList (a.toList.drop d) (b.toList.drop c))(h:c=b.size):Res O key (a.toList++b.toList) (out++a.extract d a.size++b.extract c b.size).toList:=by
 have e:b.toList.drop c= []:=GL (by rw[fY];lia)
 rw[jn,jn,lh,lh,e,fG];rw[e] at v;exact v.E4
def IV.t6{a b out:Array Keyed}(v:MI O key (a.toList++b.toList) out.toList (a.toList.drop c) (b.toList.drop d))(h:c=a.size):Res O key (a.toList++b.toList) (out++a.extract c a.size++b.extract d b.size).toList:=by
 have e:a.toList.drop c= []:=GL (by rw[fY];lia)
 rw[jn,jn,lh,lh,e,fG];rw[e] at v;exact v.swap.E4
def IV.last(T:mW O key S a b)(v:MI O key (a.toList++b.toList) out.toList (a.toList.drop c) (b.toList.drop d))(h:c+1=a.size):Res O key (a.toList++b.toList) (out++b.extract d b.size++a.extract c a.size).toList:=by
 rw[jn,jn,lh,lh];exact v.C8 (T.C8 h)
end
section
variable {O:KeyOrd} {key:Keyed->O.α} {S:Keyed->Prop} {k0:SortKind} {M:Model} {A:Around} {E:Value->Shared->Prop} {s:Shared} {st bH:SortSt} {a b:Array Keyed}
def Inv(O:KeyOrd)(key:Keyed->O.α)(a b:Array Keyed)(n:Nat)(out:Array Keyed)(c d:Nat):Prop:=MI O key (a.toList++b.toList) out.toList (a.toList.drop c) (b.toList.drop d)/\c+1<a.size/\d<b.size/\n<=c+d
def Fin{d:Type}(O:KeyOrd)(key:Keyed->O.α)(a b:Array Keyed)(n:Nat)(c:Option (Array Keyed)×Array Keyed×Nat×Nat×d):Prop:=
 (∃r,c.1=some r/\Res O key (a.toList++b.toList) r.toList)\/(c.1=none/\Inv O key a b n c.2.1 c.2.2.1 c.2.2.2.1)
def Out{d:Type}(O:KeyOrd)(key:Keyed->O.α)(a b:Array Keyed)(n:Nat)(r:ForInStep (Option (Array Keyed)×Array Keyed×Nat×Nat×d)):Prop:=match r with
 | .done c=>Fin O key a b n c
 | .yield c=>c.1=none/\Inv O key a b n c.2.1 c.2.2.1 c.2.2.2.1
def VF{d:Type}(O:KeyOrd)(key:Keyed->O.α)(a b:Array Keyed)(n:Nat)(r:ForInStep (Option (Array Keyed)×Array Keyed×Nat×Nat×d)):Prop:=match r with
 | .done c=>∃r,c.1=some r/\Res O key (a.toList++b.toList) r.toList
 | .yield c=>c.1=none/\Inv O key a b n c.2.1 c.2.2.1 c.2.2.2.1
def yY(T:mW O key S a b)(g:GS bH st)(v:MI O key (a.toList++b.toList) out.toList (a.toList.drop c) (b.toList.drop d))(u:c+1<a.size)(p:d<b.size)(w:n<=c+d)
  (q:∀x,a[c]? =some x->∀y∈b.toList.drop d,LE O key x y):wpS M A E s (Df a b o h j c out d) (λr t=>GS bH t/\Out O key a b n r) st:=by
 unfold Df;obtain⟨x,e,z,_⟩:=bA (xs:=a) (i:=c) (by lia)
 refine Do (bq e ?_);have k:=IV.uN v e (q x e);dsimp only
 by_cases f:c+1+1=a.size
 .rw[tz (by simpa using f)]
  exact FM #[g, .inl #[_,rfl,IV.last T k f]]
 .rw[mo (by simpa using f)]
  have l:Inv O key a b n (out.push x) (c+1) d:=#[k,by lia,p,by lia]
  by_cases m:(decide (h<7)&&decide (j<7))=true
  .rw[tz m]
   exact FM #[g, .inr #[rfl,l]]
  .rw[mo m]
   exact FM #[g,rfl,l]
def yX(C:gR O key S k0 M A E s)(Q:kindOf st=k0)(T:mW O key S a b)(g:GS bH st)(v:MI O key (a.toList++b.toList) out.toList (a.toList.drop d) (b.toList.drop c))(G:d+1<a.size)(Y:c<b.size)(hn:n<=d+c)
  (Z:∀y,b[c]? =some y->∀x∈a.toList.drop d,LE O key y x):wpS M A E s (uz a b R U X c out d) (λr ar=>GS bH ar/\Out O key a b n r) st:=by
 unfold uz;obtain⟨y,m,my,_⟩:=bA (xs:=b) (i:=c) Y;refine Do (bq m ?_);have o:=IV.uO v m (Z y m);dsimp only
 by_cases q:c+1=b.size
 .rw[tz (by simpa using q)]
  exact FM #[g, .inl #[_,rfl,IV.t7 o q]]
 .rw[mo (by simpa using q)]
  obtain⟨x,H,mx,lx⟩:=bA (xs:=a) (i:=d) (by lia)
  refine Do (bq H ?_)
  have t:∀z∈a.toList.drop d,LE O key x z:=λz f=>by
   obtain⟨j,_,k⟩:=gE f;exact fV T.sa (by lia) lx k
  have I:∀j z,c+1+j<b.size->b.toList[c+1+j]? =some z->b[c+1+j]?.getD (Value.none,Value.none)=z:=λj z w e=>by rw[kj e];rfl
  refine Do (gP C (pD T.mb (i:=c+1) (n:=b.size-(c+1)) (by lia)) (T.ma x mx) Q (by lia) (λi j dU w h=>?_) λp hp pt pf=>?_)
  .obtain⟨yi,e1,_,l1⟩:=bA (xs:=b) (i:=c+1+i) (by lia)
   obtain⟨yj,e2,_,l2⟩:=bA (xs:=b) (i:=c+1+j) (by lia)
   unfold dQ at h ⊢;rw[tz rfl] at h ⊢;rw[e2] at h;rw[e1];exact aaX (fV T.sb (by lia) l1 l2) h
  .have lo:∀y∈(b.toList.drop (c+1)).take p,∀x∈a.toList.drop d,LE O key y x:=λz f u hu=>by
    obtain⟨j,w,l,k⟩:=eE f;rw[fY] at l
    have:=pt j w
    unfold dQ at this;rw[tz rfl,I j z l k] at this;exact IR (Os this) (t u hu)
   have J:∀B,a[d]? =some B->∀y∈b.toList.drop (c+1+p),LE O key B y:=λB L z f=>by
    rw[H] at L;cases L;obtain⟨j,l,k⟩:=gE f;rw[fY] at l
    have:=pf (p+j) (by lia) (by lia)
    unfold dQ at this;rw[tz rfl,I (p+j) z (by lia) (by rw[<-k];congr 1;lia)] at this
    exact this
   dsimp only
   by_cases N:p>0
   .rw[tz N]
    have P:=IV.l9 o lo
    by_cases F:c+1+p=b.size
    .rw[tz (by simpa using F)]
     exact FM #[g, .inl #[_,rfl,IV.t7 P F]]
    .rw[mo (by simpa using F)]
     exact yY T g P G (by lia) (by lia) J
   .rw[mo N]
    have:p=0:=by lia
    subst this;exact yY T g o G (by lia) (by lia) J
def yW(C:gR O key S k0 M A E s)(U:kindOf st=k0)(T:mW O key S a b)(g:GS bH st)(iv:Inv O key a b n out c d):wpS M A E s (qK a b Z Y c d out X) (λr ar=>GS bH ar/\Out O key a b n r) st:=by
 obtain⟨v,ha,o,hn⟩:=iv;unfold qK;refine Do (pE λD8 J=>?_);have q:kindOf D8=k0:=J.kind.trans U;have l:=g.trans J;obtain⟨y,L,my,ly⟩:=bA (xs:=b) (i:=d) o;refine Do (bq L ?_)
 have t:∀z∈b.toList.drop d,LE O key y z:=λz f=>by
  obtain⟨j,_,k⟩:=gE f;exact fV T.sb (by lia) ly k
 have N:∀j z,c+j<a.size->a.toList[c+j]? =some z->a[c+j]?.getD (Value.none,Value.none)=z:=λj z w e=>by rw[kj e];rfl
 refine Do (gP C (pD T.ma (i:=c) (n:=a.size-c) (by lia)) (T.mb y my) q (by lia) (λi j dU w h=>?_) λp hp pt pf=>?_)
 .obtain⟨xi,e1,_,l1⟩:=bA (xs:=a) (i:=c+i) (by lia)
  obtain⟨xj,e2,_,l2⟩:=bA (xs:=a) (i:=c+j) (by lia)
  unfold dQ at h ⊢;rw[mo (by decide)] at h ⊢
  rw[e2] at h;rw[e1];have B:O.kle (key xj) (key y):=by unfold KeyOrd.kle;simpa using h
  have:=IR (fV T.sa (by lia) l1 l2) B
  unfold KeyOrd.kle at this;simpa using this
 .have lo:∀x∈(a.toList.drop c).take p,∀y∈b.toList.drop d,LE O key x y:=λz f u hu=>by
   obtain⟨j,w,m,k⟩:=eE f;rw[fY] at m
   have:=pt j w
   unfold dQ at this;rw[mo (by decide),N j z m k] at this
   have B:O.kle (key z) (key y):=by unfold KeyOrd.kle;simpa using this
   exact IR B (t u hu)
  have P:∀F,b[d]? =some F->∀x∈a.toList.drop (c+p),LE O key F x:=λF Q z f=>by
   rw[L] at Q;cases Q;obtain⟨j,m,k⟩:=gE f;rw[fY] at m
   have:=pf (p+j) (by lia) (by lia)
   unfold dQ at this;rw[mo (by decide),N (p+j) z (by lia) (by rw[<-k];congr 1;lia)] at this
   exact Os (show O.blt _ _=true by simpa using this)
  dsimp only
  by_cases R:p>0
  .rw[tz R]
   have G:=IV.l8 v lo
   by_cases H:c+p+1=a.size
   .rw[tz (by simpa using H)]
    exact FM #[l, .inl #[_,rfl,IV.last T G H]]
   .rw[mo (by simpa using H)]
    by_cases I:c+p=a.size
    .rw[tz (by simpa using I)]
     exact FM #[l, .inl #[_,rfl,IV.t6 G I]]
    .rw[mo (by simpa using I)]
     exact yX C q T l G (by lia) o (by lia) P
  .rw[mo R]
   have:p=0:=by lia
   subst this;exact yX C q T l v ha o hn P
def Je(C:gR O key S k0 M A E s)(d:kindOf st=k0)(T:mW O key S a b)(g:GS bH st)(c:Option (Array Keyed)×Array Keyed×Nat×Nat×Nat×Nat×Nat)(e:Inv O key a b n c.2.1 c.2.2.1 c.2.2.2.1):
  wpS M A E s (Dh a b c) (λr f=>GS bH f/\Out O key a b n r) st:=by
 unfold Dh
 by_cases h:c.2.2.2.2.1>1
 .rw[tz h];exact yW C d T g e
 .rw[mo h];exact yW C d T g e
theorem Jd(C:gR O key S k0 M A E s)(B:kindOf st=k0)(T:mW O key S a b)(g:GS bH st)(c:Option (Array Keyed)×Array Keyed×Nat×Nat×Nat×Nat)(d:Inv O key a b n c.2.1 c.2.2.1 c.2.2.2.1):
  wpS M A E s (Dg a b o c) (λr F=>GS bH F/\Out O key a b (n+1) r) st:=by
 obtain⟨R,out,l,m,G,H⟩:=c;obtain⟨v,I,w,J⟩:=d;dsimp only at v I w J;unfold Dg;dsimp only;obtain⟨y,p,L,N⟩:=bA (xs:=b) (i:=m) w;obtain⟨x,q,P,Q⟩:=bA (xs:=a) (i:=l) (by lia)
 refine Do (bq p (Do (bq q (Do (C _ _ _ _ (T.mb y L) (T.ma x P) B ?_)))));cases e:O.blt (key y) (key x) with
 |true=>
  dsimp only;rw[tz rfl];refine Do (bq p ?_)
  have h:=IV.uO v p λz t=>by
   obtain⟨j,_,u⟩:=gE t;exact IR (Os e) (fV T.sa (by lia) Q u)
  by_cases f:m+1=b.size
  .rw[tz (by simpa using f)]
   exact FM #[g, .inl #[_,rfl,IV.t7 h f]]
  .rw[mo (by simpa using f)]
   have d:Inv O key a b (n+1) (out.push y) l (m+1):=#[h,by lia,by lia,by lia]
   by_cases k:H+1>=o
   .rw[tz k];exact FM #[g, .inr #[rfl,d]]
   .rw[mo k];exact FM #[g,rfl,d]
 |false=>
  dsimp only;rw[mo (by decide)]
  refine Do (bq q ?_)
  have h:=IV.uN v q λz t=>by
   obtain⟨j,_,u⟩:=gE t;exact IR e (fV T.sb (by lia) N u)
  by_cases f:l+1+1=a.size
  .rw[tz (by simpa using f)]
   exact FM #[g, .inl #[_,rfl,IV.last T h f]]
  .rw[mo (by simpa using f)]
   have d:Inv O key a b (n+1) (out.push x) (l+1) m:=#[h,by lia,by lia,by lia]
   by_cases k:G+1>=o
   .rw[tz k];exact FM #[g, .inr #[rfl,d]]
   .rw[mo k];exact FM #[g,rfl,d]
def Inv.le(h:Inv O key a b n out c d)(e:m<=n):Inv O key a b m out c d:=#[h.1,h.2.1,h.2.2.1,jr e h.2.2.2]
theorem Ej(C:gR O key S k0 M A E s)(B:kindOf st=k0)(T:mW O key S a b)(g:GS bH st)(p:kindOf bH=k0)(c:Option (Array Keyed)×Array Keyed×Nat×Nat×Nat)(q:Inv O key a b n c.2.1 c.2.2.1 c.2.2.2.1):
  wpS M A E s (sR a b c) (λr h=>GS bH h/\VF O key a b (n+1) r) st:=by
 have F:0<a.size+b.size:=by have:=T.na;lia
 unfold sR;refine Do (Pv (Re (I:=λ(x:Nat)(f:Option (Array Keyed)×Array Keyed×Nat×Nat×Nat×Nat)(h:SortSt)=>GS bH h/\f.1=none/\Inv O key a b (n+min x 1) f.2.1 f.2.2.1 f.2.2.2.1) (Q:=λf h=>GS bH h/\Fin O key a b (n+1) f) ?step ?fin #[g,rfl,q.le (by lia)]) ?post)
 case fin=>
  rintro f h ⟨i,l,j⟩;exact#[i, .inr #[l,j.le (by lia)]]
 case step=>
  rintro x f h _ _ ⟨i,l,j⟩;refine Pv (Jd C (i.kind.trans p) T i f j) λr t #[m,o]=>?_;cases r with
  |done d=>
   exists m
   rcases o with o| ⟨u,v⟩
   .exact .inl o
   .exact .inr #[u,v.le (by lia)]
  |yield d=>exact#[m,o.1,o.2.le (by lia)]
 case post=>
  rintro⟨G,H⟩ h ⟨i,o⟩
  rcases o with ⟨r,e,k⟩ | ⟨e,w⟩
  .dsimp only at e
   subst e;exact FM #[i,r,rfl,k]
  .dsimp only at e
   subst e;dsimp only;refine Do (abc (aaL #[rfl,?_]));refine Do (Pv (Re (I:=λ(x:Nat)(f:Option (Array Keyed)×Array Keyed×Nat×Nat×Nat×Nat×Nat)(h:SortSt)=>GS bH h/\f.1=none/\Inv O key a b (n+1) f.2.1 f.2.2.1 f.2.2.2.1) (Q:=λf h=>GS bH h/\Fin O key a b (n+1) f) ?step2 ?fin2 #[i,rfl,w]) ?post2)
   case fin2=>
    rintro f h ⟨i,l,j⟩;exact#[i, .inr #[l,j]]
   case step2=>
    rintro x f h _ _ ⟨i,l,j⟩;refine Pv (Je C (i.kind.trans p) T i f j) λr t #[m,o]=>?_;cases r with
    |done d=>exact#[m,o]
    |yield d=>exact#[m,o]
   case post2=>
    rintro⟨J,L⟩ h ⟨i,o⟩
    rcases o with ⟨r,e,k⟩ | ⟨e,y⟩
    .dsimp only at e
     subst e;exact FM #[i,r,rfl,k]
    .dsimp only at e
     subst e;refine Do (pE λN z=>FM #[i.trans z,rfl,y])
def Em(C:gR O key S k0 M A E s)(n:kindOf st=k0)(T:mW O key S a b)(q:∀r c,GS st c->Res O key (a.toList++b.toList) r.toList->Q r c):wpS M A E s (pA a b) Q st:=by
 rw[Dq];refine Do (abc (aaL #[rfl,?_]));obtain⟨y,l,v,w⟩:=bA (xs:=b) (i:=0) T.nb;refine Do (bq l ?_);have t:MI O key (a.toList++b.toList) (#[]:Array Keyed).toList (a.toList.drop 0) (b.toList.drop 0):=#[by simp,by simp,by simpa using T.sa,by simpa using T.sb,by simp]
 have k:=IV.uO t l (by simpa using T.first y l)
 have u:(#[]:Array Keyed).push y= [y].toArray:=rfl;rw[u] at k
 by_cases h:1=b.size
 .rw[tz (by simpa using h)]
  exact FM (q _ _ (GS.refl _) (IV.t7 k h))
 .rw[mo (by simpa using h)]
  by_cases f:0+1=a.size
  .rw[tz (by simpa using f)]
   exact FM (q _ _ (GS.refl _) (IV.last T k f))
  .rw[mo (by simpa using f)]
   refine Do (aaR ?_);have z:=T.na;have B:=T.nb;refine Do (Pv (Re (I:=λ(x:Nat)(g:Option (Array Keyed)×Array Keyed×Nat×Nat×Nat)(c:SortSt)=>GS st c/\g.1=none/\Inv O key a b (x+1) g.2.1 g.2.2.1 g.2.2.2.1) (Q:=λg c=>GS st c/\∃r,g.1=some r/\Res O key (a.toList++b.toList) r.toList) ?step ?fin #[GS.refl _,rfl,k,by show 0+1<a.size;lia,by show 1<b.size;lia,by show 0+1<=0+1;lia]) ?post)
   case fin=>
    rintro g c ⟨j,h,f⟩
    have:=f.2.2.2
    have:=f.2.1
    have:=f.2.2.1
    lia
   case step=>
    rintro x g c _ _ ⟨j,h,f⟩;refine Pv (Ej C (j.kind.trans n) T j n g f) λr F #[p,o]=>?_;cases r with
    |done d=>exact#[p,o]
    |yield d=>exact#[p,o]
   case post=>
    rintro⟨G,H⟩ c ⟨j,r,e,m⟩;dsimp only at e;subst e;exact FM (q r c j m)
end
def z7(a b:Array Keyed):pz a b=(do
 rule "list.sort.merge-hi"
 let total:=a.size+b.size
 let done (out:Array Keyed) (na nb:Nat):=a.extract 0 na++b.extract 0 nb++out.reverse
 let c (out:Array Keyed) (na nb:Nat):=b.extract 0 nb++a.extract 0 na++out.reverse
 let mut na:=a.size-1
 let mut nb:=b.size
 let mut out:Array Keyed:= [<-elem' a na].toArray
 if na==0 then return done out na nb
 if nb==1 then return c out na nb
 let mut minGallop:=gallopOf (<-get)
 for _ in [0:total] do
  let mut acount:=0
  let mut bcount:=0
  for _ in [0:total] do
   let some Hb <-lt' (<-elem' b (nb-1)) (<-elem' a (na-1)) |return done out na nb
   if Hb then
    na:=na-1;out:=out.push (<-elem' a na);acount:=acount+1;bcount:=0
    if na==0 then return done out na nb
    if acount>=minGallop then break
   else
    nb:=nb-1;out:=out.push (<-elem' b nb);bcount:=bcount+1;acount:=0
    if nb==1 then return c out na nb
    if bcount>=minGallop then break
  rule "list.sort.gallop"
  minGallop:=minGallop+1
  for _ in [0:total] do
   if minGallop>1 then minGallop:=minGallop-1
   setMinGallop' minGallop
   let some at_ <-e9 false (<-elem' b (nb-1)) a 0 na (na-1) |return done out na nb
   let k:=na-at_
   acount:=k
   if k>0 then
    out:=out++(a.extract at_ na).reverse;na:=at_
    if na==0 then return done out na nb
   nb:=nb-1;out:=out.push (<-elem' b nb)
   if nb==1 then return c out na nb
   let some at_ <-e9 true (<-elem' a (na-1)) b 0 nb (nb-1) |return done out na nb
   let k:=nb-at_
   bcount:=k
   if k>0 then
    out:=out++(b.extract at_ nb).reverse;nb:=at_
    if nb==1 then return c out na nb
    if nb==0 then return done out na nb
   na:=na-1;out:=out.push (<-elem' a na)
   if na==0 then return done out na nb
   if acount<7&&bcount<7 then break
  minGallop:=minGallop+1
  setMinGallop' minGallop
 unsupported "internal:list.sort.merge-bound"):=rfl
abbrev S7:=Option (Array Keyed)×Nat×Nat×Array Keyed×Nat×Nat×Nat
abbrev S6:=Option (Array Keyed)×Nat×Nat×Array Keyed×Nat×Nat
abbrev S5:=Option (Array Keyed)×Nat×Nat×Array Keyed×Nat
def je(a b out:Array Keyed)(c d:Nat):Array Keyed:=a.extract 0 c++b.extract 0 d++out.reverse
def pk(a b out:Array Keyed)(c d:Nat):Array Keyed:=b.extract 0 d++a.extract 0 c++out.reverse
def Co(a b:Array Keyed)(g d e c:Nat)(out:Array Keyed)(f:Nat):StateT SortSt Sem (ForInStep S7):=do
 let x <-elem' a (c-1)
 if (c-1==0)=true then pure (ForInStep.done (some (je a b (out.push x) (c-1) f),c-1,f,out.push x,g,d,e))
 else if (decide (d<7)&&decide (e<7))=true then pure (ForInStep.done (none,c-1,f,out.push x,g,d,e))
 else pure (ForInStep.yield (none,c-1,f,out.push x,g,d,e))
def uf(a b:Array Keyed)(e f h c:Nat)(out:Array Keyed)(d:Nat):StateT SortSt Sem (ForInStep S7):=do
 let y <-elem' b (c-1)
 if (c-1==1)=true then pure (ForInStep.done (some (pk a b (out.push y) d (c-1)),d,c-1,out.push y,e,f,h))
 else do
  let x <-elem' a (d-1)
  let g <-e9 true x b 0 (c-1) (c-1-1)
  match g with
  |some p=>
   if c-1-p>0 then
    if (p==1)=true then pure (ForInStep.done (some (pk a b (out.push y++(b.extract p (c-1)).reverse) d p),d,p,out.push y++(b.extract p (c-1)).reverse,e,f,c-1-p))
    else if (p==0)=true then pure (ForInStep.done (some (je a b (out.push y++(b.extract p (c-1)).reverse) d p),d,p,out.push y++(b.extract p (c-1)).reverse,e,f,c-1-p))
    else Co a b e f (c-1-p) d (out.push y++(b.extract p (c-1)).reverse) p
   else Co a b e f (c-1-p) d (out.push y) (c-1)
  |_=>pure (ForInStep.done (some (je a b (out.push y) d (c-1)),d,c-1,out.push y,e,f,h))
def xG(a b:Array Keyed)(f h c d:Nat)(out:Array Keyed)(e:Nat):StateT SortSt Sem (ForInStep S7):=do
 setMinGallop' e
 let y <-elem' b (d-1)
 let g <-e9 false y a 0 c (c-1)
 match g with
 |some p=>
  if c-p>0 then
   if (p==0)=true then pure (ForInStep.done (some (je a b (out++(a.extract p c).reverse) p d),p,d,out++(a.extract p c).reverse,e,c-p,f))
   else uf a b e (c-p) f d (out++(a.extract p c).reverse) p
  else uf a b e (c-p) f d out c
 |_=>pure (ForInStep.done (some (je a b out c d),c,d,out,e,h,f))
def Cq(a b:Array Keyed)(c:S7):StateT SortSt Sem (ForInStep S7):=
 if c.2.2.2.2.1>1 then xG a b c.2.2.2.2.2.2 c.2.2.2.2.2.1 c.2.1 c.2.2.1 c.2.2.2.1 (c.2.2.2.2.1-1) else xG a b c.2.2.2.2.2.2 c.2.2.2.2.2.1 c.2.1 c.2.2.1 c.2.2.2.1 c.2.2.2.2.1
def Cp(a b:Array Keyed)(e:Nat)(c:S6):StateT SortSt Sem (ForInStep S6):=do
 let y <-elem' b (c.2.2.1-1)
 let x <-elem' a (c.2.1-1)
 let d <-lt' y x
 match d with
 |some f=>
  if f=true then do
   let x <-elem' a (c.2.1-1)
   if (c.2.1-1==0)=true then pure (ForInStep.done (some (je a b (c.2.2.2.1.push x) (c.2.1-1) c.2.2.1),c.2.1-1,c.2.2.1,c.2.2.2.1.push x,c.2.2.2.2.1+1,0))
   else if c.2.2.2.2.1+1>=e then pure (ForInStep.done (none,c.2.1-1,c.2.2.1,c.2.2.2.1.push x,c.2.2.2.2.1+1,0))
   else pure (ForInStep.yield (none,c.2.1-1,c.2.2.1,c.2.2.2.1.push x,c.2.2.2.2.1+1,0))
  else do
   let y <-elem' b (c.2.2.1-1)
   if (c.2.2.1-1==1)=true then pure (ForInStep.done (some (pk a b (c.2.2.2.1.push y) c.2.1 (c.2.2.1-1)),c.2.1,c.2.2.1-1,c.2.2.2.1.push y,0,c.2.2.2.2.2+1))
   else if c.2.2.2.2.2+1>=e then pure (ForInStep.done (none,c.2.1,c.2.2.1-1,c.2.2.2.1.push y,0,c.2.2.2.2.2+1))
   else pure (ForInStep.yield (none,c.2.1,c.2.2.1-1,c.2.2.2.1.push y,0,c.2.2.2.2.2+1))
 |_=>pure (ForInStep.done (some (je a b c.2.2.2.1 c.2.1 c.2.2.1),c.2.1,c.2.2.1,c.2.2.2.1,c.2.2.2.2.1,c.2.2.2.2.2))
def sE(a b:Array Keyed)(f:S5):StateT SortSt Sem (ForInStep S5):=do
 let e <-forIn [0:a.size+b.size] ((none,f.2.1,f.2.2.1,f.2.2.2.1,0,0):S6) λ_ c=>Cp a b f.2.2.2.2 c
 match e.1 with
 |some r=>pure (ForInStep.done (some r,e.2.1,e.2.2.1,e.2.2.2.1,f.2.2.2.2))
 |none=>do
  liftM (rule "list.sort.gallop")
  let d <-forIn [0:a.size+b.size] ((none,e.2.1,e.2.2.1,e.2.2.2.1,f.2.2.2.2+1,e.2.2.2.2.1,e.2.2.2.2.2):S7) λ_ c=>Cq a b c
  match d.1 with
  |some r=>pure (ForInStep.done (some r,d.2.1,d.2.2.1,d.2.2.2.1,d.2.2.2.2.1))
  |none=>do
   setMinGallop' (d.2.2.2.2.1+1)
   pure (ForInStep.yield (none,d.2.1,d.2.2.1,d.2.2.2.1,d.2.2.2.2.1+1))
theorem Dm(a b:Array Keyed):pz a b=(do
 liftM (rule "list.sort.merge-hi")
 let x <-elem' a (a.size-1)
 if (a.size-1==0)=true then pure (je a b [x].toArray (a.size-1) b.size)
 else if (b.size==1)=true then pure (pk a b [x].toArray (a.size-1) b.size)
 else do
  let d <-get
  let e <-forIn [0:a.size+b.size] ((none,a.size-1,b.size, [x].toArray,gallopOf d):S5) λ_ c=>sE a b c
  match e.1 with
  |some r=>pure r
  |none=>liftM (unsupported (α:=Array Keyed) "internal:list.sort.merge-bound")):=by
 rw[z7];dsimp only;refine bnd rfl λ_=>bnd rfl λy=>?_;refine KB (ite _ _) (KB (ite _ _) ?_);refine bnd rfl λg=>bnd (B8 λ_ c=>?_) λu=>?_
 .unfold sE
  refine bnd (B8 λ_ t=>?_) λt=>?_
  .unfold Cp
   refine bnd rfl λ_=>bnd rfl λ_=>bnd rfl λz=>?_;cases z<;>rfl
  .obtain⟨h,j⟩:=t
   cases h with
   |some r=>rfl
   |none=>
    dsimp only;refine bnd rfl λ_=>bnd (B8 λ_ u=>?_) λu=>?_
    .unfold Cq
     refine fB (λ_=>?_) (λ_=>?_)
     all_goals
      unfold xG;refine bnd rfl λ_=>bnd rfl λ_=>bnd rfl λz=>?_;cases z with
      |none=>rfl
      |some k=>
       dsimp only;refine fB (λ_=>?_) (λ_=>?_)
       .refine fB (λ_=>rfl) (λ_=>?_)
        unfold uf;refine bnd rfl λ_=>fB (λ_=>rfl) (λ_=>bnd rfl λ_=>bnd rfl λz=>?_);cases z with
        |none=>rfl
        |some k=>rfl
       .unfold uf
        refine bnd rfl λ_=>fB (λ_=>rfl) (λ_=>bnd rfl λ_=>bnd rfl λz=>?_);cases z with
        |none=>rfl
        |some k=>rfl
    .obtain⟨f,i⟩:=u
     cases f<;>rfl
 .obtain⟨f,i⟩:=u
  cases f<;>rfl
def Sg(O:KeyOrd):KeyOrd:={α:=O.α,blt:=λa b=>O.blt b a,irrefl:=O.irrefl,trans:=λa b c d e=>O.trans _ _ _ e d,negTrans:=λa b c h=>(O.negTrans c b a h).symm,total:=λa b d e=>O.total a b e d}
section
variable {O:KeyOrd} {key:Keyed->O.α} {S:Keyed->Prop} {k0:SortKind} {M:Model} {A:Around} {E:Value->Shared->Prop} {s:Shared} {st bH:SortSt} {a b:Array Keyed}
abbrev MJ(O:KeyOrd)(key:Keyed->O.α)(a b out:Array Keyed)(c d:Nat):Prop:=MI (Sg O) key (a.toList++b.toList) out.toList (a.toList.take c).reverse (b.toList.take d).reverse
def uP(h:Res (Sg O) key l r.reverse):Res O key l r:=
 #[(aa3 r).symm.trans h.1,by
   have:=abi.mp h.2
   exact this.imp λh=>h]
def AE(c:Array Keyed)(n:Nat):(c.extract 0 n).toList=c.toList.take n:=by rw[ext_toList];simp
def Be{xs:Array Keyed}(f:1<=n)(h:xs[n-1]? =some x):(xs.toList.take n).reverse=x::(xs.toList.take (n-1)).reverse:=by
 have c:=lD h;obtain⟨d,e⟩:=cX.mp c
 have:xs.toList.take n=xs.toList.take (n-1)++ [x]:=by
  have:=abd d
  rw[show n-1+1=n by lia,e] at this
  exact this
 rw[this,zd];rfl
def oN(l:List Keyed)(h:p<=n):l.take n=l.take p++(l.drop p).take (n-p):=by
 conv=>lhs;rw[<-mT p (l.take n)]
 rw[List.take_take,show min p n=p by lia,List.drop_take]
def gG{l:List Keyed}{x:Keyed}(h:x∈l.take n):∃j,j<n/\j<l.length/\l[j]? =some x:=by
 have:=eE (l:=l) (i:=0) (k:=n) (x:=x) (by simpa using h)
 obtain⟨j,c,d,e⟩:=this;exact#[j,c,by simpa using d,by simpa using e]
def MJ.uN(v:MJ O key a b out c d)(e:1<=c)(f:a[c-1]? =some x)(h:∀y∈b.toList.take d,LE O key y x):MJ O key a b (out.push x) (c-1) d:=by
 unfold MJ at v ⊢;rw[Be e f] at v;rw[Bo];exact MI.l8 (xs:= [x]) v λz g y i=>by rw[fm.mp g];exact h y (qs.mp i)
def MJ.uO(v:MJ O key a b out d c)(e:1<=c)(f:b[c-1]? =some y)(h:∀x∈a.toList.take d,LE O key x y):MJ O key a b (out.push y) d (c-1):=by
 unfold MJ at v ⊢;rw[Be e f] at v;rw[Bo];exact MI.l9 (xs:= [y]) v λz g x i=>by rw[fm.mp g];exact h x (qs.mp i)
theorem MJ.l8(v:MJ O key a b out c d)(e:p<=c)(h:∀x∈(a.toList.drop p).take (c-p),∀y∈b.toList.take d,LE O key y x):MJ O key a b (out++(a.extract p c).reverse) p d:=by
 unfold MJ at v ⊢;rw[oN a.toList e,zd] at v;rw[jn,GO,ext_toList];exact MI.l8 v λx f y g=>h x (qs.mp f) y (qs.mp g)
theorem MJ.l9(v:MJ O key a b out d c)(e:p<=c)(h:∀y∈(b.toList.drop p).take (c-p),∀x∈a.toList.take d,LE O key x y):MJ O key a b (out++(b.extract p c).reverse) d p:=by
 unfold MJ at v ⊢;rw[oN b.toList e,zd] at v;rw[jn,GO,ext_toList];exact MI.l9 v λx f y g=>h x (qs.mp f) y (qs.mp g)
def MJ.t6(v:MJ O key a b out 0 c):Res O key (a.toList++b.toList) (je a b out 0 c).toList:=by
 refine uP ?_;unfold je MJ at*;rw[jn,jn,AE,AE,GO,y8,vC,zd,abu];rw[y8,List.reverse_nil] at v;exact v.swap.E4
def MJ.t7(v:MJ O key a b out c 0):Res O key (a.toList++b.toList) (je a b out c 0).toList:=by
 refine uP ?_;unfold je MJ at*;rw[jn,jn,AE,AE,GO,y8,fG,zd,abu];rw[y8,List.reverse_nil] at v;exact v.E4
theorem MJ.first(T:mW O key S a b)(v:MJ O key a b out c 1):Res O key (a.toList++b.toList) (pk a b out c 1).toList:=by
 refine uP ?_;have h:=v.swap.C8 λx d y f=>?_
 .unfold pk
  rw[jn,jn,AE,AE,GO,zd,abu,zd,<-qr];exact h
 .obtain⟨j,g,_,e⟩:=gG (qs.mp f)
  have:j=0:=by lia
  subst this;exact T.first y (kj e) x (List.mem_of_mem_take (qs.mp d))
def pG(O:KeyOrd)(key:Keyed->O.α)(a b:Array Keyed)(n:Nat)(c d:Nat)(out:Array Keyed):Prop:=MJ O key a b out c d/\1<=c/\c<=a.size/\2<=d/\d<=b.size/\n+c+d<=a.size+b.size
def S8{d:Type}(O:KeyOrd)(key:Keyed->O.α)(a b:Array Keyed)(n:Nat)(c:Option (Array Keyed)×Nat×Nat×Array Keyed×d):Prop:=
 (∃r,c.1=some r/\Res O key (a.toList++b.toList) r.toList)\/(c.1=none/\pG O key a b n c.2.1 c.2.2.1 c.2.2.2.1)
def L6{d:Type}(O:KeyOrd)(key:Keyed->O.α)(a b:Array Keyed)(n:Nat)(r:ForInStep (Option (Array Keyed)×Nat×Nat×Array Keyed×d)):Prop:=match r with
 | .done c=>S8 O key a b n c
 | .yield c=>c.1=none/\pG O key a b n c.2.1 c.2.2.1 c.2.2.2.1
def VE{d:Type}(O:KeyOrd)(key:Keyed->O.α)(a b:Array Keyed)(n:Nat)(r:ForInStep (Option (Array Keyed)×Nat×Nat×Array Keyed×d)):Prop:=match r with
 | .done c=>∃r,c.1=some r/\Res O key (a.toList++b.toList) r.toList
 | .yield c=>c.1=none/\pG O key a b n c.2.1 c.2.2.1 c.2.2.2.1
def yV(g:GS bH st)(v:MJ O key a b out c d)(p:1<=c)(f:c<=a.size)(q:2<=d)(t:d<=b.size)(z:n+c+d<=a.size+b.size)
  (u:∀x,a[c-1]? =some x->∀y∈b.toList.take d,LE O key y x):wpS M A E s (Co a b o k l c out d) (λr w=>GS bH w/\L6 O key a b n r) st:=by
 unfold Co;obtain⟨x,h,B,_⟩:=bA (xs:=a) (i:=c-1) (by lia)
 refine Do (bq h ?_);have j:=MJ.uN v p h (u x h)
 by_cases e:c-1=0
 .rw[tz (by simpa using e)]
  rw[e] at j ⊢;exact FM #[g, .inl #[_,rfl,j.t6]]
 .rw[mo (by simpa using e)]
  have m:pG O key a b n (c-1) d (out.push x):=#[j,by lia,by lia,q,t,by lia]
  by_cases f:(decide (k<7)&&decide (l<7))=true
  .rw[tz f]
   exact FM #[g, .inr #[rfl,m]]
  .rw[mo f]
   exact FM #[g,rfl,m]
def yU(C:gR O key S k0 M A E s)(P:kindOf st=k0)(T:mW O key S a b)(g:GS bH st)(v:MJ O key a b out d c)(G:1<=d)(H:d<=a.size)(h3:2<=c)(h4:c<=b.size)(hn:n+d+c<=a.size+b.size)
  (X:∀y,b[c-1]? =some y->∀x∈a.toList.take d,LE O key x y):wpS M A E s (uf a b Q R U c out d) (λr Y=>GS bH Y/\L6 O key a b n r) st:=by
 unfold uf;obtain⟨y,t,my,_⟩:=bA (xs:=b) (i:=c-1) (by lia)
 refine Do (bq t ?_);have o:=MJ.uO v (by lia) t (X y t)
 by_cases e:c-1=1
 .rw[tz (by simpa using e)]
  rw[e] at o ⊢;exact FM #[g, .inl #[_,rfl,MJ.first T o]]
 .rw[mo (by simpa using e)]
  obtain⟨x,I,Z,lx⟩:=bA (xs:=a) (i:=d-1) (by lia)
  refine Do (bq I ?_)
  have w:∀z∈a.toList.take d,LE O key z x:=λz f=>by
   obtain⟨j,q,_,k⟩:=gG f;exact fV T.sa (by lia) k lx
  have J:∀j z,b.toList[j]? =some z->b[0+j]?.getD (Value.none,Value.none)=z:=λj z e=>by rw[vE,kj e];rfl
  refine Do (gP C (pD T.mb (i:=0) (n:=c-1) (by lia)) (T.ma x Z) P (by lia) (λi j dU q h=>?_) λp hp pt pf=>?_)
  .obtain⟨yi,l,_,l1⟩:=bA (xs:=b) (i:=0+i) (by lia)
   obtain⟨yj,m,_,l2⟩:=bA (xs:=b) (i:=0+j) (by lia)
   unfold dQ at h ⊢;rw[tz rfl] at h ⊢;rw[m] at h;rw[l];exact aaX (fV T.sb (by lia) l1 l2) h
  .have hi:∀y∈(b.toList.drop p).take (c-1-p),∀x∈a.toList.take d,LE O key x y:=λz f u hu=>by
    obtain⟨j,q,hl,k⟩:=eE f
    have:=pf (p+j) (by lia) (by lia)
    unfold dQ at this;rw[tz rfl,J (p+j) z k] at this;exact IR (w u hu) this
   have lo:∀B,a[d-1]? =some B->∀y∈b.toList.take p,LE O key y B:=λB L z f=>by
    rw[I] at L;cases L;obtain⟨j,q,_,k⟩:=gG f
    have:=pt j q
    unfold dQ at this;rw[tz rfl,J j z k] at this;exact Os this
   dsimp only
   by_cases N:c-1-p>0
   .rw[tz N]
    have F:=MJ.l9 o hp hi
    by_cases l:p=1
    .rw[tz (by simpa using l)]
     subst l;exact FM #[g, .inl #[_,rfl,MJ.first T F]]
    .rw[mo (by simpa using l)]
     by_cases m:p=0
     .rw[tz (by simpa using m)]
      subst m;exact FM #[g, .inl #[_,rfl,F.t7]]
     .rw[mo (by simpa using m)]
      exact yV g F G H (by lia) (by lia) (by lia) lo
   .rw[mo N]
    have:p=c-1:=by lia
    subst this;exact yV g o G H (by lia) (by lia) (by lia) lo
def yT(C:gR O key S k0 M A E s)(P:kindOf st=k0)(T:mW O key S a b)(g:GS bH st)(X:pG O key a b n c d out):wpS M A E s (xG a b U R c d out Q) (λr Y=>GS bH Y/\L6 O key a b n r) st:=by
 obtain⟨v,Z,h2,B,F,hn⟩:=X;unfold xG;refine Do (pE λD8 G=>?_);have o:kindOf D8=k0:=G.kind.trans P;have q:=g.trans G;obtain⟨y,H,my,ly⟩:=bA (xs:=b) (i:=d-1) (by lia)
 refine Do (bq H ?_)
 have t:∀z∈b.toList.take d,LE O key z y:=λz f=>by
  obtain⟨j,m,_,k⟩:=gG f;exact fV T.sb (by lia) k ly
 have I:∀j z,a.toList[j]? =some z->a[0+j]?.getD (Value.none,Value.none)=z:=λj z e=>by rw[vE,kj e];rfl
 refine Do (gP C (pD T.ma (i:=0) (n:=c) (by lia)) (T.mb y my) o (by lia) (λi j dU m h=>?_) λp hp pt pf=>?_)
 .obtain⟨xi,l,_,l1⟩:=bA (xs:=a) (i:=0+i) (by lia)
  obtain⟨xj,e2,_,l2⟩:=bA (xs:=a) (i:=0+j) (by lia)
  unfold dQ at h ⊢;rw[mo (by decide)] at h ⊢
  rw[e2] at h;rw[l];have h':O.kle (key xj) (key y):=by unfold KeyOrd.kle;simpa using h
  have:=IR (fV T.sa (by lia) l1 l2) h'
  unfold KeyOrd.kle at this;simpa using this
 .have hi:∀x∈(a.toList.drop p).take (c-p),∀y∈b.toList.take d,LE O key y x:=λz f u hu=>by
   obtain⟨j,m,hl,k⟩:=eE f
   have:=pf (p+j) (by lia) (by lia)
   unfold dQ at this;rw[mo (by decide),I (p+j) z k] at this
   exact IR (t u hu) (Os (show O.blt _ _=true by simpa using this))
  have lo:∀w,b[d-1]? =some w->∀x∈a.toList.take p,LE O key x w:=λw J z f=>by
   rw[H] at J;cases J;obtain⟨j,m,_,k⟩:=gG f
   have:=pt j m
   unfold dQ at this;rw[mo (by decide),I j z k] at this
   show O.blt _ _=false;simpa using this
  dsimp only
  by_cases L:c-p>0
  .rw[tz L]
   have N:=MJ.l8 v hp hi
   by_cases l:p=0
   .rw[tz (by simpa using l)]
    subst l;exact FM #[q, .inl #[_,rfl,N.t6]]
   .rw[mo (by simpa using l)]
    exact yU C o T q N (by lia) (by lia) B F (by lia) lo
  .rw[mo L]
   have:p=c:=by lia
   subst this;exact yU C o T q v Z h2 B F hn lo
def Jc(C:gR O key S k0 M A E s)(d:kindOf st=k0)(T:mW O key S a b)(g:GS bH st)(c:S7)(e:pG O key a b n c.2.1 c.2.2.1 c.2.2.2.1):
  wpS M A E s (Cq a b c) (λr f=>GS bH f/\L6 O key a b n r) st:=by
 unfold Cq
 by_cases h:c.2.2.2.2.1>1
 .rw[tz h];exact yT C d T g e
 .rw[mo h];exact yT C d T g e
theorem Jb(C:gR O key S k0 M A E s)(G:kindOf st=k0)(T:mW O key S a b)(g:GS bH st)(c:S6)(d:pG O key a b n c.2.1 c.2.2.1 c.2.2.2.1):
  wpS M A E s (Cp a b o c) (λr H=>GS bH H/\L6 O key a b (n+1) r) st:=by
 obtain⟨X,l,m,out,I,J⟩:=c;obtain⟨v,w,f,B,F,L⟩:=d;dsimp only at v w f B F L;unfold Cp;dsimp only;obtain⟨y,p,N,P⟩:=bA (xs:=b) (i:=m-1) (by lia)
 obtain⟨x,q,Q,R⟩:=bA (xs:=a) (i:=l-1) (by lia)
 refine Do (bq p (Do (bq q (Do (C _ _ _ _ (T.mb y N) (T.ma x Q) G ?_)))));cases e:O.blt (key y) (key x) with
 |true=>
  dsimp only;rw[tz rfl];refine Do (bq q ?_)
  have h:=MJ.uN v w q λz t=>by
   obtain⟨j,U,_,u⟩:=gG t;exact IR (fV T.sb (by lia) u P) (Os e)
  by_cases k:l-1=0
  .rw[tz (by simpa using k)]
   rw[k] at h ⊢;exact FM #[g, .inl #[_,rfl,h.t6]]
  .rw[mo (by simpa using k)]
   have d:pG O key a b (n+1) (l-1) m (out.push x):=#[h,by lia,by lia,B,F,by lia]
   by_cases f:I+1>=o
   .rw[tz f];exact FM #[g, .inr #[rfl,d]]
   .rw[mo f];exact FM #[g,rfl,d]
 |false=>
  dsimp only;rw[mo (by decide)]
  refine Do (bq p ?_)
  have h:=MJ.uO v (by lia) p λz t=>by
   obtain⟨j,U,_,u⟩:=gG t;exact IR (fV T.sa (by lia) u R) e
  by_cases k:m-1=1
  .rw[tz (by simpa using k)]
   rw[k] at h ⊢;exact FM #[g, .inl #[_,rfl,MJ.first T h]]
  .rw[mo (by simpa using k)]
   have d:pG O key a b (n+1) l (m-1) (out.push y):=#[h,by lia,by lia,by lia,by lia,by lia]
   by_cases f:J+1>=o
   .rw[tz f];exact FM #[g, .inr #[rfl,d]]
   .rw[mo f];exact FM #[g,rfl,d]
def pG.le(h:pG O key a b n c d out)(e:m<=n):pG O key a b m c d out:=#[h.1,h.2.1,h.2.2.1,h.2.2.2.1,h.2.2.2.2.1,by have:=h.2.2.2.2.2;lia]
theorem Ei(C:gR O key S k0 M A E s)(T:mW O key S a b)(g:GS bH st)(p:kindOf bH=k0)(c:S5)(q:pG O key a b n c.2.1 c.2.2.1 c.2.2.2.1):
  wpS M A E s (sE a b c) (λr h=>GS bH h/\VE O key a b (n+1) r) st:=by
 have B:0<a.size+b.size:=by have:=T.na;lia
 unfold sE;refine Do (Pv (Re (I:=λ(x:Nat)(f:S6)(h:SortSt)=>GS bH h/\f.1=none/\pG O key a b (n+min x 1) f.2.1 f.2.2.1 f.2.2.2.1) (Q:=λf h=>GS bH h/\S8 O key a b (n+1) f) ?step ?fin #[g,rfl,q.le (by lia)]) ?post)
 case fin=>
  rintro f h ⟨i,l,j⟩;exact#[i, .inr #[l,j.le (by lia)]]
 case step=>
  rintro x f h _ _ ⟨i,l,j⟩;refine Pv (Jb C (i.kind.trans p) T i f j) λr t #[m,o]=>?_;cases r with
  |done d=>
   exists m
   rcases o with o| ⟨u,v⟩
   .exact .inl o
   .exact .inr #[u,v.le (by lia)]
  |yield d=>exact#[m,o.1,o.2.le (by lia)]
 case post=>
  rintro⟨F,G⟩ h ⟨i,o⟩
  rcases o with ⟨r,e,k⟩ | ⟨e,w⟩
  .dsimp only at e
   subst e;exact FM #[i,r,rfl,k]
  .dsimp only at e
   subst e;dsimp only;refine Do (abc (aaL #[rfl,?_]));refine Do (Pv (Re (I:=λ(x:Nat)(f:S7)(h:SortSt)=>GS bH h/\f.1=none/\pG O key a b (n+1) f.2.1 f.2.2.1 f.2.2.2.1) (Q:=λf h=>GS bH h/\S8 O key a b (n+1) f) ?step2 ?fin2 #[i,rfl,w]) ?post2)
   case fin2=>
    rintro f h ⟨i,l,j⟩;exact#[i, .inr #[l,j]]
   case step2=>
    rintro x f h _ _ ⟨i,l,j⟩;refine Pv (Jc C (i.kind.trans p) T i f j) λr t #[m,o]=>?_;cases r with
    |done d=>exact#[m,o]
    |yield d=>exact#[m,o]
   case post2=>
    rintro⟨H,J⟩ h ⟨i,o⟩
    rcases o with ⟨r,e,k⟩ | ⟨e,y⟩
    .dsimp only at e
     subst e;exact FM #[i,r,rfl,k]
    .dsimp only at e
     subst e;refine Do (pE λL z=>FM #[i.trans z,rfl,y])
def El(C:gR O key S k0 M A E s)(t:kindOf st=k0)(T:mW O key S a b)(q:∀r c,GS st c->Res O key (a.toList++b.toList) r.toList->Q r c):wpS M A E s (pz a b) Q st:=by
 rw[Dm];refine Do (abc (aaL #[rfl,?_]));have u:=T.na;have B:=T.nb;obtain⟨x,m,F,G⟩:=bA (xs:=a) (i:=a.size-1) (by lia)
 refine Do (bq m ?_)
 have v:MJ O key a b #[] a.size b.size:=by
  refine#[?_,by simp,?_,?_,by simp]
  .rw[vw (by simp),vw (by simp)]
   simpa using(aa3 a.toList).append (aa3 b.toList)
  .rw[vw (by simp)]
   exact abi.mpr (T.sa.imp λh=>h)
  .rw[vw (by simp)]
   exact abi.mpr (T.sb.imp λh=>h)
 have j:=MJ.uN v u m λy w=>T.last x m y (List.mem_of_mem_take w);have z:(#[]:Array Keyed).push x= [x].toArray:=rfl;rw[z] at j
 by_cases k:a.size-1=0
 .rw[tz (by simpa using k)]
  rw[k] at j ⊢;exact FM (q _ _ (GS.refl _) j.t6)
 .rw[mo (by simpa using k)]
  by_cases g:b.size=1
  .rw[tz (by simpa using g)]
   rw[g] at j ⊢;exact FM (q _ _ (GS.refl _) (MJ.first T j))
  .rw[mo (by simpa using g)]
   refine Do (aaR ?_);refine Do (Pv (Re (I:=λ(x:Nat)(f:S5)(c:SortSt)=>GS st c/\f.1=none/\pG O key a b (x+1) f.2.1 f.2.2.1 f.2.2.2.1) (Q:=λf c=>GS st c/\∃r,f.1=some r/\Res O key (a.toList++b.toList) r.toList) ?step ?fin #[GS.refl _,rfl,j,by show 1<=a.size-1;lia,by show a.size-1<=a.size;lia,by show 2<=b.size;lia,bu _,by show 0+1+(a.size-1)+b.size<=a.size+b.size;lia]) ?post)
   case fin=>
    rintro f c ⟨l,k,g⟩
    have:=g.2.2.2.2.2
    have:=g.2.1
    lia
   case step=>
    rintro x f c _ _ ⟨l,k,g⟩;refine Pv (Ei C T l t f g) λr H #[p,o]=>?_;cases r with
    |done d=>exact#[p,o]
    |yield d=>exact#[p,o]
   case post=>
    rintro⟨J,L⟩ c ⟨l,r,e,n⟩;dsimp only at e;subst e;exact FM (q r c l n)
end
def Dl(i:Nat):mergeAt' i=(do
 let s <-get
 let (some (sa,na,power),some (sb,nb,_)):=((pendingOf s)[i]?,(pendingOf s)[i+1]?) |unsupported "internal:list.sort.pending"
 set (setPending s (((pendingOf s).setIfInBounds i (sa,na+nb,power)).eraseIdxIfInBounds (i+1)))
 let some k <-e9 false (<-elem' (arrOf s) sb) (arrOf s) sa na 0|return false
 let (sa,na):=(sa+k,na-k)
 if na==0 then return true
 let some nb <-e9 true (<-elem' (arrOf s) (sa+na-1)) (arrOf s) sb nb (nb-1) |return false
 if nb==0 then return true
 let x:=(arrOf s).extract sa sb
 let y:=(arrOf s).extract sb (sb+nb)
 let merged <-if na<=nb then pA x y else pz x y
 modify λs=>setArr s (merged.toList.zipIdx.foldl (λa (p,j)=>a.setIfInBounds (sa+j) p) (arrOf s))
 return (failedOf (<-get)).isNone):=rfl
theorem qA:∀(m:List Keyed)(off b:Nat)(c:Array Keyed),b+off+m.length<=c.size->
  ((m.zipIdx off).foldl (λa (p:Keyed×Nat)=>a.setIfInBounds (b+p.2) p.1) c).size=c.size/\∀i,((m.zipIdx off).foldl (λa (p:Keyed×Nat)=>a.setIfInBounds (b+p.2) p.1) c)[i]? =if b+off<=i/\i<b+off+m.length then m[i-(b+off)]? else c[i]?
 | [],off,b,c,_=>#[rfl,λi=>by rw[mo (by simp)];rfl]
 |x::m,off,b,c,h=>by
  rw[cO] at h;have e:=qA m (off+1) b (c.setIfInBounds (b+off) x) (by rw[aaY];lia)
  rw[List.zipIdx_cons,acn];refine#[by rw[e.1,aaY],λi=>?_]
  rw[e.2 i]
  by_cases f:b+(off+1)<=i/\i<b+(off+1)+m.length
  .rw[tz f,tz (by rw[cO];lia),show i-(b+off)=(i-(b+(off+1)))+1 by lia,vv]
  .rw[mo f,abD]
   by_cases d:b+off=i
   .rw[tz d,tz (by lia),tz (by rw[cO];lia),<-d,kE];rfl
   .rw[mo d,mo (by rw[cO];lia)]
def putAt(c m:Array Keyed)(b:Nat):Array Keyed:=m.toList.zipIdx.foldl (λa (p:Keyed×Nat)=>a.setIfInBounds (b+p.2) p.1) c
def yA(h:b+m.size<=a.size)(i:Nat):(putAt a m b)[i]? =if b<=i/\i<b+m.size then m[i-b]? else a[i]? :=by
 have:=(qA m.toList 0 b a (by simpa using h)).2 i
 unfold putAt;rw[this];simp
def F4(h:b+m.size<=a.size):(putAt a m b).size=a.size:=(qA m.toList 0 b a (by simpa using h)).1
def F3(h:b+m.size<=a.size)(p:m.toList.Perm ((a.toList.drop b).take m.size)):(putAt a m b).Perm a:=by
 rw[Ke]
 have e:(putAt a m b).toList=a.toList.take b++(m.toList++a.toList.drop (b+m.size)):=by
  apply Bp;intro i;rw[fM,yA h,abq,abq,fF,fY,fY,List.getElem?_take,ze,fM,fM,fM]
  repeat' split
  all_goals first|rfl| (exfalso;lia) | (congr 1;lia)
 have c:a.toList=a.toList.take b++((a.toList.drop b).take m.size++a.toList.drop (b+m.size)):=by
  conv=>lhs;rw[<-mT b a.toList,nz a.toList b m.size]
 rw[e]
 conv=>rhs;rw[c]
 exact List.Perm.append_left _ (p.append_right _)
section
variable {O:KeyOrd} {key:Keyed->O.α} {S:Keyed->Prop} {k0:SortKind} {prog:Program} {w:World} {A:Around} {E:Value->Shared->Prop} {s:Shared} {st bH:SortSt}
def Pm(h:Q ⟨⟩ a):wpS M A E s (set a:StateT SortSt Sem PUnit) Q st:=by
 unfold wpS;rw[StateT.run_set];exact AC #[rfl,h]
def fD{xs:Array Keyed}{a b:Nat}(h:jt O key xs a b){i j:Nat}(c:a<=i)(d:i<=j)(e:j<b)(f:xs[i]? =some x)(g:xs[j]? =some y):LE O key x y:=by
 have:=h i j c d e
 unfold ky at this;rw[f,g] at this;exact this
def D7{xs:Array Keyed}(k:b<=xs.size)(h:∀i j x y,a<=i->i<=j->j<b->xs[i]? =some x->xs[j]? =some y->LE O key x y):jt O key xs a b:=λi j e f g=>by
 obtain⟨x,c,_,_⟩:=bA (xs:=xs) (i:=i) (by lia)
 obtain⟨y,d,_,_⟩:=bA (xs:=xs) (i:=j) (by lia)
 unfold ky;rw[c,d];exact h i j x y e f g c d
def ext_get{xs:Array Keyed}{a b i:Nat}(c:b<=xs.size)(d:i<b-a):(xs.extract a b)[i]? =xs[a+i]? :=by
 rw[Array.getElem?_extract,tz (by lia)]
def ext_mem{c:Array Keyed}{a b:Nat}{x:Keyed}(h:x∈(c.extract a b).toList):∃i,a<=i/\i<b/\i<c.size/\c[i]? =some x:=by
 rw[ext_toList] at h;obtain⟨j,f,d,e⟩:=eE h;rw[fY] at d;exact#[a+j,by lia,by lia,d,kj e]
def JD(h:jt O key xs a b)(c:b<=xs.size):(xs.extract a b).toList.Pairwise (LE O key):=by
 rw[GJ];intro i j d e l;have f:(xs.extract a b).toList.length=b-a:=by rw[fY,Bm];lia
 rw[f] at d e;have g:=ext_get (xs:=xs) (a:=a) c d;have k:=ext_get (xs:=xs) (a:=a) c e;refine fD h (i:=a+i) (j:=a+j) (by lia) (by lia) (by lia) ?_ ?_
 .rw[<-g,<-fM];exact dD _
 .rw[<-k,<-fM];exact dD _
def Ek(C:gR O key S k0 (model prog w) A E s)(o:Ok S k0 st)(hf:failedOf st=none)(p1:(pendingOf st)[i]? =some (b,d,pw))(p2:(pendingOf st)[i+1]? =some (b+d,v,X8))(hna:1<=d)(Qp:1<=v)(fH:b+d+v<=(arrOf st).size)
  (N:jt O key (arrOf st) b (b+d)) (P:jt O key (arrOf st) (b+d) (b+d+v))
  (q:∀l,(arrOf l).Perm (arrOf st)->kindOf l=kindOf st->failedOf l=none->pendingOf l=((pendingOf st).setIfInBounds i (b,d+v,pw)).eraseIdxIfInBounds (i+1)->(∀j,j<b\/b+d+v<=j->(arrOf l)[j]? =(arrOf st)[j]?)->jt O key (arrOf l) b (b+(d+v))->Q true l):
  wpS (model prog w) A E s (mergeAt' i) Q st:=by
 rw[Dl];refine Do (aaR ?_);rw[p1,p2];dsimp only;refine Do (Pm ?_);generalize ((pendingOf st).setIfInBounds i (b,d+v,pw)).eraseIdxIfInBounds (i+1)=pn at q;have o':Ok S k0 (setPending st pn):=#[o.mem,o.kind];have mem:∀x∈(arrOf st).toList,S x:=o.mem;obtain⟨X,TL,mb0,lb0⟩:=bA (xs:=arrOf st) (i:=b+d) (by lia)
 refine Do (bq TL ?_);have pR:∀(j:Nat)(z:Keyed),(arrOf st)[j]? =some z->(arrOf st)[j]?.getD (Value.none,Value.none)=z:=λj z e=>by rw[e];rfl
 refine Do (gP C (pD mem (i:=b) (n:=d) (by lia)) (mem X mb0) o'.kind (by lia) (λi j G Y h=>?_) λk hk kt kf=>?_)
 .obtain⟨xi,M,_,_⟩:=bA (xs:=arrOf st) (i:=b+i) (by lia)
  obtain⟨xj,Z,_,_⟩:=bA (xs:=arrOf st) (i:=b+j) (by lia)
  unfold dQ at h ⊢;rw[mo (by decide)] at h ⊢
  rw[Z] at h;rw[M];have h':O.kle (key xj) (key X):=by unfold KeyOrd.kle;simpa using h
  have:=IR (fD N (by lia) (by lia) (by lia) M Z) h'
  unfold KeyOrd.kle at this;simpa using this
 have XA:∀j x,b<=j->j<b+k->(arrOf st)[j]? =some x->LE O key x X:=λj x f B e=>by
  have:=kt (j-b) (by lia)
  unfold dQ at this;rw[mo (by decide),show b+(j-b)=j by lia,pR j x e] at this
  show O.blt _ _=false;simpa using this
 have khi:∀j x,b+k<=j->j<b+d->(arrOf st)[j]? =some x->LE O key X x:=λj x f B e=>by
  have:=kf (j-b) (by lia) (by lia)
  unfold dQ at this;rw[mo (by decide),show b+(j-b)=j by lia,pR j x e] at this
  exact Os (show O.blt _ _=true by simpa using this)
 dsimp only;have R6:∀j y,b+d<=j->j<b+d+v->(arrOf st)[j]? =some y->LE O key X y:=λj y f B e=>fD P (by lia) f B TL e
 by_cases e0:d-k=0
 .rw[tz (by simpa using e0)]
  refine FM (q _ (.refl _) rfl hf rfl (λ_ _=>rfl) ?_);refine D7 (by show b+(d+v)<=(arrOf st).size;lia) λi j x y f G Y H I=>?_
  by_cases c1:j<b+d
  .exact fD N f G c1 H I
  .by_cases c2:i<b+d
   .exact IR (XA i x f (by lia) H) (R6 j y (by lia) (by lia) I)
   .exact fD P (by lia) G (by lia) H I
 rw[mo (by simpa using e0)]
 have Wn:b+k+(d-k)-1=b+d-1:=by lia
 obtain⟨al,P9,mal,lal⟩:=bA (xs:=arrOf st) (i:=b+k+(d-k)-1) (by lia)
 refine Do (bq P9 ?_);rw[Wn] at P9;refine Do (gP C (pD mem (i:=b+d) (n:=v) (by lia)) (mem al mal) o'.kind (by lia) (λi j G Y h=>?_) λm hm mt mf=>?_)
 .obtain⟨yi,M,_,_⟩:=bA (xs:=arrOf st) (i:=b+d+i) (by lia)
  obtain⟨yj,Z,_,_⟩:=bA (xs:=arrOf st) (i:=b+d+j) (by lia)
  unfold dQ at h ⊢;rw[tz rfl] at h ⊢;rw[Z] at h;rw[M];exact aaX (fD P (by lia) (by lia) (by lia) M Z) h
 have mlo:∀j y,b+d<=j->j<b+d+m->(arrOf st)[j]? =some y->LE O key y al:=λj y f B e=>by
  have:=mt (j-(b+d)) (by lia)
  unfold dQ at this;rw[tz rfl,show b+d+(j-(b+d))=j by lia,pR j y e] at this
  exact Os this
 have XI:∀j y,b+d+m<=j->j<b+d+v->(arrOf st)[j]? =some y->LE O key al y:=λj y f B e=>by
  have:=mf (j-(b+d)) (by lia) (by lia)
  unfold dQ at this;rw[tz rfl,show b+d+(j-(b+d))=j by lia,pR j y e] at this
  exact this
 have YO:∀j x,b<=j->j<b+d->(arrOf st)[j]? =some x->LE O key x al:=λj x f B e=>fD N f (by lia) (by lia) e P9
 dsimp only
 by_cases M:m=0
 .rw[tz (by simpa using M)]
  refine FM (q _ (.refl _) rfl hf rfl (λ_ _=>rfl) ?_);refine D7 (by show b+(d+v)<=(arrOf st).size;lia) λi j x y f G Y H I=>?_
  by_cases c1:j<b+d
  .exact fD N f G c1 H I
  .by_cases c2:i<b+d
   .exact IR (YO i x f c2 H) (XI j y (by lia) (by lia) I)
   .exact fD P (by lia) G (by lia) H I
 rw[mo (by simpa using M)]
 have T:mW O key S ((arrOf st).extract (b+k) (b+d)) ((arrOf st).extract (b+d) (b+d+m)):=by
  refine#[λx J=>?_,λx J=>?_,JD (λi j f B h3=>N i j (by lia) B h3) (by lia),JD (λi j f B h3=>P i j f B (by lia)) (by lia),by rw[Bm];lia,by rw[Bm];lia,λy hy x J=>?_,λx J y hy=>?_]
  .obtain⟨i,_,_,_,e⟩:=ext_mem J
   exact mem x (eF (lD e))
  .obtain⟨i,_,_,_,e⟩:=ext_mem J
   exact mem x (eF (lD e))
  .rw[ext_get (by lia) (by lia)] at hy
   have Cz:(arrOf st)[b+d]? =some y:=hy;rw[TL] at Cz;cases Cz;obtain⟨i,f,B,_,e⟩:=ext_mem J;exact khi i x f B e
  .have hsz2:((arrOf st).extract (b+k) (b+d)).size=d-k:=by rw[Bm];lia
   rw[hsz2,ext_get (by lia) (by lia)] at J
   rw[show b+k+(d-k-1)=b+d-1 by lia,P9] at J;cases J
   obtain⟨i,f,B,_,e⟩:=ext_mem hy;exact mlo i y f B e
 have szx:((arrOf st).extract (b+k) (b+d)).size=d-k:=by rw[Bm];lia
 have szy:((arrOf st).extract (b+d) (b+d+m)).size=m:=by rw[Bm];lia
 have fin:∀(r:Array Keyed)(l:SortSt),GS (setPending st pn) l->Res O key (((arrOf st).extract (b+k) (b+d)).toList++((arrOf st).extract (b+d) (b+d+m)).toList) r.toList->
   wpS (model prog w) A E s (do
    modify λs=>setArr s (r.toList.zipIdx.foldl (λa (p,j)=>a.setIfInBounds (b+k+j) p) (arrOf s))
    return (failedOf (<-get)).isNone) Q l:=by
  intro r l g u;refine Do (aa1 (Do (aaR ?_)));have Ql:failedOf l=none:=g.failed.trans hf
  have hr:r.size=d-k+m:=by
   have:=u.1.length_eq
   rw[dh,fY,fY,fY,szx,szy] at this;exact this
  have hb:b+k+r.size<=(arrOf l).size:=by rw[g.arr];show _<=(arrOf st).size;lia
  have aag:(r.toList.zipIdx.foldl (λa (x:Keyed×Nat)=>match x with| (p,j)=>a.setIfInBounds (b+k+j) p) (arrOf l))=putAt (arrOf l) r (b+k):=rfl
  show wpS _ _ _ _ (pure (failedOf l).isNone) Q (setArr l (putAt (arrOf l) r (b+k)));rw[Ql];have ga:arrOf l=arrOf st:=g.arr;rw[ga] at hb ⊢;have JG:=λi=>yA hb i;rw[hr] at JG
  have SA:∀j x,b+k<=j->j<b+d+m->(putAt (arrOf st) r (b+k))[j]? =some x->∃i,b+k<=i/\i<b+d+m/\(arrOf st)[i]? =some x:=λj x f B e=>by
   rw[JG,tz (by lia)] at e
   have hm:=u.1.mem_iff.mp (eF (lD e))
   rcases eG.mp hm with z|z
   .obtain⟨i,R,a2,_,U⟩:=ext_mem z
    exact#[i,R,by lia,U]
   .obtain⟨i,R,a2,_,U⟩:=ext_mem z
    exact#[i,by lia,a2,U]
  have t:∀j,j<b+k\/b+d+m<=j->(putAt (arrOf st) r (b+k))[j]? =(arrOf st)[j]? :=λj h=>by rw[JG,mo (by lia)]
  have NU:∀i x j y,b<=i->i<b+k->(arrOf st)[i]? =some x->b+k<=j->j<b+d+v->(arrOf st)[j]? =some y->LE O key x y:=λi x j y R a2 a3 U a5 a6=>by
   by_cases c:j<b+d
   .exact fD N R (by lia) c a3 a6
   .exact IR (XA i x R a2 a3) (R6 j y (by lia) a5 a6)
  have Qn:∀i x j y,b<=i->i<b+d+m->(arrOf st)[i]? =some x->b+d+m<=j->j<b+d+v->(arrOf st)[j]? =some y->LE O key x y:=λi x j y R a2 a3 U a5 a6=>by
   by_cases c:i<b+d
   .exact IR (YO i x R c a3) (XI j y U a5 a6)
   .exact fD P (by lia) (by lia) a5 a3 a6
  refine FM (q _ ?_ g.kind Ql g.pend (λj Y=>t j (by lia)) ?_)
  .refine F3 hb ?_
   rw[hr];refine u.1.trans ?_;rw[ext_toList,ext_toList,show b+d-(b+k)=d-k by lia,show b+d+m-(b+d)=m by lia]
   have:((arrOf st).toList.drop (b+k)).take (d-k+m)=((arrOf st).toList.drop (b+k)).take (d-k)++((arrOf st).toList.drop (b+d)).take m:=by
    rw[oN _ (show d-k<=d-k+m by lia),List.drop_drop,show b+k+(d-k)=b+d by lia,show d-k+m-(d-k)=m by lia]
   rw[this]
  .refine D7 (by show b+(d+v)<=(putAt (arrOf st) r (b+k)).size;rw[F4 hb];lia) λi j x y f G Y H I=>?_
   have L:(putAt (arrOf st) r (b+k))[i]? =some x:=H;have F:(putAt (arrOf st) r (b+k))[j]? =some y:=I
   by_cases ci:i<b+k
   .rw[t i (.inl ci)] at L
    by_cases cj:j<b+k
    .rw[t j (.inl cj)] at F
     exact fD N f G (by lia) L F
    .by_cases VP:j<b+d+m
     .obtain⟨j',b1,b2,b3⟩:=SA j y (by lia) VP F
      exact NU i x j' y f ci L b1 (by lia) b3
     .rw[t j (.inr (by lia))] at F
      exact NU i x j y f ci L (by lia) (by lia) F
   .by_cases Zv:i<b+d+m
    .by_cases VP:j<b+d+m
     .rw[JG,tz (by lia)] at L F
      exact fV u.2 (by lia) (lD L) (lD F)
     .obtain⟨i',b1,b2,b3⟩:=SA i x (by lia) Zv L
      rw[t j (.inr (by lia))] at F
      exact Qn i' x j y (by lia) b2 b3 (by lia) (by lia) F
    .rw[t i (.inr (by lia))] at L
     rw[t j (.inr (by lia))] at F
     exact fD P (by lia) G (by lia) L F
 by_cases c:d-k<=m
 .rw[tz c]
  exact Do (Em C o'.kind T λr l g u=>fin r l g u)
 .rw[mo c]
  exact Do (El C o'.kind T λr l g u=>fin r l g u)
end
abbrev U1:=Option Unit×Unit
def Ka(a:Nat):StateT SortSt Sem (ForInStep U1):=do
 let st <-get
 match (if (pendingOf st).size>1 then(pendingOf st)[(pendingOf st).size-2]? else none) with
 |some (_,_,b)=>
  if b<=a then pure (ForInStep.done (none,()))
  else do
   let ok <-mergeAt' ((pendingOf st).size-2)
   if (!ok)=true then pure (ForInStep.done (some (),())) else pure (ForInStep.yield (none,()))
 |_=>pure (ForInStep.done (none,()))
def mD(size lo n:Nat):StateT SortSt Sem (ForInStep (Option Unit×Nat)):=do
 let st <-get
 match (pendingOf st).back? with
 |some (b,a,_)=>do
  let t <-forIn [0:size] ((none,()):U1) λ_ _=>Ka (power' size (2*b+a) (2*b+a+a+n) size)
  match t.1 with
  |some r=>pure (ForInStep.done (some r,lo))
  |none=>do
   modify λs=>setPending s ((pendingOf s).modify ((pendingOf s).size-1) λx=>(x.1,x.2.1,power' size (2*b+a) (2*b+a+a+n) size))
   modify λs=>setPending s ((pendingOf s).push (lo,n,0))
   pure (ForInStep.yield (none,lo+n))
 |_=>do
  modify λs=>setPending s ((pendingOf s).push (lo,n,0))
  pure (ForInStep.yield (none,lo+n))
def D6(size lo:Nat):StateT SortSt Sem (ForInStep (Option Unit×Nat)):=
 if lo>=size then pure (ForInStep.done (none,lo))
 else do
  let x <-countRun' lo (size-lo)
  match x with
  |some a=>
   if a<minRun' size size 0 then do
    liftM (rule "list.sort.binary-insertion")
    let ok <-binarySort' lo (min (size-lo) (minRun' size size 0)) a
    if (!ok)=true then pure (ForInStep.done (some (),lo)) else mD size lo (min (size-lo) (minRun' size size 0))
   else mD size lo a
  |_=>pure (ForInStep.done (some (),lo))
def IL:StateT SortSt Sem (ForInStep U1):=do
 let st <-get
 if (pendingOf st).size<=1 then pure (ForInStep.done (none,()))
 else do
  let ok <-mergeAt' (if (if (pendingOf st).size-2>0 then(pendingOf st)[(pendingOf st).size-2-1]?.map (·.2.1) else none).any (·<((pendingOf st)[(pendingOf st).size-2+1]?.elim 0 (·.2.1))) then(pendingOf st).size-2-1 else(pendingOf st).size-2)
  if (!ok)=true then pure (ForInStep.done (some (),())) else pure (ForInStep.yield (none,()))
theorem yG:sortRuns'=(do
 let st <-get
 let c <-forIn [0:(arrOf st).size] ((none,0):Option Unit×Nat) λ_ c=>D6 (arrOf st).size c.2
 match c.1 with
 |some r=>pure r
 |none=>do
  let t <-forIn [0:(arrOf st).size] ((none,()):U1) λ_ _=>IL
  match t.1 with
  |some r=>pure r
  |none=>pure ()):=by
 rw[sortRuns'_eq];dsimp only;refine bnd rfl λst=>bnd (B8 λ_ c=>?_) λc=>?_
 .unfold D6
  refine fB (λ_=>rfl) (λ_=>bnd rfl λx=>?_);cases x with
  |none=>rfl
  |some f=>
   dsimp only;have i:∀n:Nat,mD (arrOf st).size c.2 n=mD (arrOf st).size c.2 n:=λ_=>rfl;refine fB (λ_=>bnd rfl λ_=>bnd rfl λok=>fB (λ_=>rfl) (λ_=>?_)) (λ_=>?_)
   all_goals
    unfold mD;refine bnd rfl λd=>?_;cases(pendingOf d).back? with
    |none=>rfl
    |some e=>
     obtain⟨j,k,l⟩:=e;dsimp only;refine bnd (B8 λ_ c=>?_) λt=>?_
     .unfold Ka
      refine bnd rfl λa=>?_;cases(if (pendingOf a).size>1 then(pendingOf a)[(pendingOf a).size-2]? else none) with
      |none=>rfl
      |some e=>rfl
     .obtain⟨b,g⟩:=t
      cases b<;>rfl
 .obtain⟨h,m⟩:=c
  cases h with
  |some r=>rfl
  |none=>
   dsimp only;refine bnd (B8 λ_ c=>?_) λt=>?_
   .rfl
   .obtain⟨b,g⟩:=t
    cases b<;>rfl
section
variable {O:KeyOrd} {key:Keyed->O.α} {S:Keyed->Prop} {k0:SortKind} {prog:Program} {w:World} {A:Around} {E:Value->Shared->Prop} {s:Shared} {st bH:SortSt}
def jL(O:KeyOrd)(key:Keyed->O.α)(c:Array Keyed):Nat->List (Nat×Nat)->Nat->Prop
 |a,[],b=>a=b
 |a,e::r,b=>e.1=a/\1<=e.2/\jt O key c a (a+e.2)/\jL O key c (a+e.2) r b
theorem jL.app:∀{j g:List (Nat×Nat)}{a b:Nat},jL O key i a (j++g) b↔∃c,jL O key i a j c/\jL O key i c g b
 | [],g,a,b=>#[λh=>#[a,rfl,h],λ#[c,d,f]=>by cases d;exact f]
 |e::j,g,a,b=>by
  constructor
  .rintro⟨d,f,k,n⟩
   obtain⟨c,l,m⟩:=jL.app.mp n;exact#[c,#[d,f,k,l],m]
  .rintro⟨c,⟨d,f,k,l⟩,m⟩
   exact#[d,f,k,jL.app.mpr #[c,l,m]]
theorem jL.le:∀{l:List (Nat×Nat)}{a b:Nat},jL O key c a l b->a+l.length<=b
 | [],a,b,h=>by cases h;simp
 |e::l,a,b,#[_,f,_,d]=>by
  have:=jL.le d
  rw[cO];lia
def yI(h:∀i,a<=i->i<b->d[i]? =c[i]?)(g:jt O key c a b):jt O key d a b:=λi j e k f=>by
 rw[iO (h i e (by lia)),iO (h j (by lia) f)];exact g i j e k f
theorem jL.congr:∀{l:List (Nat×Nat)}{a b:Nat},(∀i,a<=i->i<b->d[i]? =c[i]?)->jL O key c a l b->jL O key d a l b
 | [],a,b,_,h=>h
 |e::l,a,b,f,#[m,n,o,g]=>by
  have:=jL.le g
  exact#[m,n,yI (λi j k=>f i j (by lia)) o,jL.congr (λi j k=>f i (by lia) k) g]
def pl(st:SortSt):List (Nat×Nat):=(pendingOf st).toList.map λe=>(e.1,e.2.1)
structure SI (O:KeyOrd) (key:Keyed->O.α) (S:Keyed->Prop) (k0:SortKind) (a0:Array Keyed) (st:SortSt) (lo:Nat):Prop where
 ok:Ok S k0 st
 failed:failedOf st=none
 perm:(arrOf st).Perm a0
 cov:jL O key (arrOf st) 0 (pl st) lo
 le:lo<=a0.size
theorem SI.size{a:Array Keyed}{lo:Nat}(h:SI O key S k0 a st lo):(arrOf st).size=a.size:=h.perm.size_eq
def GC(C:gR O key S k0 (model prog w) A E s){m:Array Keyed}{lo i:Nat}{Q:Bool->SortSt->Prop}(h:SI O key S k0 m st lo)(I:i+1<(pendingOf st).size)
  (q:∀a,SI O key S k0 m a lo->(pendingOf a).size=(pendingOf st).size-1->(∀j,lo<=j->(arrOf a)[j]? =(arrOf st)[j]?)->Q true a):wpS (model prog w) A E s (mergeAt' i) Q st:=by
 have J:(pendingOf st)[i]? =some (pendingOf st)[i]:=aaK _ i (by lia)
 have L:(pendingOf st)[i+1]? =some (pendingOf st)[i+1]:=aaK _ (i+1) I
 have n:(pendingOf st).toList=(pendingOf st).toList.take i++((pendingOf st)[i]::(pendingOf st)[i+1]::(pendingOf st).toList.drop (i+2)):=by
  conv=>lhs;rw[<-mT i (pendingOf st).toList]
  congr 1
  rw[tT (by rw[fY];lia),tT (by rw[fY];lia)]
  rfl
 generalize hx:(pendingOf st)[i]=x at*;generalize hy:(pendingOf st)[i+1]=y at*;obtain⟨d,e,M⟩:=x;obtain⟨sb,f,X8⟩:=y;have g:=h.cov;unfold pl at g;rw[n,f6,dz,dz] at g;obtain⟨c,N,P⟩:=jL.app.mp g;obtain⟨o,r,t,u,v,z,k⟩:=P;dsimp only at o r t u v z k;subst o;subst u;have R:=k.le;have fH:=h.size;have Fl:=h.le;refine Ek C h.ok h.failed J L r v (by lia) t z λa B T U X l Y=>?_
 have F:(pendingOf a).toList=(pendingOf st).toList.take i++((d,e+f,M)::(pendingOf st).toList.drop (i+2)):=by
  rw[X,Array.toList_eraseIdxIfInBounds,Array.toList_setIfInBounds]
  conv=>lhs;rw[n]
  have b:((pendingOf st).toList.take i).length=i:=by rw[fF,fY];lia
  rw[List.set_append_right _ _ (by lia),List.eraseIdx_append_of_length_le (by lia),b,kE,show i+1-i=1 by lia]
  rfl
 refine q a #[#[λp Z=>h.ok.mem p ((Ke.mp B).mem_iff.mp Z),T.trans h.ok.kind],U,B.trans h.perm,?_,h.le] ?_ λj hj=>l j (.inr (by lia))
 .unfold pl
  rw[F,f6,dz];refine jL.app.mpr #[d,jL.congr (λj G H=>l j (.inl H)) N,rfl,?_,Y,?_]
  .show 1<=e+f;lia
  .show jL O key (arrOf a) (d+(e+f)) _ lo
   rw[<-Nat.add_assoc];exact jL.congr (λj G H=>l j (.inr G)) k
 .rw[<-fY,F,dh,cO,fF,oW,fY];lia
def Kp(bH st:SortSt)(lo:Nat):Prop:=∀j,lo<=j->(arrOf st)[j]? =(arrOf bH)[j]?
def LW(C:gR O key S k0 (model prog w) A E s){f:Array Keyed}{lo g:Nat}(h:SI O key S k0 f st lo)(d:Kp bH st lo):wpS (model prog w) A E s (Ka g) (λr a=>match r with| .done c=>c=(none,())/\SI O key S k0 f a lo/\Kp bH a lo| .yield c=>c=(none,())/\SI O key S k0 f a lo/\Kp bH a lo) st:=by
 unfold Ka;refine Do (aaR ?_)
 by_cases i:(pendingOf st).size>1
 .rw[tz i]
  cases e:(pendingOf st)[(pendingOf st).size-2]? with
  |none=>exact FM #[rfl,h,d]
  |some x=>
   obtain⟨o,p,l⟩:=x;dsimp only
   by_cases b:l<=g
   .rw[tz b];exact FM #[rfl,h,d]
   .rw[mo b]
    refine Do (GC C h (by lia) λa m _ n=>?_)
    exact FM #[rfl,m,λj k=>(n j k).trans (d j k)]
 .rw[mo i]
  exact FM #[rfl,h,d]
def OA{lo n:Nat}:pl (setPending st ((pendingOf st).push (lo,n,0)))=pl st++ [(lo,n)]:=by
 unfold pl;show((pendingOf st).push (lo,n,0)).toList.map _=_;rw[Bo,f6];rfl
def Iy:pl (setPending st ((pendingOf st).modify i λx=>(x.1,x.2.1,a)))=pl st:=by
 unfold pl;show((pendingOf st).modify i λx=>(x.1,x.2.1,a)).toList.map _=_;apply Bp;intro j;rw[eQ,eQ,fM,fM,Array.getElem?_modify]
 by_cases e:i=j
 .rw[tz e]
  cases(pendingOf st)[j]? <;>rfl
 .rw[mo e]
def SI.J0{a:Array Keyed}{lo n:Nat}(h:SI O key S k0 a st lo)(b:1<=n)(c:lo+n<=a.size)(d:jt O key (arrOf st) lo (lo+n)):SI O key S k0 a (setPending st ((pendingOf st).push (lo,n,0))) (lo+n):=by
 refine#[#[h.ok.mem,h.ok.kind],h.failed,h.perm,?_,c];rw[OA];exact jL.app.mpr #[lo,h.cov,rfl,b,d,rfl]
theorem vq(C:gR O key S k0 (model prog w) A E s){b:Array Keyed}{lo n:Nat}(h:SI O key S k0 b st lo)(k:1<=n)(l:lo+n<=b.size)(m:jt O key (arrOf st) lo (lo+n)):
  wpS (model prog w) A E s (mD b.size lo n) (λr a=>match r with| .done c=>False| .yield c=>c=(none,lo+n)/\SI O key S k0 b a (lo+n)) st:=by
 unfold mD;refine Do (aaR ?_);cases(pendingOf st).back? with
 |none=>exact Do (aa1 (FM #[rfl,h.J0 k l m]))
 |some e=>
  obtain⟨p,j,v⟩:=e;dsimp only;refine Do (Pv (Re (I:=λ(x:Nat)(c:U1)(a:SortSt)=>c=(none,())/\SI O key S k0 b a lo/\Kp st a lo) (Q:=λc a=>c=(none,())/\SI O key S k0 b a lo/\Kp st a lo) (λx c a _ _ g=>?_) (λc a g=>g) #[rfl,h,λ_ _=>rfl]) ?_)
  .refine Pv (LW C g.2.1 g.2.2) λr y o=>?_
   cases r with
   |done d=>exact o
   |yield d=>exact o
  .rintro c a ⟨rfl,f,q⟩
   dsimp only;refine Do (aa1 (Do (aa1 (FM #[rfl,?_]))))
   have t:SI O key S k0 b (setPending a ((pendingOf a).modify ((pendingOf a).size-1) λx=>(x.1,x.2.1,power' b.size (2*p+j) (2*p+j+j+n) b.size))) lo:=
    #[#[f.ok.mem,f.ok.kind],f.failed,f.perm,by rw[Iy];exact f.cov,f.le]
   exact t.J0 k l (yI (λi u z=>q i u) m)
def SI.Yu{b:Array Keyed}{lo c:Nat}{a:SortSt}(h:SI O key S k0 b st lo)(t:gU st a lo c):SI O key S k0 b a lo:=
 #[h.ok.step t,t.failed.trans h.failed,t.perm.trans h.perm,by
  have:pl a=pl st:=by unfold pl;rw[t.pend]
  rw[this];exact jL.congr (λi _ d=>t.out i (.inl d)) h.cov,h.le]
theorem Jg(C:gR O key S k0 (model prog w) A E s){a:Array Keyed}{lo:Nat}(h:SI O key S k0 a st lo):
  wpS (model prog w) A E s (D6 a.size lo) (λr b=>match r with| .done c=>c=(none,lo)/\a.size<=lo/\SI O key S k0 a b lo| .yield c=>∃n,1<=n/\c=(none,lo+n)/\SI O key S k0 a b (lo+n)) st:=by
 unfold D6;have u:=h.size;have k:=h.le
 by_cases f:lo>=a.size
 .rw[tz f];exact FM #[rfl,f,h]
 .rw[mo f]
  refine Do (wpS_countRun C h.ok (by lia) (by lia) λm v l g x i=>?_)
  dsimp only;have e:=h.Yu l;have p:=e.size
  by_cases j:m<minRun' a.size a.size 0
  .rw[tz j]
   refine Do (abc (aaL #[rfl,?_]));refine Do (wpS_binarySort C e.ok (by lia) (by lia) i λy q t=>?_)
   rw[mo (by decide)]
   refine Pv (vq C (e.Yu q) (by lia) (by lia) t) λr b o=>?_
   cases r with
   |done d=>exact o.elim
   |yield d=>exact#[_,by lia,o.1,o.2]
  .rw[mo j]
   refine Pv (vq C e g (by lia) i) λr b o=>?_
   cases r with
   |done d=>exact o.elim
   |yield d=>exact#[_,g,o.1,o.2]
def ite_le [Decidable c]:(if c then p-1 else p)<=p:=by split<;>lia
def Jf(C:gR O key S k0 (model prog w) A E s)(h:SI O key S k0 a st a.size)(g:(pendingOf st).size<=max 1 (a.size-x)):
  wpS (model prog w) A E s IL (λr b=>match r with| .done c=>c=(none,())/\SI O key S k0 a b a.size/\(pendingOf b).size<=1| .yield c=>c=(none,())/\SI O key S k0 a b a.size/\(pendingOf b).size<=max 1 (a.size-(x+1))) st:=by
 unfold IL;refine Do (aaR ?_)
 by_cases d:(pendingOf st).size<=1
 .rw[tz d];exact FM #[rfl,h,d]
 .rw[mo d]
  refine Do (GC C h (Nat.lt_of_le_of_lt (Nat.succ_le_succ ite_le) (by lia)) λb f e _=>?_)
  exact FM #[rfl,f,by lia]
theorem wpS_sortRuns(C:gR O key S k0 (model prog w) A E s){Q:Unit->SortSt->Prop}(o:Ok S k0 st)(p:failedOf st=none)(t:pendingOf st= #[])(F:1<=(arrOf st).size)
  (q:∀a,(arrOf a).Perm (arrOf st)->failedOf a=none->jt O key (arrOf a) 0 (arrOf st).size->Q () a):wpS (model prog w) A E s sortRuns' Q st:=by
 rw[yG];refine Do (aaR ?_);have u:SI O key S k0 (arrOf st) st 0:=#[o,p, .refl _,by unfold pl;rw[t];rfl,cZ _]
 refine Do (Pv (Re (I:=λ(x:Nat)(c:Option Unit×Nat)(a:SortSt)=>∃lo,c=(none,lo)/\min x (arrOf st).size<=lo/\SI O key S k0 (arrOf st) a lo) (Q:=λc a=>c=(none,(arrOf st).size)/\SI O key S k0 (arrOf st) a (arrOf st).size) (λx c a _ _ b=>?_) (λc a b=>?_) #[0,rfl,by lia,u]) ?_)
 .obtain⟨lo,rfl,v,f⟩:=b
  refine Pv (Jg C f) λr g o=>?_;cases r with
  |done d=>
   obtain⟨e,G,h⟩:=o
   have:=h.le
   have j:lo=(arrOf st).size:=by lia
   rw[j] at e h;exact#[e,h]
  |yield d=>
   obtain⟨n,H,e,h⟩:=o;exact#[lo+n,e,by lia,h]
 .obtain⟨lo,rfl,v,f⟩:=b
  have:=f.le
  have j:lo=(arrOf st).size:=by lia
  rw[j] at f ⊢;exact#[rfl,f]
 .rintro c a ⟨rfl,f⟩
  dsimp only
  have m:(pendingOf a).size<=(arrOf st).size:=by
   have:=f.cov.le
   unfold pl at this;rw[aV,fY] at this;lia
  refine Do (Pv (Re (I:=λ(x:Nat)(c:U1)(a:SortSt)=>c=(none,())/\SI O key S k0 (arrOf st) a (arrOf st).size/\(pendingOf a).size<=max 1 ((arrOf st).size-x)) (Q:=λc a=>c=(none,())/\SI O key S k0 (arrOf st) a (arrOf st).size/\(pendingOf a).size<=1) (λx c a _ _ b=>?_) (λc a b=>?_) #[rfl,f,by lia]) ?_)
  .refine Pv (Jf C b.2.1 b.2.2) λr g o=>?_
   cases r with
   |done d=>exact o
   |yield d=>exact o
  .exact#[b.1,b.2.1,by have:=b.2.2;lia]
  .rintro c g ⟨rfl,k,y⟩
   refine FM (q g k.perm k.failed ?_);have i:=k.cov;have l:(pl g).length<=1:=by unfold pl;rw[aV,fY];exact y
   match b9:pl g,l with
   | [],_=>rw[b9] at i;exact absurd i (by show ¬(0=(arrOf st).size);lia)
   | [e],_=>
    rw[b9] at i;obtain⟨J,L,z,B⟩:=i
    have:0+e.2=(arrOf st).size:=B
    rw[<-this];exact z
end
section
variable {O:KeyOrd} {key:Keyed->O.α} {S:Keyed->Prop} {k0:SortKind} {prog:Program} {w:World} {A:Around} {E:Value->Shared->Prop} {s:Shared}
def Keeps(s a:Shared):Prop:=∀b o,s.heap.get? b=some o->a.heap.get? b=some o
def uS(a:List Value):(a.toArray.zip a.toArray).toList=a.map λv=>(v,v):=by
 rw[Array.toList_zip];show List.zip a a=_
 induction a with
 |nil=>rfl
 |cons v r b=>rw[List.zip_cons_cons,dz,b]
def RC(h:jt O key a 0 a.size):a.toList.Pairwise (LE O key):=by
 rw[GJ];intro i j c b d;rw[fY] at c b;exact fD h (cZ _) (uW d) b (kj (dD _)) (kj (dD _))
def nQ(j:s.heap.get? a=some (seqObj "list" c.toArray n))(N:2<=c.length)(R:c.length<=1000)(ne:∀b o,s.heap.get? b=some o->b≠a->True)
  {s0:Shared} (k:∀b o,s0.heap.get? b=some o->b≠a/\s.heap.get? b=some o)
  (z:∀(E:Value->Shared->Prop)(d:Shared)(m:SortKind->Shared->Prop),Keeps s0 d->m k0 d->wpAny (model prog w) A (keyKind' c.toArray) m E d)
  (C:∀(E:Value->Shared->Prop)(d:Shared),Keeps s0 d->gR O key S k0 (model prog w) A E d) (mem:∀v∈c,S (v,v))
  (h:∀out:Array Keyed,out.toList.Perm (c.map λv=>(v,v))->out.toList.Pairwise (LE O key)->P (.done (.ret .none)) {s with heap:=sortedHeap s.heap a c (out.map (·.2))}):
  wpAny (model prog w) A (Builtin.«list.sort» #[[.ref a],[]]) P E s:=by
 rw[list_sort_plain];have q:a<s.heap.objs.size:=Fk j;have T:1000<sizeLine:=by decide
 refine ir (listItems_at j rfl ?_);refine ir (abP j rfl ?_ (by rw[cY];lia) (cZ _))
 obtain⟨l,r⟩:∃l,(s.heap.update a (Obj.mapSeq λ_=> #[])).get? a=some (seqObj "list" #[] l):=#[_,get?_update_seq j (λ_=> #[])];refine ir (acv r rfl ?_);refine ir (wpAny_newTuple ?_ (by show c.length<=_;lia))
 refine ir (aa9 ?_ (cZ _));refine M2 ?_
 have t:(((s.heap.update a (Obj.mapSeq λ_=> #[])).push (seqObj "tuple" c.toArray 0)).push (seqObj "list" #[] 0)).get? a=some (seqObj "list" #[] l):=by
  rw[aa4 _ _ _ (by rw[abt,aaM];exact bO (zf q)),aa4 _ _ _ (by rw[aaM];exact bO q)]
  exact r
 show wpAny (model prog w) A _ P E {s with heap:=((s.heap.update a (Obj.mapSeq λ_=> #[])).push (seqObj "tuple" c.toArray 0)).push (seqObj "list" #[] 0)}
 have u:Keeps s0 {s with heap:=((s.heap.update a (Obj.mapSeq λ_=> #[])).push (seqObj "tuple" c.toArray 0)).push (seqObj "list" #[] 0)}:=λb o e=>by
  obtain⟨B,F⟩:=k b o e;refine Da _ (Da _ ?_);rw[aaI _ _ _ _ B];exact F
 dsimp only;have U:c.toArray.size=c.length:=by simp
 have x:¬c.toArray.size<2:=by lia
 rw[mo x,mo x];refine ir (z _ _ _ u ?_);have g:(c.toArray.zip c.toArray).size=c.length:=by rw[<-fY,uS,aV]
 refine ir (wpAny_mono (wpS_sortRuns (C _ _ u) (st:=SortSt.mk' k0 (c.toArray.zip c.toArray) #[] 7 none)
   (Q:=λ_ f=>(arrOf f).Perm (c.toArray.zip c.toArray)/\failedOf f=none/\jt O key (arrOf f) 0 (c.toArray.zip c.toArray).size)
   #[λp i=>?_,rfl] rfl rfl (by show 1<=(c.toArray.zip c.toArray).size;lia) λf G H I=>#[G,H,I]) ?_ λ_ _ e=>e)
 .have y:p∈(c.toArray.zip c.toArray).toList:=i
  rw[uS] at y;obtain⟨v,J,rfl⟩:=dO.mp y;exact mem v J
 rintro⟨⟨⟩,f⟩ d ⟨rfl,i,L,M⟩;dsimp only;have X:(arrOf f).size=c.length:=by rw[i.size_eq,g]
 refine ir (acv t rfl ?_);refine ir (abP t rfl ?_ (cZ _) (by rw[Array.size_map];lia))
 rw[L];simp only[abU,fE,On];refine AC (h (arrOf f) ?_ ?_)
 .rw[<-uS];exact Ke.mp i
 .refine RC ?_
  rw[i.size_eq];exact M
def Gd(j:s.heap.IsList l a.toArray)(k:2<=a.length)(n:a.length<=1000)
  (p:∀(E:Value->Shared->Prop)(c:Shared)(g:SortKind->Shared->Prop),Keeps s c->g k0 c->wpAny (model prog w) A.in1.in1 (keyKind' a.toArray) g E c)
  (C:∀(E:Value->Shared->Prop)(c:Shared),Keeps s c->gR O key S k0 (model prog w) A.in1.in1 E c) (mem:∀v∈a,S (v,v))
  (h:∀out:Array Keyed,out.toList.Perm (a.map λv=>(v,v))->out.toList.Pairwise (LE O key)->Q (.ref (s.heap.objs.size+1)) {s with heap:=sortedAll s.heap a (out.map (·.2))}):
  wpAny (model prog w) A (call (.builtin "sorted") [.ref l]) Q E s:=by
 have u:1000<sizeLine:=by decide
 refine aaT kind_sorted acJ acK (acL _) ?_;unfold Builtin.«sorted»;refine ir (m:=checkCount "sorted" 1 1 _) (AC ?_);refine ir (acM j ?_ (by lia))
 refine ir (aa9 ?_ (by show a.length<=_;lia))
 have d:((s.heap.push (seqObj "list" #[] 0)).update s.heap.objs.size (Obj.mapSeq (·++a.toArray))).objs.size=s.heap.objs.size+1:=by
  rw[aaM,abt]
 have i:(((s.heap.push (seqObj "list" #[] 0)).update s.heap.objs.size (Obj.mapSeq (·++a.toArray))).push (seqObj "list" a.toArray 0)).get? (s.heap.objs.size+1)=some (seqObj "list" a.toArray 0):=by
  rw[<-d];exact GM _ rfl
 have keep:∀b o,s.heap.get? b=some o->(((s.heap.push (seqObj "list" #[] 0)).update s.heap.objs.size (Obj.mapSeq (·++a.toArray))).push (seqObj "list" a.toArray 0)).get? b=some o:=λb o q=>by
  have f:b<s.heap.objs.size:=Fk q;rw[aa4 _ _ _ (by rw[d];exact bO (zf f)),aaI _ _ _ _ (bO f),aa4 _ _ _ (bO f)]
  exact q
 show wpAny _ _ _ _ _ {s with heap:=((s.heap.push (seqObj "list" #[] 0)).update s.heap.objs.size (Obj.mapSeq (·++a.toArray))).push (seqObj "list" a.toArray 0)}
 rw[d];refine ir (M2 (aaD slot_list_sort #[_,i,rfl] entry_list_sort (nQ (s0:=s) i k n (λ_ _ _ _=>trivial) (λb o e=>#[bO (zf (Fk e)),keep b o e]) p C mem λout r t=>#[_,rfl,?_]) (abC _)));exact AC #[_,rfl,h out r t]
end
end TS
namespace L2
open PySem PySem.Spec PyProof.Rows
def lexOrd:KeyOrd where
 α:=Nat×Nat
 blt:=jW
 irrefl:=λa=>by unfold jW;rw[tz rfl];simp
 trans:=λa b c d e=>NO _ _ _ d e
 negTrans:=λa b c h=>La _ _ _ h
 total:=λa b d e=>Wb.uw (xV e) (xV d)
def keyOf(L:List (Addr×(Nat×Nat)))(v:Keyed):Nat×Nat:=match v.1 with
 | .ref a=>((L.find? λe=>e.1==a).map (·.2)).getD (0,0)
 |_=>(0,0)
def Iq(h:uH k=uH b):k=b:=by
 unfold uH at h
 injection h with c a
 injection a with a _
 injection c with c
 injection a with a
 exact aaA (by lia) (by lia)
def lW(c:EC H L)(d:e∈L)(v:Value):keyOf L (.ref e.1,v)=e.2:=by
 unfold keyOf;dsimp only;cases b:L.find? λx=>x.1==e.1 with
 |none=>exact absurd (abK.mp b e d) (by simp)
 |some x=>
  have f:=abX b;have g:=List.find?_some b;have h:x.1=e.1:=by simpa using g
  have a:=c x f;have i:=c e d;rw[h,i] at a
  injection a with a
  injection a with a
  exact(Iq a).symm
theorem jz [DecidableEq a] (f:a->b):∀(l:List b)(L:List a),l.Perm (L.map f)->∃M:List a,M.Perm L/\l=M.map f
 | [],L,h=>by
  have:=h.length_eq
  rw[aV] at this
  have:L= []:=GK.mp this.symm
  subst this;exact#[[], .refl _,rfl]
 |x::r,L,h=>by
  obtain⟨e,d,rfl⟩:=dO.mp (h.mem_iff.mp dE);have c:=List.perm_cons_erase d;have g:(f e::r).Perm (f e::(L.erase e).map f):=h.trans (c.map f);obtain⟨M,i,rfl⟩:=jz f r (L.erase e) ((List.perm_cons _).mp g);exact#[e::M,(i.cons e).trans c.symm,rfl]
section
variable {X:Cx}
theorem Ge(I:Inv X d U H s)(E:EC H L)(hz:L.length<=1000)
  (Y:∀(N:List Value->Shared->Prop),(∀Z tk,s.heap.objs.size<=Z.objs.size->(∀b o,s.heap.get? b=some o->Z.get? b=some o)->N (L.map λe=>Value.ref e.1) {s with heap:=Z,toks:=tk})->wpAny (model X.prog X.w) X.A.in1 (collect v) N X.xe s)
  (q:∀(q:Addr)(M:List (Addr×(Nat×Nat))),H q=none->M.Perm L->(M.map (·.2)).Pairwise Wb.lexLe->Q (.ref q) (upd H q (.lst (M.map λe=>V.ref e.1)))):
  wpAny (model X.prog X.w) X.A (call (.builtin "sorted") [v]) (EP X d U Q) X.xe s:=by
 have cQ:1000<sizeLine:=by decide
 refine aaT kind_sorted acJ acK (acL _) ?_;unfold Builtin.«sorted»;refine ir (m:=checkCount "sorted" 1 1 _) (AC (ir (Y _ λk Pe XF Oa=>ir (aa9 ?_ (by rw[aV];lia)))))
 have F:(k.push (seqObj "list" (L.map λe=>Value.ref e.1).toArray 0)).get? k.objs.size=some (seqObj "list" (L.map λe=>Value.ref e.1).toArray 0):=GM _ rfl;have H0:∀b o,s.heap.get? b=some o->b<k.objs.size:=λb o e=>Fk (Oa b o e)
 have fin:∀(M:List (Addr×(Nat×Nat)))(out:Array Value),M.Perm L->(M.map (·.2)).Pairwise Wb.lexLe->out.toList=M.map (λe=>Value.ref e.1)->EP X d U Q (.ref k.objs.size) {s with heap:=sortedHeap (k.push (seqObj "list" (L.map λe=>Value.ref e.1).toArray 0)) k.objs.size (L.map λe=>Value.ref e.1) out,toks:=Pe}:=λM out B ms G=>by
  obtain⟨c,J⟩:=sortedHeap_at (out:=out) F;refine#[.ref k.objs.size,_,I.laid (t':=Pe) (λb o e=>?_) XF (o:= .lst (M.map λe=>V.ref e.1)) #[by rw[aV,B.length_eq];lia,out.toList,c,?_,by rw[Array.toArray_toList];exact J],rfl,q _ M (I.hok.fresh XF) B ms]
  .rw[sortedHeap_old (bO (H0 b o e)) (by rw[abt];exact zf (H0 b o e))]
   exact Da _ (Oa b o e)
  .rw[G,show(λe:Addr×(Nat×Nat)=>V.ref e.1)=V.ref∘(·.1) from rfl,show(λe:Addr×(Nat×Nat)=>Value.ref e.1)=Value.ref∘(·.1) from rfl,<-eH,<-eH]
   exact qS _
 by_cases h2:L.length<2
 .refine ir (M2 (aaD slot_list_sort #[_,F,rfl] entry_list_sort (KS.vo F (by rw[aV];exact h2) #[_,rfl,AC #[_,rfl,fin L _ (.refl _) ?_ rfl]]) (abC _)))
  match L,h2 with
  | [],_=>exact .nil
  | [_],_=>exact aa2 _ _
 .have l:∀e∈L,∀j:Shared,TS.Keeps s j->∃t u,IsTup j.heap e.1 [.int (e.2.1:Nat) t, .int (e.2.2:Nat) u].toArray:=λe he j C=>by
   refine af λG0 k0=>?_;obtain⟨t,u,o,G,J,n,hd⟩:=Ll I (E e he);refine k0 ?_;exact#[t,u,o,C _ _ G,J,n,hd]
  refine ir (M2 (aaD slot_list_sort #[_,F,rfl] entry_list_sort (TS.nQ (s0:=s) (O:=lexOrd) (key:=keyOf L) (S:=λp=>∃e∈L,p=(Value.ref e.1,Value.ref e.1)) (k0:=tuples' true) F (by rw[aV];lia) (by rw[aV];lia) (λ_ _ _ _=>trivial) (λb o e=>#[bO (H0 b o e),Da _ (Oa b o e)]) (λE' j N C hq=>?_) (λE' j C x y st N sx sy hk hq=>?_) (λv r=>?_) λout nO HM=>#[_,rfl,AC #[_,rfl,?_]]) (abC _)))
  .have go:∀(M:List (Addr×(Nat×Nat))),(∀e∈M,e∈L)->∃fs:List Value,PySem.W.KatTups j.heap (M.map λe=>Value.ref e.1) fs/\fs.length=M.length/\∀v∈fs,∃i t,v= .int i t:=by
    intro M
    induction M with
    |nil=>exact λ_=>#[[],PySem.W.KatTups.nil,rfl,λv r=>by cases r]
    |cons e M ih=>
     intro hM;refine af λG0 k0=>?_;obtain⟨fs,a,b,c⟩:=ih λx hx=>hM x (eM _ hx);obtain⟨t,u,o,G,J,n,hd⟩:=l e (hM e dE) j C;refine k0 ?_;refine#[.int (e.2.1:Nat) t::fs,PySem.W.KatTups.cons G J hd rfl a,by simp[b],λv r=>?_]
     rcases b8.mp r with z|z
     .exact#[_,_,z]
     .exact c v z
   obtain⟨fs,kt,kl,ki⟩:=go L λ_ h=>h;refine PySem.W.kat_kind (T:= .type "int") kt (by lia) (λv r=>by obtain⟨i,t,rfl⟩:=ki v r;exact .now) (by decide) ?_
   have hb:(Value.type "int" !=Value.type "tuple")=true:=by decide
   rw[hb];exact hq
  .obtain⟨f,P,rfl⟩:=sx
   obtain⟨g,R,rfl⟩:=sy;rw[lt'_eq];refine Do (aaR ?_);rw[hk];refine af λG0 k0=>?_;obtain⟨t1,t2,k1⟩:=l f P j C;obtain⟨u1,u2,k2⟩:=l g R j C;refine k0 ?_;refine Do (abc (abQ (Qz k1 k2 #[rfl,?_])))
   have eb:(if ((f.2.1:Nat):Int)=((g.2.1:Nat):Int) then decide (((f.2.2:Nat):Int)<((g.2.2:Nat):Int)) else decide (((f.2.1:Nat):Int)<((g.2.1:Nat):Int)))=lexOrd.blt (keyOf L (.ref f.1, .ref f.1)) (keyOf L (.ref g.1, .ref g.1)):=by
    rw[lW E P,lW E R];show _=jW f.2 g.2;unfold jW;simp only[Int.ofNat_inj,Int.ofNat_lt]
   rw[eb];exact FM hq
  .obtain⟨e,he,rfl⟩:=dO.mp r
   exact#[e,he,rfl]
  .rw[eH] at nO
   obtain⟨M,B,em⟩:=jz (λe:Addr×(Nat×Nat)=>((Value.ref e.1,Value.ref e.1):Keyed)) out.toList L nO;refine fin M _ B ?_ (by rw[Array.toList_map,em,eH];rfl)
   rw[em,j8] at HM;rw[j8];refine aaH ?_ HM;intro f g P R hle;have Fj:jW (keyOf L (.ref g.1, .ref g.1)) (keyOf L (.ref f.1, .ref f.1))=false:=hle;rw[lW E (B.mem_iff.mp P),lW E (B.mem_iff.mp R)] at Fj;exact xV Fj
def zw:CallR X (.builtin "sorted") (λc H Q=>∃(p:Addr)(L:List (Addr×(Nat×Nat))),c= [.ref p]/\cJ X.K H p (L.map λe=>V.ref e.1)/\EC H L/\L.length<=1000/\
  ∀(q:Addr)(M:List (Addr×(Nat×Nat))),H q=none->M.Perm L->(M.map (·.2)).Pairwise Wb.lexLe->Q (.ref q) (upd H q (.lst (M.map λe=>V.ref e.1)))):=by
 intro d s n H c us Q I f h;rfl';obtain⟨p,L,rfl,i,j,k,q⟩:=h;obtain⟨u,rfl,l⟩:=f.one;subst l;obtain⟨a,r,pl,_⟩:=I.list i
 have m:a=L.map λe=>Value.ref e.1:=by
  have:=rf (as:=L.map (·.1)) (us:=a) (by rw[eH];exact r)
  rw[this,eH];rfl
 have v:1000<sizeLine:=by decide
 ac_rfl;subst m;refine Ge I j k (λw h=>acM pl.isList (h _ _ ?_ λb o e=>?_) (by rw[aV];lia)) q
 .rw[aaM,abt];exact js _
 .rw[aaI _ _ _ _ (bO (Fk e))];exact Da _ e
end
section
open PySem.SeqAt
open PySem.AutoSeq1 (wpAny_loadPart')
open PySem.MeetsSeq PySem.MeetsSeq2 PySem.MeetsSeq3
def Ft{c:List Value}{d:List Int}(h:IntsAre c d){i:Nat}{a:Int}(e:d[i]? =some a):∃t,c[i]? =some (.int a t):=by
 induction h generalizing i with
 |nil=>simp at e
 |cons b t _ f=>
  cases i with
  |zero=>simp at e;subst e;exact#[t,rfl]
  |succ i=>simp at e;obtain⟨u,g⟩:=f e;exact#[u,by simpa using g]
theorem NW(l b:Addr)(a j:Array Value)(n G:Nat)(H I:Option Addr)(J L:Array (Option Value))(m f:List Int)(C:IntsAre a.toList m)(E:IntsAre j.toList f)(k:Nat):
  ∀i:Nat,a.size-i=k->i<=a.size->i<=j.size->Meets (Builtin.«list.__eq__.loop» #[[.ref l, .ref b,rawInt i,rawInt 0],[]])
   (λA R s=>s.heap.get? l=some {cls:= .type "list",dict:=H,data:= .seq a n,slots:=J}/\s.heap.get? b=some {cls:= .type "list",dict:=I,data:= .seq j G,slots:=L}/\
    R (.ok (.ret (.bool (HT.lexLt (m.drop i) (f.drop i))))) s):=by
 have Z:a.size=m.length:=by rw[<-C.length];simp
 have z2:j.size=f.length:=by rw[<-E.length];simp
 induction k with
 |zero=>
  intro i M N O prog w A R s h;obtain⟨x,g,d,y,os⟩:=s;obtain⟨o,p,h⟩:=h
  wp_walk using wpAny_loadPart' o,wpAny_loadPart' p
  have r:a[((i:Nat):Int).toNat]? =none:=by simp;lia
  rw[r];have P:m.drop i= []:=GL (by lia)
  rw[P] at h
  have Q:HT.lexLt [] (f.drop i)=decide (a.size<j.size):=by
   by_cases c:i<f.length
   .rw[tT c,HT.vO]
    exact(KM (by lia)).symm
   .rw[GL (by lia),HT.xW]
    exact(Gc (by lia)).symm
  rw[Q] at h
  wp_walk using wpAny_loadPart' o,wpAny_loadPart' p
  exact h
 |succ k S=>
  intro i M N O prog w A R s h;obtain⟨x,g,d,y,os⟩:=s;obtain⟨o,p,h⟩:=h
  wp_walk using wpAny_loadPart' o,wpAny_loadPart' p
  have z:i<m.length:=by lia
  obtain⟨t,T⟩:=Ft C (dD z);have r:a[((i:Nat):Int).toNat]? =some (.int m[i] t):=by rw[Int.toNat_natCast,<-fM];exact T
  have U:((i:Int)+1)=((i+1:Nat):Int):=by push_cast;rfl
  rw[r]
  by_cases c:i<f.length
  .obtain⟨u,X⟩:=Ft E (dD c)
   have v:j[((i:Nat):Int).toNat]? =some (.int f[i] u):=by rw[Int.toNat_natCast,<-fM];exact X
   rw[v];rw[tT z,tT c,HT.gM] at h;obtain⟨e,Y,F⟩:=HT.KJ A.in1 #[x,g,d,y,os] m[i] t f[i] u;refine ir (Y prog w _ _ ?_);cases e with
   |true=>
    rw[tz (F.mp rfl)] at h
    wp_walk
    rw[U]
    exact#[abR abS _,abv entry_eq_loop (by
     rw[abw abS _];exact S (i+1) (by lia) (by lia) (by lia) prog w A R _ #[o,p,h])]
   |false=>
    rw[mo (λq=>absurd (F.mpr q) eO)] at h
    wp_walk using wpAny_loadPart' o,wpAny_loadPart' p
    rw[r,v];have B:=HT.Ly A.in1 #[x,g,d,y,os] m[i] t f[i] u prog w
    wp_walk using B
    exact h
  .have v:j[((i:Nat):Int).toNat]? =none:=by simp;lia
   rw[v];rw[tT z,GL (show f.length<=i by lia),HT.vN] at h
   wp_walk using wpAny_loadPart' o,wpAny_loadPart' p
   show R (.ok (.ret (.bool (decide (a.size<j.size))))) _;rw[Gc (by lia)]
   exact h
end
section
open PySem.SeqAt
open PySem.AutoSeq1 (wpAny_loadPart')
open PySem.MeetsSeq PySem.MeetsSeq2 PySem.MeetsSeq3
def z6(l b:Addr)(a c:Array Value)(n i:Nat)(j k:Option Addr)(m o:Array (Option Value))(e f:List Int)(r:IntsAre a.toList e)(t:IntsAre c.toList f):
  Meets (Builtin.«list.__lt__» #[[.ref l, .ref b],[]])
   (λ_ R s=>s.heap.get? l=some {cls:= .type "list",dict:=j,data:= .seq a n,slots:=m}/\s.heap.get? b=some {cls:= .type "list",dict:=k,data:= .seq c i,slots:=o}/\
    R (.ok (.ret (.bool (HT.lexLt e f)))) s):=by
 intro prog w A R s h;obtain⟨u,g,d,v,os⟩:=s;obtain⟨p,q,h⟩:=h;have x:=AutoSeq1.sub_list_list
 wp_walk using wpAny_loadPart' p,wpAny_loadPart' q
 exact#[abR abS _,abv entry_eq_loop (by
  rw[abw abS _];exact NW l b a c n i j k m o e f r t _ 0 rfl (cZ _) (cZ _) prog w A R _ #[p,q,h])]
end
section
variable {prog:Program} {w:World} {A:Around} {E:Value->Shared->Prop} {s:Shared}
def FL(o:s.heap.IsList l a)(p:s.heap.IsList b d)(q:IntsAre a.toList e)(r:IntsAre d.toList f)(t:A.units<cLine)
  (h:Q (HT.lexLt e f) s):wpAny (model prog w) A (oneLt' true (.ref l) (.ref b)) Q E s:=by
 rfl';obtain⟨⟨cls,v,i,x⟩,g,j,n,k⟩:=id o;obtain⟨⟨H,y,data2,z⟩,B,m,C,c⟩:=id p;ac_rfl;simp only at j k m c;subst j k m c;rw[oneLt'_eq];simp only[aaC];refine ir (wpAny_cRoomFor t ?_);refine ir (wpAny_callSpecialIfBound?_slot #[_,g,rfl] PySem.F.slot_list_lt (aa0 PySem.F.slot_list_lt #[_,g,rfl] PySem.F.entry_list_lt (PySem.F.args_list_lt_2 _ _) (z6 l b a d n C v y x z e f q r) #[g,B,?_]));exact SB h
end
theorem xX:∀a:List Int,HT.lexLt a a=false
 | []=>rfl
 |x::b=>by rw[HT.gM,tz rfl];exact xX b
theorem Dc:∀a b c:List Int,HT.lexLt a b=true->HT.lexLt b c=true->HT.lexLt a c=true
 | [],[],_,h,_=>by cases h
 | [],_::_,[],_,h=>by cases h
 | [],_::_,_::_,_,_=>rfl
 |_::_,[],_,h,_=>by cases h
 |_::_,_::_,[],_,h=>by cases h
 |x::i,y::j,z::k,g,e=>by
  rw[HT.gM] at*
  by_cases f:x=y
  .rw[tz f] at g
   by_cases d:y=z
   .rw[tz d] at e
    rw[tz (f.trans d)];exact Dc i j k g e
   .rw[mo d] at e
    rw[mo (by rw[f];exact d),f];exact e
  .rw[mo f] at g
   have l:=Pi g
   by_cases d:y=z
   .rw[mo (by rw[<-d];exact f),<-d];exact g
   .rw[mo d] at e
    have m:=Pi e;rw[mo (by lia)]
    exact KM (by lia)
theorem sP:∀a b:List Int,HT.lexLt a b=false->HT.lexLt b a=false->a=b
 | [],[],_,_=>rfl
 | [],_::_,h,_=>by cases h
 |_::_,[],_,h=>by cases h
 |x::f,y::g,c,d=>by
  rw[HT.gM] at*
  by_cases e:x=y
  .rw[tz e] at c
   rw[tz e.symm] at d;rw[e,sP f g c d]
  .rw[mo e] at c
   rw[mo (λz=>e z.symm)] at d
   have:=SZ c
   have:=SZ d
   lia
def NP(a b c:List Int)(h:HT.lexLt a c=true):HT.lexLt a b=true\/HT.lexLt b c=true:=by
 cases e:HT.lexLt a b with
 |true=>exact .inl rfl
 |false=>
  right
  cases d:HT.lexLt b a with
  |true=>exact Dc _ _ _ d h
  |false=>rw[<-sP a b e d];exact h
def NS:KeyOrd where
 α:=List Int
 blt:=HT.lexLt
 irrefl:=xX
 trans:=Dc
 negTrans:=NP
 total:=sP
def ji(r:List Nat):List Int:=r.map λ(n:Nat)=>(n:Int)
def nS(a b:List Nat):Prop:=HT.lexLt (ji b) (ji a)=false
def GX(H:Hp)(L:List (Addr×List Nat)):Prop:=∀p∈L,H p.1=some (.lst ((ji p.2).map V.int))
def Gu(h:(ji a).map V.int=(ji b).map V.int):a=b:=by
 unfold ji at h;rw[eH,eH] at h
 induction a generalizing b with
 |nil=>cases b with
  |nil=>rfl
  |cons y b=>simp at h
 |cons x a d=>
  cases b with
  |nil=>simp at h
  |cons y b=>
   rw[dz,dz] at h
   injection h with e f
   have c:V.int (x:Int)=V.int (y:Int):=e
   injection c with c
   rw[d f,show x=y by lia]
def qH(L:List (Addr×List Nat))(v:Keyed):List Int:=match v.1 with
 | .ref a=>((L.find? λe=>e.1==a).map λe=>ji e.2).getD []
 |_=> []
def lV(c:GX H L)(d:e∈L)(v:Value):qH L (.ref e.1,v)=ji e.2:=by
 unfold qH;dsimp only;cases b:L.find? λx=>x.1==e.1 with
 |none=>exact absurd (abK.mp b e d) (by simp)
 |some x=>
  have f:=abX b;have g:=List.find?_some b;have h:x.1=e.1:=by simpa using g
  have a:=c x f;have i:=c e d;rw[h,i] at a
  injection a with a
  injection a with a
  show ji x.2=ji e.2;rw[Gu a]
section
variable {X:Cx}
theorem wJ(hu:X.A.units+64<cLine):CallR X (.builtin "sorted") (λR H Q=>∃(p:Addr)(L:List (Addr×List Nat)),R= [.ref p]/\cJ X.K H p (L.map λe=>V.ref e.1)/\GX H L/\L.length<=1000/\
  ∀(q:Addr)(M:List (Addr×List Nat)),H q=none->M.Perm L->(M.map (·.2)).Pairwise nS->Q (.ref q) (upd H q (.lst (M.map λe=>V.ref e.1)))):=by
 intro U s σ H R us Q I rv h;refine af λY k0=>?_;obtain⟨p,L,rfl,hp,l,hz,q⟩:=h;obtain⟨u,rfl,ru⟩:=rv.one;subst ru;obtain⟨d,r,pl,_⟩:=I.list hp;have hl:=r.length;rw[aV] at hl;have cQ:1000<sizeLine:=by decide
 refine k0 ?_
 have C:d=L.map λe=>Value.ref e.1:=by
  have:=rf (as:=L.map (·.1)) (us:=d) (by rw[eH];exact r)
  rw[this,eH];rfl
 by_cases h2:L.length<2
 .refine KS.Ai pl.isList (by lia) ?_
  obtain⟨e,g⟩:=acI s.heap d d.toArray;have E:H (s.heap.objs.size+1)=none:=I.hok.fresh (js _);refine#[.ref (s.heap.objs.size+1),_,I.laid (t':=s.toks) (λb o F=>acB F) (js _) (o:= .lst (L.map λe=>V.ref e.1)) #[by rw[aV];lia,d,e,r,g],rfl,q _ L E (.refl _) ?_]
  match L,h2 with
  | [],_=>exact .nil
  | [_],_=>exact aa2 _ _
 .have lst:∀e∈L,∀f:Shared,TS.Keeps s f->∃a:Array Value,f.heap.IsList e.1 a/\IntsAre a.toList (ji e.2):=λe g f k=>by
   refine af λY k0=>?_;obtain⟨G,r2,p2,_⟩:=I.list (cJ.of (l e g));obtain⟨o,J,m,n,hd⟩:=p2.isList;refine k0 ?_;exact#[G.toArray,#[o,k _ _ J,m,n,hd],by simpa using intsAre_of r2]
  refine TS.Gd (O:=NS) (key:=qH L) (S:=λp=>∃e∈L,p=(Value.ref e.1,Value.ref e.1)) (k0:=oneType') pl.isList (by lia) (by lia) (λE' f Q' k N=>?_) (λE' f k x y st Q' sx sy hk N=>?_) (λv t=>?_) λout Z HM=>?_
  .refine PySem.W.kas_kind (T:= .type "list") (by lia) (λv t=>?_) (by decide) (by decide) N
   rw[C] at t;obtain⟨e,g,rfl⟩:=dO.mp t;obtain⟨a,⟨o,J,m,_⟩,_⟩:=lst e g f k;rw[<-m];exact(PySem.W.Looks.ld J).andThen .now
  .obtain⟨i,w,rfl⟩:=sx
   obtain⟨j,z,rfl⟩:=sy;rw[lt'_eq];refine Do (aaR ?_);rw[hk,keyLt'_oneType];refine af λY k0=>?_;obtain⟨i1,l1,n1⟩:=lst i w f k;obtain⟨i2,l2,n2⟩:=lst j z f k;refine k0 ?_;refine Do (abc (abQ (FL l1 l2 n1 n2 ?_ #[rfl,?_])))
   .rw[Around.in1_units,Around.in1_units];lia
   .have eb:HT.lexLt (ji i.2) (ji j.2)=NS.blt (qH L (.ref i.1, .ref i.1)) (qH L (.ref j.1, .ref j.1)):=by
     rw[lV l w,lV l z];rfl
    rw[eb];exact FM N
  .rw[C] at t
   obtain⟨e,g,rfl⟩:=dO.mp t;exact#[e,g,rfl]
  .rw[C,eH] at Z
   obtain⟨M,B,em⟩:=jz (λe:Addr×List Nat=>((Value.ref e.1,Value.ref e.1):Keyed)) out.toList L Z
   have Xj:(out.map (·.2)).toList=M.map λe=>Value.ref e.1:=by
    rw[Array.toList_map,em,eH];rfl
   obtain⟨c,m⟩:=acI s.heap d (out.map (·.2));have E:H (s.heap.objs.size+1)=none:=I.hok.fresh (js _);have Nr:=B.length_eq;refine#[.ref (s.heap.objs.size+1),_,I.laid (t':=s.toks) (λb o F=>acB F) (js _) (o:= .lst (M.map λe=>V.ref e.1)) #[by rw[aV];lia,(out.map (·.2)).toList,c,?_,by rw[Array.toArray_toList];exact m],rfl,q _ M E B ?_]
   .rw[Xj,show(λe:Addr×List Nat=>V.ref e.1)=V.ref∘(·.1) from rfl,show(λe:Addr×List Nat=>Value.ref e.1)=Value.ref∘(·.1) from rfl,<-eH,<-eH]
    exact qS _
   .rw[em,j8] at HM
    rw[j8];refine aaH ?_ HM;intro i j w z P;have Fj:HT.lexLt (qH L (.ref j.1, .ref j.1)) (qH L (.ref i.1, .ref i.1))=false:=P;rw[lV l (B.mem_iff.mp w),lV l (B.mem_iff.mp z)] at Fj;exact Fj
end
end L2
namespace PySem.SetTable
def ng(xs:Array Nat):Prop:=∀i j (a:j<xs.size),i<j->xs[i]! <xs[j]!
def M3{a:Array Nat}{i d:Nat}(h:i<a.size):a.getD i d=a[i]! :=by
 simp[Array.getD,h]
theorem xB(R:ng h)(j:Nat):∀(f lo g:Nat),g-lo<=f->lo<=g->g<=h.size->(∀i,i<lo->h[i]! <j)->(∀i,g<=i->i<h.size->j<=h[i]!)->
  lo<=below.go h j f lo g/\below.go h j f lo g<=g/\(∀i,i<below.go h j f lo g->h[i]! <j)/\∀i,below.go h j f lo g<=i->i<h.size->j<=h[i]!
 |0,lo,g,m,n,k,a,b=>by
  have:lo=g:=by lia
  subst this;rw[below.go];exact#[bu _,bu _,a,b]
 |f+1,lo,g,m,n,k,a,b=>by
  rw[below.go]
  by_cases c:lo<g
  .rw[tz c]
   have l:(lo+g) / 2<h.size:=by lia
   dsimp only;rw[M3 l]
   by_cases d:h[(lo+g) / 2]! <j
   .rw[tz d]
    have:=xB R j f ((lo+g) / 2+1) g (by lia) (by lia) k (λi p=>by
     by_cases e:i=(lo+g) / 2
     .rw[e];exact d
     .have:=R i ((lo+g) / 2) l (by lia);lia) b
    exact#[by lia,this.2.1,this.2.2]
   .rw[mo d]
    have:=xB R j f lo ((lo+g) / 2) (by lia) (by lia) (by lia) a (λi q o=>by
     by_cases e:i=(lo+g) / 2
     .rw[e];lia
     .have:=R ((lo+g) / 2) i o (by lia);lia)
    exact#[this.1,by lia,this.2.2]
  .rw[mo c]
   have:lo=g:=by lia
   subst this;exact#[bu _,bu _,a,b]
def km{xs:Array Nat}(R:ng xs)(j:Nat):below xs j<=xs.size/\(∀i,i<below xs j->xs[i]! <j)/\∀i,below xs j<=i->i<xs.size->j<=xs[i]! :=by
 have:=xB R j xs.size 0 xs.size (by lia) (cZ _) (bu _) (λi h=>by lia) (λi a b=>by lia)
 exact#[this.2.1,this.2.2]
def below_at(R:ng a)(h:a[i]? =some j):below a j=i:=by
 obtain⟨b,e⟩:=za.mp h;have g:a[i]! =j:=by simp[b,e]
 obtain⟨k,d,f⟩:=km R j;apply Nat.le_antisymm
 .apply FS
  intro c
  have:=d i (by lia)
  lia
 .apply FS
  intro c;have l:=f (below a j) (bu _) (by lia)
  have m:=R (below a j) i b (by lia)
  lia
def qU{t:SetTable}(R:ng t.place)(h:t.place[i]? =some j):t.slot j= .live i:=by
 unfold slot;rw[below_at R h];simp[h]
def Gb{t:SetTable}(R:ng t.place)(a:t.dummies= #[])(h:∀i:Nat,t.place[i]? ≠some j):t.slot j= .empty:=by
 unfold slot
 have b:(t.place[below t.place j]? ==some j)=false:=by
  rw[aat];exact h _
 dsimp only;rw[mo (by rw[b];exact eO)]
 unfold has;rw[a];rfl
def mX(mask:Nat)(p:Probe):Probe:=
 if p.more>0 then {p with j:=p.j+1,more:=p.more-1} else
 let (i,perturb):=leap mask p.i p.perturb
 {p with j:=i,more:=runEnd mask i-i,i,perturb}
def bH(mask:Nat)(h:Int):Probe:={j:=bits h%(mask+1),more:=runEnd mask (bits h%(mask+1))-bits h%(mask+1),i:=bits h%(mask+1),perturb:=bits h,dummy:=none}
def qV(mask:Nat)(h:Int):Nat->Probe
 |0=>bH mask h
 |k+1=>mX mask (qV mask h k)
def bP(mask:Nat)(h:Int)(k:Nat):Nat:=(qV mask h k).j
def Mi(h:Int):bits h<2^64:=by
 unfold bits;have a:0<=h%(2^64:Int):=Int.emod_nonneg _ (by decide)
 have b:h%(2^64:Int)<2^64:=Int.emod_lt_of_pos _ (by decide)
 lia
def dX(mask:Nat)(i p:Nat):Nat->Nat×Nat
 |0=>(i,p)
 |r+1=>leap mask (dX mask i p r).1 (dX mask i p r).2
theorem kO(mask i p:Nat):∀r,(dX mask i p r).2=p / 32^r
 |0=>by simp[dX]
 |r+1=>by
  show(dX mask i p r).2 / 32=_;rw[kO mask i p r,Nat.div_div_eq_div_mul,Nat.pow_succ]
def QF(mask:Nat)(i:Nat):Nat:=(i*5+1)%(mask+1)
def ko(mask:Nat)(i:Nat):Nat->Nat
 |0=>i
 |r+1=>QF mask (ko mask i r)
theorem lB(mask i:Nat)(a:Nat):∀b,ko mask i (a+b)=ko mask (ko mask i a) b
 |0=>rfl
 |b+1=>by
  show QF mask (ko mask i (a+b))=_;rw[lB mask i a b];rfl
theorem uQ{mask i p a:Nat}(h:(dX mask i p a).2=0):∀r,dX mask i p (a+r)=(ko mask (dX mask i p a).1 r,0)
 |0=>by rw[Nat.add_zero,ko];exact aaA rfl h
 |r+1=>by
  show leap mask (dX mask i p (a+r)).1 (dX mask i p (a+r)).2=_;rw[uQ h r];unfold leap;simp[ko,QF]
def vH(mask:Nat):Prop:=mask=7\/mask=31\/mask=127\/mask=511
def UQ(mask:Nat):Nat->Nat->List Nat
 |_,0=> []
 |i,n+1=>i::UQ mask (QF mask i) n
theorem FG{mask s:Nat}:∀{i n:Nat},s∈UQ mask i n->∃r,r<n/\ko mask i r=s
 |i,0,h=>by cases h
 |i,n+1,h=>by
  rcases b8.mp h with rfl|h
  .exact#[0,by lia,rfl]
  .obtain⟨r,a,e⟩:=FG h
   refine#[r+1,by lia,?_]
   have:=lB mask i 1 r
   rw[show 1+r=r+1 by lia] at this
   rw[this];exact e
def UR{mask:Nat}(h:vH mask):(∀s,s<=mask->∃r,r<=mask/\ko mask 0 r=s)/\ko mask 0 (mask+1)=0:=by
 have key:∀m,(aB (m+1)).all (λs=>(UQ m 0 (m+1)).contains s)=true->∀s,s<=m->∃r,r<=m/\ko m 0 r=s:=λm a s b=>by
  have:=y3.mp a s (gQ.mpr (by lia))
  obtain⟨r,c,e⟩:=FG (List.contains_iff_mem.mp this);exact#[r,by lia,e]
 rcases h with rfl|rfl|rfl|rfl
 .exact#[key 7 (by decide+kernel),by decide+kernel]
 .exact#[key 31 (by decide+kernel),by decide+kernel]
 .exact#[key 127 (by decide+kernel),by decide+kernel]
 .exact#[key 511 (by decide+kernel),by decide+kernel]
def cover{mask:Nat}(h:vH mask){i s:Nat}(d:i<=mask)(e:s<=mask):∃r,r<=mask/\ko mask i r=s:=by
 obtain⟨o,per⟩:=UR h;obtain⟨a,f,rfl⟩:=o i d;obtain⟨b,g,rfl⟩:=o s e
 by_cases c:a<=b
 .refine#[b-a,by lia,?_]
  rw[<-lB,show a+(b-a)=b by lia]
 .refine#[mask+1-a+b,by lia,?_]
  rw[<-lB,show a+(mask+1-a+b)=mask+1+b by lia,lB,per]
def cE(mask:Nat)(p:Probe):Nat->Probe
 |0=>p
 |k+1=>mX mask (cE mask p k)
theorem lg(mask:Nat)(p:Probe)(a:Nat):∀b,cE mask p (a+b)=cE mask (cE mask p a) b
 |0=>rfl
 |b+1=>by
  show mX mask (cE mask p (a+b))=_;rw[lg mask p a b];rfl
theorem mE(mask:Nat)(h:Int):∀k,qV mask h k=cE mask (bH mask h) k
 |0=>rfl
 |k+1=>by
  show mX mask _=mX mask _;rw[mE mask h k]
theorem t5(mask:Nat)(p:Probe):∀c,c<=p.more->cE mask p c={p with j:=p.j+c,more:=p.more-c}
 |0,_=>rfl
 |c+1,a=>by
  show mX mask (cE mask p c)=_;rw[t5 mask p c (by lia)]
  unfold mX;rw[tz (by show p.more-c>0;lia)]
  show({p with j:=p.j+c+1,more:=p.more-c-1}:Probe)={p with j:=p.j+(c+1),more:=p.more-(c+1)}
  rw[show p.more-c-1=p.more-(c+1) by lia,show p.j+c+1=p.j+(c+1) by lia]
def RD(mask:Nat)(p:Probe)(a:Nat×Nat):Probe:={p with j:=a.1,more:=runEnd mask a.1-a.1,i:=a.1,perturb:=a.2}
def more_le(mask i:Nat):runEnd mask i-i<=9:=by
 unfold runEnd
 split<;>lia
def qt(mask:Nat)(p:Probe):cE mask p (p.more+1)=RD mask p (leap mask p.i p.perturb):=by
 show mX mask (cE mask p p.more)=_;rw[t5 mask p p.more (bu _)];unfold mX;rw[mo (by show ¬p.more-p.more>0;lia)]
 rfl
theorem wB(mask:Nat)(p:Probe):∀r,∃k,k<=p.more+1+10*r/\cE mask p k=RD mask p (dX mask p.i p.perturb (r+1))
 |0=>#[p.more+1,by lia,qt mask p]
 |r+1=>by
  obtain⟨k,a,e⟩:=wB mask p r;have b:=more_le mask (dX mask p.i p.perturb (r+1)).1;refine#[k+((runEnd mask (dX mask p.i p.perturb (r+1)).1-(dX mask p.i p.perturb (r+1)).1)+1),by lia,?_]
  rw[lg,e];exact qt mask (RD mask p (dX mask p.i p.perturb (r+1)))
def F8(mask i p:Nat)(r:Nat):(dX mask i p (r+1)).1<=mask:=by
 show(((dX mask i p r).1*5+1+(dX mask i p r).2 / 32)%(mask+1))<=mask
 have:=tY ((dX mask i p r).1*5+1+(dX mask i p r).2 / 32) (show 0<mask+1 by lia)
 lia
def J6{mask i:Nat}(h:i<=mask):i+(runEnd mask i-i)<=mask:=by
 unfold runEnd
 split<;>lia
structure t4 (mask:Nat) (p:Probe):Prop where
 le:p.j+p.more<=mask
 more:p.more<=9
 per:p.perturb<2^64
 dum:p.dummy=none
theorem t4.mX{mask:Nat}{p:Probe}(o:t4 mask p):t4 mask (mX mask p):=by
 unfold SetTable.mX
 split
 .next h=>exact#[by show p.j+1+(p.more-1)<=mask;have:=o.le;lia,by show p.more-1<=9;have:=o.more;lia,o.per,o.dum]
 .refine#[J6 (by have:=tY (p.i*5+1+p.perturb / 32) (show 0<mask+1 by lia);show(p.i*5+1+p.perturb / 32)%(mask+1)<=mask;lia),more_le _ _,?_,o.dum]
  show p.perturb / 32<2^64
  have:=o.per
  lia
def t4.start(mask:Nat)(h:Int):t4 mask (bH mask h):=#[J6 (mask:=mask) (i:=bits h%(mask+1)) (by have:=tY (bits h) (show 0<mask+1 by lia);lia),more_le _ _,Mi h,rfl]
theorem t4.cE{mask:Nat}{p:Probe}(o:t4 mask p):∀k,t4 mask (cE mask p k)
 |0=>o
 |k+1=>(o.cE k).mX
def meets{mask:Nat}(f:vH mask){p:Probe}(o:t4 mask p){s:Nat}(a:s<=mask):∃k,k<10*turns mask/\(cE mask p k).j=s:=by
 have z:(dX mask p.i p.perturb 13).2=0:=by
  rw[kO];exact Nat.div_eq_of_lt (fk o.per (by decide))
 obtain⟨r,c,e⟩:=cover f (F8 mask p.i p.perturb 12) a;obtain⟨k,d,b⟩:=wB mask p (12+r);refine#[k,?_,?_]
 .have:=o.more
  unfold turns;lia
 .rw[b]
  show(dX mask p.i p.perturb (12+r+1)).1=s;rw[show 12+r+1=13+r by lia,uQ z]
  exact e
theorem A5(R:ng t.place)(n:t.dummies= #[])(hashAt:Nat->Int)(h:Int):∀(K d:Nat)(p:Probe),p.dummy=none->K<d->(∀i:Nat,t.place[i]? ≠some (cE t.mask p K).j)->
  ∃e,e<=K/\(∀f,f<e->∃i:Nat,t.place[i]? =some (cE t.mask p f).j/\hashAt i≠h)/\
   (((∀i:Nat,t.place[i]? ≠some (cE t.mask p e).j)/\probe.go t hashAt h d p=some (.empty (cE t.mask p e).j none))\/
    (∃i:Nat,t.place[i]? =some (cE t.mask p e).j/\hashAt i=h/\probe.go t hashAt h d p=some (.candidate (cE t.mask p e).j i (cE t.mask p (e+1)))))
 |K,0,p,_,u,_=>by lia
 |K,d+1,p,o,u,q=>by
  by_cases c:∃i:Nat,t.place[i]? =some p.j
  .obtain⟨i,g⟩:=c
   have r:=qU R g
   by_cases l:hashAt i=h
   .refine#[0,cZ _,λf s=>by lia, .inr #[i,g,l,?_]]
    rw[probe.go,r];dsimp only;rw[tz (by simpa using l)]
    rfl
   .cases K with
    |zero=>exact absurd g (q i)
    |succ K=>
     have v:(mX t.mask p).dummy=none:=by
      unfold mX
      split<;>exact o
     have m:∀k,cE t.mask (mX t.mask p) k=cE t.mask p (k+1):=λk=>by
      have:=lg t.mask p 1 k
      rw[show 1+k=k+1 by lia] at this
      exact this.symm
     obtain⟨e,x,a,b⟩:=A5 R n hashAt h K d (mX t.mask p) v (by lia) (by rw[m];exact q)
     have w:probe.go t hashAt h (d+1) p=probe.go t hashAt h d (mX t.mask p):=by
      rw[probe.go,r];dsimp only;rw[mo (by simpa using l)]
      rfl
     refine#[e+1,by lia,λf s=>?_,?_]
     .cases f with
      |zero=>exact#[i,g,l]
      |succ f=>
       have:=a f (by lia)
       rw[m] at this;exact this
     .rw[m,m] at b
      rw[w];exact b
  .have c:∀i:Nat,t.place[i]? ≠some p.j:=λi g=>c #[i,g]
   refine#[0,cZ _,λf s=>by lia, .inl #[c,?_]]
   rw[probe.go,Gb R n c];dsimp only;rw[o];rfl
structure TOk (t:SetTable) (hs:List Int):Prop where
 few:vH t.mask
 dum:t.dummies= #[]
 rise:ng t.place
 size:t.place.size=hs.length
 le:∀(i j:Nat),t.place[i]? =some j->j<=t.mask
 room:t.place.size<=t.mask
 path:∀(i:Nat)(h:Int),hs[i]? =some h->∃k,t.place[i]? =some (bP t.mask h k)/\∀k',k'<k->∃i':Nat,t.place[i']? =some (bP t.mask h k')
def DZ(mask:Nat)(h:Int)(k:Nat):bP mask h k<=mask:=by
 unfold bP;rw[mE]
 have:=((t4.start mask h).cE k).le
 lia
def TOk.empty(T:TOk t a):∃s,s<=t.mask/\∀i:Nat,t.place[i]? ≠some s:=by
 apply FS;intro c
 have all:∀s∈aB (t.mask+1),s∈t.place.toList:=λs a=>by
  apply FS;intro n;refine c #[s,by have:=gQ.mp a;lia,λi b=>n ?_]
  rw[<-fM] at b;exact eF b
 have:=Wb.aT ab6 all
 rw[tW,fY] at this
 have:=T.room
 lia
theorem TOk.probe(T:TOk t g)(hashAt:Nat->Int)(h:Int)(k:Nat):
  ∃d,k<=d/\(∀e,k<=e->e<d->∃i:Nat,t.place[i]? =some (bP t.mask h e)/\hashAt i≠h)/\
   (((∀i:Nat,t.place[i]? ≠some (bP t.mask h d))/\t.probe hashAt h (qV t.mask h k)=some (.empty (bP t.mask h d) none))\/
    (∃i:Nat,t.place[i]? =some (bP t.mask h d)/\hashAt i=h/\t.probe hashAt h (qV t.mask h k)=some (.candidate (bP t.mask h d) i (qV t.mask h (d+1))))):=by
 obtain⟨s,j,l⟩:=T.empty;have o:=(t4.start t.mask h).cE k;rw[<-mE] at o;obtain⟨K,m,n⟩:=meets T.few o j;have f:∀c,cE t.mask (qV t.mask h k) c=qV t.mask h (k+c):=λc=>by rw[mE,mE,<-lg]
 obtain⟨d,p,a,b⟩:=A5 T.rise T.dum hashAt h K (10*turns t.mask) (qV t.mask h k) o.dum m (by rw[n];exact l)
 refine#[k+d,by lia,λe q r=>?_,?_]
 .have:=a (e-k) (by lia)
  rw[f,show k+(e-k)=e by lia] at this
  exact this
 .rw[f,f] at b
  exact b
def kK{xs:Array a}(x:a)(e:p<=xs.size)(i:Nat):(insertAt xs p x)[i]? =if i<p then xs[i]? else if i=p then some x else xs[i-1]? :=by
 rw[<-fM,ab7];have lt:(xs.toList.take p).length=p:=by rw[fF,fY];lia
 by_cases c:i<p
 .rw[tz c,gn (by lia),zb c,fM]
 .rw[mo c]
  by_cases d:i=p
  .subst d
   rw[tz rfl,i7 (by lia),lt,kE];rfl
  .rw[mo d,i7 (by lia),lt]
   obtain⟨m,b⟩:∃m,i-p=m+1:=#[i-p-1,by lia]
   rw[b,vv,ze,fM]
   congr 1;lia
def ik(xs:Array a)(p:Nat)(x:a):(insertAt xs p x).size=xs.size+1:=by
 rw[<-fY,(acw xs p x).length_eq];simp
def jD{a:Array Nat}{i j:Nat}(h:a[i]? =some j):a[i]! =j:=by
 obtain⟨b,e⟩:=za.mp h;simp[b,e]
def Lz{xs:Array Nat}(R:ng xs){j:Nat}(h:∀i:Nat,xs[i]? ≠some j):ng (insertAt xs (below xs j) j):=by
 obtain⟨t,w,x⟩:=km R j;have g:=kK (xs:=xs) j t;intro a b y A;rw[ik] at y
 have m:∀i,i<xs.size+1->∃v,(insertAt xs (below xs j) j)[i]? =some v/\((i<below xs j/\xs[i]? =some v)\/(i=below xs j/\v=j)\/(below xs j<i/\xs[i-1]? =some v)):=λi r=>by
  rw[g i]
  by_cases c:i<below xs j
  .rw[tz c,Bi (by lia)]
   exact#[_,rfl, .inl #[c,rfl]]
  .rw[mo c]
   by_cases d:i=below xs j
   .rw[tz d];exact#[j,rfl, .inr (.inl #[d,rfl])]
   .rw[mo d,Bi (by lia)]
    exact#[_,rfl, .inr (.inr #[by lia,rfl])]
 obtain⟨G,B,C⟩:=m a (by lia)
 obtain⟨H,E,s⟩:=m b (by lia)
 rw[jD B,jD E];have lo:∀i v,i<below xs j->xs[i]? =some v->v<j:=λi v n f=>by have:=w i n;rw[jD f] at this;exact this
 have r:∀i v,below xs j<=i->xs[i]? =some v->j<v:=λi v n f=>by
  have:=x i n (za.mp f).1
  rw[jD f] at this
  have:v≠j:=λz=>h i (by rw[f,z])
  lia
 have o:∀i k v u,xs[i]? =some v->xs[k]? =some u->i<k->v<u:=λi k v u n f F=>by
  have:=R i k (za.mp f).1 F
  rw[jD n,jD f] at this;exact this
 rcases C with ⟨q,p⟩ | ⟨q,rfl⟩ | ⟨q,p⟩
 .rcases s with ⟨l,e⟩ | ⟨l,rfl⟩ | ⟨l,e⟩
  .exact o _ _ _ _ p e A
  .exact lo _ _ q p
  .have:=lo _ _ q p;have:=r (b-1) _ (by lia) e;lia
 .rcases s with ⟨l,e⟩ | ⟨l,rfl⟩ | ⟨l,e⟩
  .lia
  .lia
  .exact r (b-1) _ (by lia) e
 .rcases s with ⟨l,e⟩ | ⟨l,rfl⟩ | ⟨l,e⟩
  .lia
  .lia
  .exact o _ _ _ _ p e (by lia)
def OI{xs:Array Nat}(R:ng xs){j s:Nat}:(∃i:Nat,(insertAt xs (below xs j) j)[i]? =some s)↔s=j\/∃i:Nat,xs[i]? =some s:=by
 obtain⟨a,_,_⟩:=km R j;have g:=kK (xs:=xs) j a
 constructor
 .rintro⟨i,h⟩
  rw[g i] at h
  split at h
  .exact .inr #[i,h]
  .split at h
   .exact .inl (FB h).symm
   .exact .inr #[_,h]
 .rintro(rfl| ⟨i,h⟩)
  .exact#[below xs s,by rw[g,mo (by lia),tz rfl]]
  .by_cases c:i<below xs j
   .exact#[i,by rw[g,tz c];exact h]
   .exact#[i+1,by rw[g,mo (by lia),mo (by lia)];exact h]
theorem TOk.put(T:TOk t l)(v:∀i:Nat,t.place[i]? ≠some (bP t.mask h k))(w:∀a,a<k->∃i:Nat,t.place[i]? =some (bP t.mask h a))(room:t.place.size+1<=t.mask):
  (t.put (bP t.mask h k)).2=below t.place (bP t.mask h k)/\below t.place (bP t.mask h k)<=l.length/\
  TOk (t.put (bP t.mask h k)).1 (l.take (below t.place (bP t.mask h k))++h::l.drop (below t.place (bP t.mask h k))):=by
 obtain⟨x,z,A⟩:=km T.rise (bP t.mask h k);have g:=kK (xs:=t.place) (bP t.mask h k) x;have sz:=T.size;have o:=λs=>OI (s:=s) (j:=bP t.mask h k) T.rise;refine#[rfl,by lia,T.few,?_,Lz T.rise v,?_,?_,?_,?_]
 .show(if has t.dummies _=true then _ else t.dummies)= #[]
  rw[T.dum];rfl
 .show(insertAt t.place _ _).size=_
  rw[ik,dh,fF,cO,oW];lia
 .intro i j p
  have p:(insertAt t.place (below t.place (bP t.mask h k)) (bP t.mask h k))[i]? =some j:=p
  rcases(o j).mp #[i,p] with rfl| ⟨u,e⟩
  .exact DZ _ _ _
  .exact T.le _ _ e
 .show(insertAt t.place _ _).size<=_
  rw[ik];exact room
 .intro i e b
  show ∃f,(insertAt t.place (below t.place (bP t.mask h k)) (bP t.mask h k))[i]? =some (bP t.mask e f)/\∀a,a<f->∃u:Nat,(insertAt t.place (below t.place (bP t.mask h k)) (bP t.mask h k))[u]? =some (bP t.mask e a);have lt:(l.take (below t.place (bP t.mask h k))).length=below t.place (bP t.mask h k):=by rw[fF];lia
  by_cases c:i<below t.place (bP t.mask h k)
  .rw[gn (by lia),zb c] at b
   obtain⟨f,q,r⟩:=T.path i e b;exact#[f,by rw[g,tz c];exact q,λa n=>(o _).mpr (.inr (r a n))]
  .rw[i7 (by lia),lt] at b
   by_cases d:i=below t.place (bP t.mask h k)
   .rw[d,kE] at b
    cases(FB b);exact#[k,by rw[d,g,mo (by lia),tz rfl],λa n=>(o _).mpr (.inr (w a n))]
   .obtain⟨m,y⟩:∃m,i-below t.place (bP t.mask h k)=m+1:=#[i-below t.place (bP t.mask h k)-1,by lia]
    rw[y,vv,ze] at b;obtain⟨f,q,r⟩:=T.path _ e b;refine#[f,?_,λa n=>(o _).mpr (.inr (r a n))];rw[g,mo c,mo d,show i-1=below t.place (bP t.mask h k)+m by lia]
    exact q
theorem vj(mask i p:Nat):∀r,dX mask i p (r+1)=dX mask (leap mask i p).1 (leap mask i p).2 r
 |0=>rfl
 |r+1=>by
  show leap mask (dX mask i p (r+1)).1 (dX mask i p (r+1)).2=_;rw[vj mask i p r];rfl
def Own(o:Array (Option Nat))(s:Nat):Prop:=(o.getD s (some 0)).isNone=false
theorem xw{mask:Nat}(e:Array (Option Nat)):∀(f:Nat)(p:Probe),p.j=p.i->p.more=runEnd mask p.i-p.i->p.i<=runEnd mask p.i->(∃r,r<f/\¬Own e (dX mask p.i p.perturb r).1)->
  ∃h,layClean.free mask e f p.i p.perturb=some (cE mask p h).j/\¬Own e (cE mask p h).j/\∀g,g<h->Own e (cE mask p g).j
 |0,p,_,_,_,#[r,v,_]=>by lia
 |f+1,p,w,E,F,#[r,v,q]=>by
  have run:∀c,c<=p.more->(cE mask p c).j=p.i+c:=λc t=>by rw[t5 mask p c t];show p.j+c=_;rw[w]
  cases l:(aB (runEnd mask p.i+1-p.i)).find? λk=>(e.getD (p.i+k) (some 0)).isNone with
  |some k=>
   obtain⟨x,m,bs,o,y⟩:=List.find?_eq_some_iff_append.mp l;have G:k<runEnd mask p.i+1-p.i:=gQ.mp (by rw[o];simp)
   have z:m.length=k:=by
    have A:m.length<(aB (runEnd mask p.i+1-p.i)).length:=by rw[o];simp
    have:=GP (n:=runEnd mask p.i+1-p.i) (i:=m.length) (by simpa using A)
    rw[o,i7 (bu _),kE] at this;exact(FB this).symm
   refine#[k,?_,?_,λg B=>?_]
   .rw[layClean.free,l,run k (by lia)]
   .rw[run k (by lia)]
    unfold Own;rw[x];exact Bool.noConfusion
   .rw[run g (by lia)]
    have C:g∈m:=by
     have:=GP (n:=runEnd mask p.i+1-p.i) (i:=g) (by lia)
     rw[o,gn (by lia)] at this
     exact eF this
    have:=y g C
    unfold Own;exact Bool.not_eq_true' _▸this
  |none=>
   have all:=abK.mp l
   have own:∀c,c<=p.more->Own e (p.i+c):=λc t=>by
    have:=all c (gQ.mpr (by lia))
    unfold Own;exact vy.mpr this
   cases r with
   |zero=>exact absurd (own 0 (cZ _)) q
   |succ r=>
    have u:=qt mask p
    obtain⟨h,a,b,c⟩:=xw e f (RD mask p (leap mask p.i p.perturb)) rfl rfl (by
     show(leap mask p.i p.perturb).1<=runEnd mask (leap mask p.i p.perturb).1;unfold runEnd;split<;>lia) #[r,by lia,by rw[vj] at q;exact q]
    rw[<-u] at a b c;have s:∀k,cE mask (cE mask p (p.more+1)) k=cE mask p (p.more+1+k):=λk=>(lg mask p (p.more+1) k).symm;refine#[p.more+1+h,?_,?_,λg B=>?_]
    .rw[layClean.free,l,<-s,<-a,u];rfl
    .rw[<-s];exact b
    .by_cases d:g<=p.more
     .rw[run g d];exact own g d
     .have:=c (g-(p.more+1)) (by lia)
      rw[s,show p.more+1+(g-(p.more+1))=g by lia] at this
      exact this
structure Laid (mask:Nat) (hs:List Int) (owner:Array (Option Nat)) (ss:List Nat):Prop where
 size:owner.size=mask+1
 len:ss.length=hs.length
 nd:ss.Nodup
 le:∀s∈ss,s<=mask
 get:∀s,s<=mask->∀k,owner.getD s (some 0)=some k↔ss[k]? =some s
 path:∀(k:Nat)(h:Int),hs[k]? =some h->∃c,ss[k]? =some (bP mask h c)/\∀c',c'<c->bP mask h c'∈ss
def Laid.own{mask:Nat}{c:List Int}{a:Array (Option Nat)}{b:List Nat}(L:Laid mask c a b){s:Nat}(h:s<=mask):Own a s↔s∈b:=by
 unfold Own
 constructor
 .intro e
  cases o:a.getD s (some 0) with
  |none=>rw[o] at e;cases e
  |some k=>exact eF ((L.get s h k).mp o)
 .intro e
  obtain⟨k,d⟩:=mU e;rw[(L.get s h k).mpr d];rfl
def HV{mask:Nat}(f:vH mask){l:List Int}{g:Array (Option Nat)}{m:List Nat}(L:Laid mask l g m)(room:l.length<=mask)(h:Int):
  ∃j,layClean.free mask g (turns mask) (bits h%(mask+1)) (bits h)=some j/\Laid mask (l++ [h]) (g.setIfInBounds j (some l.length)) (m++ [j]):=by
 have o:=t4.start mask h
 obtain⟨s,C,F⟩:∃s,s<=mask/\s∉m:=by
  apply FS;intro c
  have all:∀s∈aB (mask+1),s∈m:=λs l=>by
   apply FS;intro n;exact c #[s,by have:=gQ.mp l;lia,n]
  have:=Wb.aT ab6 all
  rw[tW,L.len] at this;lia
 have z:(dX mask (bH mask h).i (bH mask h).perturb 13).2=0:=by
  rw[kO];exact Nat.div_eq_of_lt (fk o.per (by decide))
 obtain⟨r,N,e⟩:=cover f (F8 mask (bH mask h).i (bH mask h).perturb 12) C
 have O:(bH mask h).i<=mask:=by
  have:=tY (bits h) (show 0<mask+1 by lia)
  show bits h%(mask+1)<=mask;lia
 obtain⟨p,a,b,c⟩:=xw g (turns mask) (bH mask h) rfl rfl (by unfold runEnd;split<;>lia) #[13+r,by unfold turns;lia,by
  rw[uQ z];show ¬Own g (ko mask _ r);rw[e,L.own C];exact F]
 have E:∀k,(cE mask (bH mask h) k).j=bP mask h k:=λk=>by unfold bP;rw[mE]
 rw[E] at a b;have u:=DZ mask h p;rw[L.own u] at b;refine#[bP mask h p,a,?_,?_,?_,?_,?_,?_]
 .rw[aaY];exact L.size
 .rw[dh,dh,L.len];rfl
 .exact kD.mpr #[L.nd,by simp,λx t y G z=>b (by rw[<-fm.mp G,<-z];exact t)]
 .intro x t
  rcases eG.mp t with t|t
  .exact L.le x t
  .rw[fm.mp t];exact u
 .intro x t k
  have w:(g.setIfInBounds (bP mask h p) (some l.length)).getD x (some 0)=if bP mask h p=x then some l.length else g.getD x (some 0):=by
   rw[GH,GH,abD]
   by_cases d:bP mask h p=x
   .rw[tz d,tz d,tz (by rw[L.size];lia)];rfl
   .rw[mo d,mo d]
  rw[w]
  by_cases d:bP mask h p=x
  .rw[tz d]
   constructor
   .intro e
    cases(FB e);rw[<-L.len,i7 (bu _),kE,<-d];rfl
   .intro e
    by_cases q:k<m.length
    .rw[gn q] at e
     exact absurd (by rw[d];exact eF e) b
    .have:k<(m++ [bP mask h p]).length:=(cX.mp e).1
     rw[dh] at this
     have:k<m.length+1:=this
     rw[show k=m.length by lia,L.len]
  .rw[mo d,L.get x t k]
   constructor
   .intro e
    rw[gn (cX.mp e).1];exact e
   .intro e
    by_cases q:k<m.length
    .rw[gn q] at e;exact e
    .have:k<(m++ [bP mask h p]).length:=(cX.mp e).1
     rw[dh] at this
     have:k<m.length+1:=this
     rw[show k=m.length by lia,i7 (bu _),kE] at e
     exact absurd (FB e) d
 .intro k H v
  by_cases q:k<l.length
  .rw[gn q] at v
   obtain⟨I,w,J⟩:=L.path k H v;exact#[I,by rw[gn (by rw[L.len];exact q)];exact w,λA B=>i8 _ (J A B)]
  .have:k<(l++ [h]).length:=(cX.mp v).1
   rw[dh] at this
   have:k<l.length+1:=this
   have M:k=l.length:=by lia
   subst M;rw[i7 (bu _),kE] at v;cases(FB v);refine#[p,by rw[<-L.len,i7 (bu _),kE];rfl,λA B=>i8 _ ?_]
   have:=c A B
   rw[E] at this;exact(L.own (DZ _ _ _)).mp this
def HW(mask:Nat):Laid mask [] (dc (mask+1) none) [] where
 size:=by simp
 len:=rfl
 nd:=iH
 le:=λs h=>by cases h
 get:=λs a k=>by
  rw[GH,Array.getElem?_replicate,tz (by lia)]
  simp
 path:=λk h e=>by cases e
def AQ(mask:Nat)(a:Option (Array (Option Nat)×Nat))(h:Int):Option (Array (Option Nat)×Nat):=do
 let (owner,k) <-a
 let j <-layClean.free mask owner (turns mask) (bits h%(mask+1)) (bits h)
 pure (owner.setIfInBounds j (some k),k+1)
theorem AR{mask:Nat}(f:vH mask):∀(b done:List Int)(a:Array (Option Nat))(d:List Nat),Laid mask done a d->done.length+b.length<=mask+1->
  ∃c i,b.foldl (AQ mask) (some (a,done.length))=some (c,done.length+b.length)/\Laid mask (done++b) c i
 | [],done,a,d,L,_=>#[a,d,rfl,by rw[fG];exact L]
 |h::b,done,a,d,L,l=>by
  rw[cO] at l;obtain⟨j,e,m⟩:=HV f L (by lia) h
  have n:AQ mask (some (a,done.length)) h=some (a.setIfInBounds j (some done.length),done.length+1):=by
   unfold AQ;simp[e]
  obtain⟨c,i,g,k⟩:=AR f b (done++ [h]) _ _ m (by rw[dh];show done.length+1+b.length<=_;lia)
  refine#[c,i,?_,by rw[qr] at k;exact k]
  rw[acn,n];rw[dh] at g;have g:b.foldl (AQ mask) (some (a.setIfInBounds j (some done.length),done.length+1))=some (c,done.length+1+b.length):=g;rw[g,cO]
  congr 2;lia
def C9{mask:Nat}(f:vH mask)(b:List Int)(room:b.length<=mask+1):∃a c,layClean mask b.toArray=some a/\Laid mask b a c:=by
 rfl';obtain⟨a,c,e,L⟩:=AR f b [] _ _ (HW mask) (by simpa using room)
 ac_rfl;refine#[a,c,?_,by simpa using L]
 have:layClean mask b.toArray=(b.foldl (AQ mask) (some (dc (mask+1) none,0))).map (·.1):=by
  unfold layClean;rw[List.foldl_toArray];rfl
 have e:b.foldl (AQ mask) (some (dc (mask+1) none,0))=some (a,[].length+b.length):=e;rw[this,e];rfl
def dW(mask:Nat)(a:Array (Option Nat)):List (Nat×Nat):=(aB (mask+1)).filterMap λj=>(a.getD j none).map (j,·)
def Lc{mask:Nat}{b:List Int}{a:Array (Option Nat)}{c:List Nat}(L:Laid mask b a c){j k:Nat}:(j,k)∈dW mask a↔c[k]? =some j:=by
 unfold dW;rw[abI]
 have dflt:∀s,s<=mask->a.getD s none=a.getD s (some 0):=λs b=>by
  rw[GH,GH,Bi (by rw[L.size];lia)];rfl
 constructor
 .rintro⟨s,d,e⟩
  have d:=gQ.mp d;rw[dflt s (by lia)] at e
  cases o:a.getD s (some 0) with
  |none=>rw[o] at e;cases e
  |some f=>
   rw[o] at e;have e:=FB e;have h:s=j:=(aaS e).1;have i:f=k:=(aaS e).2;rw[<-h,<-i];exact(L.get s (by lia) f).mp o
 .intro e
  have g:=L.le j (eF e);refine#[j,gQ.mpr (by lia),?_]
  rw[dflt j g,(L.get j g k).mpr e];rfl
def HY(mask:Nat)(c:Array (Option Nat)):((dW mask c).map (·.1)).Pairwise (·<·):=by
 unfold dW;rw[j8,List.pairwise_filterMap];refine aa7.imp λ {a b} h x d y e=>?_;cases f:c.getD a none with
 |none=>rw[f] at d;cases d
 |some i=>
  cases g:c.getD b none with
  |none=>rw[g] at e;cases e
  |some j=>
   rw[f] at d;rw[g] at e;cases(FB d);cases(FB e);exact h
theorem NM{mask:Nat}(f:vH mask)(l:List Int)(room:l.length<=mask)(finger moves:Nat)(led plain:Bool):
  ∃t g,laid mask finger moves led plain l.toArray=some (t,g)/\t.mask=mask/\t.led=led/\t.plain=plain/\t.moves=moves/\g.toList.Perm (aB l.length)/\TOk t (g.toList.map λk=>l.getD k 0):=by
 rfl';obtain⟨d,u,e,L⟩:=C9 f l (by lia)
 have m:=λ {j k:Nat}=>Lc (j:=j) (k:=k) L;have v:=HY mask d;ac_rfl
 have G:((dW mask d).map (·.2)).Nodup:=by
  rw[GI,j8];rw[j8] at v;refine v.imp_of_mem λ {a b} H q r z=>?_;obtain⟨I,J⟩:=a;obtain⟨M,bk⟩:=b;have A:=m.mp H;have N:=m.mp q;have z:J=bk:=z;rw[z,N] at A
  have:=FB A
  have r:I<M:=r;lia
 have perm:((dW mask d).map (·.2)).Perm (aB l.length):=by
  refine(Bh G ab6).mpr λk=>?_;rw[dO,gQ]
  constructor
  .rintro⟨⟨j,Z⟩,h,rfl⟩
   have:=(cX.mp (m.mp h)).1
   rw[L.len] at this;exact this
  .intro n
   have O:k<u.length:=by rw[L.len];exact n
   exact#[(u[k],k),m.mpr (dD O),rfl]
 have P:(dW mask d).length=l.length:=by
  have:=perm.length_eq
  simpa using this
 refine#[{mask,place:=((dW mask d).map (·.1)).toArray,dummies:= #[],finger,led,moves,plain},((dW mask d).map (·.2)).toArray,?_,rfl,rfl,rfl,rfl,by simpa using perm,?_]
 .unfold laid
  rw[e];rfl
 have w:∀(i j:Nat),((dW mask d).map (·.1)).toArray[i]? =some j↔∃k,(dW mask d)[i]? =some (j,k):=λi j=>by
  rw[List.getElem?_toArray,eQ];cases o:(dW mask d)[i]? with
  |none=>simp
  |some x=>
   obtain⟨a,b⟩:=x;simp
 have y:∀s,s∈u->∃i:Nat,((dW mask d).map (·.1)).toArray[i]? =some s:=λs Q=>by
  obtain⟨k,n⟩:=mU Q;obtain⟨i,p⟩:=mU (m.mpr n);exact#[i,(w i s).mpr #[k,p]]
 refine#[f,rfl,?_,?_,?_,?_,?_]
 .intro a b q r
  have q:b<((dW mask d).map (·.1)).length:=q
  have:=GJ.mp v a b (by lia) q r
  simp[show a<(dW mask d).length by simpa using(show a<((dW mask d).map (·.1)).length by lia),show b<(dW mask d).length by simpa using q]
  simpa using this
 .simp
 .intro i j h
  obtain⟨k,n⟩:=(w i j).mp h;exact L.le j (eF (m.mp (eF n)))
 .show((dW mask d).map (·.1)).toArray.size<=mask
  simp[P];exact room
 .intro i B p
  rw[eQ] at p;cases o:(dW mask d)[i]? with
  |none=>
   have:(((dW mask d).map (·.2)).toArray.toList)[i]? =none:=by simp[o]
   rw[this] at p;cases p
  |some x=>
   obtain⟨j,k⟩:=x;have R:(((dW mask d).map (·.2)).toArray.toList)[i]? =some k:=by simp[o]
   rw[R] at p;have C:=m.mp (eF o);have n:k<l.length:=by rw[<-L.len];exact(cX.mp C).1
   have S:l[k]? =some B:=by
    rw[<-FB p];show _=some (l.getD k 0);rw[bG,dD n];rfl
   obtain⟨c,E,T⟩:=L.path k B S;rw[C] at E;refine#[c,(w i _).mpr #[k,by rw[o,FB E]],λU X=>y _ (T U X)]
end PySem.SetTable
namespace PySem
open SetTable PyProof.Rows
def gy(w:World):Bool:=w.params.followText "set-order"
structure mJ (bt:Bool) (o:Obj) (es:Array (Int×Value)) (ep:Nat) (t:SetTable):Prop where
 ex:o.ExactSet
 dat:o.data= .set es ep t
 tok:TOk t (es.toList.map (·.1))
 pl:t.plain=true
 ld:t.led= !bt
 few:5*es.size<3*t.mask
theorem TOk.fits(T:TOk t a):t.fits a.length=true:=by
 simp only[SetTable.fits,SetTable.fill,T.dum,T.size,vz,aaw,abV,true_and]
 have:=T.room
 rw[T.size] at this;simpa using this
theorem mJ.fits(S:mJ w o a b t):t.fits a.size=true:=by
 have:=TOk.fits S.tok
 simpa using this
def KL{mask n:Nat}(f:vH mask)(h:5*n<3*mask):n+1<=mask:=by
 rcases f with rfl|rfl|rfl|rfl<;>lia
def HB{mask n:Nat}(f:vH mask)(a:3*mask<=5*n)(b:5*(n-1)<3*mask)(c:n<=306):vH (sizeAbove (grown n)-1)/\5*n<3*(sizeAbove (grown n)-1)/\n<=sizeAbove (grown n)-1/\sizeAbove (grown n)<=512:=by
 rcases f with rfl|rfl|rfl|rfl
 .have:n=5:=by lia
  subst this;exact#[.inr (.inl rfl),by decide,by decide,by decide]
 .have:n=19:=by lia
  subst this;exact#[.inr (.inr (.inl rfl)),by decide,by decide,by decide]
 .have:n=77:=by lia
  subst this;exact#[.inr (.inr (.inr rfl)),by decide,by decide,by decide]
 .lia
theorem IE{t:SetTable}{c:Array (Int×Value)}(T:TOk t (c.toList.map (·.1)))(d:t.tooFull=true)(near:5*(c.size-1)<3*t.mask)(small:c.size<=306):
  ∃f a,t.relaid (c.map (·.1)) (grown c.size)=some (f,a)/\a.toList.Perm (aB c.size)/\(a.filterMap (c[·]?)).toList.Perm c.toList/\(a.filterMap (c[·]?)).size=c.size/\
   TOk f ((a.filterMap (c[·]?)).toList.map (·.1))/\f.plain=t.plain/\f.led=t.led/\5*c.size<3*f.mask/\sizeAbove (grown c.size)<=512:=by
 have sz:t.place.size=c.size:=by rw[T.size];simp
 have m:3*t.mask<=5*c.size:=by
  unfold SetTable.tooFull SetTable.fill at d;rw[T.dum,sz] at d;simp at d;lia
 rfl';obtain⟨o,p,q,r⟩:=HB T.few m near small;obtain⟨f,a,e,em,s,u,_,g,v⟩:=NM o (c.toList.map (·.1)) (by simpa using q) t.finger (t.movedTo (sizeAbove (grown c.size)-1)) t.led t.plain
 rw[aV,fY] at g;ac_rfl
 have i:(a.filterMap (c[·]?)).toList.Perm c.toList:=by
  rw[acx];exact(g.filterMap _).trans (by rw[filterMap_getElem?_range])
 have w:(a.filterMap (c[·]?)).size=c.size:=by rw[<-fY,i.length_eq,fY]
 refine#[f,a,?_,g,i,w,?_,u,s,by rw[em];exact p,r]
 .unfold SetTable.relaid
  rw[show c.map (·.1)=(c.toList.map (·.1)).toArray by apply ab4.mp;simp]
  exact e
 .have:(a.filterMap (c[·]?)).toList.map (·.1)=a.toList.map λk=>(c.toList.map (·.1)).getD k 0:=by
   rw[acx];have lt:∀k∈a.toList,k<c.size:=λk h=>gQ.mp (g.mem_iff.mp h);generalize a.toList=l at lt
   induction l with
   |nil=>rfl
   |cons k l x=>
    have h:=lt k (dE ..);rw[List.filterMap_cons_some (b:=c[k]) (by simp[h]),dz,dz,x λj y=>lt j (eM _ y)]
    simp[h]
  rw[this];exact v
end PySem
set_option maxHeartbeats 1000000
namespace PySem
open SetTable PyProof.Rows
section
variable {prog:Program} {w:World} {A:Around} {E:Value->Shared->Prop} {s:Shared}
def vm{h:Heap}(g:h.get? a=some o)(e:o.data= .set f d t)(b:Array (Int×Value))(c:SetTable):
  (h.update a (Obj.putSet b c)).get? a=some {o with data:= .set b (d+1) c}:=by
 have:=UF (Obj.putSet b c) g (by rw[putSet_of b c e];rfl)
 rw[putSet_of b c e] at this;exact this
def wL{Q₁:Value->Shared->Prop}
  (h:Q₁ (.ref s.heap.objs.size) {s with heap:=s.heap.push {cls:= .type "set",dict:=none,data:= .set #[] 0 (.fresh 0 0 (!gy w))}}):
  codeAny (model prog w) A (.call (.builtin "set.__new__") #[[.type "set"],[]]) (wants Q₁ E) s:=by
 refine abr ?_;refine ir (abG F.newCall_set_0 (AC #[abR F.plain_set_new _,abv F.entry_set_new ?_]));rw[abw F.plain_set_new _];unfold Builtin.«set.__new__» Builtin.Frozenset.newClass;have a:=sub_set_self;obtain⟨b,g,d,c,os⟩:=s;dsimp only
 wp_walk
 refine wpAny_askSetting (AC ?_);dsimp only;simp only[newObj];refine ir (wpAny_alloc (AC ?_));exact AC h
theorem BI 
  (h:Q (.ref s.heap.objs.size) {s with heap:=s.heap.push {cls:= .type "set",dict:=none,data:= .set #[] 0 (.fresh 0 0 (!gy w))}}):
  wpAny (model prog w) A (call (.type "set") []) Q E s:=by
 obtain⟨c,t,g⟩:=F.called_set.mro;have i:=F.called_set.made;have u:=F.called_set.sub;refine aay (abr ?_);show wpAny _ _ (callAny (.type "set") _) _ _ _;refine AC #[abJ _ (by decide+kernel),abv F.entry_type_call ?_]
 rw[Around.under_plain (weight_type_call_type "set" [] []) rfl];have v:=F.called_set.notType;have x:=F.called_set.canCreate;have j:=F.typeCall_set_0
 repeat (any_goals (first|assumption|wp_step))
 refine aaz (wL (E:=E) (Q₁:=λobj a=>obj= .ref s.heap.objs.size/\a={s with heap:=s.heap.push {cls:= .type "set",dict:=none,data:= .set #[] 0 (.fresh 0 0 (!gy w))}}) #[rfl,rfl]) λr a b=>?_
 cases r with
 |error e=>exact b
 |ok k=>
  cases k with
  |ret obj=>
   obtain⟨rfl,rfl⟩:=b;have l:(s.heap.push {cls:= .type "set",dict:=none,data:= .set #[] 0 (.fresh 0 0 (!gy w))}).get? s.heap.objs.size=some {cls:= .type "set",dict:=none,data:= .set #[] 0 (.fresh 0 0 (!gy w))}:=GM _ rfl;have m:Shared.TypeIs {s with heap:=s.heap.push {cls:= .type "set",dict:=none,data:= .set #[] 0 (.fresh 0 0 (!gy w))}} (.ref s.heap.objs.size) "set":=#[_,l,rfl]
   have n:=F.called_set.init.lookup;have o:=F.called_set.init.bind (.ref s.heap.objs.size)
   repeat (any_goals (first|assumption|wp_step))
   refine aaz (aaN (R:=wants (λr f=>r= .none/\Q (.ref s.heap.objs.size) f) E) F.called_set.init.plain F.entry_set_init (check_set_init m ?_)) λp f d=>?_
   .unfold Builtin.«set.__init__» noKeywords
    wp_walk
    exact#[rfl,h]
   .cases p with
    |error e=>exact d
    |ok q=>
     cases q with
     |ret r=>
      obtain⟨rfl,y⟩:=d
      repeat (any_goals (first|assumption|wp_step))
     |_=>exact d.elim
  |_=>exact b.elim
def mJ.new(w:World):mJ (gy w) {cls:= .type "set",dict:=none,data:= .set #[] 0 (.fresh 0 0 (!gy w))} #[] 0 (.fresh 0 0 (!gy w)) where
 ex:=#[rfl,rfl,rfl]
 dat:=rfl
 tok:=#[.inl rfl,rfl,λi j a=>by simp[SetTable.fresh] at a,rfl,λi j h=>by simp[SetTable.fresh] at h,by simp[SetTable.fresh],λi h e=>by simp at e]
 pl:=rfl
 ld:=rfl
 few:=by simp[SetTable.fresh]
end
section
variable {prog:Program} {w:World} {A:Around} {E:Value->Shared->Prop} {s:Shared}
def ItemsAre.ints(h:ItemsAre (intKind prog w) c b):∀v∈b,∃i t,v= .int i t:=by
 induction h with
 |nil=>intro v a;simp at a
 | @cons k f c b d _ e=>
  intro v a
  rcases b8.mp a with rfl|a
  .obtain⟨t,rfl⟩:=Value.isInt_shape d
   exact#[k,t,rfl]
  .exact e v a
def oR(f:IsTupleKey (intKind prog w) s.heap j a)(h:Q false s):wpAny (model prog w) A (ofAClassStatement 8 (.ref a)) Q E s:=by
 have k:=f.typeIs;obtain⟨o,c,n,l,_,m,p⟩:=f;unfold ofAClassStatement;refine ir (acE k ?_);dsimp only;simp only[aaO, ↓reduceIte];refine ir (AC ?_);simp only[abT,fE, ↓reduceIte];refine ir (acA l m ?_);dsimp only;refine ir ?_;rw[<-Array.forIn_toList];refine ab8 _ (λb r d=>r.1=none/\d=s/\∀v∈b,∃i t,v=Value.int i t) _ ?_ ?_ _ _ #[rfl,rfl,p.ints]
 .rintro v b r d ⟨e,rfl,g⟩
  obtain⟨i,t,rfl⟩:=g v dE;refine ir (abG (show ofAClassStatement 7 (.int i t)=pure false from by unfold ofAClassStatement;rfl) ?_)
  simp only[fE,On];exact AC #[rfl,rfl,λu q=>g u (eM _ q)]
 .rintro⟨x,y⟩ d ⟨e,rfl,_⟩
  simp only at e;subst e;exact AC h
def GB(j:IsTupleKey (intKind prog w) s.heap n b)(stored:List Value)(o:∀y∈stored,∃f a,y=Value.ref a/\IsTupleKey (intKind prog w) s.heap f a)(h:Q false s):
  wpAny (model prog w) A (searchCouldBeSeen (.ref b) stored) Q E s:=by
 unfold searchCouldBeSeen;refine ir ?_;refine ab8 _ (λd r g=>r.1=none/\g=s/\∀y∈d,∃f a,y=Value.ref a/\IsTupleKey (intKind prog w) s.heap f a) _ ?_ ?_ _ _ #[rfl,rfl,o]
 .rintro y d r g ⟨i,rfl,k⟩
  obtain⟨f,a,rfl,l⟩:=k y dE;have m:∀y∈d,∃f a,y=Value.ref a/\IsTupleKey (intKind prog w) g.heap f a:=λy p=>k y (eM _ p);have e:(carriedByValue (Value.ref b)&&carriedByValue (Value.ref a))=false:=by simp[carriedByValue]
  dsimp only;rw[e,Bool.or_false]
  by_cases c:(b==a)=true
  .rw[tz c]
   exact AC #[rfl,rfl,m]
  .rw[mo c]
   refine ir (wpAny_eqIsQuiet_tuple j ?_);simp only[abT,fE,On];refine ir (wpAny_eqIsQuiet_tuple l ?_);simp only[abT,fE,On];refine ir (oR j ?_);simp only[fE,On];refine ir (oR l ?_);simp only[fE,On];exact AC #[rfl,rfl,m]
 .rintro⟨q,t⟩ g ⟨i,rfl,_⟩
  simp only at i;subst i;exact AC h
def Ap(f:IsTupleKey (intKind prog w) s.heap j a)(h:Q true s):wpAny (model prog w) A (hashByValue 8 (.ref a)) Q E s:=by
 rfl';have l:=f.typeIs;obtain⟨o,c,n,m,_,p,q⟩:=f;ac_rfl;unfold hashByValue;refine ir (abx l F.slot_tuple_hash.lookup ?_);dsimp only;refine ir (acA m p ?_);refine ir ?_;show wpAny _ _ (forIn c _ _) _ _ s;rw[<-Array.forIn_toList];refine ab8 _ (λb r d=>r.1=none/\d=s/\∀v∈b,∃i t,v=Value.int i t) _ ?_ ?_ _ _ #[rfl,rfl,q.ints]
 .rintro v b r d ⟨e,rfl,g⟩
  obtain⟨i,t,rfl⟩:=g v dE;refine ir (abG (show hashByValue 7 (.int i t)=pure true from by unfold hashByValue;rfl) ?_)
  simp only[abT,fE,On];exact AC #[rfl,rfl,λu x=>g u (eM _ x)]
 .rintro⟨z,B⟩ d ⟨e,rfl,_⟩
  simp only at e;subst e;exact AC h
def L9(prog:Program)(w:World)(h:Heap)(b:Array (Int×Value)):Prop:=∀(i:Nat)(e:Int×Value),b[i]? =some e->∃k a,e=(tupleKeyHash (intKind prog w) k, .ref a)/\IsTupleKey (intKind prog w) h k a
def O4(a:Array (Int×Value))(i:Nat):Int:=(a[i]?.map (·.1)).getD 0
def MQ(h:vH m):m%2=1:=by rcases h with rfl|rfl|rfl|rfl<;>rfl
def A8{a:Array Nat}(R:ng a){i j v:Nat}(b:a[i]? =some v)(c:a[j]? =some v):i=j:=by
 rw[<-below_at R b,<-below_at R c]
theorem qo(hu:A.units<cLine)(ho:s.heap.get? a=some o)(S:mJ (gy w) o q M t)(P:L9 prog w s.heap q)(hk:IsTupleKey (intKind prog w) s.heap u b)
  (Qm:(∃(i:Nat)(c:Addr),q[i]? =some (tupleKeyHash (intKind prog w) u, .ref c)/\IsTupleKey (intKind prog w) s.heap u c)->∀r:Option Nat,(B=false->r.isSome=true)->Q (.there r) s)
  (Cn:(∀(i:Nat)(e:Int×Value),q[i]? =some e->∀c,e.2= .ref c->¬IsTupleKey (intKind prog w) s.heap u c)->∀g,(∀i:Nat,t.place[i]? ≠some (bP t.mask (tupleKeyHash (intKind prog w) u) g))->(∀j,j<g->∃i:Nat,t.place[i]? =some (bP t.mask (tupleKeyHash (intKind prog w) u) j))->
   Q (.free (bP t.mask (tupleKeyHash (intKind prog w) u) g) false) s):
  wpAny (model prog w) A (setSearch a (.ref b) (tupleKeyHash (intKind prog w) u) B) Q E s:=by
 generalize hh:tupleKeyHash (intKind prog w) u=h at*;have T:=S.tok;obtain⟨s0,hs0,WU⟩:=T.empty;obtain⟨K,hK,Z⟩:=meets T.few (t4.start t.mask h) hs0;have Z:bP t.mask h K=s0:=by unfold bP;rw[mE];exact Z
 have kb:K<6000:=by
  have:10*turns t.mask<=5260:=by
   rcases T.few with e|e|e|e<;>rw[e]<;>decide
  lia
 have sz:t.place.size=q.size:=by rw[T.size];simp
 have hN:(t.mask%2==0)=false:=by rw[MQ T.few];rfl
 have N:∀(n:Nat)(k:Nat)(l:Nat)(O:Option Probe),K+1-k<=n->n<l->k<=K->O.getD (t.probeStart h)=qV t.mask h k->(∀j,j<k->∃i:Nat,t.place[i]? =some (bP t.mask h j))->
   (∀(i:Nat) c,q[i]? =some (h, .ref c)->IsTupleKey (intKind prog w) s.heap u c->∀C,t.place[i]? =some (bP t.mask h C)->k<=C)->
   wpAny (model prog w) A (setSearchFrom a (.ref b) h B l O) Q E s:=by
  intro n
  induction n with
  |zero=>intro k l O h1 h2 h3;lia
  |succ n ih=>
   intro k l O h1 h2 h3 h4 h5 h6;obtain⟨f,rfl⟩:∃f,l=f+1:=#[l-1,by lia]
   unfold setSearchFrom;refine ir (aaG ho S.dat S.fits ?_);dsimp only;unfold SetTable.gaveWay;rw[hN];simp only[fE,On]
   have WG:∀(i:Nat)(e:Int×Value),q[i]? =some e->O4 q i=e.1:=λi e d=>by
    show(q[i]?.map (·.1)).getD 0=e.1;rw[d];rfl
   generalize I:t.probe _ h (O.getD (t.probeStart h))=r;have I:t.probe (O4 q) h (qV t.mask h k)=r:=by rw[<-h4];exact I
   generalize O4 q=hA at WG I;obtain⟨g,zL,hp,alt⟩:=TOk.probe T hA h k
   have k0K:g<=K:=by
    apply FS;intro c;obtain⟨i,d,_⟩:=hp K h3 (by lia)
    rw[Z] at d;exact WU i d
   have QO:∀j,j<g->∃i:Nat,t.place[i]? =some (bP t.mask h j):=λj h'=>by
    by_cases c:j<k
    .exact h5 j c
    .obtain⟨i,d,_⟩:=hp j (by lia) h'
     exact#[i,d]
   have F:∀(i:Nat) c,q[i]? =some (h, .ref c)->IsTupleKey (intKind prog w) s.heap u c->∀C,t.place[i]? =some (bP t.mask h C)->g<=C:=λi c d hc C R=>by
    have hkx:=h6 i c d hc C R;apply FS;intro z;obtain⟨p,G,vM⟩:=hp C hkx (by lia)
    have:i=p:=A8 T.rise R G
    subst this;exact vM (WG i _ d)
   rcases alt with ⟨Nf,M⟩ | ⟨i,d,HF,M⟩
   .rw[M] at I
    subst I;dsimp only;refine AC (Cn (λi e d c hc W6=>?_) g Nf QO);obtain⟨j,a',U,X⟩:=P i e d;subst U;cases hc
    have:j=u:=X.inj W6
    subst this;rw[hh] at d;obtain⟨ky,Xs,hy2⟩:=T.path i h (by rw[eQ,fM,d];rfl)
    have lt:=F i _ d W6 ky Xs
    by_cases c1:g<ky
    .obtain⟨p,G⟩:=hy2 g c1
     exact Nf p G
    .have:ky=g:=by lia
     subst this;exact Nf i Xs
   .rw[M] at I
    subst I;dsimp only
    have Xt:i<q.size:=by
     have:=(za.mp d).1
     lia
    obtain⟨j,c,U,X⟩:=P i q[i] (Bi Xt);have L:q[i]? =some (tupleKeyHash (intKind prog w) j, .ref c):=by rw[Bi Xt,U]
    have H:wpAny (model prog w) A (match q[i]? with
      |some (fst,y)=>do
       let m <-holding [y] (eqBool y (Value.ref b))
       let J <-setState a
       if (B&&m)=true then pure (SetFound.there none)
        else
         match J.2.snd.sameMemory t.moves t.mask with
         |some same=>
          match if same=true then J.2.snd.slot (bP t.mask h g) else Slot.empty with
          |Slot.live p=>
           match J.fst[p]? with
           |some (fst,y')=>do
            let v <-isSame y' y
            let Y <-pure (if v=true then some p else none)
            match Y with
             |none=>do
              rule "set.search.anew"
              setSearchFrom a (Value.ref b) h B f none
             |some p=>
              if m=true then pure (SetFound.there (some p))
              else setSearchFrom a (Value.ref b) h B f (some (qV t.mask h (g+1)))
           |none=>do
            let Y <-pure none
            match Y with
             |none=>do
              rule "set.search.anew"
              setSearchFrom a (Value.ref b) h B f none
             |some p=>
              if m=true then pure (SetFound.there (some p))
              else setSearchFrom a (Value.ref b) h B f (some (qV t.mask h (g+1)))
          |x=>do
           let Y <-pure none
           match Y with
            |none=>do
             rule "set.search.anew"
             setSearchFrom a (Value.ref b) h B f none
            |some p=>
             if m=true then pure (SetFound.there (some p))
             else setSearchFrom a (Value.ref b) h B f (some (qV t.mask h (g+1)))
         |x=>unsupported "set.changed-during-lookup:is-the-new-block-at-the-old-address"
      |x=>unsupported "internal:set-entry") Q E s:=by
     rw[L];dsimp only;refine ir (M2 (wpAny_eqBool_tuple hu X hk ?_));refine ir (aaG ho S.dat S.fits ?_);dsimp only;have sm:t.sameMemory t.moves t.mask=some true:=by unfold SetTable.sameMemory;simp
     have vM:j≠u->wpAny (model prog w) A (setSearchFrom a (Value.ref b) h B f (some (qV t.mask h (g+1)))) Q E s:=λne=>by
      by_cases kk:g=K
      .subst kk
       rw[Z] at d;exact absurd d (WU i)
      refine ih (g+1) f _ (by lia) (by lia) (by lia) rfl (λQw h''=>?_) λp c' G su C R=>?_
      .by_cases z:Qw=g
       .subst z;exact#[i,d]
       .exact QO Qw (by lia)
      .have l1:=F p c' G su C R
       have:C≠g:=λz=>by
        subst z
        have:p=i:=A8 T.rise R d
        subst this;rw[L] at G;cases G;exact ne (X.inj su)
       lia
     have there:j=u->∀r:Option Nat,(B=false->r.isSome=true)->Q (.there r) s:=λe=>by
      subst e;rw[hh] at L;exact Qm #[i,c,L,X]
     by_cases e:j=u
     .rw[KM e,Bool.and_true]
      cases B with
      |true=>exact AC (there e none λz=>absurd z (by decide))
      |false=>
       simp only[fE,On];rw[sm];dsimp only;rw[tz rfl,qU T.rise d];dsimp only;rw[L];dsimp only;refine ir (wpAny_isSame_ref_self ?_);refine ir (AC ?_);simp only[aaC];exact AC (there e (some i) λ_=>rfl)
     .rw[Gc e,y6]
      simp only[fE,On];rw[sm];dsimp only;rw[tz rfl,qU T.rise d];dsimp only;rw[L];dsimp only;refine ir (wpAny_isSame_ref_self ?_);refine ir (AC ?_);simp only[aaC];exact vM e
    by_cases led:(!t.led)=true
    .rw[tz led]
     refine ir (GB hk _ (λy hy=>?_) ?_)
     .obtain⟨e,he,rfl⟩:=dO.mp hy
      have he:=(Array.mem_filter.mp (Array.mem_toList_iff.mp he)).1;obtain⟨p,G,rfl⟩:=Array.mem_iff_getElem.mp he;obtain⟨Qw,c',U,W5⟩:=P p q[p] (Bi G);exact#[Qw,c',by rw[U],W5]
     .simp only[fE,On]
      exact H
    .rw[mo led]
     exact H
 refine N (K+1) 0 100000 none (bu _) (by lia) (cZ _) rfl (λj h'=>by lia) λi c d hc C _=>cZ _
end
section
variable {prog:Program} {w:World} {A:Around} {E:Value->Shared->Prop} {s:Shared}
def uX(b:Addr)(a:Array (Int×Value)):byScan (.ref b) a=false:=rfl
def Ao(k:A.units<cLine)(g:s.heap.get? a=some o)(S:mJ (gy w) o f j t)(P:L9 prog w s.heap f)(l:IsTupleKey (intKind prog w) s.heap d b)
  (m:(∃(i:Nat)(c:Addr),f[i]? =some (tupleKeyHash (intKind prog w) d, .ref c)/\IsTupleKey (intKind prog w) s.heap d c)->∀r:Option Nat,r.isSome=true->Q r s)
  (n:(∀(i:Nat)(e:Int×Value),f[i]? =some e->∀c,e.2= .ref c->¬IsTupleKey (intKind prog w) s.heap d c)->Q none s):
  wpAny (model prog w) A (setFind a (.ref b) (tupleKeyHash (intKind prog w) d)) Q E s:=by
 unfold setFind setFindIn;refine ir (aaG g S.dat S.fits ?_);dsimp only;rw[uX];simp only[fE,On];refine ir (qo k g S P l (λh r p=>?_) λh q _ _=>?_)
 .exact AC (m h r (p rfl))
 .exact AC (n h)
def Eh(Z:A.units<cLine)(n:s.heap.get? a=some o)(S:mJ (gy w) o d Y t)(P:L9 prog w s.heap d)(H:IsTupleKey (intKind prog w) s.heap g b)(room:d.size<=305)
  (hy:(∃(i:Nat)(c:Addr),d[i]? =some (tupleKeyHash (intKind prog w) g, .ref c)/\IsTupleKey (intKind prog w) s.heap g c)->Q false s)
  (I:(∀(i:Nat)(e:Int×Value),d[i]? =some e->∀c,e.2= .ref c->¬IsTupleKey (intKind prog w) s.heap g c)->∀z J L B4 t',Heap.SameBut a s.heap z->z.get? a=some J->mJ (gy w) J L B4 t'->L.toList.Perm (d.toList++ [(tupleKeyHash (intKind prog w) g, .ref b)])->Q true {s with heap:=z}):
  wpAny (model prog w) A (setAddHashed a (.ref b) (tupleKeyHash (intKind prog w) g)) Q E s:=by
 have u:=S.dat;have M:=S.fits;have T:=S.tok;have sz:t.place.size=d.size:=by rw[T.size];simp
 unfold setAddHashed setAddHashedIn;refine M2 (ir (aaG n u M ?_));dsimp only;rw[uX];simp only[fE,On];refine ir (qo Z n S P H (λh r hr=>?_) λh k B QO=>?_)
 .exact AC (hy h)
 .dsimp only
  refine ir (aaG n u M ?_);dsimp only;obtain⟨p1,p2,l⟩:=TOk.put T B QO (by rw[sz];exact KL T.few S.few)
  rw[p1]
  have e:(SetTable.insertAt d (below t.place (bP t.mask (tupleKeyHash (intKind prog w) g) k)) (tupleKeyHash (intKind prog w) g,Value.ref b)).toList.map (·.1)=(d.toList.map (·.1)).take (below t.place (bP t.mask (tupleKeyHash (intKind prog w) g) k))++tupleKeyHash (intKind prog w) g::(d.toList.map (·.1)).drop (below t.place (bP t.mask (tupleKeyHash (intKind prog w) g) k)):=by
   rw[ab7];simp
  rw[<-e] at l;have pl:(t.put (bP t.mask (tupleKeyHash (intKind prog w) g) k)).1.plain=true:=S.pl;have ld:(t.put (bP t.mask (tupleKeyHash (intKind prog w) g) k)).1.led= !gy w:=S.ld;have mk:(t.put (bP t.mask (tupleKeyHash (intKind prog w) g) k)).1.mask=t.mask:=rfl;generalize hx:((tupleKeyHash (intKind prog w) g,Value.ref b):Int×Value)=x at*;generalize hp:below t.place (bP t.mask (tupleKeyHash (intKind prog w) g) k)=p at*;generalize (t.put (bP t.mask (tupleKeyHash (intKind prog w) g) k)).1=m at*;rw[tz pl];refine ir (Ap H ?_);simp only[aaC,Bool.not_false,Bool.true_and];have q:(SetTable.insertAt d p x).size=d.size+1:=SetTable.ik ..;have C:=acw d p x;rw[Bo] at C;refine ir (wpAny_storeSet_of n u ?_ (by rw[q];refine fits_of_scanBound ?_;show d.size+1<4096;lia))
  have v:=vm n u (SetTable.insertAt d p x) m;have N:=Heap.SameBut.update s.heap a (Obj.putSet (SetTable.insertAt d p x) m)
  have ZZ:m.fits (SetTable.insertAt d p x).size=true:=by
   have:=TOk.fits l
   rw[aV,fY] at this;exact this
  by_cases j:m.tooFull=true
  .rw[tz j]
   refine af λG0 k=>?_;obtain⟨y,f,O,_,pf,R,T2,F,l2,U,Ym⟩:=IE l j (by rw[q,mk];have:=S.few;lia) (by rw[q];lia)
   refine k ?_;rw[q] at O U Ym;refine ir ?_;unfold setRelay;refine ir (aaG v rfl ZZ ?_);dsimp only;have big:512<=sizeLine:=by decide
   rw[mo (by lia),O]
   have X:(f.filterMap ((SetTable.insertAt d p x)[·]?)).size=d.size+1:=by rw[R,q]
   refine ir (abG (a:=(f.filterMap ((SetTable.insertAt d p x)[·]?),y)) ?_ ?_)
   .show(if ((f.filterMap ((SetTable.insertAt d p x)[·]?)).size !=(SetTable.insertAt d p x).size)=true then _ else pure (f.filterMap ((SetTable.insertAt d p x)[·]?),y))=_
    rw[mo (by rw[R];simp)]
   .dsimp only
    refine wpAny_storeSet_of v rfl ?_ (by rw[X];refine fits_of_scanBound ?_;show d.size+1<4096;lia)
    have Fn:=vm v rfl (f.filterMap ((SetTable.insertAt d p x)[·]?)) y;exact AC (I h _ _ _ _ y (N.trans (Heap.SameBut.update _ a _)) Fn #[S.ex,rfl,T2,by rw[F];exact pl,by rw[l2];exact ld,by rw[X];exact U] (pf.trans C))
  .rw[mo j]
   refine AC (I h _ _ _ _ m N v #[S.ex,rfl,l,pl,ld,?_] C);have G:m.tooFull=false:=by simpa using j
   unfold SetTable.tooFull SetTable.fill at G;rw[l.dum,l.size] at G;simp at G;lia
variable {a b:Addr} {o:Obj} {es:Array (Int×Value)} {ep:Nat} {t:SetTable} {ks:List Int}
open Classical in
noncomputable def nK(prog:Program)(w:World)(h:Heap)(es:Array (Int×Value))(ks:List Int):Bool:=decide (∃(i:Nat)(c:Addr),es[i]? =some (tupleKeyHash (intKind prog w) ks, .ref c)/\IsTupleKey (intKind prog w) h ks c)
def M8(h:∀(i:Nat)(e:Int×Value),es[i]? =some e->∀c,e.2= .ref c->¬IsTupleKey (intKind prog w) s.heap ks c):nK prog w s.heap es ks=false:=by
 classical
 unfold nK;exact Gc λ#[i,c,d,f]=>h i _ d c rfl f
def KZ(h:∃(i:Nat)(c:Addr),es[i]? =some (tupleKeyHash (intKind prog w) ks, .ref c)/\IsTupleKey (intKind prog w) s.heap ks c):nK prog w s.heap es ks=true:=by
 classical
 unfold nK;exact KM h
def tR(k:A.units+64<cLine)(d:s.heap.get? a=some o)(S:mJ (gy w) o es ep t)(P:L9 prog w s.heap es)(e:IsTupleKey (intKind prog w) s.heap ks b)
  (h:∀f,Q (nK prog w s.heap es ks) {s with toks:=f}):wpAny (model prog w) A (contains (.ref a) (.ref b)) Q E s:=by
 have c:s.TypeIs (.ref a) "set":=#[o,d,S.ex.1];unfold contains
 try with_reducible refine M2 ?_
 refine ir (abx c F.slot_set_contains.lookup ?_);show wpAny _ _ (if (some (Value.builtin "set.__contains__")==some Value.none)=true then _ else _) _ E s;rw[mo (by rw[beq_builtin_none];exact eO)]
 refine ir (wpAny_callSpecialUnlessNone?_slot (name:=Str.ofString "__contains__") c F.slot_set_contains
  (aaD F.slot_set_contains c entry_set_contains ?_ (F.args_set_contains_2 _ _)))
 unfold Builtin.«frozenset.__contains__» Builtin.Frozenset.oneOther;simp only[List.isEmpty_nil,bind_assoc];unfold Builtin.Frozenset.addrOf Builtin.Frozenset.withSetAsKey setContains;refine ir (AC ?_)
 try dsimp only
 refine ir (AC ?_)
 try dsimp only
 refine ir (wpAny_tryCatch ?_);refine M2 ?_;refine ir (wpAny_pyHash_tuple ?_ e ?_)
 .show A.units+1<cLine;lia
 refine ir (Ao (s:={s with toks:=s.toks+(ks.length+1)}) ?_ d S P e (λg r i=>?_) λj=>?_)
 .show A.units+1<cLine;lia
 .refine AC ?_
  show wpAny _ _ (ret (Value.bool r.isSome)) _ _ _;rw[i]
  have:=h (s.toks+(ks.length+1))
  rw[KZ g] at this;exact AC #[_,rfl,SB this]
 .refine AC ?_
  have:=h (s.toks+(ks.length+1))
  rw[M8 j] at this;exact AC #[_,rfl,SB this]
end
end PySem
set_option maxHeartbeats 4000000
namespace L2
open PySem PySem.Spec PyProof.Rows
inductive FV where
 |int (i:Int) |bl (b:Bool)
inductive XD where
 |tq (b:Bool) (ps:List (Int×Int)) |sZ (ks:List (Int×Int)) (vs:List FV)
inductive D where
 |aY|bl (b:Bool) |int (i:Int) |str (x:Str) |lst (l:List D) |tup (l:List D) |qT (ns:List Int) |rng (lo hi:Int) |obj (a:Addr) |fX (w:List (List Nat)) |set (b:Bool) (l:List Int) |x (k:XD) |err (C:Addr) (ks:List Str) (l:List D)
structure DC where
 K:aj
 C:Addr
def ai(n:Nat):D:= .int n
def av(r:List Nat):D:= .lst (r.map ai)
def aO(w:List (List Nat)):D:= .lst (w.map av)
def VD(a:Array (Int×Value))(b:List Int):Prop:=(∀e∈a.toList,∃k t,e=(hashInt k,Value.int k t))/\b.Nodup/\∃c,IntsAre (a.toList.map (·.2)) c/\c.Perm b
def R3(b:Bool)(a:Addr)(d:List Int)(h:Heap):Prop:=∃o c e t,h.get? a=some o/\mJ b o c e t/\VD c d
def cw(p:Int×Int):Int:=reduceHash (Builtin.Tuple.tupleHashOf [hashInt p.1,hashInt p.2])
inductive iI (H:Hp):List (Int×Addr)->List (Int×Int)->Prop
 |nil:iI H [] []
 |cons {a:Addr} {p:Int×Int} {es:List (Int×Addr)} {ps:List (Int×Int)}:H a=some (.tup [.int p.1, .int p.2])->iI H es ps->iI H ((cw p,a)::es) (p::ps)
theorem iI.mono{H a:Hp}(s:aJ H a):∀{b:List (Int×Addr)}{c:List (Int×Int)},iI H b c->iI a b c
 |_,_, .nil=> .nil
 |_,_, .cons h t=> .cons (s _ _ h) (t.mono s)
def fI(b:Bool)(a:Addr)(d:List (Int×Addr))(h:Heap):Prop:=∃o c f t,h.get? a=some o/\mJ b o c f t/\c.toList.Perm (d.map λe=>(e.1,Value.ref e.2))
def Pu:FV->Value->Prop
 | .int i,v=>∃t,v= .int i t
 | .bl b,v=>v= .bool b
inductive Kg:List DictEntry->List (Int×Addr)->List FV->Prop
 |nil:Kg [] [] []
 |cons {e:DictEntry} {l:List DictEntry} {h:Int} {a:Addr} {v:FV} {es:List (Int×Addr)} {vs:List FV}:e.hash=h->e.key= .ref a->Pu v e.val->Kg l es vs->Kg (e::l) ((h,a)::es) (v::vs)
def gY(a:Addr)(c:List (Int×Addr))(d:List FV)(h:Heap):Prop:=(a==sysModules)=false/\∃o b e,h.get? a=some o/\o.ExactDict/\o.data= .dict b e/\Kg b.toList c d
def Kl(H:Hp)(a:Addr)(d:Heap->Prop):XD->Prop
 | .tq b e=>e.Nodup/\∃c,d=fI b a c/\iI H c e
 | .sZ ks f=>ks.Nodup/\∃c,d=gY a c f/\iI H c ks
theorem Kl.mono{H c:Hp}(s:aJ H c):∀{k:XD},Kl H a d k->Kl c a d k
 | .tq _ _,#[n,b,e,p]=>#[n,b,e,p.mono s]
 | .sZ _ _,#[n,b,e,p]=>#[n,b,e,p.mono s]
def Kj(H:Hp)(d:Option Addr)(a:List Str)(b:List V):Prop:=(d=none/\a= []/\b= [])\/∃c,d=some c/\H c=some (zl c (a.zip b))/\a.length=b.length
def Kj.mono{H d:Hp}(s:aJ H d)(h:Kj H e f g):Kj d e f g:=h.imp id λ#[i,a,b,c]=>#[i,a,s _ _ b,c]
mutual
inductive Dv (Z:DC) (H:Hp):V->D->Prop
 |aY:Dv Z H .aY .aY
 |bl (b:Bool):Dv Z H (.bl b) (.bl b)
 |int (i:Int):Dv Z H (.int i) (.int i)
 |str (x:Str) (h:PyData.strOk x=true):Dv Z H (.str x) (.str x)
 |lst {a:Addr} {xs:List V} {ds:List D}:H a=some (.lst xs)->DvAll Z H xs ds->Dv Z H (.ref a) (.lst ds)
 |tup {a:Addr} {xs:List V} {ds:List D}:H a=some (.tup xs)->DvAll Z H xs ds->Dv Z H (.ref a) (.tup ds)
 |obj (a:Addr):Dv Z H (.ref a) (.obj a)
 |rng {a:Addr} {lo hi:Int}:H a=some (.rng lo hi)->Dv Z H (.ref a) (.rng lo hi)
 |qT {a:Addr} {ns:List Int}:cJ Z.K H a (ns.map V.int)->ns.length<=63->Dv Z H (.ref a) (.qT ns)
 |fX {p dx R:Addr} {w:List (List Nat)}:H p=some (.ins Z.C dx [("rows", .ref R)])->Dv Z H (.ref R) (aO w)->Wb.Good w->1<=w.length->w.length<=14->Dv Z H (.ref p) (.fX w)
 |set {a:Addr} {b:Bool} {ns:List Int}:H a=some (.ext (R3 b a ns))->Dv Z H (.ref a) (.set b ns)
 |x {a:Addr} {φ:Heap->Prop} {k:XD}:H a=some (.ext φ)->Kl H a φ k->Dv Z H (.ref a) (.x k)
 |err {a C:Addr} {od:Option Addr} {ks:List Str} {xs:List V} {ds:List D}:H a=some (kF C a od)->Kj H od ks xs->DvAll Z H xs ds->Dv Z H (.ref a) (.err C ks ds)
inductive DvAll (Z:DC) (H:Hp):List V->List D->Prop
 |nil:DvAll Z H [] []
 |cons {v:V} {vs:List V} {d:D} {ds:List D}:Dv Z H v d->DvAll Z H vs ds->DvAll Z H (v::vs) (d::ds)
end
def cJ.mono{K:aj}{H b:Hp}(s:aJ H b)(h:cJ K H a c):cJ K b a c:=by
 rcases h with (h| ⟨o,h⟩) |h
 .exact .inl (.inl (s _ _ h))
 .exact .inl (.inr #[o,s _ _ h])
 .exact .inr h
section
variable {Z:DC} {H H' G G':Hp}
def Dv.ofInt(h:Dv Z H v (.int i)):v= .int i:=by cases h;rfl
def Dv.AZ(h:Dv Z H v (.bl b)):v= .bl b:=by cases h;rfl
def Dv.kN(h:Dv Z H v (.lst b)):∃a c,v= .ref a/\H a=some (.lst c)/\DvAll Z H c b:=by cases h with|lst h e=>exact#[_,_,rfl,h,e]
def Dv.uC{v:V}{ds:List D}(h:Dv Z H v (.tup ds)):∃a xs,v= .ref a/\H a=some (.tup xs)/\DvAll Z H xs ds:=by cases h with|tup h e=>exact#[_,_,rfl,h,e]
def Dv.N6{v:V}{ns:List Int}(h:Dv Z H v (.qT ns)):∃a,v= .ref a/\cJ Z.K H a (ns.map V.int)/\ns.length<=63:=by cases h with|qT h z=>exact#[_,rfl,h,z]
def DvAll.N5(h:DvAll Z H a []):a= []:=by cases h;rfl
def DvAll.Dy(h:DvAll Z H c (d::e)):∃v f,c=v::f/\Dv Z H v d/\DvAll Z H f e:=by cases h with|cons a b=>exact#[_,_,rfl,a,b]
def DvAll.ofOne(h:DvAll Z H c [d]):∃v,c= [v]/\Dv Z H v d:=by
 obtain⟨v,e,rfl,a,b⟩:=h.Dy;rw[b.N5];exact#[v,rfl,a]
def DvAll.Ik(h:DvAll Z H f [d,e]):∃v u,f= [v,u]/\Dv Z H v d/\Dv Z H u e:=by
 obtain⟨v,g,rfl,a,b⟩:=h.Dy;obtain⟨u,rfl,c⟩:=b.ofOne;exact#[v,u,rfl,a,c]
theorem Dv.mono(s:aJ H H'){v:V}(h:Dv Z H v d):Dv Z H' v d:=
 Dv.rec (motive_1:=λv d _=>Dv Z H' v d) (motive_2:=λc e _=>DvAll Z H' c e) .aY .bl .int .str (λh _ a=> .lst (s _ _ h) a) (λh _ a=> .tup (s _ _ h) a) .obj (λh=> .rng (s _ _ h)) (λh z=> .qT (h.mono s) z) (λh _ g a b r=> .fX (s _ _ h) r g a b) (λh=> .set (s _ _ h)) (λh k=> .x (s _ _ h) (k.mono s)) (λh k _ a=> .err (s _ _ h) (k.mono s) a) .nil (λ_ _ a b=> .cons a b) h
def DvAll.ind{p:List V->List D->Prop}(n:p [] [])(c:∀{v:V}{e:List V}{d:D}{f:List D},Dv Z H v d->DvAll Z H e f->p e f->p (v::e) (d::f)){f:List D}(h:DvAll Z H e f):p e f:=
 DvAll.rec (motive_1:=λ_ _ _=>True) (motive_2:=λe f _=>p e f) trivial (λ_=>trivial) (λ_=>trivial) (λ_ _=>trivial) (λ_ _ _=>trivial) (λ_ _ _=>trivial) (λ_=>trivial) (λ_=>trivial) (λ_ _=>trivial) (λ_ _ _ _ _ _=>trivial) (λ_=>trivial) (λ_ _=>trivial) (λ_ _ _ _=>trivial) n (λa b _ q=>c a b q) h
theorem DvAll.mono(s:aJ H H')(h:DvAll Z H c d):DvAll Z H' c d:=h.ind .nil λa _ b=> .cons (a.mono s) b
theorem DvAll.length{a:List V}(h:DvAll Z H a b):a.length=b.length:=h.ind (p:=λa b=>a.length=b.length) rfl λ_ _ e=>KB (·+1) e
def DvAll.get{i:Nat}{d:D}(h:DvAll Z H b c)(e:c[i]? =some d):∃v,b[i]? =some v/\Dv Z H v d:=by
 revert i
 refine h.ind (p:=λb c=>∀{i:Nat},c[i]? =some d->∃v,b[i]? =some v/\Dv Z H v d) (λe=>by cases e) λa _ f i e=>?_
 cases i with
 |zero=>cases e;exact#[_,rfl,a]
 |succ i=>exact f e
def DvAll.M4{b:List V}{c:List D}{i:Nat}{v:V}(h:DvAll Z H b c)(e:b[i]? =some v):∃d,c[i]? =some d/\Dv Z H v d:=by
 revert i
 refine h.ind (p:=λb c=>∀{i:Nat},b[i]? =some v->∃d,c[i]? =some d/\Dv Z H v d) (λe=>by cases e) λa _ f i e=>?_
 cases i with
 |zero=>cases e;exact#[_,rfl,a]
 |succ i=>exact f e
def DvAll.append(h:DvAll Z H c d)(k:DvAll Z H e f):DvAll Z H (c++e) (d++f):=h.ind (p:=λc d=>DvAll Z H (c++e) (d++f)) k λa _ b=> .cons a b
theorem DvAll.take:∀{b:List V}{c:List D}(n:Nat),DvAll Z H b c->DvAll Z H (b.take n) (c.take n)
 |_,_,0,_=>DvAll.nil
 |_,_,n+1, .nil=>DvAll.nil
 |_,_,n+1, .cons a d=>DvAll.cons a (d.take n)
theorem DvAll.drop:∀{b:List V}{c:List D}(n:Nat),DvAll Z H b c->DvAll Z H (b.drop n) (c.drop n)
 |_,_,0,h=>h
 |_,_,n+1, .nil=>by simpa using DvAll.nil
 |_,_,n+1, .cons a d=>by simpa using d.drop n
theorem DvAll.set{v:V}(h:Dv Z H v d):∀{c:List V}{e:List D}(n:Nat),DvAll Z H c e->DvAll Z H (c.set n v) (e.set n d)
 |_,_,_, .nil=> .nil
 |_,_,0, .cons a b=> .cons h b
 |_,_,n+1, .cons a b=> .cons a (DvAll.set h n b)
theorem DvAll.rev:∀{b:List V}{c:List D},DvAll Z H b c->DvAll Z H b.reverse c.reverse
 |_,_, .nil=> .nil
 |_,_, .cons a d=>by
  rw[abW,abW];exact d.rev.append (.cons a .nil)
theorem DvAll.ints:∀(a:List Int),DvAll Z H (a.map V.int) (a.map D.int)
 | []=> .nil
 |n::a=> .cons (.int n) (DvAll.ints a)
def DvAll.snoc{e:List D}(a:DvAll Z H c e)(b:Dv Z H v d):DvAll Z H (c++ [v]) (e++ [d]):=a.append (.cons b .nil)
structure Ext (G H G' H':Hp):Prop where
 gg:aJ G G'
 sub:aJ G' H'
 hh:aJ H H'
 off:∀b,H b≠none->G b=none->G' b=none
theorem Ext.refl(s:aJ G H):Ext G H G H:=#[.refl _,s, .refl _,λ_ _ h=>h]
theorem Ext.trans{c d f i:Hp}(a:Ext G H c d)(b:Ext c d f i):Ext G H f i:=
 #[a.gg.trans b.gg,b.sub,a.hh.trans b.hh,λx h g=>b.off x (λz=>by
  cases e:H x with
  |none=>exact h e
  |some o=>rw[a.hh x o e] at z;cases z) (a.off x h g)]
def Ext.new{o:HO}(s:aJ G H)(h:H p=none):Ext G H (upd G p o) (upd H p o):=by
 have a:G p=none:=s.free h;refine#[aR a o,λb u e=>?_,aR h o,λb c a=>?_]
 .by_cases z:b=p
  .subst z;rw[au] at e ⊢;exact e
  .rw[aw z] at e ⊢;exact s b u e
 .have:b≠p:=λz=>c (by rw[z];exact h)
  rw[aw this];exact a
end
abbrev DN:=List (Option D)
structure dF (Z:DC) (G:Hp) (σ:St) (ρ:DN):Prop where
 len:ρ.length=σ.length
 at_:∀(i:Nat)(d:D),ρ[i]? =some (some d)->∃v,σ[i]? =some (some v)/\Dv Z G v d
section
variable {Z:DC} {G G' H H':Hp} {σ:St} {ρ:DN}
theorem dF.mono(e:dF Z G σ ρ)(s:aJ G G'):dF Z G' σ ρ:=#[e.len,λi d h=>let #[v,a,b]:=e.at_ i d h;#[v,a,b.mono s]]
theorem dF.set{v:V}(e:dF Z G σ ρ)(h:Dv Z G v d):dF Z G (σ.set i (some v)) (ρ.set i (some d)):=by
 refine#[by rw[iA,iA];exact e.len,λj c a=>?_]
 by_cases z:i=j
 .subst z
  by_cases b:i<ρ.length
  .rw[lL b] at a
   cases FB a;exact#[v,by rw[lL (e.len▸b)],h]
  .rw[Bj (jo b)] at a
   rw[iG (jo b)] at a;cases a
 .rw[lM z] at a ⊢
  exact e.at_ j c a
end
abbrev bf:=DN->(D->Prop)->Prop
abbrev eu:=DN->(Bool->Prop)->Prop
abbrev gS:=DN->(List D->Prop)->Prop
abbrev gr:=D->D->(D->Prop)->Prop
abbrev eJ:=D->DN->(DN->Prop)->Prop
abbrev ja:=DN->(List D->Prop)->Prop
def eD(Z:DC)(t:bf):TE:=λe H Q=>∃(G:Hp)(a:DN)(P:D->Prop),aJ G H/\dF Z G e a/\t a P/\∀d,P d->∀v b c,Ext G H b c->Dv Z b v d->Q v c
def liftT(Z:DC)(t:eu):TT:=λd H Q=>∃(G:Hp)(a:DN)(P:Bool->Prop),aJ G H/\dF Z G d a/\t a P/\∀b,P b->∀e c,Ext G H e c->Q b c
def xY(Z:DC)(t:gS):TA:=λf H Q=>∃(G:Hp)(a:DN)(P:List D->Prop),aJ G H/\dF Z G f a/\t a P/\∀b,P b->∀c d e,Ext G H d e->DvAll Z d c b->Q c e
def bN(Z:DC)(r:gr):R2:=λx y H Q=>∃(G:Hp)(a b:D)(P:D->Prop),aJ G H/\Dv Z G x a/\Dv Z G y b/\r a b P/\∀d,P d->∀v c e,Ext G H c e->Dv Z c v d->Q v e
def jX(Z:DC)(r:List D->(D->Prop)->Prop):List V->Hp->VK->Prop:=λe H Q=>∃(G:Hp)(a:List D)(P:D->Prop),aJ G H/\DvAll Z G e a/\r a P/\∀d,P d->∀v b c,Ext G H b c->Dv Z b v d->Q v c
abbrev dA:=List D->(D->Prop)->Prop
def aU(Z:DC)(a:dA):Sp:=λb H Q _=>jX Z a b H Q
def DE(Z:DC)(X:Cx)(e:Expr)(t:bf):Prop:=PE X e (eD Z t)
def DT(Z:DC)(X:Cx)(e:Expr)(t:eu):Prop:=PT X e (liftT Z t)
def DA(Z:DC)(X:Cx)(a:List Expr)(t:gS):Prop:=PA X a (xY Z t)
def PE.imp{X:Cx}{t t':TE}(h:PE X e t)(f:∀b H Q,t' b H Q->t b H Q):PE X e t':=λa s b H Q I q=>h a s b H Q I (f _ _ _ q)
def PT.imp{X:Cx}{t c:TT}(h:PT X e t)(f:∀b H Q,c b H Q->t b H Q):PT X e c:=λa s b H Q I q=>h a s b H Q I (f _ _ _ q)
def PW.imp{X:Cx}{t c:TT}(h:PW X e t)(f:∀b H Q,c b H Q->t b H Q):PW X e c:=λd a s b H Q I q=>h d a s b H Q I (f _ _ _ q)
def PA.imp{X:Cx}{d:List Expr}{t t':TA}(h:PA X d t)(f:∀b H Q,t' b H Q->t b H Q):PA X d t':=λc a s b H Q I q=>h c a s b H Q I (f _ _ _ q)
def OpR.imp{X:Cx}{f:Value->Value->Sem Value}{r d:R2}(h:OpR X f r)(g:∀x y H Q,d x y H Q->r x y H Q):OpR X f d:=λc s e H x y v u Q I a b q=>h c s e H x y v u Q I a b (g _ _ _ _ q)
def CallR.imp{X:Cx}{f:Value}{r d:List V->Hp->VK->Prop}(h:CallR X f r)(g:∀c H Q,d c H Q->r c H Q):CallR X f d:=λb s e H c i Q I a q=>h b s e H c i Q I a (g _ _ _ q)
def gb(i:Nat):bf:=λa P=>∃d,a[i]? =some (some d)/\P d
def dC(d:D):bf:=λ_ P=>P d
section
variable {Z:DC} {X:Cx}
def aa(i:Nat)(f:X.N[i]? =some x:=by rfl)(b:pI X.env.scope x:=by subst_eqs)(c:(x==("__debug__":Str))=false:=by decide)
  (g:(x==("__classdict__":Str))=false:=by decide):DE Z X (.Name x a) (gb i):=by
 refine(DL f b c g).imp λk H Q h=>?_;rfl';obtain⟨G,m,P,s,e,⟨d,c,p⟩,q⟩:=h;ac_rfl;exact let #[v,b,dv]:=e.at_ i d c;#[v,b,q d p v G H (.refl s) dv]
def ax{i j pos}:DE Z X (.Constant (.int i) j pos) (dC (.int i)):=by
 refine Q6.imp λc H Q a=>?_;rfl';obtain⟨G,f,P,s,e,p,q⟩:=a;ac_rfl;exact q _ p _ G H (.refl s) (.int i)
def c8{b j pos}:DE Z X (.Constant (.bool b) j pos) (dC (.bl b)):=by
 refine UT.imp λd H Q a=>?_;rfl';obtain⟨G,g,P,s,e,p,q⟩:=a;ac_rfl;exact q _ p _ G H (.refl s) (.bl b)
def fz{j pos}:DE Z X (.Constant .none j pos) (dC .aY):=by
 refine Q8.imp λc H Q a=>?_;rfl';obtain⟨G,f,P,s,e,p,q⟩:=a;ac_rfl;exact q _ p _ G H (.refl s) .aY
def lS{x j pos}(h:PyData.strOk x=true:=by decide+kernel):DE Z X (.Constant (.str x) j pos) (dC (.str x)):=by
 refine wc.imp λc H Q a=>?_;rfl';obtain⟨G,f,P,s,e,p,q⟩:=a;ac_rfl;exact q _ p _ G H (.refl s) (.str x h)
def Kz(d:Gl X x)(b:∃c,X.mg x=some (.int i c))(f:(x==("__debug__":Str))=false:=by decide):DE Z X (.Name x a) (dC (.int i)):=by
 obtain⟨c,b⟩:=b;exact(FU d b (v:= .int i) #[c,rfl] f).imp λg H Q #[G,h,P,s,e,p,q]=>q _ p _ G H (.refl s) (.int i)
def kH(r:gr)(d e:bf):bf:=λc P=>d c λa=>e c λb=>r a b P
variable {a b c:Expr} {ta tb tc:bf} {pos:Pos}
def Dd:∀f H Q,eD Z (kH r ta tb) f H Q->O9 (bN Z r) (eD Z ta) (eD Z tb) f H Q:=by
 intro f H Q k;rfl';obtain⟨G,j,P,s,e,h,q⟩:=k;ac_rfl;refine#[G,j,_,s,e,h,λa m v n E g dv=>?_];refine#[n,j,_,g.sub,e.mono g.gg,m,λb o u p F i t=>?_];exact#[p,a,b,P,i.sub,dv.mono i.gg,t,o,λd w x y z A B=>q d w x y z ((g.trans i).trans A) B]
def aI(e:OpR X (binaryOp d) (bN Z r))(f:DE Z X a ta)(g:DE Z X b tb):DE Z X (.BinOp a d b pos) (kH r ta tb):=(Ow e f g).imp Dd
def Jx(e:OpR X (compareOp d) (bN Z r))(f:DE Z X a ta)(g:DE Z X b tb)(h:behindInMarks d b=false):DE Z X (.Compare a [d] [b] pos) (kH r ta tb):=(Ol e f g h).imp Dd
def Hk(t:bf):eu:=λe P=>t e λd=>∃k,d= .bl k/\P k
def AX:∀d H Q,liftT Z (Hk t) d H Q->IS (eD Z t) d H Q:=by
 intro d H Q f;rfl';obtain⟨G,i,P,s,e,h,q⟩:=f;ac_rfl;exists G,i,_,s,e,h;rintro _ ⟨k,rfl,p⟩ v j l m dv;cases dv.AZ;exact#[k,rfl,q k p j l m]
def bo(f:OpR X (compareOp d) (bN Z r))(g:DE Z X a ta)(i:DE Z X b tb)(j:behindInMarks d b=false):DT Z X (.Compare a [d] [b] pos) (Hk (kH r ta tb)):=
 (OG f g i j).imp λe H Q h=>by
  obtain h:=AX e H Q h;exact Dd e H _ h
def BQ(r e:gr)(f g tc:bf):bf:=λd P=>f d λx=>g d λy=>r x y λz=>∃k,z= .bl k/\(if k=true then tc d λh=>e y h P else P (.bl false))
def xZ:∀f H Q,eD Z (BQ r o ta tb tc) f H Q->Eb (bN Z r) (bN Z o) (eD Z ta) (eD Z tb) (eD Z tc) f H Q:=by
 intro f H Q y;rfl';obtain⟨G,g,P,s,e,h,q⟩:=y;ac_rfl;refine#[G,g,_,s,e,h,λa A v B Y i dv=>?_];refine#[B,g,_,i.sub,e.mono i.gg,A,λb C u E X j p=>?_];exists E,a,b,_,j.sub,dv.mono j.gg,p,C;rintro _ ⟨k,rfl,t⟩ v' w F l I;cases I.AZ;exists k,rfl;have x:=(i.trans j).trans l;cases k with
 |false=>exact aZ (q _ t _ w F x (.bl false))
 |true=>
  refine cG #[w,g,_,l.sub,e.mono x.gg,t,λc J w' L H4 m M=>?_];exact#[L,b,c,P,m.sub,(p.mono l.gg).mono m.gg,M,J,λd N n O R S T=>q d N n O R ((x.trans m).trans S) T]
def Ky(g:OpR X (compareOp d) (bN Z r))(h:OpR X (compareOp e) (bN Z f))(i:DE Z X a ta)(j:DE Z X b tb)(k:DE Z X c tc)
  (l:lastMarks [d,e] [b,c]=false:=by with_unfolding_all rfl):DE Z X (.Compare a [d,e] [b,c] pos) (BQ r f ta tb tc):=(Ln g h i j k l).imp xZ
def KI(i:OpR X (compareOp d) (bN Z r))(j:OpR X (compareOp e) (bN Z f))(k:DE Z X a ta)(l:DE Z X b tb)(m:DE Z X c tc)
  (n:lastMarks [d,e] [b,c]=false:=by with_unfolding_all rfl):DT Z X (.Compare a [d,e] [b,c] pos) (Hk (BQ r f ta tb tc)):=
 (Lw i j k l m n).imp λg H Q h=>by
  obtain h:=AX g H Q h;exact xZ g H _ h
def Gv:D->Bool
 | .aY=>false
 | .bl b=>b
 | .int i=>i !=0
 | .str x=>x.length !=0
 | .lst l=>!l.isEmpty
 | .tup l=>!l.isEmpty
 | .qT l=>!l.isEmpty
 | .rng lo d=>decide (lo<d)
 | .obj _=>true
 | .fX _=>true
 | .set _ l=>!l.isEmpty
 | .x _=>true
 | .err _ _ _=>true
def Sr:D->Bool
 | .bl _=>true
 | .int _=>true
 | .lst _=>true
 | .tup _=>true
 | .aY=>true
 |_=>false
def V9(t:bf):eu:=λe P=>t e λd=>Sr d=true/\P (Gv d)
def ve(h:DvAll Z G d e):d.isEmpty=e.isEmpty:=by cases h<;>rfl
def dJ(ha:DE Z X a ta)(he:∀whole,isTrue a X.env whole=(do let v <-whole;standAt a.pos;holding [v] (truthy v)):=by intro _;rfl):DT Z X a (V9 ta):=by
 refine(Lx ha he).imp ?_;intro σ H Q aL;rfl';obtain⟨G,ρ,P,s,e,h,q⟩:=aL;ac_rfl;exists G,ρ,_,s,e,h;rintro d ⟨hd,p⟩ v G1 H1 x1 dv;refine#[Gv d,?_,q _ p G1 H1 x1];cases dv with
 |aY=>rfl
 |bl b=>rfl
 |int i=>rfl
 |lst h a=>exact .inl #[_,cJ.of (x1.sub _ _ h),by rw[ve a];rfl]
 |tup h a=>exact .inr (.inl #[_,gT.of (x1.sub _ _ h),by rw[ve a];rfl])
 |_=>cases hd
def VT(t u:eu):eu:=λd P=>t d λc=>if c=true then u d P else P false
def ZA(t u:eu):eu:=λd P=>t d λc=>if c=true then P true else u d P
def V2(t:eu):eu:=λd P=>t d λc=>P (!c)
variable {tA Ea:eu} {rest:List Expr}
def DW(Z:DC)(X:Cx)(e:Expr)(t:eu):Prop:=PW X e (liftT Z t)
def DW.dt(h:DW Z X e t):DT Z X e t:=PW.pt h
def xk(d:DT Z X a tA):DW Z X (.BoolOp .And [a] pos) tA:=OJ d
def v8(d:DT Z X a tA):DW Z X (.BoolOp .Or [a] pos) tA:=Rl d
def B2(k:DT Z X a tA)(f:DW Z X (.BoolOp .And (b::rest) pos) Ea):DW Z X (.BoolOp .And (a::b::rest) pos) (VT tA Ea):=by
 refine(Rk k f).imp ?_;intro t H Q l;rfl';obtain⟨G,g,P,s,e,h,q⟩:=l;ac_rfl;refine#[G,g,_,s,e,h,λc i j n d=>?_];cases c with
 |true=>exact cG #[j,g,P,d.sub,e.mono d.gg,i,λb f o p r=>q b f o p (d.trans r)]
 |false=>exact aZ (q _ i j n d)
def nE(k:DT Z X a tA)(f:DW Z X (.BoolOp .Or (b::rest) pos) Ea):DW Z X (.BoolOp .Or (a::b::rest) pos) (ZA tA Ea):=by
 refine(UZ k f).imp ?_;intro t H Q l;rfl';obtain⟨G,g,P,s,e,h,q⟩:=l;ac_rfl;refine#[G,g,_,s,e,h,λc i j n d=>?_];cases c with
 |false=>exact aZ #[j,g,P,d.sub,e.mono d.gg,i,λb f o p r=>q b f o p (d.trans r)]
 |true=>exact cG (q _ i j n d)
def rV(d:DT Z X a tA):DT Z X (.UnaryOp .Not a pos) (V2 tA):=by
 refine(Rj d).imp ?_;rintro l H Q ⟨G,f,P,s,e,h,q⟩;exact#[G,f,_,s,e,h,λc g i j k=>q _ g i j k]
def Th(e f:bf):bf:=λd P=>e d λx=>∃c,x= .bl c/\if c=true then f d P else P (.bl false)
def V3(e f:bf):bf:=λd P=>e d λx=>∃c,x= .bl c/\if c=true then P (.bl true) else f d P
def Tu(d:bf):bf:=λe P=>d e λx=>∃c,x= .bl c/\P (.bl (!c))
def BX{op}(h:DE Z X a ta):DE Z X (.BoolOp op [a] pos) ta:=Ra h
def Jw(k:DE Z X a ta)(f:DE Z X (.BoolOp .And (b::rest) pos) tb):DE Z X (.BoolOp .And (a::b::rest) pos) (Th ta tb):=by
 refine(Q2 k f).imp ?_;intro u H Q l;rfl';obtain⟨G,g,P,s,e,h,q⟩:=l;ac_rfl;exists G,g,_,s,e,h;rintro _ ⟨c,rfl,i⟩ v j n d dv;cases dv.AZ;exists c,rfl;cases c with
 |true=>exact cG #[j,g,P,d.sub,e.mono d.gg,i,λb f v o p r t=>q b f v o p (d.trans r) t]
 |false=>exact aZ (q _ i _ j n d (.bl false))
def My(k:DE Z X a ta)(f:DE Z X (.BoolOp .Or (b::rest) pos) tb):DE Z X (.BoolOp .Or (a::b::rest) pos) (V3 ta tb):=by
 refine(UU k f).imp ?_;intro u H Q l;rfl';obtain⟨G,g,P,s,e,h,q⟩:=l;ac_rfl;exists G,g,_,s,e,h;rintro _ ⟨c,rfl,i⟩ v j n d dv;cases dv.AZ;exists c,rfl;cases c with
 |false=>exact aZ #[j,g,P,d.sub,e.mono d.gg,i,λb f v o p r t=>q b f v o p (d.trans r) t]
 |true=>exact cG (q _ i _ j n d (.bl true))
def P0(d:DE Z X a ta):DE Z X (.UnaryOp .Not a pos) (Tu ta):=by
 refine(Q9 d).imp ?_;intro n H Q f;rfl';obtain⟨G,i,P,s,e,h,q⟩:=f;ac_rfl;exists G,i,_,s,e,h;rintro _ ⟨c,rfl,j⟩ v k l m dv;cases dv.AZ;exact#[c,rfl,q _ j _ k l m (.bl _)]
def fJ:gS:=λ_ P=>P []
def wR(e:bf)(t:gS):gS:=λd P=>e d λx=>t d λf=>P (x::f)
variable {es:List Expr} {t:gS} {e:Expr}
def ag:DA Z X [] fJ:=by
 refine fU.imp λg H Q d=>?_;rfl';obtain⟨G,i,P,s,e,p,q⟩:=d;ac_rfl;exact q _ p _ G H (.refl s) .nil
def ae(d:DE Z X e ta)(j:DA Z X es t)(k:starEach (e::es) X.env=(false,eval e X.env)::starEach es X.env:=by rfl):DA Z X (e::es) (wR ta t):=by
 refine(bS d j k).imp ?_;intro w H Q l;rfl';obtain⟨G,g,P,s,e,h,q⟩:=l;ac_rfl;refine#[G,g,_,s,e,h,λa d v n y f dv=>?_];exact#[n,g,_,f.sub,e.mono f.gg,d,λz o A p r i u=>q _ o _ p r (f.trans i) (.cons (dv.mono i.gg) u)]
def Wc(t:gS):bf:=λf P=>t f λd=>d.length<=sizeLine/\P (.tup d)
def V1(t:gS):bf:=λf P=>t f λd=>d.length<=sizeLine/\P (.lst d)
def cD{d}(h:DA Z X es t):DE Z X (.Tuple es d pos) (Wc t):=by
 refine(Rb h).imp ?_;intro n H Q i;rfl';obtain⟨G,k,P,s,e,h,q⟩:=i;ac_rfl;exists G,k,_,s,e,h;rintro r ⟨l,m⟩ u v w d f;exact#[by rw[f.length];exact l,λp g=>q _ m _ _ _ (d.trans (.new d.sub g)) (.tup au (f.mono (aR (d.sub.free g) _)))]
def bW(h:DA Z X es t):DE Z X (.List es pos) (V1 t):=by
 refine(JX h).imp ?_;intro n H Q i;rfl';obtain⟨G,k,P,s,e,h,q⟩:=i;ac_rfl;exists G,k,_,s,e,h;rintro r ⟨l,m⟩ u v w d f;exact#[by rw[f.length];exact l,λp g=>q _ m _ _ _ (d.trans (.new d.sub g)) (.lst au (f.mono (aR (d.sub.free g) _)))]
def kG(r:List D->(D->Prop)->Prop)(t:gS):bf:=λd P=>t d λf=>r f P
def pq:∀f H Q,eD Z (kG r t) f H Q->xY Z t f H λg i=>jX Z r g i Q:=by
 intro f H Q k;rfl';obtain⟨G,m,P,s,e,h,q⟩:=k;ac_rfl;exact#[G,m,_,s,e,h,λn o g p i j u=>#[p,n,P,j.sub,u,o,λd w v x y z dv=>q d w v x y (j.trans z) dv]]
def Mw(F:FnOk X.prog X.w X.K X.mg X.base cz k f g i (aU Z d))(m:bQ k X.A)(n:Gl X x)(o:X.mg x=some (.ref f))(r:aA X.K (.ref f)=true)(u:Binds X.K g i [])
  (v:DA Z X (e::es) t) (y:(x==("__debug__":Str))=false:=by decide) (z:starEach (e::es) X.env=(false,eval e X.env)::starEach es X.env:=by rfl) (B:(backTo pos (starEach es X.env)).any (·.1)=false:=by rfl):
  DE Z X (.Call (.Name x p) (e::es) [] pos) (kG d t):=
 (FT F m n o r u .nil uJ v y z B).imp λC H Q h=>by
  rfl';have h:=pq C H Q h;obtain⟨G,I,P,s,e,h,q⟩:=h;ac_rfl;exact#[G,I,P,s,e,h,λJ L j M l N O=>by show aU Z d (j++ []) l Q E0;rw[fG];exact q J L j M l N O]
def aK{id:String}{x:Str}{p:Pos}{r:List D->(D->Prop)->Prop}(d:CallR X (.builtin id) (jX Z r))(f:Gl X x)(g:X.mg x=none)(h:bootBuiltins x=some (.builtin id))(i:DA Z X (e::es) t)(j:x≠"__name__":=by decide)(k:(x==("__debug__":Str))=false:=by decide)
  (l:starEach (e::es) X.env=(false,eval e X.env)::starEach es X.env:=by rfl) (m:(backTo pos (starEach es X.env)).any (·.1)=false:=by rfl):
  DE Z X (.Call (.Name x p) (e::es) [] pos) (kG r t):=(uK d f g h i j k l m).imp pq
def lQ(d:CallR X (.type T) (jX Z r))(f:Gl X x)(g:X.mg x=none)(h:bootBuiltins x=some (.type T))(i:DA Z X (e::es) t)(j:x≠"__name__":=by decide)(k:(x==("__debug__":Str))=false:=by decide)
  (l:starEach (e::es) X.env=(false,eval e X.env)::starEach es X.env:=by rfl) (m:(backTo pos (starEach es X.env)).any (·.1)=false:=by rfl):
  DE Z X (.Call (.Name x p) (e::es) [] pos) (kG r t):=(Ir d f g h i j k l m).imp pq
end
end L2
namespace L2
open PySem PySem.Spec PyProof.Rows
section
variable {Z:DC} {X:Cx}
def wQ:gr:=λx y P=>match x,y with
 | .int i, .int j=>P (.int (i+j))
 | .lst a, .lst b=>a.length+b.length<=sizeLine/\P (.lst (a++b))
 | .tup a, .tup b=>a≠ []/\a.length+b.length<=sizeLine/\b≠ []/\P (.tup (a++b))
 |_,_=>False
def dI(c:Int->Int->Prop)(g:Int->Int->Int):gr:=λx y P=>match x,y with
 | .int i, .int j=>c i j/\P (.int (g i j))
 |_,_=>False
def PN(g:Int->Int->Int):gr:=λx y P=>match x,y with
 | .int i, .int j=>P (.int (g i j))
 |_,_=>False
def V8:gr:=PN λi j=>i-j
def Se:gr:=λx y P=>match x,y with
 | .int i, .int j=>Jl i j/\P (.int (i*j))
 | .lst a, .int k=> -(2^63)<=k/\k<2^63/\a.length*k.toNat<=sizeLine/\P (.lst (ak k.toNat a).flatten)
 |_,_=>False
def u4:gr:=dI RY λi j=>i / j
def Sd:gr:=dI (λ_ j=>0<j) λi j=>i%j
def V6:gr:=dI RZ λi j=>i^j.toNat
def Tj:gr:=PN Builtin.bitAnd
def De(h:OpR X f (rI c λi j=> .int (g i j))):OpR X f (bN Z (dI c g)):=by
 refine h.imp ?_;intro x y H Q e;rfl';obtain⟨G,a,b,P,s,l,m,d,q⟩:=e;ac_rfl;unfold dI at d
 split at d
 .exact#[_,_,l.ofInt,m.ofInt,d.1,q _ d.2 _ G H (.refl s) (.int _)]
 .exact d.elim
def JN(h:OpR X f (Af λi j=> .int (g i j))):OpR X f (bN Z (PN g)):=by
 refine h.imp ?_;intro x y H Q d;rfl';obtain⟨G,a,b,P,s,k,l,c,q⟩:=d;ac_rfl;unfold PN at c
 split at c
 .exact#[_,_,k.ofInt,l.ofInt,q _ c _ G H (.refl s) (.int _)]
 .exact c.elim
def sV:OpR X (binaryOp .Sub) (bN Z V8):=JN Q1
def fC:OpR X (binaryOp .FloorDiv) (bN Z u4):=De Oe
def dM:OpR X (binaryOp .Mod) (bN Z Sd):=De QW
def JU:OpR X (binaryOp .Pow) (bN Z V6):=De QZ
def N4:OpR X (binaryOp .BitAnd) (bN Z Tj):=JN QT
def cg(e:X.K=Z.K:=by rfl):OpR X (binaryOp .Add) (bN Z wQ):=by
 refine(QS.or (JW.or (Od))).imp ?_;rintro x y H Q ⟨G,a,b,P,s,h,i,c,q⟩;unfold wQ at c
 split at c
 .exact .inl #[_,_,h.ofInt,i.ofInt,q _ c _ G H (.refl s) (.int _)]
 .obtain⟨n,o,rfl,j,d⟩:=h.kN
  obtain⟨r,t,rfl,k,f⟩:=i.kN;obtain⟨l,m⟩:=c;refine .inr (.inl #[_,_,_,_,rfl,rfl,s _ _ j,s _ _ k,by rw[d.length,f.length];exact l,λp g=>?_])
  exact q _ m _ _ _ (.new s g) (.lst au ((d.append f).mono (aR (s.free g) _)))
 .obtain⟨n,o,rfl,j,d⟩:=h.uC
  obtain⟨r,t,rfl,k,f⟩:=i.uC;obtain⟨u,l,v,m⟩:=c;refine .inr (.inr #[_,_,_,_,rfl,rfl,gT.of (s _ _ j),gT.of (s _ _ k),?_,by rw[d.length,f.length];exact l,?_])
  .rintro rfl;cases d;exact u rfl
  .refine#[?_,λ_ p g=>q _ m _ _ _ (.new s g) (.tup au ((d.append f).mono (aR (s.free g) _)))]
   rintro rfl;cases f;exact(v rfl).elim
 .exact c.elim
theorem DvAll.rep(h:DvAll Z G a b):∀k:Nat,DvAll Z G (ak k a).flatten (ak k b).flatten
 |0=> .nil
 |k+1=>by rw[zc,zc,qq,qq];exact h.append (DvAll.rep h k)
def Dx:OpR X (binaryOp .Mult) (bN Z Se):=by
 refine(QX.or Q0).imp ?_;intro x y H Q h;rfl';obtain⟨G,a,b,P,s,d,e,c,q⟩:=h;ac_rfl;unfold Se at c
 split at c
 .exact .inl #[_,_,d.ofInt,e.ofInt,c.1,q _ c.2 _ G H (.refl s) (.int _)]
 .obtain⟨r,t,rfl,j,f⟩:=d.kN
  obtain⟨k,l,m,n⟩:=c;refine .inr #[_,_,_,rfl,e.ofInt,s _ _ j,k,l,by rw[f.length];exact m,λp g=>?_]
  exact q _ n _ _ _ (.new s g) (.lst au ((f.rep _).mono (aR (s.free g) _)))
 .exact c.elim
mutual
def D.py:D->Option PyData
 | .aY=>some .none
 | .bl b=>some (.bool b)
 | .int i=>some (.int i)
 | .str x=>some (.str x)
 | .lst l=>(iw l).map PyData.list
 | .tup l=>(iw l).map PyData.tuple
 | .qT _=>none
 | .rng _ _=>none
 | .obj _=>none
 | .fX _=>none
 | .set _ _=>none
 | .x _=>none
 | .err _ _ _=>none
def iw:List D->Option (List PyData)
 | []=>some []
 |d::ds=>(D.py d).bind λa=>(iw ds).map λas=>a::as
end
def Dv.dp{K:aj}{G:Hp}{v:V}{d:D}(h:Dv Z G v d):∀{e:PyData},d.py=some e->Dp K G v e:=by
 refine Dv.rec (motive_1:=λv d _=>∀{e:PyData},d.py=some e->Dp K G v e) (motive_2:=λn f _=>∀{g:List PyData},iw f=some g->jb K G n g) ?_ ?_ ?_ ?_ ?_ ?_ ?_ ?_ ?_ ?_ ?_ ?_ ?_ ?_ ?_ h
 .intro e h;rw[D.py] at h;cases h;exact .aY
 .intro b e h;rw[D.py] at h;cases h;exact .bl b
 .intro i e h;rw[D.py] at h;cases h;exact .int i
 .intro x k e h;rw[D.py] at h;cases h;exact .str x k
 .intro a o f q _ j e h
  rw[D.py] at h;cases c:iw f with
  |none=>rw[c] at h;cases h
  |some l=>rw[c] at h;cases h;exact .lst (cJ.of q) (j c)
 .intro a o f q _ j e h
  rw[D.py] at h;cases c:iw f with
  |none=>rw[c] at h;cases h
  |some l=>rw[c] at h;cases h;exact .tup (gT.of q) (j c)
 .intro a e h;simp[D.py] at h
 .intro a lo u _ e h;simp[D.py] at h
 .intro a r _ _ e h;simp[D.py] at h
 .intro p z R w _ _ _ _ _ _ e h;simp[D.py] at h
 .intro a b r _ e h;simp[D.py] at h
 .intro a A k _ _ e h;simp[D.py] at h
 .intro a C B E o f _ _ _ _ e h;simp[D.py] at h
 .intro g h;rw[iw] at h;cases h;exact .nil
 .intro v n d f _ _ s t g h
  rw[iw] at h;cases c:d.py with
  |none=>rw[c] at h;cases h
  |some x=>
   rw[c] at h;cases m:iw f with
   |none=>rw[m] at h;cases h
   |some y=>rw[m] at h;cases h;exact .cons (s c) (t m)
def gT.mono{K:aj}{H b:Hp}(s:aJ H b)(h:gT K H a c):gT K b a c:=by
 rcases h with (h| ⟨o,h⟩) |h
 .exact .inl (.inl (s _ _ h))
 .exact .inl (.inr #[o,s _ _ h])
 .exact .inr h
theorem Dp.mono{K:aj}{G H:Hp}(s:aJ G H){v:V}(h:Dp K G v d):Dp K H v d:=
 Dp.rec (motive_1:=λv d _=>Dp K H v d) (motive_2:=λc e _=>jb K H c e) .aY .bl .int .str (λh _ a=> .lst (h.mono s) a) (λh _ a=> .tup (h.mono s) a) .nil (λ_ _ a b=> .cons a b) h
def R8(c:Bool):gr:=λx y P=>∃a b,x.py=some a/\y.py=some b/\a.depth<=64/\P (.bl (if c then !PyData.eqv a b else PyData.eqv a b))
abbrev Kt:gr:=R8 false
abbrev wV:gr:=R8 true
def kM(e:X.A.units+64<cLine):OpR X (compareOp .Eq) (bN Z Kt):=by
 refine(QU e).imp ?_;intro x y H Q f;rfl';obtain⟨G,a,b,P,s,h,i,⟨c,d,j,k,l,m⟩,q⟩:=f;ac_rfl;exact#[c,d,(h.dp j).mono s,(i.dp k).mono s,l,q _ m _ G H (.refl s) (.bl _)]
def qM(e:X.A.units+64<cLine):OpR X (compareOp .NotEq) (bN Z wV):=by
 refine(QY e).imp ?_;intro x y H Q f;rfl';obtain⟨G,a,b,P,s,h,i,⟨c,d,j,k,l,m⟩,q⟩:=f;ac_rfl;exact#[c,d,(h.dp j).mono s,(i.dp k).mono s,l,q _ m _ G H (.refl s) (.bl _)]
def wU(h:P (.bl (decide (i=j)))):Kt (.int i) (.int j) P:=#[.int i, .int j,rfl,rfl,by simp[PyData.depth],by
 have:PyData.eqv (.int i) (.int j)=decide (i=j):=by
  rw[PyData.eqv]
  by_cases z:i=j<;>simp[z]
 simpa [this] using h]
def wW(h:P (.bl (!decide (i=j)))):wV (.int i) (.int j) P:=#[.int i, .int j,rfl,rfl,by simp[PyData.depth],by
 have:PyData.eqv (.int i) (.int j)=decide (i=j):=by
  rw[PyData.eqv]
  by_cases z:i=j<;>simp[z]
 simpa [this] using h]
def EZ(p:Int->Int->Bool):gr:=λx y P=>match x,y with
 | .int i, .int j=>P (.bl (p i j))
 |_,_=>False
def x9(h:OpR X f (Af λi j=> .bl (p i j))):OpR X f (bN Z (EZ p)):=by
 refine h.imp ?_;intro x y H Q d;rfl';obtain⟨G,a,b,P,s,g,k,c,q⟩:=d;ac_rfl;unfold EZ at c
 split at c
 .exact#[_,_,g.ofInt,k.ofInt,q _ c _ G H (.refl s) (.bl _)]
 .exact c.elim
end
end L2
namespace L2
open PySem PySem.Spec PyProof.Rows
section
variable {Z:DC} {X:Cx}
abbrev Zz:gr:=EZ λi j=>decide (i<j)
abbrev Zy:gr:=EZ λi j=>decide (i<=j)
abbrev Zx:gr:=EZ λi j=>decide (j<i)
def yh:OpR X (compareOp .Lt) (bN Z Zz):=x9 UP
def Ih:OpR X (compareOp .LtE) (bN Z Zy):=x9 UO
def UK:OpR X (compareOp .Gt) (bN Z Zx):=x9 UN
def CC:D->Bool
 | .aY=>true
 |_=>false
def Sa(a:Bool):gr:=λx y P=>match y with
 | .aY=>P (.bl (if a then !CC x else CC x))
 |_=>False
def AN(h:Dv Z G v d):decide (v= .aY)=CC d:=by cases h<;>rfl
def yg:OpR X (compareOp .Is) (bN Z (Sa false)):=by
 refine QV.imp ?_;rintro x y H Q ⟨G,a,b,P,s,d,e,c,q⟩;cases e<;>first|exact c.elim|skip
 exact#[rfl,by rw[AN d];exact q _ c _ G H (.refl s) (.bl _)]
def Li:OpR X (compareOp .IsNot) (bN Z (Sa true)):=by
 refine Of.imp ?_;rintro x y H Q ⟨G,a,b,P,s,d,e,c,q⟩;cases e<;>first|exact c.elim|skip
 exact#[rfl,by rw[AN d];exact q _ c _ G H (.refl s) (.bl _)]
def ft:D->Bool
 | .aY=>true
 | .bl _=>true
 | .int _=>true
 | .str _=>true
 |_=>false
def i4:D->D->Bool
 | .aY, .aY=>true
 | .bl a, .bl b=>a==b
 | .bl a, .int b=>(if a then 1 else 0)==b
 | .int a, .bl b=>a==(if b then 1 else 0)
 | .int a, .int b=>a==b
 | .str a, .str b=>a==b
 |_,_=>false
def inD(x:D)(l:List D):Bool:=l.any λy=>i4 y x
def rY(h:Dv Z G v d):hV v=ft d:=by cases h<;>rfl
def nH(h:DvAll Z G b c):b.all hV=c.all ft:=h.ind (p:=λb c=>b.all hV=c.all ft) rfl λa _ e=>by rw[aa8,aa8,rY a,e]
def B5(h:Dv Z G v d)(k:Dv Z G u e):xq v u=i4 d e:=by cases h<;>first|rfl| (cases k<;>rfl)
theorem HR(h:Dv Z G v d):∀{b:List V}{c:List D},DvAll Z G b c->Qu v b=inD d c
 |_,_, .nil=>rfl
 |_,_, .cons a e=>by
  unfold Qu inD;rw[abO,abO,B5 a h];exact KB _ (HR h e)
def PQ(a:Bool):gr:=λx y P=>match y with
 | .lst l=>ft x=true/\l.all ft=true/\P (.bl (if a then !inD x l else inD x l))
 | .tup l=>ft x=true/\l.all ft=true/\P (.bl (if a then !inD x l else inD x l))
 |_=>False
def ON:∀x y H Q,bN Z (PQ c) x y H Q->U5 X.K c x y H Q:=by
 rintro x y H Q ⟨G,a,b,P,s,d,l,f,q⟩;cases l<;>first|exact f.elim|skip
 .rename_i p g m h e
  obtain⟨i,j,k⟩:=f;refine#[p,g,rfl, .inl (cJ.of (s _ _ h)),by rw[rY d];exact i,by rw[nH e];exact j,?_]
  rw[HR d e];exact q _ k _ G H (.refl s) (.bl _)
 .rename_i p g m h e
  obtain⟨i,j,k⟩:=f;refine#[p,g,rfl, .inr (gT.of (s _ _ h)),by rw[rY d];exact i,by rw[nH e];exact j,?_]
  rw[HR d e];exact q _ k _ G H (.refl s) (.bl _)
def Dw:OpR X (compareOp .In) (bN Z (PQ false)):=Im.imp ON
def Lj:OpR X (compareOp .NotIn) (bN Z (PQ true)):=Ac.imp ON
def Ku:gr:=λx y P=>match x,y with
 | .lst l, .int i=>∃d,iJ l i=some d/\P d
 | .tup l, .int i=>∃d,iJ l i=some d/\P d
 | .qT l, .int i=>∃n,iJ l i=some n/\P (.int n)
 |_,_=>False
def Jp(h:DvAll Z G b a)(e:iJ a i=some d):∃v,iJ b i=some v/\Dv Z G v d:=by
 unfold iJ at e ⊢;rw[h.length];cases z:nP a.length i with
 |none=>rw[z] at e;cases e
 |some j=>rw[z] at e;exact h.get e
def Md(f:a->b)(l:List a)(i:Int):iJ (l.map f) i=(iJ l i).map f:=by
 unfold iJ;rw[aV];cases nP l.length i with
 |none=>rfl
 |some j=>show(l.map f)[j]? =_;rw[eQ];rfl
variable {a b c e:Expr} {ta tb tc te:bf} {pos:Pos}
def bV(p:DE Z X a ta)(r:DE Z X b tb)(t:X.K=Z.K:=by rfl)(u:wz b:=by exact λ_ _=>rfl):DE Z X (.Subscript a b pos) (kH Ku ta tb):=by
 refine(Oq (Fx.or Qv) p r u).imp λw H Q h=>?_;rfl';obtain⟨G,x,P,s,e,h,q⟩:=Dd w H Q h;ac_rfl;refine#[G,x,P,s,e,h,λd y v z A B dv=>?_];rfl';obtain⟨C,E,F,I,J,L,M⟩:=q d y v z A B dv;ac_rfl;refine#[C,E,F,I,J,L,λN k O R S T U=>?_];obtain⟨G,a,b,P,s,l,m,f,q⟩:=M N k O R S T U;unfold Ku at f
 split at f
 .obtain⟨d,i,j⟩:=f
  obtain⟨_,_,rfl,h,e⟩:=l.kN;obtain⟨v,n,dv⟩:=Jp e i;exact .inl #[_,_,_,v,rfl,m.ofInt,cJ.of (s _ _ h),n,q _ j _ G _ (.refl s) dv]
 .obtain⟨d,i,j⟩:=f
  obtain⟨_,_,rfl,h,e⟩:=l.uC;obtain⟨v,n,dv⟩:=Jp e i;exact .inr #[_,_,_,v,rfl,m.ofInt,gT.of (s _ _ h),n,q _ j _ G _ (.refl s) dv]
 rotate_left
 .exact f.elim
 .obtain⟨d,i,j⟩:=f
  rfl';obtain⟨_,rfl,h,_⟩:=l.N6;ac_rfl;refine .inl #[_,_,_, .int d,rfl,m.ofInt,by rw[t];exact h.mono s,by rw[Md,i];rfl,q _ j _ G _ (.refl s) (.int d)]
def cutD{f:Type}(d:List f)(lo g:Option Int):List f:=(d.drop (HT.bT d.length 0 lo)).take (HT.bT d.length d.length g-HT.bT d.length 0 lo)
def Ju(h:DvAll Z G d f)(lo g:Option Int):DvAll Z G (u0 d lo g) (cutD f lo g):=by
 unfold u0 cutD;rw[h.length];exact(h.drop _).take _
def Ks(f:d->h)(l:List d)(lo g:Option Int):cutD (l.map f) lo g=(cutD l lo g).map f:=by
 unfold cutD;rw[aV,uU,uV]
abbrev GU:=DN->(Option Int->Prop)->Prop
def Mr:GU:=λ_ P=>P none
def Tv(t:bf):GU:=λf P=>t f λd=>match d with
 | .int i=>P (some i)
 |_=>False
def UE(Z:DC)(t:GU):TO:=λg H Q=>∃(G:Hp)(d:DN)(P:Option Int->Prop),aJ G H/\dF Z G g d/\t d P/\∀o,P o->∀h f,Ext G H h f->Q o f
def DO(Z:DC)(X:Cx)(e:Option Expr)(t:GU):Prop:=PO X e (UE Z t)
def PO.imp{e:Option Expr}{t t':TO}(h:PO X e t)(f:∀g H Q,t' g H Q->t g H Q):PO X e t':=λd s g H Q I q=>h d s g H Q I (f _ _ _ q)
def iZ:DO Z X none Mr:=by
 refine OB.imp λg H Q d=>?_;rfl';obtain⟨G,i,P,s,e,p,q⟩:=d;ac_rfl;exact q _ p G H (.refl s)
def i3(h:DE Z X e te):DO Z X (some e) (Tv te):=by
 refine(OC h).imp ?_;intro n H Q g;rfl';obtain⟨G,j,P,s,e,h,q⟩:=g;ac_rfl;refine#[G,j,_,s,e,h,λd f v k l m dv=>?_];cases dv<;>first|exact f.elim|skip
 exact#[_,rfl,q _ f k l m]
def ZC(g:bf)(h i:GU):bf:=λf P=>g f λx=>h f λlo=>i f λd=>match x with
 | .lst l=>P (.lst (cutD l lo d))
 | .tup l=>¬(HT.bT l.length 0 lo=0/\HT.bT l.length l.length d=l.length)/\P (.tup (cutD l lo d))
 | .qT l=>P (.lst ((cutD l lo d).map D.int))
 |_=>False
variable {lo hi:Option Expr} {tl th:GU} {p2:Pos}
def gJ(r:DE Z X e te)(m:DO Z X lo tl)(g:DO Z X hi th)(t:X.K=Z.K:=by rfl):DE Z X (.Subscript e (.Slice lo hi none p2) pos) (ZC te tl th):=by
 refine(Lq (OT.or Rw) r m g).imp ?_;intro C H Q w;rfl';obtain⟨G,n,P,s,o,h,q⟩:=w;ac_rfl;refine#[G,n,_,s,o,h,λd z v A F j dv=>?_];refine#[A,n,_,j.sub,o.mono j.gg,z,λl m B I k=>?_];refine#[B,n,_,k.sub,(o.mono j.gg).mono k.gg,m,λu g J L f=>?_];have x:=(j.trans k).trans f;have dv:=(dv.mono k.gg).mono f.gg;cases dv<;>first|exact g.elim|skip
 .rename_i h e
  exact .inl #[_,_,rfl,cJ.of (f.sub _ _ h),λp i=>q _ g _ _ _ (x.trans (.new f.sub i)) (.lst au ((Ju e l u).mono (aR (f.sub.free i) _)))]
 .rename_i h e
  refine .inr #[_,_,rfl,gT.of (f.sub _ _ h),by rw[e.length];exact g.1,λp i=>q _ g.2 _ _ _ (x.trans (.new f.sub i)) (.tup au ((Ju e l u).mono (aR (f.sub.free i) _)))]
 .rename_i h _
  refine .inl #[_,_,rfl,by rw[t];exact h.mono f.sub,λp i=>q _ g _ _ _ (x.trans (.new f.sub i)) (.lst au ?_)]
  show DvAll Z _ (cutD _ l u) _;rw[Ks];exact .ints _
def jQ:dA:=λd P=>match d with
 | [.lst l]=>P (.int l.length)
 | [.tup l]=>P (.int l.length)
 | [.qT l]=>P (.int l.length)
 |_=>False
def bF(f:X.K=Z.K:=by rfl):CallR X (.builtin "len") (jX Z jQ):=by
 refine zt.imp ?_;rintro g H Q ⟨G,i,P,s,dv,d,q⟩;unfold jQ at d
 split at d
 .obtain⟨_,rfl,a⟩:=dv.ofOne
  obtain⟨_,_,rfl,h,e⟩:=a.kN;exact#[_,_,rfl, .inl (cJ.of (s _ _ h)),by rw[e.length];exact q _ d _ G H (.refl s) (.int _)]
 .obtain⟨_,rfl,a⟩:=dv.ofOne
  obtain⟨_,_,rfl,h,e⟩:=a.uC;exact#[_,_,rfl, .inr (gT.of (s _ _ h)),by rw[e.length];exact q _ d _ G H (.refl s) (.int _)]
 .obtain⟨_,rfl,a⟩:=dv.ofOne
  obtain⟨_,rfl,h,_⟩:=a.N6;exact#[_,_,rfl, .inl (by rw[f];exact h.mono s),by rw[aV];exact q _ d _ G H (.refl s) (.int _)]
 .exact d.elim
def Me:dA:=λd P=>match d with
 | [.lst l]=>P (.lst l)
 | [.tup l]=>P (.lst l)
 |_=>False
def rJ:CallR X (.type "list") (jX Z Me):=by
 refine zu.imp ?_;rintro g H Q ⟨G,i,P,s,dv,d,q⟩;unfold Me at d
 split at d
 .obtain⟨_,rfl,a⟩:=dv.ofOne
  obtain⟨_,_,rfl,h,e⟩:=a.kN;exact#[_,_,rfl, .inl (cJ.of (s _ _ h)),λp f=>q _ d _ _ _ (.new s f) (.lst au (e.mono (aR (s.free f) _)))]
 .obtain⟨_,rfl,a⟩:=dv.ofOne
  obtain⟨_,_,rfl,h,e⟩:=a.uC;exact#[_,_,rfl, .inr (gT.of (s _ _ h)),λp f=>q _ d _ _ _ (.new s f) (.lst au (e.mono (aR (s.free f) _)))]
 .exact d.elim
def Xv:String->D->Bool
 |"int", .int _=>true
 |"int", .bl _=>true
 |"bool", .bl _=>true
 |"list", .lst _=>true
 |"tuple", .tup _=>true
 |_,_=>false
def UL(n:String):Bool:=n=="int"||n=="bool"||n=="list"||n=="tuple"
def SG:D->Bool
 | .aY=>true
 | .bl _=>true
 | .int _=>true
 | .str _=>true
 | .lst _=>true
 | .tup _=>true
 |_=>false
def V0(n:String)(t:bf):bf:=λf P=>t f λd=>SG d=true/\P (.bl (Xv n d))
def QC{K:aj}{H:Hp}{v:V}{d:D}{n:String}(hn:UL n=true)(hd:SG d=true)(h:Dv Z H v d):∃t,kg K H v t/\ac K t (.type n)=some (Xv n d):=by
 unfold UL at hn;rw[Bool.or_eq_true,Bool.or_eq_true,Bool.or_eq_true,beq_iff_eq,beq_iff_eq,beq_iff_eq,beq_iff_eq] at hn;cases h with
 |aY=>exists _, .aY;rcases hn with ((rfl|rfl) |rfl) |rfl<;>kernel_rfl
 |bl b=>exists _, .bl b;rcases hn with ((rfl|rfl) |rfl) |rfl<;>kernel_rfl
 |int b=>exists _, .int b;rcases hn with ((rfl|rfl) |rfl) |rfl<;>kernel_rfl
 |str b=>exists _, .str b;rcases hn with ((rfl|rfl) |rfl) |rfl<;>kernel_rfl
 |lst h a=>exists _, .lst h;rcases hn with ((rfl|rfl) |rfl) |rfl<;>kernel_rfl
 |tup h a=>exists _, .tup h;rcases hn with ((rfl|rfl) |rfl) |rfl<;>kernel_rfl
 |_=>cases hd
end
section
variable {Z:DC} {X:Cx} {a b c e:Expr} {ta tb tc te:bf} {pos:Pos}
def v5(n:String)(l:DE Z X a ta)(m:Gl X "isinstance")(o:X.mg "isinstance"=none)(g:Gl X x)(r:X.mg x=none)(u:bootBuiltins x=some (.type n))(ok:UL n=true:=by decide)
  (w:x≠"__name__":=by decide) (y:(x==("__debug__":Str))=false:=by decide) (i:starEach [a, .Name x f] X.env=(false,eval a X.env)::starEach [.Name x f] X.env:=by rfl)
  (z:(backTo pos (starEach [.Name x f] X.env)).any (·.1)=false:=by rfl) (A:starEach [.Name x f] X.env=(false,eval (.Name x f) X.env)::starEach [] X.env:=by rfl):
  DE Z X (.Call (.Name "isinstance" p) [a, .Name x f] [] pos) (V0 n ta):=by
 have B:PE X (.Name x f) (tC (.ty n)):=FR g r u rfl w y;refine(uK BH m o (by decide+kernel) (bS l (bS B fU A) i) (by decide) (by decide) i z).imp ?_
 intro O H Q C;rfl';obtain⟨G,F,P,s,e,h,q⟩:=C;ac_rfl;exists G,F,_,s,e,h;rintro d ⟨I,J⟩ v L j k dv;obtain⟨t,M,N⟩:=QC (K:=X.K) (H:=j) ok I (dv.mono k.sub);exact#[v,n,t,_,rfl,M,N,q _ J _ L j k (.bl _)]
def qJ(Z:DC)(g:eJ):TG:=λv j H Q=>∃(G:Hp)(f:DN)(d:D)(P:DN->Prop),aJ G H/\dF Z G j f/\Dv Z G v d/\g d f P/\∀h,P h->∀i,dF Z G i h->Q i H
def DG(Z:DC)(X:Cx)(e:Expr)(g:eJ):Prop:=PG X e (qJ Z g)
def PG.imp{e:Expr}{t i:TG}(h:PG X e t)(f:∀v g H Q,i v g H Q->t v g H Q):PG X e i:=λd s g H v u Q I r q=>h d s g H v u Q I r (f _ _ _ _ q)
def rS(i:Nat):eJ:=λd f P=>P (f.set i (some d))
def bX(i:Nat)(f:X.N.Nodup)(g:X.N[i]? =some x:=by rfl)(j:Loc X.env.scope x:=by exact Or.inl rfl)(k:X.fn x=true\/X.env.scope.names.lookup x=some .local:=by subst_eqs):DG Z X (.Name x l) (rS i):=by
 refine(FX f g j k).imp λv o H Q m=>?_;rfl';obtain⟨G,r,d,P,s,e,dv,h,q⟩:=m;ac_rfl;exact q _ h _ (e.set dv)
abbrev mI:=List D->DN->(DN->Prop)->Prop
def QG(Z:DC)(g:mI):zj:=λj k H Q=>∃(G:Hp)(d:DN)(f:List D)(P:DN->Prop),aJ G H/\dF Z G k d/\DvAll Z G j f/\g f d P/\∀h,P h->∀i,dF Z G i h->Q i H
def Pr(Z:DC)(X:Cx)(d:List Expr)(g:mI):Prop:=Bw X d (QG Z g)
def Bw.imp{i:List Expr}{t j:zj}(h:Bw X i t)(f:∀v g H Q,j v g H Q->t v g H Q):Bw X i j:=λd s g H v u Q I r q=>h d s g H v u Q I r (f _ _ _ _ q)
def MA:mI:=λd f P=>d= []/\P f
def Jz(g:eJ)(f:mI):mI:=λh i P=>match h with
 |d::r=>g d i λj=>f r j P
 | []=>False
def w4:Pr Z X [] MA:=by
 refine FY.imp λv g H Q d=>?_;rfl';obtain⟨G,j,k,P,s,e,dv,⟨h,p⟩,q⟩:=d;subst h;cases dv;ac_rfl;exact#[rfl,q _ p _ e]
def jC(i:DG Z X e g)(j:Pr Z X d f)(k:(assignEach (e::d) X.env).map (·.2)=assign e X.env::(assignEach d X.env).map (·.2):=by rfl):Pr Z X (e::d) (Jz g f):=by
 refine(A4 i j k).imp ?_;intro v u H Q l;rfl';obtain⟨G,n,x,P,s,e,dv,h,q⟩:=l;ac_rfl;cases dv with
 |nil=>exact h.elim
 |cons a o=>
  refine#[_,_,rfl,G,n,_,_,s,e,a,h,λp r y t=>?_];exact#[G,p,_,P,s,t,o,r,q]
def MB(n:Nat)(f:mI):eJ:=λd g P=>match d with
 | .tup l=>l.length=n/\f l g P
 |_=>False
def BZ(n:Nat)(i:X.calm=true)(h:Pr Z X f g)(j:(assignEach f X.env).length=n:=by rfl)(l:(assignEach f X.env).findIdx? (·.1)=none:=by rfl):DG Z X (.Tuple f k pos) (MB n g):=by
 refine(JY i h j l).imp ?_;rintro v r H Q ⟨G,m,d,P,s,e,dv,h,q⟩;cases dv<;>first|exact h.elim|skip
 rename_i a o t p f
 exact#[a,o,rfl,gT.of (s _ _ p),by rw[f.length];exact h.1,G,m,_,P,s,e,f,h.2,q]
def wx(Z:DC)(G:Hp)(J:It)(g:List D):Prop:=∀h f,aJ G h->aJ h f->∀i:Nat,(i<g.length->J.go i f)/\(g.length<=i->J.stop i f)/\
 ∀x j,i<g.length->J.yld i f x j->∃k d,Ext h f k j/\g[i]? =some d/\Dv Z k x d
def uy(Z:DC)(i:ja):TI:=λj H R=>∃(G:Hp)(d:DN)(P:List D->Prop),aJ G H/\dF Z G j d/\i d P/\∀f,P f->∀J g h,Ext G H g h->wx Z g J f->R J h
def DI(Z:DC)(X:Cx)(d e:Expr)(f:ja):Prop:=PI X d e (uy Z f)
def PI.imp{i e:Expr}{t t':TI}(h:PI X i e t)(f:∀g H Q,t' g H Q->t g H Q):PI X i e t':=λd s g H Q I q=>h d s g H Q I (f _ _ _ q)
def TH(t:bf):ja:=λf P=>t f λd=>match d with
 | .lst l=>P l
 |_=>False
def NI{K:aj}{a:Addr}(h:G a=some (.lst f))(e:DvAll Z G f j):wx Z G (S0 K a) j:=by
 intro o r k m i;have g:=cJ.of (K:=K) (m _ _ (k _ _ h));have l:=e.length;refine#[λn=>#[f,f[i],g,dD (by lia)],λn=>#[f,g,by lia],?_]
 rintro x s n ⟨rfl,p⟩;obtain⟨d,q,dv⟩:=e.M4 (p _ g);exact#[o,d, .refl m,q,dv.mono k]
def bK(h:DE Z X e te):DI Z X j e (TH te):=by
 refine(Oz h).imp ?_;intro r H Q k;rfl';obtain⟨G,m,P,s,n,h,q⟩:=k;ac_rfl;refine#[G,m,_,s,n,h,λd f v o p g dv=>?_];cases dv<;>first|exact f.elim|skip
 rename_i i e
 exact#[_,rfl,#[_,cJ.of (g.sub _ _ i)],q _ f _ o p g (NI i e)]
def dN(lo:Int)(n:Nat):List D:=(aB n).map λ(k:Nat)=>D.int (lo+(k:Int))
def vi{lo:Int}{n i:Nat}(h:i<n):(dN lo n)[i]? =some (.int (lo+i)):=by
 unfold dN;rw[eQ,GP h];rfl
def uq(lo:Int)(n:Nat):wx Z G (L5 lo n) (dN lo n):=by
 intro f h j g i;have l:(dN lo n).length=n:=by unfold dN;simp
 rw[l];refine#[λd=>d,λd=>d,?_];rintro x k d ⟨rfl,rfl⟩;exact#[f,_, .refl g,vi d, .int _]
def Sf(t:gS):ja:=λd P=>t d λf=>match f with
 | [.int j]=>(-(2^62)<=j/\j<2^62)/\P (dN 0 j.toNat)
 |_=>False
def Wh(t:gS):ja:=λd P=>t d λf=>match f with
 | [.int i, .int j]=>(-(2^62)<=i/\i<2^62/\-(2^62)<=j/\j<2^62)/\P (dN i (j-i).toNat)
 |_=>False
variable {t:gS}
def w6(g:Gl X "range")(i:X.mg "range"=none)(j:DA Z X [a] t)(k:starEach [a] X.env= [(false,eval a X.env)]:=by rfl):DI Z X f (.Call (.Name "range" p) [a] [] pos) (Sf t):=by
 refine(yz g i j k).imp ?_;intro w H Q l;rfl';obtain⟨G,n,P,s,o,h,q⟩:=l;ac_rfl;refine#[G,n,_,s,o,h,λy d z r u v dv=>?_]
 split at d
 .obtain⟨_,rfl,a⟩:=dv.ofOne
  exact#[_,by rw[a.ofInt],d.1.1,d.1.2,q _ d.2 _ r u v (uq 0 _)]
 .exact d.elim
def hU(l:List D):List D:=l.mapIdx λi x=> .tup [.int (i:Int),x]
def P2(t:gS):ja:=λd P=>t d λf=>match f with
 | [.lst l]=>P (hU l)
 |_=>False
def NH{K:aj}{a:Addr}(h:G a=some (.lst f))(e:DvAll Z G f g):wx Z G (SY K a) (hU g):=by
 intro r s m j i;have k:=cJ.of (K:=K) (j _ _ (m _ _ h));have l:=e.length;rw[show(hU g).length=g.length by unfold hU;simp]
 refine#[λn=>#[f,f[i],k,dD (by lia)],λn=>#[f,k,by lia],?_]
 rintro x u n ⟨t,y,rfl,o,rfl,p⟩;obtain⟨d,q,dv⟩:=e.M4 (p _ k);refine#[_,_, .new j o,by unfold hU;rw[List.getElem?_mapIdx,q];rfl,?_]
 exact .tup au (.cons (.int _) (.cons ((dv.mono m).mono (aR (j.free o) _)) .nil))
def eB{k1}(j:Gl X "enumerate")(k:X.mg "enumerate"=none)(l:DA Z X [a] t)(m:starEach [a] X.env= [(false,eval a X.env)]:=by rfl):DI Z X (.Tuple g k1 i) (.Call (.Name "enumerate" p) [a] [] pos) (P2 t):=by
 refine(Oy j k l m).imp ?_;intro x H Q n;rfl';obtain⟨G,r,P,s,u,h,q⟩:=n;ac_rfl;refine#[G,r,_,s,u,h,λz d A v w f dv=>?_]
 split at d
 .obtain⟨_,rfl,a⟩:=dv.ofOne
  obtain⟨_,_,rfl,h,e⟩:=a.kN;exact#[_,rfl,#[_,f.sub _ _ h],q _ d _ v w f (NH h e)]
 .exact d.elim
def yH(src:List (Option Nat))(d:DN):DN:=src.map λo=>o.bind λi=>(d[i]?).bind id
theorem dF.src{ρ:DN}(e:dF Z G g ρ)(src:List (Option Nat)):dF Z G (mS src g) (yH src ρ):=by
 refine#[by unfold mS yH;simp,λi d h=>?_]
 unfold yH at h;unfold mS;rw[eQ] at h ⊢;cases k:src[i]? with
 |none=>rw[k] at h;cases h
 |some o=>
  rw[k] at h;cases o with
  |none=>cases h
  |some j=>
   have f:(ρ[j]?).bind id=some d:=FB h;cases m:ρ[j]? with
   |none=>rw[m] at f;cases f
   |some z=>
    rw[m] at f;rfl';have n:z=some d:=f;subst n;obtain⟨v,p,dv⟩:=e.at_ j d m;ac_rfl;exact#[v,by show some ((g[j]?).bind id)=_;rw[p];rfl,dv]
def lcW(g:eJ)(i:eu)(j:bf):List D->DN->List D->(DN->List D->Prop)->Prop
 | [],k,f,N=>N k f
 |x::l,k,f,N=>g x k λh=>i h λb=>if b=true then j h λd=>f.length<sizeLine/\lcW g i j l h (f++ [d]) N else lcW g i j l h f N
def Tr(f:ja)(g:eJ)(h:eu)(i:bf)(src:List (Option Nat)):bf:=λd P=>f d λj=>lcW g h i j (yH src d) [] λ_ out=>P (.lst out)
def qe(g:eJ)(h:eu)(i:ja)(j:eJ)(k:eu)(l:bf):List D->DN->List D->(List D->Prop)->Prop
 | [],_,d,P=>P d
 |x::m,n,d,P=>g x n λf=>h f λb=>if b=true then i f λo=>lcW j k l o f d λp q=>qe g h i j k l m p q P else qe g h i j k l m f d P
def Sb(f:ja)(g:eJ)(h:eu)(i:ja)(j:eJ)(k:eu)(l:bf)(src:List (Option Nat)):bf:=λd P=>f d λm=>qe g h i j k l m (yH src d) [] λout=>P (.lst out)
def wX:eu:=λ_ P=>P true
def Ex(Z:DC)(X:Cx)(d:List Expr)(t:eu):Prop:=m9 X d (liftT Z t)
def m9.imp{d:List Expr}{t j:TT}(h:m9 X d t)(f:∀i H Q,j i H Q->t i H Q):m9 X d j:=λg s i H Q I q=>h g s i H Q I (f _ _ _ q)
def e8:Ex Z X [] wX:=by
 refine F2.imp λg H Q d=>?_;rfl';obtain⟨G,i,P,s,e,p,q⟩:=d;ac_rfl;exact q _ p G H (.refl s)
def xh(h:DT Z X c d):Ex Z X [c] d:=OH h
def CS(Z:DC)(f g:Hp)(h:Addr)(j:DN)(d:List D)(k:St)(H:Hp):Prop:=
 ∃(G:Hp)(i:List V),aJ f G/\aJ G H/\aJ g H/\(∀b,g b≠none->f b=none->G b=none)/\G h=none/\H h=some (.lst i)/\DvAll Z G i d/\dF Z G k j
def gm(s:aJ H d){b:Addr}(h:H b≠none):d b≠none:=λz=>by
 cases e:H b with
 |none=>exact h e
 |some o=>rw[s b o e] at z;cases z
def nv{d:Type}{l:List d}{i:Nat}{x:d}(h:l[i]? =some x):l.drop i=x::l.drop (i+1):=by
 obtain⟨f,e⟩:=cX.mp h;rw[tT f,e]
theorem AS(hA:n f=none)(B:Hp)(it:wx Z B J p)(i:Nat)(M:DN)(k:List D)(X:St)(H:Hp)
  (c:CS Z m n f M k X H) (hG:∀G,aJ m G->aJ B G) (hi:i<p.length) (h:lcW g w A (p.drop i) M k N):
  J.go i H/\∀x C,J.yld i H x C->qJ Z g x X C λq H4=>liftT Z w q H4 λb O=>
   if b=true then eD Z A q O λv P=>∃l,P f=some (.lst l)/\l.length<sizeLine/\(∃r s,CS Z m n f r s q (upd P f (.lst (l++ [v])))/\lcW g w A (p.drop (i+1)) r s N)
   else ∃r s,CS Z m n f r s q O/\lcW g w A (p.drop (i+1)) r s N:=by
 rfl';obtain⟨R,l,S,s2,T,off,gA,U,Y,en⟩:=c;obtain⟨go,_,yld⟩:=it R H (hG _ S) s2 i;ac_rfl;refine#[go hi,λx C y=>?_];rfl';obtain⟨G3,d,E,hd,dv⟩:=yld x C hi y;rw[nv hd] at h;ac_rfl;refine#[G3,M,d,_,E.sub,en.mono E.gg,dv,h,λF I q L=>?_];refine#[G3,F,_,E.sub,L,I,λb hb G5 O u=>?_];have j:=E.trans u;have a:∀{G t:Hp},Ext R H G t->G f=none:=λx=>x.off f (by rw[U];exact λz=>nomatch z) gA
 have FK:∀{G t:Hp},Ext R H G t->∀b,n b≠none->m b=none->G b=none:=λx b I h2=>x.off b (gm T I) (off b I h2);cases b with
 |false=>
  refine aZ #[F,k,#[G5,l,S.trans j.gg,j.sub,T.trans j.hh,FK j,a j,j.hh _ _ U,Y.mono j.gg,L.mono u.gg],?_];simpa using hb
 |true=>
  refine cG #[G5,F,_,u.sub,L.mono u.gg,(by simpa using hb),λd' hZ v G6 P x6 ZJ=>?_]
  have x:=j.trans x6;refine#[l,x.hh _ _ U,by rw[Y.length];exact hZ.1,F,_,#[G6,l++ [v],S.trans x.gg,λb o e=>?_,λb o e=>?_,FK x,a x,au,(Y.mono x.gg).snoc ZJ,(L.mono u.gg).mono x6.gg],hZ.2]
  .rw[aw (aC e (a x))];exact x.sub _ _ e
  .rw[aw (aC e hA)];exact(T.trans x.hh) _ _ e
def CS.done(c:CS Z i h d p f q j)(g:Ext G H i h)(r:h d=none):∃k,Ext G H k j/\Dv Z k (.ref d) (.lst f):=by
 rfl';obtain⟨u,v,w,x,y,off,l,A,B,F⟩:=c;ac_rfl;refine#[upd u d (.lst v),#[(g.gg.trans w).trans (aR l _),λb o e=>?_,g.hh.trans y,λb m C=>?_], .lst au (B.mono (aR l _))]
 .by_cases z:b=d
  .subst z;rw[au] at e;cases e;exact A
  .rw[aw z] at e;exact x _ _ e
 .have n:=gm g.hh m
  rw[aw (λz=>n (by rw[z];exact r))]
  exact off b n (g.off b m C)
def CS.begin(s:aJ d f)(i:f g=none)(l:dF Z d k j):CS Z d f g j [] k (upd f g (.lst [])):=
 #[d,[], .refl _,λb o e=>by rw[aw (aC e (s.free i))];exact s _ _ e,aR i _,λ_ _ h=>h,s.free i,au, .nil,l]
variable {tg iter elt:Expr} {ifs:List Expr} {scope:Scope} {NC:List Str} {src:List (Option Nat)} {wi:ja} {g:eJ} {tt:eu}
def JO:∀p H Q,eD Z (Tr wi g tt te src) p H Q->O7 (uy Z wi) (qJ Z g) (liftT Z tt) (eD Z te) src p H Q:=by
 intro p H Q E;rfl';obtain⟨G,F,P,s,z,h,q⟩:=E;ac_rfl;refine#[G,F,_,s,z,h,λf I J A L r B M u=>?_];refine#[λi m v k=>m=f.length-i/\i<=f.length/\∃o d,CS Z A L M o d v k/\lcW g tt te (f.drop i) o d λ_ out=>P (.lst out),#[_,rfl,cZ _,_,[], .begin r.sub u ((z.mono r.gg).src src),I],?_];intro i m v k N;rfl';obtain⟨rfl,Y,o,d,c,w⟩:=N;ac_rfl
 by_cases C:i<f.length
 .obtain⟨O,l⟩:=AS u A B i o d v k c (λ_ s=>s) C w
  exact .inr #[O,_,λa b n=>#[f.length-(i+1),by lia,rfl,C,n],l]
 .have e:f.drop i= []:=Bl (by lia)
  rfl';rw[e] at w;obtain⟨R,x,dv⟩:=c.done r u;obtain⟨S,t,T,U,_⟩:=c;ac_rfl;exact .inl #[(B S k T U i).2.1 (by lia),q _ w _ R k x dv]
def qy(f:X.calm=true)(c:cC X scope)(h:dB scope X.N src NC)(i:DI Z X tg iter wi)
  (j:∀d s H,DG Z (c5 X scope NC d s H) tg g) (k:∀d s H,Ex Z (c5 X scope NC d s H) ifs tt) (l:∀d s H,DE Z (c5 X scope NC d s H) elt te)
  (m:∀x,foldedSetIterable iter X.env x=pure x:=by intro _;rfl):DE Z X (.ListComp elt [#[tg,iter,ifs,0]] scope pos) (Tr wi g tt te src):=(Ot f c h i j k l m).imp JO
variable {t0 i0 t1 i1:Expr} {f0 f1:List Expr} {gH:ja} {g1:eJ} {fj:eu}
def NR:∀σ H Q,eD Z (Sb wi g tt gH g1 fj te src) σ H Q->SN (uy Z wi) (qJ Z g) (liftT Z tt) (uy Z gH) (qJ Z g1) (liftT Z fj) (eD Z te) src σ H Q:=by
 intro σ H Q aL;rfl';obtain⟨G,ρ,P,s,en,h,q⟩:=aL;ac_rfl;refine#[G,ρ,_,s,en,h,λp hd J F u x1 it l hA=>?_];refine#[λi m fw I=>m=p.length-i/\i<=p.length/\∃w j,CS Z F u l w j fw I/\qe g tt gH g1 fj te (p.drop i) w j λout=>P (.lst out),#[_,rfl,cZ _,_,[], .begin x1.sub hA ((en.mono x1.gg).src src),hd],?_];intro i m fw I iT;rfl';obtain⟨rfl,hi,w,j,c,hl⟩:=iT;ac_rfl
 by_cases bZ:i<p.length
 .have c0:=c
  rfl';obtain⟨S,r,T,s2,s3,off,gA,qE,br,TM⟩:=c;obtain⟨go,_,yld⟩:=it S I T s2 i;ac_rfl;refine .inr #[go bZ,λU L=>∃Y a,CS Z F u l Y a U L/\qe g tt gH g1 fj te (p.drop (i+1)) Y a λout=>P (.lst out),λU L n=>#[p.length-(i+1),by lia,rfl,bZ,n],λx H3 y=>?_]
  rfl';obtain⟨G3,d,x3,Cj,dv⟩:=yld x H3 bZ y;rw[nv Cj] at hl;ac_rfl;refine#[G3,w,d,_,x3.sub,TM.mono x3.gg,dv,hl,λt M fN vK=>?_];refine#[G3,t,_,x3.sub,vK,M,λb X G5 H5 x5=>?_];have A:=x3.trans x5;have A0:∀{G N:Hp},Ext S I G N->G l=none:=λx=>x.off l (by rw[qE];exact λz=>nomatch z) gA
  have FK:∀{G N:Hp},Ext S I G N->∀b,u b≠none->F b=none->G b=none:=λx b M h2=>x.off b (gm s3 M) (off b M h2);cases b with
  |false=>exact aZ #[t,j,#[G5,r,T.trans A.gg,A.sub,s3.trans A.hh,FK A,A0 A,A.hh _ _ qE,br.mono A.gg,vK.mono x5.gg],by simpa using X]
  |true=>
   refine cG #[G5,t,_,x5.sub,vK.mono x5.gg,(by simpa using X),λO hes J1 G6 H6 x6 NG=>?_]
   have x:=A.trans x6;have c6:CS Z G6 H6 l t j fN H6->True:=λ_=>trivial
   refine#[λk m tZ B=>m=O.length-k/\k<=O.length/\∃(Pq:DN)(EG:List D),(∃(G:Hp)(r:List V),aJ G6 G/\aJ G B/\aJ u B/\(∀b,u b≠none->F b=none->G b=none)/\G l=none/\B l=some (.lst r)/\DvAll Z G r EG/\dF Z G tZ Pq)/\
    lcW g1 fj te (O.drop k) Pq EG λw wA=>qe g tt gH g1 fj te (p.drop (i+1)) w wA λout=>P (.lst out),
    #[_,rfl,cZ _,t,j,#[G6,r, .refl _,x.sub,s3.trans x.hh,FK x,A0 x,x.hh _ _ qE,br.mono x.gg,(vK.mono x5.gg).mono x6.gg],hes],?_]
   intro k m tZ B iT;rfl';obtain⟨rfl,hk,Pq,EG,⟨G7,RT,a1,a2,a3,a4,a5,a6,a7,a8⟩,Qo⟩:=iT;ac_rfl;have Z0:aJ F G6:=T.trans x.gg
   by_cases Np:k<O.length
   .obtain⟨Z3,_,YR⟩:=NG G7 B a1 a2 k
    refine .inr #[Z3 Np,λU L=>∃(Y:DN)(a:List D),(∃(G:Hp)(r:List V),aJ G6 G/\aJ G L/\aJ u L/\(∀b,u b≠none->F b=none->G b=none)/\G l=none/\L l=some (.lst r)/\DvAll Z G r a/\dF Z G U Y)/\
     lcW g1 fj te (O.drop (k+1)) Y a λw wA=>qe g tt gH g1 fj te (p.drop (i+1)) w wA λout=>P (.lst out),λU L n=>#[O.length-(k+1),by lia,rfl,Np,n],λy H8 hy=>?_]
    rfl';obtain⟨G8,d8,x8,hd8,ZK⟩:=YR y H8 Np hy;rw[nv hd8] at Qo;ac_rfl;refine#[G8,Pq,d8,_,x8.sub,a8.mono x8.gg,ZK,Qo,λRX h9 σ9 Qa=>?_];refine#[G8,RX,_,x8.sub,Qa,h9,λb X VC Pw Pn=>?_];have C:=x8.trans Pn;have oA:∀{G N:Hp},Ext G7 B G N->G l=none:=λx=>x.off l (by rw[a6];exact λz=>nomatch z) a5
    have oB:∀{G N:Hp},Ext G7 B G N->∀b,u b≠none->F b=none->G b=none:=λx b M h2=>x.off b (gm a3 M) (a4 b M h2);cases b with
    |false=>exact aZ #[RX,EG,#[VC,RT,a1.trans C.gg,C.sub,a3.trans C.hh,oB C,oA C,C.hh _ _ a6,a7.mono C.gg,Qa.mono Pn.gg],by simpa using X]
    |true=>
     refine cG #[VC,RX,_,Pn.sub,Qa.mono Pn.gg,(by simpa using X),λd' hZ v Y3 SV YN Wl=>?_]
     have E:=C.trans YN;refine#[RT,E.hh _ _ a6,by rw[a7.length];exact hZ.1,RX,_,#[Y3,RT++ [v],a1.trans E.gg,λb o e=>?_,λb o e=>?_,oB E,oA E,au,(a7.mono E.gg).snoc Wl,(Qa.mono Pn.gg).mono YN.gg],hZ.2]
     .rw[aw (aC e (oA E))];exact E.sub _ _ e
     .rw[aw (aC e hA)];exact(a3.trans E.hh) _ _ e
   .have e:O.drop k= []:=Bl (by lia)
    rw[e] at Qo;exact .inl #[(NG G7 B a1 a2 k).2.1 (by lia),Pq,EG,#[G7,RT,Z0.trans a1,a2,a3,a4,a5,a6,a7,a8],Qo]
 .have e:p.drop i= []:=Bl (by lia)
  rfl';rw[e] at hl;obtain⟨G',x,dv⟩:=c.done x1 hA;obtain⟨S,r,T,s2,_⟩:=c;ac_rfl;exact .inl #[(it S I T s2 i).2.1 (by lia),q _ hl _ G' I x dv]
def PZ(f:X.calm=true)(c:cC X scope)(h:dB scope X.N src NC)(i:DI Z X t0 i0 wi)
  (j:∀d s H,DG Z (c5 X scope NC d s H) t0 g) (k:∀d s H,Ex Z (c5 X scope NC d s H) f0 tt) (l:∀d s H,DI Z (c5 X scope NC d s H) t1 i1 gH) (m:∀d s H,DG Z (c5 X scope NC d s H) t1 g1)
  (n:∀d s H,Ex Z (c5 X scope NC d s H) f1 fj) (o:∀d s H,DE Z (c5 X scope NC d s H) elt te)
  (p:∀x,foldedSetIterable i0 X.env x=pure x:=by intro _;rfl) (q:∀env x,foldedSetIterable i1 env x=pure x:=by intro _ _;rfl):
  DE Z X (.ListComp elt [#[t0,i0,f0,0],#[t1,i1,f1,0]] scope pos) (Sb wi g tt gH g1 fj te src):=(Q7 f c h i j k l m n o p q).imp NR
end
inductive dG (R:V->D->List Addr->Prop):List V->List D->List Addr->Prop
 |nil:dG R [] [] []
 |cons {v:V} {vs:List V} {d:D} {ds:List D} {f fs:List Addr}:R v d f->dG R vs ds fs->dG R (v::vs) (d::ds) (f++fs)
def Xw:D->Bool
 | .lst _=>true
 |_=>false
def Own(Z:DC)(G H:Hp):Nat->V->D->List Addr->Prop
 |0,v,d,c=>Dv Z G v d/\c= []
 |n+1,v,d,c=>(∃a e g i,v= .ref a/\d= .lst g/\H a=some (.lst e)/\c=a::i/\dG (Own Z G H n) e g i)\/(1<=n/\∃a e g,v= .ref a/\d= .tup g/\G a=some (.tup e)/\dG (λv d f=>(Xw d=true/\Own Z G H n v d f)\/(Xw d=false/\Dv Z G v d/\f= [])) e g c)\/(∃a h,v= .ref a/\H a=some (.ext h)/\c= [a]/\((n=98/\∃b j,d= .set b j/\h=R3 b a j)\/(n=97/\∃k,d= .x k/\Kl G a h k)))
theorem Own.lst{Z:DC}{G H:Hp}{n:Nat}{v:V}{c:List D}{f:List Addr}(o:Own Z G H (n+1) v (.lst c) f):∃a d g h,v= .ref a/\D.lst c= .lst g/\H a=some (.lst d)/\f=a::h/\dG (Own Z G H n) d g h:=by
 rcases o with o| ⟨_,a,d,c,_,e,_⟩ | ⟨a,i,_,_,_,⟨_,b,j,e,_⟩ | ⟨_,k,e,_⟩⟩
 .exact o
 .cases e
 .cases e
 .cases e
def Own.xA(o:Own Z G H 98 v (.x k) d):∃a c,v= .ref a/\H a=some (.ext c)/\d= [a]/\Kl G a c k:=by
 rcases o with ⟨_,_,_,_,_,e,_⟩ | ⟨_,a,j,l,_,e,_⟩ | ⟨a,c,f,g,h,⟨_,b,m,e,n⟩ | ⟨_,k,e,i⟩⟩
 .cases e
 .cases e
 .cases e
 .cases e;exact#[a,c,f,g,h,i]
def Own.one{Z:DC}{G H:Hp}{d:D}(o:Own Z G H 1 v d b):∃a c e f,v= .ref a/\d= .lst e/\H a=some (.lst c)/\b=a::f/\dG (Own Z G H 0) c e f:=by
 rcases o with o| ⟨z,_⟩ | ⟨_,_,_,_,_,⟨z,_⟩ | ⟨z,_⟩⟩
 .exact o
 .exact absurd z (by decide)
 .exact absurd z (by decide)
 .exact absurd z (by decide)
def dG.imp{i:List V}(o:dG R i j c)(h:∀v d f,(∀b∈f,b∈c)->R v d f->g v d f):dG g i j c:=by
 induction o with
 |nil=>exact .nil
 |cons a _ k=>exact .cons (h _ _ _ (λb e=>i8 _ e) a) (k λv d f l r=>h v d f (λb e=>i9 _ (l b e)) r)
theorem dG.length{a:List V}(o:dG R a b c):a.length=b.length:=by
 induction o with
 |nil=>rfl
 |cons _ _ d=>exact KB (·+1) d
section
variable {Z:DC} {G G' H H':Hp}
def Own.keep:∀{v:V}{d:D}{g:List Addr},Own Z G H n v d g->aJ G G'->(∀b∈g,H' b=H b)->Own Z G' H' n v d g:=by
 induction n with
 |zero=>exact λh s _=>#[h.1.mono s,h.2]
 |succ n u=>
  intro v d g h s k
  rcases h with ⟨a,j,l,w,c,m,e,i,o⟩ | ⟨p,a,j,l,c,m,e,o⟩ | ⟨a,x,c,e,i,y⟩
  .subst i
   exact .inl #[a,j,l,w,c,m,by rw[k a (dE ..)];exact e,rfl,o.imp λv d f t r=>u r s λb q=>k b (eM _ (t b q))]
  .exact .inr (.inl #[p,a,j,l,c,m,s _ _ e,o.imp λv d f t r=>r.imp (λr=>#[r.1,u r.2 s λb q=>k b (t b q)]) λr=>#[r.1,r.2.1.mono s,r.2.2]])
  .exact .inr (.inr #[a,x,c,by rw[k a (by rw[i];exact dE ..)];exact e,i,y.imp id λ#[p,k,z,A]=>#[p,k,z,A.mono s]])
def dG.Sj(o:dG R e g h)(k:∀v d f,(∀b∈f,b∈h)->R v d f->Dv Z G' v d):DvAll Z G' e g:=by
 induction o with
 |nil=>exact .nil
 |cons a _ i=>exact .cons (k _ _ _ (λb c=>i8 _ c) a) (i λv d f j r=>k v d f (λb c=>i9 _ (j b c)) r)
def Own.Si(o:HO->Prop)(y:∀j,o (.lst j))(t:∀u,o (.ext u)):∀{v:V}{d:D}{l:List Addr},Own Z G H n v d l->aJ G G'->(∀b∈l,∀x,o x->H b=some x->G' b=some x)->Dv Z G' v d:=by
 induction n with
 |zero=>exact λh s _=>h.1.mono s
 |succ n w=>
  intro v d l h s k
  rcases h with ⟨a,j,z,B,i,c,g,e,m⟩ | ⟨_,a,j,z,i,c,g,m⟩ | ⟨a,u,i,g,e,A⟩
  .subst e i c
   exact .lst (k a (dE ..) _ (y _) g) (m.Sj λv d f e r=>w r s λb p=>k b (eM _ (e b p)))
  .subst i c
   exact .tup (s _ _ g) (m.Sj λv d f e r=>r.elim (λr=>w r.2 s λb p=>k b (e b p)) λr=>r.2.1.mono s)
  .subst i e
   rcases A with ⟨_,b,C,c,q⟩ | ⟨_,E,c,q⟩
   .subst c q
    exact .set (k a (dE ..) _ (t _) g)
   .subst c
    exact .x (k a (dE ..) _ (t _) g) (q.mono s)
def Own.dv{d:D}(h:Own Z G H n v d a)(s:aJ G G')(k:∀b∈a,∀o,H b=some o->G' b=some o):Dv Z G' v d:=h.Si (λ_=>True) (λ_=>trivial) (λ_=>trivial) s λb c x _ e=>k b c x e
def dG.flat(o:dG (Own Z G H 0) b c d):DvAll Z G b c/\d= []:=by
 induction o with
 |nil=>exact#[.nil,rfl]
 |cons a _ e=>exact#[.cons a.1 e.1,by rw[a.2,e.2];rfl]
def DvAll.own(h:DvAll Z G c d):dG (Own Z G H 0) c d []:=h.ind (p:=λc d=>dG (Own Z G H 0) c d []) .nil λa _ b=> .cons (f:= []) (fs:= []) #[a,rfl] b
def Dv.flat{v:V}{d:D}(h:Dv Z G v d)(f:ft d=true):Dv Z G' v d:=by
 cases h with
 |aY=>exact .aY
 |bl b=>exact .bl b
 |int i=>exact .int i
 |str x k=>exact .str x k
 |_=>cases f
end
mutual
def nW:D->Bool
 | .aY=>true
 | .bl _=>true
 | .int _=>true
 | .str _=>true
 | .tup l=>JR l
 |_=>false
def JR:List D->Bool
 | []=>true
 |d::ds=>nW d&&JR ds
end
theorem Dv.nW(k:∀b g,G b=some (.tup g)->e b=some (.tup g))(h:Dv Z G v d):L2.nW d=true->Dv Z e v d:=by
 have c:∀{p:Prop}{d:D},L2.nW d=false->L2.nW d=true->p:=λa b=>by rw[a] at b;cases b
 refine Dv.rec (motive_1:=λv d _=>L2.nW d=true->Dv Z e v d) (motive_2:=λl j _=>JR j=true->DvAll Z e l j) (λ_=> .aY) (λb _=> .bl b) (λi _=> .int i) (λx h _=> .str x h) (λ_ _ _=>c (by rw[L2.nW]<;>simp)) (λh _ m f=> .tup (k _ _ h) (m (by rw[L2.nW] at f;exact f))) (λ_=>c (by rw[L2.nW]<;>simp)) (λ_=>c (by rw[L2.nW]<;>simp)) (λ_ _=>c (by rw[L2.nW]<;>simp)) (λ_ _ _ _ _ _=>c (by rw[L2.nW]<;>simp)) (λ_=>c (by rw[L2.nW]<;>simp)) (λ_ _=>c (by rw[L2.nW]<;>simp)) (λ_ _ _ _=>c (by rw[L2.nW]<;>simp)) (λ_=> .nil) (λ_ _ n o f=>?_) h
 rw[JR,vz] at f;exact .cons (n f.1) (o f.2)
def Og:HO->Bool
 | .lst _=>true
 | .ext _=>true
 |_=>false
def Own.ZL(h:Own Z G H n v d c)(s:aJ G a)(k:∀b∈c,∀o,Og o=true->H b=some o->a b=some o):Dv Z a v d:=h.Si (λo=>Og o=true) (λ_=>rfl) (λ_=>rfl) s k
structure Bs where
 G₀:Hp
 H₀:Hp
 Gf:Hp
structure SIx (Z:DC) (B:Bs) (md:List Nat) (ρ:DN) (σ:St) (H G:Hp) (fp:Nat->List Addr):Prop where
 ex:Ext B.G₀ B.H₀ G H
 fl:aJ B.Gf G
 len:ρ.length=σ.length
 at_:∀(i:Nat)(d:D),ρ[i]? =some (some d)->∃v,σ[i]? =some (some v)/\Own Z G H (md.getD i 0) v d (fp i)
 nd:∀i,(fp i).Nodup
 ap:∀i j b,i≠j->b∈fp i->b∉fp j
 nw:∀i b,b∈fp i->B.H₀ b=none/\H b≠none/\G b=none
def SI(Z:DC)(B:Bs)(a:List Nat)(b:DN)(c:St)(H:Hp):Prop:=∃G d,SIx Z B a b c H G d
def cT:List Nat->DN->DN
 |_,[]=> []
 | [],o::a=>o::a
 |0::b,o::a=>o::cT b a
 | (_+1)::b,_::a=>none::cT b a
theorem qR:∀(a:List Nat)(b:DN),(cT a b).length=b.length
 |a,[]=>by cases a<;>rfl
 | [],o::b=>rfl
 |0::a,o::b=>by rw[cT,cO,qR a b,cO]
 | (_+1)::a,_::b=>by rw[cT,cO,qR a b,cO]
theorem uM:∀(c:List Nat)(e:DN)(i:Nat),(cT c e)[i]? =some (some d)->c.getD i 0=0/\e[i]? =some (some d)
 |c,[],i,h=>by cases c<;>simp[cT] at h
 | [],o::e,i,h=>#[by simp,h]
 |0::c,o::e,0,h=>#[rfl,by simpa [cT] using h]
 |0::c,o::e,i+1,h=>by
  rw[cT,vv] at h;obtain⟨a,b⟩:=uM c e i h;exact#[by rw[tV];exact a,by rw[vv];exact b]
 | (_+1)::c,_::e,0,h=>by simp[cT] at h
 | (_+1)::c,_::e,i+1,h=>by
  rw[cT,vv] at h;obtain⟨a,b⟩:=uM c e i h;exact#[by rw[tV];exact a,by rw[vv];exact b]
def GA(b:List Nat):Bool->DN->DN
 |true,a=>a
 |false,a=>cT b a
def pj:Bool->D->Prop
 |true,d=>nW d=true
 |false,_=>True
section
variable {Z:DC} {B:Bs} {md:List Nat} {ρ:DN} {σ:St} {H G:Hp} {fp:Nat->List Addr}
def IB(h:(cT md ρ)[i]? =some (some d)):md.getD i 0=0/\ρ[i]? =some (some d):=uM md ρ i h
def SIx.xp(S:SIx Z B md ρ σ H G fp):dF Z G σ (cT md ρ):=by
 refine#[by rw[qR];exact S.len,λi d h=>?_]
 obtain⟨z,h⟩:=IB h;obtain⟨v,a,o⟩:=S.at_ i d h;rw[z] at o;exact#[v,a,o.1]
def SIx.MM(S:SIx Z B md ρ σ H G fp):dF Z H σ ρ:=by
 refine#[S.len,λi d h=>?_];obtain⟨v,a,o⟩:=S.at_ i d h;exact#[v,a,o.dv S.ex.sub λb _ u e=>e]
theorem SIx.grow{c f:Hp}(S:SIx Z B md ρ σ H G fp)(x:Ext G H c f):SIx Z B md ρ σ f c fp where
 ex:=S.ex.trans x
 fl:=S.fl.trans x.gg
 len:=S.len
 at_:=λi d h=>by
  obtain⟨v,j,o⟩:=S.at_ i d h;refine#[v,j,o.keep x.gg λb a=>?_];cases e:H b with
  |none=>exact absurd e (S.nw i b a).2.1
  |some u=>exact x.hh _ _ e
 nd:=S.nd
 ap:=S.ap
 nw:=λi b a=>let #[k,g,l]:=S.nw i b a;#[k,gm x.hh g,x.off b g l]
def Ext.all(s:aJ G H)(x:Ext H H b a):Ext G H G a:=#[.refl _,s.trans x.hh,x.hh,λ_ _ h=>h]
open Classical in
noncomputable def jj(G H:Hp)(fp:Nat->List Addr):Hp:=λb=>if ∃i,b∈fp i then(match H b with|some (.lst xs)=>some (.lst xs) |some (.ext φ)=>some (.ext φ) |_=>none) else G b
open Classical in
noncomputable def uu(G:Hp)(fp:Nat->List Addr):Hp:=λb=>if ∃i,b∈fp i then none else G b
def LV(i:Nat)(h:b∈fp i)(a:Og o=true)(e:H b=some o):jj G H fp b=some o:=by
 unfold jj;rw[tz #[i,h],e];cases o<;>first|rfl|cases a
def rh(h:¬∃i,b∈fp i):jj G H fp b=G b:=mo h
def SIx.Sk(S:SIx Z B md ρ σ H G fp):aJ G (jj G H fp)/\aJ (jj G H fp) H/\dF Z (jj G H fp) σ ρ:=by
 have c:aJ G (jj G H fp):=λb o e=>by
  by_cases h:∃i,b∈fp i
  .obtain⟨i,f⟩:=h
   rw[(S.nw i b f).2.2] at e;cases e
  .rw[rh h];exact e
 refine#[c,λb o e=>?_,S.len,λi d h=>?_]
 .by_cases h:∃i,b∈fp i
  .unfold jj at e
   rw[tz h] at e
   split at e
   .next l a=>rw[a];exact e
   .next m a=>rw[a];exact e
   .cases e
  .rw[rh h] at e;exact S.ex.sub _ _ e
 .obtain⟨v,g,o⟩:=S.at_ i d h
  exact#[v,g,o.ZL c λb j u k a=>LV i j k a]
def SIx.X2(S:SIx Z B md ρ σ H G fp)(x:Ext (jj G H fp) H a g):Ext G H (uu a fp) g/\∀b d,a b=some (.tup d)->uu a fp b=some (.tup d):=by
 obtain⟨j,l,_⟩:=S.Sk;refine#[#[λb o e=>?_,λb o e=>?_,x.hh,λb f k=>?_],λb d e=>?_]
 .have h:¬∃i,b∈fp i:=by
   rintro⟨i,c⟩;rw[(S.nw i b c).2.2] at e;cases e
  unfold uu;rw[mo h];exact x.gg _ _ (j _ _ e)
 .unfold uu at e
  split at e
  .cases e
  .exact x.sub _ _ e
 .unfold uu
  split
  .rfl
  .next h=>exact x.off b f (by rw[rh h];exact k)
 .have h:¬∃i,b∈fp i:=by
   rintro⟨i,c⟩;have f:=(S.nw i b c).2.1;cases hw:jj G H fp b with
   |none=>rw[x.off b f hw] at e;cases e
   |some o=>
    have:=x.gg _ _ hw
    rw[e] at this;cases FB this;unfold jj at hw;rw[tz #[i,c]] at hw
    split at hw<;>cases hw
  unfold uu;rw[mo h];exact e
theorem SIx.ev(S:SIx Z B md ρ σ H G fp)(m:Bool)(h:t (GA md m ρ) P)
  (f:∀d,P d->pj m d/\∀v b a,SIx Z B md ρ σ a b fp->Ext G H b a->Dv Z b v d->Q v a):eD Z t σ H Q:=by
 cases m with
 |false=>exact#[G,_,P,S.ex.sub,S.xp,h,λd c v b a x dv=>(f d c).2 v b a (S.grow x) x dv]
 |true=>
  obtain⟨j,i,e⟩:=S.Sk;refine#[jj G H fp,_,P,i,e,h,λd c v b a x dv=>?_];obtain⟨g,k⟩:=S.X2 x;exact(f d c).2 v _ a (S.grow g) g (dv.nW k (f d c).1)
def SIx.Wt(S:SIx Z B md ρ σ H G fp)(h:t ρ P)(c:∀b,P b->∀a,SIx Z B md ρ σ a G fp->Q b a):liftT Z t σ H Q:=
 #[H,ρ,P, .refl _,S.MM,h,λb d e a x=>c b d a (S.grow (Ext.all S.ex.sub x))]
def SIx.oI(S:SIx Z B md ρ σ H G fp)(l:md.getD i 0=0)(dv:Dv Z G v d):SIx Z B md (ρ.set i (some d)) (σ.set i (some v)) H G (λj=>if j=i then[] else fp j) where
 ex:=S.ex
 fl:=S.fl
 len:=by rw[iA,iA];exact S.len
 at_:=λj c h=>by
  by_cases z:i=j
  .subst z
   by_cases a:i<ρ.length
   .rw[lL a] at h
    cases FB h;exact#[v,lL (by rw[<-S.len];exact a),by rw[l,tz rfl];exact#[dv,rfl]]
   .rw[Bj (jo a),iG (jo a)] at h;cases h
  .rw[lM z] at h ⊢
   rw[mo (Ne.symm z)];exact S.at_ j c h
 nd:=λj=>by split;exact iH;exact S.nd j
 ap:=λj k b ne e f=>by
  split at e
  .cases e
  .split at f
   .cases f
   .exact S.ap j k b ne e f
 nw:=λj b g=>by
  split at g
  .cases g
  .exact S.nw j b g
def SIx.OR{f:List Addr}(S:SIx Z B md ρ σ H G fp)(m:md.getD i 0=n)(o:Own Z G H n v d f)(nd:f.Nodup)(nw:∀b∈f,B.H₀ b=none/\H b≠none/\G b=none)(ap:∀b∈f,∀j,j≠i->b∉fp j):
  SIx Z B md (ρ.set i (some d)) (σ.set i (some v)) H G (λj=>if j=i then f else fp j) where
 ex:=S.ex
 fl:=S.fl
 len:=by rw[iA,iA];exact S.len
 at_:=λj c h=>by
  by_cases z:i=j
  .subst z
   by_cases e:i<ρ.length
   .rw[lL e] at h
    cases FB h;exact#[v,lL (by rw[<-S.len];exact e),by rw[m,tz rfl];exact o]
   .rw[Bj (jo e),iG (jo e)] at h;cases h
  .rw[lM z] at h ⊢
   rw[mo (Ne.symm z)];exact S.at_ j c h
 nd:=λj=>by split;exact nd;exact S.nd j
 ap:=λj k b ne g a=>by
  split at g
  .next z=>
   rw[mo (λw=>ne (z.trans w.symm))] at a;exact ap b g k (λw=>ne (z.trans w.symm)) a
  .next z=>
   split at a
   .exact ap b a j z g
   .exact S.ap j k b ne g a
 nw:=λj b l=>by
  split at l
  .exact nw b l
  .exact S.nw j b l
noncomputable def plus(G H:Hp)(F:Addr->Prop):Hp:=λb=>open Classical in if F b then H b else G b
def lE(h:F b):plus G H F b=H b:=by unfold plus;rw[tz h]
def iQ(h:¬F b):plus G H F b=G b:=by unfold plus;rw[mo h]
def jH(s:aJ G H):aJ (plus G H F) H:=λb o e=>by
 by_cases h:F b
 .rw[lE h] at e;exact e
 .rw[iQ h] at e;exact s _ _ e
def fo(s:aJ G H):aJ G (plus G H F):=λb o e=>by
 by_cases h:F b
 .rw[lE h];exact s _ _ e
 .rw[iQ h];exact e
def SIx.ZR(S:SIx Z B md ρ σ H G fp)(h:t ρ P)(g:∀d,P d->∀v a c,Ext B.G₀ B.H₀ a c->Dv Z a v d->Q v c):eD Z t σ H Q:=by
 let F:Addr->Prop:=λb=>∃i,b∈fp i
 have s:=S.ex.sub
 have j:Ext B.G₀ B.H₀ (plus G H F) H:=#[S.ex.gg.trans (fo s),jH s,S.ex.hh,λb f k=>by
  rw[iQ (λ#[i,l]=>f (S.nw i b l).1)];exact S.ex.off b f k]
 refine#[plus G H F,ρ,P,jH s,#[S.len,λi d h=>?_],h,λd m v a c x dv=>g d m v a c (j.trans x) dv];obtain⟨v,n,o⟩:=S.at_ i d h;exact#[v,n,o.dv (fo s) λb f u e=>by rw[lE #[i,f]];exact e]
end
structure c7 where
 nx:DN->Prop
 rt:D->Prop
 bk:DN->Prop:=λ_=>False
 ct:DN->Prop:=λ_=>False
 xc:DN->D->Prop:=λ_ _=>False
abbrev cI:=c7->DN->Prop
structure Meets (Z:DC) (X:Cx) (B:Bs) (md:List Nat) (rn:Nat) (E:c7) (Dn:Ends):Prop where
 nx:∀ρ,E.nx ρ->∀σ H,SI Z B md ρ σ H->Dn.nx σ H
 rt:∀d,E.rt d->∀v f G' H',Ext B.G₀ B.H₀ G' H'->Own Z G' H' rn v d f->f.Nodup->(∀b∈f,B.H₀ b=none/\H' b≠none/\G' b=none)->Dn.rt v H'
 bk:∀ρ,E.bk ρ->∀σ H,SI Z B md ρ σ H->Dn.bk σ H
 ct:∀ρ,E.ct ρ->∀σ H,SI Z B md ρ σ H->Dn.ct σ H
 xc:∀ρ d,E.xc ρ d->∀σ H G fp a,SIx Z B md ρ σ H G fp->Dv Z G (.ref a) d->EF X σ H a
def l5(Z:DC)(X:Cx)(a:List Nat)(c:Nat)(t:cI):TS:=λd e H=>∃(B:Bs)(b:DN)(E:c7),SI Z B a b e H/\t E b/\Meets Z X B a c E d
def DSt(Z:DC)(X:Cx)(a:List Nat)(b:Nat)(st:Stmt)(t:cI):Prop:=PS X st (l5 Z X a b t)
def mV(Z:DC)(X:Cx)(a:List Nat)(b:Nat)(c:List Stmt)(t:cI):Prop:=jO X c (l5 Z X a b t)
def PS.imp{X:Cx}{st:Stmt}{t c:TS}(h:PS X st t)(f:∀D b H,c D b H->t D b H):PS X st c:=λa s b H D I q=>h a s b H D I (f _ _ _ q)
def jO.imp{X:Cx}{st:List Stmt}{t c:TS}(h:jO X st t)(f:∀D b H,c D b H->t D b H):jO X st c:=λa s b H D I q=>h a s b H D I (f _ _ _ q)
section
variable {Z:DC} {X:Cx} {md:List Nat} {rn:Nat} {st:Stmt} {Gn:List Stmt} {t u:cI} {e:Expr} {te:bf} {pos:Pos}
def Tt:cI:=λE a=>E.nx a
def nu(t u:cI):cI:=λE a=>t {E with nx:=u E} a
def aW:mV Z X md rn [] Tt:=by
 refine F1.imp λD b H a=>?_;obtain⟨B,c,E,S,h,M⟩:=a;exact M.nx _ h _ _ S
def ah(a:DSt Z X md rn st t)(b:mV Z X md rn Gn u):mV Z X md rn (st::Gn) (nu t u):=by
 refine(gN a b).imp λD k H c=>?_;rfl';obtain⟨B,f,E,S,h,M⟩:=c;ac_rfl;exact#[B,f,_,S,h,#[λg i m n j=>#[B,g,E,j,i,M],M.rt,M.bk,M.ct,M.xc]]
def aq(a:DSt Z X md rn st t):mV Z X md rn [st] t:=lG a
def Ay:DSt Z X md rn st (λ_ _=>False):=by
 refine Lu.imp λD b H a=>?_;obtain⟨B,c,E,S,h,M⟩:=a;exact h
def V7(a:bf):cI:=λE b=>a b E.rt
def aN(a:DE Z X e te):DSt Z X md 0 (.Return (some e) pos) (V7 te):=by
 refine(DQ a).imp λD l H c=>?_;rfl';obtain⟨B,n,E,⟨G,o,S⟩,h,M⟩:=c;ac_rfl;exact S.ZR h λd g v i j x dv=>M.rt d g v [] i j x #[dv,rfl] iH (λb k=>by cases k)
def Tx(i:Nat):cI:=λE a=>∃d,a[i]? =some (some d)/\E.rt d
def MG(i:Nat)(f:md.getD i 0=rn:=by rfl)(g:X.N[i]? =some x:=by rfl)(a:pI X.env.scope x:=by subst_eqs)(b:(x==("__debug__":Str))=false:=by decide)(j:(x==("__classdict__":Str))=false:=by decide):
  DSt Z X md rn (.Return (some (.Name x c)) pos) (Tx i):=by
 refine(DQ (DL g a b j)).imp λD n H k=>?_;rfl';obtain⟨B,q,E,⟨G,m,S⟩,⟨d,b,h⟩,M⟩:=k;obtain⟨v,a,o⟩:=S.at_ i d b;rw[f] at o;ac_rfl;exact#[v,a,M.rt d h v (m i) G H S.ex o (S.nd i) (S.nw i)]
def VW(c:eu)(t u:cI):cI:=λE a=>c a λb=>if b=true then t E a else u E a
def bL(j:DT Z X c tc)(k:mV Z X md rn a t)(d:mV Z X md rn b u):DSt Z X md rn (.If c a b pos) (VW tc t u):=by
 refine(OE j k d).imp ?_;intro D n H l;rfl';obtain⟨B,f,E,⟨G,g,S⟩,h,M⟩:=l;ac_rfl;refine S.Wt h λb d p i=>?_;cases b with
 |true=>exact cG #[B,f,E,#[G,g,i],(d),M]
 |false=>exact aZ #[B,f,E,#[G,g,i],(d),M]
def dSet(b:List Nat)(m:Bool)(i:Nat)(c:bf):cI:=λE a=>c (GA b m a) λd=>pj m d/\E.nx (a.set i (some d))
def bb(m:Bool)(i:Nat)(g:X.N.Nodup)(j:DE Z X e k)(l:c.getD i 0=0:=by rfl)(n:X.N[i]? =some x:=by rfl)(o:Loc X.env.scope x:=by subst_eqs)(p:swapsWith e (some (.Name x a)) b.line X.env=pure false:=by rfl)
  (q:X.fn x=true\/X.env.scope.names.lookup x=some .local:=by subst_eqs):DSt Z X c z (.Assign [.Name x a] e b) (dSet c m i k):=by
 refine(pC g n o j p q).imp ?_;intro D A H r;rfl';obtain⟨B,F,E,⟨G,I,S⟩,h,M⟩:=r;ac_rfl;exact S.ev m h λd f=>#[f.1,λv w J y x dv=>M.nx _ f.2 _ _ #[w,_,y.oI l dv]]
def KG(i:Nat){NC:List Str}{src:List (Option Nat)}(q:X.calm=true)(r:X.N.Nodup)(c:cC X a)(w:dB a X.N src NC)(y:DI Z X k iter n)
  (z:∀j s H,DG Z (c5 X a NC j s H) k g) (A:∀j s H,Ex Z (c5 X a NC j s H) f o) (C:∀j s H,DE Z (c5 X a NC j s H) b te)
  (F:swapsWith (.ListComp b [#[k,iter,f,0]] a pos) (some (.Name x l)) m.line X.env=pure true:=by rfl) (I:md.getD i 0=0:=by rfl) (J:X.N[i]? =some x:=by rfl) (L:Loc X.env.scope x:=by subst_eqs)
  (O:X.fn x=true\/X.env.scope.names.lookup x=some .local:=by subst_eqs)
  (P:∀x,foldedSetIterable iter X.env x=pure x:=by intro _;rfl):DSt Z X md rn (.Assign [.Name x l] (.ListComp b [#[k,iter,f,0]] a pos) m) (dSet md false i (Tr n g o te src)):=by
 refine(uL q r J L c w y z A C F O P).imp ?_;intro D Q H R;rfl';obtain⟨B,t,E,⟨G,u,S⟩,h,M⟩:=R;ac_rfl;refine JO Q H _ (S.ev false h λd p=>#[p.1,λv U H' Y x dv=>M.nx _ p.2 _ _ #[U,_,Y.oI I dv]])
end
end L2
namespace L2
open PySem PySem.Spec PyProof.Rows
section
variable {Z:DC} {X:Cx} {B:Bs} {md:List Nat} {rn:Nat} {ρ:DN} {σ:St} {H G:Hp} {fp:Nat->List Addr}
def JM(Z:DC)(a:List Nat)(g:eJ):TG:=λv f H Q=>∃(B:Bs)(b:DN)(d:D)(P:DN->Prop)(G:Hp)(h:Nat->List Addr),SIx Z B a b f H G h/\Dv Z G v d/\g d b P/\∀c,P c->∀e i,SIx Z B a c e H G i->Q e H
def NQ(Z:DC)(a:List Nat)(g:mI):zj:=λf h H Q=>∃(B:Bs)(b:DN)(c:List D)(P:DN->Prop)(G:Hp)(i:Nat->List Addr),SIx Z B a b h H G i/\DvAll Z G f c/\g c b P/\∀d,P d->∀e j,SIx Z B a d e H G j->Q e H
def Kh(Z:DC)(X:Cx)(a:List Nat)(e:Expr)(g:eJ):Prop:=PG X e (JM Z a g)
def Jn(Z:DC)(X:Cx)(a:List Nat)(b:List Expr)(g:mI):Prop:=Bw X b (NQ Z a g)
def aH(i:Nat)(b:X.N.Nodup)(c:e.getD i 0=0:=by rfl)(f:X.N[i]? =some x:=by rfl)(g:Loc X.env.scope x:=by subst_eqs)(j:X.fn x=true\/X.env.scope.names.lookup x=some .local:=by subst_eqs):Kh Z X e (.Name x a) (rS i):=by
 refine(FX b f g j).imp λv m H Q k=>?_;rfl';obtain⟨B,o,d,P,G,p,S,dv,h,q⟩:=k;ac_rfl;exact q _ h _ _ (S.oI c dv)
def b7:Jn Z X md [] MA:=by
 refine FY.imp λv c H Q a=>?_;rfl';obtain⟨B,e,f,P,G,g,S,dv,⟨h,p⟩,q⟩:=a;subst h;cases dv;ac_rfl;exact#[rfl,q _ p _ _ S]
def aM(d:Kh Z X md e g)(f:Jn Z X md b c)(i:(assignEach (e::b) X.env).map (·.2)=assign e X.env::(assignEach b X.env).map (·.2):=by rfl):Jn Z X md (e::b) (Jz g c):=by
 refine(A4 d f i).imp ?_;intro v t H Q j;rfl';obtain⟨B,l,w,P,G,m,S,dv,h,q⟩:=j;ac_rfl;cases dv with
 |nil=>exact h.elim
 |cons a n=>exact#[_,_,rfl,B,l,_,_,G,m,S,a,h,λo p x r s=>#[B,o,_,P,G,r,s,n,p,q]]
def dY(n:Nat)(f:X.calm=true)(h:Jn Z X md b e)(g:(assignEach b X.env).length=n:=by rfl)(i:(assignEach b X.env).findIdx? (·.1)=none:=by rfl):Kh Z X md (.Tuple b k c) (MB n e):=by
 refine(JY f h g i).imp ?_;rintro v p H Q ⟨B,j,d,P,G,l,S,dv,h,q⟩;cases dv<;>first|exact h.elim|skip
 rename_i a m r o b
 exact#[a,m,rfl,gT.of (S.ex.sub _ _ o),by rw[b.length];exact h.1,B,j,_,P,G,l,S,b,h.2,q]
def VV(b:List Nat)(c:bf)(g:eJ):cI:=λE a=>c (cT b a) λd=>g d a E.nx
def v7(i:DE Z X e c)(j:Kh Z X md a g)(k:swapsWithSole [a] e b.line X.env=pure false:=by rfl)(hw:swappedStores [a] e X.env=pure none:=by rfl)
  (l:(assignEach [a] X.env).map (·.2)= [assign a X.env]:=by rfl):DSt Z X md rn (.Assign [a] e b) (VV md c g):=by
 refine(wd i j k hw l).imp ?_;intro D w H m;rfl';obtain⟨B,o,E,⟨G,p,S⟩,h,M⟩:=m;ac_rfl;exact S.ev false h λd q=>#[trivial,λv f z r x dv=>#[B,o,d,E.nx,f,p,r,dv,q,λA s C t u=>M.nx _ s _ _ #[f,t,u]]]
def nI(g:eJ)(a:cI)(E:c7):List D->DN->Prop
 | [],b=>E.nx b
 |x::c,b=>g x b λd=>a {nx:=nI g a E c,ct:=nI g a E c,bk:=E.nx,rt:=E.rt,xc:=E.xc} d
def R9(b:List Nat)(m:Bool)(c:ja)(g:eJ)(d:cI):cI:=λE a=>c (GA b m a) λe=>nI g d E e a
def AI(S:SIx Z B md h c H G fp)(L:wx Z G J k)(O:nI g r E k h)(M:Meets Z X B md rn E q):
  ∃W:Nat->Nat->St->Hp->Prop,(∃m,W 0 m c H)/\∀i m c H,W i m c H->
   (J.stop i H/\q.nx c H)\/(J.go i H/\∃N:St->Hp->Prop,(∀j a,N j a->∃C,C<m/\W (i+1) C j a)/\∀x a,J.yld i H x a->JM Z md g x c a λF v=>l5 Z X md rn r {q with nx:=N,ct:=N,bk:=q.nx} F v):=by
 let p:Bs:={B with Gf:=G}
 have back:∀h c H,SI Z p md h c H->SI Z B md h c H:=λh c H #[s,t,f]=>#[s,t,#[f.ex,S.fl.trans f.fl,f.len,f.at_,f.nd,f.ap,f.nw]];have P:SIx Z p md h c H G fp:=#[S.ex, .refl _,S.len,S.at_,S.nd,S.ap,S.nw];refine#[λi m c H=>m=k.length-i/\i<=k.length/\∃h,SI Z p md h c H/\nI g r E (k.drop i) h,#[_,rfl,cZ _,h,#[G,fp,P],O],?_];intro i m F v Q;rfl';obtain⟨rfl,hi,T,⟨s,t,f⟩,u⟩:=Q;obtain⟨U,stop,yld⟩:=L s v f.fl f.ex.sub i;ac_rfl
 by_cases z:i<k.length
 .refine .inr #[U z,λj a=>∃l,SI Z p md l j a/\nI g r E (k.drop (i+1)) l,λj a n=>#[k.length-(i+1),by lia,rfl,z,n],λx a y=>?_]
  rfl';obtain⟨I,d,Y,Cj,dv⟩:=yld x a z y;rw[nv Cj] at u;ac_rfl;refine#[p,T,d,_,I,t,f.grow Y,dv,u,λA h4 fN ZX S4=>?_];exact#[p,A,_,#[I,ZX,S4],h4,#[λl o j a b=>#[l,b,o],M.rt,λl o j a b=>M.nx _ o _ _ (back _ _ _ b),λl o j a b=>#[l,b,o],λl d o j a G' qB a' b jT=>M.xc l d o j a G' qB a' #[b.ex,S.fl.trans b.fl,b.len,b.at_,b.nd,b.ap,b.nw] jT]]
 .have e:k.drop i= []:=Bl (by lia)
  rw[e] at u;exact .inl #[stop (by lia),M.nx _ u _ _ (back _ _ _ #[s,t,f])]
variable {tg iter:Expr} {body:List Stmt} {wi:ja} {g:eJ} {tb:cI} {pos:Pos}
def cK(a:X.calm=true)(b:PassesOwn (model X.prog X.w) X.A X.env X.xe)(c:DI Z X tg iter wi)(d:Kh Z X md tg g)(e:mV Z X md rn body tb)
  (f:∀x,foldedSetIterable iter X.env x=pure x:=by intro _;rfl):DSt Z X md rn (.For tg iter body [] pos) (R9 md false wi g tb):=by
 refine(JZ b a c d e f).imp ?_;intro D n H i;rfl';obtain⟨B,p,E,⟨G,q,S⟩,h,M⟩:=i;ac_rfl;exact#[G,_,_,S.ex.sub,S.xp,h,λr k J s t l m=>AI (S.grow l) m k M]
def QH(Z:DC)(d:ja):TI:=λe H R=>∃(G:Hp)(a:DN)(P:List D->Prop),aJ G H/\dF Z G e a/\d a P/\∀b,P b->∀J f c,Ext G H f c->(∀h,wx Z h J b)->R J c
def SU(Z:DC)(X:Cx)(a e:Expr)(b:ja):Prop:=PI X a e (QH Z b)
def rT(a:X.calm=true)(b:PassesOwn (model X.prog X.w) X.A X.env X.xe)(c:SU Z X tg iter wi)(d:Kh Z X md tg g)(e:mV Z X md rn body tb)
  (f:∀x,foldedSetIterable iter X.env x=pure x:=by intro _;rfl):DSt Z X md rn (.For tg iter body [] pos) (R9 md true wi g tb):=by
 refine(JZ b a c d e f).imp ?_;intro D o H i;rfl';obtain⟨B,k,E,⟨G,q,S⟩,h,M⟩:=i;ac_rfl;exact#[H,k,_, .refl _,S.MM,h,λr l J s t m n=>AI (S.grow (Ext.all S.ex.sub m)) (n _) l M]
variable {a b e:Expr} {ta te:bf} {t:gS}
def w9(d:Gl X "range")(f:X.mg "range"=none)(i:DA Z X [a] t)(j:starEach [a] X.env= [(false,eval a X.env)]:=by rfl):SU Z X tg (.Call (.Name "range" p) [a] [] pos) (Sf t):=by
 refine(yz d f i j).imp ?_;intro v H Q k;rfl';obtain⟨G,m,P,s,n,h,q⟩:=k;ac_rfl;refine#[G,m,_,s,n,h,λx c y o r u dv=>?_]
 split at c
 .obtain⟨_,rfl,a⟩:=dv.ofOne
  exact#[_,by rw[a.ofInt],c.1.1,c.1.2,q _ c.2 _ o r u λ_=>uq 0 _]
 .exact c.elim
def xf(d:Gl X "range")(f:X.mg "range"=none)(i:DA Z X [a,b] t)(j:starEach [a,b] X.env= [(false,eval a X.env),(false,eval b X.env)]:=by rfl)(k:starEach [b] X.env= [(false,eval b X.env)]:=by rfl):SU Z X tg (.Call (.Name "range" p) [a,b] [] pos) (Wh t):=by
 refine(Iw d f i j k).imp ?_;rintro w H Q ⟨G,l,P,s,m,h,q⟩;refine#[G,l,_,s,m,h,λx c y n o r dv=>?_]
 split at c
 .obtain⟨z,A,rfl,u,v⟩:=dv.Ik
  exact#[_,_,by rw[u.ofInt,v.ofInt],c.1,q _ c.2 _ n o r λ_=>uq _ _]
 .exact c.elim
def Jv(c:eu)(i:cI):cI:=λE d=>∃W:Nat->DN->Prop,(∃m,W m d)/\∀m d,W m d->c d λb=>if b=true then i {nx:=λh=>∃f,f<m/\W f h,ct:=λh=>∃f,f<m/\W f h,bk:=E.nx,rt:=E.rt,xc:=E.xc} d else E.nx d
def pb(z:PassesOwn (model X.prog X.w) X.A X.env X.xe)(C:DT Z X c tc)(l:mV Z X md rn body tb):DSt Z X md rn (.While c body [] pos) (Jv tc tb):=by
 refine(Lv z C l).imp ?_;intro D s H p;rfl';obtain⟨B,n,E,S,⟨W,⟨I,J⟩,h⟩,M⟩:=p;ac_rfl;refine#[λm s H=>∃n,SI Z B md n s H/\W m n,#[I,n,S,J],?_];intro m P Q p;rfl';obtain⟨u,⟨v,x,L⟩,N⟩:=p;ac_rfl;refine L.Wt (h m u N) λb l i y=>?_;cases b with
 |false=>exact aZ (M.nx _ (l) _ _ #[v,x,y])
 |true=>
  refine cG #[λo i=>∃d f,f<m/\SI Z B md d o i/\W f d,λo i #[d,f,j,k,O]=>#[f,j,d,k,O],B,u,_,#[v,x,y],(l),?_];exact#[λd #[f,j,k] o i r=>#[d,f,j,r,k],M.rt,M.nx,λd #[f,j,k] o i r=>#[d,f,j,r,k],M.xc]
abbrev mY:=DN->(List D->Prop)->Prop
def ux(Z:DC)(n:Nat)(t:mY):TE:=λj H Q=>∃(G:Hp)(h:DN)(P:List D->Prop),aJ G H/\dF Z G j h/\t h P/\∀i,P i->∀v f d c,Ext G H d c->Own Z d c n v (.lst i) f->f.Nodup->(∀b∈f,H b=none/\c b≠none/\d b=none)->Q v c
def DF(Z:DC)(X:Cx)(n:Nat)(e:Expr)(t:mY):Prop:=PE X e (ux Z n t)
def Ext.side(x:Ext G H d c)(f:c p=none):Ext G H d (upd c p o):=
 #[x.gg,λb u e=>by rw[aw (aC e (x.sub.free f))];exact x.sub _ _ e,x.hh.trans (aR f _),x.off]
def FO(x:Ext G H d f)(i:f p=none)(dv:DvAll Z d c h):
  Own Z d (upd f p (.lst c)) 1 (.ref p) (.lst h) [p]/\([p]:List Addr).Nodup/\∀b∈([p]:List Addr),H b=none/\(upd f p (.lst c)) b≠none/\d b=none:=by
 refine#[.inl #[p,c,h,[],rfl,rfl,au,rfl,dv.own],by simp,λb j=>?_]
 have:b=p:=by simpa using j
 subst this;exact#[x.hh.free i,(au▸λz=>nomatch z),x.sub.free i]
def Sm(t:gS):mY:=λd P=>t d λc=>c.length<=sizeLine/\P c
def iU(h:DA Z X c t):DF Z X 1 (.List c pos) (Sm t):=by
 refine(JX h).imp ?_;intro v H Q j;rfl';obtain⟨G,l,P,s,e,h,q⟩:=j;ac_rfl;exists G,l,_,s,e,h;rintro x ⟨m,n⟩ y z A d f;refine#[by rw[f.length];exact m,λp i=>?_]
 obtain⟨o,r,u⟩:=FO d i f;exact q _ n _ _ _ _ (d.side i) o r u
def TQ(d:ja)(g:eJ)(f:eu)(h:bf)(src:List (Option Nat)):mY:=λc P=>d c λi=>lcW g f h i (yH src c) [] λ_ out=>P out
def FC:∀v H Q,ux Z 1 (TQ wi g u te src) v H Q->O7 (uy Z wi) (qJ Z g) (liftT Z u) (eD Z te) src v H Q:=by
 intro v H Q R;rfl';obtain⟨G,T,P,s,x,h,q⟩:=R;ac_rfl;refine#[G,T,_,s,x,h,λj U J E Y f F k y=>?_];refine#[λi m A l=>m=j.length-i/\i<=j.length/\∃p d,CS Z E Y k p d A l/\lcW g u te (j.drop i) p d λ_ out=>P out,#[_,rfl,cZ _,_,[], .begin f.sub y ((x.mono f.gg).src src),U],?_];rintro i m A l ⟨rfl,hi,p,d,c,C⟩
 by_cases I:i<j.length
 .obtain⟨a,o⟩:=AS y E F i p d A l c (λ_ s=>s) I C
  exact .inr #[a,_,λaz H' n=>#[j.length-(i+1),by lia,rfl,I,n],o]
 .have e:j.drop i= []:=Bl (by lia)
  rfl';rw[e] at C;obtain⟨L,t,M,N,B,off,X,O,br,x⟩:=c;ac_rfl;refine .inl #[(F L l M N i).2.1 (by lia),q _ C (.ref k) [k] L l #[f.gg.trans M,N,f.hh.trans B,λb r hg=>off b (gm f.hh r) (f.off b r hg)] (.inl #[k,t,d,[],rfl,rfl,O,rfl,br.own]) (by simp) λb r=>?_]
  have:b=k:=by simpa using r
  subst this;exact#[f.hh.free y,(by rw[O];exact λz=>nomatch z),X]
variable {elt:Expr} {ifs:List Expr} {scope:Scope} {NC:List Str} {src:List (Option Nat)} {tt:eu}
def Mq(d:List Nat)(i:Nat)(t:mY):cI:=λE c=>t (cT d c) λf=>E.nx (c.set i (some (.lst f)))
def uA{t:mY}(p:md.getD i 0=n)(S:SIx Z B md ρ σ H G fp)(h:t (cT md ρ) λl=>E.nx (ρ.set i (some (.lst l))))(M:Meets Z X B md rn E k):ux Z n t σ H λv m=>k.nx (σ.set i (some v)) m:=by
 refine#[G,_,_,S.ex.sub,S.xp,h,λl q v f r m x o s d=>?_];refine M.nx _ q _ _ #[r,_,(S.grow x).OR p o s (λb c=>#[S.ex.hh.free (d b c).1,(d b c).2]) λb c j _ u=>(S.nw j b u).2.1 (d b c).1]
def ju(i:Nat){t:mY}(j:X.N.Nodup)(k:DF Z X n e t)(l:f.getD i 0=n:=by rfl)(m:X.N[i]? =some x:=by rfl)(o:Loc X.env.scope x:=by subst_eqs)(p:swapsWith e (some (.Name x c)) d.line X.env=pure false:=by rfl)
  (q:X.fn x=true\/X.env.scope.names.lookup x=some .local:=by subst_eqs):DSt Z X f u (.Assign [.Name x c] e d) (Mq f i t):=by
 refine(pC j m o k p q).imp ?_;intro D v H r;rfl';obtain⟨B,y,E,⟨G,z,S⟩,h,M⟩:=r;ac_rfl;exact uA l S h M
def t9(i:Nat)(k:X.calm=true)(l:X.N.Nodup)(c:cC X scope)(m:dB scope X.N src NC)(n:DI Z X tg iter wi)
  (o:∀d s H,DG Z (c5 X scope NC d s H) tg g) (p:∀d s H,Ex Z (c5 X scope NC d s H) ifs tt) (q:∀d s H,DE Z (c5 X scope NC d s H) elt te)
  (r:swapsWith (.ListComp elt [#[tg,iter,ifs,0]] scope pos) (some (.Name x f)) j.line X.env=pure true:=by rfl) (u:md.getD i 0=1:=by rfl) (v:X.N[i]? =some x:=by rfl) (w:Loc X.env.scope x:=by subst_eqs)
  (y:X.fn x=true\/X.env.scope.names.lookup x=some .local:=by subst_eqs)
  (z:∀x,foldedSetIterable iter X.env x=pure x:=by intro _;rfl):DSt Z X md rn (.Assign [.Name x f] (.ListComp elt [#[tg,iter,ifs,0]] scope pos) j) (Mq md i (TQ wi g tt te src)):=by
 refine(uL k l v w c m n o p q r y z).imp ?_;intro D A H C;rfl';obtain⟨B,J,E,⟨G,L,S⟩,h,M⟩:=C;ac_rfl;exact FC A H _ (uA u S h M)
end
section
variable {Z:DC} {X:Cx} {B:Bs} {md:List Nat} {rn:Nat} {ρ:DN} {σ:St} {H G:Hp} {fp:Nat->List Addr} {a e k o:Expr} {ta te tk tp:bf} {pos apos aP p2:Pos}
def SIx.mut{b:Addr}(S:SIx Z B md ρ σ H G fp)(r:σ[i]? =some (some v))(n:b∈fp i)(o:Own Z G (upd H b c) (md.getD i 0) v m (fp i)):SIx Z B md (ρ.set i (some m)) σ (upd H b c) G fp where
 ex:=by
  obtain⟨d,p,f⟩:=S.nw i b n;exact#[S.ex.gg,λx u e=>by rw[aw (aC e f)];exact S.ex.sub _ _ e,λx u e=>by rw[aw (aC e d)];exact S.ex.hh _ _ e,S.ex.off]
 fl:=S.fl
 len:=by rw[iA];exact S.len
 at_:=λj w h=>by
  by_cases z:i=j
  .subst z
   by_cases g:i<ρ.length
   .rw[lL g] at h
    cases FB h;exact#[v,r,o]
   .rw[Bj (jo g),iG (jo g)] at h;cases h
  .rw[lM z] at h
   obtain⟨u,s,t⟩:=S.at_ j w h;exact#[u,s,t.keep (.refl _) λx l=>aw λq=>S.ap i j b z n (q▸l)]
 nd:=S.nd
 ap:=S.ap
 nw:=λj x l=>by
  obtain⟨d,p,f⟩:=S.nw j x l;refine#[d,?_,f]
  by_cases z:x=b
  .rw[z,au];exact λq=>nomatch q
  .rw[aw z];exact p
theorem SIx.one{i:Nat}{d:D}(S:SIx Z B md ρ σ H G fp)(j:md.getD i 0=1)(h:ρ[i]? =some (some d)):∃l b c,d= .lst c/\σ[i]? =some (some (.ref l))/\H l=some (.lst b)/\DvAll Z G b c/\
  ∀f g,DvAll Z G f g->SIx Z B md (ρ.set i (some (.lst g))) σ (upd H l (.lst f)) G fp:=by
 rfl';obtain⟨v,m,o⟩:=S.at_ i d h;rw[j] at o;obtain⟨l,b,c,u,rfl,rfl,q,n,r⟩:=o.one;obtain⟨dv,rfl⟩:=r.flat;ac_rfl;refine#[l,b,c,rfl,m,q,dv,λf g s=>S.mut m (by rw[n];simp) ?_]
 rw[j,n];exact .inl #[l,f,g,[],rfl,rfl,au,rfl,s.own]
theorem dG.VN:∀{n:List V}{q:List D}{m:List Addr}(p:Nat){dp:D},dG (Own Z G H 1) n q m->m.Nodup->q[p]? =some dp->∃l c g,dp= .lst g/\n[p]? =some (.ref l)/\H l=some (.lst c)/\DvAll Z G c g/\l∈m/\
  ∀i j,DvAll Z G i j->dG (Own Z G (upd H l (.lst i)) 1) n (q.set p (.lst j)) m
 |_,_,_,_,_, .nil,_,h=>by simp at h
 |_,_,_,0,dp, .cons (f:=f) (fs:=fs) a s,t,h=>by
  simp at h;subst h;rfl';obtain⟨l,c,g,m,rfl,rfl,F,w,I⟩:=a.one;obtain⟨dv,rfl⟩:=I.flat;subst w;ac_rfl;refine#[l,c,g,rfl,rfl,F,dv,by simp,λi j x=> .cons (.inl #[l,i,j,[],rfl,rfl,au,rfl,x.own]) (s.imp λv d f w r=>r.keep (.refl _) λb y=>aw λz=>?_)]
  have:=(jq.mp t).1
  exact this (z▸w _ y)
 |_,_,_,p+1,dp, .cons (f:=f) (fs:=fs) a s,t,h=>by
  rfl';obtain⟨J,L,A⟩:=kD.mp t;obtain⟨l,c,g,M,N,O,P,C,Q⟩:=dG.VN p (dp:=dp) s L (by simpa using h)
  ac_rfl;refine#[l,c,g,M,by simpa using N,O,P,i9 _ C,λi j x=>?_]
  refine .cons (a.keep (.refl _) λb y=>aw λz=>?_) (Q i j x);exact A b y l C z
def SIx.two(S:SIx Z B md ρ σ H G fp)(n:md.getD i 0=2)(h:ρ[i]? =some (some (.lst c)))(w:c[p]? =some dp):∃T b l d f,dp= .lst f/\σ[i]? =some (some (.ref T))/\H T=some (.lst b)/\b.length=c.length/\b[p]? =some (.ref l)/\H l=some (.lst d)/\DvAll Z G d f/\
  ∀g j,DvAll Z G g j->SIx Z B md (ρ.set i (some (.lst (c.set p (.lst j))))) σ (upd H l (.lst g)) G fp:=by
 rfl';obtain⟨v,q,o⟩:=S.at_ i _ h;rw[n] at o;obtain⟨T,b,y,A,rfl,C,r,m,s⟩:=o.lst;cases C;have t:=S.nd i;rw[m] at t;obtain⟨E,F⟩:=jq.mp t;obtain⟨l,d,f,I,J,L,M,u,N⟩:=dG.VN p s F w;ac_rfl;refine#[T,b,l,d,f,I,q,r,s.length,J,L,M,λg j O=>S.mut q (by rw[m];exact eM _ u) ?_]
 rw[n,m];exact .inl #[T,b,_,A,rfl,rfl,by rw[aw (λz=>E (by rw[z];exact u))];exact r,rfl,N g j O]
def ty_list{K:aj}{l:Addr}{b:List V}(h:H l=some (.lst b)):RP K "list" (.ref l) H:= .inl #[rfl,_,cJ.of h]
def VU(f:List Nat)(m:Bool)(i:Nat)(g:bf):cI:=λE b=>∃c,b[i]? =some (some (.lst c))/\g (GA f m b) λd=>pj m d/\c.length<sizeLine/\E.nx (b.set i (some (.lst (c++ [d]))))
def o9(m:Bool)(i:Nat)(t:DE Z X e te)(g:md.getD i 0=1:=by rfl)(u:X.N[i]? =some x:=by rfl)(w:pI X.env.scope x:=by subst_eqs)(f:(x==("__debug__":Str))=false:=by decide)(y:(x==("__classdict__":Str))=false:=by decide)
  (z:attributeBase (.Name x b) "append" X.env (eval (.Name x b) X.env)=eval (.Name x b) X.env:=by rfl)
  (A:((backTo aP (starEach [e] X.env)).all (λx=>!x.1)&&(backToKw aP (keywordEach [] X.env)).all (λx=>x.1.isSome)&&decide (([e]:List Expr).length+([]:List Keyword).length+(if ([]:List Keyword).isEmpty then 0 else 1)<30))=true:=by rfl)
  (C:(apos.endLine==aP.line)=true:=by rfl) (j:starEach [e] X.env=(false,eval e X.env)::starEach [] X.env:=by rfl) (F:(backTo aP (starEach [] X.env)).any (·.1)=false:=by rfl)
  (I:swapsWith (.Call (.Attribute (.Name x b) "append" apos) [e] [] aP) none pos.line X.env=pure false:=by rfl):
  DSt Z X md rn (.Expr (.Call (.Attribute (.Name x b) "append" apos) [e] [] aP) pos) (VU md m i te):=by
 refine(iu (yy W1 ab9 aca me (pv i u w f y) (bS t fU j) z A C j F) I).imp ?_;intro D k H J;rfl';obtain⟨B,o,E,⟨G,L,S⟩,⟨ds,p,h⟩,M⟩:=J;ac_rfl;rfl';obtain⟨l,xs,_,_,q,O,_⟩:=S.one g p;ac_rfl;refine#[_,q,ty_list O,S.ev m h λd f=>#[f.1,λv P H' Q x dv=>?_]];rfl';obtain⟨_,R,T⟩:=f;obtain⟨l',U,iC,Y,r,a,s,put⟩:=Q.one g p;cases Y;ac_rfl;rw[q] at r;cases r;exact#[l,U,v,rfl,rfl,a,by rw[s.length];exact R,M.nx _ T _ _ #[P,L,put _ _ (s.snoc dv)]]
theorem DvAll.ins{b:List V}{c:List D}{v:V}{d:D}(n:Nat)(h:DvAll Z G b c)(dv:Dv Z G v d):DvAll Z G (Wb.ins b n v) (Wb.ins c n d):=(h.take n).append (.cons dv (h.drop n))
def VZ(f:List Nat)(m:Bool)(i:Nat)(g h:bf):cI:=λE b=>∃c,b[i]? =some (some (.lst c))/\g b λj=>∃k,j= .int k/\h (GA f m b) λd=>pj m d/\(0<=k/\k<=c.length/\c.length<sizeLine)/\E.nx (b.set i (some (.lst (Wb.ins c k.toNat d))))
def P4(m:Bool)(i:Nat)(t:DE Z X k tk)(u:DE Z X e te)(j:md.getD i 0=1:=by rfl)(w:X.N[i]? =some x:=by rfl)(y:pI X.env.scope x:=by subst_eqs)(f:(x==("__debug__":Str))=false:=by decide)(z:(x==("__classdict__":Str))=false:=by decide)
  (A:attributeBase (.Name x b) "insert" X.env (eval (.Name x b) X.env)=eval (.Name x b) X.env:=by rfl)
  (C:((backTo aP (starEach [k,e] X.env)).all (λx=>!x.1)&&(backToKw aP (keywordEach [] X.env)).all (λx=>x.1.isSome)&&decide (([k,e]:List Expr).length+([]:List Keyword).length+(if ([]:List Keyword).isEmpty then 0 else 1)<30))=true:=by rfl)
  (F:(apos.endLine==aP.line)=true:=by rfl) (n:starEach [k,e] X.env=(false,eval k X.env)::starEach [e] X.env:=by rfl) (I:starEach [e] X.env=(false,eval e X.env)::starEach [] X.env:=by rfl) (J:(backTo aP (starEach [e] X.env)).any (·.1)=false:=by rfl)
  (L:swapsWith (.Call (.Attribute (.Name x b) "insert" apos) [k,e] [] aP) none pos.line X.env=pure false:=by rfl):
  DSt Z X md rn (.Expr (.Call (.Attribute (.Name x b) "insert" apos) [k,e] [] aP) pos) (VZ md m i tk te):=by
 refine(iu (yy W1 acb acd yc (pv i w y f z) (bS t (bS u fU I) n) A C F n J) L).imp ?_;intro D σ H O;rfl';obtain⟨B,ρ,E,⟨G,P,S⟩,⟨ds,q,h⟩,M⟩:=O;ac_rfl;rfl';obtain⟨l,xs,_,_,r,Q,_⟩:=S.one j q;ac_rfl;refine#[_,r,ty_list Q,S.ev true h ?_];rintro _ ⟨k,rfl,h⟩;refine#[rfl,λv1 G1 H1 R x1 T=>R.ev m h λd f=>#[f.1,λv U H' Y x dv=>?_]];rfl';cases T.ofInt;obtain⟨_,⟨a,o,WE⟩,h3⟩:=f;obtain⟨l',iD,iC,e1,s,B3,g,put⟩:=Y.one j q;cases e1;ac_rfl;rw[r] at s;cases s;exact#[l,iD,k,v,rfl,rfl,B3,a,by rw[g.length];exact o,by rw[g.length];exact WE,M.nx _ h3 _ _ #[U,P,put _ _ (g.ins _ dv)]]
def PF(d:b.length=n)(h:nP n i=some j)(e:b[j]? =some v):iJ b i=some v:=by unfold iJ;rw[d,h];exact e
def Hi(g:List Nat)(m:Bool)(i:Nat)(h l n:bf):cI:=λE b=>∃c,b[i]? =some (some (.lst c))/\h b λr=>∃p j f,r= .int p/\nP c.length p=some j/\c[j]? =some (.lst f)/\
 l b λs=>∃q,s= .int q/\n (GA g m b) λd=>pj m d/\(0<=q/\q<=f.length/\f.length<sizeLine)/\E.nx (b.set i (some (.lst (c.set j (.lst (Wb.ins f q.toNat d))))))
def E3(m:Bool)(i:Nat)(Q:DE Z X r tp)(R:DE Z X k tk)(U:DE Z X e te)(y:md.getD i 0=2:=by rfl)(Y:wz r:=by exact λ_ _=>rfl)(a:X.N[i]? =some x:=by rfl)(hv:pI X.env.scope x:=by subst_eqs)(g:(x==("__debug__":Str))=false:=by decide)(eU:(x==("__classdict__":Str))=false:=by decide)
  (eS:attributeBase (.Subscript (.Name x c) r f) "insert" X.env (eval (.Subscript (.Name x c) r f) X.env)=eval (.Subscript (.Name x c) r f) X.env:=by rfl)
  (jU:((backTo aP (starEach [k,e] X.env)).all (λx=>!x.1)&&(backToKw aP (keywordEach [] X.env)).all (λx=>x.1.isSome)&&decide (([k,e]:List Expr).length+([]:List Keyword).length+(if ([]:List Keyword).isEmpty then 0 else 1)<30))=true:=by rfl)
  (cQ:(apos.endLine==aP.line)=true:=by rfl) (z:starEach [k,e] X.env=(false,eval k X.env)::starEach [e] X.env:=by rfl) (ie:starEach [e] X.env=(false,eval e X.env)::starEach [] X.env:=by rfl) (eW:(backTo aP (starEach [e] X.env)).any (·.1)=false:=by rfl)
  (lU:swapsWith (.Call (.Attribute (.Subscript (.Name x c) r f) "insert" apos) [k,e] [] aP) none pos.line X.env=pure false:=by rfl):
  DSt Z X md rn (.Expr (.Call (.Attribute (.Subscript (.Name x c) r f) "insert" apos) [k,e] [] aP) pos) (Hi md m i tp tk te):=by
 refine(iu (yy W1 acb acd yc (Oq Fx (pv i a hv g eU) Q Y) (bS R (bS U fU ie) z) eS jU cQ z eW) lU).imp ?_;intro D σ H aL;rfl';obtain⟨B,ρ,E,⟨G,fp,S⟩,⟨rU,s,h⟩,M⟩:=aL;obtain⟨v0,t,o⟩:=S.at_ i _ s;ac_rfl;refine#[_,t,S.ev true h ?_];rintro _ ⟨p,j,ds,rfl,hj,g,h⟩;refine#[rfl,λv1 G1 H1 A x1 B0=>?_];rfl';cases B0.ofInt;obtain⟨T,C,l,xs,iC,e1,F,I,e4,J,e6,br,_⟩:=A.two y s g;rw[F] at t;cases t;ac_rfl;refine#[T,C,p, .ref l,rfl,rfl,cJ.of I,PF e4 hj J,ty_list e6,A.ev true h ?_];rintro _ ⟨q,rfl,h⟩;refine#[rfl,λv2 G2 H2 S2 x2 rW=>S2.ev m h λd L=>#[L.1,λv G' H' S' x dv=>?_]];rfl';cases rW.ofInt;obtain⟨T',u,l',iD,ds2,TK,O,B3,e4',P,ZM,w,put⟩:=S'.two y s g;cases TK;ac_rfl;rw[F] at O;cases O
 have:u=C:=by
  have:=(x2.trans x).hh _ _ I
  rw[B3] at this;cases this;rfl
 rw[this,J] at P;rfl';cases P;obtain⟨_,⟨q1,q2,q3⟩,q4⟩:=L;ac_rfl;exact#[l,iD,q,v,rfl,rfl,ZM,q1,by rw[w.length];exact q2,by rw[w.length];exact q3,M.nx _ q4 _ _ #[G',fp,put _ _ (w.ins _ dv)]]
def PV(f:List Nat)(m:Bool)(i:Nat)(g h:bf):cI:=λE b=>h (GA f m b) λd=>pj m d/\∃c,b[i]? =some (some (.lst c))/\g b λl=>∃k j,l= .int k/\nP c.length k=some j/\E.nx (b.set i (some (.lst (c.set j d))))
def ua(m:Bool)(i:Nat)(z:DE Z X k tk)(A:DE Z X e te)(r:md.getD i 0=1:=by rfl)(C:X.N[i]? =some x:=by rfl)(F:pI X.env.scope x:=by subst_eqs)(g:(x==("__debug__":Str))=false:=by decide)(I:(x==("__classdict__":Str))=false:=by decide)
  (J:∀v,assign (.Subscript (.Name x b) k c) X.env v=(do
   let n <-holding [v] (eval (.Name x b) X.env)
   let q <-holding [v,n] (eval k X.env)
   standAt c
   holding [v,n,q] (setItem n q v)
   release [v,n,q] []):=by intro _;rfl)
  (L:swapsWithSole [.Subscript (.Name x b) k c] e pos.line X.env=pure false:=by rfl) (hw:swappedStores [.Subscript (.Name x b) k c] e X.env=pure none:=by rfl)
  (p:(assignEach [.Subscript (.Name x b) k c] X.env).map (·.2)= [assign (.Subscript (.Name x b) k c) X.env]:=by rfl):DSt Z X md rn (.Assign [.Subscript (.Name x b) k c] e pos) (PV md m i tk te):=by
 refine(wd A (DM (pv i C F g I) z set_list J) L hw p).imp ?_;intro D σ H O;rfl';obtain⟨B,ρ,E,⟨G,P,S⟩,h,M⟩:=O;ac_rfl;refine S.ev m h λd g=>#[g.1,λv G' H' t x dv=>?_];rfl';obtain⟨_,ds,p,h⟩:=g;obtain⟨l,xs,_,_,u,e3,_⟩:=t.one r p;ac_rfl;refine#[_,u,t.ev true h ?_];rintro _ ⟨k,j,rfl,Q,R⟩;refine#[rfl,λv1 T H1 U Y a=>?_];rfl';cases a.ofInt;obtain⟨l',o,iC,e1,w,B3,y,put⟩:=U.one r p;cases e1;ac_rfl;rw[u] at w;cases w;exact#[l,o,k,j,rfl,rfl,B3,by rw[y.length];exact Q,M.nx _ R _ _ #[T,P,put _ _ (y.set (dv.mono Y.gg) j)]]
def V5(f:List Nat)(i j:Nat):cI:=λE b=>∃c d,b[j]? =some (some (.lst (c++ [d])))/\E.nx ((b.set j (some (.lst c))).set i (some d))
def P5(i j:Nat)(u:X.N.Nodup)(w:f.getD i 0=0:=by rfl)(z:f.getD j 0=1:=by rfl)(A:X.N[i]? =some x:=by rfl)(C:Loc X.env.scope x:=by subst_eqs)
  (I:X.N[j]? =some y:=by rfl) (J:pI X.env.scope y:=by subst_eqs) (L:(y==("__debug__":Str))=false:=by decide) (O:(y==("__classdict__":Str))=false:=by decide)
  (P:attributeBase (.Name y py) "pop" X.env (eval (.Name y py) X.env)=eval (.Name y py) X.env:=by rfl) (Q:(b.endLine==r.line)=true:=by rfl)
  (R:swapsWith (.Call (.Attribute (.Name y py) "pop" b) [] [] r) (some (.Name x q)) g.line X.env=pure false:=by rfl)
  (T:X.fn x=true\/X.env.scope.names.lookup x=some .local:=by subst_eqs):DSt Z X f rn (.Assign [.Name x q] (.Call (.Attribute (.Name y py) "pop" b) [] [] r) g) (V5 f i j):=by
 refine(pC u A C (Q3 W1 PySem.F.slot_list_pop PySem.F.type_list_pop QL (pv j I J L O) P Q) R T).imp ?_;intro D σ H U;rfl';obtain⟨B,ρ,E,⟨G,fp,S⟩,⟨n,d,a,h⟩,M⟩:=U;ac_rfl;rfl';obtain⟨l,c,iC,e,k,s,p,put⟩:=S.one z a;cases e;have t:c.length=n.length+1:=by rw[p.length];simp
 obtain⟨v,o,dv⟩:=p.get (i:=c.length-1) (d:=d) (by rw[t];simp)
 ac_rfl;refine#[_,k,ty_list s,l,c,v,rfl,rfl,s,o,M.nx _ h _ _ #[G,_,(put c.dropLast n ?_).oI w dv]]
 have:=p.take n.length
 rw[List.take_left'] at this
 .rw[List.dropLast_eq_take,t];exact this
 .rfl
def SIx.J2(S:SIx Z B md ρ σ H G fp)(h:ρ[j]? =some (some d)):∃v,σ[j]? =some (some v)/\Dv Z (plus G H λb=>b∈fp j) v d/\SIx Z B md (ρ.set j none) σ H (plus G H λb=>b∈fp j) (λk=>if k=j then[] else fp k):=by
 have s:=S.ex.sub;obtain⟨v,m,o⟩:=S.at_ j d h;refine#[v,m,o.dv (fo s) λb g u e=>by rw[lE g];exact e,?_]
 refine#[#[S.ex.gg.trans (fo s),jH s,S.ex.hh,λb g n=>?_],S.fl.trans (fo s),by rw[iA];exact S.len,λk c f=>?_,λk=>by split;exact iH;exact S.nd k,λk p b ne f i=>?_,λk b g=>?_]
 .rw[iQ (λz=>g (S.nw j b z).1)];exact S.ex.off b g n
 .by_cases z:j=k
  .subst z
   by_cases l:j<ρ.length
   .rw[lL l] at f;cases f
   .rw[Bj (jo l),iG (jo l)] at f;cases f
  .rw[lM z] at f
   obtain⟨u,q,r⟩:=S.at_ k c f;exact#[u,q,by rw[mo (Ne.symm z)];exact r.keep (fo s) λ_ _=>rfl]
 .split at f
  .cases f
  .split at i
   .cases i
   .exact S.ap k p b ne f i
 .split at g
  .cases g
  .next z=>
   obtain⟨t,x,y⟩:=S.nw k b g;exact#[t,x,by rw[iQ (λw=>S.ap k j b z g w)];exact y]
def Ti(f:List Nat)(i j:Nat):cI:=λE b=>∃c d,b[i]? =some (some (.lst c))/\b[j]? =some (some d)/\c.length<sizeLine/\E.nx ((b.set j none).set i (some (.lst (c++ [d]))))
def MD(i j:Nat)(q:i≠j:=by decide)(r:md.getD i 0=1:=by rfl)(s:X.N[j]? =some y:=by rfl)(c:pI X.env.scope y:=by subst_eqs)(f:(y==("__debug__":Str))=false:=by decide)(t:(y==("__classdict__":Str))=false:=by decide)(u:X.N[i]? =some x:=by rfl)(w:pI X.env.scope x:=by subst_eqs)(z:(x==("__debug__":Str))=false:=by decide)(A:(x==("__classdict__":Str))=false:=by decide)
  (C:attributeBase (.Name x b) "append" X.env (eval (.Name x b) X.env)=eval (.Name x b) X.env:=by rfl)
  (F:((backTo aP (starEach [.Name y py] X.env)).all (λx=>!x.1)&&(backToKw aP (keywordEach [] X.env)).all (λx=>x.1.isSome)&&decide (([.Name y py]:List Expr).length+([]:List Keyword).length+(if ([]:List Keyword).isEmpty then 0 else 1)<30))=true:=by rfl)
  (I:(apos.endLine==aP.line)=true:=by rfl) (m:starEach [.Name y py] X.env=(false,eval (.Name y py) X.env)::starEach [] X.env:=by rfl) (J:(backTo aP (starEach [] X.env)).any (·.1)=false:=by rfl)
  (L:swapsWith (.Call (.Attribute (.Name x b) "append" apos) [.Name y py] [] aP) none pos.line X.env=pure false:=by rfl):
  DSt Z X md rn (.Expr (.Call (.Attribute (.Name x b) "append" apos) [.Name y py] [] aP) pos) (Ti md i j):=by
 refine(iu (yy W1 ab9 aca me (pv i u w z A) (bS (pv j s c f t) fU m) C F I m J) L).imp ?_;intro D σ H O;rfl';obtain⟨B,Q,E,⟨G,fp,S⟩,⟨R,d,T,U,Y,h⟩,M⟩:=O;ac_rfl;rfl';obtain⟨v,a,dv,e⟩:=S.J2 U;have k:(Q.set j none)[i]? =some (some (.lst R)):=by rw[lM (Ne.symm q)];exact T
 obtain⟨l,o,iC,e1,e2,n,p,put⟩:=e.one r k;cases e1;ac_rfl;exact#[_,e2,ty_list n,_,a,l,o,v,rfl,rfl,n,by rw[p.length];exact Y,M.nx _ h _ _ #[_,_,put _ _ (p.snoc dv)]]
end
structure Vy (mg:Str->Option Value):Prop where
 len:mg "len"=none
 range:mg "range"=none
 max:mg "max"=none
 min:mg "min"=none
 enumerate:mg "enumerate"=none
 zip:mg "zip"=none
 sorted:mg "sorted"=none
 all:mg "all"=none
 isinstance:mg "isinstance"=none
 int:mg "int"=none
 bool:mg "bool"=none
 list:mg "list"=none
 tuple:mg "tuple"=none
 sum:mg "sum"=none
 reversed:mg "reversed"=none
def Jr:bootBuiltins "max"=some (.builtin "max"):=by decide+kernel
def EN:bootBuiltins "bool"=some (.type "bool"):=by decide+kernel
def PK:bootBuiltins "int"=some (.type "int"):=by decide+kernel
def nk:bootBuiltins "list"=some (.type "list"):=by decide+kernel
def Kn:bootBuiltins "tuple"=some (.type "tuple"):=by decide+kernel
def lN:bootBuiltins "sorted"=some (.builtin "sorted"):=by decide+kernel
def bE:bootBuiltins "len"=some (.builtin "len"):=by decide+kernel
section
variable {P:Program} {w:World} {K:aj} {mg:Str->Option Value} {base:Heap} {Z:DC}
def iV(N:List Str)(a:List D):DN:=a.map some++ak (N.length-a.length) none
def sQ(Z:DC)(n:Nat)(g:dA):Sp:=λh H Q _=>∃(G:Hp)(e:List D)(P:D->Prop),aJ G H/\DvAll Z G h e/\g e P/\∀d,P d->∀v f c a,Ext G H c a->Own Z c a n v d f->f.Nodup->(∀b∈f,H b=none/\a b≠none/\c b=none)->Q v a
def Own.pure(x:Ext G H c a)(o:Own Z c a n v d f)(i:∀b∈f,H b=none/\a b≠none/\c b=none):∃h,Ext G H h a/\Dv Z h v d:=by
 refine#[plus c a λb=>b∈f,#[x.gg.trans (fo x.sub),jH x.sub,x.hh,λb g j=>?_],o.dv (fo x.sub) λb g u e=>by rw[lE g];exact e]
 rw[iQ (λz=>g (i b z).1)];exact x.off b g j
def Vb:∀a H Q E,aU Z b a H Q E->sQ Z n b a H Q E:=by
 intro a H Q E c;rfl';obtain⟨G,g,P,s,dv,h,q⟩:=c;ac_rfl;exact#[G,g,P,s,dv,h,λd i v f t j x o u k=>let #[l,m,p]:=o.pure x k;q d i v l j m p]
theorem ub(l:Nat){x a:Str}{st:Stmt}{f:Addr}{n:FuncData}{N g:List Str}{k:Nat}{m:dA}(F:m8 K x a st f n)(S:aF N g (ao st))(o:List Nat)(u:∀i,i<g.length->o.getD i 0=0)(len:∀c P,m c P->c.length=g.length)
  (y:∀(j:Value)(A:Around)(outer:List Env)(s:Shared)(H:Hp)(E:XK)(c:List D)(R:D->Prop),bQ k (A.deeper (envOfC a (ao st) s.heap.objs.size f j))->m c R->
   ∃t,mV Z (jS cz P w K mg base N a (ao st) f j A outer s H E).kL o l (cU st) t/\t {nx:=λ_=>l=0/\R .aY,rt:=R} (iV N c)):FnOk P w K mg base cz (k+1) f n g (sQ Z l m):=by
 refine F.ok S (λB H Q E h=>?_) (λj A outer s H B Q E C h=>?_)
 .obtain⟨G,c,R,s,dv,h,q⟩:=h
  rw[dv.length];exact len _ _ h
 rfl';obtain⟨G,c,R,J,dv,h,q⟩:=h;have L:=q;obtain⟨t,M,O⟩:=y j A outer s H E c R C h;have hl:=len _ _ h;ac_rfl;refine#[_,M,#[G,H,G],_,_,#[G,λ_=> [],?_],O,#[λρ p az T #[U,fp,X]=>q _ p.2 _ [] U T X.ex (by rw[p.1];exact#[.aY,rfl]) iH (λb Y=>by cases Y),L,λ_ z=>z.elim,λ_ z=>z.elim,λ_ _ z=>z.elim]]
 refine#[.refl J, .refl _,by unfold iV start;simp[dv.length],λi d e=>?_,λ_=>iH,(λ_ _ _ _ z=>by cases z),(λ_ _ z=>by cases z)]
 unfold iV at e
 have r:i<c.length:=by
  apply FS;intro z;rw[i7 (by simpa using jo z),tU] at e
  split at e<;>cases e
 rw[gn (by simpa using r),eQ] at e
 have hZ:c[i]? =some d:=by
  cases z:c[i]? with
  |none=>rw[z] at e;cases e
  |some d'=>rw[z] at e;cases e;rfl
 obtain⟨v,hv,jT⟩:=dv.get hZ;refine#[v,?_,by rw[u i (by lia)];exact#[jT,rfl]]
 unfold start;rw[gn (by simpa [dv.length] using r),eQ,hv];rfl
def bp{x c:Str}{st:Stmt}{f:Addr}{m:FuncData}{N e:List Str}{k:Nat}{j:dA}(F:m8 K x c st f m)(S:aF N e (ao st))(l:List Nat)(n:∀i,i<e.length->l.getD i 0=0)(len:∀d P,j d P->d.length=e.length)
  (o:∀(g:Value)(A:Around)(outer:List Env)(s:Shared)(H:Hp)(E:XK)(d:List D)(R:D->Prop),bQ k (A.deeper (envOfC c (ao st) s.heap.objs.size f g))->j d R->
   ∃t,mV Z (jS cz P w K mg base N c (ao st) f g A outer s H E).kL l 0 (cU st) t/\t {nx:=λ_=>0=0/\R .aY,rt:=R} (iV N d)):FnOk P w K mg base cz (k+1) f m e (aU Z j):=
 (ub 0 F S l n len λg A outer s H E d R p h=>let #[t,a,b]:=o g A outer s H E d R p h;#[t,a,b]).imp Vb
end
section
variable {Z:DC} {X:Cx} {a b c e o:Expr} {ta tb te:bf} {t:gS} {es:List Expr} {pos apos:Pos}
def Td:dA:=λd P=>∃i j,d= [.int i, .int j]/\P (.int (if j>i then j else i))
def Pj(h:DvAll Z G d [.int i, .int j]):d= [.int i, .int j]:=by
 cases h with
 |cons a f=>
  cases f with
  |cons b bs=>cases bs;cases a;cases b;rfl
def EV(d:X.calm=true):CallR X (.builtin "max") (jX Z Td):=by
 refine(Hf d).imp ?_;intro k H Q f;rfl';obtain⟨G,m,P,s,dv,⟨i,j,rfl,h⟩,q⟩:=f;ac_rfl;exact#[i,j,Pj dv,q _ h _ G H (.refl s) (.int _)]
theorem rX:∀{d:List V}{f:List Int},DvAll Z G d (f.map D.int)->d=f.map V.int
 |d,[],h=>by cases h;rfl
 |d,b::bs,h=>by
  cases h with
  |cons a g=>cases a;rw[rX g];rfl
def Jq:dA:=λg P=>∃d:List Int,g= [.lst (d.map D.int)]/\d.length<64/\∀f:List Int,f.Perm d->f.Pairwise (·<=·)->P (.lst (f.map D.int))
def Kr:CallR X (.builtin "sorted") (jX Z Jq):=by
 refine zv.imp ?_;rintro n H Q ⟨G,r,P,s,dv,⟨f,rfl,g,i⟩,q⟩;cases dv with
 |cons a j=>
  cases j;cases a with
  |lst h e=>
   refine#[_,f,rfl,cJ.of (rX e▸s _ _ h),g,λp d k l m=>?_];exact q _ (i d l m) _ _ _ (.new s k) (.lst au (.ints d))
def pairD(k:Nat×Nat):D:= .tup [.int (k.1:Nat), .int (k.2:Nat)]
def PJ:dA:=λg P=>∃d:List (Nat×Nat),g= [.lst (d.map pairD)]/\d.length<=1000/\∀f:List (Nat×Nat),f.Perm d->f.Pairwise Wb.lexLe->P (.lst (f.map pairD))
theorem AA:∀{d:List V}{f:List (Nat×Nat)},DvAll Z G d (f.map pairD)->∃L:List (Addr×(Nat×Nat)),d=L.map (λe=>V.ref e.1)/\L.map (·.2)=f/\EC G L
 |d,[],h=>by cases h;exact#[[],rfl,rfl,λp g=>by cases g]
 |d,n::f,h=>by
  cases h with
  |cons a j=>
   obtain⟨L,k,l,m⟩:=AA j;unfold pairD at a;cases a with
   | @tup p r x g e=>
    refine#[(p,n)::L,by rw[k];rfl,by rw[<-l];rfl,λq i=>?_]
    rcases b8.mp i with rfl|i
    .have:r=uH n:=by
      cases e with
      |cons s u=>
       cases u with
       |cons v w=>cases s;cases v;cases w;rfl
     rw[<-this];exact g
    .exact m q i
theorem EC.dv{G:Hp}:∀{L:List (Addr×(Nat×Nat))},EC G L->DvAll Z G (L.map λe=>V.ref e.1) ((L.map (·.2)).map pairD)
 | [],_=> .nil
 |x::L,h=> .cons (.tup (h x (dE ..)) (.cons (.int _) (.cons (.int _) .nil))) (EC.dv λp d=>h p (eM _ d))
def Au:CallR X (.builtin "sorted") (jX Z PJ):=by
 refine zw.imp ?_;rintro w H Q ⟨G,l,P,s,dv,⟨f,rfl,y,d⟩,q⟩;cases dv with
 |cons a m=>
  cases m;cases a with
  | @lst p z l h e=>
   obtain⟨L,rfl,g,i⟩:=AA e;have A:L.length=f.length:=by rw[<-g];simp
   refine#[_,L,rfl,cJ.of (s _ _ h),λp d=>s _ _ (i p d),by lia,λp M j k n=>?_]
   have r:(M.map (·.2)).Perm f:=by rw[<-g];exact k.map _
   have u:EC (upd G p (.lst (M.map λe=>V.ref e.1))) M:=λx v=>aR (s.free j) _ _ _ (i x (k.mem_iff.mp v));exact q _ (d _ r n) _ _ _ (.new s j) (.lst au u.dv)
def PR(g h:bf):bf:=λf P=>g f λd=>∃l,d= .lst l/\h f λy=>ft y=true/\l.all ft=true/\∃(j:Nat)(z:D),l[j]? =some z/\i4 z y=true/\(∀(m:Nat) z,m<j->l[m]? =some z->i4 z y=false)/\P (.int (j:Nat))
theorem Ax(E:DE Z X o ta)(I:DE Z X e tb)
  (J:attributeBase o "index" X.env (eval o X.env)=eval o X.env:=by rfl)
  (L:((backTo d (starEach [e] X.env)).all (λx=>!x.1)&&(backToKw d (keywordEach [] X.env)).all (λx=>x.1.isSome)&&decide (([e]:List Expr).length+([]:List Keyword).length+(if ([]:List Keyword).isEmpty then 0 else 1)<30))=true:=by rfl)
  (M:(apos.endLine==d.line)=true:=by rfl) (r:starEach [e] X.env=(false,eval e X.env)::starEach [] X.env:=by rfl) (N:(backTo d (starEach [] X.env)).any (·.1)=false:=by rfl):
  DE Z X (.Call (.Attribute o "index" apos) [e] [] d) (PR ta tb):=by
 refine(yy W1 PySem.F.slot_list_index PySem.F.type_list_index Lf E (bS I fU r) J L M r N).imp ?_;intro σ H Q O;rfl';obtain⟨G,A,P,s,B,h,q⟩:=O;ac_rfl;exists G,A,_,s,B,h;rintro _ ⟨l,rfl,S⟩ v T H1 f dv;cases dv with
 | @lst p U ds C e=>
  refine#[ty_list (f.sub _ _ C),T,A,_,f.sub,B.mono f.gg,S,λy Y u a b i k=>?_];rfl';obtain⟨c,t,j,z,h3,h4,h5,h6⟩:=Y;have n:=e.mono i.gg;obtain⟨w,hw,dw⟩:=n.get h3;ac_rfl;refine#[p,U,u,j,w,rfl,rfl,i.hh _ _ (f.sub _ _ C),by rw[rY k];exact c,by rw[nH n];exact t,hw,by rw[B5 dw k];exact h4,λm z' hm hz=>?_,q _ h6 _ a b (f.trans i) (.int _)]
  obtain⟨d',hZ,jT⟩:=n.M4 hz;rw[B5 jT k];exact h5 m d' hm hZ
end
structure Jo (Z:DC):Prop where
 cl:wk Z.K Z.C
 nR:fO Z.K Z.C "rows"
section
variable {Z:DC} {X:Cx} {a b c e o:Expr} {ta tb te:bf} {t:gS} {es:List Expr} {pos apos:Pos}
def Tz(f:bf):bf:=λg P=>f g λd=>∃w,d= .fX w/\P (aO w)
def rR(T:Jo Z)(i:DE Z X o ta)(d:X.K=Z.K:=by rfl)(j:attributeBase o "rows" X.env (eval o X.env)=eval o X.env:=by rfl):DE Z X (.Attribute o "rows" apos) (Tz ta):=by
 refine(Q5 i j).imp ?_;intro B H Q k;rfl';obtain⟨G,m,P,s,n,h,q⟩:=k;ac_rfl;exists G,m,_,s,n,h;rintro _ ⟨w,rfl,r⟩ v u x f dv;cases dv with
 | @fX p y R w z A g F I=>exact#[p,Z.C,y,_, .ref R,rfl,f.sub _ _ z,by rw[d];exact T.cl,by rw[d];exact T.nR,rfl,q _ r _ u x f A]
def Hj(g:dA)(h:bf)(t:gS):bf:=λf P=>h f λd=>∃w,d= .fX w/\t f λi=>g (.fX w::i) P
def AW(u:([("rows",V.ref 0)]:List (Str×V)).lookup m=none):∀j H Q,eD Z (Hj i ta t) j H Q->IQ Z.C m (aU Z i) [] E0 (eD Z ta) (xY Z t) j H Q:=by
 intro j H Q x;rfl';obtain⟨G,n,P,s,r,h,q⟩:=x;ac_rfl;exists G,n,_,s,r,h;rintro _ ⟨w,rfl,k⟩ v A b f dv;have B:=dv;cases dv with
 | @fX p E R w F c g e o=>
  refine#[p,E,_,rfl,f.sub _ _ F,?_,A,n,_,f.sub,r.mono f.gg,k,λX I J L M l N=>?_]
  .have O:(m==("rows":Str))=false:=by
    cases z:(m==("rows":Str)) with
    |false=>rfl
    |true=>simp[bc,z] at u
   simp[bc,O]
  .show aU Z i (V.ref p::(J++ [])) M Q E0
   rw[fG];exact#[L,_,P,l.sub, .cons (B.mono l.gg) N,I,λd k v S T U Y=>q d k v S T ((f.trans l).trans U) Y]
variable {sd:dA} {k:Nat} {f:Addr} {fd:FuncData} {ps:List Str} {m:Str}
def E2(T:Jo Z)(h:DE Z X o ta)(i:Meth Z.K Z.C m f)(F:FnOk X.prog X.w X.K X.mg X.base cz k f fd ps (aU Z sd))(j:bQ k X.A)(l:Binds X.K fd ps [])(n:DA Z X (e::es) t)(d:X.K=Z.K:=by rfl)
  (p:([("rows",V.ref 0)]:List (Str×V)).lookup m=none:=by decide) (q:starEach (e::es) X.env=(false,eval e X.env)::starEach es X.env:=by rfl) (r:(backTo pos (starEach es X.env)).any (·.1)=false:=by rfl)
  (s:eval (.Call (.Attribute o m apos) (e::es) [] pos) X.env=(do
   let g <-eval o X.env
   standAt apos.atName
   let (f,first) <-holding [g] (getMethod g m pl)
   callWith pos f first (backTo pos (starEach (e::es) X.env)) (backToKw pos (keywordEach [] X.env))):=by rfl):DE Z X (.Call (.Attribute o m apos) (e::es) [] pos) (Hj sd ta t):=
 (Ov (pl:=pl) h (by rw[d];exact T.cl) (by rw[d];exact i) F j l .nil uJ n q r s).imp (AW p)
def gI(T:Jo Z)(l:DE Z X o ta)(n:Meth Z.K Z.C m f)(F:FnOk X.prog X.w X.K X.mg X.base cz k f fd ps (aU Z sd))(r:bQ k X.A)(u:Binds X.K fd ps [])(i:X.K=Z.K:=by rfl)
  (x:([("rows",V.ref 0)]:List (Str×V)).lookup m=none:=by decide)
  (y:eval (.Call (.Attribute o m apos) [] [] pos) X.env=(do
   let j <-eval o X.env
   standAt apos.atName
   let (f,first) <-holding [j] (getMethod j m pl)
   callWith pos f first (backTo pos (starEach [] X.env)) (backToKw pos (keywordEach [] X.env))):=by rfl):DE Z X (.Call (.Attribute o m apos) [] [] pos) (Hj sd ta fJ):=
 (Lo (pl:=pl) l (by rw[i];exact T.cl) (by rw[i];exact n) F r u .nil uJ y).imp λz H Q h=>by
  rfl';obtain⟨G,E,P,s,I,h,q⟩:=AW x z H Q h;ac_rfl;refine#[G,E,P,s,I,h,λd J v L M N dv=>?_];rfl';obtain⟨p,O,fs,R,S,U,Y,t,P',a,b,c,e⟩:=q d J v L M N dv;ac_rfl;exact#[p,O,fs,R,S,U,e _ c _ Y _ (.refl a) .nil]
def Gh(Z:DC):Sp:=λi H Q _=>∃(p h:Addr)(v:V)(G:Hp)(w:List (List Nat)),i= [.ref p,v]/\H p=some (.ins Z.C h [])/\aJ G H/\G p=none/\Dv Z G v (aO w)/\Wb.Good w/\1<=w.length/\w.length<=14/\
 ∀(R:Addr)(d g:Hp),aJ G d->aJ d g->(∀b o,H b=some o->b≠p->g b=some o)->(∀b,H b≠none->G b=none->d b=none)->g p=some (.ins Z.C h [("rows", .ref R)])->Dv Z d (.ref R) (aO w)->Q .aY g
def Ts(t:gS):bf:=λd P=>t d λg=>∃w,g= [aO w]/\Wb.Good w/\1<=w.length/\w.length<=14/\P (.fX w)
theorem Mx(M:Mk Z.K Z.C f)(F:FnOk X.prog X.w X.K X.mg X.base cz k f fd ps (Gh Z))(O:bQ (k+1) X.A)(n:Gl X x)(S:X.mg x=some (.ref Z.C))(j:Binds X.K fd ps [])
  (T:DA Z X (e::es) t) (U:X.K=Z.K:=by rfl) (Y:(x==("__debug__":Str))=false:=by decide) (a:starEach (e::es) X.env=(false,eval e X.env)::starEach es X.env:=by rfl) (c:(backTo pos (starEach es X.env)).any (·.1)=false:=by rfl):
  DE Z X (.Call (.Name x p) (e::es) [] pos) (Ts t):=by
 refine(Ou (by rw[U];exact M) F O n S j .nil uJ T Y a c).imp ?_
 intro σ H Q m;rfl';obtain⟨G,ρ,P,s,en,h,q⟩:=m;ac_rfl;exists G,ρ,_,s,en,h;rintro _ ⟨w,rfl,g,B,E,hp⟩ vs G1 H1 d r p l i sD ne;cases r with
 | @cons v _ _ _ dv r=>
  cases r;have xN:upd H1 l (.own p) p=none:=by rw[aw (Ne.symm ne)];exact i
  have u:=(aR sD (.own p)).trans (aR xN (.ins Z.C l []));refine#[p,l,v,G1,w,rfl,au,d.sub.trans u,d.sub.free i,dv,g,B,E,λR I H2 g1 g2 kp off y rW=>#[rfl,?_]];have J:I p=none:=off p (by rw[au];exact λz=>nomatch z) (d.sub.free i)
  refine q _ hp _ (upd I p (.ins Z.C l [("rows", .ref R)])) H2 #[(d.gg.trans g1).trans (aR J _),λb o e=>?_,λb o e=>?_,λb j n=>?_] (.fX au (rW.mono (aR J _)) g B E)
  .by_cases z:b=p
   .subst z;rw[au] at e;cases e;exact y
   .rw[aw z] at e;exact g2 _ _ e
  .have L:=d.hh _ _ e
   exact kp b o (u _ _ L) (aC L i)
  .have N:=gm d.hh j
   have nb:b≠p:=λz=>N (by rw[z];exact i)
   rw[aw nb];exact off b (gm u N) (d.off b j n)
end
section
variable {Z:DC} {X:Cx} {pos:Pos}
def NN(g:eJ)(b:mY):List D->DN->List D->(List D->Prop)->Prop
 | [],_,a,N=>N a
 |x::d,e,a,N=>g x e λc=>b c λf=>a.length<sizeLine/\NN g b d c (a++ [.lst f]) N
def Sl(b:ja)(g:eJ)(c:mY)(src:List (Option Nat)):mY:=λa P=>b a λd=>NN g c d (yH src a) [] P
def VA(Z:DC)(n:Nat)(e a:Hp)(c:Addr)(g:DN)(d:List D)(h:St)(H:Hp):Prop:=
 ∃(G:Hp)(f:List V)(fs:List Addr),aJ e G/\aJ G H/\aJ a H/\(∀b,a b≠none->e b=none->G b=none)/\H c=some (.lst f)/\dG (Own Z G H n) f d fs/\(c::fs).Nodup/\(∀b∈c::fs,a b=none/\H b≠none/\G b=none)/\dF Z G h g
theorem dG.snoc:∀{b:List V}{c:List D}{fs:List Addr}{v:V}{d:D}{f:List Addr},dG R b c fs->R v d f->dG R (b++ [v]) (c++ [d]) (fs++f)
 |_,_,_,v,d,f, .nil,r=>by simpa using dG.cons r .nil
 |_,_,_,v,d,f, .cons a e,r=>by rw[qr];exact .cons a (e.snoc r)
def Lb:∀S H Q,ux Z (n+1) (Sl wi g F src) S H Q->O7 (uy Z wi) (qJ Z g) Pb (ux Z n F) src S H Q:=by
 intro S H Q aL;rfl';obtain⟨G,ρ,P,s,en,h,q⟩:=aL;ac_rfl;refine#[G,ρ,_,s,en,h,λw hd J U H1 p it l A=>?_];refine#[λi m fw u=>m=w.length-i/\i<=w.length/\∃I t,VA Z n U H1 l I t fw u/\NN g F (w.drop i) I t P,#[_,rfl,cZ _,_,[],#[U,[],[], .refl _,λb o e=>?_,aR A _,λ_ _ h=>h,au, .nil,by simp,λb j=>?_,(en.mono p.gg).src src],hd],?_]
 .rw[aw (aC e (p.sub.free A))];exact p.sub _ _ e
 .have:b=l:=by simpa using j
  subst this;exact#[A,(by rw[au];exact λz=>nomatch z),p.sub.free A]
 intro i m fw u iT;rfl';obtain⟨rfl,hi,I,t,⟨Y,L,fs,M,X,N,off,qE,ol,nd,B,TM⟩,O⟩:=iT;ac_rfl
 by_cases bZ:i<w.length
 .obtain⟨go,_,yld⟩:=it Y u M X i
  refine .inr #[go bZ,λaz H'=>∃aG dH,VA Z n U H1 l aG dH az H'/\NN g F (w.drop (i+1)) aG dH P,λaz H' k=>#[w.length-(i+1),by lia,rfl,bZ,k],λx H3 y=>?_]
  obtain⟨G3,d,E,Cj,dv⟩:=yld x H3 bZ y;rw[nv Cj] at O;refine#[G3,I,d,_,E.sub,TM.mono E.gg,dv,O,λbC h1 fN vK=>?_];unfold Pb;dsimp only;rw[tz rfl];refine#[G3,bC,_,E.sub,vK,h1,λiC hZ v f G6 H6 x6 ow ZW Wx=>?_];have x:=E.trans x6;have R:l∈l::fs:=dE ..
  have C:∀b∈l::fs,H6 b=u b/\G6 b=none:=λb j=>by
   obtain⟨_,q2,q3⟩:=B b j;refine#[?_,x.off b q2 q3];cases e:u b with
   |none=>exact absurd e q2
   |some o=>exact x.hh _ _ e
  have Z9:H6 l=some (.lst L):=by rw[(C l R).1];exact qE
  have Wv:∀b∈f,u b=none:=λb j=>E.hh.free (Wx b j).1;have Ww:∀b∈f,∀c∈l::fs,b≠c:=λb j c hc z=>(B c hc).2.1 (by rw[<-z];exact Wv b j)
  refine#[L,Z9,by rw[ol.length];exact hZ.1,bC,_,#[G6,L++ [v],fs++f,M.trans x.gg,λb o e=>?_,λb o e=>?_,λb j hg=>x.off b (gm N j) (off b j hg),au,?_,?_,λb j=>?_,vK.mono x6.gg],hZ.2]
  .rw[aw (aC e (C l R).2)];exact x.sub _ _ e
  .rw[aw (aC e A)];exact(N.trans x.hh) _ _ e
  .refine dG.snoc (ol.imp λv d f' hf r=>r.keep x.gg λb j=>?_) (ow.keep (.refl _) λb j=>?_)
   .have Cg:b∈fs:=hf b j
    rw[aw (λz=>(jq.mp nd).1 (by rw[<-z];exact Cg))]
    exact(C b (eM _ Cg)).1
   .exact aw (Ww b j l R)
  .rw[<-ace]
   exact kD.mpr #[nd,ZW,λa ha b j=>Ne.symm (Ww b j a ha)]
  .rw[<-ace] at j
   by_cases z:b=l
   .subst z
    exact#[A,(by rw[au];exact λz=>nomatch z),(C b R).2]
   .rcases eG.mp j with j|j
    .rw[aw z,(C b j).1]
     exact#[(B b j).1,(B b j).2.1,(C b j).2]
    .rw[aw z]
     exact#[N.free (Wv b j),(Wx b j).2]
 .have e:w.drop i= []:=Bl (by lia)
  rw[e] at O;refine .inl #[(it Y u M X i).2.1 (by lia),q _ O (.ref l) (l::fs) Y u #[p.gg.trans M,X,p.hh.trans N,λb j hg=>off b (gm p.hh j) (p.off b j hg)] (.inl #[l,L,t,fs,rfl,rfl,qE,rfl,ol]) nd λb j=>#[p.hh.free (B b j).1,(B b j).2]]
variable {tg iter elt:Expr} {scope:Scope} {NC:List Str} {src:List (Option Nat)} {wi:ja} {g:eJ} {tf:mY} {md:List Nat} {rn:Nat}
def Hm(i:Nat)(e:X.calm=true)(f:X.N.Nodup)(c:cC X scope)(j:dB scope X.N src NC)(k:DI Z X tg iter wi)
  (l:∀a s H,DG Z (c5 X scope NC a s H) tg g) (m:∀a s H,DF Z (c5 X scope NC a s H) n elt tf)
  (o:swapsWith (.ListComp elt [#[tg,iter,[],0]] scope pos) (some (.Name x b)) d.line X.env=pure true:=by rfl) (p:md.getD i 0=n+1:=by rfl) (q:X.N[i]? =some x:=by rfl) (r:Loc X.env.scope x:=by subst_eqs)
  (t:X.fn x=true\/X.env.scope.names.lookup x=some .local:=by subst_eqs)
  (u:∀x,foldedSetIterable iter X.env x=pure x:=by intro _;rfl):DSt Z X md rn (.Assign [.Name x b] (.ListComp elt [#[tg,iter,[],0]] scope pos) d) (Mq md i (Sl wi g tf src)):=by
 refine(uL e f q r c j k l (λ_ _ _=>F2) m o t u).imp ?_;intro D v H w;rfl';obtain⟨B,A,E,⟨G,C,S⟩,h,M⟩:=w;ac_rfl;exact Lb v H _ (uA p S h M)
end
abbrev gL:=inClass
structure Br (Z:DC) (m qual:Str) (st:Stmt) (ps:List Str) where
 f:Addr
 fd:FuncData
 F:m8 Z.K m qual st f fd
 b:Binds Z.K fd ps []
 m:Meth Z.K Z.C m f
def tP(K:aj):Sp:=λc H Q _=>∃(a:Addr)(b:List Int),c= [.ref a]/\cJ K H a (b.map V.int)/\b.length<=63/\∀d,Q (.bl true) d
def J8:dA:=λb P=>∃a:List Int,b= [.qT a]/\a.length<=63/\P (.bl true)
def QE{Z:DC}:∀b H Q E,tP Z.K b H Q E->aU Z J8 b H Q E:=by
 rintro b H Q E ⟨a,c,rfl,f,e,q⟩;exact#[H,[.qT c],λd=>d= .bl true, .refl _, .cons (.qT f e) .nil,#[c,rfl,e,rfl],λd g v i h x dv=>by subst g;cases dv;exact q h]
def Vp(k:Nat){l:cm}{q:Program}{e:List Str}{o:(Str->Option Value)->Heap->Prop}{m:World->Heap->Prop}{d:DefRec}{K:Params->aj}(H:3*k<150)(p:l.most=some 63)(r:d.params.defaults= [])
  (t:∀(w:World)(h:Heap),m w h->(K w.params).In h)
  (F:∀(w:World)(g:Str->Option Value)(i:Addr)(h:Heap),(K w.params).In h->h.Ns mainGlobals g->g d.name=some (.ref i)->
   ∃j:FuncData,(∀(s:Shared)(u:Value),BindsTo s j #[[u],[]] [("_law_script",u)])/\∀base:Heap,(K w.params).In base->base.Ns mainGlobals g->FnOk l.prog w (K w.params) g base cz k i j ["_law_script"] (tP (K w.params))):
  dV q e o m l.row.toRowW d [] (λf v=>dy f v):=
 L2.Pl (n:=63) (k:=50) (x:="_law_script") (CX:=λ_=>cz) (sp:=λw=>tP (K w.params)) p (by decide) r #[rfl,by decide,by decide] t (λw g i h a b c=>by
  obtain⟨j,A,B⟩:=F w g i h a b c;exact#[j,A,λbase x y=>(B base x y).mono (by lia)]) (λ_ _ a C E _ G=>#[a,C,rfl,G,E,λ_=>rfl]) λ_ _ _ _ _ z=>z
def cc{c:Bool}{A B:Prop}(a:c=true->A)(b:c=false->B):if c=true then A else B:=by
 cases c with
 |true=>exact cG (a rfl)
 |false=>exact aZ (b rfl)
theorem xU{ρ:DN}(c:j->D)(p:j->Bool)(f:j->D):∀(e:List j)(d:DN)(a:List D)(N:DN->List D->Prop),(∀y∈e,∀(Y:D->Prop)(r:Prop),(p y=true->Y (f y))->(p y=false->r)->k (ρ.set i (some (c y))) λb=>if b=true then q (ρ.set i (some (c y))) Y else r)->
  (∃o,d=ρ.set i o)->a.length+e.length<=sizeLine->(∀d,N d (a++(e.filter p).map f))->lcW (rS i) k q (e.map c) d a N
 | [],d,a,N,_,_,_,h=>by
  show N d a;simpa using h d
 |y::e,d,a,N,l,#[o,s],g,h=>by
  show k (d.set i (some (c y))) _;rw[s,List.set_set];rw[cO] at g;refine l y (dE ..) _ _ (λm=>#[by lia,?_]) (λm=>?_)
  .refine xU c p f e _ (a++ [f y]) N (λz g=>l z (eM _ g)) #[_,rfl] (by simp;lia) λn=>?_
   have:=h n
   rw[abe,m] at this;simpa using this
  .refine xU c p f e _ a N (λz g=>l z (eM _ g)) #[_,rfl] (by lia) λn=>?_
   have:=h n
   rw[abe,m] at this;simpa using this
def jw{ρ:DN}(a:c->D)(f:c->D)(b:List c)(N:DN->List D->Prop)(j:∀y∈b,∀(Y:D->Prop),Y (f y)->g (ρ.set i (some (a y))) Y)(k:ρ[i]? =some none)(l:b.length<=sizeLine)(h:∀d,N d (b.map f)):lcW (rS i) wX g (b.map a) ρ [] N:=by
 refine xU (ρ:=ρ) a (λ_=>true) f b ρ [] N (λy m Y o n _=>?_) #[none,?_] (by simpa using l) λd=>by rw[List.filter_eq_self.mpr (λ_ _=>rfl),vC];exact h d
 .unfold wX
  dsimp only;rw[tz rfl];exact j y m Y (n rfl)
 .obtain⟨p,e⟩:=cX.mp k
  rw[<-e,List.set_getElem_self]
theorem AH(I:Nat->DN->Prop):∀(b:List D)(k:Nat)(a:DN),I k a->(∀(j:Nat)(d:D)(a:DN),b[j]? =some d->I (k+j) a->∀A:DN->Prop,(∀a,I (k+j+1) a->A a)->g d a λn=>m {nx:=A,ct:=A,bk:=E.nx,rt:=E.rt,xc:=E.xc} n)->
  (∀a,I (k+b.length) a->E.nx a)->nI g m E b a
 | [],k,a,c,e,f=>f a c
 |d::b,k,a,c,e,f=>by
  refine e 0 d a rfl c _ λo p=>?_
  exact AH I b (k+1) o p (λj q h r i A s=>by
   refine e (j+1) q h (by simpa using r) (by rw[show k+(j+1)=k+1+j by lia];exact i) A λl t=>s l ?_
   rw[show k+1+j+1=k+(j+1)+1 by lia];exact t) (λh i=>f h (by rw[cO,show k+(b.length+1)=k+1+b.length by lia];exact i))
def bM(I:Nat->DN->Prop)(e:I 0 a)(f:∀(j:Nat)(d:D)(a:DN),b[j]? =some d->I j a->∀A:DN->Prop,(∀a,I (j+1) a->A a)->g d a λi=>c {nx:=A,ct:=A,bk:=E.nx,rt:=E.rt,xc:=E.xc} i)
  (k:∀a,I b.length a->E.nx a):nI g c E b a:=AH I b 0 a e (λj d a l h A m=>f j d a l (by simpa using h) A λn o=>m n (by simpa using o)) (λa h=>k a (by simpa using h))
def xu{g:eJ}{c:cI}{E:c7}{lo:Int}{n:Nat}{a:DN}(I:Nat->DN->Prop)(f:I 0 a)(i:∀(j:Nat)(a:DN),j<n->I j a->∀A:DN->Prop,(∀a,I (j+1) a->A a)->g (.int (lo+j)) a λk=>c {nx:=A,ct:=A,bk:=E.nx,rt:=E.rt,xc:=E.xc} k)
  (m:∀a,I n a->E.nx a):nI g c E (dN lo n) a:=by
 have l:(dN lo n).length=n:=by unfold dN;simp
 refine bM I f (λj d a b h A o=>?_) (λa h=>m a (by rw[l] at h;exact h))
 have e:j<n:=by
  have:=(cX.mp b).1
  rw[l] at this;exact this
 rw[vi e] at b;cases FB b;exact i j a e h A o
def mH(I:Nat->DN->Prop)(g:Nat)(h:I g a)(i:∀m a,I m a->c a λb=>if b=true then f {nx:=λe=>∃d,d<m/\I d e,ct:=λe=>∃d,d<m/\I d e,bk:=E.nx,rt:=E.rt,xc:=E.xc} a else E.nx a):Jv c f E a:=#[I,#[g,h],i]
def BB:bootBuiltins "reversed"=some (.type "reversed"):=by decide+kernel
section
variable {Z:DC} {X:Cx} {a b c e:Expr} {ta tb te:bf} {t:gS} {pos:Pos}
variable {md:List Nat} {rn:Nat} {k:Expr} {tk:bf}
variable {apos aP:Pos}
variable {es:List Expr}
end
section
variable {X:Cx} {elt t0 i0 t1 i1:Expr} {f0 f1:List Expr} {scope:Scope} {pos:Pos} {wi gH:TI} {g g1:TG} {tt fj:TT} {te:TE} {src:List (Option Nat)} {NC:List Str}
end
section
variable {Z:DC} {X:Cx} {md:List Nat} {rn:Nat} {elt t0 i0 t1 i1:Expr} {f0 f1:List Expr} {scope:Scope} {pos:Pos} {wi gH:ja} {g g1:eJ} {tt fj:eu} {te:bf} {src:List (Option Nat)} {NC:List Str}
end
section
variable {Z:DC} {X:Cx} {md:List Nat} {rn:Nat} {e:Expr} {pos:Pos}
theorem DvAll.flat:∀{c:List V}{b:List D},DvAll Z G c b->b.all ft=true->DvAll Z d c b
 |_,_, .nil,_=> .nil
 |_,_, .cons a f,h=>by
  rw[aa8,vz] at h;exact .cons (a.flat h.1) (f.flat h.2)
end
def gz{l:List D}{j:Nat}{d:D}(h:(hU l)[j]? =some d):∃x,l[j]? =some x/\d= .tup [.int (j:Int),x]:=by
 unfold hU at h;rw[List.getElem?_mapIdx] at h;cases e:l[j]? with
 |none=>rw[e] at h;cases h
 |some x=>rw[e] at h;cases h;exact#[x,rfl,rfl]
def iM(l:List D):(hU l).length=l.length:=by unfold hU;simp
def cH{a b:Type}{f:a->b}{l:List a}{j:Nat}{y:b}(h:(l.map f)[j]? =some y):∃x,l[j]? =some x/\y=f x:=by
 rw[eQ] at h;cases e:l[j]? with
 |none=>rw[e] at h;cases h
 |some x=>rw[e] at h;cases h;exact#[x,rfl,rfl]
def gK(r:List Nat):(r.map ai).all ft=true:=by simp[ai,ft]
def xO{r:List Nat}{p:Nat}:inD (ai p) (r.map ai)=decide (p∈r):=by
 unfold inD;rw[acN]
 have:((λy=>i4 y (ai p))∘ai)=λq:Nat=>decide (q=p):=by
  funext q
  simp[ai,i4,Function.comp]
  by_cases z:q=p
  .simp[z]
  .have:¬(q:Int)=(p:Int):=by lia
   simp[z,this]
 rw[this]
 by_cases h:p∈r
 .rw[KM h,acf];exact#[p,h,by simp]
 .rw[Gc h]
  apply vy.mpr;intro z;rw[acf] at z;obtain⟨q,a,e⟩:=z
  exact h (by have:q=p:=by simpa using e
              rw[<-this];exact a)
def fQ{p:Nat}(h:l[p]? =some d):iJ l (p:Int)=some d:=EK h
def j7{w:List (List Nat)}{p:Nat}(h:p<w.length):(w.map av)[p]? =some (av (Wb.row w p)):=by
 rw[eQ,Wb.tB h];rfl
section
variable {Z:DC} {X:Cx} {md:List Nat} {rn:Nat} {e:Expr} {te:bf} {pos:Pos}
end
def SS(h:A):wX a (λb=>if b=true then A else B):=by
 unfold wX;dsimp only;rw[tz rfl];exact h
theorem lZ(I:DN->Prop)(e:n->D)(p:n->Bool)(f:n->D):∀(j:List n)(i:DN)(a:List D)(N:DN->List D->Prop),(∀y∈j,∀i,I i->∀(Y:DN->D->Prop)(v:DN->Prop),(∀c,I c->p y=true->Y c (f y))->(∀c,I c->p y=false->v c)->g (e y) i λc=>l c λb=>if b=true then m c (Y c) else v c)->
  I i->a.length+j.length<=sizeLine->(∀i,I i->N i (a++(j.filter p).map f))->lcW g l m (j.map e) i a N
 | [],i,a,N,_,o,_,h=>by
  show N i a;simpa using h i o
 |y::j,i,a,N,q,o,k,h=>by
  rw[cO] at k;refine q y (dE ..) i o (λc d=>a.length<sizeLine/\lcW g l m (j.map e) c (a++ [d]) N) (λc=>lcW g l m (j.map e) c a N) (λc r s=>#[by lia,?_]) (λc r s=>?_)
  .refine lZ I e p f j _ (a++ [f y]) N (λz k=>q z (eM _ k)) r (by simp;lia) λt u=>?_
   have:=h t u
   rw[abe,s] at this;simpa using this
  .refine lZ I e p f j _ a N (λz k=>q z (eM _ k)) r (by lia) λt u=>?_
   have:=h t u
   rw[abe,s] at this;simpa using this
def Su(h:b.length=1):∃d,b= [d]:=by
 cases b with
 |nil=>cases h
 |cons a l=>
  cases l with
  |nil=>exact#[a,rfl]
  |cons _ _=>cases h
def Sv(h:b.length=2):∃e c,b= [e,c]:=by
 cases b with
 |nil=>cases h
 |cons a l=>
  obtain⟨c,rfl⟩:=Su (Nat.succ.inj h);exact#[a,c,rfl]
def XG(h:b.length=3):∃f c d,b= [f,c,d]:=by
 cases b with
 |nil=>cases h
 |cons a l=>
  obtain⟨c,d,rfl⟩:=Sv (Nat.succ.inj h);exact#[a,c,d,rfl]
section
variable {Z:DC} {X:Cx} {e:Expr} {es:List Expr} {t:gS} {pos:Pos}
def aQ{a:dA}{k j:Nat}{x:Str}{st:Stmt}{c:List Str}{p:Pos}(d:eZ X.K X.mg x st c)(F:FnOk X.prog X.w X.K X.mg X.base cz k d.f d.fd c (aU Z a))(g:bQ j X.A)(h:DA Z X (e::es) t)(i:Gl X x:=by rfl)(l:k<=j:=by first|decide|lia)
  (n:(x==("__debug__":Str))=false:=by decide) (o:starEach (e::es) X.env=(false,eval e X.env)::starEach es X.env:=by rfl) (q:(backTo pos (starEach es X.env)).any (·.1)=false:=by rfl):
  DE Z X (.Call (.Name x p) (e::es) [] pos) (kG a t):=Mw F (g.mono l) i d.m d.F.kp d.b h n o q
def qv(f:Scope)(e:X.env.scope=f:=by rfl)(k:d.kind= .function:=by rfl)(a:∀x∈d.names,x.2= .local->d.names.lookup x.1=some .local:=by decide+kernel)(b:∀x∈d.names,x.2≠ .cell:=by decide+kernel)
  (c:∀x∈d.names,x.2= .free->f.names.lookup x.1=some .cell\/f.names.lookup x.1=some .free:=by decide+kernel):cC X d:=cC.of f e k a b c
end
section
variable {K:aj} {h:Heap} {mg:Str->Option Value}
abbrev PB(K:aj)(x:Str)(d:Addr):Prop:=aD K mainGlobals x=some (some (.ref d))
abbrev zi(K:aj)(x a:Str)(st:Stmt)(d:Addr)(b c:Option Addr)(e:Array (Option Value))(f kV g i j k:Value):Prop:=K.lookup d=some #[f,b, .func (b0 x a (hJ st) (cU st) (ao st) .none kV g i c j k),e]
def eZ.of{x:Str}{st:Stmt}{ps:List Str}{d:Addr}{n e:Option Addr}{o:Array (Option Value)}{p kV q f m g:Value}(X:K.In h)(G:h.Ns mainGlobals mg)(a:PB K x d)(l:zi K x x st d n e o p kV q f m g)(c:aE K m x=true)(k:aA K (.ref d)=true)
  (b:∀(kV i f:Value)(e:Option Addr)(r g:Value)(j:List Value),j.length=ps.length->bindArgs (b0 x x (hJ st) (cU st) (ao st) .none kV i f e r g) #[j,[]]=pure (ps.zip j)):eZ K mg x st ps:=
 #[d,_,jv l c k,(jv l c k).binds b,KF X G a]
def Br.of{Z:DC}{m e:Str}{st:Stmt}{ps:List Str}{d:Addr}{q g:Option Addr}{r:Array (Option Value)}{s kV t i p j:Value}(a:am Z.K (.ref Z.C) m=some (some (.ref d)))(f:bj Z.K (.ref d)=true)(l:zi Z.K m e st d q g r s kV t i p j)(c:aE Z.K p e=true)(k:aA Z.K (.ref d)=true)
  (b:∀(kV n i:Value)(g:Option Addr)(u j:Value)(o:List Value),o.length=ps.length->bindArgs (b0 m e (hJ st) (cU st) (ao st) .none kV n i g u j) #[o,[]]=pure (ps.zip o)):Br Z m e st ps:=
 #[d,_,jv l c k,(jv l c k).binds b,#[a,f,k]]
end
end L2
namespace Wb
def KA(w:W):Nat:=(w.map db).sum
def KC(w:W):KA w=((aB w.length).map λp=>(row w p).length).sum:=by
 unfold KA
 congr 1
 refine List.ext_getElem (by simp) λi b c=>?_
 rw[acg,acg,List.getElem_range];have a:i<w.length:=by simpa using b
 have:=tB a
 rw[dD a] at this;rw[FB this]
def qw(w:W):(bB w).length=KA w:=by
 rw[KC];unfold bB;rw[List.length_flatMap]
 congr 1
 apply List.map_congr_left;intro p _;rw[aV]
def gZ(g:Good w):(bB w).Nodup:=by
 unfold bB dL;refine nZ (λp _=>?_) ?_
 .rw[j8]
  exact(g.nod p).imp λne e=>ne (KB Prod.snd e)
 .refine List.Pairwise.imp ?_ aa7
  intro a b lt x c y d e;obtain⟨_,_,rfl⟩:=dO.mp c;obtain⟨_,_,rfl⟩:=dO.mp d
  have:=KB Prod.fst e
  simp at this;lia
def oP(w:W):jB (row w) w.length=(bB w).filter λd=>decide (d.1<d.2):=by
 unfold jB bB;rw[List.filter_flatMap]
 congr 1
 funext p
 rw[List.filter_map];rfl
def IU(g:Good w):2*(jB (row w) w.length).length<=KA w:=by
 rw[oP,<-qw];have i:=List.length_eq_countP_add_countP (λd:Nat×Nat=>decide (d.1<d.2)) (l:=bB w)
 have p:((bB w).filter λd=>decide (d.1<d.2)).length<=((bB w).filter λd=>decide (d.2<d.1)).length:=by
  have:=aT (l:=((bB w).filter λd=>decide (d.1<d.2)).map λd=>(d.2,d.1)) (m:=(bB w).filter λd=>decide (d.2<d.1)) ?_ ?_
  .rwa [aV] at this
  .unfold dL
   rw[j8];refine List.Pairwise.imp ?_ ((gZ g).filter _);intro a b ne e;have j:=KB Prod.fst e;have k:=KB Prod.snd e;exact ne (aaA k j)
  .intro x n
   obtain⟨d,o,rfl⟩:=dO.mp n;obtain⟨c,f⟩:=vD.mp o;refine vD.mpr #[bw.mpr (g.sym _ _ (bw.mp c)),?_];simpa using f
 have q:((bB w).filter λd=>decide (d.2<d.1)).length<=(bB w).countP λd=>!decide (d.1<d.2):=by
  rw[<-abE];apply List.countP_mono_left;intro d _ h;simp at h ⊢;lia
 rw[abE] at i
 have r:(bB w).countP (λd=>!decide (d.1<d.2))=List.countP (λa=>decide ¬(decide (a.1<a.2)=true)) (bB w):=by
  congr 1
  funext d
  by_cases h:d.1<d.2<;>simp[h]
 lia
structure RI (w:W) (bs:List Bool) (ws ex:List Nat) (c:Nat):Prop where
 len:bs.length=w.length
 z:bs[0]? =some true
 wt:∀x∈ws,bs[x]? =some true
 cl:∀x,bs[x]? =some true->x∈ws\/x∈ex\/∀q∈row w x,bs[q]? =some true
 cnt:bs.count false+ws.length<=c
def RI.pop(h:RI w bs (b++ [p]) [] (c+1)):RI w bs b [p] c:=
 #[h.len,h.z,λx a=>h.wt x (i8 _ a),λx a=>by
  rcases h.cl x a with q|q|q
  .rcases eG.mp q with q|q
   .exact .inl q
   .exact .inr (.inl q)
  .cases q
  .exact .inr (.inr q),by have:=h.cnt;rw[dh] at this;simp at this;lia]
def RI.push{w:W}(h:RI w bs f g c)(j:bs[q]? =some false):RI w (bs.set q true) (f++ [q]) g c:=by
 obtain⟨b,i⟩:=cX.mp j
 have d:∀x,bs[x]? =some true->(bs.set q true)[x]? =some true:=λx a=>by
  rw[kC]
  by_cases e:q=x
  .rw[tz e,tz b]
  .rw[mo e];exact a
 refine#[by rw[iA];exact h.len,d _ h.z,λx a=>?_,λx a=>?_,?_]
 .rcases eG.mp a with z|z
  .exact d _ (h.wt x z)
  .have:x=q:=by simpa using z
   rw[this,kC,tz rfl,tz b]
 .by_cases e:q=x
  .exact .inl (by rw[e];simp)
  .rw[kC,mo e] at a
   rcases h.cl x a with z|z|z
   .exact .inl (i8 _ z)
   .exact .inr (.inl z)
   .exact .inr (.inr λy k=>d _ (z y k))
 .have l:=h.cnt
  have:0<bs.count false:=List.count_pos_iff.mpr (by rw[<-i];exact ach b)
  rw[abF b,i,dh];simp;lia
def RI.close(h:RI w bs a [p] c)(b:∀q∈row w p,bs[q]? =some true):RI w bs a [] c:=
 #[h.len,h.z,h.wt,λx d=>by
  rcases h.cl x d with q|q|q
  .exact .inl q
  .have:x=p:=by simpa using q
   rw[this];exact .inr (.inr b)
  .exact .inr (.inr q),h.cnt]
def RI.all(g:Good w)(h:RI w bs [] [] c):bs=ak w.length true:=by
 have:=uY g (S:=λx=>bs[x]? =some true) h.z λp q b d=>by
  rcases h.cl p b with z|z|z
  .cases z
  .cases z
  .exact z q d
 refine Bp λi=>?_
 by_cases a:i<w.length
 .rw[this i a,tU,tz a]
 .rw[iG (by rw[h.len];lia),iG (by simp;lia)]
structure Ar (w:W):Prop where
 rng:∀p q,q∈row w p->q<w.length
 irr:∀p,p∉row w p
 nod:∀p,(row w p).Nodup
 sym:∀p q,q∈row w p->p∈row w q
def Good.near(g:Good w):Ar w:=#[g.rng,g.irr,g.nod,g.sym]
def Ar.good(n:Ar w)(h:∀p,p<w.length->Reach w 0 p):Good w:=#[n.rng,n.irr,n.nod,n.sym,h]
end Wb
namespace PySem
namespace F
def Ig:typeLookup (.type "list_reverseiterator") "__len__"=pure none:=by rw[typeLookup_type,builtinLookup_eq_fast];kernel_rfl
def K3:typeLookup (.type "list_reverseiterator") "__length_hint__"=pure (some (.builtin "list_reverseiterator.__length_hint__")):=by rw[typeLookup_type,builtinLookup_eq_fast];kernel_rfl
end F
section
variable {prog:Program} {w:World} {A:Around} {s:Shared} {R:Result->Shared->Prop}
variable {I:Addr} {fp wr:List Addr} {G:Array GenState->Array GenState->Prop} {n:Nat} {P:Nat->Value->Prop} {St:Nat->Shared->Prop}
def E8(W:WalksS prog w A.in1 I fp wr G n P St)(h:∀i s,St i s->s.TypeIs (.ref I) "list_reverseiterator")(S:Addr)(d:Value)(g:Nat)(c:St 0 s)(m:S∉fp)(q:I∈fp)
  (r:s.heap.get? S=some {cls:= .type "list",data:= .seq #[] g})
  (t:∀a o j,Moved (S::wr) G s a->a.heap.get? S=some {cls:= .type "list",dict:=none,data:= .seq o j,slots:= #[]}->ItemsOf P o n->R (.ok (.ret d)) a) (u:n<=sizeLine):
  wpAny (model prog w) A.in1 (Builtin.List.listExtendWith (.ref S) (.ref I) d)
   (λfin a=>match fin with| .done f=>R (.ok f) a| .again j=>j.quiet=true/\codeAny (model prog w) A j R a) (λe a=>R (.error e) a) s:=by
 have k:S≠I:=λe=>m (e▸q);unfold Builtin.List.listExtendWith;refine ir (acE (h 0 _ c) ?_);have v:Builtin.List.listSameRef (.ref S) (.ref I)=false:=by simp[Builtin.List.listSameRef,k]
 have x:(Value.type "list_reverseiterator"==Value.type "list")=false:=by decide
 have y:(Value.type "list_reverseiterator"==Value.type "tuple")=false:=by decide
 simp only[v,x,y,Bool.or_false,fE,On];refine ir (W.self 0 _ _ _ c ?_);refine ir (M2 ?_);unfold Builtin.List.listLengthHint;refine ir (abx (h 0 _ c) F.Ig ?_);show wpAny _ A.in1 (specialOf (Value.ref I) (Str.ofString "__length_hint__")>>=_) _ _ _;refine ir (abx (h 0 _ c) F.K3 ?_);generalize p:("list_reverseiterator.__length_hint__":String)=l
 wp_delta
 rw[show splitId l=some ("list_reverseiterator","__length_hint__") from by subst p;decide+kernel]
 subst p;refine ir (wpAny_isInstance (b:=true) (h 0 _ c) (by rw[isSubtype_type];kernel_rfl) ?_)
 refine AC ?_;rw[mo (by decide)]
 exact AC #[abR F.plain_extend_loop _,codeAny_extend_loopS W u _ m _ n 0 _ _ _ rfl (cZ _) c r (ItemsOf.nil P) t]
def ya(W:WalksS prog w A.in1 I fp wr G n P St)(p:∀i s,St i s->s.TypeIs (.ref I) "list_reverseiterator")(S:Addr)(q:St 0 s)(l:S∉fp)(r:I∈fp)
  (j:s.heap.get? S=some {cls:= .type "list",data:= .seq #[]})
  (t:∀a g c,Moved (S::wr) G s a->a.heap.get? S=some {cls:= .type "list",dict:=none,data:= .seq g c,slots:= #[]}->ItemsOf P g n->R (.ok (.ret .none)) a) (u:n<=sizeLine):
  wpAny (model prog w) A.in1 (Builtin.«list.__init__» #[[.ref S, .ref I],[]])
   (λfin a=>match fin with| .done f=>R (.ok f) a| .again c=>c.quiet=true/\codeAny (model prog w) A c R a) (λe a=>R (.error e) a) s:=by
 show wpAny _ A.in1 (do let k <-Builtin.List.listItems (.ref S);Builtin.List.listUpdate (.ref S) (λ_=> #[]);letGo k.toList.reverse;Builtin.List.listExtendWith (.ref S) (.ref I) .none) _ _ s
 refine ir ?_;unfold Builtin.List.listItems;refine ir (acA j rfl (AC ?_));show wpAny _ A.in1 (updateSeq S (λ_=> #[])>>=λ_=>letGo (#[]:Array Value).toList.reverse>>=λ_=>Builtin.List.listExtendWith (.ref S) (.ref I) .none) _ _ s;refine ir (wpAny_updateSeq j rfl ?_);have v:=UF (Obj.mapSeq (λ_=>(#[]:Array Value))) j rfl
 have m:∀b o,b≠S->s.heap.get? b=some o->(s.heap.update S (Obj.mapSeq (λ_=>(#[]:Array Value)))).get? b=some o:=
  λb o d e=>(P3 _ _ (Ne.symm d)).trans e
 refine ir (wpAny_letGo ?_);refine E8 W p S .none _ (W.frame 0 s _ s.toks q (bu _) λb d o e=>m b o (λh=>l (h▸d)) e) l r v (λa g c x y z=>?_) u;exact t a g c (Moved.trans W.gtrans ((Moved.refl W.grefl).then_heap (bu _) λb o d e=>m b o (λh=>d (h▸dE)) e) x) y z
def wI(W:WalksS prog w A.in1.in1 I fp wr G n P St)(j:∀i s,St i s->s.TypeIs (.ref I) "list_reverseiterator")(k:St 0 s)(l:∀b∈fp,b<s.heap.objs.size)(m:I∈fp)
  (p:∀c d f,Moved (s.heap.objs.size::wr) G {s with heap:=s.heap.push {cls:= .type "list",data:= .seq #[]}} c->
   c.heap.get? s.heap.objs.size=some {cls:= .type "list",dict:=none,data:= .seq d f,slots:= #[]}->ItemsOf P d n->Q (.ref s.heap.objs.size) c) (q:n<=sizeLine):
  wpAny (model prog w) A (call (.type "list") [.ref I]) Q E s:=by
 have r:s.heap.objs.size∉fp:=λg=>gq _ (l _ g)
 refine callType_codes (Q₁:=λobj a=>obj= .ref s.heap.objs.size/\a={s with heap:=s.heap.push {cls:= .type "list",data:= .seq #[]}}) F.called_list (F.typeCall_list_1 _) F.entry_list_init
  (code_list_new _ #[rfl,rfl]) λobj a t=>?_
 obtain⟨rfl,rfl⟩:=t;have h:(s.heap.push {cls:= .type "list",data:= .seq #[]}).get? s.heap.objs.size=some {cls:= .type "list",data:= .seq #[]}:=GM _ rfl;refine#[#[_,h,rfl],F.args_list_init_2 _ _,ya W j _ (W.frame 0 s _ s.toks k (bu _) λb _ o e=>Da _ e) r m h (λc d f g u v=>?_) q];exact#[rfl,p c d f g u v]
end
end PySem
namespace L2
open PySem PySem.Spec PyProof.Rows
section
variable {X:Cx} {Z:DC} {a b c e:Expr} {ta te:bf} {t:gS} {pos:Pos}
def LQ(K:aj)(g:TA):TE:=λh H Q=>g h H λi d=>∃l f,i= [.ref l]/\cJ K d l f/\∀q,d q=none->Q (.ref q) (upd d q (.lst f.reverse))
def FW(U:X.calm=true)(Y:Gl X "list")(c:X.mg "list"=none)(t:Gl X "reversed")(Z:X.mg "reversed"=none)(ha:PA X [a] J)
  (L:starEach [.Call (.Name "reversed" y) [a] [] m] X.env=(false,eval (.Call (.Name "reversed" y) [a] [] m) X.env)::starEach [] X.env:=by rfl) (b9:(backTo pos (starEach [] X.env)).any (·.1)=false:=by rfl)
  (ie:starEach [a] X.env=(false,eval a X.env)::starEach [] X.env:=by rfl) (Ny:(backTo m (starEach [] X.env)).any (·.1)=false:=by rfl):
  PE X (.Call (.Name "list" p) [.Call (.Name "reversed" y) [a] [] m] [] pos) (LQ X.K J):=by
 intro n s σ H Q I h;refine PP (jx I Y c nk ?_);refine UV ?_ L b9;rw[L];show wpAny _ _ (spliced ((false,eval _ X.env)::backTo pos (starEach [] X.env))) _ _ s;refine Calls.spliced_cons ?_;refine PP (jx I t Z BB ?_);refine UV (thn (ha m n s σ H _ I h) λus f #[vs,H1,z,r1,q1]=>?_) ie Ny;obtain⟨l,r,e,hl,q⟩:=q1;subst e;obtain⟨u,rfl,B⟩:=r1.one;cases B;obtain⟨d,M,p,N⟩:=z.list hl;have g:=M.length;refine call_reversed_list p.isList ?_;refine Calls.spliced_nil ?_;have O:l<f.heap.objs.size:=by obtain⟨o,ho,_⟩:=p.isList;exact Fk ho
 have vM:l≠f.heap.objs.size:=bO O;have W:=(Walks.listRev (prog:=X.prog) (w:=X.w) (A:=X.A.in1.in1) (I.ok.hd U) f.heap.objs.size l vM d.toArray).toS;have C:(f.heap.push (revObj l ((d.toArray.size:Int)-1))).IsRevIter f.heap.objs.size l ((d.toArray.size:Int)-1-((0:Nat):Int)):=#[_,GM _ rfl,rfl,by simp[revObj]]
 have E:(f.heap.push (revObj l ((d.toArray.size:Int)-1))).IsList l d.toArray:=p.isList.at λo e=>Da _ e;have F:(f.heap.push (revObj l ((d.toArray.size:Int)-1))).objs.size=f.heap.objs.size+1:=by simp[Heap.push]
 refine wI W (λi s st=>st.2.1.typeIs) #[cZ _,C,E] (λb j=>?_) (by simp) (λs' dH c' P R S=>?_) (by simpa [<-g] using N)
 .rw[show({f with heap:=f.heap.push (revObj l ((d.toArray.size:Int)-1))}:Shared).heap.objs.size=f.heap.objs.size+1 from F]
  have j:b=f.heap.objs.size\/b=l:=by simpa using j
  rcases j with rfl|rfl
  .exact aba _
  .exact zf O
 .rw[Moved.eq_with P]
  have kk:∀b o,f.heap.get? b=some o->s'.heap.get? b=some o:=λb o e=>by
   have j:=Fk e;refine P.heap b o (λv=>?_) (Da _ (Da _ e));have v:b=(f.heap.push (revObj l ((d.toArray.size:Int)-1))).objs.size\/b=f.heap.objs.size:=by simpa using v
   rw[F] at v
   rcases v with rfl|rfl
   .exact absurd j (Nat.not_lt.mpr (js _))
   .exact absurd j (gq _)
  rw[show({f with heap:=f.heap.push (revObj l ((d.toArray.size:Int)-1))}:Shared).heap.objs.size=f.heap.objs.size+1 from F] at R ⊢
  refine#[.ref (f.heap.objs.size+1),_,z.laid kk (js _) (o:= .lst r.reverse) #[by rw[Et];exact N,dH.toList,c',?_,by simpa using R],rfl,q _ (z.hok.fresh (js _))]
  refine Vals.of_get (by simp[S.1,g]) λk x w G hw=>?_
  have hk:k<r.length:=by
   have:=(cX.mp G).1
   simpa using this
  rw[List.getElem?_reverse hk] at G;obtain⟨u,hu,B⟩:=M.get G
  have:d.toArray[d.toArray.size-1-k]? =some w:=S.2 k w (by rw[<-fM];exact hw)
  have e2:d.toArray.size-1-k=r.length-1-k:=by simp[g]
  rw[e2] at this
  have:u=w:=by
   have T:d[r.length-1-k]? =some w:=by simpa using this
   rw[hu] at T;exact FB T
  rw[<-this];exact B
def Kv(t:gS):bf:=λd P=>t d λf=>match f with
 | [.lst l]=>P (.lst l.reverse)
 |_=>False
theorem E1(l:X.calm=true)(m:Gl X "list")(n:X.mg "list"=none)(o:Gl X "reversed")(r:X.mg "reversed"=none)(j:DA Z X [a] t)
  (u:starEach [.Call (.Name "reversed" i) [a] [] d] X.env=(false,eval (.Call (.Name "reversed" i) [a] [] d) X.env)::starEach [] X.env:=by rfl) (v:(backTo pos (starEach [] X.env)).any (·.1)=false:=by rfl)
  (w:starEach [a] X.env=(false,eval a X.env)::starEach [] X.env:=by rfl) (x:(backTo d (starEach [] X.env)).any (·.1)=false:=by rfl):
  DE Z X (.Call (.Name "list" p) [.Call (.Name "reversed" i) [a] [] d] [] pos) (Kv t):=by
 refine(FW l m n o r j u v w x).imp ?_;rintro E H Q ⟨G,y,P,s,z,h,q⟩;refine#[G,y,_,s,z,h,λA f F I J g dv=>?_];cases dv with
 |nil=>exact f.elim
 |cons a B=>
  cases B with
  |cons _ _=>cases a<;>exact f.elim
  |nil=>
   cases a<;>first|exact f.elim|skip
   rename_i p C A j e
   exact#[_,C,rfl,cJ.of (g.sub _ _ j),λp k=>q _ f _ _ _ (g.trans (.new g.sub k)) (.lst au (e.rev.mono (aR (g.sub.free k) _)))]
end
section
variable {Z:DC} {X:Cx} {md:List Nat} {rn:Nat} {a b e k:Expr} {pos:Pos} {ta tb te tk:bf} {t:mY}
def Wu(g h:bf):mY:=λf P=>g f λi=>∃c,i= .lst c/\h f λj=>∃d,j= .lst d/\c.length+d.length<=sizeLine/\P (c++d)
def Jy(l:DE Z X a ta)(m:DE Z X b tb):DF Z X 1 (.BinOp a .Add b pos) (Wu ta tb):=by
 refine(Ow JW l m).imp ?_;intro I H Q n;rfl';obtain⟨G,f,P,s,e,h,q⟩:=n;ac_rfl;exists G,f,_,s,e,h;rintro _ ⟨L,rfl,h⟩ M r N c u;exists r,f,_,c.sub,e.mono c.gg,h;rintro _ ⟨O,rfl,v,w⟩ R S T d y;obtain⟨U,Y,rfl,z,g⟩:=u.kN;obtain⟨k,t,rfl,A,i⟩:=y.kN;have B:=g.mono d.gg;have x:=c.trans d;refine#[_,_,_,_,rfl,rfl,d.hh _ _ (c.sub _ _ z),d.sub _ _ A,by rw[g.length,i.length];exact v,λp j=>?_]
 obtain⟨C,E,F⟩:=FO x j (B.append i);exact q _ w _ _ _ _ (x.side j) C E F
variable {tg iter elt:Expr} {ifs:List Expr} {scope:Scope} {NC:List Str} {src:List (Option Nat)} {wi:ja} {g:eJ} {tt:eu}
def Mz(f:X.calm=true)(c:cC X scope)(h:dB scope X.N src NC)(i:DI Z X tg iter wi)
  (j:∀d s H,DG Z (c5 X scope NC d s H) tg g) (l:∀d s H,Ex Z (c5 X scope NC d s H) ifs tt) (m:∀d s H,DE Z (c5 X scope NC d s H) elt te)
  (n:∀x,foldedSetIterable iter X.env x=pure x:=by intro _;rfl):DF Z X 1 (.ListComp elt [#[tg,iter,ifs,0]] scope pos) (TQ wi g tt te src):=(Ot f c h i j l m n).imp FC
variable {B:Bs} {ρ:DN} {σ:St} {H G:Hp} {fp:Nat->List Addr}
def SIx.ZQ(S:SIx Z B md ρ σ H G fp)(h:t ρ P)
  (n:∀c,P c->c.all ft=true/\∀v i d,SIx Z B md ρ σ d i fp->Ext G H i d->Dv Z i v (.lst c)->Q v d):ux Z 1 t σ H Q:=by
 exists H,ρ,P, .refl _,S.MM,h;intro c p v f i d x o F q;obtain⟨r,k⟩:=n c p;obtain⟨a,s,I,J,rfl,u,w,j,y⟩:=o.lst;cases u;obtain⟨dv,rfl⟩:=y.flat;have l:H a=none:=(q a (by rw[j];simp)).1
 have A:G a=none:=S.ex.sub.free l
 have m:Ext G H (upd G a (.lst s)) d:=by
  refine#[aR A _,λb o e=>?_,x.hh,λb C E=>?_]
  .by_cases z:b=a
   .subst z
    rw[au] at e;rw[<-e];exact w
   .rw[aw z] at e
    exact x.hh _ _ (S.ex.sub _ _ e)
  .rw[aw (λz=>C (by rw[z];exact l))];exact E
 exact k _ _ _ (S.grow m) m (.lst au (dv.flat r))
def Mv(i:Nat)(h:bf)(t:mY):cI:=λE c=>t c λd=>d.all ft=true/\∃f,c[i]? =some (some (.lst f))/\h c λl=>∃k j,l= .int k/\nP f.length k=some j/\E.nx (c.set i (some (.lst (f.set j (.lst d)))))
def qz(i:Nat)(A:DE Z X k tk)(C:DF Z X 1 e t)(r:md.getD i 0=1:=by rfl)(F:X.N[i]? =some x:=by rfl)(I:pI X.env.scope x:=by subst_eqs)(n:(x==("__debug__":Str))=false:=by decide)(J:(x==("__classdict__":Str))=false:=by decide)
  (L:∀v,assign (.Subscript (.Name x c) k f) X.env v=(do
   let o <-holding [v] (eval (.Name x c) X.env)
   let q <-holding [v,o] (eval k X.env)
   standAt f
   holding [v,o,q] (setItem o q v)
   release [v,o,q] []):=by intro _;rfl)
  (O:swapsWithSole [.Subscript (.Name x c) k f] e pos.line X.env=pure false:=by rfl) (hw:swappedStores [.Subscript (.Name x c) k f] e X.env=pure none:=by rfl)
  (p:(assignEach [.Subscript (.Name x c) k f] X.env).map (·.2)= [assign (.Subscript (.Name x c) k f) X.env]:=by rfl):DSt Z X md rn (.Assign [.Subscript (.Name x c) k f] e pos) (Mv i tk t):=by
 refine(wd C (DM (pv i F I n J) A set_list L) O hw p).imp ?_;intro D σ H P;rfl';obtain⟨B,ρ,E,⟨G,Q,S⟩,h,M⟩:=P;ac_rfl;refine S.ZQ h λd n=>#[n.1,λv G' H' u x dv=>?_];rfl';obtain⟨_,ds,p,h⟩:=n;obtain⟨l,xs,_,_,w,e3,_⟩:=u.one r p;ac_rfl;refine#[_,w,u.ev true h ?_];rintro _ ⟨k,j,rfl,R,T⟩;refine#[rfl,λv1 U H1 Y a b=>?_];rfl';cases b.ofInt;obtain⟨l',g,iC,e1,y,B3,z,put⟩:=Y.one r p;cases e1;ac_rfl;rw[w] at y;cases y;exact#[l,g,k,j,rfl,rfl,B3,by rw[z.length];exact R,M.nx _ T _ _ #[U,Q,put _ _ (z.set (dv.mono a.gg) j)]]
end
open PySem.Calls PySem.W
section
variable {X:Cx} {C:Addr} {x:Str} {p pos:Pos} {e:Expr} {es:List Expr} {te:TE} {t:TA}
def Pa(C:Addr)(t:TA):TE:=λb H Q=>t b H λc a=>c.length<=1000/\∀e,a e=none->Q (.ref e) (upd a e (pJ C e none))
def F9(M:Ha X.K C (.builtin "ValueError.__init__"))(I:Inv X a f H s)(F:c.length<=1000)(h:∀e,H e=none->Q (.ref e) (upd H e (pJ C e none))):
  wpAny (model X.prog X.w) X.A (call (.ref C) c) (EP X a f Q) X.xe s:=by
 obtain⟨G,q,N,bs,J,L,O,sub,P,l,R,S,T,U,Y,Z,i,j,m,n⟩:=M.obj;have r:=h (s.heap.objs.size+1) (I.hok.fresh (js _));have k:c.length<=sizeLine:=by rw[aaJ];lia
 have v:((s.heap.push {cls:= .type "tuple",data:= .seq c.toArray}).push (bU C s.heap.objs.size none)).get? (s.heap.objs.size+1)=some (bU C s.heap.objs.size none):=by
  have:=GM (s.heap.push {cls:= .type "tuple",data:= .seq c.toArray}) (o:=bU C s.heap.objs.size none) rfl
  rwa [aaZ] at this
 obtain⟨y,g,d,z,os⟩:=s
 refine aay (vt (init:= .builtin "ValueError.__init__") aaF j m n (I.cR _ _ i) (acm I.cR M.call) (PySem.W.looks_instIn I.cR M.typ) (abn I.cR M.ini)
  (λself=>PySem.W.Looks.of_pure (aaF.init.bind self)) k ?_)
 refine u9 aaF j (Da _ (Da _ (I.cR _ _ i))) v (λp t' B E=>?_) k;refine#[rfl,#[V.ref (y.objs.size+1),_,I.laid (t':=z) (λb u q=>E b u ?_ (Da _ (Da _ q))) (js _) (En B),rfl,r]];exact bO (zf (Fk q))
def Iu(M:Ha X.K C (.builtin "ValueError.__init__"))(c:Gl X x)(d:X.mg x=some (.ref C))(f:PA X (e::es) t)(g:(x==("__debug__":Str))=false:=by decide)
  (i:starEach (e::es) X.env=(false,eval e X.env)::starEach es X.env:=by rfl) (j:(backTo pos (starEach es X.env)).any (·.1)=false:=by rfl):
  PE X (.Call (.Name x p) (e::es) [] pos) (Pa C t):=by
 intro a s k H Q I h;refine PP (il I c d ?_ g);refine aax (h₀:=X.base) I.ok.mod.kin M.kp (thn (f pos a s k H _ I h) λm n #[o,u,b,r,l,q]=>#[b.cR,?_]) i j;exact F9 M b (by rw[vC,<-r.length];exact l) q
def RG(X:Cx)(f:TE):TS:=λ_ b H=>f b H λv c=>∃a C d,v= .ref a/\c a=some (pJ C a d)/\pQ X.K C/\mroIn X.K C (.type "BaseException")=some true/\EF X b (upd c a (kF C a d)) a
def A6(y:X.calm=true)(z:PE X e te):PS X (.Raise (some e) none pos) (RG X te):=by
 intro c s l H D I h;rw[arm_exec_Raise];refine wpAny_bind (wpAny_standAt ?_);simp only[evalOpt,Option.map];unfold raiseStmt;refine wpAny_bind (wpAny_bind (thn (z c s l H _ I h) λu f #[v,B,k,E,a,C,d,ev,m,F,i,q]=>wpAny_bind (wpAny_standAt (wpAny_pure ?_))));subst ev;obtain rfl:u=Value.ref a:=E;obtain⟨t,j⟩:=wg k.hok m;obtain⟨U,Y,N,bs,G,Z,p,sub,ab,J,dd,n,k1,k2,k3,k5,r,cB,cA,cN⟩:=F.obj;have w:=k.cR _ _ r
 have L:(Value.ref C::G).contains (.type "BaseException")=true:=by
  unfold mroIn clsIn at i;rw[r] at i;simpa using i
 have M:Inv X c l (upd B a (kF C a d)) f:=by
  refine af λG0 n=>?_;have O:=k.write (x:=a) (e:=a) (o:=kF C a d) (h':=f.heap) (t':=f.toks) (by rw[m];exact True.intro) (.inl rfl) (λb u i q=>q) #[_,j] (MS (tb:= .none) j)
  obtain⟨P,g,Q,R,os⟩:=f;refine n ?_;exact O
 have S:X.xe (.ref a) f:=q f M.Mg #[C,t, .none,d,au,j, .inl rfl];have T:X.A.handled=none:=I.ok.hd y;obtain⟨P,g,Q,R,os⟩:=f
 repeat (first|with_reducible refine wpAny_loadPart_at j ?_|with_reducible refine wpAny_loadPart_at w ?_| (with_reducible refine wpAny_isSubtype_exc w ?_;rw[L]) |wp_step)
 exact wpAny_raiseNew_none T S
end
section
variable {X:Cx} {k:Nat} {f C:Addr} {fd:FuncData} {ps:List Str} {sp:Sp} {x m:Str} {p pos apos:Pos} {e o:Expr} {es:List Expr} {ta:TE} {t:TA}
def Tc(X:Cx)(b:St):XK:=λe _ c=>∃a,e= .ref a/\EF X b c a
theorem OP{pins:List (Addr×Obj)}{σ:St}{H:Hp}{s:Shared}{Q:VK}{us:List Value}{vs:List V}(F:FnOk X.prog X.w X.K X.mg X.base (vG X.prog X.w) k f fd ps sp)(hr:bQ k X.A)(hb:Binds X.K fd ps [])
  (I:Inv X pins σ H s) (r:Vals vs us) (h:sp vs H Q (Tc X σ)):wpAny (model X.prog X.w) X.A (call (.ref f) us) (EP X pins σ Q) X.xe s:=by
 have hl:(us++ []).length=ps.length:=by rw[fG,<-r.length];exact F.len _ _ _ _ h
 have zH:=hb s us I.cR hl;rw[fG] at zH;refine wpAny_call (codeAny_mono (F.run X.A X.stack s H #[us,[]] us vs Q (Tc X σ) hr I.E5 zH r h) λr s' hq=>?_);cases r with
 |error e=>
  rfl';obtain⟨a,H',rfl,fl,a',ea,q⟩:=hq;cases ea;obtain⟨I2,f2⟩:=Qd I fl;ac_rfl;exact q s' I2 f2
 |ok fl=>
  cases fl with
  |ret u=>exact I.after hq
  |next=>exact False.elim hq
  |brk=>exact False.elim hq
  |cont=>exact False.elim hq
def Kb(X:Cx)(b:Sp)(t:TA):TE:=λa H Q=>t a H λc d=>b c d Q (Tc X a)
def Lm(F:FnOk X.prog X.w X.K X.mg X.base (vG X.prog X.w) k f fd ps sp)(c:bQ k X.A)(d:Gl X x)(g:X.mg x=some (.ref f))(i:aA X.K (.ref f)=true)(j:Binds X.K fd ps [])
  (l:PA X (e::es) t) (n:(x==("__debug__":Str))=false:=by decide) (u:starEach (e::es) X.env=(false,eval e X.env)::starEach es X.env:=by rfl) (v:(backTo pos (starEach es X.env)).any (·.1)=false:=by rfl):
  PE X (.Call (.Name x p) (e::es) [] pos) (Kb X sp t):=by
 intro a s y H Q I h;refine PP (il I d g ?_ n);refine aax (h₀:=X.base) I.ok.mod.kin i (thn (l pos a s y H _ I h) λz B #[E,G,b,r,q]=>#[b.cR,?_]) u v;exact OP F c j b r q
end
section
variable {X:Cx} {pins:List (Addr×Obj)} {σ:St} {H:Hp} {s:Shared}
def sq(I:Inv X pins σ H s)(O:X.N.Nodup)(F:X.N[i]? =some x)(P:X.env.scope.names.lookup x=some .local)
  (h:∀G,Inv X pins (σ.set i none) H G->Q () G):wpAny M A (do bindName X.env x .none;unbindBehindTheSuite X.env x u) Q E s:=by
 obtain⟨m,J,R⟩:=id I.loc;have S:(X.env.scope.kind== .class|| (X.env.scope.kind== .module&&X.env.locals !=X.env.globals))=false:=by rw[I.ok.kind];rfl
 have T:i<σ.length:=by rw[I.len];exact(cX.mp F).1
 have wK:=I.wK;refine wpAny_nameGoes_keeps P J S λU v Y f=>?_;rfl';obtain⟨oL,_,_,xI,_⟩:=id J;ac_rfl
 have a:gx X.prog X.w H U:=λb ob e=>by
  refine(I.hok b ob e).oK (λc L r q=>(f.2 c ?_).trans q) (λ_ q=>q) λ_ _ q=>q;rintro rfl
  rcases r with rfl|r
  .rw[I.free] at e;cases e
  .rw[I.free] at r;cases r
 refine h _ #[I.ok,I.os,I.bare,#[λb o e n B l=>?_,λb o e n B l=>?_,I.base.free,λb o e l=>?_,I.base.tups,I.base.frzs,I.base.tbls],#[_,Y,λj y v' g t e3=>?_],λy c e=>?_,I.free,I.freeC,λp hp=>?_,a,by simpa using I.len]
 .exact(f.2 b (bO (fk (Fk e) I.ok.above))).trans (I.base.keep b o e n B l)
 .obtain⟨sl,g⟩:=I.base.slot b o e n B l
  exact#[sl,(f.2 b (bO (fk (Fk e) I.ok.above))).trans g]
 .obtain⟨o',g⟩:=I.base.there b o e l
  exact#[o',(f.2 b (bO (fk (Fk e) I.ok.above))).trans g]
 .by_cases C:j=i
  .subst C
   rw[lL T] at t;cases FB t
  .rw[lM (Ne.symm C)] at t
   obtain⟨u',r',q⟩:=R j y v' g t e3;exists u',r'
   rcases q with ⟨k,e⟩ | ⟨k,c,e,z⟩
   .refine .inl #[k,?_]
    have:y≠x:=λe=>C (uB O g (e▸F))
    simp[this,e]
   .exact .inr #[k,c,e,z.sameBut f (wK y c e)]
 .obtain⟨L,z⟩:=I.cell y c e
  exact#[L,z.sameBut f (wK y c e)]
 .obtain⟨e,n,ne,nf,d⟩:=I.pin p hp
  exact#[(f.2 p.1 ne).trans e,n,ne,nf,d]
def Fe{K:aj}{C:Addr}{b:Value}{r:Bool}{f q:Str}{N:Addr}{bs e:List Value}{g:Bool}{h:List Str}{sub:List Value}{i:Bool}{c:Option Bool}{j:Option Addr}{k l m n o:Option Value}{a:String}
  (p:K.lookup C=some (excClassObj f q C N bs e g h sub i c j k l m n o a)) (d:mroIn K C b=some r):(Value.ref C::e).contains b=r:=by
 unfold mroIn clsIn at d;rw[p] at d;simpa using d
def MP{M:Model}{A:Around}{E:Value->Shared->Prop}{Q:Bool->Shared->Prop}{K:aj}{a C e t:Addr}{j:Value}{d:Option Addr}{b:Bool}(X:K.In s.heap)(k:s.heap.get? a=some (i5 C t j d))(l:pQ K C)(m:pQ K e)(n:mroIn K e (.type "BaseException")=some true)(o:mroIn K C (.ref e)=some b)
  (h:Q b s):wpAny M A (excMatches (.ref a) (.ref e)) Q E s:=by
 obtain⟨S,T,N,bs,U,Y,Z,sub,H,p,dd,k0,k1,k2,k3,k5,i,_⟩:=l.obj;obtain⟨q,r,N',u,v,w,x,y,z,B,F,G,I,J,L,O,c,_⟩:=m.obj;have P:=Fe i o;have R:=Fe c n
 replace i:=X _ _ i
 replace c:=X _ _ c
 have f:=tc_notTuple;obtain⟨hp,g,dr,tk,os⟩:=s;unfold excMatches
 repeat (first|with_reducible refine wpAny_loadPart_at k ?_|with_reducible refine wpAny_loadPart_at c ?_| (with_reducible refine wpAny_isSubtype_exc c ?_;rw[R]) | (with_reducible refine wpAny_isSubtype_exc i ?_;rw[P]) |wp_step)
 cases b<;>(wp_walk;exact h)
end
abbrev Cx.xH(X:Cx)(a:Addr):Cx:={X with A:=X.A.mark (some (.ref a)),calm:=false,xe:=λ_ _=>False}
abbrev Cx.tr(X:Cx)(pn:List (Addr×Obj))(E:Value->Shared->Prop):Cx:={X with pn:=pn,xe:=E}
section
variable {X:Cx} {pins pn:List (Addr×Obj)} {σ:St} {H:Hp} {s:Shared} {E:Value->Shared->Prop} {a:Addr}
theorem Inv.xH(I:Inv X pins σ H s)(a:Addr):Inv (X.xH a) pins σ H s:=
 #[#[I.ok.mod,I.ok.kind,I.ok.glob,I.ok.blt,I.ok.above,I.ok.inj,I.ok.has,I.ok.cab,(λz=>nomatch z),I.ok.frames,I.ok.stk,I.ok.exf,I.ok.bs,I.ok.bsz,I.ok.noex,I.ok.exfs,I.ok.funs,I.ok.frf],I.os,I.bare,I.base,I.loc,I.cell,I.free,I.freeC,I.pin,I.hok,I.len]
def Inv.Eg(ok:X.Ok)(I:Inv (X.xH a) pins σ H s):Inv X pins σ H s:=#[ok,I.os,I.bare,I.base,I.loc,I.cell,I.free,I.freeC,I.pin,I.hok,I.len]
theorem Inv.tr(I:Inv X pins σ H s)(E:Value->Shared->Prop):Inv (X.tr (X.pn++pins) E) [] σ H s:=
 #[#[I.ok.mod,I.ok.kind,I.ok.glob,I.ok.blt,I.ok.above,I.ok.inj,I.ok.has,I.ok.cab,I.ok.hd,I.ok.frames,I.ok.stk,I.ok.exf,I.ok.bs,I.ok.bsz,I.ok.noex,I.ok.exfs,I.ok.funs,I.ok.frf],I.os,I.bare,I.base,I.loc,I.cell,I.free,I.freeC,λp b=>I.pin p (by rw[fG] at b;exact b),I.hok,I.len]
def Inv.Gz(ok:X.Ok)(I:Inv (X.tr (X.pn++pins) E) [] σ H s):Inv X pins σ H s:=#[ok,I.os,I.bare,I.base,I.loc,I.cell,I.free,I.freeC,λp b=>I.pin p (by rw[fG];exact b),I.hok,I.len]
def B6{X:Cx}(f:wq X H s a)(h:Q () s):wpAny M A (setFlight (.ref a) none) Q E s:=by
 rfl';obtain⟨C,t,l,d,_,c,b⟩:=f;ac_rfl
 rcases b with rfl| ⟨T,rfl,_,_,_,_,_,o,j,e,g,b⟩
 .unfold setFlight
  refine ir (aaQ (x:= .none) c rfl rfl ?_);rw[mo (by decide)]
  exact AC h
 .refine wpAny_setFlight_none c rfl rfl e g (za.mp b).1 ?_
  rw[Heap.update_setField_same _ _ o j 3 .none e g b];exact h
end
def Wq:Option Nat->Ends->Ends
 |none,D=>D
 |some i,D=>{nx:=λa H=>D.nx (a.set i none) H,rt:=D.rt,bk:=λa H=>D.bk (a.set i none) H,ct:=λa H=>D.ct (a.set i none) H}
def Yp:Option Nat->Addr->St->St
 |none,_,b=>b
 |some i,a,b=>b.set i (some (.ref a))
abbrev LY:=List (Addr×Option Nat×(Addr->TS))
def Ec(K:aj):LY->Ends->St->Hp->Addr->Addr->Prop
 | [],_,_,_,_,_=>False
 | (d,n,e)::r,D,c,H,a,C=>∃b,mroIn K C (.ref d)=some b/\if b=true then e a (Wq n D) (Yp n a c) H else Ec K r D c H a C
def PH(X:Cx)(e:List ExceptHandler)(l:LY):Prop:=
 ∀(b:List (Addr×Obj))(c:St)(H:Hp)(s:Shared)(a C:Addr)(d:Option Addr)(D:Ends),Inv X b c H s->wq X H s a->H a=some (kF C a d)->pQ X.K C->Ec X.K l D c H a C->wpAny (model X.prog X.w) X.A (handleBy (.ref a) X.env e) (SP X b D) X.xe s
section
variable {X:Cx} {pos p:Pos} {c n:Str} {Cm:Addr} {ET:Stmt} {yO:List Stmt} {rest:List ExceptHandler} {l:LY} {th:Addr->TS}
def Rc:PH X [] []:=λ_ _ _ _ _ _ _ _ _ _ _ _ h=>h.elim
def MR{h:Heap}(e:kF C a d=kF f a i)(g:h.get? a=some (i5 C t b d)):C=f:=by
 have:=KB (λo=>match o with|HO.ext k=>k h|_=>True) e
 have m:∃t b,h.get? a=some (i5 f t b i):=by
  have:(∃t b,h.get? a=some (i5 C t b d))=(∃t b,h.get? a=some (i5 f t b i)):=this
  rw[<-this];exact#[t,b,g]
 obtain⟨r,q,j⟩:=m;rw[g] at j;cases j;rfl
def UW(i:Nat)(hN:X.N.Nodup)(hi:X.N[i]? =some n)(hk:X.env.scope.names.lookup n=some .local)(hg:Gl X c)(hm:X.mg c=some (.ref Cm))(xm:pQ X.K Cm)(qF:mroIn X.K Cm (.type "BaseException")=some true)(hs:∀a,jO (X.xH a) (ET::yO) (th a))(hr:PH X rest l)(eV:(c==("__debug__":Str))=false:=by decide):
  PH X (.ExceptHandler (some (.Name c p)) (some n) (ET::yO) pos::rest) ((Cm,some i,th)::l):=by
 intro pins σ H s a C d D I fl ha xc h;rfl';obtain⟨C',t,tb,d',h1,h2,h3⟩:=id fl;have eC:C'=C:=MR (Option.some.inj (h1.symm.trans ha)) h2;subst eC;obtain⟨b,hb,h⟩:=h;ac_rfl;refine wpAny_handleBy_cons (codeAny_handlers_test (wpAny_mono (il (I.xH a) hg hm ?_ eV) (λ_ _ x=>x) λ_ _ z=>z)) (by intro q;cases q)
 refine MP I.cR h2 xc xm qF hb ?_;cases b with
 |false=>exact hr pins σ H s a C' d D I fl ha xc h
 |true=>
  refine codeAny_handlers_suite_as (B6 fl ?_);refine jJ (X:=X.xH a) (v:= .ref a) (I.xH a) hN hi (.inl hk) rfl (λs1 I1=>?_) (.inr hk);refine wpAny_mono (hs a pins s1 _ H _ I1 h) (λf s2 q=>?_) λ_ _ z=>z.elim;cases f with
  |next=>obtain⟨az,H',I',q⟩:=q;exact sq (I'.Eg I.ok) hN hi hk λs3 I3=>#[_,H',I3,q]
  |brk=>obtain⟨az,H',I',q⟩:=q;exact sq (I'.Eg I.ok) hN hi hk λs3 I3=>#[_,H',I3,q]
  |cont=>obtain⟨az,H',I',q⟩:=q;exact sq (I'.Eg I.ok) hN hi hk λs3 I3=>#[_,H',I3,q]
  |ret u=>obtain⟨v,az,H',I',r,q⟩:=q;exact sq (I'.Eg I.ok) hN hi hk λs3 I3=>#[v,_,H',I3,r,q]
def YJ(X:Cx)(g:List (Addr×Obj)->(Value->Shared->Prop)->TS)(h:TS)(l:LY):TS:=λD i H=>∀e E,(∀f b a C d,b a=some (kF C a d)->pQ X.K C->Ec X.K l D f b a C->EF (X.tr e E) f b a)->g e E {D with nx:=h D} i H
theorem Ri{body orelse:List Stmt}{h₀:ExceptHandler}{hs:List ExceptHandler}{tb:List (Addr×Obj)->(Value->Shared->Prop)->TS}{to:TS}(ig:X.stack=X.env::X.outer)(Nk:X.env.frame=some X.env.locals)
  (hb:∀pn E,jO (X.tr pn E) body (tb pn E)) (ho:jO X orelse to) (hh:PH X (h₀::hs) l):PS X (.Try body (h₀::hs) orelse [] pos) (YJ X tb to l):=by
 intro pins s σ H D I h;refine wpAny_Try_except ?_
 let E':Value->Shared->Prop:=λe s₁=>wpAny (model X.prog X.w) X.A (noteFrame e X.env) (λ_ Bd=>wpAny (model X.prog X.w) X.A (setFlight e none) (λ_ Gq=>wpAny (model X.prog X.w) X.A (handleBy e X.env (h₀::hs)) (SP X pins D) X.xe Gq) X.xe Bd) X.xe s₁
 have hw:=h (X.pn++pins) E' λaz H' a C d h1 h2 h3=>by
  intro s1 I1 f1;refine AU (X:=X.tr (X.pn++pins) E') ig Nk I1 f1 λs2 I2 f2=>?_;rfl';have Y5:=I2.Gz I.ok;obtain⟨C',t,tb,d',g1,g2,g3⟩:=f2;ac_rfl;refine hh pins az H' s2 a C d D Y5 #[C',t,tb,d',g1,g2,g3.imp id λ#[T,e1,e2,e3,e4,e5,e6]=>#[T,e1,e2,e3,e4,λp hp=>e5 p (i8 _ hp),e6]] h1 h2 h3
 refine wpAny_mono (hb _ E' [] s σ H _ (I.tr E') hw) (λf s1 q=>?_) λ_ _ z=>z;cases f with
 |next=>obtain⟨az,H',I',q⟩:=q;exact ho pins s1 az H' D (I'.Gz I.ok) q
 |brk=>obtain⟨az,H',I',q⟩:=q;exact#[az,H',I'.Gz I.ok,q]
 |cont=>obtain⟨az,H',I',q⟩:=q;exact#[az,H',I'.Gz I.ok,q]
 |ret u=>obtain⟨v,az,H',I',r,q⟩:=q;exact#[v,az,H',I'.Gz I.ok,r,q]
end
abbrev GR:=List D->(D->Prop)->(D->Prop)->Prop
def lC(Z:DC)(f:GR):Sp:=λg H Q E=>∃(G:Hp)(e:List D)(P R:D->Prop),aJ G H/\DvAll Z G g e/\f e P R/\(∀d,P d->∀v b c,Ext G H b c->Dv Z b v d->Q v c)/\∀d,R d->∀a b c,Ext G H b c->Dv Z b (.ref a) d->E (.ref a) none c
section
variable {P:Program} {w:World} {K:aj} {mg:Str->Option Value} {base:Heap} {Z:DC}
def m8.okX{x a:Str}{st:Stmt}{f:Addr}{g:FuncData}{N d:List Str}{k:Nat}{e:Sp}{h:pF}(F:m8 K x a st f g)(S:aF N d (ao st))(len:∀b H Q E,e b H Q E->b.length=d.length)
  (i:∀(c:Value)(A:Around)(outer:List Env)(s:Shared)(H:Hp)(b:List V)(Q:VK)(E:XK),bQ k (A.deeper (envOfC a (ao st) s.heap.objs.size f c))->e b H Q E->
   ∃t,jO (jS h P w K mg base N a (ao st) f c A outer s H E) (cU st) t/\t {nx:=λ_ j=>Q .aY j,rt:=Q} (start N b) H):FnOk P w K mg base h (k+1) f g d e:=by
 rfl';obtain⟨u,v,kV,m,y,z,c,B,C,rfl,n,o⟩:=F.ex;ac_rfl;exact MV n o S len λA outer s H b Q E p q=>i c A outer s H b Q E p q
theorem uc{x b:Str}{st:Stmt}{f:Addr}{B:FuncData}{N m:List Str}{k:Nat}{p:GR}(F:m8 K x b st f B)(S:aF N m (ao st))(C:List Nat)(J:∀i,i<m.length->C.getD i 0=0)(len:∀c P R,p c P R->c.length=m.length)
  (L:∀(n:Value)(A:Around)(outer:List Env)(s:Shared)(H:Hp)(E:XK)(c:List D)(R g:D->Prop),bQ k (A.deeper (envOfC b (ao st) s.heap.objs.size f n))->p c R g->
   ∃t,mV Z (jS (vG P w) P w K mg base N b (ao st) f n A outer s H E) C 0 (cU st) t/\t {nx:=λ_=>R .aY,rt:=R,xc:=λ_ d=>g d} (iV N c)):FnOk P w K mg base (vG P w) (k+1) f B m (lC Z p):=by
 refine F.okX S (λM H Q E h=>?_) (λn A outer s H M Q E O h=>?_)
 .obtain⟨G,c,R,g,s,dv,h,q⟩:=h
  rw[dv.length];exact len _ _ _ h
 rfl';obtain⟨G,c,R,g,U,dv,h,q,X⟩:=h;obtain⟨t,Y,hq⟩:=L n A outer s H E c R g O h;have hl:=len _ _ _ h;ac_rfl;refine#[_,Y,#[G,H,G],_,_,#[G,λ_=> [],?_],hq,#[λρ K5 az j #[l,fp,r]=>q _ K5 _ l j r.ex .aY,λd u v f l j x o nd nw=>q d u v l j x o.1,λ_ z=>z.elim,λ_ z=>z.elim,λρ d u az j l fp a r y s2 I2 f2=>MU I2 f2 (X d u a l j r.ex y)]];refine#[.refl U, .refl _,by unfold iV start;simp[dv.length],λi d e=>?_,λ_=>iH,(λ_ _ _ _ z=>by cases z),(λ_ _ z=>by cases z)]
 unfold iV at e
 have I:i<c.length:=by
  apply FS;intro z;rw[i7 (by simpa using jo z),tU] at e
  split at e<;>cases e
 rw[gn (by simpa using I),eQ] at e
 have hZ:c[i]? =some d:=by
  cases z:c[i]? with
  |none=>rw[z] at e;cases e
  |some d'=>rw[z] at e;cases e;rfl
 obtain⟨v,hv,y⟩:=dv.get hZ;refine#[v,?_,by rw[J i (by lia)];exact#[y,rfl]]
 unfold start;rw[gn (by simpa [dv.length] using I),eQ,hv];rfl
end
section
variable {Z:DC} {X:Cx} {md:List Nat} {rn:Nat} {st:Stmt} {Gn:List Stmt} {t:gS} {e x1 y1:Expr} {es:List Expr} {tx ty:bf} {sd:GR} {k j:Nat} {x:Str} {ps:List Str} {p pos aP:Pos}
def PM(b:List Nat)(c:GR)(t:gS)(K:c7->DN->D->Prop):cI:=λE a=>t (cT b a) λd=>c d (K E a) (E.xc a)
def EU{B:Bs}{b:DN}{g:St}{H G:Hp}{i:Nat->List Addr}{E:c7}{r:Ends}{K:D->Prop}{Q:VK}(S:SIx Z B md b g H G i)(h:t (cT md b) λl=>sd l K (E.xc b))(M:Meets Z X B md rn E r)
  (q:∀d,K d->∀v c f,SIx Z B md b g f c i->Dv Z c v d->Q v f):Kb X (lC Z sd) (xY Z t) g H Q:=by
 refine#[G,_,_,S.ex.sub,S.xp,h,λl s y u z n w=>?_];have o:=S.grow n;exact#[u,l,K,E.xc b,n.sub,w,s,λd m v c f x dv=>q d m v c f (o.grow x) dv,λd m a c f x dv=>#[a,rfl,M.xc b d m g f c i a (o.grow x) dv]]
def t8(d:eZ X.K X.mg x st ps)(F:FnOk X.prog X.w X.K X.mg X.base (vG X.prog X.w) k d.f d.fd ps (lC Z sd))(c:bQ j X.A)(g:DA Z X (e::es) t)(i:Gl X x:=by rfl)(l:k<=j:=by first|decide|lia)
  (n:(x==("__debug__":Str))=false:=by decide) (o:starEach (e::es) X.env=(false,eval e X.env)::starEach es X.env:=by rfl) (q:(backTo aP (starEach es X.env)).any (·.1)=false:=by rfl) (r:swapsWith (.Call (.Name x p) (e::es) [] aP) none pos.line X.env=pure false:=by rfl):
  DSt Z X md rn (.Expr (.Call (.Name x p) (e::es) [] aP) pos) (PM md sd t λE a _=>E.nx a):=by
 refine(iu (Lm F (c.mono l) i d.m d.F.kp d.b g n o q) r).imp ?_;intro D J H s;rfl';obtain⟨B,a,E,⟨G,y,S⟩,h,M⟩:=s;ac_rfl;exact EU S h M λd z v C N I dv=>M.nx _ z _ _ #[C,y,I]
structure XE (K:aj) (C:Addr):Prop where
 cls:kh K C
 obj:pQ K C
def IZ(H:Hp)(a:Addr)(o u:HO):upd (upd H a o) a u=upd H a u:=by
 funext b
 by_cases h:b=a
 .rw[h,au,au]
 .rw[aw h,aw h,aw h]
def F5(S:SIx Z B md b c H G d)(h:E.xc b (.err C [] []))(M:Meets Z X B md rn E f)(g:H a=none):EF X c (upd (upd H a (pJ C a none)) a (kF C a none)) a:=by
 rw[IZ];have x:Ext G H (upd G a (kF C a none)) (upd H a (kF C a none)):= .new S.ex.sub g;exact M.xc b _ h c _ _ d a (S.grow x) (.err au (.inl #[rfl,rfl,rfl]) .nil)
def ML:Option Nat->c7->c7
 |none,E=>{E with xc:=λ_ _=>False}
 |some i,E=>{nx:=λa=>E.nx (a.set i none),rt:=E.rt,bk:=λa=>E.bk (a.set i none),ct:=λa=>E.ct (a.set i none)}
def OQ:Option Nat->D->DN->DN
 |none,_,a=>a
 |some i,d,a=>a.set i (some d)
abbrev Bq:=List (Addr×Option Nat×cI)
def Tq(K:aj)(C:Addr):Bq->c7->DN->D->Prop
 | [],_,_,_=>False
 | (c,n,f)::r,E,a,d=>∃b,bv K C (.ref c)=some b/\if b=true then f (ML n E) (OQ n d a) else Tq K C r E a d
def Tp(K:aj)(l:Bq)(E:c7)(a:DN):D->Prop
 | .err C b c=>pQ K C/\Tq K C l E a (.err C b c)
 |_=>False
def Wa(K:aj)(tb a:cI)(l:Bq):cI:=λE b=>tb {E with nx:=a E,xc:=Tp K l E} b
def SIx.drop{ρ:DN}{i:Nat}(S:SIx Z B md ρ b H G d):SIx Z B md (ρ.set i none) (b.set i none) H G d where
 ex:=S.ex
 fl:=S.fl
 len:=by rw[iA,iA];exact S.len
 at_:=λj c h=>by
  by_cases z:i=j
  .subst z
   by_cases a:i<ρ.length
   .rw[lL a] at h;cases h
   .rw[Bj (jo a),iG (jo a)] at h;cases h
  .rw[lM z] at h ⊢
   exact S.at_ j c h
 nd:=S.nd
 ap:=S.ap
 nw:=S.nw
def Sw(Z:DC)(X:Cx)(b:List Nat)(d:Nat)(l:Bq):LY:=l.map λc=>(c.1,c.2.1,λa=>l5 Z (X.xH a) b d c.2.2)
def QP(a:List Nat)(l:Bq):Prop:=∀c∈l,∀i,c.2.1=some i->a.getD i 0=0
def DHs(Z:DC)(X:Cx)(a:List Nat)(b:Nat)(c:List ExceptHandler)(l:Bq):Prop:=PH X c (Sw Z X a b l)/\QP a l
theorem AL{B:Bs}{E:c7}{s:Ends}(M:Meets Z X B md rn E s){q:DN}{u:St}{H G:Hp}{v:Nat->List Addr}(S:SIx Z B md q u H G v){a C:Addr}{d:D}(dv:Dv Z G (.ref a) d){K:aj}:∀(l:Bq),QP md l->Tq K C l E q d->Ec K (Sw Z X md rn l) s u H a C
 | [],_,h=>h
 | (L,n,F)::r,ok,#[b,I,h]=>by
  exists b,I;cases b with
  |false=>exact aZ (AL M S dv r (λc J=>ok c (eM _ J)) (h))
  |true=>
   have h:F (ML n E) (OQ n d q):=h;refine cG ?_;cases n with
   |none=>exact#[B,q,_,#[G,v,S],h,#[M.nx,M.rt,M.bk,M.ct,λ_ _ z=>z.elim]]
   |some i=>
    refine#[B,_,_,#[G,_,S.oI (ok _ (dE ..) i rfl) dv],h,#[λw f y A #[g,m,o]=>M.nx _ f _ _ #[g,m,o.drop],M.rt,λw f y A #[g,m,o]=>M.bk _ f _ _ #[g,m,o.drop],λw f y A #[g,m,o]=>M.ct _ f _ _ #[g,m,o.drop],λ_ _ z=>z.elim]]
def P6(v:∀g E,mV Z (X.tr g E) md rn c tb)(w:mV Z X md rn b o)(q:DHs Z X md rn (f::n) l)(y:X.stack=X.env::X.outer:=by rfl)(z:X.env.frame=some X.env.locals:=by rfl):
  DSt Z X md rn (.Try c (f::n) b [] pos) (Wa X.K tb o l):=by
 refine(Ri (tb:=λg E=>l5 Z (X.tr g E) md rn tb) y z v w q.1).imp ?_;intro P Q H A g R F;rfl';obtain⟨B,J,E,S,h,M⟩:=A;ac_rfl;refine#[B,J,_,S,h,#[λr L s u i=>#[B,r,E,i,L,M],M.rt,M.bk,M.ct,λr d m s u G U a i dv=>?_]];cases d<;>first|exact False.elim m|skip
 rename_i C Y e
 have N:=dv;cases dv with
 |err O j k=>exact F s u a C _ (i.ex.sub _ _ O) m.1 (AL M i N l q.2 m.2)
def P1:DHs Z X md rn [] []:=#[Rc,λc a=>by cases a]
variable {c n:Str} {Cm:Addr} {ET:Stmt} {yO:List Stmt} {rest:List ExceptHandler} {l:Bq} {th:cI}
def TF(i:Nat)(g:X.N.Nodup)(h:X.mg c=some (.ref Cm))(d:XE X.K Cm)(m:∀a,mV Z (X.xH a) md rn (o::yO) th)(f:DHs Z X md rn rest l)(q:Gl X c:=by rfl)(r:(c==("__debug__":Str))=false:=by decide)(s:X.N[i]? =some n:=by rfl)(u:X.env.scope.names.lookup n=some .local:=by rfl)(v:md.getD i 0=0:=by rfl):
  DHs Z X md rn (.ExceptHandler (some (.Name c p)) (some n) (o::yO) pos::rest) ((Cm,some i,th)::l):=
 #[UW i g s u q h d.obj d.cls.be m f.1 r,λc b=>by
  rcases b8.mp b with rfl|b
  .intro i z;cases z;exact v
  .exact f.2 c b]
end
section
variable {X:Cx}
def MO(hok:gx P w H h)(e:H a=some (kF C a b))(k:Kj H b c d):∃f b,PySem.W.InstAt h a f C b:=by
 obtain⟨t,j,e⟩:=JF hok e
 rcases k with ⟨rfl,_,_⟩ | ⟨l,rfl,g,_⟩
 .exact#[_,none,e,rfl,rfl,trivial]
 .obtain⟨_,m,⟨o,_,_,i,_⟩,_⟩:=Eo hok g
  exact#[_,some o,e,rfl,rfl,i]
structure Px (K:aj):Prop where
 hn:aS K (.builtin "object.__class__") "__get__"=some (some (.builtin "getset_descriptor.__get__"))
 htk:cF K (.builtin "object.__class__")=some true
theorem zr(i:Px X.K):
  CallR X (.builtin "isinstance") (λg H Q=>∃(a C:Addr)(f:Option Addr)(j:List Str)(k:List V)(c:V)(d:Value)(b:Bool),g= [.ref a,c]/\H a=some (kF C a f)/\Kj H f j k/\kh X.K C/\Jm c d/\ac X.K (.ref C) d=some b/\Q (.bl b) H):=by
 intro l s B H g E Q I o h;rfl';obtain⟨a,C,f,j,k,c,d,b,rfl,r,t,u,v,e,q⟩:=h;obtain⟨G,w,rfl,x,m⟩:=o.two;subst x;obtain⟨L,y,J⟩:=MO I.hok r t;ac_rfl
 have A:w=d:=by
  cases v with
  |own D=>exact m
  |blt n=>exact m
 subst A;exact SL (K8 u i.hn i.htk) I.cR J e (λz=>nomatch z) λM=>#[.bl b,H,I.tok _,rfl,q]
end
section
variable {Z:DC} {X:Cx} {a c:Expr} {cs:List Expr} {ta:bf} {p pos:Pos}
def PU(K:aj)(e:Value)(t:bf):bf:=λf P=>t f λd=>match d with
 | .err C _ _=>kh K C/\∃b,ac K (.ref C) e=some b/\P (.bl b)
 |_=>False
def bR{K:aj}{f:V}{g:Value}(i:Px K)(o:Jm f g)(j:PE X c (tC f))(r:DE Z X a ta)(t:Gl X "isinstance")(u:X.mg "isinstance"=none)(m:starEach [a,c] X.env=(false,eval a X.env)::starEach [c] X.env:=by rfl)
  (w:(backTo pos (starEach [c] X.env)).any (·.1)=false:=by rfl) (x:starEach [c] X.env=(false,eval c X.env)::starEach [] X.env:=by rfl) (y:X.K=K:=by rfl):
  DE Z X (.Call (.Name "isinstance" p) [a,c] [] pos) (PU K g ta):=by
 subst y;refine(uK (zr i) t u (by decide+kernel) (bS r (bS j fU x) m) (by decide) (by decide) m w).imp ?_
 intro T H Q z;rfl';obtain⟨G,B,P,s,e,h,q⟩:=z;ac_rfl;refine#[G,B,_,s,e,h,λd n v E F l dv=>?_];cases dv<;>first|exact n.elim|skip
 rename_i a C I J L U M N Y
 rfl';obtain⟨O,b,R,S⟩:=n;ac_rfl;exact#[a,C,I,J,L,f,g,b,rfl,l.sub _ _ M,N.mono l.sub,O,o,R,q _ S _ E F l (.bl _)]
def d9(b:X.mg x=some (.ref C))(d:Gl X x:=by rfl)(e:(x==("__debug__":Str))=false:=by decide):PE X (.Name x pos) (tC (.ref C)):=FU d b (v:= .ref C) rfl e
def US(b:X.mg "ValueError"=none)(d:Gl X "ValueError":=by rfl):PE X (.Name "ValueError" pos) (tC (.ty "ValueError")):=FR d b (by decide+kernel) rfl (by decide) (by decide)
def To(K:aj)(f:Str)(t:bf):bf:=λb P=>t b λd=>match d with
 | .err C e g=>kh K C/\fO K C f/\∃y,(e.zip g).lookup f=some y/\P y
 |_=>False
theorem Kd:∀{b:List Str}{d:List V}{e:List D},DvAll Z G d e->(b.zip e).lookup f=some y->∃v,(b.zip d).lookup f=some v/\Dv Z G v y
 | [],_,_,_,h=>by cases h
 |k::b,_,_, .nil,h=>by cases h
 |k::b,_,_, .cons a g,h=>by
  rw[List.zip_cons_cons] at h ⊢
  by_cases z:(f==k)=true
  .rw[bc,z] at h
   cases FB h;exact#[_,by rw[bc,z],a]
  .have z:(f==k)=false:=by simpa using z
   rw[bc,z] at h;obtain⟨v,i,j⟩:=Kd g h;exact#[v,by rw[bc,z];exact i,j]
def Vh(K:aj)(e:TE)(f:Str):TE:=λg H Q=>e g H λx b=>∃a C d fs v,x= .ref a/\b a=some (kF C a (some d))/\b d=some (zl d fs)/\kh K C/\fO K C f/\fs.lookup f=some v/\Q v b
def Oo(k:PE X e i)(m:attributeBase e f X.env (eval e X.env)=eval e X.env):PE X (.Attribute e f pos) (Vh X.K i f):=by
 intro b s w H Q I h;refine EL m (thn (k b s w H _ I h) λu P y=>?_);rfl';obtain⟨x,A,d,B,a,C,R,fs,v,E,F,G,c,n,l,q⟩:=y;ac_rfl;subst E;obtain rfl:u=Value.ref a:=B;rfl';obtain⟨t,S,e⟩:=JF d.hok F;obtain⟨_,J,L,r,_⟩:=Eo d.hok G;obtain⟨u,M,j⟩:=ke.some_of (v:=v) (o:=J f) (by rw[<-l];exact r f)
 obtain⟨od,N,O⟩:=qL L;ac_rfl;exact GD d.cR (od:=some od) #[e,rfl,rfl,N] c (PySem.W.findObj_own c.hd n rfl (by rw[O,M])) (xC j) #[v,A,d.tok _,j,q]
def wZ{K:aj}{f:Str}(i:Px K)(l:DE Z X a ta)(m:attributeBase a f X.env (eval a X.env)=eval a X.env:=by rfl)(n:X.K=K:=by rfl):DE Z X (.Attribute a f pos) (To K f ta):=by
 subst n;refine(Oo l m).imp ?_;intro O H Q o;rfl';obtain⟨G,t,P,s,e,h,q⟩:=o;ac_rfl;refine#[G,t,_,s,e,h,λd j v w x g dv=>?_];cases dv<;>first|exact j.elim|skip
 rename_i a C R S T U z A B
 rfl';obtain⟨E,F,y,k,I⟩:=j;obtain⟨u,J,L⟩:=Kd B k;ac_rfl
 rcases A with ⟨_,rfl,_⟩ | ⟨M,rfl,N,_⟩
 .cases k
 .exact#[a,C,M,_,u,rfl,g.sub _ _ z,g.sub _ _ N,E,F,J,q _ I _ w x g L]
end
structure GZ (k:Nat) (A:Around):Prop where
 dp:A.depth+3*k+5<recursionLimit
 un:A.units+16*k+200<cLine
def bQ.toH(r:bQ k A)(a:1<=k:=by decide):GZ 1 (A.mark h):=#[by have:=r.dp;show A.depth+3*1+5<_;lia,by have:=r.un;show A.units+16*1+200<_;lia]
structure Pt (P:Program) (w:World) (K:aj) (mg:Str->Option Value) (base:Heap) (k:Nat) (f:Addr) (fd:FuncData) (ps:List Str) (sp:Sp):Prop where
 len:∀vs H Q E,sp vs H Q E->vs.length=ps.length
 run:∀(A:Around)(outer:List Env)(s:Shared)(H:Hp)(args:Args)(us:List Value)(vs:List V)(Q:VK)(E:XK),GZ k A->Env0 P w K mg base A outer s H->BindsTo s fd args (ps.zip us)->Vals vs us->sp vs H Q E->
  codeAny (model P w) A (.call (.ref f) args) (CR cz outer P w H s Q E) s
abbrev PL(P:Program)(w:World)(K:aj)(c:Str->Option Value)(base:Heap)(N:List Str)(b:Str)(a:Scope)(f:Addr)(d:Value)(A:Around)(outer:List Env)(s:Shared)(H:Hp):Cx:=
 {jS cz P w K c base N b a f d A outer s H E0 with calm:=false,xe:=λ_ _=>False}
section
variable {P:Program} {w:World} {K:aj} {mg:Str->Option Value} {base:Heap} {Z:DC}
theorem m8.QP{x qual:Str}{st:Stmt}{f:Addr}{fd:FuncData}{N ps:List Str}{sp:Sp}(F:m8 K x qual st f fd)(S:aF N ps (ao st))(len:∀vs H Q E,sp vs H Q E->vs.length=ps.length)
  (gB:∀(aX:Value)(A:Around)(outer:List Env)(s:Shared)(H:Hp)(vs:List V)(Q:VK)(E:XK),A.units+64<cLine->sp vs H Q E->
   ∃t,jO (PL P w K mg base N qual (ao st) f aX A outer s H) (cU st) t/\t {nx:=λ_ H'=>Q .aY H',rt:=Q} (start N vs) H):Pt P w K mg base 1 f fd ps sp:=by
 rfl';obtain⟨oc,od,kV,doc,pm,an,aX,ct,Ae,rfl,lk,eU⟩:=F.ex;ac_rfl;refine#[len,λA outer s H args us vs Q E hr e0 hb r ui=>?_];have hl:=len _ _ _ _ ui;have KX:K.In s.heap:=e0.mod.kin.keeps λb o e=>(e0.bs b o e).1;have lim:s.heap.NoLimit:=e0.mod.nolimit.keeps λb o e=>(e0.bs b o e).1
 have HH:∀y∈ps.zip us,(ao st).names.lookup y.1=some .local\/((ao st).names.lookup y.1=some .cell/\((cellsFrom (s.heap.objs.size+1) (ao st).names []).lookup y.1).isSome=true):=λ#[n,v] hy=>by
  rcases S.par n (List.of_mem_zip hy).1 with q|q
  .exact .inl q
  .exact .inr #[q,PySem.W.cellsFrom_some _ _ _ (.inl q)]
 refine codeAny_call_function (by have:=hr.dp;lia) (KX _ _ lk) rfl S.co S.gen rfl (PySem.W.codeRec_of KX eU) (hb _ _ _ _ ?_)
 refine wpAny_newFunctionEnv_cells S.kind HH λenv he s1 x=>?_;subst he;obtain⟨t,ht,hq⟩:=gB aX A outer s H vs Q E (by have:=hr.un;lia) ui
 refine#[lim.keeps x.toInCall.keep,codeAny_func ?_];have e1:Env0 P w K mg base {A with handled:=none} outer s H:=#[e0.frames,e0.mod,e0.bs,e0.bsz,e0.funs,e0.frf,e0.hok,e0.bare]
 have I0:=xP (CX:=cz) (N:=N) (qual:=qual) (f:=f) (cd:=aX) (E:=E0) S (A:={A with handled:=none}) rfl e1 hl r x
 have I:Inv (PL P w K mg base N qual (ao st) f aX A outer s H) [] (start N vs) H s1:=
  #[#[I0.ok.mod,I0.ok.kind,I0.ok.glob,I0.ok.blt,I0.ok.above,I0.ok.inj,I0.ok.has,I0.ok.cab,(λz=>nomatch z),I0.ok.frames,I0.ok.stk,I0.ok.exf,I0.ok.bs,I0.ok.bsz,I0.ok.noex,I0.ok.exfs,I0.ok.funs,I0.ok.frf],I0.os,I0.bare,I0.base,I0.loc,I0.cell,I0.free,I0.freeC,I0.pin,I0.hok,I0.len]
 refine wpAny_mono (ht [] s1 (start N vs) H _ I hq) (λfl s' hs=>?_) λe s' hs=>hs.elim
 have fin:∀{az:St}{H':Hp}{v:V}{u:Value},Inv (PL P w K mg base N qual (ao st) f aX A outer s H) [] az H' s'->RelV v u->Q v H'->CE outer P w H s Q u s':=
  λ {az H' v u} J rv q=>#[v,H',J.os,J.bare,J.base,J.hok,rv,q]
 cases fl with
 |ret u=>
  obtain⟨v,az,H',J,rv,q⟩:=hs;exact fin J rv q
 |next=>
  obtain⟨az,H',J,q⟩:=hs;exact fin (v:=V.aY) (u:=Value.none) J rfl q
 |brk=>
  obtain⟨_,_,_,q⟩:=hs;exact False.elim q
 |cont=>
  obtain⟨_,_,_,q⟩:=hs;exact False.elim q
theorem KN{x c:Str}{st:Stmt}{f:Addr}{m:FuncData}{N e:List Str}{g:dA}(F:m8 K x c st f m)(S:aF N e (ao st))(n:List Nat)(r:∀i,i<e.length->n.getD i 0=0)(len:∀a P,g a P->a.length=e.length)
  (u:∀(j:Value)(A:Around)(outer:List Env)(s:Shared)(H:Hp)(a:List D)(R:D->Prop),A.units+64<cLine->g a R->
   ∃t,mV Z (PL P w K mg base N c (ao st) f j A outer s H) n 0 (cU st) t/\t {nx:=λ_=>R .aY,rt:=R} (iV N a)):Pt P w K mg base 1 f m e (aU Z g):=by
 refine F.QP S (λy H Q E h=>?_) (λj A outer s H y Q E B h=>?_)
 .obtain⟨G,a,R,s,dv,h,q⟩:=h
  rw[dv.length];exact len _ _ h
 rfl';obtain⟨G,a,R,I,dv,h,q⟩:=h;obtain⟨t,J,L⟩:=u j A outer s H a R B h;have hl:=len _ _ h;ac_rfl;refine#[_,J,#[G,H,G],_,_,#[G,λ_=> [],?_],L,#[λρ M az k #[l,fp,O]=>q _ M _ l k O.ex .aY,λd T v f l k x o nd nw=>q d T v l k x o.1,λ_ z=>z.elim,λ_ z=>z.elim,λ_ _ z=>z.elim]];refine#[.refl I, .refl _,by unfold iV start;simp[dv.length],λi d b=>?_,λ_=>iH,(λ_ _ _ _ z=>by cases z),(λ_ _ z=>by cases z)]
 unfold iV at b
 have p:i<a.length:=by
  apply FS;intro z;rw[i7 (by simpa using jo z),tU] at b
  split at b<;>cases b
 rw[gn (by simpa using p),eQ] at b
 have U:a[i]? =some d:=by
  cases z:a[i]? with
  |none=>rw[z] at b;cases b
  |some d'=>rw[z] at b;cases b;rfl
 obtain⟨v,X,Y⟩:=dv.get U;refine#[v,?_,by rw[r i (by lia)];exact#[Y,rfl]]
 unfold start;rw[gn (by simpa [dv.length] using p),eQ,X];rfl
end
section
variable {Z:DC} {X:Cx} {e:Expr} {es:List Expr} {t:gS} {pos:Pos}
def Kx{sd:dA}{k:Nat}{x:Str}{st:Stmt}{ps:List Str}{p:Pos}(d:eZ X.K X.mg x st ps)(F:Pt X.prog X.w X.K X.mg X.base k d.f d.fd ps (aU Z sd))(hr:GZ k X.A)(ha:DA Z X (e::es) t)(hg:Gl X x:=by rfl)
  (eV:(x==("__debug__":Str))=false:=by decide) (he:starEach (e::es) X.env=(false,eval e X.env)::starEach es X.env:=by rfl) (b9:(backTo pos (starEach es X.env)).any (·.1)=false:=by rfl):
  DE Z X (.Call (.Name x p) (e::es) [] pos) (kG sd t):=by
 refine PE.imp (t:=λσ H Q=>xY Z t σ H λvs H1=>aU Z sd vs H1 Q E0) ?_ pq;intro pins s σ H Q I h;refine wpAny_Call_Name_kw (il I hg d.m ?_ eV);refine PySem.W.callWith_K (h₀:=X.base) I.ok.mod.kin d.F.kp (thn (PA.imp ha (λ_ _ _ q=>q) pos pins s σ H _ I h) λus s1 #[vs,H1,I1,r,q]=>#[I1.cR,?_]) he b9;have hl:(us++ []).length=ps.length:=by rw[fG,<-r.length];exact F.len _ _ _ _ q
 have zH:=d.b s1 us I1.cR hl;rw[fG] at zH;refine wpAny_call (codeAny_mono (F.run X.A X.stack s1 H1 #[us,[]] us vs Q E0 hr I1.E5 zH r q) λr s' hq=>?_);cases r with
 |error e=>exact hq.elim
 |ok fl=>
  cases fl with
  |ret u=>exact I1.after hq
  |next=>exact False.elim hq
  |brk=>exact False.elim hq
  |cont=>exact False.elim hq
end
def Pf:List Value->Bool
 | []=>false
 |v::r=>if isRef v then JK r else JK (v::r)
def LU(h:Pf a=true):a= [.type "ValueError", .type "Exception", .type "BaseException", .type "object"]\/∃M,a= [.ref M, .type "ValueError", .type "Exception", .type "BaseException", .type "object"]:=by
 cases a with
 |nil=>cases h
 |cons v r=>
  rw[Pf] at h;cases b:isRef v with
  |true=>
   rw[tz b] at h;cases v with
   |ref M=>rw[xQ h];exact .inr #[M,rfl]
   |_=>cases b
  |false=>
   rw[mo (by rw[b];exact eO)] at h
   exact .inl (xQ h)
def rj{K:aj}{C N:Addr}{d:ClassData}{e:List Value}{f q:Str}{bs s:List Value}{g:Bool}{h:List Str}{sub:List Value}{i:Bool}{c:Option Bool}{j:Option Addr}{k l m n o:Option Value}
  (t:bd K C=true) (u:am K (.ref C) "__getattribute__"=some (some (.builtin "BaseException.__getattribute__"))) (v:am K (.ref C) "__getattr__"=some none)
  (w:am K (.ref C) "__setattr__"=some (some (.builtin "object.__setattr__"))) (x:am K (.ref C) "__class__"=some (some (.builtin "object.__class__")))
  (p:ce K C=some d) (r:d.mro= .ref C::e) (lo:K.lookup C=some (excClassObj f q C N bs s g h sub i c j k l m n o "ValueError.__new__")) (y:s=e) (z:Pf e=true):XE K C:=by
 have a:∀b,bv K C b=some ((Value.ref C::e).contains b):=λb=>by
  unfold bv;rw[p,abb,r];rfl
 subst y
 rcases LU z with rfl| ⟨M,rfl⟩
 .refine#[#[t,u,v,w,?_,x,?_,?_],#[f,q,N,bs,_,g,h,sub,i,c,j,k,l,m,n,o,lo,rfl,rfl,rfl]]
  .unfold DK
   rw[p];show pB d.mro=true;rw[r];rfl
  .rw[a];rfl
  .rw[a];rfl
 .refine#[#[t,u,v,w,?_,x,?_,?_],#[f,q,N,bs,_,g,h,sub,i,c,j,k,l,m,n,o,lo,rfl,rfl,rfl]]
  .unfold DK
   rw[p];show pB d.mro=true;rw[r];rfl
  .rw[a];rfl
  .rw[a];rfl
structure Tb (K:aj) (C:Addr) (qual:Str) (st:Stmt) (ps:List Str) where
 f:Addr
 fd:FuncData
 F:m8 K "__init__" qual st f fd
 b:Binds K fd ps []
 made:Ha K C (.ref f)
 fn:bj K (.ref f)=true
structure Y7 (K:aj) (mg:Str->Option Value) (M:Addr):Prop where
 m:mg "MapError"=some (.ref M)
 sg:aS K (.ref M) "__getattribute__"=some (some (.builtin "type.__getattribute__"))
 rd:cS K M (.type "type")=true
 fc:da K (.ref M) (.type "type") "__init__"=some (.val (.builtin "ValueError.__init__"))
def IJ(Z:DC)(C:Addr)(g:List Str)(ok:List D->Prop):Sp:=λj H Q _=>∃(a:Addr)(h:List V)(G:Hp)(f:List D),j= .ref a::h/\H a=some (pJ C a none)/\G a=none/\aJ G H/\DvAll Z G h f/\ok f/\f.length=g.length/\
 ∀c i d e,aJ G d->aJ d e->(∀b o,b≠a->H b=some o->e b=some o)->(∀b,H b≠none->G b=none->d b=none)->e a=some (pJ C a (some c))->H c=none->e c=some (zl c (g.zip i))->d c=none->DvAll Z d i f->Q .aY e
section
variable {Z:DC} {X:Cx} {md:List Nat} {rn:Nat} {st:Stmt} {t:gS} {e:Expr} {es:List Expr} {k j:Nat} {x qual:Str} {ps:List Str} {p pos aP:Pos}
def Ms(d:List Nat)(C:Addr)(b:List Str)(ok:List D->Prop)(t:gS):cI:=λE c=>t (cT d c) λa=>ok a/\a.length=b.length/\E.xc c (.err C b a)
def xg(hc:X.calm=true)(I:Tb X.K C qual st O)(F:FnOk X.prog X.w X.K X.mg X.base cz k I.f I.fd O (IJ Z C l ok))(hr:bQ j X.A)(P:XE X.K C)(hm:X.mg x=some (.ref C))(g:DA Z X (e::es) t)(r:Gl X x:=by rfl)(hk:k+1<=j:=by first|decide|lia)(Nz:O.length<=1000:=by decide)
  (eV:(x==("__debug__":Str))=false:=by decide) (he:starEach (e::es) X.env=(false,eval e X.env)::starEach es X.env:=by rfl) (b9:(backTo aP (starEach es X.env)).any (·.1)=false:=by rfl):
  DSt Z X md rn (.Raise (some (.Call (.Name x p) (e::es) [] aP)) none pos) (Ms md C l ok t):=by
 refine(A6 hc (Lr I.made I.fn F (hr.mono hk) r hm I.b Nz uJ g eV he b9)).imp ?_;intro D σ H aL;rfl';obtain⟨B,ρ,E,⟨G,fp,S⟩,h,M⟩:=aL;ac_rfl;refine#[G,_,_,S.ex.sub,S.xp,h,λds u vs m Q v br a g=>?_];rfl';obtain⟨ok,R,hx⟩:=u;ac_rfl;have S1:=S.grow v;have y:m a=none:=v.sub.free g;refine#[a,vs,m,ds,rfl,au,y,v.sub.trans (aR g _),br,ok,R,λd T n H' U g2 g3 Y g5 q g7 g8 g9=>#[rfl,a,C,some d,rfl,g5,P.obj,P.cls.be,?_]];have XM:d≠a:=λz=>by rw[z,au] at q;cases q
 have Z7:Q d=none:=by rw[aw XM] at q;exact q
 have Z2:m d=none:=U.free g8;have Z1:n a=none:=Y a (by rw[au];exact λz=>nomatch z) y
 have x2:Ext m Q (upd (upd n d (zl d (l.zip T))) a (kF C a (some d))) (upd H' a (kF C a (some d))):=by
  refine#[λb o c=>?_,λb o c=>?_,λb o c=>?_,λb J r=>?_]
  .rw[aw (aC c y),aw (aC c Z2)];exact U _ _ c
  .by_cases z:b=a
   .rw[z,au] at c ⊢;exact c
   .rw[aw z] at c ⊢
    by_cases L:b=d
    .rw[L,au] at c;cases c;rw[L];exact g7
    .rw[aw L] at c;exact g2 _ _ c
  .have i:b≠a:=aC c g
   rw[aw i];exact g3 b o i (by rw[aw i];exact c)
  .have i:b≠a:=λz=>J (by rw[z];exact g)
   have N:b≠d:=λz=>J (by rw[z];exact Z7)
   rw[aw i,aw N];exact Y b (by rw[aw i];exact J) r
 have s2:aJ n (upd (upd n d (zl d (l.zip T))) a (kF C a (some d))):=λb o c=>by rw[aw (aC c Z1),aw (aC c g8)];exact c
 exact M.xc ρ _ hx σ _ _ fp a (S1.grow x2) (.err au (.inr #[d,rfl,by rw[aw XM,au],by rw[g9.length];exact R.symm]) (g9.mono s2))
end
section
variable {Z:DC} {X:Cx} {a:Expr} {ta:bf} {p p1 p2 p3 p4 pos:Pos}
end
end L2
namespace GW
open PySem L2 Wb
def top(i:Nat):Stmt:=PySem.Challenge.pw_mapdye_k66_not_plane_or_not_filled.main.body.getD i (.Pass #[0,0,0,0])
abbrev kX:Stmt:=top 21
abbrev og:Stmt:=top 22
abbrev yD:Stmt:=top 23
abbrev n9:Stmt:=top 24
abbrev kW:Stmt:=top 25
abbrev j4:Stmt:=top 26
abbrev gk:Stmt:=top 28
abbrev fW:Stmt:=top 29
abbrev kZ:Stmt:=top 30
abbrev n6:Stmt:=top 33
abbrev j1:Stmt:=top 34
abbrev kY:Stmt:=top 35
abbrev j5:Stmt:=top 36
abbrev kU:Stmt:=top 37
abbrev di:Stmt:=top 38
abbrev j2:Stmt:=top 39
abbrev j3:Stmt:=top 40
abbrev jh:Stmt:=top 43
abbrev kQ:Stmt:=top 44
abbrev eX:Stmt:=top 45
abbrev kR:Stmt:=top 46
abbrev jZ:Stmt:=top 47
abbrev gf:Stmt:=top 48
abbrev kS:Stmt:=top 49
abbrev ku:Stmt:=top 50
abbrev j0:Stmt:=top 51
abbrev kT:Stmt:=top 52
abbrev kr:Stmt:=top 53
abbrev mB:Stmt:=top 54
abbrev DV:Stmt:=top 55
abbrev fh:Stmt:=L2.gL (top 41) 0
abbrev n5:Stmt:=L2.gL (top 41) 1
abbrev jA:Stmt:=L2.gL (top 41) 2
abbrev kq:Stmt:=L2.gL (top 41) 3
abbrev vk:Stmt:=L2.gL (top 41) 4
abbrev kP:Stmt:=L2.gL (top 41) 5
abbrev fK:Stmt:=L2.gL (top 9) 0
def iF:aF ["self","counted"] ["self","counted"] (ao fK):=by bv_omega
abbrev fu:Stmt:=L2.gL (top 16) 0
def iy:aF ["self","land"] ["self","land"] (ao fu):=by bv_omega
def oE:aF ["web","side","sides","p","q"] ["web","side"] (ao kX):=by bv_omega
def Bc:aF ["web","walked","told","side","sides","step"] ["web"] (ao og):=by bv_omega
def Bb:aF ["web"] ["web"] (ao yD):=by bv_omega
def tM:aF ["web","points","ties","rounds"] ["web"] (ao n9):=by bv_omega
def oz:aF ["web"] ["web"] (ao kW):=by bv_omega
def mQ:aF ["web","rim","number","land"] ["web","rim"] (ao j4):=by bv_omega
def oG:aF ["dyeing","land","bare"] ["dyeing","land"] (ao gk):=by bv_omega
def kv:aF ["web","told","dyeing","dye","p","land"] ["web"] (ao fW):=by bv_omega
def oH:aF ["web","p","row"] ["web"] (ao kZ):=by bv_omega
def tL:aF ["thing","many"] ["thing","many"] (ao n6):=by bv_omega
def mN:aF ["rows","p","row","q"] ["rows"] (ao j1):=by bv_omega
def oF:aF ["rows","p","row"] ["rows"] (ao kY):=by bv_omega
def mR:aF ["rows","p","row","place","q"] ["rows"] (ao j5):=by bv_omega
def ou:aF ["rows","p","row","q"] ["rows"] (ao kU):=by bv_omega
def iz:aF ["rows","reached","waiting","p","q"] ["rows"] (ao di):=by bv_omega
def mO:aF ["rows","q","reached"] ["rows"] (ao j2):=by bv_omega
def mP:aF ["rows","fault"] ["rows"] (ao j3):=by bv_omega
def lJ:aF ["_law_script","_law_k"] ["_law_script","_law_k"] (ao jh):=by bv_omega
def oi:aF ["_law_cell","_law_mixed"] ["_law_cell"] (ao kQ):=by bv_omega
def jm:aF ["_law_many","_law_number","_law_turns_here","_law_thin","_law_point","_law_first","_law_other"] ["_law_many","_law_number"] (ao eX):=by bv_omega
def oj:aF ["_law_number","_law_least","_law_turns_here","_law_ring","_law_many","_law_point","_law_at","_law_far","_law_arc","_law_other"] ["_law_number","_law_least"] (ao kR):=by bv_omega
def mL:aF ["_law_row","_law_thing"] ["_law_row","_law_thing"] (ao jZ):=by bv_omega
def oq:aF ["_law_turns_here","_law_number","_law_names","_law_k","_law_found","_law_row","_law_at"] ["_law_turns_here","_law_number"] (ao gf):=by bv_omega
def om:aF ["_law_turns_here","_law_found","_law_gone","_law_point","_law_row","_law_other","_law_side","_law_walk"] ["_law_turns_here"] (ao kS):=by bv_omega
def tK:aF ["_law_turns_here"] ["_law_turns_here"] (ao ku):=by bv_omega
def mM:aF ["_law_e"] ["_law_e"] (ao j0):=by bv_omega
def ot:aF ["_law_script","_law_number","_law_turns_here","_law_ring"] ["_law_script"] (ao kT):=by bv_omega
def tJ:aF ["_law_turns_here","_law_walks","_law_counted","_law_k","_law_walk"] ["_law_turns_here"] (ao kr):=by bv_omega
def qk:aF ["_law_turns_here","_law_found","_law_some","_law_e"] ["_law_turns_here"] (ao mB):=by bv_omega
def J7:aF ["_law_script","_law_turns_here","_law_some","_law_found"] ["_law_script"] (ao DV):=by bv_omega
def lI:aF ["self","turns","rows","fault"] ["self","turns"] (ao fh):=by bv_omega
def tH:aF ["self"] ["self"] (ao n5):=by bv_omega
def qj:aF ["self"] ["self"] (ao jA):=by bv_omega
def tI:aF ["self"] ["self"] (ao kq):=by bv_omega
def oh:aF ["self","p","q","row"] ["self","p","q"] (ao kP):=by bv_omega
set_option genInjectivity false in
structure Txt (Z:DC) (mg:Str->Option Value) where
 B:Vy mg
 x_set:mg "set"=none
 d_round_from:eZ Z.K mg "round_from" kX ["web","side"]
 d_lands:eZ Z.K mg "lands" og ["web"]
 d_count:eZ Z.K mg "count" yD ["web"]
 d_is_plane:eZ Z.K mg "is_plane" n9 ["web"]
 d_need_plane:eZ Z.K mg "need_plane" kW ["web"]
 d_need_filled:eZ Z.K mg "need_filled" j4 ["web","rim"]
 d_third_dyed:eZ Z.K mg "third_dyed" gk ["dyeing","land"]
 d_dyed_by_lands:eZ Z.K mg "dyed_by_lands" fW ["web"]
 d_three_dyes:eZ Z.K mg "three_dyes" kZ ["web"]
 d_is_among:eZ Z.K mg "is_among" n6 ["thing","many"]
 d_alien_fault:eZ Z.K mg "alien_fault" j1 ["rows"]
 d_self_fault:eZ Z.K mg "self_fault" kY ["rows"]
 d_twice_fault:eZ Z.K mg "twice_fault" j5 ["rows"]
 d_lone_fault:eZ Z.K mg "lone_fault" kU ["rows"]
 d_reached_from_first:eZ Z.K mg "reached_from_first" di ["rows"]
 d_apart_fault:eZ Z.K mg "apart_fault" j2 ["rows"]
 d_first_fault:eZ Z.K mg "first_fault" j3 ["rows"]
 d__law_cell_at:eZ Z.K mg "_law_cell_at" jh ["_law_script","_law_k"]
 d__law_drawn:eZ Z.K mg "_law_drawn" kQ ["_law_cell"]
 d__law_tied_turns:eZ Z.K mg "_law_tied_turns" eX ["_law_many","_law_number"]
 d__law_grown:eZ Z.K mg "_law_grown" kR ["_law_number","_law_least"]
 d__law_behind:eZ Z.K mg "_law_behind" jZ ["_law_row","_law_thing"]
 d__law_named:eZ Z.K mg "_law_named" gf ["_law_turns_here","_law_number"]
 d__law_lands:eZ Z.K mg "_law_lands" kS ["_law_turns_here"]
 d__law_web:eZ Z.K mg "_law_web" ku ["_law_turns_here"]
 d__law_others:eZ Z.K mg "_law_others" j0 ["_law_e"]
 d__law_turns:eZ Z.K mg "_law_turns" kT ["_law_script"]
 d__law_due:eZ Z.K mg "_law_due" kr ["_law_turns_here"]
 d__law_told:eZ Z.K mg "_law_told" mB ["_law_turns_here"]
 d_law:eZ Z.K mg "law" DV ["_law_script"]
 W:Jo Z
 mC:mg "Web"=some (.ref Z.C)
 i_f:Addr
 i_fd:FuncData
 i_F:m8 Z.K "__init__" "Web.__init__" fh i_f i_fd
 mkW:Mk Z.K Z.C i_f
 m___init__b:Binds Z.K i_fd ["self","turns"] []
 m_many:Br Z "many" "Web.many" n5 ["self"]
 m_turns:Br Z "turns" "Web.turns" jA ["self"]
 m_ties:Br Z "ties" "Web.ties" kq ["self"]
 m_tied:Br Z "tied" "Web.tied" vk ["self","a","b"]
 m_behind:Br Z "behind" "Web.behind" kP ["self","p","q"]
 iX:Px Z.K
 x_ValueError:mg "ValueError"=none
 e_MapError:Addr
 g_MapError:mg "MapError"=some (.ref e_MapError)
 e_TooMany:Addr
 g_TooMany:mg "TooMany"=some (.ref e_TooMany)
 e_TooSmall:Addr
 g_TooSmall:mg "TooSmall"=some (.ref e_TooSmall)
 e_NoWeb:Addr
 g_NoWeb:mg "NoWeb"=some (.ref e_NoWeb)
 e_NotPlane:Addr
 g_NotPlane:mg "NotPlane"=some (.ref e_NotPlane)
 e_NoText:Addr
 g_NoText:mg "NoText"=some (.ref e_NoText)
 e_NoCorner:Addr
 g_NoCorner:mg "NoCorner"=some (.ref e_NoCorner)
 e_NoRing:Addr
 g_NoRing:mg "NoRing"=some (.ref e_NoRing)
 e_Alike:Addr
 g_Alike:mg "Alike"=some (.ref e_Alike)
 e_TooFew:Addr
 g_TooFew:mg "TooFew"=some (.ref e_TooFew)
 e_NotFree:Addr
 g_NotFree:mg "NotFree"=some (.ref e_NotFree)
 e_NotFilled:Addr
 g_NotFilled:mg "NotFilled"=some (.ref e_NotFilled)
 e_Odd:Addr
 g_Odd:mg "Odd"=some (.ref e_Odd)
 e_Bridge:Addr
 g_Bridge:mg "Bridge"=some (.ref e_Bridge)
 e_Shared:Addr
 g_Shared:mg "Shared"=some (.ref e_Shared)
 q_MapError:XE Z.K e_MapError
 q_TooSmall:XE Z.K e_TooSmall
 q_NotPlane:XE Z.K e_NotPlane
 q_NotFilled:XE Z.K e_NotFilled
 xb:Y7 Z.K mg e_MapError
 k_TooSmall:Ha Z.K e_TooSmall (.builtin "ValueError.__init__")
 z_TooSmall_TooMany:ac Z.K (.ref e_TooSmall) (.ref e_TooMany)=some false
 z_TooSmall_TooSmall:ac Z.K (.ref e_TooSmall) (.ref e_TooSmall)=some true
 z_TooSmall_NoWeb:ac Z.K (.ref e_TooSmall) (.ref e_NoWeb)=some false
 z_TooSmall_NotPlane:ac Z.K (.ref e_TooSmall) (.ref e_NotPlane)=some false
 z_TooSmall_NoText:ac Z.K (.ref e_TooSmall) (.ref e_NoText)=some false
 z_TooSmall_NoCorner:ac Z.K (.ref e_TooSmall) (.ref e_NoCorner)=some false
 z_TooSmall_NoRing:ac Z.K (.ref e_TooSmall) (.ref e_NoRing)=some false
 z_TooSmall_Alike:ac Z.K (.ref e_TooSmall) (.ref e_Alike)=some false
 z_TooSmall_TooFew:ac Z.K (.ref e_TooSmall) (.ref e_TooFew)=some false
 z_TooSmall_NotFree:ac Z.K (.ref e_TooSmall) (.ref e_NotFree)=some false
 z_TooSmall_NotFilled:ac Z.K (.ref e_TooSmall) (.ref e_NotFilled)=some false
 z_TooSmall_Odd:ac Z.K (.ref e_TooSmall) (.ref e_Odd)=some false
 z_TooSmall_Bridge:ac Z.K (.ref e_TooSmall) (.ref e_Bridge)=some false
 z_TooSmall_Shared:ac Z.K (.ref e_TooSmall) (.ref e_Shared)=some false
 z_TooSmall_ValueError:ac Z.K (.ref e_TooSmall) (.type "ValueError")=some true
 m_TooSmall_MapError:bv Z.K e_TooSmall (.ref e_MapError)=some true
 j_NotPlane:Tb Z.K e_NotPlane "NotPlane.__init__" fK ["self","counted"]
 n_NotPlane_counted:fO Z.K e_NotPlane "counted"
 z_NotPlane_TooMany:ac Z.K (.ref e_NotPlane) (.ref e_TooMany)=some false
 z_NotPlane_TooSmall:ac Z.K (.ref e_NotPlane) (.ref e_TooSmall)=some false
 z_NotPlane_NoWeb:ac Z.K (.ref e_NotPlane) (.ref e_NoWeb)=some false
 z_NotPlane_NotPlane:ac Z.K (.ref e_NotPlane) (.ref e_NotPlane)=some true
 z_NotPlane_NoText:ac Z.K (.ref e_NotPlane) (.ref e_NoText)=some false
 z_NotPlane_NoCorner:ac Z.K (.ref e_NotPlane) (.ref e_NoCorner)=some false
 z_NotPlane_NoRing:ac Z.K (.ref e_NotPlane) (.ref e_NoRing)=some false
 z_NotPlane_Alike:ac Z.K (.ref e_NotPlane) (.ref e_Alike)=some false
 z_NotPlane_TooFew:ac Z.K (.ref e_NotPlane) (.ref e_TooFew)=some false
 z_NotPlane_NotFree:ac Z.K (.ref e_NotPlane) (.ref e_NotFree)=some false
 z_NotPlane_NotFilled:ac Z.K (.ref e_NotPlane) (.ref e_NotFilled)=some false
 z_NotPlane_Odd:ac Z.K (.ref e_NotPlane) (.ref e_Odd)=some false
 z_NotPlane_Bridge:ac Z.K (.ref e_NotPlane) (.ref e_Bridge)=some false
 z_NotPlane_Shared:ac Z.K (.ref e_NotPlane) (.ref e_Shared)=some false
 z_NotPlane_ValueError:ac Z.K (.ref e_NotPlane) (.type "ValueError")=some true
 m_NotPlane_MapError:bv Z.K e_NotPlane (.ref e_MapError)=some true
 j_NotFilled:Tb Z.K e_NotFilled "NotFilled.__init__" fu ["self","land"]
 n_NotFilled_land:fO Z.K e_NotFilled "land"
 z_NotFilled_TooMany:ac Z.K (.ref e_NotFilled) (.ref e_TooMany)=some false
 z_NotFilled_TooSmall:ac Z.K (.ref e_NotFilled) (.ref e_TooSmall)=some false
 z_NotFilled_NoWeb:ac Z.K (.ref e_NotFilled) (.ref e_NoWeb)=some false
 z_NotFilled_NotPlane:ac Z.K (.ref e_NotFilled) (.ref e_NotPlane)=some false
 z_NotFilled_NoText:ac Z.K (.ref e_NotFilled) (.ref e_NoText)=some false
 z_NotFilled_NoCorner:ac Z.K (.ref e_NotFilled) (.ref e_NoCorner)=some false
 z_NotFilled_NoRing:ac Z.K (.ref e_NotFilled) (.ref e_NoRing)=some false
 z_NotFilled_Alike:ac Z.K (.ref e_NotFilled) (.ref e_Alike)=some false
 z_NotFilled_TooFew:ac Z.K (.ref e_NotFilled) (.ref e_TooFew)=some false
 z_NotFilled_NotFree:ac Z.K (.ref e_NotFilled) (.ref e_NotFree)=some false
 z_NotFilled_NotFilled:ac Z.K (.ref e_NotFilled) (.ref e_NotFilled)=some true
 z_NotFilled_Odd:ac Z.K (.ref e_NotFilled) (.ref e_Odd)=some false
 z_NotFilled_Bridge:ac Z.K (.ref e_NotFilled) (.ref e_Bridge)=some false
 z_NotFilled_Shared:ac Z.K (.ref e_NotFilled) (.ref e_Shared)=some false
 z_NotFilled_ValueError:ac Z.K (.ref e_NotFilled) (.type "ValueError")=some true
 m_NotFilled_MapError:bv Z.K e_NotFilled (.ref e_MapError)=some true
 t___name__:∃tk,mg "__name__"=some (.str "law_mapdye_k66_not_plane_or_not_filled" tk)
 c_MOST_POINTS:∃tk,mg "MOST_POINTS"=some (.int 14 tk)
variable {P:Program} {w:World} {mg:Str->Option Value} {base:Heap} {Z:DC} (T:Txt Z mg)
def OU:dA:=λa P=>∃(i n:Int),a= [.int i, .int n]/\P (.bl (decide (0<=i/\i<n)))
def DD:FnOk P w Z.K mg base cz 1 T.d_is_among.f T.d_is_among.fd ["thing","many"] (aU Z OU):=by
 have d:=tL.nd;refine bp T.d_is_among.F tL [0,0] (by decide) (λb R h=>by obtain⟨_,_,rfl,_⟩:=h;rfl) (λe A outer s H E b R c h=>?_)
 have g:=c.units;exists _,(aq (aN (Jw (v5 "int" (aa 0) rfl T.B.isinstance rfl T.B.int PK) (Jw (P0 (v5 "bool" (aa 0) rfl T.B.isinstance rfl T.B.bool EN)) (BX (Ky Ih yh ax (aa 0) (aa 1)))))));obtain⟨i,n,rfl,q⟩:=h;refine#[_,rfl,rfl,true,rfl,cG #[_,rfl,rfl,false,rfl,true,rfl,cG #[_,rfl,?_]]];refine#[_,rfl,cc (λa=>#[_,rfl,?_]) (λa=>?_)]
 .have a:0<=i:=Pi a
  show R (.bl (decide (i<n)));rw[show decide (i<n)=decide (0<=i/\i<n) by simp[a]]
  exact q
 .have a:¬0<=i:=SZ a
  rw[show decide (0<=i/\i<n)=false by simp[a]] at q
  exact q
def we:dA:=λa P=>∃(w:W),a= [aO w]/\Ar w/\1<=w.length/\w.length<=14/\P .aY
def yR{w:W}(h:(hU (w.map av))[j]? =some d):j<w.length/\d= .tup [.int (j:Int),av (row w j)]:=by
 obtain⟨x,b,rfl⟩:=gz h;obtain⟨r,a,rfl⟩:=cH b;have c:j<w.length:=(cX.mp a).1;exists c;rw[J5 a]
def vS:FnOk P w Z.K mg base cz 2 T.d_alien_fault.f T.d_alien_fault.fd ["rows"] (aU Z we):=by
 have c:=mN.nd;refine bp T.d_alien_fault.F mN [0,0,0,0] (by decide) (λn R h=>by obtain⟨_,rfl,_⟩:=h;rfl) (λy A outer s H E n R m h=>?_)
 have z:=m.units
 refine#[_,(ah (cK rfl GE (eB rfl T.B.enumerate (ae (aa 0) ag)) (dY 2 rfl (aM (aH 1 c) (aM (aH 2 c) b7))) (aq (cK rfl GE (bK (aa 2)) (aH 3 c) (aq (bL (rV (dJ (aQ T.d_is_among (DD T) m (ae (aa 3) (ae (aK bF rfl T.B.len bE (ae (aa 0) ag)) ag))))) (aq (aN (cD (ae lS (ae (aa 1) (ae (aa 3) ag)))))) aW)))))
   (aq (aN fz))),?_]
 obtain⟨a,rfl,g,C,G,q⟩:=h;refine#[_,rfl,bM (λ_ e=>∃i l b,e= [some (aO a),i,l,b]) #[_,_,_,rfl] ?_ ?_]
 .rintro j d _ o ⟨i,l,b,rfl⟩ A p
  obtain⟨I,rfl⟩:=yR o;exists rfl,rfl;refine#[_,rfl,bM (λ_ e=>∃b,e= [some (aO a),some (.int (j:Int)),some (av (row a j)),b]) #[_,rfl] ?_ ?_]
  .rintro k J _ r ⟨t,rfl⟩ L u
   obtain⟨x,v,rfl⟩:=cH r;refine#[_,rfl,_,rfl,_,_,rfl,#[rfl,?_]];have M:x<a.length:=g.rng _ _ (eF v);rw[show decide ((0:Int)<=(x:Int)/\(x:Int)<((a.map av).length:Int))=true by simp;lia]
   exact aZ (u _ #[_,rfl])
  .rintro _ ⟨t,rfl⟩
   exact p _ #[_,_,_,rfl]
 .rintro _ ⟨i,l,b,rfl⟩
  exact q
def yu:FnOk P w Z.K mg base cz 1 T.d_self_fault.f T.d_self_fault.fd ["rows"] (aU Z we):=by
 have i:=oF.nd;refine bp T.d_self_fault.F oF [0,0,0] (by decide) (λk R h=>by obtain⟨_,rfl,_⟩:=h;rfl) (λt A outer s H E k R l h=>?_)
 have u:=l.units
 refine#[_,(ah (cK rfl GE (eB rfl T.B.enumerate (ae (aa 0) ag)) (dY 2 rfl (aM (aH 1 i) (aM (aH 2 i) b7))) (aq (bL (bo Dw (aa 1) (aa 2) (by with_unfolding_all rfl)) (aq (aN (cD (ae lS (ae (aa 1) (ae (aa 1) ag)))))) aW)))
   (aq (aN fz))),?_]
 obtain⟨a,rfl,g,v,x,q⟩:=h;refine#[_,rfl,bM (λ_ m=>∃b c,m= [some (aO a),b,c]) #[_,_,rfl] ?_ ?_]
 .rintro j d _ n ⟨b,c,rfl⟩ A o
  obtain⟨y,rfl⟩:=yR n;exists rfl,rfl;exists _,rfl,_,rfl,rfl,gK _,_,rfl
  have e:inD (.int (j:Int)) ((row a j).map ai)=false:=by
   have:=xO (r:=row a j) (p:=j)
   rw[Gc (g.irr j)] at this;exact this
  rw[mo eO,e];exact aZ (o _ #[_,_,rfl])
 .rintro _ ⟨b,c,rfl⟩
  exact q
def lP(l:List a)(k:Nat)(h:k<=l.length):cutD l none (some (k:Int))=l.take k:=by
 unfold cutD;have b:HT.bT l.length 0 none=0:=rfl
 have c:HT.bT l.length l.length (some (k:Int))=k:=by
  simp only[HT.bT]
  split<;>lia
 rw[b,c];simp
def vU:FnOk P w Z.K mg base cz 1 T.d_twice_fault.f T.d_twice_fault.fd ["rows"] (aU Z we):=by
 have i:=mR.nd;refine bp T.d_twice_fault.F mR [0,0,0,0,0] (by decide) (λt R h=>by obtain⟨_,rfl,_⟩:=h;rfl) (λQ A outer s H E t R u h=>?_)
 have S:=u.units
 refine#[_,(ah (cK rfl GE (eB rfl T.B.enumerate (ae (aa 0) ag)) (dY 2 rfl (aM (aH 1 i) (aM (aH 2 i) b7))) (aq (cK rfl GE (eB rfl T.B.enumerate (ae (aa 2) ag)) (dY 2 rfl (aM (aH 3 i) (aM (aH 4 i) b7))) (aq (bL (bo Dw (aa 4) (gJ (aa 2) iZ (i3 (aa 3))) (by with_unfolding_all rfl)) (aq (aN (cD (ae lS (ae (aa 1) (ae (aa 4) ag)))))) aW)))))
   (aq (aN fz))),?_]
 obtain⟨a,rfl,g,U,X,q⟩:=h;refine#[_,rfl,bM (λ_ l=>∃n o b c,l= [some (aO a),n,o,b,c]) #[_,_,_,_,rfl] ?_ ?_]
 .rintro j d _ v ⟨n,o,b,c,rfl⟩ A C
  obtain⟨Y,rfl⟩:=yR v;exists rfl,rfl;refine#[_,rfl,bM (λ_ l=>∃b c,l= [some (aO a),some (.int (j:Int)),some (av (row a j)),b,c]) #[_,_,rfl] ?_ ?_]
  .rintro k d' _ G ⟨I,J,rfl⟩ A' L
   obtain⟨y,M,rfl⟩:=gz G;obtain⟨x,r,rfl⟩:=cH M;have gD:k<(row a j).length:=(cX.mp r).1;exists rfl,rfl;exists _,rfl,_,rfl,_,rfl;have N:cutD ((row a j).map ai) none (some (k:Int))=((row a j).take k).map ai:=by rw[lP _ _ (by simp;lia),uU]
   refine(?_:PQ false (ai x) (.lst (cutD ((row a j).map ai) none (some (k:Int)))) _);rw[N];exists rfl,gK _,_,rfl
   have e:inD (ai x) (((row a j).take k).map ai)=false:=by
    rw[xO,Gc];intro z;obtain⟨m,p⟩:=mU z
    have O:m<k:=by
     have:=(cX.mp p).1
     rw[fF] at this;lia
    rw[zb O] at p;exact absurd ((List.getElem?_inj (by lia) (g.nod j)).mp (p.trans r.symm)) (by lia)
   rw[mo eO,e];exact aZ (L _ #[_,_,rfl])
  .rintro _ ⟨I,J,rfl⟩
   exact C _ #[_,_,_,_,rfl]
 .rintro _ ⟨n,o,b,c,rfl⟩
  exact q
def yr:FnOk P w Z.K mg base cz 1 T.d_lone_fault.f T.d_lone_fault.fd ["rows"] (aU Z we):=by
 have c:=ou.nd;refine bp T.d_lone_fault.F ou [0,0,0,0] (by decide) (λo R h=>by obtain⟨_,rfl,_⟩:=h;rfl) (λJ A outer s H E o R t h=>?_)
 have L:=t.units
 refine#[_,(ah (cK rfl GE (eB rfl T.B.enumerate (ae (aa 0) ag)) (dY 2 rfl (aM (aH 1 c) (aM (aH 2 c) b7))) (aq (cK rfl GE (bK (aa 2)) (aH 3 c) (aq (bL (bo Lj (aa 1) (bV (aa 0) (aa 3)) (by with_unfolding_all rfl)) (aq (aN (cD (ae lS (ae (aa 1) (ae (aa 3) ag)))))) aW)))))
   (aq (aN fz))),?_]
 obtain⟨a,rfl,g,M,N,q⟩:=h;refine#[_,rfl,bM (λ_ i=>∃l m b,i= [some (aO a),l,m,b]) #[_,_,_,rfl] ?_ ?_]
 .rintro j d _ u ⟨l,m,b,rfl⟩ A v
  obtain⟨O,rfl⟩:=yR u;exists rfl,rfl;refine#[_,rfl,bM (λ_ i=>∃b,i= [some (aO a),some (.int (j:Int)),some (av (row a j)),b]) #[_,rfl] ?_ ?_]
  .rintro k Q _ y ⟨z,rfl⟩ S C
   obtain⟨x,G,rfl⟩:=cH y;have n:=eF G;have I:x<a.length:=g.rng _ _ n;exists _,rfl,_,rfl,_,rfl,_,fQ (j7 I),rfl,gK _,_,rfl
   have e:inD (.int (j:Int)) ((row a x).map ai)=true:=by
    have:=xO (r:=row a x) (p:=j)
    rw[KM (g.sym _ _ n)] at this;exact this
   rw[tz rfl,e];exact aZ (C _ #[_,rfl])
  .rintro _ ⟨z,rfl⟩
   exact v _ #[_,_,_,rfl]
 .rintro _ ⟨l,m,b,rfl⟩
  exact q
def vI(bs:List Bool):List D:=bs.map D.bl
def Mj{bs:List Bool}{i:Nat}{b:Bool}(h:bs[i]? =some b):(vI bs)[i]? =some (.bl b):=by unfold vI;rw[eQ,h];rfl
def ES(bs:List Bool)(i:Nat)(b:Bool):(vI bs).set i (.bl b)=vI (bs.set i b):=by unfold vI;rw[aci]
def ER(bs:List Bool):(vI bs).length=bs.length:=aV _
def iN{n k:Nat}(h:k<n):nP n (k:Int)=some k:=by unfold nP;rw[tz (by lia),tz (by lia)];simp
def IK:dA:=λa P=>∃(w:W),a= [aO w]/\Ar w/\1<=w.length/\w.length<=14/\∀bs m,RI w bs [] [] m->(∀x,bs[x]? =some true->Reach w 0 x)->P (.lst (vI bs))
def Met(w:W)(bs:List Bool):Prop:=∀x,bs[x]? =some true->Reach w 0 x
def mm:FnOk P w Z.K mg base cz 1 T.d_reached_from_first.f T.d_reached_from_first.fd ["rows"] (aU Z IK):=by
 have v:=iz.nd;refine bp T.d_reached_from_first.F iz [0,1,1,0,0] (by decide) (λds R h=>by obtain⟨_,rfl,_⟩:=h;rfl) (λaX A outer s H E ds R hr h=>?_)
 have hu:=hr.units
 refine#[_,(ah (t9 1 (NC:= ["row"]) (src:= [none]) rfl v (qv (ao di)) trivial (bK (aa 0)) (λ_ _ _=>(bX 0 (show(["row"]:List Str).Nodup from by decide+kernel))) (λ_ _ _=>e8) (λ_ _ _=>c8))
   (ah (ua false 1 ax c8)
   (ah (ju 2 v (iU (ae ax ag)))
   (ah (pb GE (dJ (aa 2)) (ah (P5 3 2 v)
   (aq (cK rfl GE (bK (bV (aa 0) (aa 3))) (aH 4 v) (aq (bL (rV (dJ (bV (aa 1) (aa 4)))) (ah (ua false 1 (aa 4) c8)
   (aq (o9 false 2 (aa 4)))) aW))))))
   (aq (aN (aa 1))))))),?_]
 obtain⟨c,rfl,g,h1,dS,q⟩:=h;refine#[_,rfl,jw (ρ:= [none]) av (λ_=> .bl false) c _ (λy b Y h=>h) rfl (small (by lia)) λaG=>?_]
 have e0:c.map (λ_=>D.bl false)=vI (ak c.length false):=by unfold vI;rw[abL,List.map_const']
 rw[e0];refine#[trivial,_,rfl,0,0,rfl,by rw[ER,qp];exact iN (k:=0) (by lia),?_]
 rw[ES];refine#[by show 1<=sizeLine;decide,?_]
 refine mH (λm ρ=>∃(bs:List Bool)(l:List Nat)(U B:Option D),ρ= [some (aO c),some (.lst (vI bs)),some (.lst (l.map ai)),U,B]/\RI c bs l [] m/\Met c bs/\m<=14/\bs.count false+l.length=m) c.length ?_ ?_
 .refine#[_,[0],none,none,rfl,#[by simp,?_,?_,λx d=>?_,?_],λx d=>?_,dS,?_]
  .rw[kC,tz rfl,tz (by rw[qp];lia)]
  .intro x d
   have:x=0:=by simpa using d
   rw[this,kC,tz rfl,tz (by rw[qp];lia)]
  .by_cases e:0=x
   .exact .inl (by rw[<-e];simp)
   .rw[kC,mo e,tU] at d
    split at d<;>cases d
  .rw[abF (by rw[qp];lia),abY,acy]
   simp;lia
  .by_cases e:0=x
   .rw[<-e];exact .refl _
   .rw[kC,mo e,tU] at d
    split at d<;>cases d
  .rw[abF (by rw[qp];lia),abY,acy]
   simp;lia
 .rintro m _ ⟨bs,l,U,B,rfl,C,mt,hc,X⟩
  exists _,rfl,rfl
  rcases List.eq_nil_or_concat l with rfl| ⟨M,p,e⟩
  .exact aZ #[_,rfl,q bs m C mt]
  .rw[abj] at e
   subst e;rw[show Gv (.lst ((M++ [p]).map ai))=true by simp[Gv]]
   refine cG ?_;rw[dh] at X;simp only[GN] at X;obtain⟨o,rfl⟩:∃o,m=o+1:=#[m-1,by lia]
   have N:=C.pop;have hp:bs[p]? =some true:=C.wt p (by simp)
   have HM:p<c.length:=by rw[<-C.len];exact(cX.mp hp).1
   refine#[M.map ai,ai p,by rw[f6];rfl,?_]
   refine#[_,rfl,_,rfl,_,fQ (j7 HM),bM (λj ρ=>∃(a:List Bool)(i:List Nat)(B:Option D),ρ= [some (aO c),some (.lst (vI a)),some (.lst (i.map ai)),some (ai p),B]/\RI c a i [p] o/\Met c a/\(∀k y,k<j->(row c p)[k]? =some y->a[y]? =some true)/\a.count false+i.length=o) ?_ ?_ ?_]
   .exact#[bs,M,_,rfl,N,mt,(λk n r=>by lia),by lia]
   .rintro j x _ d ⟨a,i,o5,rfl,t,G,I,O⟩ A hA
    obtain⟨n,J,rfl⟩:=cH d;have Q:=g.rng _ _ (eF J);have S:n<a.length:=by rw[t.len];exact Q
    have u:a[n]? =some (a[n]):=dD S;exists _,rfl,_,rfl,_,fQ (Mj u),rfl;generalize a[n]=bn at u;cases bn with
    |true=>
     refine aZ (hA _ #[a,i,_,rfl,t,G,λk y r b=>?_,O])
     by_cases e:k=j
     .rw[e,J] at b;cases b;exact u
     .exact I k y (by lia) b
    |false=>
     refine cG ?_;refine#[trivial,_,rfl,_,rfl,_,n,rfl,by rw[ER];exact iN S,?_]
     rw[ES];have L:=t.push u;have aae:=L.cnt;refine#[_,rfl,_,rfl,trivial,c9 (by rw[aV];lia),?_]
     have er:i.map ai++ [ai n]=(i++ [n]).map ai:=by rw[f6];rfl
     rw[er];refine hA _ #[a.set n true,i++ [n],_,rfl,L,λy b=>?_,λk y r b=>?_,?_]
     .by_cases e:n=y
      .rw[<-e];exact .step (mt p hp) (eF J)
      .rw[kC,mo e] at b;exact G y b
     .rw[kC]
      by_cases e:n=y
      .rw[tz e,tz S]
      .rw[mo e]
       refine I k y ?_ b;apply FS;intro z
       have:k=j:=by lia
       rw[this,J] at b;cases b;exact e rfl
     .obtain⟨hl,he⟩:=cX.mp u
      have:0<a.count false:=List.count_pos_iff.mpr (by rw[<-he];exact ach hl)
      rw[abF hl,he,dh];simp;lia
   .rintro _ ⟨a,i,o5,rfl,t,G,I,O⟩
    have L:=t.close λy b=>by
     obtain⟨k,r⟩:=mU b;exact I k y (by rw[aV];exact(cX.mp r).1) r
    exact#[o,by lia,a,i,_,_,rfl,L,G,by lia,O]
def Gg:dA:=λa P=>∃(w:W),a= [aO w]/\Ar w/\1<=w.length/\w.length<=14/\(Good w->P .aY)/\(¬Good w->∀q,P (.tup [.str "apart", .int 0,ai q]))
def vT:FnOk P w Z.K mg base cz 2 T.d_apart_fault.f T.d_apart_fault.fd ["rows"] (aU Z Gg):=by
 have n:=mO.nd;refine bp T.d_apart_fault.F mO [0,0,0] (by decide) (λu R h=>by obtain⟨_,rfl,_⟩:=h;rfl) (λO A outer s H E u R o h=>?_)
 have Q:=o.units
 refine#[_,(ah (cK rfl GE (eB rfl T.B.enumerate (ae (aQ T.d_reached_from_first (mm T) o (ae (aa 0) ag)) ag)) (dY 2 rfl (aM (aH 1 n) (aM (aH 2 n) b7))) (aq (bL (rV (dJ (aa 2))) (aq (aN (cD (ae lS (ae ax (ae (aa 1) ag)))))) aW)))
   (aq (aN fz))),?_]
 obtain⟨q,rfl,g,v,z,C,G⟩:=h;refine#[_,rfl,q,rfl,g,v,z,λbs m r mt=>bM (λk I=>(∀x,x<k->bs[x]? =some true)/\∃c i,I= [some (aO q),c,i]) #[λx t=>absurd t (Nat.not_lt_zero x),_,_,rfl] ?_ ?_]
 .rintro j d _ J ⟨l,c,i,rfl⟩ A L
  obtain⟨y,M,rfl⟩:=gz J;obtain⟨b,a,rfl⟩:=cH M;exists rfl,rfl;cases b with
  |true=>
   refine#[_,rfl,rfl,aZ (L _ #[λx t=>?_,_,_,rfl])]
   by_cases e:x=j
   .rw[e];exact a
   .exact l x (by lia)
  |false=>
   refine#[_,rfl,rfl,cG #[_,rfl,by show 3<=sizeLine;decide,G (λN=>?_) j]]
   have:=r.all N
   rw[this,tU] at a
   split at a<;>cases a
 .rintro _ ⟨l,c,i,rfl⟩
  refine C (g.good λp S=>mt p (l p ?_))
  have:=r.len
  unfold vI hU;simp;lia
def mK:FnOk P w Z.K mg base cz 3 T.d_first_fault.f T.d_first_fault.fd ["rows"] (aU Z Gg):=by
 have b:=mP.nd;refine bp T.d_first_fault.F mP [0,0] (by decide) (λj R h=>by obtain⟨_,rfl,_⟩:=h;rfl) (λm A outer s H E j R a h=>?_)
 have n:=a.units
 refine#[_,(ah (bb false 1 b (aQ T.d_alien_fault (vS T) a (ae (aa 0) ag)))
   (ah (bL (bo yg (aa 1) fz (bD _)) (aq (bb false 1 b (aQ T.d_self_fault (yu T) a (ae (aa 0) ag)))) aW)
   (ah (bL (bo yg (aa 1) fz (bD _)) (aq (bb false 1 b (aQ T.d_twice_fault (vU T) a (ae (aa 0) ag)))) aW)
   (ah (bL (bo yg (aa 1) fz (bD _)) (aq (bb false 1 b (aQ T.d_lone_fault (yr T) a (ae (aa 0) ag)))) aW)
   (ah (bL (bo yg (aa 1) fz (bD _)) (aq (bb false 1 b (aQ T.d_apart_fault (vT T) a (ae (aa 0) ag)))) aW)
   (aq (aN (aa 1)))))))),?_]
 obtain⟨c,rfl,g,d,e,k,l⟩:=h;exists _,rfl,c,rfl,g,d,e,trivial;refine#[_,rfl,_,rfl,cG #[_,rfl,c,rfl,g,d,e,trivial,?_]];refine#[_,rfl,_,rfl,cG #[_,rfl,c,rfl,g,d,e,trivial,?_]];refine#[_,rfl,_,rfl,cG #[_,rfl,c,rfl,g,d,e,trivial,?_]];refine#[_,rfl,_,rfl,cG #[_,rfl,c,rfl,g,d,e,λi=>#[trivial,_,rfl,k i],λi q=>#[trivial,_,rfl,l i q]]]
def uF{P:Program}{w:World}{base:Heap}{Z:DC}(T:Txt Z m):FnOk P w Z.K m base cz 4 T.i_f T.i_fd ["self","turns"] (Gh Z):=by
 have MZ:=mK (P:=P) (w:=w) (base:=base) T;have n:=lI.nd;refine T.i_F.ok lI (λL H Q E h=>?_) (λaX A outer s H L Q E r h=>?_)
 .obtain⟨p,u,v,G,a,rfl,_⟩:=h;rfl
 obtain⟨p,u,v,G,a,rfl,x,M,N,dv,g,O,S,q⟩:=h;have hu:=r.units
 refine#[_,gN (t:=l5 Z _ [0,0,0,0] 0 _)
   (bL (rV (KI Ih Ih ax (aK bF rfl T.B.len bE (ae (aa 1) ag)) (Kz rfl T.c_MOST_POINTS))) (aq Ay) aW)
  (gN (t:=l5 Z _ [0,0,0,0] 0 _)
   (KG 2 (NC:= ["row"]) (src:= [none]) rfl n (qv (ao fh)) trivial (bK (aa 1)) (λ_ _ _=>(bX 0 (show(["row"]:List Str).Nodup from by decide+kernel))) (λ_ _ _=>e8) (λ_ _ _=>(lQ rJ rfl T.B.list nk (ae (aa 0) ag))))
  (gN (t:=l5 Z _ [0,0,0,0] 0 _)
   (bb false 3 n (aQ T.d_first_fault (mK T) r (ae (aa 2) ag)))
  (gN (t:=l5 Z _ [0,0,0,0] 0 _)
   (bL (bo Li (aa 3) fz (bD _)) (aq Ay) aW)
  (lG (Rg (pv 0) (pv 2) rfl))))),?_]
 have F:(a.map av).length=a.length:=aV _;refine#[#[G,H,G],[some (.obj p),some (aO a),none,none],{nx:=λρ=>ρ= [some (.obj p),some (aO a),none,none],rt:=λ_=>False},#[G,λ_=> [],?_],?_,#[?_,λ_ z=>z.elim,λ_ z=>z.elim,λ_ z=>z.elim,λ_ _ z=>z.elim]]
 .refine#[.refl M, .refl _,rfl,λi d c=>?_,λ_=>iH,(λ_ _ _ _ z=>by cases z),(λ_ _ z=>by cases z)]
  match i,c with
  |0,c=>cases c;exact#[_,rfl, .obj p,rfl]
  |1,c=>cases c;exact#[_,rfl,dv,rfl]
  |2,c=>cases c
  |3,c=>cases c
  |i+4,c=>cases c
 .have U:D.bl (decide ((1:Int)<=((a.map av).length:Int)))= .bl true:=KB D.bl (KM (by rw[F];lia))
  have X:D.bl (decide (((a.map av).length:Int)<=14))= .bl true:=KB D.bl (KM (by rw[F];lia))
  exact#[_,rfl,true,U,cG #[true,X,aZ rfl]]
 rintro _ rfl Jk H1 S1;refine#[#[G,H,G],_,{nx:=λρ=>ρ= [some (.obj p),some (aO a),some (aO a),none],rt:=λ_=>False},S1,?_,#[?_,λ_ z=>z.elim,λ_ z=>z.elim,λ_ z=>z.elim,λ_ _ z=>z.elim]]
 .exact#[_,rfl,jw (ρ:= [none]) av av a _ (λy hy Y h=>#[_,rfl,h]) rfl (small (by lia)) λaG=>#[trivial,rfl]]
 rintro _ rfl fw H2 S2;refine#[#[G,H,G],_,{nx:=λρ=>ρ= [some (.obj p),some (aO a),some (aO a),some .aY],rt:=λ_=>False},S2,?_,#[?_,λ_ z=>z.elim,λ_ z=>z.elim,λ_ z=>z.elim,λ_ _ z=>z.elim]]
 .exact#[_,rfl,a,rfl,g.near,O,S,λ_=>#[trivial,rfl],λz=>absurd g z]
 rintro _ rfl vZ H3 S3;refine#[#[G,H,G],_,{nx:=λρ=>ρ= [some (.obj p),some (aO a),some (aO a),some .aY],rt:=λ_=>False},S3,?_,#[?_,λ_ z=>z.elim,λ_ z=>z.elim,λ_ z=>z.elim,λ_ _ z=>z.elim]]
 .exact#[_,rfl,_,rfl,aZ rfl]
 rintro _ rfl fN H4 ⟨I,fp,f⟩;obtain⟨v0,uj,o0⟩:=f.at_ 0 _ rfl;obtain⟨v2,k,o2⟩:=f.at_ 2 _ rfl;obtain⟨d0,_⟩:=o0;obtain⟨J,_⟩:=o2;cases d0;have Zw:=J;cases J with
 | @lst R xs ds hR e=>
  have l:=f.ex.hh _ _ x;refine#[_,k,_,uj,p,Z.C,u,[],rfl,l,T.W.cl,T.W.nR,by decide,?_]
  have g4:I p=none:=f.ex.off p (by show H p≠none;rw[x];exact λz=>nomatch z) N
  refine q R I _ f.ex.gg (λb o j=>?_) (λb o j nb=>?_) f.ex.off au Zw
  .rw[aw (aC j g4)];exact f.ex.sub _ _ j
  .rw[aw nb];exact f.ex.hh _ _ j
def Rz:dA:=λa P=>∃(w:W),a= [.fX w]/\P (.int (w.length:Int))
def jy:FnOk P w Z.K mg base cz 1 T.m_many.f T.m_many.fd ["self"] (aU Z Rz):=by
 have d:=tH.nd;refine bp T.m_many.F tH [0] (by decide) (λb R h=>by obtain⟨_,rfl,_⟩:=h;rfl) (λe A outer s H E b R c h=>?_)
 have g:=c.units;exists _,(aq (aN (aK bF rfl T.B.len bE (ae (rR T.W (aa 0)) ag))));obtain⟨a,rfl,q⟩:=h;exists _,rfl,a,rfl;refine(?_:R (.int ((a.map av).length:Int)));rw[aV];exact q
def O2:dA:=λa P=>∃(w:W),a= [.fX w]/\w.length<=14/\P (aO w)
end GW
namespace L2
open PySem PySem.Spec PyProof.Rows
section
variable {Z:DC} {X:Cx} {md:List Nat} {rn:Nat} {e:Expr} {pos p2:Pos} {te:bf} {t:mY} {lo hi:Option Expr} {tl th:GU}
def Tw(t:mY):cI:=λE a=>t a λb=>E.rt (.lst b)
def MF(g:DF Z X rn e t):DSt Z X md rn (.Return (some e) pos) (Tw t):=by
 refine(DQ g).imp λD C H j=>?_;rfl';obtain⟨B,l,E,⟨G,m,S⟩,h,M⟩:=j;ac_rfl
 let F:Addr->Prop:=λb=>∃i,b∈m i
 have s:=S.ex.sub
 have n:Ext B.G₀ B.H₀ (plus G H F) H:=#[S.ex.gg.trans (fo s),jH s,S.ex.hh,λb a p=>by
  rw[iQ (λ#[i,q]=>a (S.nw i b q).1)];exact S.ex.off b a p]
 refine#[plus G H F,l,_,jH s,#[S.len,λi d h=>?_],h,λJ r v f w y x o z c=>M.rt _ r v f w y (n.trans x) o z λb a=>#[S.ex.hh.free (c b a).1,(c b a).2]];obtain⟨v,A,o⟩:=S.at_ i d h;exact#[v,A,o.dv (fo s) λb a u e=>by rw[lE #[i,a]];exact e]
end
section
variable {Z:DC} {X:Cx} {md:List Nat} {rn:Nat} {elt t0 i0 t1 i1:Expr} {f0 f1:List Expr} {scope:Scope} {pos:Pos} {wi gH:ja} {g g1:eJ} {tt fj:eu} {te:bf} {src:List (Option Nat)} {NC:List Str}
end
section
variable {Z:DC} {X:Cx}
theorem tm(a:List Int):∀n,n<=a.length->preSum (λi=>a.getD i 0) n=(a.take n).sum
 |0,_=>by simp[preSum]
 |n+1,h=>by
  have:=tm a n (by lia)
  rw[preSum,this,abd (by lia),List.sum_append,bG,dD (by lia)]
  simp
def Hg(m:X.calm=true):CallR X (.builtin "sum") (λf H Q=>∃(p:Addr)(c:List Int),f= [.ref p]/\H p=some (.lst (c.map V.int))/\Q (.int c.sum) H):=by
 intro g s L H f M Q I n h;rfl';obtain⟨p,c,rfl,y,q⟩:=h;obtain⟨u,rfl,z⟩:=n.one;subst z;obtain⟨a,r,pl,O⟩:=I.list (cJ.of y);have j:=r.length;rw[aV] at j;ac_rfl;refine call_sum_walkG (wpAny_pyIter_list pl.isList ?_)
 have k:p<s.heap.objs.size:=by
  obtain⟨o,B,_⟩:=pl.isList;exact Fk B
 have C:p≠s.heap.objs.size:=bO k;refine#[_,_,_,a.toArray.size,_,_,λi=>c.getD i 0,rfl,Walks.list (show X.A.in1.handled=none from I.ok.hd m) s.heap.objs.size p C a.toArray,#[#[_,GM _ rfl,rfl,rfl],pl.isList.push _],?_,?_,λE P R F=>?_]
 .intro b l
  show b<(s.heap.push _).objs.size;rw[abt];simp only[b8,vA,abf] at l
  rcases l with rfl|rfl
  .exact aba _
  .exact zf k
 .intro i v G
  have d:a[i]? =some v:=by simpa using G
  have S:i<a.length:=(cX.mp d).1;obtain⟨w,hw,J⟩:=r.get (i:=i) (x:= .int (c.getD i 0)) (by rw[eQ,bG,dD (by lia)];rfl)
  rw[hw] at d;cases FB d;exact J
 .have kept:∀b o,s.heap.get? b=some o->E.get? b=some o:=λb o e=>F b o (by simp;exact bO (Fk e)) (Da _ e)
  have e:preSum (λi=>c.getD i 0) a.toArray.size=c.sum:=by
   rw[cY,<-j,tm c _ (bu _),vw (bu _)]
  rw[e];exact#[.int _,H,I.kept kept,#[_,rfl],q]
def VO:dA:=λb P=>∃a:List Int,b= [.lst (a.map D.int)]/\P (.int a.sum)
def Jt(b:X.calm=true):CallR X (.builtin "sum") (jX Z VO):=by
 refine(Hg b).imp ?_;rintro g H Q ⟨G,i,P,s,dv,⟨c,rfl,d⟩,q⟩;cases dv with
 |cons a f=>
  cases f;cases a with
  |lst h e=>exact#[_,c,rfl,rX e▸s _ _ h,q _ d _ G H (.refl s) (.int _)]
def Js:bootBuiltins "sum"=some (.builtin "sum"):=by decide+kernel
end
def fI.ok{P:Program}{w:World}{H:Hp}{a:Addr}(x:fI b a d h):cn P w H h a (.ext (fI b a d)):=by
 refine#[x,let #[o,_,_,_,c,_]:=x;#[o,c],λg i p k=>?_];obtain⟨o,e,f,t,c,r⟩:=p;exact#[o,e,f,t,k o c,r]
theorem iI.mem:∀{b:List (Int×Addr)}{c:List (Int×Int)},iI H b c->∀e∈b,∃p∈c,e.1=cw p/\H e.2=some (.tup [.int p.1, .int p.2])
 |_,_, .nil,e,a=>nomatch a
 |_,_, .cons (p:=p) h t,e,a=>by
  rcases b8.mp a with rfl|a
  .exact#[p,dE ..,rfl,h]
  .obtain⟨q,d,f⟩:=t.mem e a
   exact#[q,eM _ d,f]
theorem iI.Sz:∀{c:List (Int×Addr)}{d:List (Int×Int)},iI H c d->∀p∈d,∃a,(cw p,a)∈c/\H a=some (.tup [.int p.1, .int p.2])
 |_,_, .nil,p,b=>nomatch b
 |_,_, .cons (a:=a) h t,p,b=>by
  rcases b8.mp b with rfl|b
  .exact#[a,dE ..,h]
  .obtain⟨e,f,g⟩:=t.Sz p b
   exact#[e,eM _ f,g]
theorem iI.len:∀{a:List (Int×Addr)}{b:List (Int×Int)},iI H a b->a.length=b.length
 |_,_, .nil=>rfl
 |_,_, .cons _ t=>KB (·+1) t.len
theorem iI.snoc(h:H a=some (.tup [.int p.1, .int p.2])):∀{b:List (Int×Addr)}{c:List (Int×Int)},iI H b c->iI H (b++ [(cw p,a)]) (c++ [p])
 |_,_, .nil=> .cons h .nil
 |_,_, .cons h' t=> .cons h' (iI.snoc h t)
section
variable {X:Cx} {pins:List (Addr×Obj)} {σ:St} {H:Hp} {s:Shared}
def Inv.vh{p:Int×Int}(I:Inv X pins σ H s)(h:H a=some (.tup [.int p.1, .int p.2])):IsTupleKey (intKind X.prog X.w) s.heap [p.1,p.2] a:=by
 rfl';obtain⟨c,r,⟨o,d,e,n,f⟩,_⟩:=I.tuple (gT.of h);obtain⟨i,j,rfl,⟨t,rfl⟩,⟨u,rfl⟩⟩:=Vals.two r;ac_rfl;exact#[o,_,n,d,e,f, .cons (by simp[intKind,Value.isInt]) (.cons (by simp[intKind,Value.isInt]) .nil)]
def Inv.oI(I:Inv X pins σ H s)(h:H a=some (.ext (fI b a c))):fI b a c s.heap:=(I.hok a _ h).1
def mr(P:Program)(w:World)(p:Int×Int):tupleKeyHash (intKind P w) [p.1,p.2]=cw p:=rfl
def Inv.X5(I:Inv X pins σ H s)(g:iI H b f)(h:a.toList.Perm (b.map λe=>(e.1,Value.ref e.2))):L9 X.prog X.w s.heap a:=λi e c=>by
 rfl';have k:e∈a.toList:=by rw[<-fM] at c;exact eF c
 obtain⟨d,l,rfl⟩:=dO.mp (h.mem_iff.mp k);obtain⟨p,_,m,n⟩:=g.mem d l;ac_rfl;exact#[[p.1,p.2],d.2,by rw[mr,m],I.vh n]
def Inv.nK{h:List (Int×Addr)}{j:List (Int×Int)}{b:Array (Int×Value)}(I:Inv X pins σ H s)(k:iI H h j)(l:b.toList.Perm (h.map λe=>(e.1,Value.ref e.2)))(p:Int×Int):
  (∃(i:Nat)(c:Addr),b[i]? =some (tupleKeyHash (intKind X.prog X.w) [p.1,p.2], .ref c)/\IsTupleKey (intKind X.prog X.w) s.heap [p.1,p.2] c)↔p∈j:=by
 constructor
 .rintro⟨i,c,d,f⟩
  have g:(tupleKeyHash (intKind X.prog X.w) [p.1,p.2],Value.ref c)∈b.toList:=by rw[<-fM] at d;exact eF d
  obtain⟨m,r,t⟩:=dO.mp (l.mem_iff.mp g);obtain⟨q,u,x,n⟩:=k.mem m r
  have:m.2=c:=by have:=(aaS t).2;injection this
  rw[this] at n
  have:=(I.vh n).inj f
  simp at this
  have:q=p:=aaA this.1 this.2
  rw[<-this];exact u
 .intro v
  obtain⟨a,d,f⟩:=k.Sz p v;have g:(cw p,Value.ref a)∈b.toList:=l.mem_iff.mpr (dO.mpr #[_,d,rfl]);obtain⟨i,o⟩:=List.mem_iff_getElem?.mp g;rw[fM] at o;exact#[i,a,by rw[mr];exact o,I.vh f]
def Lp(d:Gl X "set")(f:X.mg "set"=none):PE X (.Call (.Name "set" p) [] [] a) (λg H Q=>∀q,H q=none->Q (.ref q) (upd H q (.ext (fI (gy X.w) q [])))):=by
 intro c s g H Q I h;refine PP (jx I d f (u:= .type "set") (by decide+kernel) ?_ (by decide) (by decide))
 refine PyProof.Rows.callWith_type rfl (PyProof.Rows.evalArgs_nil3 (BI ?_));have i:=I.hok.fresh (bu _);exact#[.ref s.heap.objs.size,_,I.laid (t':=s.toks) (λb o e=>Da _ e) (bu _) (o:= .ext (fI (gy X.w) s.heap.objs.size [])) (fI.ok #[_,_,_,_,GM _ rfl,mJ.new X.w, .refl _]),rfl,h _ i]
def Xu(i:X.A.units+64<cLine)(I:Inv X pins σ H s)(j:H c=some (.tup [.int p.1, .int p.2]))(k:H a=some (.ext (fI (gy X.w) a e)))(f:iI H e b)
  (h:∀d,Q (decide (p∈b)) {s with toks:=d}):wpAny (model X.prog X.w) X.A (contains (.ref a) (.ref c)) Q E s:=by
 rfl';obtain⟨o,m,r,t,n,S,g⟩:=I.oI k;ac_rfl;refine tR i n S (I.X5 f g) (I.vh j) λd=>?_
 have:PySem.nK X.prog X.w s.heap m [p.1,p.2]=decide (p∈b):=by
  classical
  unfold PySem.nK;exact aaP.mpr (I.nK f g p)
 rw[this];exact h d
def Io(f:X.A.units+64<cLine):OpR X (compareOp .NotIn) (λx y H Q=>∃c a b d p,x= .ref c/\y= .ref a/\H c=some (.tup [.int p.1, .int p.2])/\H a=some (.ext (fI (gy X.w) a b))/\iI H b d/\Q (.bl (!decide (p∈d))) H):=by
 intro e s n H x y v u Q I g i h;rfl';obtain⟨c,a,b,d,p,rfl,rfl,k,l,m,q⟩:=h;ac_rfl;cases g;cases i;exact ir (Xu f I k l m λr=>AC #[.bl _,H,I.tok _,rfl,q])
def NY(hu:X.A.units+64<cLine):Pz X "set.add" (λx k H Q=>∃l c d a p,x= .ref l/\k= [.ref c]/\H c=some (.tup [.int p.1, .int p.2])/\H l=some (.ext (fI (gy X.w) l d))/\iI H d a/\a.length<=300/\
  (p∈a->Q .aY H)/\(p∉a->Q .aY (upd H l (.ext (fI (gy X.w) l (d++ [(cw p,c)])))))):=by
 intro m s σ H x k v us Q I C E h;rfl';obtain⟨l,c,d,a,p,rfl,rfl,J,n,g,hz,L,M⟩:=h;subst C;obtain⟨u,rfl,N⟩:=E.one;subst N;obtain⟨o,O,ep,t,q,S,f⟩:=I.oI n;have P:s.TypeIs (.ref l) "set":=#[o,q,S.ex.1];ac_rfl;refine aaD F.slot_set_add P F.entry_set_add ?_ (F.args_set_add_2 _ _);unfold Builtin.«set.add» Builtin.Frozenset.oneOther;simp only[List.isEmpty_nil,bind_assoc];unfold Builtin.Frozenset.addrOf setAdd;refine ir (AC ?_)
 try dsimp only
 refine ir (AC ?_)
 try dsimp only
 refine ir ?_;refine M2 ?_;have r:=I.vh J;refine ir (wpAny_pyHash_tuple ?_ r ?_)
 .show X.A.units+1<cLine;lia
 have sz:O.size=a.length:=by
  have:=f.length_eq
  rw[fY,aV,g.len] at this;exact this
 refine Eh (s:={s with toks:=s.toks+([p.1,p.2].length+1)}) (by show X.A.units+1<cLine;lia) q S (I.X5 g f) r (by lia) (λR=>?_) λT h' y U Y t' Z B S' j=>?_
 .show wpAny _ _ (ret Value.none) _ _ _
  exact AC #[_,rfl, .aY,H,I.tok _,rfl,L ((I.nK g f p).mp R)]
 .show wpAny _ _ (ret Value.none) _ _ _
  have AM:p∉a:=λz=>by
   obtain⟨i,c',h1,h2⟩:=(I.nK g f p).mpr z;exact T i _ h1 c' rfl h2
  have I':=I.write (h':=h') (t':=s.toks+([p.1,p.2].length+1)) (x:=l) (e:=l) (o:= .ext (fI (gy X.w) l (d++ [(cw p,c)]))) (by rw[n];trivial) (.inl rfl) (λb u hb e=>Z.extBut b u hb e) #[y,B] (fI.ok #[y,U,Y,t',B,S',by
   rw[f6];exact j.trans (f.append_right _)])
  exact AC #[_,rfl, .aY,_,I',rfl,M AM]
def Yy(b:Bool)(r:V->List V->Hp->VK->Prop)(d:TE)(t:TA):TE:=λa H Q=>d a H λx c=>(∃p e,x= .ref p/\c p=some (.ext (fI b p e)))/\t a c λf g=>r x f g Q
variable {o e:Expr} {es:List Expr} {to:TE} {t:TA} {name:Str} {apos aP:Pos} {id:String} {r:V->List V->Hp->VK->Prop}
def Q4{b:Bool}(n:PlainAttrs "set")(slot:Slot "set" name id)(q:typeOf (.builtin id)=pure (.type "method_descriptor"))(u:Pz X id r)(w:PE X o to)(y:PA X (e::d) t)
  (z:attributeBase o name X.env (eval o X.env)=eval o X.env:=by rfl)
  (A:((backTo f (starEach (e::d) X.env)).all (λx=>!x.1)&&(backToKw f (keywordEach [] X.env)).all (λx=>x.1.isSome)
   &&decide ((e::d).length+([]:List Keyword).length+(if ([]:List Keyword).isEmpty then 0 else 1)<30))=true:=by rfl)
  (B:(apos.endLine==f.line)=true:=by rfl) (C:starEach (e::d) X.env=(false,eval e X.env)::starEach d X.env:=by rfl) (E:(backTo f (starEach d X.env)).any (·.1)=false:=by rfl):
  PE X (.Call (.Attribute o name apos) (e::d) [] f) (Yy b r to t):=by
 intro c s g H Q I h;refine acs z A B rfl (thn (w c s g H _ I h) λv F G=>?_);rfl';obtain⟨x,L,j,M,N,O⟩:=G;ac_rfl;rfl';obtain⟨p,lT,rfl,P⟩:=N;subst M;obtain⟨k,_,_,_,l,S,_⟩:=j.oI P;ac_rfl;refine#["set",id,n,slot,q,#[k,l,S.ex.1],λa R=>?_,?_]
 .cases R;exact#[k,l,S.ex.2.1]
 have m:=y f c F g L _ j O;rw[C] at m ⊢;refine aa6 (by show(false|| (backTo f (starEach d X.env)).any (·.1))=false;rw[E]<;>rfl) (Calls.evalArgs_plain ?_)
 exact thn m λT U #[Y,Z,I2,r2,q2]=>u c U g Z (.ref p) Y (.ref p) T Q I2 rfl r2 q2
end
def Fq(a:List (Int×Int))(p:Int×Int):List (Int×Int):=if p∈a then a else a++ [p]
section
variable {Z:DC} {X:Cx} {B:Bs} {md:List Nat} {rn:Nat} {ρ:DN} {σ:St} {H G:Hp} {fp:Nat->List Addr} {a e k o:Expr} {ta te tk tp:bf} {pos apos aP p2:Pos}
def OD(p:Int×Int):D:= .tup [.int p.1, .int p.2]
def Dv.JV(h:Dv Z G v (OD p)):∃c,v= .ref c/\G c=some (.tup [.int p.1, .int p.2]):=by
 rfl';obtain⟨c,l,rfl,b,f⟩:=Dv.uC h;obtain⟨m,n,rfl,g,i⟩:=f.Ik;rw[g.ofInt,i.ofInt] at b;ac_rfl;exact#[c,rfl,b]
def VY(w:World)(c:Bool):gr:=λa b P=>∃p d,a=OD p/\b= .x (.tq (gy w) d)/\P (.bl (if c=true then !decide (p∈d) else decide (p∈d)))
def Ij(d:X.A.units+64<cLine):OpR X (compareOp .NotIn) (bN Z (VY X.w true)):=by
 refine(Io d).imp ?_;rintro x y H Q ⟨G,a,b,P,s,f,g,⟨p,i,rfl,rfl,h⟩,q⟩;obtain⟨c,rfl,j⟩:=f.JV;cases g with
 |x l ok=>
  rfl';obtain⟨_,n,rfl,r⟩:=ok;ac_rfl;exact#[c,_,n,i,p,rfl,rfl,s _ _ j,s _ _ l,r.mono s,q _ h _ G H (.refl s) (.bl _)]
def PX(w:World)(i:Nat):cI:=λE b=>E.nx (b.set i (some (.x (.tq (gy w) []))))
def KD(i:Nat)(n:X.N.Nodup)(q:Gl X "set")(r:X.mg "set"=none)(s:t.getD i 0=98:=by rfl)(u:X.N[i]? =some x:=by rfl)(v:Loc X.env.scope x:=by subst_eqs)(y:swapsWith (.Call (.Name "set" p) [] [] A) (some (.Name x d)) m.line X.env=pure false:=by rfl)
  (C:X.fn x=true\/X.env.scope.names.lookup x=some .local:=by subst_eqs):DSt Z X t O (.Assign [.Name x d] (.Call (.Name "set" p) [] [] A) m) (PX X.w i):=by
 refine(pC n u v (Lp q r) y C).imp ?_;intro D P H F;rfl';obtain⟨B,R,E,⟨G,T,S⟩,h,M⟩:=F;ac_rfl;intro c g;have J:G c=none:=S.ex.sub.free g;have x:Ext G H G (upd H c (.ext (fI (gy X.w) c []))):=#[.refl _,S.ex.sub.trans (aR g _),aR g _,λ_ _ z=>z];refine M.nx _ h _ _ #[G,_,(S.grow x).OR s (f:= [c]) (.inr (.inr #[c,_,rfl,au,rfl, .inr #[rfl,_,rfl,iH,[],rfl, .nil]])) (by simp) (λb l=>?_) λb l j _ L=>?_]
 .rw[fm] at l;subst l
  exact#[S.ex.hh.free g,(by rw[au];exact λz=>nomatch z),J]
 .rw[fm] at l;subst l
  exact(S.nw j _ L).2.1 g
def Tg(w:World)(f:List Nat)(m:Bool)(i:Nat)(g:bf):cI:=λE b=>∃c,b[i]? =some (some (.x (.tq (gy w) c)))/\g (GA f m b) λd=>∃p,d=OD p/\c.length<=300/\E.nx (b.set i (some (.x (.tq (gy w) (Fq c p)))))
def MC(m:Bool)(i:Nat)(hu:X.A.units+64<cLine)(he:DE Z X e te)(s:md.getD i 0=98:=by rfl)(hi:X.N[i]? =some x:=by rfl)(hv:pI X.env.scope x:=by subst_eqs)(t:(x==("__debug__":Str))=false:=by decide)(eU:(x==("__classdict__":Str))=false:=by decide)
  (eS:attributeBase (.Name x g) "add" X.env (eval (.Name x g) X.env)=eval (.Name x g) X.env:=by rfl)
  (jU:((backTo aP (starEach [e] X.env)).all (λx=>!x.1)&&(backToKw aP (keywordEach [] X.env)).all (λx=>x.1.isSome)&&decide (([e]:List Expr).length+([]:List Keyword).length+(if ([]:List Keyword).isEmpty then 0 else 1)<30))=true:=by rfl)
  (cQ:(apos.endLine==aP.line)=true:=by rfl) (I:starEach [e] X.env=(false,eval e X.env)::starEach [] X.env:=by rfl) (eW:(backTo aP (starEach [] X.env)).any (·.1)=false:=by rfl)
  (lU:swapsWith (.Call (.Attribute (.Name x g) "add" apos) [e] [] aP) none pos.line X.env=pure false:=by rfl):
  DSt Z X md rn (.Expr (.Call (.Attribute (.Name x g) "add" apos) [e] [] aP) pos) (Tg X.w md m i te):=by
 refine(iu (Q4 (b:=gy X.w) PySem.F.plainAttrs_set PySem.F.slot_set_add PySem.F.type_set_add (NY hu) (pv i hi hv t eU) (bS he fU I) eS jU cQ I eW) lU).imp ?_;intro D σ H aL;rfl';obtain⟨B,J,E,⟨G,L,S⟩,⟨O,n,h⟩,M⟩:=aL;ac_rfl;rfl';obtain⟨v0,y,P⟩:=S.at_ i _ n;rw[s] at P;obtain⟨l,φ,rfl,hl,_,nd,es,rfl,pe⟩:=P.xA;ac_rfl;refine#[_,y,#[l,_,rfl,hl],S.ev m h λd t=>?_];obtain⟨p,rfl,hz,q⟩:=t;refine#[by cases m<;>trivial,λv Q H' C x dv=>?_]
 rfl';obtain⟨c,rfl,R⟩:=dv.JV;obtain⟨v1,T,U⟩:=C.at_ i _ n;rw[y] at T;ac_rfl;cases FB T;rfl';rw[s] at U;obtain⟨l',φ',e',pM,Y,mh,lT,rfl,k⟩:=U.xA;cases e';ac_rfl;refine#[l,c,lT,O,p,rfl,rfl,x.sub _ _ R,pM,k.mono x.sub,hz,λr=>?_,λr=>?_]
 .rw[Fq,tz r] at q
  refine M.nx _ q _ _ #[Q,L,?_]
  have e:J.set i (some (.x (.tq (gy X.w) O)))=J:=by
   refine Bp λj=>?_
   by_cases z:i=j
   .subst z
    have bZ:=(cX.mp n).1;rw[lL bZ,n]
   .rw[lM z]
  rw[e];exact C
 .rw[Fq,mo r] at q
  refine M.nx _ q _ _ #[Q,L,C.mut y (b:=l) (by rw[Y];simp) ?_]
  rw[s,Y];refine .inr (.inr #[l,_,rfl,au,rfl, .inr #[rfl,_,rfl,?_,_,rfl,k.snoc R]]);rw[kD];refine#[mh,by simp,λa ha b o z=>r ?_]
  rw[fm] at o;rw[<-o,<-z];exact ha
end
section
variable {Z:DC} {X:Cx}
def Mf:dA:=λa P=>∃L:List (List Nat),a= [.lst (L.map av)]/\L.length<=1000/\∀M:List (List Nat),M.Perm L->M.Pairwise nS->P (.lst (M.map av))
def P8(h:Dv Z G v (av r)):∃a,v= .ref a/\G a=some (.lst ((ji r).map V.int)):=by
 obtain⟨a,d,rfl,b,c⟩:=Dv.kN h
 have:d=(ji r).map V.int:=by
  have e:r.map ai=(ji r).map D.int:=by unfold ji;rw[eH];rfl
  rw[e] at c;exact rX c
 rw[this] at b;exact#[a,rfl,b]
def Rp(h:G a=some (.lst ((ji r).map V.int))):Dv Z G (.ref a) (av r):=by
 have e:av r= .lst ((ji r).map D.int):=by unfold av ji;rw[eH];rfl
 rw[e];exact .lst h (.ints _)
theorem Az:∀{b:List V}{L:List (List Nat)},DvAll Z G b (L.map av)->∃A:List (Addr×List Nat),b=A.map (λe=>V.ref e.1)/\A.map (·.2)=L/\GX G A
 |b,[],h=>by cases h;exact#[[],rfl,rfl,λp c=>by cases c]
 |b,r::L,h=>by
  cases h with
  |cons a f=>
   obtain⟨A,g,i,j⟩:=Az f;obtain⟨p,rfl,c⟩:=P8 a;refine#[(p,r)::A,by rw[g];rfl,by rw[<-i];rfl,λq d=>?_]
   rcases b8.mp d with rfl|d
   .exact c
   .exact j q d
theorem GX.dv{G:Hp}:∀{L:List (Addr×List Nat)},GX G L->DvAll Z G (L.map λe=>V.ref e.1) ((L.map (·.2)).map av)
 | [],_=> .nil
 |x::L,h=> .cons (Rp (h x (dE ..))) (GX.dv λp a=>h p (eM _ a))
def Hh(j:X.A.units+64<cLine):CallR X (.builtin "sorted") (jX Z Mf):=by
 refine(wJ j).imp ?_;rintro t H Q ⟨G,k,P,s,dv,⟨c,rfl,u,b⟩,q⟩;cases dv with
 |cons a l=>
  cases l;cases a with
  | @lst p v k h e=>
   obtain⟨L,rfl,d,f⟩:=Az e;have w:L.length=c.length:=by rw[<-d];simp
   refine#[_,L,rfl,cJ.of (s _ _ h),λp b=>s _ _ (f p b),by lia,λp M g i m=>?_]
   have n:(M.map (·.2)).Perm c:=by rw[<-d];exact i.map _
   have o:GX (upd G p (.lst (M.map λe=>V.ref e.1))) M:=λx r=>aR (s.free g) _ _ _ (f x (i.mem_iff.mp r));exact q _ (b _ n m) _ _ _ (.new s g) (.lst au o.dv)
end
section
variable {Z:DC} {X:Cx} {md:List Nat} {rn:Nat} {a b:Expr} {pos:Pos} {ta:gS}
def V4(d:List Nat)(i j:Nat)(e:gS):cI:=λE c=>e (cT d c) λf=>∃a b,f= [a,b]/\E.nx ((c.set i (some a)).set j (some b))
def JB(i j:Nat){kt k2 IA}(d:X.calm=true)(e:X.N.Nodup)(f:DA Z X [a,b] ta)(g:X.N[i]? =some x:=by rfl)(k:X.N[j]? =some y:=by rfl)(l:i≠j:=by decide)(m:md.getD i 0=0:=by rfl)(n:md.getD j 0=0:=by rfl)
  (o:X.env.scope.names.lookup x=some .local:=by rfl) (p:X.env.scope.names.lookup y=some .local:=by rfl)
  (hw:swappedStores [.Tuple [.Name x c, .Name y py] kt pt] (.Tuple [a,b] k2 IA) X.env=pure (some [x,y]):=by rfl)
  (q:swapsWithSole [.Tuple [.Name x c, .Name y py] kt pt] (.Tuple [a,b] k2 IA) pos.line X.env=pure false:=by rfl):
  DSt Z X md rn (.Assign [.Tuple [.Name x c, .Name y py] kt pt] (.Tuple [a,b] k2 IA) pos) (V4 md i j ta):=by
 refine(Rh d e g k l o p f hw q).imp ?_;intro D I H r;rfl';obtain⟨B,t,E,⟨G,L,S⟩,h,M⟩:=r;ac_rfl;exists G,cT md t,_,S.ex.sub,S.xp,h;rintro _ ⟨a,b,rfl,w⟩ O z P x A;obtain⟨v,u,rfl,C,F⟩:=A.Ik;exact#[v,u,rfl,M.nx _ w _ _ #[z,_,((S.grow x).oI m C).oI n F]]
end
def gY.ok{P:Program}{w:World}{H:Hp}{a:Addr}{vs:List FV}(x:gY a c vs h):cn P w H h a (.ext (gY a c vs)):=by
 refine#[x,let #[_,o,_,_,b,_]:=x;#[o,b],λf g p k=>?_];obtain⟨z,o,d,e,b,r⟩:=p;exact#[z,o,d,e,k o b,r]
inductive mZ (H:Hp):List (Int×Addr)->List (Int×Int)->List FV->List (List Int×Addr×Value)->Prop
 |nil:mZ H [] [] [] []
 |cons {a:Addr} {p:Int×Int} {v:FV} {u:Value} {es:List (Int×Addr)} {ks:List (Int×Int)} {vs:List FV} {xs:List (List Int×Addr×Value)}:H a=some (.tup [.int p.1, .int p.2])->Pu v u->mZ H es ks vs xs->mZ H ((cw p,a)::es) (p::ks) (v::vs) (([p.1,p.2],a,u)::xs)
theorem mZ.keys:∀{c:List (Int×Addr)}{a:List (Int×Int)}{d:List FV}{b:List (List Int×Addr×Value)},mZ H c a d b->b.map (·.1)=a.map λp=> [p.1,p.2]
 |_,_,_,_, .nil=>rfl
 |_,_,_,_, .cons _ _ t=>by rw[dz,dz,t.keys]
theorem mZ.len:∀{c:List (Int×Addr)}{a:List (Int×Int)}{d:List FV}{b:List (List Int×Addr×Value)},mZ H c a d b->b.length=a.length
 |_,_,_,_, .nil=>rfl
 |_,_,_,_, .cons _ _ t=>KB (·+1) t.len
theorem mZ.snoc(b:H a=some (.tup [.int p.1, .int p.2]))(h:Pu v u):∀{c:List (Int×Addr)}{d:List (Int×Int)}{e:List FV}{f:List (List Int×Addr×Value)},mZ H c d e f->mZ H (c++ [(cw p,a)]) (d++ [p]) (e++ [v]) (f++ [([p.1,p.2],a,u)])
 |_,_,_,_, .nil=> .cons b h .nil
 |_,_,_,_, .cons k' g t=> .cons k' g (mZ.snoc b h t)
def u6(P:Program)(w:World)(p:Int×Int)(a:Addr)(u:Value):entryOfKey (tupleKind (intKind P w)) ([p.1,p.2],a,u)=#[cw p, .ref a,u]:=by
 unfold entryOfKey;rw[show(tupleKind (intKind P w)).hash [p.1,p.2]=cw p from mr P w p]
def TJ(d:Kg l b g):∀{c:List (Int×Int)},iI H b c->∃f,mZ H b c g f/\∀(P:Program)(w:World),l=f.map (entryOfKey (tupleKind (intKind P w))):=by
 induction d with
 |nil=>intro c i;cases i;exact#[[], .nil,λ_ _=>rfl]
 | @cons e l h a v b g j k m d n=>
  intro c i;cases i with
  | @cons _ p _ r h t=>
   obtain⟨f,o,q⟩:=n t;refine#[([p.1,p.2],a,e.val)::f, .cons h m o,λP w=>?_];rw[dz,<-q P w,u6];obtain⟨s,u,ev⟩:=e;simp only at j k ⊢;rw[j,k]
def TN{e:List (Int×Int)}(d:mZ H a e b c):Kg (c.map (entryOfKey (tupleKind (intKind P w)))) a b:=by
 induction d with
 |nil=>exact .nil
 |cons _ h t f=>
  rw[dz,u6];exact .cons rfl rfl h f
def mZ.isKey(I:Inv X a e H s)(d:mZ H f g i c):∀x∈c,IsTupleKey (intKind X.prog X.w) s.heap x.1 x.2.1:=by
 induction d with
 |nil=>intro x b;cases b
 |cons h _ _ j=>
  intro x b
  rcases b8.mp b with rfl|b
  .exact I.vh h
  .exact j x b
def nj{K:Type} [DecidableEq K] {b:List (K×Addr×Value)} {k:K}:(atKey b k).isSome=true↔k∈b.map (·.1):=by
 unfold atKey;rw[Option.isSome_map,List.find?_isSome,dO]
 constructor
 .rintro⟨x,a,e⟩;exact#[x,a,Pi e]
 .rintro⟨x,a,e⟩;exact#[x,a,KM e]
def uI{p:Int×Int}{a:List (Int×Int)}: [p.1,p.2]∈a.map (λp=> [p.1,p.2])↔p∈a:=by
 rw[dO]
 constructor
 .rintro⟨q,b,e⟩
  simp at e;rw[<-show q=p from aaA e.1 e.2];exact b
 .intro h;exact#[p,h,rfl]
def FP{c:List (Int×Int)}(h:c.Nodup):(c.map λp=> [p.1,p.2]).Nodup:=by
 rw[GI,j8];rw[GI] at h;exact h.imp λ {a b} n e=>n (by simp at e;exact aaA e.1 e.2)
section
variable {X:Cx} {pins:List (Addr×Obj)} {σ:St} {H:Hp} {s:Shared}
def Inv.Wi(I:Inv X pins σ H s)(h:H a=some (.ext (gY a b e)))(f:iI H b c)(g:c.Nodup):
  (a==sysModules)=false/\∃xs,mZ H b c e xs/\s.heap.DictOfH (tupleKind (intKind X.prog X.w)) a xs:=by
 rfl';obtain⟨z,o,j,k,l,m,n,p⟩:=(I.hok a _ h).1;obtain⟨xs,d,q⟩:=TJ p f;ac_rfl;exact#[z,xs,d,o,j,k,l,m,n,q _ _,d.isKey I,by rw[d.keys];exact FP g]
def Om:PE X (.Dict [] [] b) (λd H Q=>∀q,H q=none->Q (.ref q) (upd H q (.ext (gY q [] [])))):=by
 intro c s d H Q I h;have e:=I.hok.fresh (bu s.heap.objs.size);refine wpAny_Dict_empty #[.ref s.heap.objs.size,_,I.laid (a:=s.heap.objs.size) (t':=s.toks) (λ_ _ q=>Da _ q) (bu _) (o:= .ext (gY s.heap.objs.size [] [])) (gY.ok #[?_,_, #[],0,GM _ rfl,#[rfl,rfl,rfl],rfl, .nil]),rfl,h _ e];have f:mainGlobals<s.heap.objs.size:=(I.mod.glob.keeps I.bk).lt;have g:sysModules<s.heap.objs.size:=Nat.lt_trans (by decide) f
 exact aat.mpr (Ne.symm (bO g))
def FN(F:X.A.units+64<cLine):OpR X (compareOp .NotIn) (λx y H Q=>∃c a d b g p,x= .ref c/\y= .ref a/\H c=some (.tup [.int p.1, .int p.2])/\H a=some (.ext (gY a d g))/\iI H d b/\b.Nodup/\Q (.bl (!decide (p∈b))) H):=by
 intro i s G H x y v u Q I l m h;rfl';obtain⟨c,a,d,b,g,p,rfl,rfl,o,r,t,B,q⟩:=h;ac_rfl;cases l;cases m;rfl';obtain⟨z,C,j,E⟩:=I.Wi r t B;ac_rfl
 have:(atKey C [p.1,p.2]).isSome=decide (p∈b):=by
  by_cases e:p∈b
  .rw[KM e];exact nj.mpr (by rw[j.keys];exact uI.mpr e)
  .rw[Gc e]
   apply vy.mpr;exact λz=>e (uI.mp (by rw[<-j.keys];exact nj.mp z))
 exact PyProof.Rows.wpAny_notIn_heap (knd:=tupleKind (intKind X.prog X.w)) (k:= [p.1,p.2]) (by show X.A.units+1<cLine;lia) (I.vh o) z E (by rw[this];exact#[.bl _,H,I.tok _,rfl,q])
def vF:FV->V
 | .int i=> .int i
 | .bl b=> .bl b
def Qe(h:RelV (vF f) u):Pu f u:=by
 cases f with
 |int i=>exact h
 |bl b=>exact h
variable {o i value:Expr} {td ti tv:TE} {pos pos':Pos}
def Vm(j k l:TE):TS:=λD b H=>l b H λv m=>j b m λx n=>k b n λy d=>∃a c f e g p h,x= .ref a/\y= .ref c/\v=vF h/\d a=some (.ext (gY a f g))/\d c=some (.tup [.int p.1, .int p.2])/\iI d f e/\e.Nodup/\p∉e/\e.length<=300/\D.nx b (upd d a (.ext (gY a (f++ [(cw p,c)]) (g++ [h]))))
def OF(hu:X.A.units+64<cLine)(J:PE X o td)(L:PE X i ti)(M:PE X value tv)(N:swapsWith value (some (.Subscript o i pos')) pos.line X.env=pure false:=by rfl):PS X (.Assign [.Subscript o i pos'] value pos) (Vm td ti tv):=by
 intro d s f H D I h;refine wpAny_Assign_Subscript (thn (M d s f H _ I h) λr O #[v,P,Q,R,S]=>thn (J d O f P _ Q S) λu T #[x,U,Y,Z,q2]=>thn (L d T f U _ Y q2) λiv s3 #[y,H3,g,ry,a,c,m,ks,n,p,t,e1,e2,e3,B,C,pe,nd,np,hz,q3]=>?_) N;subst e1 e2 e3;cases Z;cases ry;obtain⟨z,j,l,hm⟩:=g.Wi B pe nd;refine wpAny_setItem_heap (knd:=tupleKind (intKind X.prog X.w)) (k:= [p.1,p.2]) (by show X.A.units+1<cLine;lia) (g.vh C) hm (λh' E sb=>?_) (small (by rw[l.len];lia))
 have na:atKey j [p.1,p.2]=none:=by
  cases e:atKey j [p.1,p.2] with
  |none=>rfl
  |some q=>exact absurd (uI.mp (by rw[<-l.keys];exact nj.mp (by rw[e];rfl))) np
 rw[storedH_new na] at E;rfl';have x2:mZ H3 (m++ [(cw p,c)]) (ks++ [p]) (n++ [t]) (j++ [([p.1,p.2],c,r)]):=l.snoc C (Qe R);obtain⟨F,ZN,B4,G,xN,hZ,Ck,_,_⟩:=E;have I':=g.write (h':=h') (t':=s3.toks+(tupleKind (intKind X.prog X.w)).draws [p.1,p.2]) (x:=a) (e:=a) (o:= .ext (gY a (m++ [(cw p,c)]) (n++ [t]))) (by rw[B];trivial) (.inl rfl) (λb u hb e=>sb.extBut b u hb e) #[F,G] (gY.ok #[z,F,ZN,B4,G,xN,hZ,by rw[Ck];exact TN x2])
 ac_rfl;exact#[f,_,I',q3]
end
section
variable {Z:DC} {X:Cx} {B:Bs} {md:List Nat} {rn:Nat} {ρ:DN} {σ:St} {H G:Hp} {fp:Nat->List Addr} {a e k o:Expr} {ta te tk tp:bf} {pos apos aP p2:Pos}
def VX(c:Bool):gr:=λa b P=>∃p d f,a=OD p/\b= .x (.sZ d f)/\P (.bl (if c=true then !decide (p∈d) else decide (p∈d)))
def Ii(d:X.A.units+64<cLine):OpR X (compareOp .NotIn) (bN Z (VX true)):=by
 refine(FN d).imp ?_;rintro x y H Q ⟨G,a,b,P,s,f,g,⟨p,i,j,rfl,rfl,h⟩,q⟩;obtain⟨c,rfl,l⟩:=f.JV;cases g with
 |x m ok=>
  rfl';obtain⟨r,t,rfl,u⟩:=ok;ac_rfl;exact#[c,_,t,i,j,p,rfl,rfl,s _ _ l,s _ _ m,u.mono s,r,q _ h _ G H (.refl s) (.bl _)]
def Tn(i:Nat):cI:=λE b=>E.nx (b.set i (some (.x (.sZ [] []))))
def ME(i:Nat)(n:X.N.Nodup)(p:q.getD i 0=98:=by rfl)(r:X.N[i]? =some x:=by rfl)(s:Loc X.env.scope x:=by subst_eqs)(t:swapsWith (.Dict [] [] u) (some (.Name x d)) m.line X.env=pure false:=by rfl)
  (v:X.fn x=true\/X.env.scope.names.lookup x=some .local:=by subst_eqs):DSt Z X q F (.Assign [.Name x d] (.Dict [] [] u) m) (Tn i):=by
 refine(pC n r s Om t v).imp ?_;intro D I H w;rfl';obtain⟨B,L,E,⟨G,O,S⟩,h,M⟩:=w;ac_rfl;intro c g;have A:G c=none:=S.ex.sub.free g;have x:Ext G H G (upd H c (.ext (gY c [] []))):=#[.refl _,S.ex.sub.trans (aR g _),aR g _,λ_ _ z=>z];refine M.nx _ h _ _ #[G,_,(S.grow x).OR p (f:= [c]) (.inr (.inr #[c,_,rfl,au,rfl, .inr #[rfl,_,rfl,iH,[],rfl, .nil]])) (by simp) (λb l=>?_) λb l j _ C=>?_]
 .rw[fm] at l;subst l
  exact#[S.ex.hh.free g,(by rw[au];exact λz=>nomatch z),A]
 .rw[fm] at l;subst l
  exact(S.nw j _ C).2.1 g
def Wz:FV->D
 | .int i=> .int i
 | .bl b=> .bl b
def Dv.X1(h:Dv Z G v (Wz f)):v=vF f:=by
 cases f with
 |int i=>exact h.ofInt
 |bl b=>exact h.AZ
def TB(f:List Nat)(i:Nat)(j l:bf):cI:=λE b=>l (cT f b) λd=>∃g c h,d=Wz g/\b[i]? =some (some (.x (.sZ c h)))/\j (cT f b) λm=>∃p,m=OD p/\p∉c/\c.length<=300/\E.nx (b.set i (some (.x (.sZ (c++ [p]) (h++ [g])))))
def MH(i:Nat)(U:X.A.units+64<cLine)(Y:DE Z X k tk)(o:DE Z X e te)(m:md.getD i 0=98:=by rfl)(hi:X.N[i]? =some x:=by rfl)(hv:pI X.env.scope x:=by subst_eqs)(n:(x==("__debug__":Str))=false:=by decide)(eU:(x==("__classdict__":Str))=false:=by decide)
  (hs:swapsWith e (some (.Subscript (.Name x s) k g)) pos.line X.env=pure false:=by rfl):DSt Z X md rn (.Assign [.Subscript (.Name x s) k g] e pos) (TB md i tk te):=by
 refine(OF U (pv i hi hv n eU) Y o hs).imp ?_;intro D σ H aL;rfl';obtain⟨B,ρ,E,⟨G,fp,S⟩,h,M⟩:=aL;ac_rfl;refine S.ev false h λd n=>#[trivial,λv G1 H1 t x1 dv=>?_];rfl';obtain⟨fv,ks,vs,rfl,w,h2⟩:=n;ac_rfl;obtain rfl:=dv.X1;rfl';obtain⟨v0,q,y⟩:=t.at_ i _ w;rw[m] at y;obtain⟨l,φ,rfl,hl,_,nd,es,rfl,pe⟩:=y.xA;ac_rfl;refine#[_,q,t.ev false h2 λkd r=>#[trivial,λu G2 H2 C F du=>?_]];rfl';obtain⟨p,rfl,I,hz,hn⟩:=r;obtain⟨c,rfl,J⟩:=du.JV;obtain⟨v1,L,O⟩:=C.at_ i _ w;rw[q] at L;ac_rfl;cases FB L;rfl';rw[m] at O;obtain⟨l',φ',e',pM,P,Q,lT,rfl,R⟩:=O.xA;cases e';ac_rfl;refine#[l,c,lT,ks,vs,p,fv,rfl,rfl,rfl,pM,F.sub _ _ J,R.mono F.sub,Q,I,hz,M.nx _ hn _ _ #[G2,fp,C.mut q (b:=l) (by rw[P];simp) ?_]]
 rw[m,P];refine .inr (.inr #[l,_,rfl,au,rfl, .inr #[rfl,_,rfl,?_,_,rfl,R.snoc J]]);rw[kD];refine#[Q,by simp,λa ha b T z=>I ?_]
 rw[fm] at T;rw[<-T,<-z];exact ha
end
end L2
namespace Wb
def iB(w:W)(d:Nat×Nat)(r:List (Nat×Nat)):Prop:=∃k,0<k/\bz w k d=d/\(∀j,0<j->j<k->bz w j d≠d)/\r=walk w d k
def bJ:e∈walk w d k↔∃i,i<k/\e=bz w i d:=by
 unfold walk;rw[dO]
 constructor
 .rintro⟨i,a,rfl⟩;exact#[i,gQ.mp a,rfl]
 .rintro⟨i,a,rfl⟩;exact#[i,gQ.mpr a,rfl]
def iB.first(h:iB w d r):d∈r:=by
 obtain⟨k,a,_,_,rfl⟩:=h;exact bJ.mpr #[0,a,rfl]
def iB.next(h:iB w d r)(a:e∈r):cp w e∈r:=by
 obtain⟨k,b,f,_,rfl⟩:=h;obtain⟨i,g,rfl⟩:=bJ.mp a
 by_cases c:i+1<k
 .exact bJ.mpr #[i+1,c,rfl]
 .have:i+1=k:=by lia
  refine bJ.mpr #[0,b,?_];show bz w (i+1) d=d;rw[this];exact f
theorem iB.iter(h:iB w d r)(a:e∈r):∀n,bz w n e∈r
 |0=>a
 |n+1=>h.next (h.iter a n)
def iB.back(h:iB w d r)(a:e∈r):∃n,bz w n e=d:=by
 obtain⟨k,c,b,_,rfl⟩:=h;obtain⟨i,f,rfl⟩:=bJ.mp a;exists k-i;rw[<-lA i (k-i),show k-i+i=k by lia]
 exact b
def iB.nodup(g:Good w)(h:iB w d r)(a:ba w d):r.Nodup:=by
 obtain⟨k,c,e,b,rfl⟩:=h;exact oQ g a b
def iB.bB(g:Good w)(h:iB w d r)(a:ba w d):∀e∈r,ba w e:=by
 obtain⟨k,b,c,f,rfl⟩:=h;exact mG g a
structure Wk (w:W) (ds:List (Nat×Nat)) (i:Nat) (rs:List (List (Nat×Nat))):Prop where
 rnd:∀r∈rs,∃d,iB w d r/\ba w d/\∀e∈r,lexLe d e
 nod:rs.flatten.Nodup
 met:∀j e,j<i->ds[j]? =some e->e∈rs.flatten
def Wk.zero(w:W)(a:List (Nat×Nat)):Wk w a 0 []:=#[(λr h=>by cases h),iH,(λj e h=>by lia)]
def Wk.skip(h:Wk w a i b)(g:a[i]? =some d)(k:d∈b.flatten):Wk w a (i+1) b:=
 #[h.rnd,h.nod,λj e l f=>by
  by_cases c:j=i
  .subst c;rw[g] at f;cases f;exact k
  .exact h.met j e (by lia) f]
def Wk.take{w:W}(g:Good w){k:List (Nat×Nat)}(all:∀e,ba w e->e∈k)(dart:∀e∈k,ba w e)(u:k.Pairwise lexLe){i:Nat}{o:List (List (Nat×Nat))}(h:Wk w k i o)(p:k[i]? =some d)(v:d∉o.flatten)(l:iB w d r):Wk w k (i+1) (o++ [r]):=by
 have s:ba w d:=dart d (eF p)
 have off:∀e∈r,e∉o.flatten:=λe f x=>by
  obtain⟨q,t,y⟩:=vB.mp x;obtain⟨M,A,_,_⟩:=h.rnd q t;obtain⟨n,B⟩:=l.back f;exact v (vB.mpr #[q,t,by rw[<-B];exact A.iter y n])
 refine#[λq C=>?_,?_,λj e m f=>?_]
 .rcases eG.mp C with z|z
  .exact h.rnd q z
  .rw[fm.mp z]
   refine#[d,l,s,λe f=>?_];obtain⟨j,m⟩:=mU (all e (l.bB g s e f))
   by_cases c:j<i
   .exact absurd (h.met j e c m) (off e f)
   .by_cases E:j=i
    .subst E;rw[p] at m;cases m
     exact .inr #[rfl,bu _]
    .obtain⟨F,G⟩:=cX.mp p
     obtain⟨H,I⟩:=cX.mp m;rw[<-G,<-I];exact GJ.mp u i j F H (by lia)
 .rw[GQ,kD]
  refine#[h.nod,by simpa using l.nodup g s,λa J b L e=>?_]
  subst e;exact off a (by simpa using L) J
 .rw[GQ,eG]
  by_cases c:j=i
  .subst c;rw[p] at f;cases f
   exact .inr (by simpa using l.first)
  .exact .inl (h.met j e (by lia) f)
def Wk.fin(g:Good w)(all:∀e,ba w e->e∈a)(h:Wk w a a.length b):b.flatten.Perm (bB w):=by
 have sub:∀e,e∈b.flatten↔e∈bB w:=λe=>by
  rw[bw]
  constructor
  .intro c
   obtain⟨r,i,k⟩:=vB.mp c;obtain⟨d,R,l,_⟩:=h.rnd r i;exact R.bB g l e k
  .intro c
   obtain⟨j,f⟩:=mU (all e c);exact h.met j e (cX.mp f).1 f
 exact(Bh h.nod (gZ g)).mpr sub
structure bI (w:W) (rs:List (List (Nat×Nat))):Prop where
 rnd:∀r∈rs,∃d,iB w d r/\ba w d/\∀e∈r,lexLe d e
 perm:rs.flatten.Perm (bB w)
def bI.N8(R:bI w a)(p:b.Perm a):bI w b:=
 #[λr c=>R.rnd r (p.mem_iff.mp c),(p.flatten).trans R.perm]
def wY(g:Good w)(h:ba w d):d.1≠d.2:=λe=>g.irr d.1 (by have:d.2∈row w d.1:=h;rw[<-e] at this;exact this)
def wH{w:W}(g:Good w){f:List (Nat×Nat)}(l:f.Perm (jB (row w) w.length)):(f++f.map λt=>(t.2,t.1)).Perm (bB w):=by
 have e:=oP w;have n:=gZ g
 have m:∀t,t∈f↔ba w t/\t.1<t.2:=λt=>by
  rw[l.mem_iff,e,vD,bw,abV]
 have i:f.Nodup:=l.nodup_iff.mpr (by rw[e];exact n.filter _)
 refine(Bh ?_ n).mpr λd=>?_
 .rw[kD]
  refine#[i,?_,λa o b p z=>?_]
  .rw[GI,j8]
   rw[GI] at i;exact i.imp λ {a b} h z=>h (aaA (aaS z).2 (aaS z).1)
  .obtain⟨c,j,rfl⟩:=dO.mp p
   have k:=((m a).mp o).2;have q:=((m c).mp j).2;rw[z] at k;have k:c.2<c.1:=k;lia
 .rw[eG,dO,bw]
  constructor
  .rintro(h| ⟨c,j,rfl⟩)
   .exact((m d).mp h).1
   .exact g.sym _ _ ((m c).mp j).1
  .intro h
   rcases Nat.lt_or_gt_of_ne (wY g h) with c|c
   .exact .inl ((m d).mpr #[h,c])
   .exact .inr #[(d.2,d.1),(m _).mpr #[g.sym _ _ h,c],rfl]
def iB.uniq(h:iB w d r)(b:iB w d a):r=a:=by
 obtain⟨k,e,f,g,rfl⟩:=h;obtain⟨m,i,j,l,rfl⟩:=b
 rcases Nat.lt_trichotomy k m with c|c|c
 .exact absurd f (l k e c)
 .rw[c]
 .exact absurd j (g m i c)
def bI.sub(R:bI w c)(f:bI w a):∀r∈c,r∈a:=λr j=>by
 obtain⟨d,b,k,l⟩:=R.rnd r j;have m:d∈a.flatten:=f.perm.mem_iff.mpr (bw.mpr k);obtain⟨o,g,h⟩:=vB.mp m;obtain⟨p,i,u,q⟩:=f.rnd o g;obtain⟨n,s⟩:=i.back h;have t:lexLe d p:=by rw[<-s];exact l _ (b.iter b.first n)
 have e:=uw t (q d h);subst e;rw[b.uniq i];exact g
def bI.ne{a:List (List (Nat×Nat))}(R:bI w a):∀r∈a,r≠ []:=λr b z=>by
 obtain⟨d,c,_⟩:=R.rnd r b
 have:=c.first
 rw[z] at this;cases this
theorem vc:∀{l:List (List c)},l.flatten.Nodup->(∀r∈l,r≠ [])->l.Nodup
 | [],_,_=>iH
 |a::l,h,b=>by
  rw[qq,kD] at h;refine jq.mpr #[λd=>?_,vc h.2.1 λr e=>b r (eM _ e)];cases a with
  |nil=>exact b [] (dE ..) rfl
  |cons x a=>exact h.2.2 x (dE ..) x (vB.mpr #[_,d,dE ..]) rfl
def bI.nodup(g:Good w)(R:bI w a):a.Nodup:=vc (R.perm.nodup_iff.mpr (gZ g)) R.ne
abbrev dj(a:List (List (Nat×Nat))):List (List Nat):=a.map λr=>r.map (·.1)
def HZ(h:L2.nS a b)(c:L2.nS b a):a=b:=by
 have:=L2.sP (L2.ji a) (L2.ji b) c h
 exact L2.Gu (by rw[this])
def bI.uniq(g:Good w)(R:bI w a)(c:bI w b)(s:(dj a).Pairwise L2.nS)(d:(dj b).Pairwise L2.nS):dj a=dj b:=by
 have e:a.Perm b:=(Bh (R.nodup g) (c.nodup g)).mpr λr=>#[R.sub c r,c.sub R r];exact acj (λ_ _ _ _=>HZ) s d (e.map _)
open Classical in
noncomputable def lY(w:W):List (List Nat):=if h:∃rs,bI w rs/\(dj rs).Pairwise L2.nS then dj h.choose else[]
def AO(g:Good w)(R:bI w a)(s:(dj a).Pairwise L2.nS):lY w=dj a:=by
 have h:∃a,bI w a/\(dj a).Pairwise L2.nS:=#[a,R,s];unfold lY;rw[dif_pos h];exact h.choose_spec.1.uniq g R h.choose_spec.2 s
def iR{a b:List Nat}{x y:Nat}(c:(a++x::y::b).Nodup):ay (a++x::y::b) x=y:=by
 have d:x∉a:=λh=>by
  have:=(kD.mp c).2.2 x h x (dE ..)
  exact this rfl
 have e:(a++x::y::b).idxOf x=a.length:=by
  rw[List.idxOf_append,mo d,List.idxOf_cons_self];simp
 unfold ay;rw[e,oX (by simp),bG,i7 (by lia)]
 simp
def oM{b:List Nat}{x y:Nat}(a:(y::(b++ [x])).Nodup):ay (y::(b++ [x])) x=y:=by
 have c:x∉y::b:=λh=>by
  have d:(y::b++ [x]).Nodup:=a;exact(kD.mp d).2.2 x h x (by simp) rfl
 have e:(y::(b++ [x])).idxOf x=b.length+1:=by
  show(y::b++ [x]).idxOf x=_;rw[List.idxOf_append,mo c];simp
 unfold ay;rw[e]
 have:(b.length+1+1)%(y::(b++ [x])).length=0:=by simp
 rw[this];rfl
def IM(f:(a++b).Nodup)(h:x∈a++b):ay (b++a) x=ay (a++b) x:=by
 have d:(b++a).Nodup:=(List.perm_append_comm.nodup_iff).mp f;obtain⟨u,v,e⟩:=List.append_of_mem h;cases v with
 |cons y v=>
  rw[e,iR (e▸f)]
  rcases List.append_eq_append_iff.mp e with ⟨c,g,i⟩ | ⟨c,g,i⟩
  .
   rw[i,show c++x::y::v++a=c++x::y::(v++a) by simp]
   refine iR ?_;rw[i] at d;simpa using d
  .
   cases c with
   |nil=>
    have j:b=x::y::v:=by simpa using i.symm
    rw[j,show x::y::v++a= []++x::y::(v++a) by simp]
    refine iR ?_;rw[j] at d;simpa using d
   |cons z c=>
    have l:x=z/\y::v=c++b:=by simpa using i
    obtain⟨rfl,n⟩:=l;cases c with
    |nil=>
     have j:b=y::v:=by simpa using n.symm
     rw[g,j,show y::v++(u++ [x])=y::((v++u)++ [x]) by simp]
     refine oM ?_;rw[g,j] at d;simpa using d
    |cons z c=>
     have l:y=z/\v=c++b:=by simpa using n
     obtain⟨rfl,rfl⟩:=l;rw[g,show b++(u++x::y::c)=(b++u)++x::y::c by simp]
     refine iR ?_;rw[g] at d;simpa using d
 |nil=>
  cases b with
  |nil=>simp
  |cons y b=>
   rcases List.eq_nil_or_concat b with rfl| ⟨k,z,rfl⟩
   .
    have:a=u/\y=x:=by
     have:=List.append_inj' e rfl
     exact#[this.1,by simpa using this.2]
    obtain⟨rfl,rfl⟩:=this;cases a with
    |nil=>rfl
    |cons t a=>
     have m:ay (t::a++ [y]) y=t:=oM (b:=a) f;rw[m];show ay ([]++y::t::a) y=t;exact iR (d)
   .have o:z=x:=by
     rw[abj] at e;have e:(a++y::k)++ [z]=u++ [x]:=by simpa using e
     exact by simpa using(List.append_inj' e rfl).2
    subst o;rw[abj] at f d ⊢;cases a with
    |nil=>simp
    |cons t a=>
     have m:ay (t::a++y::(k++ [z])) z=t:=by
      have:=oM (y:=t) (b:=a++y::k) (x:=z) (by simpa using f)
      simpa using this
     have p:ay (y::(k++ [z])++t::a) z=t:=by
      have:=iR (a:=y::k) (x:=z) (y:=t) (b:=a) (by simpa using d)
      simpa using this
     rw[m,p]
def cx{i:Nat}(a:l.Nodup)(h:i+1<l.length):ay l (l.getD i 0)=l.getD (i+1) 0:=by
 have e:l.getD i 0=l[i]:=by rw[bG,dD (by lia)];rfl
 unfold ay;rw[e,a.idxOf_getElem i (by lia),oX h]
def df{i:Nat}(a:l.Nodup)(h:i+1=l.length):ay l (l.getD i 0)=l.getD 0 0:=by
 have e:l.getD i 0=l[i]:=by rw[bG,dD (by lia)];rfl
 unfold ay;rw[e,a.idxOf_getElem i (by lia),h,ab3]
section
variable {w:W} {R:List Nat} {A:Nat×Nat->Prop} {v m:Nat} {y:Nat->Nat}
end
def getD_inj{l:List Nat}(a:l.Nodup)(b:i<l.length)(c:j<l.length)(e:l.getD i 0=l.getD j 0):i=j:=by
 have f:l.getD i 0=l[i]:=by rw[bG,dD b];rfl
 have g:l.getD j 0=l[j]:=by rw[bG,dD c];rfl
 rw[f,g] at e;have d:=a.idxOf_getElem i b;have h:=a.idxOf_getElem j c;rw[e,h] at d;exact d.symm
def dR{l:List Nat}{i:Nat}(h:i<l.length):l.getD i 0∈l:=by
 rw[bG,dD h];exact ach h
section
variable {w:W} {R:List Nat} {A:Nat×Nat->Prop}
def nh(C:List Nat)(x y:Nat):Prop:=x∈C/\y=ay C x
end
def par{a:Type}(f:a->Bool):List a->Bool
 | []=>false
 |x::l=>(f x).xor (par f l)
theorem sY(f:a->Bool):∀l m:List a,par f (l++m)=(par f l).xor (par f m)
 | [],m=>by simp[par]
 |x::l,m=>by rw[ace,par,par,sY f l m,Bool.xor_assoc]
theorem yx(f g:a->Bool):∀l:List a,par (λx=>(f x).xor (g x)) l=(par f l).xor (par g l)
 | []=>rfl
 |x::l=>by
  rw[par,par,par,yx f g l];cases f x<;>cases g x<;>cases par f l<;>cases par g l<;>rfl
theorem jG:∀{l:List a},(∀x∈l,f x=false)->par f l=false
 | [],_=>rfl
 |x::l,h=>by rw[par,h x (dE ..),jG λy b=>h y (eM _ b)];rfl
theorem qQ:∀{l:List a},(∀x∈l,f x=g x)->par f l=par g l
 | [],_=>rfl
 |x::l,h=>by rw[par,par,h x (dE ..),qQ λy b=>h y (eM _ b)]
theorem yw:∀{l:List Nat},l.Nodup->a∈l->par (λx=>decide (x=a)&&b) l=b
 | [],_,h=>by cases h
 |x::l,c,h=>by
  obtain⟨d,f⟩:=jq.mp c;rw[par]
  by_cases e:x=a
  .subst e
   rw[jG λy g=>by
    have:y≠x:=λz=>d (z▸g)
    simp[this]]
   simp
  .have:a∈l:=by
    rcases b8.mp h with z|z
    .exact absurd z.symm e
    .exact z
   rw[yw f this];simp[e]
theorem FQ(f:a->Bool):∀l:List a,par f l.reverse=par f l
 | []=>rfl
 |x::l=>by
  rw[abW,sY,FQ f l,par,par,par];cases f x<;>cases par f l<;>rfl
def Vz(w:W):Prop:=∀c:Nat->Nat->Bool,(∀x y,c x y=c y x)->(∀p,p<w.length->par (c p) (row w p)=false)->
 ∃S:Nat×Nat->Bool,(∀d,ba w d->S d=S (cp w d))/\∀x y,ba w (x,y)->(S (x,y)).xor (S (y,x))=c x y
open Classical in
structure dP (w:W) (R:List Nat):Prop where
 g:Good w
 nd:R.Nodup
 len:3<=R.length
 hd:∀x∈R,ay R x∈row w x/\(row w x).getD 0 0=ay R x
 ls:∀x∈R,(row w x).getD ((row w x).length-1) 0∈R/\ay R ((row w x).getD ((row w x).length-1) 0)=x
 tri:∀x y,ba w (x,y)->¬nh R x y->cp w (cp w (cp w (x,y)))=(x,y)/\¬nh R (cp w (x,y)).1 (cp w (x,y)).2
 bnd:Vz w
def dP.rot(G:dP w (a++b)):dP w (b++a):=by
 have mem:∀p,p∈b++a↔p∈a++b:=λp=>List.perm_append_comm.mem_iff;have s:∀p,p∈b++a->ay (b++a) p=ay (a++b) p:=λp h=>IM G.nd ((mem p).mp h)
 have ad:∀x y,nh (b++a) x y↔nh (a++b) x y:=λx y=>by
  constructor
  .rintro⟨h,e⟩;exact#[(mem x).mp h,by rw[e,s x h]]
  .rintro⟨h,e⟩;exact#[(mem x).mpr h,by rw[e,s x ((mem x).mpr h)]]
 refine#[G.g,List.perm_append_comm.nodup_iff.mp G.nd,by have:=G.len;simp at this ⊢;lia,λx c=>?_,λx c=>?_,λx y d n=>?_,G.bnd]
 .rw[s x c];exact G.hd x ((mem x).mp c)
 .have:=G.ls x ((mem x).mp c)
  exact#[(mem _).mpr this.1,by rw[s _ ((mem _).mpr this.1)];exact this.2]
 .have:=G.tri x y d (λz=>n ((ad x y).mpr z))
  exact#[this.1,λz=>this.2 ((ad _ _).mp z)]
def dP.xT(G:dP w R)(a:x∈R)(c:b∈R)(e:ay R b=x):(row w x).getD ((row w x).length-1) 0=b/\(row w x).length≠0:=by
 have:=G.ls x a
 refine#[qY G.nd this.1 c (by rw[this.2,e]),?_]
 have:=(G.hd x a).1
 intro z;rw[GK.mp z] at this;cases this
def dP.outer{w:W}(G:dP w R)(h:nh R x y):cp w (x,y)=(y,ay R y):=by
 obtain⟨a,rfl⟩:=h;have b:=j6 a;obtain⟨e,ne⟩:=G.xT b a rfl;show(_,ay (row w (ay R x)) x)=_;have c:=df (G.g.nod (ay R x)) (i:=(row w (ay R x)).length-1) (by lia)
 rw[e] at c;rw[c,(G.hd _ b).2]
end Wb
set_option maxHeartbeats 1000000
namespace Wb
structure Step (w w':W) (R:List Nat) (f:Nat):Prop where
 l:w'.length=w.length+1
 f1:1<=f
 fn:f<R.length
 rv:row w' w.length=(R.take (f+1)).reverse
 r0:row w' (R.getD 0 0)=w.length::row w (R.getD 0 0)
 rk:∀k,1<=k->k<=f->row w' (R.getD k 0)=row w (R.getD k 0)++ [w.length]
 ro:∀x,x≠w.length->(∀k,k<=f->x≠R.getD k 0)->row w' x=row w x
def bY(R:List Nat)(f v:Nat):List Nat:=R.getD 0 0::v::R.drop f
def fq{R:List Nat}(h:f<R.length)(a:k<=f):(R.take (f+1)).reverse.getD (f-k) 0=R.getD k 0:=by
 have l:(R.take (f+1)).length=f+1:=by rw[fF];lia
 rw[bG,List.getElem?_reverse (by lia),l,show f+1-1-(f-k)=k by lia,zb (by lia),<-bG]
def vX(a:(v::l).Nodup)(d:x∈l)(f:x≠l.getD (l.length-1) 0):ay (v::l) x=ay l x:=by
 obtain⟨i,g,rfl⟩:=kB.mp d;have e:l[i]=l.getD i 0:=by rw[bG,dD g];rfl
 have h:i+1<l.length:=by
  apply FS;intro c;exact f (by rw[e,show l.length-1=i by lia])
 have b:=cx (i:=i+1) a (by simp;lia)
 have j:=cx (i:=i) (jq.mp a).2 h;rw[tV,tV] at b;rw[e,b,j]
def vY(a:(l++ [v]).Nodup)(h:x∈l)(k:x≠l.getD (l.length-1) 0):ay (l++ [v]) x=ay l x:=by
 obtain⟨i,b,rfl⟩:=kB.mp h;have e:l[i]=l.getD i 0:=by rw[bG,dD b];rfl
 have d:i+1<l.length:=by
  apply FS;intro c;exact k (by rw[e,show l.length-1=i by lia])
 have g:∀j,j<l.length->(l++ [v]).getD j 0=l.getD j 0:=λj m=>by rw[bG,gn m,<-bG]
 have f:=cx (i:=i) a (by simp;lia)
 have n:=cx (i:=i) (kD.mp a).1 d;rw[g i b,g (i+1) d] at f;rw[e,f,n]
section
variable {w w':W} {R:List Nat} {f:Nat}
def qW(G:dP w R)(T:Step w w' R f):Good w':=by
 have g:=G.g;have A:=T.fn;have s:∀k,k<=f->R.getD k 0∈R:=λk h=>dR (by lia)
 have zlt:∀k,k<=f->R.getD k 0<w.length:=λk h=>bx (G.hd _ (s k h)).1
 have t:∀x,x∈(R.take (f+1)).reverse↔∃k,k<=f/\x=R.getD k 0:=λx=>by
  rw[qs]
  constructor
  .intro h
   obtain⟨i,u,rfl⟩:=kB.mp h;rw[fF] at u;exact#[i,by lia,by rw[y2,bG,dD (by lia)];rfl]
  .rintro⟨k,d,rfl⟩
   refine kB.mpr #[k,by rw[fF];lia,?_]
   rw[y2,bG,dD (by lia)];rfl
 have mem:∀x,x≠w.length->∀y,y∈row w' x↔y∈row w x\/(y=w.length/\∃k,k<=f/\x=R.getD k 0):=λx j y=>by
  by_cases c:∃k,k<=f/\x=R.getD k 0
  .obtain⟨k,d,rfl⟩:=c
   by_cases n:k=0
   .subst n
    rw[T.r0,b8];exact#[λh=>h.elim (λz=> .inr #[z,0,d,rfl]) .inl,λh=>h.elim .inr (λz=> .inl z.1)]
   .rw[T.rk k (by lia) d,eG,fm]
    exact#[λh=>h.elim .inl (λz=> .inr #[z,k,d,rfl]),λh=>h.elim .inl (λz=> .inr z.1)]
  .rw[T.ro x j (λk d z=>c #[k,d,z])]
   exact#[.inl,λh=>h.elim id (λz=>absurd z.2 c)]
 have m:∀y,y∈row w' w.length↔∃k,k<=f/\y=R.getD k 0:=λy=>by rw[T.rv];exact t y
 have p:∀x,w.length∉row w x:=λx h=>gq _ (g.rng _ _ h)
 have o:∀x,x≠w.length->(row w' x).Nodup:=λx j=>by
  by_cases c:∃k,k<=f/\x=R.getD k 0
  .obtain⟨k,d,rfl⟩:=c
   by_cases n:k=0
   .subst n
    rw[T.r0];exact jq.mpr #[p _,g.nod _]
   .rw[T.rk k (by lia) d]
    exact kD.mpr #[g.nod _,by simp,λa q b v e=>by
     have:b=w.length:=fm.mp v
     rw[e,this] at q;exact p _ q]
  .rw[T.ro x j (λk d z=>c #[k,d,z])];exact g.nod x
 have r:∀x y,y∈row w x->y∈row w' x:=λx y h=>(mem x (by have:=bx h;lia) y).mpr (.inl h)
 have con:∀x,x<w.length->Reach w' 0 x:=λx j=>(g.con x j).mono r;refine#[λx y h=>?_,λx h=>?_,λx=>?_,λx y h=>?_,λx j=>?_]
 .rw[T.l]
  by_cases c:x=w.length
  .subst c
   obtain⟨k,d,rfl⟩:=(m y).mp h
   have:=zlt k d;lia
  .rcases(mem x c y).mp h with h| ⟨h,_⟩
   .have:=g.rng _ _ h;lia
   .lia
 .by_cases c:x=w.length
  .subst c
   obtain⟨k,d,e⟩:=(m _).mp h
   have:=zlt k d;lia
  .rcases(mem x c x).mp h with h| ⟨h,_⟩
   .exact g.irr x h
   .exact c h
 .by_cases c:x=w.length
  .subst c
   rw[T.rv];exact(aa3 _).nodup_iff.mpr (G.nd.sublist (List.take_sublist _ _))
  .exact o x c
 .by_cases c:x=w.length
  .subst c
   obtain⟨k,d,rfl⟩:=(m y).mp h;exact(mem _ (by have:=zlt k d;lia) _).mpr (.inr #[rfl,k,d,rfl])
  .rcases(mem x c y).mp h with h| ⟨rfl,k,d,rfl⟩
   .exact r _ _ (g.sym _ _ h)
   .exact(m _).mpr #[k,d,rfl]
 .rw[T.l] at j
  by_cases c:x=w.length
  .subst c
   exact .step (con _ (zlt 0 (cZ _))) ((mem _ (by have:=zlt 0 (cZ _);lia) _).mpr (.inr #[rfl,0,cZ _,rfl]))
  .exact con x (by lia)
structure SF (w w':W) (R:List Nat) (f:Nat):Prop where
 z:∀k,k<R.length->R.getD k 0∈R
 zlt:∀k,k<R.length->R.getD k 0<w.length
 inj:∀i j,i<R.length->j<R.length->R.getD i 0=R.getD j 0->i=j
 dv:∀y,ba w' (w.length,y)↔∃k,k<=f/\y=R.getD k 0
 dx:∀x,x≠w.length->∀y,ba w' (x,y)↔ba w (x,y)\/(y=w.length/\∃k,k<=f/\x=R.getD k 0)
 n1:∀x y,ba w (x,y)->¬nh R x y->cp w' (x,y)=cp w (x,y)
 n1o:∀i,f<=i->i+1<R.length->cp w' (R.getD i 0,R.getD (i+1) 0)=(R.getD (i+1) 0,ay R (R.getD (i+1) 0))
 n1e:cp w' (R.getD (R.length-1) 0,R.getD 0 0)=(R.getD 0 0,w.length)
 n2:∀k,k<f->cp w' (R.getD k 0,R.getD (k+1) 0)=(R.getD (k+1) 0,w.length)
 n3:∀k,k<f->cp w' (R.getD (k+1) 0,w.length)=(w.length,R.getD k 0)
 n3e:cp w' (R.getD 0 0,w.length)=(w.length,R.getD f 0)
 n4:∀k,k<=f->cp w' (w.length,R.getD k 0)=(R.getD k 0,ay R (R.getD k 0))
def vp(G:dP w R)(T:Step w w' R f):SF w w' R f:=by
 have g:=G.g;have r:=qW G T;have v:=T.fn;have f1:=T.f1;have d:∀k,k<R.length->R.getD k 0∈R:=λk h=>dR h;have zlt:∀k,k<R.length->R.getD k 0<w.length:=λk h=>bx (G.hd _ (d k h)).1;have inj:∀i j,i<R.length->j<R.length->R.getD i 0=R.getD j 0->i=j:=λi j A J e=>getD_inj G.nd A J e;have Pk:∀x,w.length∉row w x:=λx h=>gq _ (g.rng _ _ h);have B:∀i,i+1<R.length->ay R (R.getD i 0)=R.getD (i+1) 0:=λi h=>cx G.nd h;have L:ay R (R.getD (R.length-1) 0)=R.getD 0 0:=df G.nd (by lia)
 have M:∀x,x∈(R.take (f+1)).reverse↔∃k,k<=f/\x=R.getD k 0:=λx=>by
  rw[qs]
  constructor
  .intro h
   obtain⟨i,A,rfl⟩:=kB.mp h;rw[fF] at A;exact#[i,by lia,by rw[y2,bG,dD (by lia)];rfl]
  .rintro⟨k,a,rfl⟩
   refine kB.mpr #[k,by rw[fF];lia,?_]
   rw[y2,bG,dD (by lia)];rfl
 have N:∀x,x≠w.length->∀y,ba w' (x,y)↔ba w (x,y)\/(y=w.length/\∃k,k<=f/\x=R.getD k 0):=λx O y=>by
  show y∈row w' x↔y∈row w x\/_
  by_cases c:∃k,k<=f/\x=R.getD k 0
  .obtain⟨k,a,rfl⟩:=c
   by_cases u:k=0
   .subst u
    rw[T.r0,b8];exact#[λh=>h.elim (λz=> .inr #[z,0,a,rfl]) .inl,λh=>h.elim .inr (λz=> .inl z.1)]
   .rw[T.rk k (by lia) a,eG,fm]
    exact#[λh=>h.elim .inl (λz=> .inr #[z,k,a,rfl]),λh=>h.elim .inl (λz=> .inr z.1)]
  .rw[T.ro x O (λk a z=>c #[k,a,z])]
   exact#[.inl,λh=>h.elim id (λz=>absurd z.2 c)]
 have C:∀k,k<R.length->(row w (R.getD k 0)).length≠0:=λk a z=>by
  have:=(G.hd _ (d k a)).1
  rw[GK.mp z] at this;cases this
 have P:∀x,x∈row w (R.getD 0 0)->x≠(row w (R.getD 0 0)).getD ((row w (R.getD 0 0)).length-1) 0->ay (row w' (R.getD 0 0)) x=ay (row w (R.getD 0 0)) x:=λx s m=>by
  rw[T.r0];exact vX (by rw[<-T.r0];exact r.nod _) s m
 have Q:∀k,1<=k->k<=f->∀x,x∈row w (R.getD k 0)->x≠(row w (R.getD k 0)).getD ((row w (R.getD k 0)).length-1) 0->ay (row w' (R.getD k 0)) x=ay (row w (R.getD k 0)) x:=λk s m x S U=>by
  rw[T.rk k s m];exact vY (by rw[<-T.rk k s m];exact r.nod _) S U
 have o:∀y∈R,∀x,x=(row w y).getD ((row w y).length-1) 0->nh R x y:=λy X x e=>by
  have:=G.ls y X
  rw[<-e] at this;exact#[this.1,this.2.symm]
 have Y:∀k,1<=k->k<=f->ay (row w' (R.getD k 0)) ((row w (R.getD k 0)).getD ((row w (R.getD k 0)).length-1) 0)=w.length:=λk s m=>by
  have b:=r.nod (R.getD k 0);have Z:=C k (by lia)
  rw[T.rk k s m] at b ⊢;have h:=cx (i:=(row w (R.getD k 0)).length-1) b (by rw[dh,GN];lia)
  have t:(row w (R.getD k 0)++ [w.length]).getD ((row w (R.getD k 0)).length-1) 0=(row w (R.getD k 0)).getD ((row w (R.getD k 0)).length-1) 0:=by
   rw[bG,gn (by lia),<-bG]
  have p:(row w (R.getD k 0)++ [w.length]).getD ((row w (R.getD k 0)).length-1+1) 0=w.length:=by
   rw[bG,i7 (by lia),show(row w (R.getD k 0)).length-1+1-(row w (R.getD k 0)).length=0 by lia];rfl
  rw[t,p] at h;exact h
 refine#[d,zlt,inj,λy=>by show y∈row w' w.length↔_;rw[T.rv];exact M y,N,λx y E n=>?_,λi s m=>?_,?_,λk a=>?_,λk a=>?_,?_,λk a=>?_]
 .
  show(y,ay (row w' y) x)=(y,ay (row w y) x);have F:x∈row w y:=g.sym _ _ E
  by_cases c:∃k,k<=f/\y=R.getD k 0
  .obtain⟨k,a,rfl⟩:=c
   have H:x≠(row w (R.getD k 0)).getD ((row w (R.getD k 0)).length-1) 0:=λe=>n (o _ (d k (by lia)) x e)
   by_cases u:k=0
   .subst u;rw[P x F H]
   .rw[Q k (by lia) a x F H]
  .rw[T.ro y (by have:=g.rng _ _ E;lia) (λk a z=>c #[k,a,z])]
 .
  have q:=d (i+1) m;obtain⟨e,ne⟩:=G.xT q (d i (by lia)) (B i m)
  show(_,ay (row w' (R.getD (i+1) 0)) (R.getD i 0))=_;rw[T.ro _ (by have:=zlt (i+1) m;lia) (λk a z=>by have:=inj _ _ m (by lia) z;lia)]
  have p:=df (g.nod (R.getD (i+1) 0)) (i:=(row w (R.getD (i+1) 0)).length-1) (by lia)
  rw[e] at p;rw[p,(G.hd _ q).2]
 .
  have q:=d 0 (by lia)
  obtain⟨e,ne⟩:=G.xT q (d (R.length-1) (by lia)) L
  show(_,ay (row w' (R.getD 0 0)) (R.getD (R.length-1) 0))=_;rw[T.r0];have b:=r.nod (R.getD 0 0);rw[T.r0] at b;have p:=df b (i:=(row w (R.getD 0 0)).length) (by simp)
  have e3:(w.length::row w (R.getD 0 0)).getD (row w (R.getD 0 0)).length 0=R.getD (R.length-1) 0:=by
   rw[<-e,show(row w (R.getD 0 0)).length=(row w (R.getD 0 0)).length-1+1 by lia,tV];simp
  rw[e3] at p;rw[p];rfl
 .
  have q:=d (k+1) (by lia)
  obtain⟨e,ne⟩:=G.xT q (d k (by lia)) (B k (by lia))
  show(_,ay (row w' (R.getD (k+1) 0)) (R.getD k 0))=_
  have:=Y (k+1) (by lia) (by lia)
  rw[e] at this;rw[this]
 .
  show(_,ay (row w' w.length) (R.getD (k+1) 0))=_;have b:=r.nod w.length;rw[T.rv] at b ⊢;have l:(R.take (f+1)).reverse.length=f+1:=by rw[Et,fF];lia
  have h:=cx (i:=f-(k+1)) b (by lia)
  rw[fq v (by lia),show f-(k+1)+1=f-k by lia,fq v (by lia)] at h
  rw[h]
 .
  show(_,ay (row w' w.length) (R.getD 0 0))=_;have b:=r.nod w.length;rw[T.rv] at b ⊢;have l:(R.take (f+1)).reverse.length=f+1:=by rw[Et,fF];lia
  have h:=df b (i:=f) (by lia)
  have I:=fq v (cZ f);have t:=fq v (bu f);rw[Nat.sub_zero] at I;rw[kE] at t;rw[I,t] at h;rw[h]
 .
  have q:=d k (by lia)
  show(_,ay (row w' (R.getD k 0)) w.length)=_;have b:=r.nod (R.getD k 0);have Z:=C k (by lia)
  by_cases u:k=0
  .subst u
   rw[T.r0] at b ⊢;have h:=cx (i:=0) b (by rw[cO];lia)
   rw[List.getD_cons_zero,tV,(G.hd _ q).2] at h;rw[h]
  .rw[T.rk k (by lia) a] at b ⊢
   have h:=df b (i:=(row w (R.getD k 0)).length) (by simp)
   have t:(row w (R.getD k 0)++ [w.length]).getD (row w (R.getD k 0)).length 0=w.length:=by
    rw[bG,i7 (bu _),kE];rfl
   have p:(row w (R.getD k 0)++ [w.length]).getD 0 0=(row w (R.getD k 0)).getD 0 0:=by
    rw[bG,gn (by lia),<-bG]
   rw[t,p,(G.hd _ q).2] at h;rw[h]
end
end Wb
set_option maxHeartbeats 2000000
namespace Wb
section
variable {w w':W} {R:List Nat} {f:Nat}
structure Ma (w:W) (R:List Nat) (f:Nat):Prop where
 nd:(bY R f w.length).Nodup
 len:(bY R f w.length).length+f=R.length+2
 mem:∀x,x∈bY R f w.length↔x=R.getD 0 0\/x=w.length\/∃i,f<=i/\i<R.length/\x=R.getD i 0
 s0:ay (bY R f w.length) (R.getD 0 0)=w.length
 sv:ay (bY R f w.length) w.length=R.getD f 0
 si:∀i,f<=i->i<R.length->ay (bY R f w.length) (R.getD i 0)=ay R (R.getD i 0)
def IF(G:dP w R)(T:Step w w' R f):Ma w R f:=by
 have n:=T.fn;have r:=T.f1;have o:∀k,k<R.length->R.getD k 0∈R:=λk h=>dR h;have zlt:∀k,k<R.length->R.getD k 0<w.length:=λk h=>bx (G.hd _ (o k h)).1;have inj:∀i j,i<R.length->j<R.length->R.getD i 0=R.getD j 0->i=j:=λi j g p e=>getD_inj G.nd g p e
 have l:∀x,x∈R.drop f↔∃i,f<=i/\i<R.length/\x=R.getD i 0:=λx=>by
  constructor
  .intro h
   obtain⟨i,g,rfl⟩:=kB.mp h;rw[oW] at g;exact#[f+i,by lia,by lia,by rw[List.getElem_drop,bG,dD (by lia)];rfl]
  .rintro⟨i,b,a,rfl⟩
   refine kB.mpr #[i-f,by rw[oW];lia,?_]
   rw[List.getElem_drop,bG,dD a];simp only[show f+(i-f)=i by lia];rfl
 have d:(bY R f w.length).Nodup:=by
  unfold bY;refine jq.mpr #[λh=>?_,jq.mpr #[λh=>?_,G.nd.sublist (List.drop_sublist _ _)]]
  .rcases b8.mp h with h|h
   .have:=zlt 0 (by lia);lia
   .obtain⟨i,b,a,e⟩:=(l _).mp h
    have:=inj 0 i (by lia) a e;lia
  .obtain⟨i,b,a,e⟩:=(l _).mp h
   have:=zlt i a;lia
 have len:(bY R f w.length).length=R.length-f+2:=by unfold bY;simp
 have get:∀i,f<=i->i<R.length->(bY R f w.length).getD (i-f+2) 0=R.getD i 0:=λi b a=>by
  unfold bY;rw[tV,tV,bG,ze,show f+(i-f)=i by lia,<-bG]
 have m:(bY R f w.length).getD 0 0=R.getD 0 0:=rfl;have q:(bY R f w.length).getD 1 0=w.length:=rfl;refine#[d,by lia,λx=>?_,?_,?_,λi b a=>?_]
 .unfold bY
  rw[b8,b8,l]
 .have:=cx d (i:=0) (by lia)
  rw[m] at this;exact this
 .have:=cx d (i:=1) (by lia)
  have e:=get f (bu _) n;rw[kE] at e;rw[q] at this;rw[this];exact e
 .by_cases c:i+1<R.length
  .have:=cx d (i:=i-f+2) (by lia)
   have e:=get (i+1) (by lia) c
   rw[get i b a,show i-f+2+1=i+1-f+2 by lia,e] at this
   rw[this,cx G.nd c]
  .have:=df d (i:=i-f+2) (by lia)
   rw[get i b a,m] at this;rw[this,df G.nd (by lia)]
theorem Ma.nh(F:Ma w R f)(h:nh (bY R f w.length) x y):(x=R.getD 0 0/\y=w.length)\/(x=w.length/\y=R.getD f 0)\/∃i,f<=i/\i<R.length/\x=R.getD i 0/\y=ay R (R.getD i 0):=by
 obtain⟨c,e⟩:=h
 rcases(F.mem x).mp c with rfl|rfl| ⟨i,a,b,rfl⟩
 .exact .inl #[rfl,by rw[e,F.s0]]
 .exact .inr (.inl #[rfl,by rw[e,F.sv]])
 .exact .inr (.inr #[i,a,b,rfl,by rw[e,F.si i a b]])
open Classical in
theorem LO(G:dP w R)(T:Step w w' R f):Vz w':=by
 have g:=G.g;have g':=qW G T;have fn:=T.fn;have f1:=T.f1;have K:=vp G T;have len:=G.len;have zlt:=K.zlt;have pP:∀k,k<R.length->R.getD k 0≠w.length:=λk h=>by have:=zlt k h;lia
 have sx:∀i,i+1<R.length->ay R (R.getD i 0)=R.getD (i+1) 0:=λi h=>cx G.nd h;have se:ay R (R.getD (R.length-1) 0)=R.getD 0 0:=df G.nd (by lia)
 intro c sy ev
 let s:Nat->Bool:=λk=>par (λi=>c w.length (R.getD i 0)) (aB (k+1))
 let sp:Nat->Bool:=λk=>match k with|0=>false|k+1=>s k
 have ss:∀k,s (k+1)=(s k).xor (c w.length (R.getD (k+1) 0)):=λk=>by
  show par _ (aB (k+1+1))=_;rw[aco,sY];show(s k).xor ((c w.length (R.getD (k+1) 0)).xor false)=_;rw[y9]
 have s0:s 0=c w.length (R.getD 0 0):=by
  show(c w.length (R.getD 0 0)).xor false=_;rw[y9]
 have PC:R.take (f+1)=(aB (f+1)).map λi=>R.getD i 0:=by
  refine List.ext_getElem (by rw[fF,aV,tW];lia) λi h1 h2=>?_
  rw[fF] at h1;rw[y2,acg,List.getElem_range,bG,dD (by lia)];rfl
 have Oh:∀(h:Nat->Bool)(φ:Nat->Nat)(l:List Nat),par h (l.map φ)=par (λi=>h (φ i)) l:=λh φ l=>by
  induction l with
  |nil=>rfl
  |cons a l ih=>rw[dz,par,par,ih]
 have sf:s f=false:=by
  have:=ev w.length (by rw[T.l];lia)
  rw[T.rv,FQ,PC,Oh] at this;exact this
 let de:Nat->Nat->Bool:=λx y=>decide (∃k,k<f/\x=R.getD k 0/\y=R.getD (k+1) 0/\s k=true)
 have TC:∀k,k<f->∀y,de (R.getD k 0) y=(decide (y=R.getD (k+1) 0)&&s k):=λk hk y=>by
  show decide _=_
  by_cases c1:y=R.getD (k+1) 0
  .cases hs:s k with
   |true=>rw[KM #[k,hk,rfl,c1,hs],KM c1];rfl
   |false=>
    rw[y6];refine Gc ?_;rintro⟨j,hj,e,_,h⟩
    have:=K.inj k j (by lia) (by lia) e
    subst this;rw[hs] at h;cases h
  .rw[Gc c1,y4]
   refine Gc ?_;rintro⟨j,hj,e,e2,h⟩
   have:=K.inj k j (by lia) (by lia) e
   subst this;exact c1 e2
 have Wg:∀k,k<f->∀x,de x (R.getD (k+1) 0)=(decide (x=R.getD k 0)&&s k):=λk hk x=>by
  show decide _=_
  by_cases c1:x=R.getD k 0
  .cases hs:s k with
   |true=>rw[KM #[k,hk,c1,rfl,hs],KM c1];rfl
   |false=>
    rw[y6];refine Gc ?_;rintro⟨j,hj,_,e,h⟩
    have:=K.inj (k+1) (j+1) (by lia) (by lia) e
    have:k=j:=by lia
    subst this;rw[hs] at h;cases h
  .rw[Gc c1,y4]
   refine Gc ?_;rintro⟨j,hj,e2,e,h⟩
   have:=K.inj (k+1) (j+1) (by lia) (by lia) e
   have:k=j:=by lia
   subst this;exact c1 e2
 have We:∀x y,(∀k,k<f->x≠R.getD k 0)->de x y=false:=λx y h=>Gc λ#[k,hk,e,_]=>h k hk e;have Wf:∀x y,(∀k,k<f->y≠R.getD (k+1) 0)->de x y=false:=λx y h=>Gc λ#[k,hk,_,e,_]=>h k hk e
 have tie:∀k,k+1<R.length->R.getD (k+1) 0∈row w (R.getD k 0):=λk hk=>by
  have:=(G.hd _ (K.z k (by lia))).1
  rw[sx k hk] at this;exact this
 obtain⟨S,SF,SC⟩:=G.bnd (λx y=>((c x y).xor (de x y)).xor (de y x)) (λx y=>by
   show((c x y).xor (de x y)).xor (de y x)=((c y x).xor (de y x)).xor (de x y);rw[sy x y];cases c y x<;>cases de x y<;>cases de y x<;>rfl) (λp hp=>by
   have e:par (λy=>((c p y).xor (de p y)).xor (de y p)) (row w p)=((par (c p) (row w p)).xor (par (de p) (row w p))).xor (par (λy=>de y p) (row w p)):=by
    rw[yx (λy=>(c p y).xor (de p y)) (λy=>de y p),yx (c p) (de p)]
   rw[e];have E7:=ev p (by rw[T.l];lia)
   by_cases hk:∃k,k<=f/\p=R.getD k 0
   .obtain⟨k,hk,rfl⟩:=hk
    have hc:par (c (R.getD k 0)) (row w (R.getD k 0))=c w.length (R.getD k 0):=by
     by_cases k0:k=0
     .subst k0
      rw[T.r0,par] at E7;rw[sy w.length];cases h1:c (R.getD 0 0) w.length<;>cases h2:par (c (R.getD 0 0)) (row w (R.getD 0 0))<;>rw[h1,h2] at E7<;>simp at E7 ⊢
     .rw[T.rk k (by lia) hk,sY,par,par,y9] at E7
      rw[sy w.length];cases h1:c (R.getD k 0) w.length<;>cases h2:par (c (R.getD k 0)) (row w (R.getD k 0))<;>rw[h1,h2] at E7<;>simp at E7 ⊢
    have h1:par (de (R.getD k 0)) (row w (R.getD k 0))=if k<f then s k else false:=by
     by_cases kf:k<f
     .rw[tz kf,qQ (λy _=>TC k kf y)]
      exact yw (g.nod _) (tie k (by lia))
     .rw[mo kf]
      exact jG λy _=>We _ _ λj hj e=>by have:=K.inj k j (by lia) (by lia) e;lia
    have h2:par (λy=>de y (R.getD k 0)) (row w (R.getD k 0))=sp k:=by
     cases k with
     |zero=>exact jG λy _=>Wf _ _ λj hj e=>by have:=K.inj 0 (j+1) (by lia) (by lia) e;lia
     |succ k=>
      rw[qQ (λy _=>Wg k (by lia) y)]
      exact yw (g.nod _) (g.sym _ _ (tie k (by lia)))
    rw[hc,h1,h2];cases k with
    |zero=>
     rw[tz (by lia),s0]
     show((c w.length (R.getD 0 0)).xor _).xor false=false;rw[Bool.xor_self];rfl
    |succ k=>
     show(_:Bool).xor (s k)=false
     by_cases kf:k+1<f
     .rw[tz kf,ss k]
      cases s k<;>cases c w.length (R.getD (k+1) 0)<;>rfl
     .rw[mo kf]
      have:k+1=f:=by lia
      have h:=ss k;rw[this,sf] at h;rw[this];cases h1:s k<;>cases h2:c w.length (R.getD f 0)<;>rw[h1,h2] at h<;>simp at h ⊢
   .have n1:∀k,k<=f->p≠R.getD k 0:=λk h z=>hk #[k,h,z]
    rw[T.ro p (by lia) n1] at E7
    rw[E7,jG λy _=>We p y λk h=>n1 k (by lia),jG λy _=>Wf y p λk h=>n1 (k+1) (by lia)]
    rfl)
 have A2:∀i,i<R.length->S (R.getD i 0,ay R (R.getD i 0))=S (R.getD 0 0,ay R (R.getD 0 0)):=by
  intro i
  induction i with
  |zero=>intro _;rfl
  |succ i ih=>
   intro h;rw[<-ih (by lia)]
   have d:ba w (R.getD i 0,ay R (R.getD i 0)):=(G.hd _ (K.z i (by lia))).1
   rw[SF _ d,G.outer #[K.z i (by lia),rfl],sx i h]
 generalize ho:S (R.getD 0 0,ay R (R.getD 0 0))=o at A2
 let ix:Nat->Nat:=λx=>R.idxOf x
 have UC:∀k,k<R.length->ix (R.getD k 0)=k:=λk hk=>by
  show R.idxOf _=k;rw[bG,dD hk];exact G.nd.idxOf_getElem k hk
 let U:Nat×Nat->Bool:=λd=>if d.1=w.length then o.xor (s (ix d.2)) else if d.2=w.length then o.xor (sp (ix d.1)) else if ∃k,k<f/\d.1=R.getD k 0/\d.2=R.getD (k+1) 0 then o.xor (s (ix d.1)) else S d
 have Uv:∀k,k<=f->U (w.length,R.getD k 0)=o.xor (s k):=λk hk=>by
  show(if w.length=w.length then o.xor (s (ix (R.getD k 0))) else _)=_;rw[tz rfl,UC k (by lia)]
 have Ux:∀k,k<=f->U (R.getD k 0,w.length)=o.xor (sp k):=λk hk=>by
  show(if R.getD k 0=w.length then _ else if w.length=w.length then o.xor (sp (ix (R.getD k 0))) else _)=_;rw[mo (pP k (by lia)),tz rfl,UC k (by lia)]
 have Ua:∀k,k<f->U (R.getD k 0,R.getD (k+1) 0)=o.xor (s k):=λk hk=>by
  show(if R.getD k 0=w.length then _ else if R.getD (k+1) 0=w.length then _ else if _ then o.xor (s (ix (R.getD k 0))) else _)=_;rw[mo (pP k (by lia)),mo (pP (k+1) (by lia)),tz #[k,hk,rfl,rfl],UC k (by lia)]
 have Uo:∀x y,x≠w.length->y≠w.length->(∀k,k<f->x=R.getD k 0->y≠R.getD (k+1) 0)->U (x,y)=S (x,y):=λx y h1 h2 h3=>by
  show(if x=w.length then _ else if y=w.length then _ else if _ then _ else S (x,y))=_;rw[mo h1,mo h2,mo (λ#[k,hk,e1,e2]=>h3 k hk e1 e2)]
 have X4:∀b:Bool,b.xor false=b:=y9;refine#[U,λd hd=>?_,λx y hd=>?_]
 .obtain⟨x,y⟩:=d
  by_cases xv:x=w.length
  .subst xv
   obtain⟨k,hk,rfl⟩:=(K.dv y).mp hd;rw[K.n4 k hk,Uv k hk]
   by_cases kf:k<f
   .rw[sx k (by lia),Ua k kf]
   .have:k=f:=by lia
    subst this
    rw[Uo _ _ (pP k (by lia)) (by
     have:=j6 (K.z k (by lia))
     have:=bx (G.hd _ this).1
     lia) (λj hj e=>by have:=K.inj k j (by lia) (by lia) e;lia),A2 k (by lia),sf,X4]
  .by_cases yv:y=w.length
   .subst yv
    rcases(K.dx x xv _).mp hd with h| ⟨_,k,hk,rfl⟩
    .exact absurd (g.rng _ _ h) (gq _)
    .cases k with
     |zero=>
      rw[K.n3e,Ux 0 hk,Uv f (bu _),sf]
     |succ k=>
      rw[K.n3 k (by lia),Ux (k+1) hk,Uv k (by lia)]
   .have d0:ba w (x,y):=by
     rcases(K.dx x xv y).mp hd with h| ⟨h,_⟩
     .exact h
     .exact absurd h yv
    by_cases ad:nh R x y
    .obtain⟨hx,rfl⟩:=ad
     obtain⟨i,hi,rfl⟩:∃i,i<R.length/\x=R.getD i 0:=by
      obtain⟨i,hi,e⟩:=kB.mp hx;exact#[i,hi,by rw[bG,dD hi];exact e.symm]
     by_cases c1:i<f
     .rw[sx i (by lia),K.n2 i c1,Ua i c1,Ux (i+1) (by lia)]
     .have u1:U (R.getD i 0,ay R (R.getD i 0))=o:=by
       rw[Uo _ _ xv yv (λj hj e=>by have:=K.inj i j (by lia) (by lia) e;lia),A2 i hi]
      rw[u1]
      by_cases c2:i+1<R.length
      .rw[sx i c2,K.n1o i (by lia) c2,Uo _ _ (pP _ c2) (by
        have:=j6 (K.z (i+1) c2)
        have:=bx (G.hd _ this).1
        lia) (λj hj e=>by have:=K.inj (i+1) j (by lia) (by lia) e;lia),A2 (i+1) c2]
      .have:i=R.length-1:=by lia
       subst this;rw[se,K.n1e,Ux 0 (cZ _)];exact(X4 o).symm
    .have e:=K.n1 x y d0 ad
     have tr:=(G.tri x y d0 ad).2;have dn:=jF g d0
     have lo:∀p q,ba w (p,q)->¬nh R p q->U (p,q)=S (p,q):=λp q h1 h2=>by
      have a1:=bx (show q∈row w p from h1);have a2:=g.rng _ _ (show q∈row w p from h1);exact Uo p q (by lia) (by lia) λk hk e1 e2=>h2 #[by rw[e1];exact K.z k (by lia),by rw[e1,e2,sx k (by lia)]]
     rw[e,lo x y d0 ad,SF _ d0];exact(lo _ _ dn tr).symm
 .by_cases xv:x=w.length
  .subst xv
   obtain⟨k,hk,rfl⟩:=(K.dv y).mp hd;rw[Uv k hk,Ux k hk];cases k with
   |zero=>
    rw[s0];show(o.xor _).xor (o.xor false)=_;cases o<;>cases c w.length (R.getD 0 0)<;>rfl
   |succ k=>
    rw[ss k];show(o.xor _).xor (o.xor (s k))=_;cases o<;>cases s k<;>cases c w.length (R.getD (k+1) 0)<;>rfl
  .by_cases yv:y=w.length
   .subst yv
    rcases(K.dx x xv _).mp hd with h| ⟨_,k,hk,rfl⟩
    .exact absurd (g.rng _ _ h) (gq _)
    .rw[Uv k hk,Ux k hk,sy]
     cases k with
     |zero=>
      rw[s0];show(o.xor false).xor (o.xor _)=_;cases o<;>cases c w.length (R.getD 0 0)<;>rfl
     |succ k=>
      rw[ss k];show(o.xor (s k)).xor (o.xor _)=_;cases o<;>cases s k<;>cases c w.length (R.getD (k+1) 0)<;>rfl
   .have d0:ba w (x,y):=by
     rcases(K.dx x xv y).mp hd with h| ⟨h,_⟩
     .exact h
     .exact absurd h yv
    have sc:=SC x y d0
    by_cases a1:∃k,k<f/\x=R.getD k 0/\y=R.getD (k+1) 0
    .obtain⟨k,hk,rfl,rfl⟩:=a1
     have e1:S (R.getD k 0,R.getD (k+1) 0)=o:=by rw[<-sx k (by lia)];exact A2 k (by lia)
     have e2:de (R.getD k 0) (R.getD (k+1) 0)=s k:=by rw[TC k hk];simp
     have e3:de (R.getD (k+1) 0) (R.getD k 0)=false:=Gc λ#[j,hj,e,e',_]=>by
      have:=K.inj (k+1) j (by lia) (by lia) e
      have:=K.inj k (j+1) (by lia) (by lia) e'
      lia
     rw[Ua k hk,Uo _ _ (pP (k+1) (by lia)) (pP k (by lia)) (λj hj e e'=>by
      have:=K.inj (k+1) j (by lia) (by lia) e
      have:=K.inj k (j+1) (by lia) (by lia) e'
      lia)]
     rw[e1,e2,e3] at sc
     revert sc
     cases o<;>cases s k<;>cases S (R.getD (k+1) 0,R.getD k 0)<;>cases c (R.getD k 0) (R.getD (k+1) 0)<;>simp
    .by_cases a2:∃k,k<f/\y=R.getD k 0/\x=R.getD (k+1) 0
     .obtain⟨k,hk,rfl,rfl⟩:=a2
      have e1:S (R.getD k 0,R.getD (k+1) 0)=o:=by rw[<-sx k (by lia)];exact A2 k (by lia)
      have e2:de (R.getD k 0) (R.getD (k+1) 0)=s k:=by rw[TC k hk];simp
      have e3:de (R.getD (k+1) 0) (R.getD k 0)=false:=Gc λ#[j,hj,e,e',_]=>by
       have:=K.inj (k+1) j (by lia) (by lia) e
       have:=K.inj k (j+1) (by lia) (by lia) e'
       lia
      rw[Ua k hk,Uo _ _ (pP (k+1) (by lia)) (pP k (by lia)) (λj hj e e'=>a1 #[j,hj,e,e'])]
      rw[e1,e2,e3] at sc
      revert sc
      cases o<;>cases s k<;>cases S (R.getD (k+1) 0,R.getD k 0)<;>cases c (R.getD (k+1) 0) (R.getD k 0)<;>simp
     .have e2:de x y=false:=Gc λ#[j,hj,e,e',_]=>a1 #[j,hj,e,e']
      have e3:de y x=false:=Gc λ#[j,hj,e,e',_]=>a2 #[j,hj,e,e'];rw[Uo x y xv yv (λj hj e e'=>a1 #[j,hj,e,e']),Uo y x yv xv (λj hj e e'=>a2 #[j,hj,e,e']),sc,e2,e3];simp
def Gm(G:dP w R)(T:Step w w' R f):dP w' (bY R f w.length):=by
 have g:=G.g;have g':=qW G T;have C:=T.fn;have O:=T.f1;have K:=vp G T;have F:=IF G T;have len:=G.len;have d:∀k,k<R.length->R.getD k 0≠w.length:=λk h=>by have:=K.zlt k h;lia
 have l:∀i,i+1<R.length->ay R (R.getD i 0)=R.getD (i+1) 0:=λi h=>cx G.nd h;have P:ay R (R.getD (R.length-1) 0)=R.getD 0 0:=df G.nd (by lia)
 have Q:∀k,k<R.length->(row w (R.getD k 0)).length≠0:=λk o z=>by
  have:=(G.hd _ (K.z k o)).1
  rw[GK.mp z] at this;cases this
 have E:(R.take (f+1)).reverse.length=f+1:=by rw[Et,fF];lia
 have S:=fq C (cZ f);have H:=fq C (bu f);rw[Nat.sub_zero] at S;rw[kE] at H;have U:R.getD 0 0∈bY R f w.length:=(F.mem _).mpr (.inl rfl);have X:w.length∈bY R f w.length:=(F.mem _).mpr (.inr (.inl rfl));have I:∀i,f<=i->i<R.length->R.getD i 0∈bY R f w.length:=λi b a=>(F.mem _).mpr (.inr (.inr #[i,b,a,rfl]));have Y:∀i,f<i->i<R.length->row w' (R.getD i 0)=row w (R.getD i 0):=λi b a=>T.ro _ (d i a) λk o e=>by have:=K.inj i k a (by lia) e;lia
 refine#[g',F.nd,by have:=F.len;lia,λx r=>?_,λx r=>?_,λx y J n=>?_,LO G T]
 .rcases(F.mem x).mp r with rfl|rfl| ⟨i,b,a,rfl⟩
  .rw[F.s0,T.r0]
   exact#[dE ..,rfl]
  .rw[F.sv,T.rv]
   exact#[by rw[<-H];exact dR (by lia),H]
  .rw[F.si i b a]
   have h:=G.hd _ (K.z i a)
   by_cases c:i=f
   .subst c
    rw[T.rk i O (bu _)];exists i8 _ h.1;rw[bG,gn (by have:=Q i a;lia),<-bG]
    exact h.2
   .rw[Y i (by lia) a];exact h
 .rcases(F.mem x).mp r with rfl|rfl| ⟨i,b,a,rfl⟩
  .have h:=G.ls _ (K.z 0 (by lia))
   have L:(row w' (R.getD 0 0)).getD ((row w' (R.getD 0 0)).length-1) 0=R.getD (R.length-1) 0:=by
    have l0:=Q 0 (by lia)
    rw[T.r0,cO,show(row w (R.getD 0 0)).length+1-1=(row w (R.getD 0 0)).length-1+1 by lia,tV]
    exact qY G.nd h.1 (K.z _ (by lia)) (by rw[h.2,P])
   rw[L];exact#[I _ (by lia) (by lia),by rw[F.si _ (by lia) (by lia),P]]
  .rw[T.rv,E,show f+1-1=f by lia,S]
   exact#[U,F.s0]
  .by_cases c:i=f
   .subst c
    have L:(row w' (R.getD i 0)).getD ((row w' (R.getD i 0)).length-1) 0=w.length:=by
     rw[T.rk i O (bu _),dh,GN,Nat.add_sub_cancel,bG,i7 (bu _),kE];rfl
    rw[L];exact#[X,F.sv]
   .obtain⟨e,ne⟩:=G.xT (K.z i a) (K.z (i-1) (by lia)) (by rw[l (i-1) (by lia),show i-1+1=i by lia])
    rw[Y i (by lia) a,e]
    refine#[I _ (by lia) (by lia),?_]
    rw[F.si _ (by lia) (by lia),l (i-1) (by lia),show i-1+1=i by lia]
 .by_cases M:x=w.length
  .subst M
   obtain⟨k,o,rfl⟩:=(K.dv y).mp J
   have Z:k<f:=by
    apply FS;intro c
    have:k=f:=by lia
    subst this;exact n #[X,F.sv.symm]
   have v:=K.n4 k o;rw[l k (by lia)] at v
   rw[v,K.n2 k Z,K.n3 k Z];refine#[rfl,λz=>?_]
   rcases F.nh z with ⟨_,h⟩ | ⟨h,_⟩ | ⟨i,b,a,m,_⟩
   .exact d (k+1) (by lia) h
   .exact d k (by lia) h
   .have:=K.inj k i (by lia) a m;lia
  .by_cases yv:y=w.length
   .subst yv
    rcases(K.dx x M _).mp J with h| ⟨_,k,o,rfl⟩
    .exact absurd (g.rng _ _ h) (gq _)
    .cases k with
     |zero=>exact absurd #[U,F.s0.symm] n
     |succ k=>
      have s:=K.n4 k (by lia)
      rw[l k (by lia)] at s
      rw[K.n3 k (by lia),s,K.n2 k (by lia)]
      refine#[rfl,λz=>?_]
      rcases F.nh z with ⟨h,_⟩ | ⟨_,h⟩ | ⟨i,b,a,m,_⟩
      .exact d 0 (by lia) h.symm
      .have:=K.inj k f (by lia) C h;lia
      .exact d i a m.symm
   .have N:ba w (x,y):=by
     rcases(K.dx x M y).mp J with h| ⟨h,_⟩
     .exact h
     .exact absurd h yv
    by_cases ad:nh R x y
    .obtain⟨r,rfl⟩:=ad
     obtain⟨i,t,rfl⟩:∃i,i<R.length/\x=R.getD i 0:=by
      obtain⟨i,t,e⟩:=kB.mp r;exact#[i,t,by rw[bG,dD t];exact e.symm]
     have c1:i<f:=by
      apply FS;intro c;exact n #[I i (by lia) t,(F.si i (by lia) t).symm]
     have s:=K.n4 i (by lia)
     rw[l i (by lia)] at s
     rw[l i (by lia),K.n2 i c1,K.n3 i c1,s]
     refine#[rfl,λz=>?_]
     rcases F.nh z with ⟨h,_⟩ | ⟨h,_⟩ | ⟨j,b,a,_,A⟩
     .have:=K.inj (i+1) 0 (by lia) (by lia) h;lia
     .exact d (i+1) (by lia) h
     .have:=j6 (K.z j a)
      have:=bx (G.hd _ this).1
      have A:w.length=ay R (R.getD j 0):=A;lia
    .have step:∀p q,ba w (p,q)->¬nh R p q->cp w' (p,q)=cp w (p,q):=λp q b a=>K.n1 p q b a
     have B:=G.tri x y N ad;have u:=jF g N;have t2:=G.tri _ _ u B.2;have d2:=jF g u;have v:=step x y N ad;have e2:cp w' (cp w (x,y))=cp w (cp w (x,y)):=step _ _ u B.2;have e3:cp w' (cp w (cp w (x,y)))=cp w (cp w (cp w (x,y))):=step _ _ d2 t2.2;rw[v,e2,e3];refine#[B.1,λz=>?_];have b1:=bx (show(cp w (x,y)).2∈row w (cp w (x,y)).1 from u);have b2:=g.rng _ _ (show(cp w (x,y)).2∈row w (cp w (x,y)).1 from u)
     rcases F.nh z with ⟨_,h⟩ | ⟨h,_⟩ | ⟨i,b,a,m,A⟩
     .lia
     .lia
     .exact B.2 #[by rw[m];exact K.z i a,by rw[A,<-m]]
def Ce:dP [[1,2],[2,0],[0,1]] [0,1,2]:=by
 have m:row [[1,2],[2,0],[0,1]] 0= [1,2]:=rfl;have v:row [[1,2],[2,0],[0,1]] 1= [2,0]:=rfl;have C:row [[1,2],[2,0],[0,1]] 2= [0,1]:=rfl;have E:∀x,3<=x->row [[1,2],[2,0],[0,1]] x= []:=λx h=>F7 h;have j:∀x,x<3->x=0\/x=1\/x=2:=λx h=>by lia
 have k:∀{x y},y∈row [[1,2],[2,0],[0,1]] x->x<3:=λh=>bx h;have e:∀x,x<3->∀y,y<3->(y∈row [[1,2],[2,0],[0,1]] x↔x≠y):=by decide
 have inR:∀{x y},y∈row [[1,2],[2,0],[0,1]] x->y<3:=λ {x y} h=>by
  rcases j x (k h) with rfl|rfl|rfl
  .rw[m] at h;simp at h;lia
  .rw[v] at h;simp at h;lia
  .rw[C] at h;simp at h;lia
 have g:Good [[1,2],[2,0],[0,1]]:=by
  refine#[λp q h=>inR h,λp h=>?_,λp=>?_,λp q h=>?_,λp F=>?_]
  .exact((e p (k h) p (k h)).mp h) rfl
  .by_cases c:p<3
   .rcases j p c with rfl|rfl|rfl<;>decide
   .rw[E p (by lia)];exact iH
  .have a:=k h
   have b:=inR h;exact(e q b p a).mpr (Ne.symm ((e p a q b).mp h))
  .rcases j p F with rfl|rfl|rfl
   .exact .refl _
   .exact .step (.refl _) (by rw[m];simp)
   .exact .step (.refl _) (by rw[m];simp)
 have s:∀x y,ba [[1,2],[2,0],[0,1]] (x,y)->(x,y)∈ [(0,1),(1,2),(2,0),(1,0),(0,2),(2,1)]:=λx y h=>by
  have a:=k h;have b:=inR h;have n:=(e x a y b).mp h
  rcases j x a with rfl|rfl|rfl<;>rcases j y b with rfl|rfl|rfl<;>first|exact absurd rfl n|decide
 have t:ay [0,1,2] 0=1/\ay [0,1,2] 1=2/\ay [0,1,2] 2=0:=by decide
 refine#[g,by decide,by decide,by decide,by decide,λx y l n=>?_,?_]
 .have i:=s x y l
  simp only[b8,acC,vA,abf] at i
  rcases i with ⟨rfl,rfl⟩ | ⟨rfl,rfl⟩ | ⟨rfl,rfl⟩ | ⟨rfl,rfl⟩ | ⟨rfl,rfl⟩ | ⟨rfl,rfl⟩
  .exact absurd #[by simp,t.1.symm] n
  .exact absurd #[by simp,t.2.1.symm] n
  .exact absurd #[by simp,t.2.2.symm] n
  .exact#[by decide,λz=>by have h:=z.2;revert h;decide]
  .exact#[by decide,λz=>by have h:=z.2;revert h;decide]
  .exact#[by decide,λz=>by have h:=z.2;revert h;decide]
 .intro c o ev
  have u:=ev 0 (by decide)
  have r:=ev 1 (by decide)
  rw[m] at u;rw[v] at r;simp only[par,y9] at u r;refine#[λd=>decide (d=(1,0)\/d=(0,2)\/d=(2,1))&&c 0 1,λd l=>?_,λx y l=>?_]
  .obtain⟨x,y⟩:=d
   have i:=s x y l;simp only[b8,acC,vA,abf] at i
   rcases i with ⟨rfl,rfl⟩ | ⟨rfl,rfl⟩ | ⟨rfl,rfl⟩ | ⟨rfl,rfl⟩ | ⟨rfl,rfl⟩ | ⟨rfl,rfl⟩<;>(refine KB (·&&c 0 1) ?_;decide)
  .have i:=s x y l
   simp only[b8,acC,vA,abf] at i;have A:c 0 2=c 0 1:=by revert u;cases c 0 1<;>cases c 0 2<;>simp
   have B:c 1 2=c 0 1:=by
    rw[o 1 0] at r
    revert r;cases c 0 1<;>cases c 1 2<;>simp
   rcases i with ⟨rfl,rfl⟩ | ⟨rfl,rfl⟩ | ⟨rfl,rfl⟩ | ⟨rfl,rfl⟩ | ⟨rfl,rfl⟩ | ⟨rfl,rfl⟩
   .simp
   .simp[B]
   .rw[o 2 0,A];simp
   .rw[o 1 0];simp
   .simp[A]
   .rw[o 2 1,B];simp
end
structure Ta (w w':W) (f:Nat->Nat):Prop where
 len:w'.length=w.length
 lt:∀x,x<w.length->f x<w.length
 inj:∀x y,x<w.length->y<w.length->f x=f y->x=y
 onto:∀y,y<w.length->∃x,x<w.length/\f x=y
 rows:∀x,x<w.length->∃a b,row w x=a++b/\row w' (f x)=(b++a).map f
section
variable {w w':W} {f:Nat->Nat}
def Ta.good(N:Ta w w' f)(g:Good w):Good w':=
 good_ren g N.len N.lt N.inj N.onto λp c=>by
  obtain⟨a,b,d,e⟩:=N.rows p c;rw[d,e];exact(List.perm_append_comm (l₁:=b) (l₂:=a)).map f
open Classical in
end
def tD{w:W}{i x:Nat}(h:i<w.length):row (w.set i r) x=if i=x then r else row w x:=by
 unfold row;rw[bG,kC,bG]
 by_cases e:i=x
 .subst e;rw[tz rfl,tz h,tz rfl];rfl
 .rw[mo e,mo e]
def yC{w:W}:row (w++ [r]) x=if x=w.length then r else row w x:=by
 unfold row;rw[bG,bG]
 by_cases c:x<w.length
 .rw[gn c,mo (by lia)]
 .by_cases e:x=w.length
  .subst e;rw[tz rfl];simp
  .rw[mo e,iG (by simp;lia),iG (by lia)]
structure Bt (w w':W) (R:List Nat) (f k:Nat):Prop where
 l:w'.length=w.length+1
 rv:row w' w.length=(R.take (f+1)).reverse
 r0:row w' (R.getD 0 0)=w.length::row w (R.getD 0 0)
 rk:∀i,1<=i->i<=k->row w' (R.getD i 0)=row w (R.getD i 0)++ [w.length]
 ro:∀x,x≠w.length->(∀i,i<=k->x≠R.getD i 0)->row w' x=row w x
def Bt.start{w:W}{R:List Nat}{f:Nat}(h:R.getD 0 0<w.length):Bt w ((w++ [(R.take (f+1)).reverse]).set (R.getD 0 0) (w.length::row w (R.getD 0 0))) R f 0:=by
 have d:(w++ [(R.take (f+1)).reverse]).length=w.length+1:=by simp
 have a:∀x,row ((w++ [(R.take (f+1)).reverse]).set (R.getD 0 0) (w.length::row w (R.getD 0 0))) x=_:=λx=>tD (x:=x) (by lia)
 refine#[by rw[iA];exact d,?_,?_,λi b c=>by lia,λx b c=>?_]
 .rw[a,mo (by lia),yC,tz rfl]
 .rw[a,tz rfl]
 .rw[a,mo (λz=>c 0 (bu _) z.symm),yC,mo b]
def Bt.step{w a:W}{f k:Nat}(M:Bt w a R f k)(m:R.Nodup)(n:f<R.length)(o:k+1<=f)(h:R.getD (k+1) 0<w.length):Bt w (a.set (R.getD (k+1) 0) (row a (R.getD (k+1) 0)++ [w.length])) R f (k+1):=by
 have ne:∀i,i<=k->R.getD (k+1) 0≠R.getD i 0:=λi d e=>by
  have:=getD_inj m (by lia) (by lia) e;lia
 have b:∀x,row (a.set (R.getD (k+1) 0) (row a (R.getD (k+1) 0)++ [w.length])) x=_:=λx=>tD (x:=x) (by rw[M.l];lia)
 refine#[by rw[iA];exact M.l,?_,?_,λi g j=>?_,λx g j=>?_]
 .rw[b,mo (by lia)];exact M.rv
 .rw[b,mo (ne 0 (by lia))];exact M.r0
 .by_cases c:i=k+1
  .subst c
   rw[b,tz rfl,M.ro _ (by lia) (λi d=>ne i d)]
  .rw[b,mo (ne i (by lia))];exact M.rk i g (by lia)
 .rw[b,mo (λz=>j (k+1) (bu _) z.symm)]
  exact M.ro x g λi d=>j i (by lia)
def Bt.fin{w a:W}{f:Nat}(M:Bt w a R f f)(b:1<=f)(c:f<R.length):Step w a R f:=#[M.l,b,c,M.rv,M.r0,M.rk,M.ro]
def dP.U7{w:W}(G:dP w R)(h:x∈R):x<w.length:=bx (G.hd x h).1
def dP.Yk{w:W}(G:dP w R):R.length<=w.length:=by
 have:=aT G.nd (m:=aB w.length) λx a=>gQ.mpr (G.U7 a)
 rw[tW] at this;exact this
def Good.Rq{w:W}(g:Good w)(i:2<=w.length)(b:p<w.length):row w p≠ []:=by
 obtain⟨a,d,ne⟩:∃a,a<w.length/\a≠p:=by
  by_cases c:p=0
  .exact#[1,by lia,by lia]
  .exact#[0,by lia,by lia]
 have r:=((g.con a d).symm g.sym).trans (g.con p b);cases r with
 |refl=>exact absurd rfl ne
 |step _ h=>
  have:=g.sym _ _ h
  intro e;rw[e] at this;cases this
end Wb
set_option maxHeartbeats 4000000
namespace L2
open PySem PySem.Spec PyProof.Rows
section
variable {Z:DC} {X:Cx} {md:List Nat}
def Mu(i:Nat)(t:cI):cI:=λE a=>(∃d,a[i]? =some (some d))/\t {nx:=λ_=>False,rt:=E.rt} a
def nA(i:Nat)(h:mV Z X (md.set i 0) 0 f t):mV Z X md 0 f (Mu i t):=by
 refine jO.imp h ?_;rintro p q H ⟨B,k,E,⟨G,r,S⟩,⟨⟨d,g⟩,l⟩,M⟩;obtain⟨v,m,dv,a⟩:=S.J2 g;refine#[B,k,_,#[_,_,#[a.ex,a.fl,S.len,λj c b=>?_,a.nd,a.ap,a.nw]],l,#[λ_ z=>z.elim,M.rt,λ_ z=>z.elim,λ_ z=>z.elim,λ_ _ z=>z.elim]]
 by_cases e:j=i
 .subst e
  rw[g] at b;cases b;exists v,m
  have:(md.set j 0).getD j 0=0:=by
   rw[bG,kC]
   split<;>first| (split<;>rfl) |exact absurd rfl ‹_›
  rw[this,tz rfl];exact#[dv,rfl]
 .obtain⟨u,n,o⟩:=a.at_ j c (by rw[lM (Ne.symm e)];exact b)
  exists u,n
  have:(md.set i 0).getD j 0=md.getD j 0:=by rw[bG,bG,lM (Ne.symm e)]
  rw[this];exact o
end
open PySem.Calls PySem.W
section
variable {Z:DC} {X:Cx} {md:List Nat} {rn:Nat} {x:Str} {p pos aP:Pos}
def Mt(C:Addr):cI:=λE a=>E.xc a (.err C [] [])
def Hn{k1}(e:X.calm=true)(M:Ha X.K C (.builtin "ValueError.__init__"))(c:XE X.K C)(f:X.mg x=some (.ref C))(g:Gl X x:=by rfl)(i:(x==("__debug__":Str))=false:=by decide)
  (d:starEach [.Constant (.str a) k1 b] X.env=(false,eval (.Constant (.str a) k1 b) X.env)::starEach [] X.env:=by rfl) (j:(backTo aP (starEach [] X.env)).any (·.1)=false:=by rfl):
  DSt Z X md rn (.Raise (some (.Call (.Name x p) [.Constant (.str a) k1 b] [] aP)) none pos) (Mt C):=by
 refine(A6 e (Iu M g f (bS wc fU d) i d j)).imp ?_;rintro D l H ⟨B,m,E,⟨G,n,S⟩,h,M⟩;exact#[by show 1<=1000;decide,λa k=>#[a,C,none,rfl,au,c.obj,c.cls.be,F5 S h M k]]
end
end L2
namespace Wb
def cM{u:W}(h:o<u.length):row (u++ak k []) o=row u o:=by
 unfold row;rw[bG,gn h,<-bG]
def jI{u:W}(h:u.length<=o):row (u++ak k []) o= []:=by
 unfold row;rw[bG,i7 h,tU]
 split<;>rfl
def AF(a:u.length=v.length)(h:∀x,x<u.length->row u x=row v x):u=v:=by
 refine Bp λi=>?_
 by_cases c:i<u.length
 .rw[tB c,tB (by lia),h i c]
 .rw[iG (by lia),iG (by lia)]
def LR{k o q:Nat}(h:o<u.length):tie (u++ak (k+1) []) o q u.length 0=leaf u o q++ak k []:=by
 have a:(u++ak (k+1) ([]:List Nat)).length=u.length+(k+1):=by simp
 refine AF (by rw[fL,a,dh,fT,qp];lia) λx b=>?_
 rw[fL,a] at b;rw[n0 (by lia) (by lia)]
 by_cases c:u.length=x
 .rw[tz c,jI (bu _),cM (u:=leaf u o q) (by rw[fT];lia),lH h,tz c.symm]
  unfold ins;simp
 .rw[mo c]
  by_cases d:o=x
  .rw[tz d,cM h,cM (u:=leaf u o q) (by rw[fT];lia),lH h,mo (by lia),tz d]
  .rw[mo d]
   by_cases e:x<u.length
   .rw[cM e,cM (u:=leaf u o q) (by rw[fT];lia),lH h,mo (by lia),mo d]
   .rw[jI (by lia),jI (by rw[fT];lia)]
def Pd(h:o<u.length)(a:p<u.length):tie (u++ak k []) o q p 0=tie u o q p 0++ak k []:=by
 have b:(u++ak k ([]:List Nat)).length=u.length+k:=by simp
 refine AF (by rw[fL,b,dh,fL,qp]) λx c=>?_
 rw[fL,b] at c;rw[n0 (by lia) (by lia)]
 by_cases e:x<u.length
 .rw[cM (u:=tie u o q p 0) (by rw[fL];exact e),n0 h a,cM h,cM a,cM e]
 .rw[mo (by lia),mo (by lia),jI (by lia),jI (by rw[fL];lia)]
def zk(w:W):Prop:=∀d,ba w d->cp w (cp w (cp w d))=d
def Mn{l:List Nat}(b:l.Nodup){q:Nat}(f:q∈l){P:Nat->Prop}(d:P q)(g:∀x∈l,P x->P (ay l x)):∀x∈l,P x:=by
 obtain⟨i,e,rfl⟩:=kB.mp f;have m:l[i]=l.getD i 0:=by rw[bG,dD e];rfl
 rw[m] at d
 have step:∀j,j<l.length->P (l.getD j 0)->P (l.getD ((j+1)%l.length) 0):=λj a h=>by
  have:=g _ (dR a) h
  by_cases c:j+1<l.length
  .rw[oX c,<-cx b c];exact this
  .rw[show j+1=l.length by lia,ab3,<-df b (i:=j) (by lia)];exact this
 have all:∀k,P (l.getD ((i+k)%l.length) 0):=λk=>by
  induction k with
  |zero=>rw[Nat.add_zero,oX e];exact d
  |succ k n=>
   have:=step _ (tY _ (by lia)) n
   rw[Nat.mod_add_mod] at this;exact this
 intro x o;obtain⟨j,a,rfl⟩:=kB.mp o;have p:l[j]=l.getD j 0:=by rw[bG,dD a];rfl
 have:=all (j+l.length-i)
 rw[show i+(j+l.length-i)=j+l.length by lia,Nat.add_mod_right,oX a,<-p] at this
 exact this
def BM(g:Good w){S:Nat->Prop}(c:a<w.length)(d:S a)(e:∀p q,S p->q∈row w p->S q):∀p,p<w.length->S p:=λp b=>by
 have r:Reach w a p:=(Reach.symm g.sym (g.con a c)).trans (g.con p b);clear b
 induction r with
 |refl=>exact d
 |step _ h f=>exact e _ _ f h
def zk.rnd(T:zk w)(g:Good w)(h:iB w d r)(a:ba w d):r= [d,cp w d,cp w (cp w d)]:=by
 obtain⟨k,i,b,j,rfl⟩:=h;have t:bz w 3 d=d:=T d a;have e:cp w d≠d:=λz=>wY g a (KB Prod.fst z).symm;have l:cp w (cp w d)≠d:=λz=>e (by have f:cp w (cp w (cp w d))=d:=t;rw[z] at f;exact f)
 have:k=3:=by
  apply FS;intro z
  rcases Nat.lt_trichotomy k 3 with c|c|c
  .match k,i,c with
   |1,_,_=>exact e b
   |2,_,_=>exact l b
  .exact z c
  .exact j 3 (by lia) c t
 subst this;rfl
def zk.back(T:zk w)(a:ba w (p,q)):cp w (q,ay (row w q) p)=(ay (row w q) p,p):=by
 have e:=T _ a;have b:ay (row w (ay (row w q) p)) q=p:=KB Prod.fst e;show(_,ay (row w (ay (row w q) p)) q)=_;rw[b]
def zk.pts(T:zk w)(g:Good w)(h:iB w d r)(b:ba w d)(c:e∈r)(z:Nat):z∈r.map (·.1)↔z=e.1\/z=e.2\/z=ay (row w e.2) e.1:=by
 have i:=T.rnd g h b;subst i;obtain⟨p,q⟩:=d;have f:cp w (p,q)=(q,ay (row w q) p):=rfl;have a:=T.back b;have j:ay (row w (ay (row w q) p)) q=p:=(KB Prod.snd a)
 have k:ay (row w p) (ay (row w q) p)=q:=by
  have:=T _ b
  rw[f,a] at this;exact KB Prod.snd this
 rw[f,a] at c;simp only[b8,vA,abf] at c;rw[f,a];show z∈ [p,q,ay (row w q) p]↔_;simp only[b8,vA,abf]
 rcases c with rfl|rfl|rfl
 .exact Iff.rfl
 .show _↔z=q\/z=ay (row w q) p\/z=ay (row w (ay (row w q) p)) q
  rw[j];exact#[λh=>by rcases h with h|h|h<;>simp[h],λh=>by rcases h with h|h|h<;>simp[h]]
 .show _↔z=ay (row w q) p\/z=p\/z=ay (row w p) (ay (row w q) p)
  rw[k];exact#[λh=>by rcases h with h|h|h<;>simp[h],λh=>by rcases h with h|h|h<;>simp[h]]
def zk.land(T:zk w)(g:Good w)(R:bI w d)(h:l∈dj d):∃p q s,l= [p,q,s]/\q∈row w p/\s∈row w q/\p∈row w s:=by
 obtain⟨r,i,rfl⟩:=dO.mp h;obtain⟨⟨p,q⟩,j,a,_⟩:=R.rnd r i;have k:=T.rnd g j a;have e:=T.back a;have b:=jF g a;have c:=jF g b;have f:cp w (p,q)=(q,ay (row w q) p):=rfl;rw[f] at b c;rw[e] at c;refine#[p,q,ay (row w q) p,?_,a,b,c];rw[k,f,e];rfl
def more(T:zk w)(g:Good w)(R:bI w i){D:Nat->Prop}(c:q∈row w a)(j:D a)(f:D q)(l:b<w.length)(m:¬D b):
  ∃r∈i,∃x∈r.map (·.1),¬D x/\∀y∈r.map (·.1),y≠x->D y:=by
 apply FS;intro n
 have e:∀p q,q∈row w p->D p->D q->∀x∈row w p,D x:=λp q c dp f=>Mn (g.nod p) c f λx o s=>by
  apply FS;intro t;have u:ba w (x,p):=g.sym _ _ o;obtain⟨r,k,v⟩:=vB.mp (R.perm.mem_iff.mpr (bw.mpr u));obtain⟨d,A,B,_⟩:=R.rnd r k;have pt:=T.pts g A B v;refine n #[r,k,ay (row w p) x,(pt _).mpr (.inr (.inr rfl)),t,λy C ne=>?_]
  rcases(pt y).mp C with z|z|z
  .rw[z];exact s
  .rw[z];exact dp
  .exact absurd z ne
 have:=BM g (bx c) (S:=λp=>D p/\∀x∈row w p,D x) #[j,e a q c j f] λp q h c=>#[h.2 q c,e q p (g.sym _ _ c) (h.2 q c) h.1]
 exact m (this b l).1
end Wb
namespace GW
open PySem L2 Wb
variable {P:Program} {w:World} {mg:Str->Option Value} {base:Heap} {Z:DC} (T:Txt Z mg)
def jY(a b:Int)(h:0<b):0<=a%b/\a%b<b:=#[Int.emod_nonneg _ (by lia),Int.emod_lt_of_pos _ h]
def Hr{P:D->Prop}(h:P (.bl (decide (i=j)))):dC (.int j) a (λb=>Kt (.int i) b P):=wU h
def lK(w:W)(i:Nat)(r:List Nat):(w.map av).set i (av r)=(w.set i r).map av:=by rw[aci]
def lO(l:List a)(k:Nat)(h:k<=l.length):cutD l (some (k:Int)) none=l.drop k:=by
 unfold cutD
 have b:HT.bT l.length 0 (some (k:Int))=k:=by
  simp only[HT.bT]
  split<;>lia
 have c:HT.bT l.length l.length none=l.length:=rfl;rw[b,c];exact vw (by simp)
def tw{w:W}{p:Nat}(h:p<w.length):iJ (w.map av) (p:Int)=some (av (row w p)):=fQ (j7 h)
def nU{ns:List Nat}{p:Nat}(h:p<ns.length):iJ (ns.map ai) (p:Int)=some (ai (ns.getD p 0)):=fQ (by rw[eQ,bG,dD h];rfl)
def AJ(I:Nat->DN->Prop)(c:I 0 a)(d:∀(j:Nat)(a:DN),j<n->I j a->∀A:DN->Prop,(∀a,I (j+1) a->A a)->g (ai j) a λe=>b {nx:=A,ct:=A,bk:=E.nx,rt:=E.rt,xc:=E.xc} e)
  (f:∀a,I n a->E.nx a):nI g b E (dN 0 n) a:=xu I c (λj a i h A k=>by
 have:=d j a i h A k
 unfold ai at this;rw[Int.zero_add];exact this) f
def uk(r:List Nat)(i x:Nat):ins (r.map ai) i (ai x)=(ins r i x).map ai:=by
 unfold ins;simp[uU,uV]
def Bv(n:Nat)(a:List Nat):Prop:=a.length=n/\a.Nodup/\∀x∈a,x<n
def Ib(N:Bv n a)(h:x<n):x∈a:=by
 apply FS;intro c
 have:(x::a).length<=(aB n).length:=aT (jq.mpr #[c,N.2.1]) λy b=>by
  rcases b8.mp b with rfl|b
  .exact gQ.mpr h
  .exact gQ.mpr (N.2.2 y b)
 rw[tW,cO,N.1] at this;lia
def UJ{f:DN->Prop}{a:DN}(b:DN)(e:a=b)(h:f b):f a:=by rw[e];exact h
theorem Dk:∀(b:List Nat)(m:Nat),m<b.idxOf x->b[m]? ≠some x
 | [],m,h=>by simp at h
 |a::b,m,h=>by
  rw[List.idxOf_cons] at h
  by_cases e:(a==x)=true
  .rw[e] at h;simp at h
  .rw[vy.mpr e] at h
   cases m with
   |zero=>intro z;simp at z;exact e (by simp[z])
   |succ m=>rw[vv];exact Dk b m (by simpa using h)
def HS{a:List Nat}{x:Nat}{P:D->Prop}(h:x∈a)(q:P (ai (a.idxOf x))):ft (ai x)=true/\(a.map ai).all ft=true/\∃(j:Nat)(z:D),(a.map ai)[j]? =some z/\i4 z (ai x)=true/\(∀(m:Nat) z,m<j->(a.map ai)[m]? =some z->i4 z (ai x)=false)/\P (.int (j:Nat)):=by
 have b:=Kf.mpr h;have e:a[a.idxOf x]? =some x:=by rw[dD b];exact KB some (Ew b)
 refine#[rfl,gK _,a.idxOf x,ai x,by rw[eQ,e];rfl,by simp[i4,ai],λm z c d=>?_,q]
 obtain⟨y,f,rfl⟩:=cH d
 have:y≠x:=by
  rintro rfl;exact Dk _ _ c f
 have:¬((y:Int)=(x:Int)):=by lia
 simpa [i4,ai] using this
def fS{a:List Nat}{x:Nat}(h:x∈a):(a.map ai)[a.idxOf x]? =some (ai x)/\i4 (ai x) (ai x)=true/\∀(m:Nat) z,m<a.idxOf x->(a.map ai)[m]? =some z->i4 z (ai x)=false:=by
 have:=HS (P:=λd=>d=ai (a.idxOf x)) h rfl
 obtain⟨_,_,j,z,i,k,l,n⟩:=this;have b:=Kf.mpr h;have e:a[a.idxOf x]? =some x:=by rw[dD b];exact KB some (Ew b)
 refine#[by rw[eQ,e];rfl,by simp[i4,ai],λm z c f=>?_]
 obtain⟨y,g,rfl⟩:=cH f
 have:y≠x:=by
  rintro rfl;exact Dk _ _ c g
 have:¬((y:Int)=(x:Int)):=by lia
 simpa [i4,ai] using this
def IC(n:Nat):dN 0 n=(aB n).map λ(x:Nat)=>ai x:=by unfold dN ai;simp
theorem yB{g:b->PyData}(h:∀a,(f a).py=some (g a)):∀l:List b,iw (l.map f)=some (l.map g)
 | []=>rfl
 |a::l=>by
  have:=yB h l
  rw[dz,iw,h a,this];rfl
def DR(r:List Nat):(av r).py=some (tu r):=by
 unfold av tu;rw[D.py,yB (g:=nD) (λn=>rfl)];rfl
def MN(a b:List Nat):PyData.eqv (tu a) (tu b)=decide (a=b):=by
 by_cases e:a=b
 .rw[KM e];exact(AD a b).mpr e
 .rw[Gc e]
  apply vy.mpr;exact λz=>e ((AD a b).mp z)
def Mp{v w:List Nat}{P:D->Prop}(h:P (.bl (!decide (v=w)))):wV (av v) (av w) P:=by
 refine#[_,_,DR v,DR w,by have:=u5 v;lia,?_]
 rw[tz rfl,MN];exact h
def Ic{P:D->Prop}(h:P (.bl (!decide (i=j)))):dC (.int j) a (λb=>wV (.int i) b P):=wW h
variable {P:Program} {w:World} {mg:Str->Option Value} {base:Heap} {Z:DC} (T:Txt Z mg)
def LD{P:D->Prop}(g:L.length<64)(h:∀M:List Nat,M.Perm L->M.Pairwise (·<=·)->P (av M)):Jq [av L] P:=by
 refine#[L.map λ(n:Nat)=>(n:Int),by unfold av;rw[eH];rfl,by rw[aV];exact g,λc f i=>?_]
 have e:∀m∈c,((m.toNat:Nat):Int)=m:=λm d=>by
  obtain⟨n,_,rfl⟩:=dO.mp (f.mem_iff.mp d);simp
 have j:(c.map Int.toNat).Perm L:=by
  have:=f.map Int.toNat
  rw[eH] at this;rw[show(Int.toNat∘λ(n:Nat)=>(n:Int))=id from by funext n;simp] at this
  simpa using this
 have:=h (c.map Int.toNat) j (by
  rw[j8];exact i.imp λ {a b} k=>Int.toNat_le_toNat k)
 unfold av at this;rw[eH] at this;rw[show c.map D.int=c.map (ai∘Int.toNat) from List.map_congr_left λm d=>by show D.int m=ai m.toNat;unfold ai;rw[e m d]]
 exact this
def qP(k:Nat×Nat):PyData:= .tuple [nD k.1,nD k.2]
def OK(k:Nat×Nat):(pairD k).py=some (qP k):=by
 unfold pairD;rw[D.py,iw,iw,iw];rfl
def AB(a b:Nat×Nat):PyData.eqv (qP a) (qP b)=true↔a=b:=by
 unfold qP nD;simp[PyData.eqv,PyData.eqvAll]
 constructor
 .rintro⟨c,d⟩;exact aaA (by lia) (by lia)
 .rintro rfl;exact#[rfl,rfl]
variable {P:Program} {w:World} {mg:Str->Option Value} {base:Heap} {Z:DC} (T:Txt Z mg)
def zz(d:Nat×Nat):Int×Int:=(d.1,d.2)
def RW(h:zz a=zz b):a=b:=aaA (by have:=(aaS h).1;lia) (by have:=(aaS h).2;lia)
def wj{d:Nat×Nat}{l:List (Nat×Nat)}:zz d∈l.map zz↔d∈l:=by
 rw[dO];exact#[λ#[a,b,e]=>by rw[<-RW e];exact b,λh=>#[d,h,rfl]]
def RA:dA:=λb P=>∃(w:W),b= [.fX w]/\Good w/\w.length<=14/\∀a:List (Nat×Nat),a.Perm (jB (row w) w.length)->a.Pairwise lexLe->P (.lst (a.map pairD))
theorem Ss(I:DN->Prop)(J:o->DN->Prop)(m:o->D)(f:o->List u)(v:u->D)(p:o->u->Bool)(k:o->u->B)(i:B->D)(G:∀y H,J y H->I H):∀(l:List o)(j:DN)(a:List B)(P:List D->Prop),
  (∀y∈l,∀j,I j->∀(Y:DN->List D->Prop),(∀d,J y d->Y d ((f y).map v))->g (m y) j λd=>A d (Y d))->
  (∀y∈l,∀b∈f y,∀j,J y j->∀(Y:DN->D->Prop)(x:DN->Prop),(∀d,J y d->p y b=true->Y d (i (k y b)))->(∀d,J y d->p y b=false->x d)->r (v b) j λd=>s d λc=>if c=true then t d (Y d) else x d)->
  I j->a.length+(l.flatMap λy=>((f y).filter (p y)).map (k y)).length<=sizeLine->(∀y∈l,a.length+(l.flatMap λy=>((f y).filter (p y)).map (k y)).length+(f y).length<=sizeLine)->P ((a++l.flatMap λy=>((f y).filter (p y)).map (k y)).map i)->qe g wX A r s t (l.map m) j (a.map i) P
 | [],j,a,P,_,_,L,_,_,h=>by
  show P (a.map i);simpa using h
 |y::l,j,a,P,M,N,L,n,O,h=>by
  have C:=O y (dE ..);rw[Bn,dh] at n C;refine M y (dE ..) j L (λd Q=>lcW r s t Q d (a.map i) λq R=>qe g wX A r s t (l.map m) q R P) λd E=>?_;refine lZ (J y) v (p y) (λb=>i (k y b)) (f y) d (a.map i) _ (λb S q F Y x U X=>?_) E (by rw[aV];lia) λq F=>?_
  .exact N y (dE ..) b S q F Y x U X
  .have e:a.map i++((f y).filter (p y)).map (λb=>i (k y b))=(a++((f y).filter (p y)).map (k y)).map i:=by rw[f6,eH];rfl
   rw[e];refine Ss I J m f v p k i G l q (a++((f y).filter (p y)).map (k y)) P (λz n=>M z (eM _ n)) (λz n=>N z (eM _ n)) (G y q F) (by rw[dh];lia) (λz n=>?_) ?_
   .have:=O z (eM _ n)
    rw[Bn,dh] at this;rw[dh];lia
   .rw[Bn] at h
    rw[qr];exact h
def ml:FnOk P w Z.K mg base cz 1 T.m_ties.f T.m_ties.fd ["self"] (aU Z RA):=by
 have L:=tI.nd;refine bp T.m_ties.F tI [0] (by decide) (λu R h=>by obtain⟨_,rfl,_⟩:=h;rfl) (λM A outer s H E u R v h=>?_)
 have N:=v.units;refine#[_,(aq (aN (aK Au rfl T.B.sorted lN (ae (PZ (NC:= ["p","row","q"]) (src:= [none,none,none]) rfl (qv (ao kq)) trivial (eB rfl T.B.enumerate (ae (rR T.W (aa 0)) ag)) (λ_ _ _=>(BZ 2 rfl (jC (bX 0 (show(["p","row","q"]:List Str).Nodup from by decide+kernel)) (jC (bX 1 (show(["p","row","q"]:List Str).Nodup from by decide+kernel)) w4)))) (λ_ _ _=>e8) (λ_ _ _=>(bK (aa 1))) (λ_ _ _=>(bX 2 (show(["p","row","q"]:List Str).Nodup from by decide+kernel))) (λ_ _ _=>(xh (bo yh (aa 0) (aa 2) (bD _)))) (λ_ _ _=>(cD (ae (aa 0) (ae (aa 2) ag))))) ag)))),?_]
 obtain⟨a,rfl,g,O,q⟩:=h
 have x:hU (a.map av)=(aB a.length).map λ(j:Nat)=>D.tup [.int (j:Int),av (row a j)]:=by
  refine Bp λj=>?_;rw[eQ]
  by_cases lt:j<a.length
  .rw[GP lt]
   cases e:(hU (a.map av))[j]? with
   |none=>
    have:=List.getElem?_eq_none_iff.mp e
    rw[iM,aV] at this;lia
   |some d=>rw[(yR e).2];rfl
  .rw[iG (by rw[iM,aV];lia),iG (by rw[tW];lia)];rfl
 have k:((aB a.length).flatMap λp=>((row a p).filter λq=>decide (p<q)).map λq=>(p,q))=jB (row a) a.length:=rfl
 have z:∀n,n<=a.length->(jB (row a) n).length<=n*14:=λn=>by
  induction n with
  |zero=>intro _;exact bu _
  |succ n C=>
   intro h
   have:=C (by lia)
   have Q:=fg g n;have S:=List.length_filter_le (λq=>decide (n<q)) (row a n);unfold jB at this ⊢;rw[aco,List.flatMap_append,dh];simp only[Bn,List.flatMap_nil,fG,aV];lia
 have G:=z a.length (bu _);exists _,rfl,a,rfl;refine(?_:qe _ _ _ _ _ _ (hU (a.map av)) _ _ _);rw[x];refine Ss (λi=>∃o r c,i= [o,r,c]) (λp i=>∃c,i= [some (ai p),some (av (row a p)),c]) _ (λp=>row a p) ai (λp q=>decide (p<q)) (λp q=>(p,q)) pairD (λy i #[c,e]=>#[_,_,_,e]) (aB a.length) _ [] _ (λp t I l Y m=>?_) (λp t b U I l Y X m J=>?_) #[none,none,none,rfl] ?_ (λp t=>?_) ?_
 .obtain⟨o,r,c,rfl⟩:=l
  exact#[rfl,rfl,_,rfl,m _ #[_,rfl]]
 .obtain⟨c,rfl⟩:=l
  exists _,rfl,_,rfl,_,rfl;refine(?_:if decide ((p:Int)<(b:Int))=true then _ else _);rw[show decide ((p:Int)<(b:Int))=decide (p<b) from aaP.mpr (by lia)]
  exact cc (λe=>#[_,rfl,_,rfl,by show 2<=sizeLine;decide,m _ #[_,rfl] e]) (λe=>J _ #[_,rfl] e)
 .rw[k,zg,vE];exact small (by lia)
 .have:=fg g p
  rw[k,zg,vE];exact small (by lia)
 .rw[k,vC]
  exact#[_,rfl,by lia,q]
def LF:dA:=λa P=>∃(w:W)(p q:Nat),a= [.fX w,ai p,ai q]/\Good w/\q∈row w p/\P (ai (ay (row w p) q))
def nX:FnOk P w Z.K mg base cz 1 T.m_behind.f T.m_behind.fd ["self","p","q"] (aU Z LF):=by
 have k:=oh.nd;refine bp T.m_behind.F oh [0,0,0,0] (by decide) (λl R h=>by obtain⟨_,_,_,rfl,_⟩:=h;rfl) (λt A outer s H E l R m h=>?_)
 have u:=m.units
 refine#[_,(ah (bb false 3 k (bV (rR T.W (aa 0)) (aa 1)))
   (aq (aN (bV (aa 3) (aI dM (aI cg (Ax (aa 3) (aa 2)) ax) (aK bF rfl T.B.len bE (ae (aa 3) ag))))))),?_]
 obtain⟨a,p,b,rfl,g,c,q⟩:=h;have n:=bx c;have v:=fg g p;have e:((row a p).map ai).length=(row a p).length:=aV _;have d:0<(row a p).length:=Bk c;have o:(0:Int)<(((row a p).map ai).length:Int):=by rw[e];lia
 exists _,rfl,a,rfl,_,rfl,_,tw n,trivial;exists _,rfl,_,rfl,_,rfl,_,rfl,rfl,gK _,_,_,(fS c).1,(fS c).2.1,(fS c).2.2;exists _,rfl,o;have em:(((row a p).idxOf b:Nat):Int)+1=(((row a p).idxOf b+1:Nat):Int):=by lia
 have r:((((row a p).idxOf b:Nat):Int)+1)%(((row a p).map ai).length:Int)=((((row a p).idxOf b+1)%(row a p).length:Nat):Int):=by rw[e,em,Int.natCast_emod]
 refine#[ai (ay (row a p) b),?_,q];show iJ ((row a p).map ai) ((λi j=>i%j) _ _)=_;dsimp only;rw[r];exact nU (tY _ d)
def Kw{P:D->Prop}(h:P (.bl (!decide (a=b)))):wV (pairD a) (pairD b) P:=by
 refine#[_,_,OK a,OK b,by unfold qP nD;simp[PyData.depth,PyData.depthAll],?_]
 have:PyData.eqv (qP a) (qP b)=decide (a=b):=by
  by_cases e:a=b
  .rw[KM e];exact(AB a b).mpr e
  .rw[Gc e]
   apply vy.mpr;exact λz=>e ((AB a b).mp z)
 rw[tz rfl,this];exact h
def O0:dA:=λa P=>∃(w:W)(d:Nat×Nat),a= [.fX w,pairD d]/\Good w/\w.length<=14/\ba w d/\∀r,iB w d r->P (.lst (r.map pairD))
def yt:FnOk P w Z.K mg base cz 2 T.d_round_from.f T.d_round_from.fd ["web","side"] (aU Z O0):=by
 have i:=oE.nd;refine bp T.d_round_from.F oE [0,0,1,0,0] (by decide) (λv R h=>by obtain⟨_,_,rfl,_⟩:=h;rfl) (λB A outer s H E v R n h=>?_)
 have x:=n.units
 refine#[_,(ah (ju 2 i (iU (ae (aa 1) ag)))
   (ah (v7 (aa 1) (dY 2 rfl (aM (aH 3 i) (aM (aH 4 i) b7))))
   (ah (JB 3 4 rfl i (ae (aa 4) (ae (E2 T.W (aa 0) T.m_behind.m (nX T) (n.mono (by decide)) T.m_behind.b (ae (aa 4) (ae (aa 3) ag))) ag)))
   (ah (pb GE (bo (qM x) (cD (ae (aa 3) (ae (aa 4) ag))) (aa 1) (bD _)) (ah (o9 false 2 (cD (ae (aa 3) (ae (aa 4) ag))))
   (aq (JB 3 4 rfl i (ae (aa 4) (ae (E2 T.W (aa 0) T.m_behind.m (nX T) (n.mono (by decide)) T.m_behind.b (ae (aa 4) (ae (aa 3) ag))) ag))))))
   (aq (aN (aa 2))))))),?_]
 obtain⟨a,d,rfl,g,t,o,q⟩:=h;have C:=iL g;have G:a.length*a.length<=14*14:=uT t t;refine#[_,rfl,by show 1<=sizeLine;decide,?_]
 exists _,rfl,rfl,rfl;exists _,rfl,_,rfl,a,rfl,_,rfl,_,rfl,a,d.2,d.1,rfl,g,g.sym _ _ o,_,_,rfl;refine mH (λm y=>∃k,0<k/\m+k=(bB a).length+1/\(∀j,0<j->j<k->bz a j d≠d)/\y= [some (.fX a),some (pairD d),some (.lst ((walk a d k).map pairD)),some (ai (bz a k d).1),some (ai (bz a k d).2)]) (bB a).length #[1,by lia,rfl,λj l u=>by lia,rfl] ?_
 rintro m _ ⟨k,z,I,p,rfl⟩;have r:=cL g o k;refine#[_,rfl,_,rfl,by show 2<=sizeLine;decide,_,rfl,?_]
 refine(?_:wV (pairD (bz a k d)) (pairD d) _);refine Kw #[_,rfl,cc (λe=>?_) (λe=>?_)]
 .have ne:bz a k d≠d:=by simpa using e
  have lt:k<(bB a).length:=by
   have:=yQ g o (k:=k+1) λj l u=>by
    by_cases c:j=k
    .subst c;exact ne
    .exact p j l (by lia)
   lia
  refine#[_,rfl,_,rfl,_,rfl,by show 2<=sizeLine;decide,trivial,c9 (by rw[aV,gO];lia),?_]
  exists _,rfl,_,rfl,a,rfl,_,rfl,_,rfl,a,(bz a k d).2,(bz a k d).1,rfl,g,g.sym _ _ r,_,_,rfl;refine#[m-1,by lia,k+1,by lia,by lia,λj l u=>?_,?_]
  .by_cases c:j=k
   .subst c;exact ne
   .exact p j l (by lia)
  .rw[rg,f6];rfl
 .have e:bz a k d=d:=by simpa using e
  exact#[_,rfl,q _ #[k,z,e,p,rfl]]
def wb(a:List (List (Nat×Nat))):D:= .lst ((a.map λr=>r.map (·.1)).map av)
def Gi:dA:=λb P=>∃(w:W),b= [.fX w]/\Good w/\1<=w.length/\w.length<=14/\(w.length=1->P (.lst [av [0]]))/\(2<=w.length->∀a,bI w a->lY w=dj a->P (.lst ((lY w).map av)))
def K6(h:d∉l):Fq (l.map zz) (zz d)=(l++ [d]).map zz:=by
 unfold Fq;rw[mo (λz=>h (wj.mp z)),f6];rfl
def uG:FnOk P w Z.K mg base cz 3 T.d_lands.f T.d_lands.fd ["web"] (aU Z Gi):=by
 have I:=Bc.nd;refine bp T.d_lands.F Bc [0,98,1,0,0,0] (by decide) (λv R h=>by obtain⟨_,rfl,_⟩:=h;rfl) (λaX A outer s H E v R o h=>?_)
 have Q:=o.units
 refine#[_,(ah (bL (bo (kM Q) (gI T.W (aa 0) T.m_many.m (jy T) (o.mono (by decide)) T.m_many.b) ax (bD _)) (aq (aN (bW (ae (bW (ae ax ag)) ag)))) aW)
   (ah (KD 1 I rfl T.x_set)
   (ah (ju 2 I (iU ag))
   (ah (cK rfl GE (bK (aK Au rfl T.B.sorted lN (ae (aI cg (gI T.W (aa 0) T.m_ties.m (ml T) (o.mono (by decide)) T.m_ties.b) (qy (NC:= ["a","b"]) (src:= [none,none]) rfl (qv (ao og)) trivial (bK (gI T.W (aa 0) T.m_ties.m (ml T) (o.mono (by decide)) T.m_ties.b)) (λ_ _ _=>(BZ 2 rfl (jC (bX 0 (show(["a","b"]:List Str).Nodup from by decide+kernel)) (jC (bX 1 (show(["a","b"]:List Str).Nodup from by decide+kernel)) w4)))) (λ_ _ _=>e8) (λ_ _ _=>(cD (ae (aa 1) (ae (aa 0) ag)))))) ag))) (aH 3 I) (aq (bL (bo (Ij Q) (aa 3) (aa 1) (by with_unfolding_all rfl)) (ah (bb false 4 I (aQ T.d_round_from (yt T) o (ae (aa 0) (ae (aa 3) ag))))
   (ah (cK rfl GE (bK (aa 4)) (aH 5 I) (aq (MC false 1 Q (aa 5))))
   (aq (o9 false 2 (qy (NC:= ["p","q"]) (src:= [none,none]) rfl (qv (ao og)) trivial (bK (aa 4)) (λ_ _ _=>(BZ 2 rfl (jC (bX 0 (show(["p","q"]:List Str).Nodup from by decide+kernel)) (jC (bX 1 (show(["p","q"]:List Str).Nodup from by decide+kernel)) w4)))) (λ_ _ _=>e8) (λ_ _ _=>(aa 0))))))) aW)))
   (aq (aN (aK (Hh Q) rfl T.B.sorted lN (ae (aa 2) ag)))))))),?_]
 obtain⟨n,rfl,g,h1,J,q1,q2⟩:=h;have c1:=iL g;have c2:n.length*n.length<=14*14:=uT J J;have lw:(n.map av).length=n.length:=aV _;exists _,rfl,n,rfl,n,rfl;refine Hr #[_,rfl,cc (λe=>?_) (λe=>?_)]
 .have e:n.length=1:=by have:=Pi e;lia
  exact#[by show 1<=sizeLine;decide,by show 1<=sizeLine;decide,q1 e]
 have n2:2<=n.length:=by have:=SZ e;lia
 refine#[by show 0<=sizeLine;decide,?_]
 refine#[_,rfl,n,rfl,n,rfl,g,J,λts G S=>?_];have tl:=IU g;rw[<-qw] at tl;have tl2:=G.length_eq;refine#[_,rfl,n,rfl,n,rfl,g,J,λy X6 SK=>?_];have e2:y=ts:=acj (λ_ _ _ _=>uw) SK S (X6.trans G.symm);subst e2;refine lZ (λC=>∃L N,C= [L,N]) pairD (λ_=>true) (λt=>pairD (t.2,t.1)) y _ [] _ (λt ht aG O Y Nn hY hN=>?_) #[none,none,rfl] (by rw[zg,vE];exact small (by lia)) λaG O=>?_
 .obtain⟨L,N,rfl⟩:=O
  exact#[rfl,rfl,SS #[_,rfl,_,rfl,by show 2<=sizeLine;decide,hY _ #[_,_,rfl] rfl]]
 have pd:=wH g G;have pl:=pd.length_eq;rw[dh,aV] at pl;have ef:y.filter (λ_=>true)=y:=by simp
 rw[vC,ef];refine#[by rw[aV,aV];exact small (by lia),?_]
 have ej:(.lst (y.map pairD++y.map λt=>pairD (t.2,t.1)):D)= .lst ((y++y.map λt=>(t.2,t.1)).map pairD):=by rw[f6,eH];rfl
 dsimp only[fJ];rw[ej];refine#[_,rfl,by rw[dh,aV];lia,λv U Ys=>?_]
 have U:=U.trans pd;have all:∀e,ba n e->e∈v:=λe h=>U.mem_iff.mpr (bw.mpr h);have dart:∀e∈v,ba n e:=λe h=>bw.mp (U.mem_iff.mp h);clear G X6 S SK ej pd ef;refine bM (λi C=>∃(j:List (List (Nat×Nat)))(o3 o4 q:Option D),C= [some (.fX n),some (.x (.tq (gy w) (j.flatten.map zz))),some (wb j),o3,o4,q]/\Wk n v i j) #[[],none,none,none,rfl,Wk.zero n v] ?_ ?_
 .rintro i d _ hd ⟨j,o3,o4,q,rfl,hw⟩ A X
  obtain⟨e,he,rfl⟩:=cH hd;have de:=dart e (eF he);exists _,rfl,_,rfl,zz e,j.flatten.map zz,rfl,rfl,_,rfl;refine(?_:if (if true=true then !decide (zz e∈j.flatten.map zz) else _)=true then _ else _);rw[tz rfl,show decide (zz e∈j.flatten.map zz)=decide (e∈j.flatten) from aaP.mpr wj]
  have sub:∀x∈j.flatten,x∈bB n:=λx u=>by
   obtain⟨r,o,hxr⟩:=vB.mp u;obtain⟨d,R,dd,_⟩:=hw.rnd r o;exact bw.mpr (R.bB g dd x hxr)
  have fl:=aT hw.nod sub;refine cc (λc=>?_) (λc=>?_)
  .have c:e∉j.flatten:=by simpa using c
   refine#[_,rfl,_,rfl,n,e,rfl,g,J,de,λr R=>#[trivial,?_]];have Xp:=hw.take g all dart Ys he c R;have rd:∀x∈r,x∈bB n:=λx u=>bw.mpr (R.bB g de x u);have rl:=aT (R.nodup g de) rd;have UH:(j.flatten++r).Nodup:=by have:=Xp.nod;rw[GQ] at this;simpa using this
   have ZV:(j.flatten++r).length<=(bB n).length:=aT UH λx u=>(eG.mp u).elim (sub x) (rd x);rw[dh] at ZV;exists _,rfl;refine bM (λk C=>∃q,C= [some (.fX n),some (.x (.tq (gy w) ((j.flatten++r.take k).map zz))),some (wb j),some (pairD e),some (.lst (r.map pairD)),q]) #[q,by rw[y8,fG];rfl] ?_ ?_
   .rintro k d _ hd ⟨q,rfl⟩ A X
    obtain⟨x,u,rfl⟩:=cH hd;have hk:=(cX.mp u).1;have tk:r.take (k+1)=r.take k++ [x]:=by rw[List.take_succ,u];rfl
    have nx:x∉j.flatten++r.take k:=λz=>by
     have sp:j.flatten++r=(j.flatten++r.take k)++(x::r.drop (k+1)):=by
      rw[qr,<-cX.mp u|>.2,List.getElem_cons_drop,mT]
     rw[sp] at UH;exact(kD.mp UH).2.2 x z x (dE ..) rfl
    refine#[_,rfl,_,rfl,zz x,rfl,by rw[aV,dh,fF];lia,?_]
    rw[K6 nx,qr,<-tk];exact X _ #[_,rfl]
   .rintro _ ⟨q,rfl⟩
    rw[aV,List.take_length]
    have dl:j.length<=300:=by
     have h:∀p:List (List (Nat×Nat)),(∀r∈p,r≠ [])->p.length<=p.flatten.length:=λp=>by
      induction p with
      |nil=>intro _;exact bu _
      |cons a l ih=>
       intro h;have h1:=Eu.mpr (h a (dE ..));have h2:=ih λr o=>h r (eM _ o);rw[qq,dh,cO];lia
     have:=h j λr o z=>by
      obtain⟨d,R,_,_⟩:=hw.rnd r o
      have:=R.first
      rw[z] at this;cases this
     lia
    exists _,rfl,_,rfl;refine lZ (λC=>∃L N,C= [L,N]) pairD (λ_=>true) (λt=>ai t.1) r _ [] _ (λt ht aG O Y Nn hY hN=>?_) #[none,none,rfl] (by rw[zg,vE];exact small (by lia)) λaG O=>?_
    .obtain⟨L,N,rfl⟩:=O
     exact#[rfl,rfl,SS #[_,rfl,hY _ #[_,_,rfl] rfl]]
    rw[vC,show r.filter (λ_=>true)=r by simp]
    refine#[trivial,c9 (by rw[aV,aV];lia),?_]
    refine X _ #[j++ [r],some (pairD e),some (.lst (r.map pairD)),q,?_,Xp]
    have e1:wb (j++ [r])= .lst ((j.map λr=>r.map (·.1)).map av++ [.lst (r.map λt=>ai t.1)]):=by
     unfold wb av;rw[f6,f6];simp only[dz,acF,eH];rfl
    rw[e1,GQ,show[r].flatten=r by simp];rfl
  .have c:e∈j.flatten:=by simpa using c
   exact X _ #[j,_,_,_,rfl,hw.skip he c]
 .rintro _ ⟨j,o3,o4,q,rfl,hw⟩
  have hw:Wk n v v.length j:=by rw[aV] at hw;exact hw
  have fin:=hw.fin g all;have R:bI n j:=#[hw.rnd,fin]
  have dl:j.length<=300:=by
   have h:∀p:List (List (Nat×Nat)),(∀r∈p,r≠ [])->p.length<=p.flatten.length:=λp=>by
    induction p with
    |nil=>intro _;exact bu _
    |cons a l ih=>
     intro h;have h1:=Eu.mpr (h a (dE ..));have h2:=ih λr o=>h r (eM _ o);rw[qq,dh,cO];lia
   have:=h j λr o z=>by
    obtain⟨d,R,_,_⟩:=hw.rnd r o
    have:=R.first
    rw[z] at this;cases this
   have:=fin.length_eq
   lia
  refine#[_,rfl,j.map (λr=>r.map (·.1)),rfl,by rw[aV];lia,λM G S=>?_]
  obtain⟨p,p',rfl⟩:=L2.jz (λr:List (Nat×Nat)=>r.map (·.1)) M j G;have R':=R.N8 p';have e:=AO g R' S
  have:=q2 n2 p R' e
  rw[e] at this;exact this
variable {P:Program} {w:World} {mg:Str->Option Value} {base:Heap} {Z:DC} (T:Txt Z mg)
def PD(b:DN)(e:a=b)(h:nu t u E b):nu t u E a:=by rw[e];exact h
def JL(h:p<n):nP n (p:Int)=some p:=by
 unfold nP;rw[tz (by lia),tz (by lia)]
 exact KB some (by lia)
variable {P:Program} {w:World} {mg:Str->Option Value} {base:Heap} {Z:DC} (T:Txt Z mg)
def LG:dA:=λa P=>∃(b:List Int)(k:Nat),a= [.qT b,ai k]/\∀v:Int,P (.int v)
def iP:FnOk P w Z.K mg base cz 1 T.d__law_cell_at.f T.d__law_cell_at.fd ["_law_script","_law_k"] (aU Z LG):=by
 have g:=lJ.nd;refine bp T.d__law_cell_at.F lJ [0,0] (by decide) (λa R h=>by obtain⟨_,_,rfl,_⟩:=h;rfl) (λi A outer s H E a R b h=>?_)
 have j:=b.units
 refine#[_,(ah (bL (bo yh (aa 1) (aK bF rfl T.B.len bE (ae (aa 0) ag)) (bD _)) (aq (aN (bV (aa 0) (aa 1)))) aW)
   (aq (aN ax))),?_]
 obtain⟨c,k,rfl,q⟩:=h;exists _,rfl,_,rfl;refine#[_,rfl,cc (λe=>?_) (λe=>?_)]
 .have d:k<c.length:=by
   have:=Pi e
   lia
  exact#[_,rfl,_,rfl,_,EK (dD d),q _]
 .exact q 0
def OV:dA:=λa P=>∃(c:Int),a= [.int c]/\∀v:Int,P (.int v)
def nY:FnOk P w Z.K mg base cz 1 T.d__law_drawn.f T.d__law_drawn.fd ["_law_cell"] (aU Z OV):=by
 have a:=oi.nd;refine bp T.d__law_drawn.F oi [0,0] (by decide) (λd R h=>by obtain⟨_,rfl,_⟩:=h;rfl) (λg A outer s H E d R e h=>?_)
 have b:=e.units
 refine#[_,(ah (bL (DW.dt (nE (bo (kM b) (aa 0) ax (bD _)) (v8 (DW.dt (B2 (bo (kM b) (aI dM (aa 0) ax) ax (bD _)) (xk (bo UK (aa 0) (aI JU ax ax) (bD _)))))))) (aq (aN (aI fC (aa 0) ax))) aW)
   (ah (bb false 1 a (aI dM (aI cg (aI Dx (aI dM (aa 0) ax) ax) ax) ax))
   (ah (bb false 1 a (aI dM (aI cg (aI Dx (aa 1) (aa 1)) ax) ax))
   (aq (aN (aI fC (aI JU (aI cg (aa 1) ax) ax) ax)))))),?_]
 obtain⟨c,rfl,q⟩:=h;have i:=jY (c%2147483629*48271+7919) 2147483647 (by decide)
 have j:=jY ((c%2147483629*48271+7919)%2147483647*((c%2147483629*48271+7919)%2147483647)+104729) 2147483629 (by decide)
 have fin:∀v:Int,R (.int v):=q;refine#[_,rfl,Hr #[_,rfl,cc (λ_=>cG #[_,rfl,#[by decide,by decide],q _]) (λ_=>?_)]]
 refine#[_,rfl,(by show(0:Int)<2;decide),Hr #[_,rfl,cc (λ_=>#[_,rfl,#[by decide,by decide,by decide],_,rfl,cc (λ_=>#[_,rfl,#[by decide,by decide],q _]) (λ_=>?_)]) (λ_=>aZ ?_)]]
 .refine#[_,rfl,(by show(0:Int)<2147483629;decide), .inr #[by decide,by decide],(by show(0:Int)<2147483647;decide),trivial,?_]
  refine#[_,rfl,_,rfl, .inl #[by dsimp only;lia,by dsimp only;lia],(by show(0:Int)<2147483629;decide),trivial,?_]
  exact#[_,rfl,#[by decide,by decide,by dsimp only;lia],#[by decide,by decide],q _]
 .refine#[_,rfl,(by show(0:Int)<2147483629;decide), .inr #[by decide,by decide],(by show(0:Int)<2147483647;decide),trivial,?_]
  refine#[_,rfl,_,rfl, .inl #[by dsimp only;lia,by dsimp only;lia],(by show(0:Int)<2147483629;decide),trivial,?_]
  exact#[_,rfl,#[by decide,by decide,by dsimp only;lia],#[by decide,by decide],q _]
theorem FA:∀(a:List D)(c:DN)(b:List D)(N:List D->Prop),b.length+a.length<=sizeLine->N (b++ak a.length (.lst []))->NN (rS i) (Sm fJ) a c b N
 | [],c,b,N,_,h=>by
  show N b;simpa using h
 |x::d,c,b,N,e,h=>by
  rw[cO] at e;refine#[by show 0<=sizeLine;decide,by lia,?_]
  refine FA d _ (b++ [.lst []]) N (by simp;lia) ?_
  rw[qr];exact h
def O1:dA:=λa P=>∃(n:Nat)(m:Int),a= [ai n, .int m]/\1<=n/\n<=14/\∀w,Good w->w.length=n->P (aO w)
def pO:FnOk P w Z.K mg base cz 1 T.d__law_tied_turns.f T.d__law_tied_turns.fd ["_law_many","_law_number"] (aU Z O1):=by
 have C:=jm.nd;refine bp T.d__law_tied_turns.F jm [0,0,2,0,0,0,0] (by decide) (λds R h=>by obtain⟨_,_,rfl,_⟩:=h;rfl) (λaX A outer s H E ds R hr h=>?_)
 have hu:=hr.units
 refine#[_,(ah (Hm 2 (NC:= ["_law_k"]) (src:= [none]) rfl C (qv (ao eX)) trivial (w6 rfl T.B.range (ae (aa 0) ag)) (λ_ _ _=>(bX 0 (show(["_law_k"]:List Str).Nodup from by decide+kernel))) (λ_ _ _=>(iU ag)))
   (ah (bb false 3 C (aI cg ax (aI dM (aa 1) ax)))
   (ah (bb false 1 C (aI fC (aa 1) ax))
   (ah (rT rfl GE (xf rfl T.B.range (ae ax (ae (aa 0) ag))) (aH 4 C) (ah (bb false 5 C (aI dM (aa 1) (aa 4)))
   (ah (bb false 1 C (aI fC (aa 1) (aa 4)))
   (aq (rT rfl GE (w9 rfl T.B.range (ae (aa 4) ag)) (aH 6 C) (ah (bL (DW.dt (nE (bo (kM hu) (aa 6) (aa 5) (bD _)) (v8 (bo (kM hu) (aI dM (aa 1) (aa 3)) ax (bD _))))) (ah (E3 false 2 (aa 6) (aI dM (aI fC (aa 1) (aa 3)) (aI cg (aK bF rfl T.B.len bE (ae (bV (aa 2) (aa 6)) ag)) ax)) (aa 4))
   (aq (E3 false 2 (aa 4) ax (aa 6)))) aW)
   (aq (bb true 1 C (aI fC (aI fC (aa 1) (aa 3)) (aI cg (aK bF rfl T.B.len bE (ae (bV (aa 2) (aa 6)) ag)) ax))))))))))
   (aq (aN (aa 2))))))),?_]
 obtain⟨n,m,rfl,h1,h8,q⟩:=h;refine#[_,rfl,#[by show-(2^62)<=(n:Int);lia,by show(n:Int)<2^62;lia],?_]
 have lr:(dN 0 n).length=n:=by unfold dN;simp
 refine FA _ _ [] _ (by show 0+(dN 0 n).length<=_;rw[lr];exact small (by lia)) ?_
 have e0:D.lst ([]++ak (dN 0 ((n:Int)).toNat).length (.lst []))=aO (ak n []):=by
  unfold aO;rw[show((n:Int)).toNat=n by lia,lr,abL];rfl
 rw[e0];have tk:=jY m 4 (by decide)
 refine#[_,rfl,(by show(0:Int)<4;decide),trivial,?_]
 refine#[_,rfl,#[by decide,by decide],trivial,?_]
 refine#[_,rfl,#[by decide,by decide,by show-(2^62)<=(n:Int);lia,by show(n:Int)<2^62;lia],?_]
 rw[show((n:Int)-1).toNat=n-1 by lia]
 generalize hth:1+m%4=r;have Q:0<r/\r<1073741824:=by lia
 refine xu (λj S=>∃(x:Int)(v:W)(U X t:Option D),S= [some (ai n),some (.int x),some (aO (v++ak (n-j-1) [])),some (.int r),U,X,t]/\Good v/\v.length=j+1) ?_ ?_ ?_
 .refine#[m / 4,[[]],none,none,none,?_,KR,rfl]
  have:ak n ([]:List Nat)= [[]]++ak (n-0-1) []:=by
   obtain⟨k,rfl⟩:∃k,n=k+1:=#[n-1,by lia]
   rfl
  rw[this];rfl
 .rintro j _ hj ⟨x,v,U,X,t,rfl,Y,lv⟩ A hA
  have Ul:(0:Int)<1+(j:Int):=by lia
  have fi:=jY x (1+(j:Int)) Ul;exists _,rfl,_,rfl,Ul,trivial;refine#[_,rfl,_,rfl,#[Ul,by show 1+(j:Int)<1073741824;lia],trivial,?_]
  refine#[_,rfl,#[by show-(2^62)<=1+(j:Int);lia,by show 1+(j:Int)<2^62;lia],?_]
  rw[show((1:Int)+(j:Int)).toNat=j+1 by lia]
  obtain⟨fs,WY⟩:∃fs,fs=x%(1+(j:Int)):=#[_,rfl];rw[<-WY] at fi;refine AJ (λo S=>∃(y:Int)(u:W)(t:Option D)(k:Nat),S= [some (ai n),some (.int y),some (aO (u++ak k [])),some (.int r),some (.int (1+(j:Int))),some (.int fs),t]/\Good u/\u.length+k=n/\((u.length=j+1/\¬fs<o)\/(u.length=j+2/\∀a∈row u (j+1),a<o))) ?_ ?_ ?_
  .exact#[x / (1+(j:Int)),v,t,n-j-1,by rw[WY];rfl,Y,by lia, .inl #[lv,by lia]]
  .rintro o _ ho ⟨y,u,t,k,rfl,G,M,N⟩ A' Cf
   have lo:o<u.length:=by lia
   have rl:∀x,(row u x).length<=14:=λx=>by have:=fg G x;lia
   have fin:∀(g:c7)(b:W)(d:Nat),g.nx=A'->Good b->b.length+d=n->((b.length=j+1/\¬fs<((o+1:Nat):Int))\/(b.length=j+2/\∀a∈row b (j+1),a<o+1))->
     dSet [0,0,2,0,0,0,0] true 1 (kH u4 (kH u4 (gb 1) (gb 3)) (kH wQ (kG jQ (wR (kH Ku (gb 2) (gb 6)) fJ)) (dC (D.int 1)))) g [some (ai n),some (.int y),some (aO (b++ak d [])),some (.int r),some (.int (1+(j:Int))),some (.int fs),some (ai o)]:=by
    intro g b d L O UG fb;have lo':o<b.length:=by lia
    have rl':(row b o).length<=14:=by have:=fg O o;lia
    have e1:iJ ((b++ak d []).map av) ((o:Nat):Int)=some (av (row b o)):=by
     have:=fQ (j7 (w:=b++ak d []) (p:=o) (by rw[dh];lia))
     rw[cM lo'] at this;exact this
    exists _,rfl,_,rfl,Q,_,rfl,_,rfl,_,e1;dsimp only[fJ,jQ,av];refine#[#[by show(0:Int)<(((row b o).map ai).length:Int)+1;lia,by show(((row b o).map ai).length:Int)+1<1073741824;rw[aV];lia],rfl,?_]
    rw[L];exact Cf _ #[_,b,_,d,rfl,O,UG,fb]
   have l1:(u++ak k ([]:List Nat)).length=n:=by rw[dh,qp];exact M
   have lm:∀v:W,(v.map av).length=v.length:=λv=>aV _
   have put:∀(g:c7),g.nx=A'->nu (Hi [0,0,2,0,0,0,0] false 2 (gb 6) (kH Sd (kH u4 (gb 1) (gb 3)) (kH wQ (kG jQ (wR (kH Ku (gb 2) (gb 6)) fJ)) (dC (D.int 1)))) (gb 4)) (Hi [0,0,2,0,0,0,0] false 2 (gb 4) (dC (D.int 0)) (gb 6))
     {g with nx:=dSet [0,0,2,0,0,0,0] true 1 (kH u4 (kH u4 (gb 1) (gb 3)) (kH wQ (kG jQ (wR (kH Ku (gb 2) (gb 6)) fJ)) (dC (D.int 1)))) g} [some (ai n),some (.int y),some (aO (u++ak k [])),some (.int r),some (.int (1+(j:Int))),some (.int fs),some (ai o)]:=by
    intro g L
    have e1:iJ ((u++ak k []).map av) ((o:Nat):Int)=some (av (row u o)):=by
     have:=fQ (j7 (w:=u++ak k []) (p:=o) (by lia))
     rw[cM lo] at this;exact this
    have e2:((u++ak k []).map av)[o]? =some (.lst ((row u o).map ai)):=by
     have:=j7 (w:=u++ak k []) (p:=o) (by lia)
     rw[cM lo] at this;exact this
    refine#[_,rfl,_,rfl,_,o,_,rfl,by rw[lm,l1];exact iN (by lia),e2,_,rfl,_,rfl,Q,_,rfl,_,rfl,_,e1,?_]
    dsimp only[fJ,jQ,av];have rlo:=rl o;have lq:(((row u o).map ai).length:Int)=((row u o).length:Int):=by rw[aV]
    have mq:=jY (y / r) (((row u o).length:Int)+1) (by lia)
    refine#[by show(0:Int)<(((row u o).map ai).length:Int)+1;lia,_,rfl,_,rfl,trivial,#[?_,?_,c9 (by rw[aV];lia)],?_]
    .rw[lq];exact mq.1
    .rw[lq];show y / r%(((row u o).length:Int)+1)<=_;lia
    generalize (((λi j=>i%j) (y / r) (((row u o).map ai).length+1:Int)).toNat)=l;have l2:((u++ak k ([]:List Nat)).set o (ins (row u o) l (j+1))).length=n:=by rw[iA,l1]
    have es:((u++ak k []).map av).set o (.lst (ins ((row u o).map ai) l (.int (1+(j:Int)))))=((u++ak k []).set o (ins (row u o) l (j+1))).map av:=by
     rw[<-lK]
     congr 1
     unfold av;rw[<-uk];unfold ai;rw[show((j+1:Nat):Int)=1+(j:Int) by lia]
    have er:row ((u++ak k []).set o (ins (row u o) l (j+1))) (j+1)=row (u++ak k []) (j+1):=by
     rw[tE (by lia),mo (by lia)]
    have rlj:(row (u++ak k []) (j+1)).length<=14:=by
     by_cases c:j+1<u.length
     .rw[cM c];exact rl _
     .rw[jI (by lia)];exact cZ _
    refine#[((u++ak k []).set o (ins (row u o) l (j+1))).map av,by rw[<-es];rfl,_,rfl,1+(j:Int),j+1,(row (u++ak k []) (j+1)).map ai,rfl,?_,?_,0,rfl,_,rfl,trivial,#[by decide,by lia,c9 (by rw[aV];lia)],?_]
    .rw[lm,l2,show 1+(j:Int)=((j+1:Nat):Int) by lia];exact iN (by lia)
    .have:=j7 (w:=(u++ak k []).set o (ins (row u o) l (j+1))) (p:=j+1) (by lia)
     rw[er] at this;exact this
    have e3:D.lst ((((u++ak k []).set o (ins (row u o) l (j+1))).map av).set (j+1) (.lst (ins ((row (u++ak k []) (j+1)).map ai) (0:Int).toNat (ai o))))=aO (tie (u++ak k []) o l (j+1) 0):=by
     have e5:=lK ((u++ak k []).set o (ins (row u o) l (j+1))) (j+1) (ins (row (u++ak k []) (j+1)) 0 o)
     have e4:av (ins (row (u++ak k []) (j+1)) 0 o)= .lst (ins ((row (u++ak k []) (j+1)).map ai) 0 (ai o)):=by
      unfold av;rw[<-uk]
     rw[e4] at e5;unfold tie aO;rw[cM lo,<-e5];rfl
    obtain⟨b,d,eT,O,UG,fb⟩:∃b d,tie (u++ak k []) o l (j+1) 0=b++ak d []/\Good b/\b.length+d=n/\((b.length=j+1/\¬fs<((o+1:Nat):Int))\/(b.length=j+2/\∀a∈row b (j+1),a<o+1)):=by
     rcases N with ⟨h,hf⟩ | ⟨h,I⟩
     .obtain⟨d,rfl⟩:∃d,k=d+1:=#[k-1,by lia]
      refine#[leaf u o l,d,?_,HA G lo,by rw[fT];lia, .inr #[by rw[fT];lia,λa I=>?_]]
      .have:=LR (k:=d) (q:=l) lo
       rw[h] at this;exact this
      .rw[lH lo,tz h.symm] at I
       have:a=o:=by simpa using I
       lia
     .have nt:j+1∉row u o:=λz=>absurd (I o (G.sym _ _ z)) (gq _)
      refine#[tie u o l (j+1) 0,k,Pd lo (by lia),KU G lo (by lia) (by lia) nt,by rw[fL];exact M, .inr #[by rw[fL];exact h,λa J=>?_]]
      rw[n0 lo (by lia),tz rfl,ck] at J
      rcases J with J|J
      .lia
      .have:=I a J;lia
    have:=fin g b d L O UG fb
    rw[<-eT,<-e3] at this;exact this
   have skp:∀(g:c7),g.nx=A'->¬(o:Int)=fs->dSet [0,0,2,0,0,0,0] true 1 (kH u4 (kH u4 (gb 1) (gb 3)) (kH wQ (kG jQ (wR (kH Ku (gb 2) (gb 6)) fJ)) (dC (D.int 1)))) g [some (ai n),some (.int y),some (aO (u++ak k [])),some (.int r),some (.int (1+(j:Int))),some (.int fs),some (ai o)]:=λg L ne=>
    fin g u k L G M (by
     rcases N with ⟨h,hf⟩ | ⟨h,I⟩
     .exact .inl #[h,by lia]
     .exact .inr #[h,λa J=>by have:=I a J;lia])
   refine#[_,rfl,_,rfl,wU #[_,rfl,cc (λ_=>cG (put _ rfl)) (λe=>?_)]];have ne:¬(o:Int)=fs:=SZ e;exact#[_,rfl,_,rfl,Q.1,Hr #[_,rfl,cc (λ_=>put _ rfl) (λ_=>skp _ rfl ne)]]
  .rintro _ ⟨y,u,t,k,rfl,G,M,N⟩
   have:u.length=j+2:=by
    rcases N with h|h
    .exact absurd (show fs<((j+1:Nat):Int) by lia) h.2
    .exact h.1
   refine hA _ #[y,u,some (.int (1+(j:Int))),some (.int fs),t,?_,G,by lia]
   rw[show n-(j+1)-1=k by lia]
 .rintro _ ⟨x,v,U,X,t,rfl,Y,lv⟩
  exists _,rfl;rw[show n-(n-1)-1=0 by lia,List.replicate_zero,fG]
  exact q v Y (by lia)
variable {P:Program} {w:World} {mg:Str->Option Value} {base:Heap} {Z:DC} (T:Txt Z mg)
def OY:dA:=λa P=>∃(n:Int),a= [.int n, .int 3]/\∀w R,dP w R->w.length<=14->P (.tup [aO w,av R])
def yn:FnOk P w Z.K mg base cz 1 T.d__law_grown.f T.d__law_grown.fd ["_law_number","_law_least"] (aU Z OY):=by
 have t:=oj.nd;refine bp T.d__law_grown.F oj [0,0,1,0,0,0,0,0,0,0] (by decide) (λds R h=>by obtain⟨_,rfl,_⟩:=h;rfl) (λaX A outer s H E ds R hr h=>?_)
 have hu:=hr.units
 refine#[_,(ah (ju 2 t (iU (ae (bW (ae ax (ae ax ag))) (ae (bW (ae ax (ae ax ag))) (ae (bW (ae ax (ae ax ag))) ag)))))
   (ah (bb false 3 t (bW (ae ax (ae ax (ae ax ag)))))
   (ah (bb false 4 t (aI cg (aa 1) (aI dM (aa 0) (aI sV ax (aa 1)))))
   (ah (bb false 0 t (aI fC (aa 0) (aI sV ax (aa 1))))
   (ah (rT rfl GE (xf rfl T.B.range (ae ax (ae (aa 4) ag))) (aH 5 t) (ah (bb false 6 t (aI dM (aa 0) (aK bF rfl T.B.len bE (ae (aa 3) ag))))
   (ah (bb false 7 t (aI cg ax (aI dM (aI fC (aa 0) (aK bF rfl T.B.len bE (ae (aa 3) ag))) (aI sV (aK bF rfl T.B.len bE (ae (aa 3) ag)) ax))))
   (ah (bb false 0 t (aI fC (aa 0) (aI Dx (aK bF rfl T.B.len bE (ae (aa 3) ag)) (aI sV (aK bF rfl T.B.len bE (ae (aa 3) ag)) ax))))
   (ah (bb false 3 t (aI cg (gJ (aa 3) (i3 (aa 6)) iZ) (gJ (aa 3) iZ (i3 (aa 6)))))
   (ah (bb false 8 t (gJ (aa 3) iZ (i3 (aI cg (aa 7) ax))))
   (ah (o9 false 2 (E1 rfl rfl T.B.list rfl T.B.reversed (ae (aa 8) ag)))
   (ah (qz 2 (bV (aa 8) ax) (Jy (bW (ae (aa 5) ag)) (bV (aa 2) (bV (aa 8) ax))))
   (ah (cK rfl GE (bK (gJ (aa 8) (i3 ax) iZ)) (aH 9 t) (aq (qz 2 (aa 9) (Jy (bV (aa 2) (aa 9)) (bW (ae (aa 5) ag))))))
   (aq (bb false 3 t (aI cg (bW (ae (bV (aa 8) ax) (ae (aa 5) ag))) (gJ (aa 3) (i3 (aa 7)) iZ)))))))))))))
   (aq (aN (cD (ae (aa 2) (ae (aa 3) ag)))))))))),?_]
 obtain⟨n,rfl,q⟩:=h;refine#[by show 2<=sizeLine;decide,by show 2<=sizeLine;decide,by show 2<=sizeLine;decide,by show 3<=sizeLine;decide,?_]
 refine#[by show 3<=sizeLine;decide,trivial,?_]
 refine#[_,rfl,_,rfl,_,rfl,(by show(0:Int)<12;decide),trivial,?_]
 refine#[_,rfl,_,rfl,#[by decide,by decide],trivial,?_]
 refine(?_:nu _ _ _ [some (.int (n / 12)),some (.int 3),some (aO [[1,2],[2,0],[0,1]]),some (av [0,1,2]),some (.int (3+n%12)),none,none,none,none,none]);have m12:=jY n 12 (by decide)
 refine#[_,rfl,#[by decide,by decide,by show-(2^62)<=3+n%12;lia,by show 3+n%12<2^62;lia],?_]
 rw[show(3+n%12-3).toNat=(n%12).toNat by lia]
 refine xu (λj L=>∃(x:Int)(w:W)(R:List Nat)(N O Q G u:Option D),L= [some (.int x),some (.int 3),some (aO w),some (av R),some (.int (3+n%12)),N,O,Q,G,u]/\dP w R/\w.length=3+j) ?_ ?_ ?_
 .exact#[_,[[1,2],[2,0],[0,1]],[0,1,2],_,_,_,_,_,rfl,Ce,rfl]
 .rintro j _ hj ⟨x,o,m,N,O,Q,G,u,rfl,I,hl⟩ A hA
  have h3:=I.len;have aah:=I.Yk;have z:(m.map ai).length=m.length:=aV _;have J:(0:Int)<((m.map ai).length:Int):=by rw[z];lia
  have S:(0:Int)<((m.map ai).length:Int)-1:=by rw[z];lia
  have e2:((m.map ai).length:Int)<=14:=by rw[z];lia
  exists _,rfl,_,rfl,J,trivial;refine#[_,rfl,_,rfl,#[J,by lia],_,rfl,S,trivial,?_]
  have m1:=jY x ((m.map ai).length:Int) J;have m2:=jY (x / ((m.map ai).length:Int)) (((m.map ai).length:Int)-1) S;generalize WK:x%((m.map ai).length:Int)=at_ at m1;generalize WX:x / ((m.map ai).length:Int)%(((m.map ai).length:Int)-1)=fr at m2;obtain⟨a,rfl⟩:∃a:Nat,at_=(a:Int):=#[at_.toNat,by lia]
  obtain⟨c,rfl⟩:∃f:Nat,fr=(f:Int):=#[fr.toNat,by lia]
  rw[z] at m1 m2;have p1:(0:Int)<((m.map ai).length:Int)*(((m.map ai).length:Int)-1):=Int.mul_pos J S;have p2:((m.map ai).length:Int)*(((m.map ai).length:Int)-1)<=14*13:=Int.mul_le_mul e2 (by lia) (by lia) (by decide)
  refine#[_,rfl,_,rfl,_,rfl, .inl #[by lia,by lia],#[p1,(show((m.map ai).length:Int)*(((m.map ai).length:Int)-1)<1073741824 by lia)],trivial,?_]
  clear p1 p2;refine(?_:nu _ _ _ [some (.int (x / (((m.map ai).length:Int)*(((m.map ai).length:Int)-1)))),some (.int 3),some (aO o),some (av m),some (.int (3+n%12)),some (.int (3+(j:Int))),some (.int (x%((m.map ai).length:Int))),some (.int (1+x / ((m.map ai).length:Int)%(((m.map ai).length:Int)-1))),G,u]);rw[WK,WX];generalize x / (((m.map ai).length:Int)*(((m.map ai).length:Int)-1))=C;have U:cutD (m.map ai) (some (a:Int)) none=(m.drop a).map ai:=by rw[lO _ _ (by rw[z];lia),uV]
  have X:cutD (m.map ai) none (some (a:Int))=(m.take a).map ai:=by rw[lP _ _ (by rw[z];lia),uU]
  have v:dP o (m.drop a++m.take a):=by
   have:=I
   rw[<-mT a m] at this;exact this.rot
  have XB:(m.drop a++m.take a).length=m.length:=by rw[dh,oW,fF];lia
  have Am:(cutD (m.map ai) (some (a:Int)) none).length+(cutD (m.map ai) none (some (a:Int))).length<=sizeLine:=by
   rw[U,X,aV,aV];exact small (by rw[dh] at XB;lia)
  have er:(.lst (cutD (m.map ai) (some (a:Int)) none++cutD (m.map ai) none (some (a:Int))):D)=av (m.drop a++m.take a):=by rw[U,X];unfold av;rw[f6]
  exists _,rfl,_,rfl,_,rfl,_,rfl,Am,trivial;refine(?_:nu _ _ _ [some (.int C),some (.int 3),some (aO o),some (.lst (cutD (m.map ai) (some (a:Int)) none++cutD (m.map ai) none (some (a:Int)))),some (.int (3+n%12)),some (.int (3+(j:Int))),some (.int (a:Int)),some (.int (1+(c:Int))),G,u]);rw[er];clear er U X Am;generalize m.drop a++m.take a=b at v XB;have l1:(b.map ai).length=b.length:=aV _
  have ct:cutD (b.map ai) none (some ((1:Int)+(c:Int)+1))=(b.take (c+1+1)).map ai:=by
   rw[show(1:Int)+(c:Int)+1=((c+1+1:Nat):Int) by lia,lP _ _ (by rw[l1];lia),uU]
  exists _,rfl,_,rfl,trivial;refine(?_:nu _ _ _ [some (.int C),some (.int 3),some (aO o),some (av b),some (.int (3+n%12)),some (.int (3+(j:Int))),some (.int (a:Int)),some (.int (1+(c:Int))),some (.lst (cutD (b.map ai) none (some ((1:Int)+(c:Int)+1)))),u]);rw[ct];have Ld:(b.take (c+1+1)).length=c+2:=by rw[fF];lia
  have la:((b.take (c+1+1)).map ai).length=c+2:=by rw[aV];exact Ld
  have lw:(o.map av).length=3+j:=by rw[aV];exact hl
  refine#[_,rfl,_,rfl,trivial,c9 (by rw[lw];lia),?_]
  have ea:(.lst (o.map av++ [.lst ((b.take (c+1+1)).map ai).reverse]):D)=aO (o++ [(b.take (c+1+1)).reverse]):=by
   unfold aO av;rw[f6,<-List.map_reverse];rfl
  refine(?_:nu _ _ _ [some (.int C),some (.int 3),some (.lst (o.map av++ [.lst ((b.take (c+1+1)).map ai).reverse])),some (av b),some (.int (3+n%12)),some (.int (3+(j:Int))),some (.int (a:Int)),some (.int (1+(c:Int))),some (av (b.take (c+1+1))),u]);rw[ea];clear ea;have X9:b.getD 0 0<o.length:=v.U7 (dR (by lia))
  have g0:(b.take (c+1+1)).getD 0 0=b.getD 0 0:=by rw[bG,zb (by lia),<-bG]
  have Y:iJ ((b.take (c+1+1)).map ai) (0:Int)=some (ai (b.getD 0 0)):=by
   have:=nU (ns:=b.take (c+1+1)) (p:=0) (by lia)
   rw[g0] at this;exact this
  have lw1:(o++ [(b.take (c+1+1)).reverse]).length=o.length+1:=by simp
  have a1:=tw (w:=o++ [(b.take (c+1+1)).reverse]) (p:=b.getD 0 0) (by lia)
  rw[yC,mo (by lia)] at a1
  have rl0:=fg v.g (b.getD 0 0);have ev:(3:Int)+(j:Int)=((o.length:Nat):Int):=by lia
  refine#[_,rfl,by show 1<=sizeLine;decide,_,rfl,_,rfl,_,rfl,_,Y,_,a1,_,rfl,small (by rw[aV];show 1+_<=1000;lia),?_,_,rfl,_,rfl,_,Y,_,b.getD 0 0,rfl,iN (by rw[aV];lia),?_]
  .rw[List.all_append,gK];rfl
  have M0:=Bt.start (w:=o) (R:=b) (f:=c+1) X9
  have es:(.lst (((o++ [(b.take (c+1+1)).reverse]).map av).set (b.getD 0 0) (.lst ([.int ((3:Int)+(j:Int))]++(row o (b.getD 0 0)).map ai))):D)=aO ((o++ [(b.take (c+1+1)).reverse]).set (b.getD 0 0) (o.length::row o (b.getD 0 0))):=by
   rw[ev];unfold aO;rw[<-lK];rfl
  refine(?_:nu _ _ _ [some (.int C),some (.int 3),some (.lst (((o++ [(b.take (c+1+1)).reverse]).map av).set (b.getD 0 0) (.lst ([.int ((3:Int)+(j:Int))]++(row o (b.getD 0 0)).map ai)))),some (av b),some (.int (3+n%12)),some (.int (3+(j:Int))),some (.int (a:Int)),some (.int (1+(c:Int))),some (av (b.take (c+1+1))),u]);rw[es];clear es a1
  have cd:cutD ((b.take (c+1+1)).map ai) (some (1:Int)) none=((b.take (c+1+1)).drop 1).map ai:=by
   have:=lO ((b.take (c+1+1)).map ai) 1 (by rw[la];lia)
   rw[uV];exact this
  have ld:((b.take (c+1+1)).drop 1).length=c+1:=by rw[oW,Ld];lia
  exists _,rfl;refine(?_:nI _ _ _ (cutD ((b.take (c+1+1)).map ai) (some (1:Int)) none) _);rw[cd];refine bM (λk L=>∃(r:W)(u:Option D),L= [some (.int C),some (.int 3),some (aO r),some (av b),some (.int (3+n%12)),some (.int (3+(j:Int))),some (.int (a:Int)),some (.int (1+(c:Int))),some (av (b.take (c+1+1))),u]/\Bt o r b (c+1) k) #[_,_,rfl,M0] ?_ ?_
  .rintro k d _ hd ⟨r,p8,rfl,M⟩ A' Cf
   obtain⟨y,hy,rfl⟩:=cH hd
   have hk:k<c+1:=by
    have:=(cX.mp hy).1
    lia
   have ey:y=b.getD (k+1) 0:=by
    rw[ze,zb (by lia)] at hy
    rw[bG,acG k 1,hy];rfl
   subst ey;have ylt:b.getD (k+1) 0<o.length:=v.U7 (dR (by lia))
   have l2:=M.l;have a2:=tw (w:=r) (p:=b.getD (k+1) 0) (by lia)
   have rl:(row r (b.getD (k+1) 0)).length<=14:=by
    rw[M.ro _ (by lia) (λi hi e=>by have:=getD_inj v.nd (by lia) (by lia) e;lia)]
    have:=fg v.g (b.getD (k+1) 0)
    lia
   refine#[_,rfl,_,rfl,_,a2,_,rfl,_,rfl,by show 1<=sizeLine;decide,_,rfl,small (by rw[aV];show _+1<=1000;lia),?_,_,rfl,_,rfl,_,b.getD (k+1) 0,rfl,iN (by rw[aV];lia),?_]
   .rw[List.all_append,gK];rfl
   refine Cf _ #[r.set (b.getD (k+1) 0) (row r (b.getD (k+1) 0)++ [o.length]),some (ai (b.getD (k+1) 0)),?_,M.step v.nd (by lia) (by lia) ylt]
   have ZO:(.lst ((r.map av).set (b.getD (k+1) 0) (.lst ((row r (b.getD (k+1) 0)).map ai++ [.int ((3:Int)+(j:Int))]))):D)=aO (r.set (b.getD (k+1) 0) (row r (b.getD (k+1) 0)++ [o.length])):=by
    rw[ev];unfold aO;rw[<-lK];unfold av;rw[f6];rfl
   rw[<-ZO];rfl
  .rintro _ ⟨r,p8,rfl,M⟩
   rw[aV,ld] at M;have St:=M.fin (by lia) (by lia)
   have G2:=Gm v St
   have cf:cutD (b.map ai) (some ((1:Int)+(c:Int))) none=(b.drop (c+1)).map ai:=by
    rw[show(1:Int)+(c:Int)=((c+1:Nat):Int) by lia,lO _ _ (by rw[l1];lia),uV]
   have szf:(2:Nat)+(cutD (b.map ai) (some ((1:Int)+(c:Int))) none).length<=sizeLine:=by
    rw[cf,aV,oW];exact small (by lia)
   refine#[_,rfl,_,Y,_,rfl,by show 2<=sizeLine;decide,_,rfl,_,rfl,szf,trivial,?_]
   refine hA _ #[C,r,bY b (c+1) o.length,some (.int (3+(j:Int))),some (.int (a:Int)),some (.int (1+(c:Int))),some (av (b.take (c+1+1))),p8,?_,G2,by rw[M.l];lia]
   have ef:(.lst ([ai (b.getD 0 0), .int ((3:Int)+(j:Int))]++cutD (b.map ai) (some ((1:Int)+(c:Int))) none):D)=av (bY b (c+1) o.length):=by
    rw[cf,ev];unfold bY av;rfl
   rw[<-ef];rfl
 .rintro _ ⟨x,o,m,N,O,Q,G,u,rfl,I,hl⟩
  exact#[_,rfl,_,rfl,by show 2<=sizeLine;decide,q _ _ I (by lia)]
variable {P:Program} {w:World} {mg:Str->Option Value} {base:Heap} {Z:DC} (T:Txt Z mg)
structure Kk (w F:W) (ns:List Nat) (k:Nat):Prop where
 l:F.length=w.length
 r:∀i,i<k->∃a b,row w i=a++b/\row F (ns.getD i 0)=(b++a).map λx=>ns.getD x 0
def Kk.step{w F:W}{k a:Nat}(h:Kk w F b k)(N:Bv w.length b)(d:k<w.length):Kk w (F.set (b.getD k 0) (((row w k).drop a++(row w k).take a).map λx=>b.getD x 0)) b (k+1):=by
 have lt:b.getD k 0<F.length:=by rw[h.l];exact N.2.2 _ (dR (by rw[N.1];exact d))
 refine#[by rw[iA];exact h.l,λi g=>?_]
 by_cases c:i=k
 .subst c
  exact#[(row w i).take a,(row w i).drop a,(mT _ _).symm,by rw[tD lt,tz rfl]]
 .obtain⟨x,y,e,f⟩:=h.r i (by lia)
  exact#[x,y,e,by rw[tD lt,mo (λz=>c (getD_inj N.2.1 (by rw[N.1];lia) (by rw[N.1];lia) z.symm)),f]]
def Kk.ren{w F:W}(h:Kk w F b w.length)(N:Bv w.length b):Ta w F λx=>b.getD x 0 where
 len:=h.l
 lt:=λx a=>N.2.2 _ (dR (by rw[N.1];exact a))
 inj:=λx y a c e=>getD_inj N.2.1 (by rw[N.1];exact a) (by rw[N.1];exact c) e
 onto:=λy c=>by
  obtain⟨i,d,e⟩:=kB.mp (Ib N c);exact#[i,by rw[N.1] at d;exact d,by rw[bG,dD d];exact e]
 rows:=λx a=>h.r x a
def OZ:dA:=λb P=>∃(w:W)(a:Int),b= [aO w, .int a]/\Good w/\3<=w.length/\w.length<=14/\∀F,Good F->F.length=w.length->P (aO F)
def yp:FnOk P w Z.K mg base cz 1 T.d__law_named.f T.d__law_named.fd ["_law_turns_here","_law_number"] (aU Z OZ):=by
 have e:=oq.nd;refine bp T.d__law_named.F oq [0,0,1,0,1,0,0] (by decide) (λds R h=>by obtain⟨_,_,rfl,_⟩:=h;rfl) (λaX A outer s H E ds R hr h=>?_)
 have hu:=hr.units
 refine#[_,(ah (ju 2 e (iU ag))
   (ah (rT rfl GE (w9 rfl T.B.range (ae (aK bF rfl T.B.len bE (ae (aa 0) ag)) ag)) (aH 3 e) (ah (P4 false 2 (aI dM (aa 1) (aI cg (aa 3) ax)) (aa 3))
   (aq (bb false 1 e (aI fC (aa 1) (aI cg (aa 3) ax))))))
   (ah (t9 4 (NC:= ["_law_row"]) (src:= [none]) rfl e (qv (ao gf)) trivial (bK (aa 0)) (λ_ _ _=>(bX 0 (show(["_law_row"]:List Str).Nodup from by decide+kernel))) (λ_ _ _=>e8) (λ_ _ _=>(bW ag)))
   (ah (cK rfl GE (eB rfl T.B.enumerate (ae (aa 0) ag)) (dY 2 rfl (aM (aH 3 e) (aM (aH 5 e) b7))) (ah (bb false 6 e (aI dM (aa 1) (aK (EV rfl) rfl T.B.max Jr (ae ax (ae (aK bF rfl T.B.len bE (ae (aa 5) ag)) ag)))))
   (ah (bb false 1 e (aI fC (aa 1) (aK (EV rfl) rfl T.B.max Jr (ae ax (ae (aK bF rfl T.B.len bE (ae (aa 5) ag)) ag)))))
   (aq (qz 4 (bV (aa 2) (aa 3)) (Mz (NC:= ["_law_other","_law_names"]) (src:= [none,some 2]) rfl (qv (ao gf)) #[rfl,rfl,trivial] (bK (aI cg (gJ (aa 5) (i3 (aa 6)) iZ) (gJ (aa 5) iZ (i3 (aa 6))))) (λ_ _ _=>(bX 0 (show(["_law_other","_law_names"]:List Str).Nodup from by decide+kernel))) (λ_ _ _=>e8) (λ_ _ _=>(bV (aa 1) (aa 0)))))))))
   (aq (aN (aa 4))))))),?_]
 obtain⟨c,G,rfl,g,h3,h8,q⟩:=h;have lw:(c.map av).length=c.length:=aV _;refine#[by show 0<=sizeLine;decide,?_]
 refine#[_,rfl,#[by lia,by show((c.map av).length:Int)<2^62;lia],?_]
 rw[show(((c.map av).length:Int)).toNat=c.length by lia]
 refine AJ (λj ρ=>∃(y:Int)(b:List Nat)(t v n p:Option D),ρ= [some (aO c),some (.int y),some (av b),t,v,n,p]/\Bv j b) #[G,[],_,_,_,_,rfl,rfl,iH,λx h=>by cases h] ?_ ?_
 .rintro j _ hj ⟨y,b,t,v,n,p,rfl,Q,e,lt⟩ A I
  have mq:=jY y ((j:Int)+1) (by lia)
  have m:(b.map ai).length=j:=by rw[aV,Q]
  refine#[_,rfl,_,rfl,_,rfl,by show(0:Int)<(j:Int)+1;lia,_,rfl,_,rfl,trivial,#[mq.1,by rw[m];show y%((j:Int)+1)<=_;lia,c9 (by rw[m];lia)],?_]
  refine#[_,rfl,_,rfl,#[by show(0:Int)<(j:Int)+1;lia,by show(j:Int)+1<1073741824;lia],trivial,?_]
  refine I _ #[y / ((j:Int)+1),ins b (y%((j:Int)+1)).toNat j,some (ai j),v,n,p,?_,by rw[Fs,Q],mj e (λz=>by have:=lt j z;lia),λx J=>?_]
  .unfold av;rw[<-uk];rfl
  .rcases ck.mp J with rfl|J
   .lia
   .have:=lt x J;lia
 .rintro _ ⟨y,b,t,v,n,p,rfl,N⟩
  refine#[_,rfl,jw (ρ:= [none]) av (λ_=> .lst []) c _ (λy S Y h=>#[by show 0<=sizeLine;decide,h]) rfl (small (by lia)) λaG=>?_]
  have e0:(.lst (c.map λ_=>(.lst []:D)):D)=aO (c.map λ_=> []):=by unfold aO;rw[eH];rfl
  refine(?_:nu _ _ _ [some (aO c),some (.int y),some (av b),t,some (.lst (c.map λ_=>(.lst []:D))),n,p]);rw[e0];refine#[_,rfl,bM (λk ρ=>∃(y:Int)(F:W)(t n p:Option D),ρ= [some (aO c),some (.int y),some (av b),t,some (aO F),n,p]/\Kk c F b k) #[_,_,_,_,_,rfl,by simp,λi h=>by lia] ?_ ?_]
  .rintro k d _ hd ⟨y,F,p4,p6,p7,rfl,u⟩ A I
   obtain⟨d',S,rfl⟩:=gz hd;obtain⟨r,U,rfl⟩:=cH S;have L:k<c.length:=(cX.mp U).1;have C:row c k=r:=J5 U
   have aap:0<r.length:=by
    have:=g.Rq (by lia) L
    rw[C] at this;exact Eu.mpr this
   have rl:=fg g k;rw[C] at rl;have m:(r.map ai).length=r.length:=aV _;have M:(0:Int)<((r.map ai).length:Int):=by rw[m];lia
   exists rfl,rfl;have X:(if ((r.map ai).length:Int)>1 then((r.map ai).length:Int) else 1)=((r.map ai).length:Int):=by split<;>lia
   exists _,rfl,_,rfl;dsimp only[fJ,jQ,av];exists _,_,rfl;rw[X];exists M,trivial;exists _,rfl,_,rfl;dsimp only[fJ,jQ,av];exists _,_,rfl;rw[X];refine#[#[M,by rw[m];lia],trivial,?_]
   have m1:=jY y ((r.map ai).length:Int) M;refine UJ [some (aO c),some (.int (y / ((r.map ai).length:Int))),some (av b),some (ai k),some (aO F),some (av r),some (.int (y%((r.map ai).length:Int)))] rfl ?_;generalize WK:y%((r.map ai).length:Int)=at_ at m1;obtain⟨a,rfl⟩:∃a:Nat,at_=(a:Int):=#[at_.toNat,by lia]
   rw[m] at m1;have ca:cutD (r.map ai) (some (a:Int)) none=(r.drop a).map ai:=by rw[lO _ _ (by rw[m];lia),uV]
   have cb:cutD (r.map ai) none (some (a:Int))=(r.take a).map ai:=by rw[lP _ _ (by rw[m];lia),uU]
   have l2:(r.drop a++r.take a).length=r.length:=by rw[dh,oW,fF];lia
   have Am:(cutD (r.map ai) (some (a:Int)) none).length+(cutD (r.map ai) none (some (a:Int))).length<=sizeLine:=by
    rw[ca,cb,aV,aV];exact small (by rw[dh] at l2;lia)
   exists _,rfl,_,rfl,_,rfl,_,rfl,Am;refine(?_:lcW _ _ _ (cutD (r.map ai) (some (a:Int)) none++cutD (r.map ai) none (some (a:Int))) _ _ _);rw[ca,cb,<-f6];refine jw (ρ:= [none,some (av b)]) ai (λo=>ai (b.getD o 0)) (r.drop a++r.take a) _ (λo ho Y hY=>?_) rfl (small (by lia)) λaG=>?_
   .have:o∈r:=by
     have:o∈r.take a++r.drop a:=List.perm_append_comm.mem_iff.mp ho
     rw[mT] at this;exact this
    have bZ:o<b.length:=by rw[N.1];exact g.rng k o (by rw[C];exact this)
    exact#[_,rfl,_,rfl,_,nU bZ,hY]
   .have Uh:k<b.length:=by rw[N.1];exact L
    have O:b.getD k 0<F.length:=by rw[u.l];exact N.2.2 _ (dR Uh)
    refine#[?_,_,rfl,_,rfl,_,rfl,_,nU Uh,_,b.getD k 0,rfl,iN (by rw[aV];exact O),?_]
    .rw[acO,y3];intro x _;rfl
    .have XX:=u.step (a:=a) N L
     rw[C] at XX;refine I _ #[y / ((r.map ai).length:Int),_,some (ai k),some (av r),some (.int (a:Int)),?_,XX]
     have es:(.lst ((F.map av).set (b.getD k 0) (.lst ((r.drop a++r.take a).map λo=>ai (b.getD o 0)))):D)=aO (F.set (b.getD k 0) ((r.drop a++r.take a).map λx=>b.getD x 0)):=by
      unfold aO;rw[<-lK];unfold av;rw[eH];rfl
     rw[<-es];rfl
  .rintro _ ⟨y,F,p4,p6,p7,rfl,u⟩
   rw[iM,lw] at u;have Rn:=u.ren N;exact#[_,rfl,q F (Rn.good g) u.l]
variable {P:Program} {w:World} {mg:Str->Option Value} {base:Heap} {Z:DC} (T:Txt Z mg)
structure rm (w:W) (r:List Nat):Prop where
 ne:0<r.length
 sz:r.length<=196
 lt:∀k,k<r.length->r.getD k 0<w.length
 tie:2<=w.length->∀k,k<r.length->r.getD ((k+(r.length-1))%r.length) 0∈row w (r.getD k 0)
structure Cl (w:W) (ds:List (Nat×Nat)):Prop where
 nd:ds.Nodup
 dart:∀e∈ds,ba w e
 step:∀e,ba w e->(e∈ds↔cp w e∈ds)
theorem Cl.bz{w:W}(c:Cl w a)(g:Good w)(b:ba w d):∀k,Wb.bz w k d∈a↔d∈a
 |0=>Iff.rfl
 |k+1=>(c.step _ (cL g b k)).symm.trans (c.bz g b k)
def bJ{w:W}:e∈walk w d k↔∃i,i<k/\bz w i d=e:=by
 unfold walk;rw[dO];exact#[λ#[i,a,e]=>#[i,gQ.mp a,e],λ#[i,a,e]=>#[i,gQ.mpr a,e]]
def Cl.len{w:W}(c:Cl w a)(g:Good w)(b:w.length<=14):a.length<=196:=by
 have f:=iL g;have h:w.length*w.length<=14*14:=uT b b
 have:=aT c.nd λe d=>bw.mpr (c.dart e d)
 lia
def Cl.nodup{w:W}(c:Cl w e)(g:Good w)(f:ba w d)(l:0<k->d∉e)(m:∀j,0<j->j<k->Wb.bz w j d≠d):(e++walk w d k).Nodup:=by
 rw[kD];refine#[c.nd,oQ g f m,λa h b n z=>?_];obtain⟨i,o,rfl⟩:=bJ.mp n;rw[z] at h;exact l (by lia) ((c.bz g f i).mp h)
def Cl.back{w:W}(c:Cl w a)(g:Good w)(b:ba w d)(o:0<k)(l:d∉a)(m:∀j,0<j->j<k->Wb.bz w j d≠d)(h:Wb.bz w k d∈a++walk w d k):Wb.bz w k d=d:=by
 rcases eG.mp h with h|h
 .exact absurd ((c.bz g b k).mp h) l
 .obtain⟨i,p,e⟩:=bJ.mp h
  have n:Wb.bz w i d=Wb.bz w i (Wb.bz w (k-i) d):=by rw[<-lA (k-i) i,show i+(k-i)=k by lia];exact e
  have f:=(xR g b (cL g b _) i n).symm
  by_cases z:i=0
  .subst z;exact f
  .exact absurd f (m (k-i) (by lia) (by lia))
def Cl.grow{w:W}{f:List (Nat×Nat)}(c:Cl w f)(g:Good w)(b:ba w d)(l:0<k)(n:d∉f)(o:∀j,0<j->j<k->Wb.bz w j d≠d)(e:Wb.bz w k d=d):Cl w (f++walk w d k):=by
 refine#[c.nodup g b (λ_=>n) o,λx a=>?_,λx a=>?_]
 .rcases eG.mp a with h|h
  .exact c.dart x h
  .exact mG g b x h
 .rw[eG,eG,<-c.step x a]
  refine or_congr Iff.rfl #[λh=>?_,λh=>?_]
  .obtain⟨i,p,rfl⟩:=bJ.mp h
   by_cases z:i+1=k
   .exact bJ.mpr #[0,l,by show d=Wb.bz w (i+1) d;rw[z,e]]
   .exact bJ.mpr #[i+1,by lia,rfl]
  .obtain⟨i,p,z⟩:=bJ.mp h
   cases i with
   |zero=>
    obtain⟨m,rfl⟩:∃m,k=m+1:=#[k-1,by lia]
    refine bJ.mpr #[m,by lia,yf g (cL g b m) a ?_]
    exact e.trans z
   |succ i=>exact bJ.mpr #[i,by lia,yf g (cL g b i) a z]
def uR{w:W}(h:i<k):((walk w d k).map (·.1)).getD i 0=(bz w i d).1:=by
 unfold walk;rw[eH,bG,eQ,GP h];rfl
def Fy{w:W}(g:Good w)(c:w.length<=14)(b:ba w d)(f:0<k)(h:∀j,0<j->j<k->Wb.bz w j d≠d)(e:Wb.bz w k d=d):rm w ((walk w d k).map (·.1)):=by
 have n:=iL g;have o:w.length*w.length<=14*14:=uT c c;have p:=yQ g b h;have l:((walk w d k).map (·.1)).length=k:=by rw[aV,gO]
 have st:∀i,(bz w i d).1∈row w (bz w (i+1) d).1:=λi=>g.sym _ _ (cL g b i);refine#[by lia,by lia,λi a=>?_,λ_ i a=>?_]
 .rw[l] at a
  rw[uR a];exact bx (cL g b i)
 .rw[l] at a ⊢
  rw[uR a,uR (tY _ f)];cases i with
  |zero=>
   obtain⟨m,rfl⟩:∃m,k=m+1:=#[k-1,by lia]
   have:=st m
   rw[e] at this;rw[vE,oX (by lia)];exact this
  |succ i=>
   rw[show i+1+(k-1)=i+k by lia,Nat.add_mod_right,oX (by lia)];exact st i
def xr{w:W}(g:Good w)(h:2<=w.length):0<(row w 0).length:=by
 apply Nat.pos_of_ne_zero;intro z;have z:row w 0= []:=GK.mp z
 have:=uY g (S:=λp=>p=0) rfl (λp q b a=>by subst b;rw[z] at a;cases a) 1 (by lia)
 lia
def Ba{w:W}(a:0<k)(e:bz w k d=d)(b:∀j,0<j->j<k->bz w j d≠d):iB w d (walk w d k):=#[k,a,e,b,rfl]
def ED(w:W)(b:List (Nat×Nat))(f:List (List Nat))(c:Nat×Nat->Prop):Prop:=∃a:List (List (Nat×Nat)),b=a.flatten/\f=dj a/\(∀r∈a,∃d,iB w d r/\ba w d/\(∀e∈r,lexLe d e)/\c d)/\a.Pairwise (λr g=>∀d e,iB w d r->iB w e g->lexLe d e)/\(∀r∈f,rm w r)/\∀d,ba w d->c d->d∈b
def ED.imp{w:W}{c i:Nat×Nat->Prop}(h:ED w g j c)(k:∀d,ba w d->i d->c d\/d∈g)(m:∀d,c d->i d):ED w g j i:=by
 obtain⟨n,o,p,q,s,t,u⟩:=h;exact#[n,o,p,λr v=>let #[d,a,b,e,f]:=q r v;#[d,a,b,e,m d f],s,t,λd l x=>(k d l x).elim (u d l) id]
def A9{w:W}(h:iB w d r)(c:iB w e r):d=e:=by
 obtain⟨k,g,_,_,rfl⟩:=h;obtain⟨m,i,_,_,f⟩:=c
 have:=KB List.head? f
 obtain⟨a,rfl⟩:∃a,k=a+1:=#[k-1,by lia]
 obtain⟨b,rfl⟩:∃b,m=b+1:=#[m-1,by lia]
 unfold walk at this;rw[Es,Es] at this;exact FB this
def F6{w:W}(g:Good w)(h:iB w d r)(b:ba w d):∃t,r.map (·.1)=d.1::d.2::t:=by
 obtain⟨k,c,a,_,rfl⟩:=h
 obtain⟨m,rfl⟩:∃m,k=m+2:=by
  exists k-2;apply FS;intro z;obtain rfl:k=1:=by lia
  have a:cp w d=d:=a;exact wY g b (KB Prod.fst a).symm
 unfold walk;rw[Es,dz,dz,Es,dz,dz,dz];exact#[_,rfl]
def ED.lands{w:W}(g:Good w)(C:Cl w p)(h:ED w p j c)(all:∀d,ba w d->c d):lY w=j/\∃f,bI w f/\j=dj f:=by
 obtain⟨f,rfl,rfl,k,q,G,s⟩:=h;have v:f.flatten.Perm (bB w):=(Bh C.nd (gZ g)).mpr λd=>#[λi=>bw.mpr (C.dart d i),λi=>s d (bw.mp i) (all d (bw.mp i))];have R:bI w f:=#[λr l=>let #[d,a,b,e,_]:=k r l;#[d,a,b,e],v];refine#[AO g R ?_,f,R,rfl];unfold dj;rw[j8];refine q.imp_of_mem λ {r m} l x n=>?_;obtain⟨d,a,b,_,_⟩:=k r l;obtain⟨e,o,A,_,_⟩:=k m x;have le:=n d e a o;obtain⟨t,B⟩:=F6 g a b;obtain⟨H,E⟩:=F6 g o A
 by_cases z:d=e
 .subst z
  rw[a.uniq o];unfold nS;cases y:HT.lexLt (ji (m.map (·.1))) (ji (m.map (·.1))) with
  |false=>rfl
  |true=>exact absurd y (by rw[xX];simp)
 .have F:d.1<e.1\/(d.1=e.1/\d.2<e.2):=by
   unfold lexLe at le
   by_cases y:d.1=e.1
   .have:d.2≠e.2:=λu=>z (aaA y u)
    lia
   .lia
  rw[B,E];unfold nS ji;rw[dz,dz,dz,dz,HT.gM]
  split
  .rw[HT.gM]
   split
   .lia
   .exact Gc (by lia)
  .exact Gc (by lia)
def Gj:dA:=λc P=>∃(w:W),c= [aO w]/\Good w/\1<=w.length/\w.length<=14/\∀a:List (List Nat),0<a.length->a.length<=196->(∀r∈a,rm w r)->(2<=w.length->lY w=a/\∃b,bI w b/\a=dj b)->(w.length=1->a= [[0]])->P (.lst (a.map av))
def II:dA:=λa P=>∃(r:List Nat)(x:Nat),a= [av r,ai x]/\x∈r/\r.length<=20/\P (ai (ay r x))
def vR:FnOk P w Z.K mg base cz 1 T.d__law_behind.f T.d__law_behind.fd ["_law_row","_law_thing"] (aU Z II):=by
 have l:=mL.nd;refine bp T.d__law_behind.F mL [0,0] (by decide) (λd R h=>by obtain⟨_,_,rfl,_⟩:=h;rfl) (λm A outer s H E d R e h=>?_)
 have n:=e.units;exists _,(aq (aN (bV (aa 0) (aI dM (aI cg (Ax (aa 0) (aa 1)) ax) (aK bF rfl T.B.len bE (ae (aa 0) ag))))));obtain⟨r,x,rfl,a,o,q⟩:=h;have c:(r.map ai).length=r.length:=aV _;have b:0<r.length:=Bk a;have g:(0:Int)<((r.map ai).length:Int):=by rw[c];lia
 exists _,rfl,_,rfl,_,rfl,_,rfl,rfl,gK _,_,_,(fS a).1,(fS a).2.1,(fS a).2.2;exists _,rfl,g;have em:((r.idxOf x:Nat):Int)+1=((r.idxOf x+1:Nat):Int):=by lia
 have k:(((r.idxOf x:Nat):Int)+1)%((r.map ai).length:Int)=(((r.idxOf x+1)%r.length:Nat):Int):=by rw[c,em,Int.natCast_emod]
 refine#[ai (ay r x),?_,q];show iJ (r.map ai) ((λi j=>i%j) _ _)=_;dsimp only;rw[k];exact nU (tY _ b)
def yo:FnOk P w Z.K mg base cz 2 T.d__law_lands.f T.d__law_lands.fd ["_law_turns_here"] (aU Z Gj):=by
 have u:=om.nd;refine bp T.d__law_lands.F om [0,1,98,0,0,0,0,1] (by decide) (λn R h=>by obtain⟨_,rfl,_⟩:=h;rfl) (λaX A outer s H E n R I h=>?_)
 have hu:=I.units
 refine#[_,(ah (ju 1 u (iU ag))
   (ah (ME 2 u)
   (ah (cK rfl GE (eB rfl T.B.enumerate (ae (aa 0) ag)) (dY 2 rfl (aM (aH 3 u) (aM (aH 4 u) b7))) (aq (cK rfl GE (bK (aK Kr rfl T.B.sorted lN (ae (aa 4) ag))) (aH 5 u) (ah (bb false 6 u (cD (ae (aa 3) (ae (aa 5) ag))))
   (ah (ju 7 u (iU ag))
   (ah (pb GE (bo (Ii hu) (aa 6) (aa 2) (by with_unfolding_all rfl)) (ah (MH 2 hu (aa 6) c8)
   (ah (o9 false 7 (bV (aa 6) ax))
   (aq (bb false 6 u (cD (ae (bV (aa 6) ax) (ae (aQ T.d__law_behind (vR T) I (ae (bV (aa 0) (bV (aa 6) ax)) (ae (bV (aa 6) ax) ag))) ag))))))))
   (aq (bL (bo (qM hu) (aa 7) (bW ag) (bD _)) (aq (MD 1 7)) aW))))))))
   (ah (bL (bo (kM hu) (aK bF rfl T.B.len bE (ae (aa 0) ag)) ax (bD _)) (nA 1
   (aq (aN (bW (ae (bW (ae ax ag)) ag))))) aW)
   (nA 1
   (aq (aN (aa 1)))))))),?_]
 obtain⟨a,rfl,g,h1,dS,q⟩:=h;have lw:(a.map av).length=a.length:=aV _;have c1:=iL g;have c2:a.length*a.length<=14*14:=uT dS dS
 have sml:∀{l:List (Nat×Nat)},l.Nodup->(∀e∈l,ba a e)->l.length<=196:=λ {l} u h=>by
  have:=aT u λe he=>bw.mpr (h e he)
  lia
 refine#[by show 0<=sizeLine;decide,?_]
 exists _,rfl
 refine bM (λj ρ=>∃(n:List (Nat×Nat))(v:List FV)(o:List (List Nat))(o3 o4 X Y o7:Option D),ρ= [some (aO a),some (.lst (o.map av)),some (.x (.sZ (n.map zz) v)),o3,o4,X,Y,o7]/\Cl a n/\(0<n.length->0<o.length)/\o.length<=n.length/\ED a n o λd=>d.1<j)
  #[[],[],[],_,_,_,_,_,rfl,#[iH,(λe h=>nomatch h),λe _=>#[(λh=>nomatch h),λh=>nomatch h]],id,bu _,[],rfl,rfl,(λr h=>nomatch h), .nil,(λr h=>nomatch h),λd _ h=>absurd h (by lia)] ?_ ?_
 .rintro p _ _ t ⟨n,v,o,o3,o4,X,Y,o7,rfl,C,S,rl,ok⟩ A hA
  obtain⟨hp,rfl⟩:=yR t;exists rfl,rfl;have rl0:=fg g p;exists _,rfl;dsimp only[fJ];refine LD (by lia) λG UY tQ=>?_
  refine bM (λm ρ=>∃(n:List (Nat×Nat))(v:List FV)(o:List (List Nat))(X Y o7:Option D),ρ= [some (aO a),some (.lst (o.map av)),some (.x (.sZ (n.map zz) v)),some (ai p),some (av (row a p)),X,Y,o7]/\Cl a n/\(0<n.length->0<o.length)/\o.length<=n.length/\ED a n o λd=>d.1<p\/(d.1=p/\d.2∈G.take m))
   #[n,v,o,_,_,_,rfl,C,S,rl,ok.imp (λd _ h=> .inl (h.elim id λz=>by simp at z)) λd h=> .inl h] ?_ ?_
  .clear S rl ok C
   rintro M _ _ t ⟨n,v,o,X,Y,o7,rfl,C,S,rl,ok⟩ A hA;obtain⟨b,hq,rfl⟩:=cH t;have N:ba a (p,b):=UY.mem_iff.mp (eF hq);have LS:G.take (M+1)=G.take M++ [b]:=by rw[List.take_succ,hq];rfl
   refine#[_,rfl,_,rfl,by show 2<=sizeLine;decide,trivial,?_]
   refine#[by show 0<=sizeLine;decide,?_]
   refine mH (λm ρ=>∃(k:Nat)(v:List FV),ρ= [some (aO a),some (.lst (o.map av)),some (.x (.sZ ((n++walk a (p,b) k).map zz) v)),some (ai p),some (av (row a p)),some (ai b),some (pairD (bz a k (p,b))),some (av ((walk a (p,b) k).map (·.1)))]/\m+k=200/\(0<k->(p,b)∉n)/\(∀j,0<j->j<k->bz a j (p,b)≠(p,b))) 200 #[0,v,by rw[show walk a (p,b) 0= [] from rfl,fG];rfl,rfl,(λh=>by lia),λj h1 h2=>by lia] ?_
   rintro m _ ⟨k,v,rfl,mk,u,O⟩;have kl:=yQ g N O;have nn:=C.nodup g N u O;have nl:(n++walk a (p,b) k).length<=196:=sml nn λe he=>(eG.mp he).elim (C.dart e) (mG g N e);have dk:=cL g N k;have hs:=g.sym _ _ dk;exists _,rfl,_,rfl,zz (bz a k (p,b)),_,_,rfl,rfl,_,rfl;refine(?_:if (if true=true then !decide (zz (bz a k (p,b))∈(n++walk a (p,b) k).map zz) else _)=true then _ else _);rw[tz rfl,show decide (zz (bz a k (p,b))∈(n++walk a (p,b) k).map zz)=decide (bz a k (p,b)∈n++walk a (p,b) k) from aaP.mpr wj];refine cc (λc=>?_) (λc=>?_)
   .have c:bz a k (p,b)∉n++walk a (p,b) k:=by simpa using c
    have bZ:=bx hs;have rln:=fg g (bz a k (p,b)).2;refine#[.bl true,_,_,rfl,rfl,_,rfl,zz _,rfl,(λz=>c (wj.mp z)),by rw[aV];lia,?_]
    refine#[_,rfl,_,rfl,_,rfl,trivial,c9 (by rw[aV,aV,gO];lia),?_]
    refine#[_,rfl,_,rfl,_,rfl,_,rfl,_,rfl,_,tw bZ,_,rfl,_,rfl,_,_,rfl,hs,by lia,by show 2<=sizeLine;decide,trivial,?_]
    refine#[m-1,by lia,k+1,v++ [.bl true],?_,by lia,λ_=>?_,λj h1 h2=>?_]
    .have e1:(n++walk a (p,b) (k+1)).map zz=(n++walk a (p,b) k).map zz++ [zz (bz a k (p,b))]:=by rw[rg,<-qr,f6];rfl
     have e2:av ((walk a (p,b) (k+1)).map (·.1))= .lst (((walk a (p,b) k).map (·.1)).map ai++ [ai (bz a k (p,b)).1]):=by unfold av;rw[rg,f6,f6];rfl
     rw[e1,e2];rfl
    .by_cases z:0<k
     .exact u z
     .obtain rfl:k=0:=by lia
      exact λh=>c (i8 _ h)
    .by_cases z:j=k
     .subst z
      exact λh=>c (i9 _ (bJ.mpr #[0,h1,h.symm]))
     .exact O j h1 (by lia)
   .have c:bz a k (p,b)∈n++walk a (p,b) k:=Pi (by simpa only[Bool.not_eq_false'] using c)
    refine#[_,rfl,by show 0<=sizeLine;decide,?_]
    refine(?_:wV (av _) (av []) _);refine Mp #[_,rfl,cc (λe=>?_) (λe=>?_)]
    .have J:0<k:=Nat.pos_of_ne_zero λz=>by subst z;exact absurd e (by simp[walk])
     have bk:=C.back g N J (u J) O c;have C2:=C.grow g N J (u J) O bk;have L:=Fy g dS N J O bk;have cl:=C.len g dS;refine#[_,_,rfl,rfl,c9 (by rw[aV];lia),?_]
     refine hA _ #[n++walk a (p,b) k,v,o++ [(walk a (p,b) k).map (·.1)],some (ai b),some (pairD (bz a k (p,b))),none,?_,C2,λ_=>?_,?_,?_]
     .rw[f6 (f:=av)];rfl
     .rw[dh];exact Nat.succ_pos _
     .rw[dh,dh,gO];simp only[GN];lia
     .obtain⟨mz,d1,d2,d3,d6,d4,d5⟩:=ok
      have leq:∀y∈G.take M,y<=b:=λy Q=>by
       rw[<-mT (M+1) G,LS] at tQ
       have:=(vx.mp (vx.mp tQ).1).2.2
       exact this y Q b (by simp)
      have geq:∀y∈G,y∉G.take M->b<=y:=λy Q hn=>by
       have ed:G.drop M=b::G.drop (M+1):=by
        obtain⟨hl,e⟩:=cX.mp hq;rw[<-e];exact tT hl
       rw[<-mT M G,eG] at Q;have Q:=Q.resolve_left hn;have s2:=(vx.mp (by rw[<-mT M G] at tQ;exact tQ)).2.1
       rw[ed] at Q s2
       rcases b8.mp Q with rfl|Q
       .exact bu _
       .exact(List.pairwise_cons.mp s2).1 y Q
      have lst:∀e∈walk a (p,b) k,lexLe (p,b) e:=λe he=>by
       obtain⟨i,hi,rfl⟩:=bJ.mp he;have dr:=cL g N i;have nin:bz a i (p,b)∉n:=λz=>u J ((C.bz g N i).mp z);have nc:¬((bz a i (p,b)).1<p\/((bz a i (p,b)).1=p/\(bz a i (p,b)).2∈G.take M)):=λz=>nin (d5 _ dr z);unfold lexLe
       by_cases z:(bz a i (p,b)).1=p
       .right
        have Wj:(bz a i (p,b)).2∈row a (bz a i (p,b)).1:=dr;refine#[z.symm,geq _ (UY.mem_iff.mpr (by rw[z] at Wj;exact Wj)) λy=>nc (.inr #[z,y])]
       .left
        show p<_
        have:=λy=>nc (.inl y)
        lia
      refine#[mz++ [walk a (p,b) k],?_,?_,λr I=>?_,?_,λr I=>?_,λd Cj t=>?_]
      .rw[d1,GQ];simp
      .rw[d2];unfold dj;rw[f6];rfl
      .rcases eG.mp I with h|h
       .obtain⟨d,a1,a2,a3,U⟩:=d3 r h
        exact#[d,a1,a2,a3,U.imp id λz=>#[z.1,by rw[LS];exact i8 _ z.2]]
       .rw[fm] at h;rw[h]
        exact#[(p,b),Ba J bk O,N,lst, .inr #[rfl,by rw[LS];simp]]
      .refine vx.mpr #[d6,aa2 _ _,λr I r' uh d e R1 R2=>?_]
       rw[fm] at uh;subst uh;obtain rfl:=A9 R2 (Ba J bk O);obtain⟨d',a1,a2,a3,U⟩:=d3 r I;obtain rfl:=A9 R1 a1;unfold lexLe
       rcases U with U|U
       .exact .inl U
       .exact .inr #[U.1,leq _ U.2]
      .rcases eG.mp I with h|h
       .exact d4 r h
       .rw[fm] at h;rw[h];exact L
      .rw[LS] at t
       by_cases z:d=(p,b)
       .rw[z];exact i9 _ (bJ.mpr #[0,J,rfl])
       .exact i8 _ (d5 d Cj (t.imp id λh=>#[h.1,(eG.mp h.2).elim id λh2=>absurd (aaA h.1 (fm.mp h2)) z]))
    .have J:k=0:=by
      have e:(walk a (p,b) k).map (·.1)= []:=Pi (by simpa only[Bool.not_eq_false'] using e)
      have:=KB db e
      rwa [aV,gO] at this
     subst J;have e0:n++walk a (p,b) 0=n:=fG _;rw[e0] at c;refine hA _ #[n,v,o,_,_,_,by rw[e0],C,S,rl,ok.imp (λd _ t=>?_) λd t=>t.imp id λz=>#[z.1,by rw[LS];exact i8 _ z.2]]
     rw[LS] at t
     by_cases z:d=(p,b)
     .rw[z];exact .inr c
     .exact .inl (t.imp id λh=>#[h.1,(eG.mp h.2).elim id λh2=>absurd (aaA h.1 (fm.mp h2)) z])
  .rintro _ ⟨n,v,o,X,Y,o7,rfl,C,S,rl,ok⟩
   refine hA _ #[n,v,o,_,_,_,_,_,rfl,C,S,rl,ok.imp (λd Cj t=> .inl ?_) λd t=>?_]
   .rw[aV,List.take_length]
    by_cases z:d.1=p
    .exact .inr #[z,UY.mem_iff.mpr (z▸Cj)]
    .left;lia
   .rcases t with t|t<;>lia
 rintro _ ⟨n,v,o,o3,o4,X,Y,o7,rfl,C,S,rl,ok⟩;rw[iM,lw] at ok;have cl:=C.len g dS;exists _,rfl;dsimp only[fJ,jQ,aO];refine Hr #[_,rfl,cc (λe=>?_) (λe=>?_)]
 .have n1:a.length=1:=by
   have:((a.map av).length:Int)=1:=Pi e
   lia
  refine#[#[_,rfl],by show 1<=sizeLine;decide,by show 1<=sizeLine;decide,?_]
  refine q [[0]] (by decide) (by decide) (λr I=>?_) (λz=>by lia) λ_=>rfl
  rw[fm] at I;subst I;refine#[by decide,by decide,λk O=>?_,λh=>by lia]
  have:k=0:=by simpa using O
  subst this;exact h1
 .have n2:2<=a.length:=by
   have:¬((a.map av).length:Int)=1:=SZ e
   lia
  have r0:=xr g n2;obtain⟨x,hx⟩:=aby r0;have lm:=ED.lands g C ok λd t=>bx t;obtain⟨mz,d1,d2,d3,d6,d4,d5⟩:=ok;have rp:0<o.length:=S (Bk (d5 (0,x) hx (by show 0<a.length;lia)))
  exact#[#[_,rfl],_,rfl,q o rp (by lia) d4 (λ_=>lm) (λz=>by lia)]
variable {P:Program} {w:World} {mg:Str->Option Value} {base:Heap} {Z:DC} (T:Txt Z mg)
def jP(w:W):Prop:=Good w/\1<=w.length/\w.length<=14
noncomputable def f9(w:W):List (List Nat):=if w.length=1 then[[0]] else lY w
def QI{w:W}(g:Good w)(c:w.length<=14)(R:bI w a):∀r∈dj a,rm w r:=λr b=>by
 unfold dj at b;obtain⟨f,h,rfl⟩:=dO.mp b;obtain⟨d,⟨k,i,e,j,rfl⟩,l,_⟩:=R.rnd f h;exact Fy g c l i j e
theorem AV:∀(l:List (List a)),(∀r∈l,r≠ [])->l.length<=l.flatten.length
 | [],_=>bu _
 |r::l,h=>by
  have:=AV l λr b=>h r (eM _ b)
  have c:=Eu.mpr (h r (dE ..));rw[cO,qq,dh];lia
def Fz{w:W}{P:D->Prop}(g:Good w)(l1:1<=w.length)(lX:w.length<=14)(h:(∀r∈f9 w,rm w r)->(f9 w).length<=300->P (.lst ((f9 w).map av))):Gi [.fX w] P:=by
 refine#[w,rfl,g,l1,lX,λe=>?_,λe rs R eL=>?_]
 .have e0:f9 w= [[0]]:=if_pos e
  rw[e0] at h;refine h (λr hr=>?_) (by decide)
  rw[fm] at hr;subst hr
  exact#[by decide,by decide,λk hk=>by(obtain rfl:k=0:=(by simpa using hk);exact l1),λz=>by lia]
 .have e0:f9 w=lY w:=if_neg (by lia)
  rw[e0] at h;refine h (λr hr=>QI g lX R r (by rw[<-eL];exact hr)) ?_
  rw[eL];unfold dj;rw[aV];have c1:=iL g;have c2:w.length*w.length<=14*14:=uT lX lX;have c3:=R.perm.length_eq
  have c4:=AV rs λr hr z=>by
   obtain⟨d,⟨k,k0,_,_,rfl⟩,_⟩:=R.rnd r hr
   have:=congrArg db z
   rw[gO,zg] at this;lia
  lia
def tc(w:W):Nat:=(jB (row w) w.length).length
def RL{w:W}(g:Good w):2*tc w=(bB w).length:=by
 have:=(wH g (.refl _)).length_eq
 rw[dh,aV] at this;unfold tc;lia
theorem Gp:∀w:W,(w.map λr=>(r.length:Int)).sum=((KA w:Nat):Int)
 | []=>rfl
 |r::w=>by
  rw[dz,List.sum_cons,Gp w];unfold KA;rw[dz,List.sum_cons];lia
noncomputable def EX(w:W):D:= .tup [.int (w.length:Int), .int (tc w:Int), .int ((f9 w).length:Int)]
def LH:dA:=λa P=>∃(w:W),a= [.fX w]/\jP w/\P (EX w)
def A1:FnOk P w Z.K mg base cz 4 T.d_count.f T.d_count.fd ["web"] (aU Z LH):=by
 have o:=Bb.nd;refine bp T.d_count.F Bb [0] (by decide) (λe R h=>by obtain⟨_,rfl,_⟩:=h;rfl) (λp A outer s H E e R c h=>?_)
 have r:=c.units;refine#[_,(aq (aN (cD (ae (gI T.W (aa 0) T.m_many.m (jy T) (c.mono (by decide)) T.m_many.b) (ae (aK bF rfl T.B.len bE (ae (gI T.W (aa 0) T.m_ties.m (ml T) (c.mono (by decide)) T.m_ties.b) ag)) (ae (aK bF rfl T.B.len bE (ae (aQ T.d_lands (uG T) c (ae (aa 0) ag)) ag)) ag)))))),?_]
 obtain⟨a,rfl,⟨g,i,d⟩,q⟩:=h;refine#[_,rfl,a,rfl,a,rfl,_,rfl,a,rfl,a,rfl,g,d,λj k t=>?_];exists _,rfl;dsimp only[fJ];refine Fz g i d λ_ _=>?_;refine#[by show 3<=sizeLine;decide,?_]
 have l:(j.map pairD).length=tc a:=by rw[aV,k.length_eq];rfl
 have n:((f9 a).map av).length=(f9 a).length:=aV _;unfold EX at q;rw[<-l,<-n] at q;exact q
def kc(w:W):Prop:=(w.length:Int)+((f9 w).length:Int)=(tc w:Int)+2
def LL:dA:=λa P=>∃(w:W),a= [.fX w]/\jP w/\((kc w->P (.bl true))/\(¬kc w->P (.bl false)))
def DH:FnOk P w Z.K mg base cz 5 T.d_is_plane.f T.d_is_plane.fd ["web"] (aU Z LL):=by
 have a:=tM.nd;refine bp T.d_is_plane.F tM [0,0,0,0] (by decide) (λe R h=>by obtain⟨_,rfl,_⟩:=h;rfl) (λi A outer s H E e R b h=>?_)
 have g:=b.units
 refine#[_,(ah (v7 (aQ T.d_count (A1 T) b (ae (aa 0) ag)) (dY 3 rfl (aM (aH 1 a) (aM (aH 2 a) (aM (aH 3 a) b7)))))
   (aq (aN (Jx (kM g) (aI cg (aa 1) (aa 3)) (aI cg (aa 2) ax) (bD _))))),?_]
 obtain⟨d,rfl,ok,q⟩:=h;exists _,rfl,d,rfl,ok;unfold EX;exists rfl,rfl;exists _,rfl,_,rfl,_,rfl;refine wU ?_
 by_cases c:kc d
 .have:=q.1 c
  unfold kc at c;rw[KM c];exact this
 .have:=q.2 c
  unfold kc at c;rw[Gc c];exact this
def N9(a:List D):Prop:=∃d,a= [d]
def Aa:FnOk P w Z.K mg base cz 2 T.j_NotPlane.f T.j_NotPlane.fd ["self","counted"] (IJ Z T.e_NotPlane ["counted"] N9):=by
 have B:=iF.nd;refine T.j_NotPlane.F.ok iF (λl H Q E h=>?_) (λC A outer s H l Q E I h=>?_)
 .obtain⟨a,n,G,p,rfl,_,_,_,dv,_,r,_⟩:=h
  have:=dv.length
  simp at r ⊢;lia
 obtain⟨a,n,G,p,rfl,g,t,j,dv,⟨d,rfl⟩,_,q⟩:=h;obtain⟨y,rfl,u⟩:=dv.ofOne;exists _,gN (iu (A3 rfl T.xb.m T.xb.sg T.xb.rd T.xb.fc (bS (pv 0) (bS wc fU)))) (lG (F0 (pv 0) (pv 1) rfl));exists _,rfl,a,T.e_NotPlane,none,_,rfl,g,T.q_NotPlane.obj;refine#[_,rfl,_,rfl,a,T.e_NotPlane,[],rfl,T.q_NotPlane.cls,T.n_NotPlane_counted, .inl #[rfl,g,λi b=>?_]];have v:a≠i:=aC g b;have k:G i=none:=j.free b;refine q i [y] G _ (.refl _) (λc o e=>?_) (λc o x e=>?_) (λc _ z=>z) ?_ b au k (.cons u .nil)
 .rw[aw (aC e k),aw (aC e t)];exact j _ _ e
 .rw[aw (aC e b),aw x];exact e
 .rw[aw v,au]
def LJ(c:Addr):GR:=λa P R=>∃(w:W),a= [.fX w]/\jP w/\(kc w->P .aY)/\(¬kc w->R (.err c ["counted"] [EX w]))
def vP:FnOk P w Z.K mg base (vG P w) 6 T.d_need_plane.f T.d_need_plane.fd ["web"] (lC Z (LJ T.e_NotPlane)):=by
 have j:=oz.nd;refine uc T.d_need_plane.F oz [0] (by decide) (λd R e h=>by obtain⟨_,rfl,_⟩:=h;rfl) (λk A outer s H E d R e a h=>?_)
 have l:=a.units;exists _,(aq (bL (rV (dJ (aQ T.d_is_plane (DH T) a (ae (aa 0) ag)))) (aq (xg rfl T.j_NotPlane (Aa T) a T.q_NotPlane T.g_NotPlane (ae (aQ T.d_count (A1 T) a (ae (aa 0) ag)) ag))) aW));obtain⟨b,rfl,ok,g,i⟩:=h;refine#[_,rfl,b,rfl,ok,λc=>#[rfl,aZ (g c)],λc=>#[rfl,cG ?_]];exact#[_,rfl,b,rfl,ok,#[_,rfl],rfl,i c]
def ym:FnOk P w Z.K mg base cz 2 T.j_NotFilled.f T.j_NotFilled.fd ["self","land"] (IJ Z T.e_NotFilled ["land"] N9):=by
 have B:=iy.nd;refine T.j_NotFilled.F.ok iy (λl H Q E h=>?_) (λC A outer s H l Q E I h=>?_)
 .obtain⟨a,n,G,p,rfl,_,_,_,dv,_,r,_⟩:=h
  have:=dv.length
  simp at r ⊢;lia
 obtain⟨a,n,G,p,rfl,g,t,j,dv,⟨d,rfl⟩,_,q⟩:=h;obtain⟨y,rfl,u⟩:=dv.ofOne;exists _,gN (iu (A3 rfl T.xb.m T.xb.sg T.xb.rd T.xb.fc (bS (pv 0) (bS wc fU)))) (lG (F0 (pv 0) (pv 1) rfl));exists _,rfl,a,T.e_NotFilled,none,_,rfl,g,T.q_NotFilled.obj;refine#[_,rfl,_,rfl,a,T.e_NotFilled,[],rfl,T.q_NotFilled.cls,T.n_NotFilled_land, .inl #[rfl,g,λi b=>?_]];have v:a≠i:=aC g b;have k:G i=none:=j.free b;refine q i [y] G _ (.refl _) (λc o e=>?_) (λc o x e=>?_) (λc _ z=>z) ?_ b au k (.cons u .nil)
 .rw[aw (aC e k),aw (aC e t)];exact j _ _ e
 .rw[aw (aC e b),aw x];exact e
 .rw[aw v,au]
def LI(c:Addr):GR:=λa P R=>∃(w:W),a= [.fX w, .aY]/\jP w/\(∀k l,(f9 w)[k]? =some l->l.length≠3->(∀m l,m<k->(f9 w)[m]? =some l->l.length=3)->R (.err c ["land"] [ai k]))/\((∀l∈f9 w,l.length=3)->P .aY)
def Mo{P:D->Prop}(h:P (.bl true)):wV (av l) .aY P:=by
 refine#[_,_,DR l,rfl,by have:=u5 l;lia,?_]
 rw[tz rfl];exact h
def uE:FnOk P w Z.K mg base (vG P w) 4 T.d_need_filled.f T.d_need_filled.fd ["web","rim"] (lC Z (LI T.e_NotFilled)):=by
 have p:=mQ.nd;refine uc T.d_need_filled.F mQ [0,0,0,0] (by decide) (λu R v h=>by obtain⟨_,rfl,_⟩:=h;rfl) (λU A outer s H E u R v c h=>?_)
 have q:=c.units;exists _,(aq (cK rfl PassesOwn.leaving (eB rfl T.B.enumerate (ae (aQ T.d_lands (uG T) c (ae (aa 0) ag)) ag)) (dY 2 rfl (aM (aH 2 p) (aM (aH 3 p) b7))) (aq (bL (DW.dt (B2 (bo (qM q) (aK bF rfl T.B.len bE (ae (aa 3) ag)) ax (bD _)) (xk (bo (qM q) (aa 3) (aa 1) (bD _))))) (aq (xg rfl T.j_NotFilled (ym T) c T.q_NotFilled T.g_NotFilled (ae (aa 2) ag))) aW))));obtain⟨r,rfl,⟨g,y,C⟩,G,I⟩:=h;exists _,rfl;dsimp only[fJ];refine Fz g y C λ_ _=>?_;refine bM (λj J=>∃i n,J= [some (.fX r),some .aY,i,n]/\∀m l,m<j->(f9 r)[m]? =some l->l.length=3) #[_,_,rfl,λm l h=>by lia] ?_ ?_
 .rintro j d _ L ⟨i,n,rfl,a⟩ A M
  obtain⟨x,N,rfl⟩:=gz L;obtain⟨l,b,rfl⟩:=cH N;have O:(l.map ai).length=l.length:=aV _;exists rfl,rfl;exists _,rfl;dsimp only[fJ,jQ,av];refine Ic #[_,rfl,cc (λe=>?_) (λe=>aZ (M _ #[_,_,rfl,λm Q X o=>?_]))]
  .refine#[_,rfl,_,rfl,?_]
   refine(?_:wV (av l) .aY _);refine Mo #[_,rfl,cG ?_];have S:l.length≠3:=λz=>by rw[O,z] at e;simp at e
   exact#[_,rfl,#[_,rfl],rfl,G j l b S a]
  .by_cases z:m=j
   .subst z
    rw[b] at o;cases o
    have:((l.map ai).length:Int)=3:=by simpa using e
    lia
   .exact a m Q (by lia) o
 .rintro _ ⟨i,n,rfl,a⟩
  refine I λl b=>?_;obtain⟨k,t⟩:=mU b;refine a k l ?_ t;rw[iM,aV];exact(cX.mp t).1
abbrev Oi:=List (Option Int)
def f7(os:Oi)(p:Nat):Option Int:=os.getD p none
def jc(os:Oi)(l:List Nat):List Nat:=l.filter λp=>(f7 os p).isNone
def O6(os:Oi)(l:List Nat)(x:Nat):Int:=((l.filter λp=>decide (p≠x)).map λp=>(f7 os p).getD 0).sum
def eY(os:Oi)(l:List Nat):Oi:=
 match jc os l with
 | [x]=>os.set x (some (3-O6 os l x))
 |_=>os
def qg(os:Oi):Nat:=(os.filter Option.isNone).length
theorem FH:∀{a b:Oi},a.length=b.length->(∀i:Nat,b[i]? =some none->a[i]? =some none)->qg b<=qg a
 | [],[],_,_=>bu _
 |x::a,y::b,h,m=>by
  have c:=FH (a:=a) (b:=b) (by simpa using h) λi d=>m (i+1) d
  have:=m 0
  unfold qg at c ⊢;cases x<;>cases y<;>simp at this c ⊢ <;>lia
theorem FI:∀{a b:Oi}{i:Nat},a.length=b.length->(∀i:Nat,b[i]? =some none->a[i]? =some none)->a[i]? =some none->b[i]? ≠some none->qg b<qg a
 | [],[],i,_,_,h,_=>by simp at h
 |x::a,y::b,0,h,m,c,d=>by
  have:=FH (a:=a) (b:=b) (by simpa using h) λi e=>m (i+1) e
  unfold qg at this ⊢;cases x<;>cases y<;>simp at c d this ⊢ <;>lia
 |x::a,y::b,i+1,h,m,c,d=>by
  have f:=FI (a:=a) (b:=b) (i:=i) (by simpa using h) (λi e=>m (i+1) e) c d
  have:=m 0
  unfold qg at f ⊢;cases x<;>cases y<;>simp at this f ⊢ <;>lia
def Fp{os:Oi}{p:Nat}(h:p<os.length):f7 os p=none↔os[p]? =some none:=by
 unfold f7;rw[bG,dD h];cases os[p]<;>simp
def Fo{os:Oi}{y x:Nat}{k:Int}(h:y<os.length):f7 (os.set y (some k)) x=if y=x then some k else f7 os x:=by
 unfold f7;rw[bG,kC]
 by_cases e:y=x
 .subst e;rw[tz rfl,tz h,tz rfl];rfl
 .rw[mo e,mo e,bG]
def lj(d:b.length=a.length)(h:∀i:Nat,b[i]? =some none->a[i]? =some none)(c:x<a.length)(n:f7 a x≠none):f7 b x≠none:=λz=>n ((Fp c).mpr (h x ((Fp (by rw[d];exact c)).mp z)))
def oO(os:Oi)(l:List Nat):(eY os l).length=os.length:=by
 unfold eY
 split
 .exact iA ..
 .rfl
def mF(os:Oi)(l:List Nat)(i:Nat)(h:(eY os l)[i]? =some none):os[i]? =some none:=by
 unfold eY at h
 split at h
 .next x _=>
  rw[kC] at h
  split at h
  .split at h<;>cases h
  .exact h
 .exact h
def Ed{os:Oi}{l:List Nat}(g:l.Nodup)(f:∀p∈l,p<os.length){x:Nat}(c:x∈l)(h:∀y∈l,y≠x->f7 os y≠none):f7 (eY os l) x≠none:=by
 cases e:f7 os x with
 |some k=>exact lj (oO os l) (mF os l) (f x c) (by rw[e];simp)
 |none=>
  have i:jc os l= [x]:=by
   have m:∀y,y∈jc os l↔y=x:=λy=>by
    unfold jc;rw[vD];refine#[λ#[a,b]=>FS λz=>h y a z (Option.isNone_iff_eq_none.mp b),λz=>#[by rw[z];exact c,by rw[z,e];rfl]]
   have d:(jc os l).Nodup:=g.filter _;exact List.perm_singleton.mp ((Bh d (by simp)).mpr λy=>by rw[m y];simp)
  unfold eY;rw[i];show f7 (os.set x _) x≠none;rw[Fo (f x c),tz rfl];simp
def oD:Option Int->D
 |none=> .aY
 |some k=> .int k
def oV:Option Int->V
 |none=> .aY
 |some k=> .int k
theorem Du{G:Hp}:∀os:Oi,DvAll Z G (os.map oV) (os.map oD)
 | []=> .nil
 |none::os=> .cons .aY (Du os)
 |some k::os=> .cons (.int _) (Du os)
def N3{os:Oi}{p:Nat}(h:p<os.length):iJ (os.map oD) (p:Int)=some (oD (f7 os p)):=fQ (by
 unfold f7;rw[eQ,bG,dD h];rfl)
def Gk(Z:DC):Sp:=λd H Q _=>∃(G:Hp)(a:Addr)(v:V)(os:Oi)(l:List Nat),d= [.ref a,v]/\aJ G H/\H a=some (.lst (os.map oV))/\Dv Z G v (av l)/\l.length=3/\(∀p∈l,p<os.length)/\∀c,(∀b o,b≠a->H b=some o->c b=some o)->c a=some (.lst ((eY os l).map oV))->Q .aY c
def LC(s:aJ G H)(h:H a=some o):aJ G (upd G a o)/\aJ (upd G a o) H:=by
 refine#[λb u e=>?_,λb u e=>?_]
 .by_cases z:b=a
  .subst z
   have:=s _ _ e
   rw[h] at this;cases this;exact au
  .rw[aw z];exact e
 .by_cases z:b=a
  .subst z
   rw[au] at e;cases e;exact h
  .rw[aw z] at e;exact s _ _ e
def Lk:FnOk P w Z.K mg base cz 1 T.d_third_dyed.f T.d_third_dyed.fd ["dyeing","land"] (Gk Z):=by
 have nd:=oG.nd;refine T.d_third_dyed.F.ok oG (λvs H Q E h=>?_) (λaX A outer s H vs Q E hr h=>?_)
 .obtain⟨G,a,v,os,l,rfl,_⟩:=h;rfl
 have hu:=hr.units;obtain⟨G,a,v,os,l,rfl,sG,t,dv,l3,y,q⟩:=h
 refine#[_,gN (pC (i:=2) nd rfl (by subst_eqs) (qy (Z:=Z) (NC:= ["p","dyeing"]) (src:= [none,some 0]) rfl (qv (ao gk)) #[rfl,rfl,trivial] (bK (aa 1)) (λ_ _ _=>(bX 0 (show(["p","dyeing"]:List Str).Nodup from by decide+kernel))) (λ_ _ _=>(xh (bo yg (bV (aa 1) (aa 0)) fz (bD _)))) (λ_ _ _=>(aa 0))))
  (lG (OE (bo (Z:=Z) (kM hu) (aK bF rfl T.B.len bE (ae (aa 2) ag)) ax (bD _)) (lG (wd
   (aI (Z:=Z) sV ax (aK (Jt rfl) rfl T.B.sum Js (ae (qy (NC:= ["p","dyeing","bare"]) (src:= [none,some 0,some 2]) rfl (qv (ao gk)) #[rfl,rfl,rfl,rfl,trivial] (bK (aa 1)) (λ_ _ _=>(bX 0 (show(["p","dyeing","bare"]:List Str).Nodup from by decide+kernel))) (λ_ _ _=>(xh (bo (qM hu) (aa 0) (bV (aa 2) ax) (bD _)))) (λ_ _ _=>(bV (aa 1) (aa 0)))) ag)))
   (DM (pv 0) (bV (Z:=Z) (aa 2) ax) set_list))) F1)),?_]
 obtain⟨s1,s2⟩:=LC sG t
 have env:∀(g:Hp)(o:Option V)(C:Option D),aJ (upd G a (.lst (os.map oV))) g->(∀d,C=some d->∃u,o=some u/\Dv Z g u d)->dF Z g [some (.ref a),some v,o] [some (.lst (os.map oD)),some (av l),C]:=λg o C s h=>#[rfl,λi d I=>by
  match i with
  |0=>cases I;exact#[_,rfl, .lst (s _ _ au) (Du os)]
  |1=>cases I;exact#[_,rfl,dv.mono (s1.trans s)]
  |2=>
   obtain⟨u,rfl,du⟩:=h d (FB I);exact#[u,rfl,du]]
 refine#[_,[some (.lst (os.map oD)),some (av l),none],λd=>d=av (jc os l),s2,env _ none none (.refl _) (λd z=>by cases z),?_,?_]
 .refine#[_,rfl,lZ (λJ=>∃o,J= [o,some (.lst (os.map oD))]) ai (λp=>(f7 os p).isNone) ai l _ [] _ (λp j L M Y Nn N O=>?_) #[none,rfl] (by rw[l3];exact small (by simp)) λL _=>?_]
  .obtain⟨o,rfl⟩:=M
   exists _,rfl,_,rfl,_,N3 (y p j);exists CC (oD (f7 os p)),rfl;cases e:f7 os p with
   |none=>exact cG #[_,rfl,N _ #[_,rfl] (by rw[e];rfl)]
   |some k=>exact aZ (O _ #[_,rfl] (by rw[e];rfl))
  .rfl
 rintro _ rfl R G2 H2 m rW;refine#[G2,[some (.lst (os.map oD)),some (av l),some (av (jc os l))],λb=>b=decide ((jc os l).length=1),m.sub,env _ _ _ m.gg (λd z=>by cases z;exact#[R,rfl,rW]),?_,?_]
 .refine#[_,rfl,?_]
  dsimp only[fJ,jQ,av];refine Hr #[_,rfl,?_];rw[aV];exact aaP.mpr (by lia)
 rintro _ rfl G3 H3 n;have S:aJ H H3:=m.hh.trans n.hh
 by_cases c:(jc os l).length=1
 .rw[KM c]
  obtain⟨x,r⟩:=List.length_eq_one_iff.mp c;have U:=env G3 (some R) (some (av (jc os l))) (m.gg.trans n.gg) (λd z=>by cases z;exact#[R,rfl,rW.mono n.gg])
  rw[r] at U;refine cG #[G3,_,λd=>d= .int (3-O6 os l x),n.sub,U,?_,?_]
  .refine#[_,rfl,lZ (λJ=>∃o,J= [o,some (.lst (os.map oD)),some (av [x])]) ai (λp=>decide (p≠x)) (λp=> .int ((f7 os p).getD 0)) l _ [] _ (λp j L M Y Nn N O=>?_) #[none,rfl] (by rw[l3];exact small (by simp)) λL _=>?_]
   .obtain⟨o,rfl⟩:=M
    exists _,rfl,_,rfl,ai x,rfl;refine(?_:wV (.int (p:Int)) (.int (x:Int)) _);refine wW #[_,rfl,?_]
    by_cases e:p=x
    .rw[show(!decide ((p:Int)=(x:Int)))=false by rw[e];simp]
     exact aZ (O _ #[_,rfl] (by rw[e];simp))
    .rw[show(!decide ((p:Int)=(x:Int)))=true by simp;lia]
     have nb:(f7 os p).isNone=false:=by
      cases z:(f7 os p).isNone with
      |false=>rfl
      |true=>
       have:p∈jc os l:=vD.mpr #[j,z]
       rw[r] at this;exact absurd (fm.mp this) e
     refine cG #[_,rfl,_,rfl,_,N3 (y p j),?_];cases z:f7 os p with
     |none=>rw[z] at nb;cases nb
     |some k=>
      have:=N [some (ai p),some (.lst (os.map oD)),some (av [x])] #[_,rfl] (by simp[e])
      rw[z] at this;exact this
   .refine#[(l.filter λp=>decide (p≠x)).map λp=>(f7 os p).getD 0,by rw[eH,vC];rfl,?_]
    rfl
  rintro _ rfl v2 G4 H4 X ZH;exists .ref a,rfl;refine#[G4,_,λd=>d=ai x,X.sub,U.mono X.gg,?_,?_]
  .exact#[_,rfl,_,rfl,rfl]
  rintro _ rfl v3 G5 H5 x5 ZI;have h5:aJ H H5:=(S.trans X.hh).trans x5.hh
  have xl:x∈l:=by
   have:x∈jc os l:=by rw[r];exact fm.mpr rfl
   exact(vD.mp this).1
  refine#[a,os.map oV,(x:Int),x,rfl,ZI.ofInt,h5 _ _ t,JL (by rw[aV];exact y x xl),?_]
  refine q _ (λb o ne e=>by rw[aw ne];exact h5 _ _ e) ?_
  rw[au]
  have e:eY os l=os.set x (some (3-O6 os l x)):=by
   unfold eY;rw[r]
  rw[e,aci,ZH.ofInt];rfl
 .rw[Gc c]
  refine aZ ?_
  have e:eY os l=os:=by
   unfold eY
   split
   .next h=>rw[h] at c;exact absurd rfl c
   .rfl
  exact q _ (λb o _ e=>S _ _ e) (by rw[e];exact S _ _ t)
theorem JT{G:Hp}:∀{os:Oi}{c:List V},DvAll Z G c (os.map oD)->c=os.map oV
 | [],_,h=>by rw[h.N5];rfl
 |o::os,_,h=>by
  obtain⟨v,d,rfl,a,b⟩:=h.Dy;rw[JT b];cases o with
  |none=>cases a;rfl
  |some k=>rw[a.ofInt];rfl
def Pc(os:Oi)(l:List Nat):Prop:=l.length=3/\(∀p∈l,p<os.length)
def PY(b:List Nat)(i:Nat)(c:bf):cI:=λE a=>∃(os:Oi)(l:List Nat),a[i]? =some (some (.lst (os.map oD)))/\c (cT b a) (λd=>d=av l/\Pc os l/\E.nx (a.set i (some (.lst ((eY os l).map oD)))))
def KH(i:Nat)(d:eZ X.K X.mg x st ["dyeing","land"])(F:FnOk X.prog X.w X.K X.mg X.base cz k d.f d.fd ["dyeing","land"] (Gk Z))(Y:bQ j X.A)(P:DE Z X e t)(T:Gl X x:=by rfl)(hk:k<=j:=by first|decide|lia)
  (eV:(x==("__debug__":Str))=false:=by decide) (ie:starEach [e] X.env=(false,eval e X.env)::starEach [] X.env:=by rfl) (u:starEach [.Name y py,e] X.env=(false,eval (.Name y py) X.env)::starEach [e] X.env:=by rfl) (b9:(backTo r (starEach [e] X.env)).any (·.1)=false:=by rfl) (lU:swapsWith (.Call (.Name x p) [.Name y py,e] [] r) none c.line X.env=pure false:=by rfl)
  (C:n.getD i 0=1:=by rfl) (hi:X.N[i]? =some y:=by rfl) (hv:pI X.env.scope y:=by subst_eqs) (hd:(y==("__debug__":Str))=false:=by decide) (eU:(y==("__classdict__":Str))=false:=by decide):
  DSt Z X n U (.Expr (.Call (.Name x p) [.Name y py,e] [] r) c) (PY n i t):=by
 refine(iu (FT F (Y.mono hk) T d.m d.F.kp d.b .nil uJ (bS (pv i hi hv hd eU) (bS P fU ie) u) eV u b9) lU).imp ?_;intro D σ H aL;rfl';obtain⟨B,ρ,E,⟨G,fp,S⟩,⟨os,l,I,h⟩,M⟩:=aL;obtain⟨a,_,_,_,J,_⟩:=S.one C I;ac_rfl;exists _,J;exists G,_,_,S.ex.sub,S.xp,h;rintro _ ⟨rfl,⟨t1,t2⟩,q⟩ v s H1 L dv;have S1:=S.grow L;obtain⟨a',xs,ds,e1,O,e3,br,put⟩:=S1.one C I;rw[J] at O;cases O;cases e1;refine#[s,a,v,os,l,rfl,L.sub,by rw[<-JT br];exact e3,dv,t1,t2,λH' kp ha=>?_]
 have Q:=put _ _ (Du (Z:=Z) (G:=s) (eY os l))
 have R:aJ (upd H1 a (.lst ((eY os l).map oV))) H':=λb o g=>by
  by_cases z:b=a
  .subst z;rw[au] at g;cases g;exact ha
  .rw[aw z] at g;exact kp b o z g
 exact M.nx _ q _ _ #[s,fp,Q.grow #[.refl _,Q.ex.sub.trans R,R,λ_ _ h=>h]]
def Qt{os:Oi}:inD .aY (os.map oD)=decide (none∈os):=by
 unfold inD;rw[acN,Bool.eq_iff_iff];simp only[acf,Function.comp_apply,abV]
 constructor
 .rintro⟨o,a,h⟩
  cases o with
  |none=>exact a
  |some k=>simp[oD,ai,i4] at h
 .exact λh=>#[none,h,by simp[oD,i4]]
def MT(os:Oi):(os.map oD).all ft=true:=by
 rw[acO,y3];intro o _;cases o<;>rfl
def RM{w:W}(g:Good w)(R:bI w a)(h:∀l∈dj a,l.length=3):zk w:=λe c=>by
 obtain⟨r,b,f⟩:=vB.mp (R.perm.mem_iff.mpr (bw.mpr c));obtain⟨d,⟨k,n,j,_,rfl⟩,o,_⟩:=R.rnd r b
 have m:k=3:=by
  have:=h _ (dO.mpr #[_,b,rfl])
  rwa [aV,gO] at this
 subst m;obtain⟨i,p,rfl⟩:=bJ.mp f;show bz w 3 (bz w i d)=_;rw[<-lA,acG,lA,j]
def S9{w:W}(g:Good w)(R:bI w a)(h:x∈row w 0):(0,x)∈a.flatten:=R.perm.mem_iff.mpr (bw.mpr h)
def OX:dA:=λa P=>∃(w:W),a= [.fX w]/\jP w/\3<=w.length/\(∀l∈f9 w,l.length=3)/\∀os:Oi,P (.lst (os.map oD))
def qN:FnOk P w Z.K mg base cz 4 T.d_dyed_by_lands.f T.d_dyed_by_lands.fd ["web"] (sQ Z 1 OX):=by
 have Q:=kv.nd;refine ub 1 T.d_dyed_by_lands.F kv [0,0,1,0,0,0] (by decide) (λds R h=>by obtain⟨_,rfl,_⟩:=h;rfl) (λaX A outer s H E ds R J h=>?_)
 have hu:=J.units
 refine#[_,ah
   (bb false 1 Q (aQ T.d_lands (uG T) J (ae (aa 0) ag)))
  (ah
   (t9 2 (NC:= ["p"]) (src:= [none]) rfl Q (qv (ao fW)) trivial (w6 rfl T.B.range (ae (gI T.W (aa 0) T.m_many.m (jy T) (J.mono (by decide)) T.m_many.b) ag)) (λ_ _ _=>(bX 0 (show(["p"]:List Str).Nodup from by decide+kernel))) (λ_ _ _=>e8) (λ_ _ _=>fz))
  (ah
   (cK rfl GE (eB rfl T.B.enumerate (ae (bV (aa 1) ax) ag)) (dY 2 rfl (aM (aH 3 Q) (aM (aH 4 Q) b7))) (aq (ua false 2 (aa 4) (aa 3))))
  (ah (pb GE (bo Dw fz (aa 2) (by with_unfolding_all rfl)) (aq (cK rfl GE (bK (aa 1)) (aH 5 Q) (aq (KH 2 T.d_third_dyed (Lk T) J (aa 5))))))
  (aq
   (MG 2)
  )))),?_]
 obtain⟨c,rfl,⟨g,l1,lX⟩,n3,W8,q⟩:=h;refine#[_,rfl,c,rfl,g,by lia,by lia,λz=>by lia,λ_ t Rr el=>?_]
 have e0:f9 c=lY c:=mo (by lia)
 rw[e0,el] at W8;rw[el];have tri:=RM g Rr W8;have lm:∀l∈dj t,∃p q s,l= [p,q,s]/\q∈row c p/\s∈row c q/\p∈row c s:=λl I=>tri.land g Rr I
 obtain⟨l0,ls,Wo⟩:∃l0 ls,dj t=l0::ls:=by
  cases e:dj t with
  |cons a b=>exact#[a,b,rfl]
  |nil=>
   have r0:=xr g (by lia)
   obtain⟨x,C⟩:=aby r0
   have:t= []:=List.map_eq_nil_iff.mp e
   have m:=S9 g Rr C;rw[this] at m;cases m
 obtain⟨S,U,s0,e0,t1,t2,t3⟩:=lm l0 (by rw[Wo];exact dE ..)
 exists trivial;refine#[_,rfl,c,rfl,_,rfl,#[by lia,by lia],?_]
 rw[show((c.length:Int)).toNat=c.length by lia,IC]
 refine jw (ρ:= [none]) _ (λ_=>D.aY) (aB c.length) _ (λy n Y h=>h) rfl (by rw[tW];exact small (by lia)) λaG=>?_
 rw[show(aB c.length).map (λ_=>D.aY)=(ak c.length (none:Option Int)).map oD by rw[abL,List.map_const',tW];rfl]
 have a0:iJ ((dj t).map av) (0:Int)=some (av [S,U,s0]):=fQ (p:=0) (by rw[Wo,e0];rfl)
 exists _,rfl,_,a0;have pl:=bx t1;have ql:=bx t2;have sl:=bx t3;refine bM (λj ρ=>∃(os:Oi)(X o4:Option D),ρ= [some (.fX c),some (.lst ((dj t).map av)),some (.lst (os.map oD)),X,o4,none]/\os.length=c.length/\∀i,i<j->f7 os ([S,U,s0].getD i 0)≠none) #[_,_,_,rfl,qp,λi h=>by lia] ?_ ?_
 .rintro j d _ hd ⟨os,X,o4,rfl,Dj,dn⟩ A hA
  obtain⟨x,C,rfl⟩:=gz hd;obtain⟨y,n,rfl⟩:=cH C;have hj:j<3:=(cX.mp n).1
  have cy:y<c.length:=by
   match j,hj with
   |0,_=>cases n;exact pl
   |1,_=>cases n;exact ql
   |2,_=>cases n;exact sl
  have ey: [S,U,s0].getD j 0=y:=by rw[bG,n];rfl
  have yl:y<os.length:=by rw[Dj];exact cy
  exists rfl,rfl;refine#[_,rfl,trivial,_,rfl,_,rfl,_,y,rfl,JL (by rw[aV];exact yl),?_]
  refine hA _ #[os.set y (some (j:Int)),_,_,by rw[aci];rfl,by rw[iA];exact Dj,λi hi=>?_]
  rw[Fo yl]
  split
  .simp
  .next ne=>
   refine dn i ?_
   have:i≠j:=λz=>ne (by rw[z,ey])
   lia
 .rintro _ ⟨os,X,o4,rfl,Dj,dn⟩
  have dp:f7 os S≠none:=dn 0 (by show 0<3;decide)
  have dq:f7 os U≠none:=dn 1 (by show 1<3;decide)
  refine mH (λm ρ=>∃(os:Oi)(o5:Option D),ρ= [some (.fX c),some (.lst ((dj t).map av)),some (.lst (os.map oD)),X,o4,o5]/\os.length=c.length/\f7 os S≠none/\f7 os U≠none/\qg os=m) (qg os) #[os,_,rfl,Dj,dp,dq,rfl] ?_;rintro m _ ⟨u,o5,rfl,G,d1,d2,rfl⟩;exists _,rfl,rfl,MT u,_,rfl;rw[mo eO,Qt];refine cc (λe=>?_) (λe=>?_)
  .have e:=Pi e
   obtain⟨b,hb,eb⟩:=kB.mp e;have Cg:u[b]? =some none:=by rw[dD hb,eb]
   obtain⟨r,J,x,C,nx,ny⟩:=more tri g Rr (D:=λp=>f7 u p≠none) t1 d1 d2 (by rw[<-G];exact hb) (λz=>z ((Fp hb).mpr Cg))
   have nx:f7 u x=none:=Classical.not_not.mp nx;refine#[_,rfl,bM (λk ρ=>∃(o:Oi)(o5:Option D),ρ= [some (.fX c),some (.lst ((dj t).map av)),some (.lst (o.map oD)),X,o4,o5]/\o.length=c.length/\(∀i:Nat,o[i]? =some none->u[i]? =some none)/\∀(j:Nat)(l:List Nat),j<k->(dj t)[j]? =some l->∀x∈l,(∀y∈l,y≠x->f7 u y≠none)->f7 o x≠none) #[u,o5,rfl,G,λ_ z=>z,λj l h=>by lia] ?_ ?_]
   .rintro j d _ hd ⟨o,o6,rfl,v,L,hh⟩ A hA
    obtain⟨l,I,rfl⟩:=cH hd;have NT:=lm l (eF I)
    have inl:∀l∈dj t,∀y∈l,y<c.length:=λl I y n=>by
     obtain⟨p,q',s',rfl,M,N,O⟩:=lm l I;simp only[b8,vA,abf] at n
     rcases n with rfl|rfl|rfl
     .exact bx M
     .exact bx N
     .exact bx O
    have XO:l.Nodup/\l.length=3:=by
     obtain⟨p,q',s',rfl,M,N,O⟩:=NT;have n1:p≠q':=λz=>g.irr p (by rw[<-z] at M;exact M)
     have n2:q'≠s':=λz=>g.irr q' (by rw[<-z] at N;exact N)
     have n3:s'≠p:=λz=>g.irr s' (by rw[<-z] at O;exact O)
     exact#[by simp[n1,n2,n3.symm],rfl]
    have NT:=inl l (eF I);refine#[o,l,rfl,_,rfl,rfl,#[XO.2,λy n=>by rw[v];exact NT y n],?_]
    refine hA _ #[eY o l,_,rfl,by rw[oO];exact v,λi h=>L i (mF _ _ i h),λj' l' zK pM x' xN Cz=>?_]
    by_cases z:j'=j
    .subst z
     rw[I] at pM;cases pM;exact Ed XO.1 (λy n=>by rw[v];exact NT y n) xN λy n ne=>lj (by rw[v,G]) L (by rw[G];exact NT y n) (Cz y n ne)
    .refine lj (oO _ _) (mF _ _) ?_ (hh j' l' (by lia) pM x' xN Cz)
     rw[v];exact inl l' (eF pM) x' xN
   .rintro _ ⟨o,o6,rfl,v,L,hh⟩
    have le:o.length=u.length:=by rw[v,G]
    obtain⟨j,hj⟩:=mU (dO.mpr #[r,J,rfl]:r.map (·.1)∈dj t)
    have xl:x<c.length:=by
     obtain⟨p,q',s',e,M,N,O⟩:=lm _ (eF hj);rw[e] at C;simp only[b8,vA,abf] at C
     rcases C with rfl|rfl|rfl
     .exact bx M
     .exact bx N
     .exact bx O
    have dx:f7 o x≠none:=hh j _ (by rw[aV];exact(cX.mp hj).1) hj x C ny
    refine#[qg o,FI (i:=x) le.symm L ((Fp (by rw[G];exact xl)).mp nx) (λz=>dx ((Fp (by rw[v];exact xl)).mpr z)),o,o6,rfl,v,lj le L (by rw[G];exact pl) d1,lj le L (by rw[G];exact ql) d2,rfl]
  .exact#[_,rfl,q u]
def yk:FnOk P w Z.K mg base cz 1 T.m_turns.f T.m_turns.fd ["self"] (sQ Z 1 O2):=by
 have d:=qj.nd;refine ub 1 T.m_turns.F qj [0] (by decide) (λb R h=>by obtain⟨_,rfl,_⟩:=h;rfl) (λe A outer s H E b R c h=>?_)
 have g:=c.units;refine#[_,(aq (MF (Mz (NC:= ["row"]) (src:= [none]) rfl (qv (ao jA)) trivial (bK (rR T.W (aa 0))) (λ_ _ _=>(bX 0 (show(["row"]:List Str).Nodup from by decide+kernel))) (λ_ _ _=>e8) (λ_ _ _=>(lQ rJ rfl T.B.list nk (ae (aa 0) ag)))))),?_]
 obtain⟨a,rfl,i,q⟩:=h;exact#[_,rfl,a,rfl,jw (ρ:= [none]) av av a _ (λy j Y h=>#[_,rfl,h]) rfl (small (by lia)) λk=>q]
def Km:∀n:Nat,n<=14->Gv (.int (Builtin.bitAnd (n:Int) 1))=decide (n%2=1):=by decide
def LM(a b c:Addr):GR:=λe P R=>∃(w:W),e= [.fX w]/\jP w/\(w.length<3->R (.err a [] []))/\(3<=w.length->¬kc w->R (.err b ["counted"] [EX w]))/\
 (3<=w.length->kc w->(∀k l,(f9 w)[k]? =some l->l.length≠3->(∀m l,m<k->(f9 w)[m]? =some l->l.length=3)->R (.err c ["land"] [ai k]))/\((∀l∈f9 w,l.length=3)->∀d,P d))
def vQ:FnOk P w Z.K mg base (vG P w) 7 T.d_three_dyes.f T.d_three_dyes.fd ["web"] (lC Z (LM T.e_TooSmall T.e_NotPlane T.e_NotFilled)):=by
 have o:=oH.nd;refine uc T.d_three_dyes.F oH [0,0,0] (by decide) (λp R q h=>by obtain⟨_,rfl,_⟩:=h;rfl) (λC A outer s H E p R q i h=>?_)
 have G:=i.units
 refine#[_,(ah (bL (bo yh (gI T.W (aa 0) T.m_many.m (jy T) (i.mono (by decide)) T.m_many.b) ax (bD _)) (aq (Hn rfl T.k_TooSmall T.q_TooSmall T.g_TooSmall)) aW)
   (ah (t8 T.d_need_plane (vP T) i (ae (aa 0) ag))
   (ah (t8 T.d_need_filled (uE T) i (ae (aa 0) (ae fz ag)))
   (ah (cK rfl PassesOwn.leaving (eB rfl T.B.enumerate (ae (gI T.W (aa 0) T.m_turns.m ((yk T).imp Vb) (i.mono (by decide)) T.m_turns.b) ag)) (dY 2 rfl (aM (aH 1 o) (aM (aH 2 o) b7))) (aq (bL (dJ (aI N4 (aK bF rfl T.B.len bE (ae (aa 2) ag)) ax)) (aq (aN (cD (ae lS (ae (aa 1) (ae (aa 2) ag)))))) aW)))
   (aq (aN (cD (ae lS (ae (aQ T.d_dyed_by_lands ((qN T).imp Vb) i (ae (aa 0) ag)) ag))))))))),?_]
 obtain⟨a,rfl,ok,r,t,u⟩:=h;obtain⟨g,I,J⟩:=id ok;refine#[_,rfl,a,rfl,a,rfl,_,rfl,cc (λe=>r ?_) (λe=>?_)]
 .have:(a.length:Int)<3:=Pi e
  lia
 have L:¬(a.length:Int)<3:=SZ e;refine#[_,rfl,a,rfl,ok,λc=>?_,λc=>t (by lia) c]
 obtain⟨v,k⟩:=u (by lia) c
 refine#[_,rfl,a,rfl,ok,v,λall=>?_];have k:=k all;refine#[_,rfl,a,rfl,a,rfl,by lia,?_]
 refine bM (λj x=>∃l n,x= [some (.fX a),l,n]) #[_,_,rfl] ?_ ?_
 .rintro j d _ y ⟨l,n,rfl⟩ A z
  obtain⟨M,rfl⟩:=yR y;have N:=fg g j;exists rfl,rfl;exists _,rfl;dsimp only[fJ,jQ,av];refine(?_:Sr (.int (Builtin.bitAnd (((row a j).map ai).length:Int) 1))=true/\_);exists rfl;rw[aV,Km _ (by lia)]
  refine cc (λe=>?_) (λe=>z _ #[_,_,rfl]);exact#[_,rfl,_,rfl,by show 3<=sizeLine;decide,k _]
 .rintro _ ⟨l,n,rfl⟩
  exact#[_,rfl,a,rfl,ok,by lia,all,λos=>#[by show 2<=sizeLine;decide,k _]]
variable {P:Program} {w:World} {mg:Str->Option Value} {base:Heap} {Z:DC} (T:Txt Z mg)
def RB:dA:=λa P=>∃(w:W),a= [aO w]/\Good w/\1<=w.length/\w.length<=14/\P (.fX w)
def DB:FnOk P w Z.K mg base cz 6 T.d__law_web.f T.d__law_web.fd ["_law_turns_here"] (aU Z RB):=by
 have i:=tK.nd;refine bp T.d__law_web.F tK [0] (by decide) (λc R h=>by obtain⟨_,rfl,_⟩:=h;rfl) (λj A outer s H E c R a h=>?_)
 have k:=a.units;refine#[_,(aq (aN (Mx T.mkW (uF T) (a.mono (by decide)) rfl T.mC T.m___init__b (ae (qy (NC:= ["_law_row"]) (src:= [none]) rfl (qv (ao ku)) trivial (bK (aa 0)) (λ_ _ _=>(bX 0 (show(["_law_row"]:List Str).Nodup from by decide+kernel))) (λ_ _ _=>e8) (λ_ _ _=>(lQ rJ rfl T.B.list nk (ae (aa 0) ag)))) ag)))),?_]
 obtain⟨b,rfl,g,d,e,q⟩:=h;refine#[_,rfl,jw (ρ:= [none]) av av b _ (λy l Y h=>#[_,rfl,h]) rfl (small (by lia)) λm=>?_]
 exact#[b,rfl,g,d,e,q]
def LN:dA:=λa P=>∃(b:List Int),a= [.qT b]/\∀w,jP w->P (aO w)
def yq:FnOk P w Z.K mg base cz 2 T.d__law_turns.f T.d__law_turns.fd ["_law_script"] (aU Z LN):=by
 have b:=ot.nd;refine bp T.d__law_turns.F ot [0,0,0,0] (by decide) (λe R h=>by obtain⟨_,rfl,_⟩:=h;rfl) (λx A outer s H E e R a h=>?_)
 have i:=a.units
 refine#[_,(ah (bb false 1 b (aQ T.d__law_drawn (nY T) a (ae (aQ T.d__law_cell_at (iP T) a (ae (aa 0) (ae ax ag))) ag)))
   (ah (bL (bo (kM i) (aI dM (aQ T.d__law_cell_at (iP T) a (ae (aa 0) (ae ax ag))) ax) ax (bD _)) (aq (aN (aQ T.d__law_tied_turns (pO T) a (ae (aI cg ax (aI dM (aa 1) ax)) (ae (aI fC (aa 1) ax) ag))))) aW)
   (ah (v7 (aQ T.d__law_grown (yn T) a (ae (aa 1) (ae ax ag))) (dY 2 rfl (aM (aH 2 b) (aM (aH 3 b) b7))))
   (aq (aN (aQ T.d__law_named (yp T) a (ae (aa 2) (ae (aQ T.d__law_drawn (nY T) a (ae (aQ T.d__law_cell_at (iP T) a (ae (aa 0) (ae ax ag))) ag)) ag)))))))),?_]
 obtain⟨c,rfl,q⟩:=h;refine#[_,rfl,c,0,rfl,λj=>#[j,rfl,λv=>#[trivial,?_]]];refine#[_,rfl,c,2,rfl,λy=>#[(by show(0:Int)<2;decide),Hr #[_,rfl,cc (λ_=>?_) (λ_=>?_)]]]
 .have m:=jY v 14 (by decide)
  obtain⟨n,k,d⟩:∃n:Nat,1+v%14=(n:Int)/\n<=14/\1<=n:=#[(1+v%14).toNat,by lia,by lia,by lia]
  refine#[_,rfl,(by show(0:Int)<14;decide),_,rfl,#[by decide,by decide],?_]
  dsimp only[fJ];rw[show D.int (1+v%14)=ai n by unfold ai;rw[k]]
  exact#[n,_,rfl,d.2,d.1,λw g l=>q w #[g,by lia,by lia]]
 .refine#[_,rfl,v,rfl,λw z G o=>#[rfl,rfl,?_]]
  have g:=G.g;have p:3<=w.length:=by have:=G.len;have:=G.Yk;lia
  exact#[_,rfl,_,rfl,c,1,rfl,λr=>#[r,rfl,λu=>#[w,u,rfl,g,p,o,λF t B=>q F #[t,by lia,by lia]]]]
def D0:D:= .tup [.lst [.bl true, .bl true, .bl false, .bl false, .bl false], .lst []]
noncomputable def Hd(w:W):D:= .tup [.lst [.bl true, .bl false, .bl true, .bl false, .bl false], .lst [.int (w.length:Int), .int (tc w:Int), .int ((f9 w).length:Int)]]
def Ip(k:Nat):D:= .tup [.lst [.bl true, .bl false, .bl false, .bl true, .bl false], .lst [ai k]]
def Hl:D:= .tup [.lst [], .lst []]
def Cases(w:W)(P:D->Prop):Prop:=(w.length<3->P D0)/\(3<=w.length->¬kc w->P (Hd w))/\(3<=w.length->kc w->(∀k l,(f9 w)[k]? =some l->l.length≠3->(∀m l,m<k->(f9 w)[m]? =some l->l.length=3)->P (Ip k))/\((∀l∈f9 w,l.length=3)->P Hl))
def UI{P:D->Prop}(h:P (.bl (!decide (a=n+c)))):dC (.int c) d (λb=>wQ (.int n) b (λb=>wV (.int a) b P)):=wW h
def OW:dA:=λa P=>∃(w:W),a= [aO w]/\jP w/\Cases w P
def Dz:FnOk P w Z.K mg base cz 3 T.d__law_due.f T.d__law_due.fd ["_law_turns_here"] (aU Z OW):=by
 have i:=tJ.nd;refine bp T.d__law_due.F tJ [0,0,0,0,0] (by decide) (λL R h=>by obtain⟨_,rfl,_⟩:=h;rfl) (λaX A outer s H E L R v h=>?_)
 have y:=v.units
 refine#[_,(ah (bb false 1 i (aQ T.d__law_lands (yo T) v (ae (aa 0) ag)))
   (ah (bL (bo yh (aK bF rfl T.B.len bE (ae (aa 0) ag)) ax (bD _)) (aq (aN (cD (ae (bW (ae c8 (ae c8 (ae c8 (ae c8 (ae c8 ag)))))) (ae (bW ag) ag))))) aW)
   (ah (bb false 2 i (bW (ae (aK bF rfl T.B.len bE (ae (aa 0) ag)) (ae (aI fC (aK (Jt rfl) rfl T.B.sum Js (ae (qy (NC:= ["_law_row"]) (src:= [none]) rfl (qv (ao kr)) trivial (bK (aa 0)) (λ_ _ _=>(bX 0 (show(["_law_row"]:List Str).Nodup from by decide+kernel))) (λ_ _ _=>e8) (λ_ _ _=>(aK bF rfl T.B.len bE (ae (aa 0) ag)))) ag)) ax) (ae (aK bF rfl T.B.len bE (ae (aa 1) ag)) ag)))))
   (ah (bL (bo (qM y) (aI cg (bV (aa 2) ax) (bV (aa 2) ax)) (aI cg (bV (aa 2) ax) ax) (bD _)) (aq (aN (cD (ae (bW (ae c8 (ae c8 (ae c8 (ae c8 (ae c8 ag)))))) (ae (aa 2) ag))))) aW)
   (ah (cK rfl GE (eB rfl T.B.enumerate (ae (aa 1) ag)) (dY 2 rfl (aM (aH 3 i) (aM (aH 4 i) b7))) (aq (bL (bo (qM y) (aK bF rfl T.B.len bE (ae (aa 4) ag)) ax (bD _)) (aq (aN (cD (ae (bW (ae c8 (ae c8 (ae c8 (ae c8 (ae c8 ag)))))) (ae (bW (ae (aa 3) ag)) ag))))) aW)))
   (aq (aN (cD (ae (bW ag) (ae (bW ag) ag)))))))))),?_]
 obtain⟨a,rfl,⟨g,M,N⟩,O,Q,S⟩:=h;refine#[_,rfl,a,rfl,g,M,N,λb r0 r1 ok U X=>#[trivial,?_]]
 have C:b=f9 a:=by
  unfold f9
  by_cases c:a.length=1
  .rw[tz c];exact X c
  .rw[mo c];exact(U (by lia)).1.symm
 have lw:(a.map av).length=a.length:=aV _;have p:(b.map av).length=b.length:=aV _;refine#[_,rfl,_,rfl,cc (λe=>?_) (λe=>?_)]
 .have:((a.map av).length:Int)<3:=Pi e
  exact#[by show 5<=sizeLine;decide,by show 0<=sizeLine;decide,by show 2<=sizeLine;decide,O (by lia)]
 have G:¬((a.map av).length:Int)<3:=SZ e;exists _,rfl;refine#[_,rfl,jw (ρ:= [none]) av (λr=> .int (r.length:Int)) a _ (λx I Y hY=>?_) rfl (small (by lia)) λaG=>?_]
 .refine#[_,rfl,?_]
  refine(?_:Y (.int ((x.map ai).length:Int)));rw[aV];exact hY
 refine#[a.map λr=>(r.length:Int),by rw[eH];rfl,#[by decide,by decide],?_]
 refine#[_,rfl,by show 3<=sizeLine;decide,trivial,?_]
 have es:(a.map λr=>(r.length:Int)).sum / 2=((tc a:Nat):Int):=by
  have t2:=RL g;have dg:=qw a;rw[Gp];lia
 have ec:D.lst [.int ((a.map av).length:Int), .int ((a.map λr=>(r.length:Int)).sum / 2), .int ((b.map av).length:Int)]= .lst [.int (a.length:Int), .int (tc a:Int), .int ((f9 a).length:Int)]:=by rw[lw,es,p,C]
 refine PD [some (aO a),some (.lst (b.map av)),some (.lst [.int (a.length:Int), .int (tc a:Int), .int ((f9 a).length:Int)]),none,none] (by rw[<-ec];rfl) ?_
 exists _,rfl,_,rfl,_,rfl,_,rfl,_,rfl,_,rfl;refine UI #[_,rfl,cc (λe=>?_) (λe=>?_)]
 .exact#[by show 5<=sizeLine;decide,_,rfl,by show 2<=sizeLine;decide,Q (by lia) (by unfold kc;simpa using e)]
 obtain⟨q4,q5⟩:=S (by lia) (by unfold kc;simpa using e)
 exists _,rfl;rw[C];refine bM (λj ρ=>∃q t,ρ= [some (aO a),some (.lst ((f9 a).map av)),some (.lst [.int (a.length:Int), .int (tc a:Int), .int ((f9 a).length:Int)]),q,t]/\∀m l,m<j->(f9 a)[m]? =some l->l.length=3) #[_,_,rfl,λm l h=>by lia] ?_ ?_
 .rintro j d _ hd ⟨q,t,rfl,n⟩ A hA
  obtain⟨x,I,rfl⟩:=gz hd;obtain⟨l,o,rfl⟩:=cH I;have ll:(l.map ai).length=l.length:=aV _;exists rfl,rfl;exists _,rfl;dsimp only[fJ,jQ,av];refine Ic #[_,rfl,cc (λe=>?_) (λe=>hA _ #[_,_,rfl,λm l' hm u=>?_])]
  .have G:l.length≠3:=λz=>by rw[ll,z] at e;simp at e
   exact#[by show 5<=sizeLine;decide,_,rfl,by show 1<=sizeLine;decide,by show 2<=sizeLine;decide,q4 j l o G n]
  .by_cases z:m=j
   .subst z
    rw[o] at u;cases u
    have:((l.map ai).length:Int)=3:=by simpa using e
    lia
   .exact n m l' (by lia) u
 .rintro _ ⟨q,t,rfl,n⟩
  refine#[by show 0<=sizeLine;decide,by show 0<=sizeLine;decide,by show 2<=sizeLine;decide,q5 λl o=>?_]
  obtain⟨k,J⟩:=mU o;refine n k l ?_ J;rw[iM,aV];exact(cX.mp J).1
def LK(T:Txt Z mg):dA:=λa P=>∃(c:Addr)(b:List Str)(l:List D),a= [.err c b l]/\(c=T.e_TooSmall\/c=T.e_NotPlane\/c=T.e_NotFilled)/\P (.bl false)
def uD:Pt P w Z.K mg base 1 T.d__law_others.f T.d__law_others.fd ["_law_e"] (aU Z (LK T)):=by
 have d:=mM.nd;refine KN T.d__law_others.F mM [0] (by decide) (λa R h=>by obtain⟨_,_,_,rfl,_⟩:=h;rfl) (λe A outer s H a R g h=>?_)
 refine#[_,(ah (bL (DW.dt (nE (dJ (bR T.iX (.own _) (d9 T.g_Alike) (aa 0) rfl T.B.isinstance)) (nE (dJ (bR T.iX (.own _) (d9 T.g_TooFew) (aa 0) rfl T.B.isinstance)) (nE (dJ (bR T.iX (.own _) (d9 T.g_NotFree) (aa 0) rfl T.B.isinstance)) (v8 (dJ (bR T.iX (.own _) (d9 T.g_Odd) (aa 0) rfl T.B.isinstance))))))) (aq (aN c8)) aW)
   (ah (bL (DW.dt (nE (dJ (bR T.iX (.own _) (d9 T.g_NoWeb) (aa 0) rfl T.B.isinstance)) (nE (dJ (bR T.iX (.own _) (d9 T.g_NoText) (aa 0) rfl T.B.isinstance)) (nE (dJ (bR T.iX (.own _) (d9 T.g_NoCorner) (aa 0) rfl T.B.isinstance)) (v8 (dJ (bR T.iX (.own _) (d9 T.g_NoRing) (aa 0) rfl T.B.isinstance))))))) (aq (aN c8)) aW)
   (aq (aN (My (bR T.iX (.own _) (d9 T.g_Bridge) (aa 0) rfl T.B.isinstance) (BX (bR T.iX (.own _) (d9 T.g_Shared) (aa 0) rfl T.B.isinstance))))))),?_]
 obtain⟨c,i,l,rfl,b,q⟩:=h
 rcases b with rfl|rfl|rfl
 .have x:=T.q_TooSmall.cls
  refine#[_,rfl,x,_,T.z_TooSmall_Alike,rfl,aZ #[_,rfl,x,_,T.z_TooSmall_TooFew,rfl,aZ #[_,rfl,x,_,T.z_TooSmall_NotFree,rfl,aZ #[_,rfl,x,_,T.z_TooSmall_Odd,rfl,aZ ?_]]]];refine#[_,rfl,x,_,T.z_TooSmall_NoWeb,rfl,aZ #[_,rfl,x,_,T.z_TooSmall_NoText,rfl,aZ #[_,rfl,x,_,T.z_TooSmall_NoCorner,rfl,aZ #[_,rfl,x,_,T.z_TooSmall_NoRing,rfl,aZ ?_]]]];exact#[_,rfl,x,_,T.z_TooSmall_Bridge,_,rfl,aZ #[_,rfl,x,_,T.z_TooSmall_Shared,q]]
 .have x:=T.q_NotPlane.cls
  refine#[_,rfl,x,_,T.z_NotPlane_Alike,rfl,aZ #[_,rfl,x,_,T.z_NotPlane_TooFew,rfl,aZ #[_,rfl,x,_,T.z_NotPlane_NotFree,rfl,aZ #[_,rfl,x,_,T.z_NotPlane_Odd,rfl,aZ ?_]]]];refine#[_,rfl,x,_,T.z_NotPlane_NoWeb,rfl,aZ #[_,rfl,x,_,T.z_NotPlane_NoText,rfl,aZ #[_,rfl,x,_,T.z_NotPlane_NoCorner,rfl,aZ #[_,rfl,x,_,T.z_NotPlane_NoRing,rfl,aZ ?_]]]];exact#[_,rfl,x,_,T.z_NotPlane_Bridge,_,rfl,aZ #[_,rfl,x,_,T.z_NotPlane_Shared,q]]
 .have x:=T.q_NotFilled.cls
  refine#[_,rfl,x,_,T.z_NotFilled_Alike,rfl,aZ #[_,rfl,x,_,T.z_NotFilled_TooFew,rfl,aZ #[_,rfl,x,_,T.z_NotFilled_NotFree,rfl,aZ #[_,rfl,x,_,T.z_NotFilled_Odd,rfl,aZ ?_]]]];refine#[_,rfl,x,_,T.z_NotFilled_NoWeb,rfl,aZ #[_,rfl,x,_,T.z_NotFilled_NoText,rfl,aZ #[_,rfl,x,_,T.z_NotFilled_NoCorner,rfl,aZ #[_,rfl,x,_,T.z_NotFilled_NoRing,rfl,aZ ?_]]]];exact#[_,rfl,x,_,T.z_NotFilled_Bridge,_,rfl,aZ #[_,rfl,x,_,T.z_NotFilled_Shared,q]]
def J9:dA:=λa P=>∃(w:W),a= [aO w]/\jP w/\Cases w P
def Ab:FnOk P w Z.K mg base cz 8 T.d__law_told.f T.d__law_told.fd ["_law_turns_here"] (aU Z J9):=by
 have a:=qk.nd;refine bp T.d__law_told.F qk [0,0,1,0] (by decide) (λm R h=>by obtain⟨_,rfl,_⟩:=h;rfl) (λy A outer s H E m R e h=>?_)
 have z:=e.units
 refine#[_,(ah (bb false 1 a (bW ag))
   (ah (ju 2 a (iU ag))
   (ah (P6 (λ_ _=>by exact(aq (t8 T.d_three_dyes (vQ T) e (ae (aQ T.d__law_web (DB T) e (ae (aa 0) ag)) ag)))) aW (TF 3 a T.g_MapError T.q_MapError (λ_=>by exact(ah (ju 2 a (iU (ae (bR T.iX (.blt _) (US T.x_ValueError) (aa 3) rfl T.B.isinstance) (ae (bR T.iX (.own _) (d9 T.g_TooSmall) (aa 3) rfl T.B.isinstance) (ae (bR T.iX (.own _) (d9 T.g_NotPlane) (aa 3) rfl T.B.isinstance) (ae (bR T.iX (.own _) (d9 T.g_NotFilled) (aa 3) rfl T.B.isinstance) ag))))))
   (ah (o9 false 2 (My (bR T.iX (.own _) (d9 T.g_TooMany) (aa 3) rfl T.B.isinstance) (BX (Kx T.d__law_others (uD T) e.toH (ae (aa 3) ag)))))
   (ah (bL (DW.dt (B2 (dJ (bR T.iX (.own _) (d9 T.g_NotPlane) (aa 3) rfl T.B.isinstance)) (xk (dJ (v5 "tuple" (wZ T.iX (aa 3)) rfl T.B.isinstance rfl T.B.tuple Kn))))) (aq (bb false 1 a (lQ rJ rfl T.B.list nk (ae (wZ T.iX (aa 3)) ag)))) aW)
   (aq (bL (dJ (bR T.iX (.own _) (d9 T.g_NotFilled) (aa 3) rfl T.B.isinstance)) (aq (bb false 1 a (bW (ae (wZ T.iX (aa 3)) ag)))) aW)))))) P1))
   (nA 2
   (aq (aN (cD (ae (aa 2) (ae (aa 1) ag))))))))),?_]
 obtain⟨i,rfl,ok,n,o,j⟩:=h;obtain⟨g,p,r⟩:=id ok;refine#[by show 0<=sizeLine;decide,trivial,by show 0<=sizeLine;decide,?_]
 refine#[_,rfl,i,rfl,g,p,r,i,rfl,ok,λb=>?_,λb c=>?_,λb c=>#[λk l t u v=>?_,λall d=>?_]]
 .have q:=n b
  refine#[T.q_TooSmall.obj,true,T.m_TooSmall_MapError,cG ?_];have x:=T.q_TooSmall.cls;refine#[_,rfl,x,_,T.z_TooSmall_ValueError,_,rfl,x,_,T.z_TooSmall_TooSmall,_,rfl,x,_,T.z_TooSmall_NotPlane,_,rfl,x,_,T.z_TooSmall_NotFilled,by show 4<=sizeLine;decide,?_]
  refine#[_,rfl,_,rfl,x,_,T.z_TooSmall_TooMany,_,rfl,aZ #[_,rfl,_,_,_,rfl, .inl rfl,?_]];refine#[trivial,by show 4<sizeLine;decide,?_]
  refine#[_,rfl,x,_,T.z_TooSmall_NotPlane,rfl,aZ (aZ ?_)];refine#[_,rfl,x,_,T.z_TooSmall_NotFilled,rfl,aZ ?_];exact#[#[_,rfl],_,rfl,_,rfl,by show 2<=sizeLine;decide,q]
 .have q:=o b c
  refine#[T.q_NotPlane.obj,true,T.m_NotPlane_MapError,cG ?_];have x:=T.q_NotPlane.cls;refine#[_,rfl,x,_,T.z_NotPlane_ValueError,_,rfl,x,_,T.z_NotPlane_TooSmall,_,rfl,x,_,T.z_NotPlane_NotPlane,_,rfl,x,_,T.z_NotPlane_NotFilled,by show 4<=sizeLine;decide,?_]
  refine#[_,rfl,_,rfl,x,_,T.z_NotPlane_TooMany,_,rfl,aZ #[_,rfl,_,_,_,rfl, .inr (.inl rfl),?_]];refine#[trivial,by show 4<sizeLine;decide,?_]
  refine#[_,rfl,x,_,T.z_NotPlane_NotPlane,rfl,cG ?_];refine#[_,rfl,x,T.n_NotPlane_counted,_,rfl,rfl,rfl,cG ?_];exists _,rfl,x,T.n_NotPlane_counted,_,rfl,trivial;refine#[_,rfl,x,_,T.z_NotPlane_NotFilled,rfl,aZ ?_];exact#[#[_,rfl],_,rfl,_,rfl,by show 2<=sizeLine;decide,q]
 .have q:=(j b c).1 k l t u v
  refine#[T.q_NotFilled.obj,true,T.m_NotFilled_MapError,cG ?_];have x:=T.q_NotFilled.cls;refine#[_,rfl,x,_,T.z_NotFilled_ValueError,_,rfl,x,_,T.z_NotFilled_TooSmall,_,rfl,x,_,T.z_NotFilled_NotPlane,_,rfl,x,_,T.z_NotFilled_NotFilled,by show 4<=sizeLine;decide,?_]
  refine#[_,rfl,_,rfl,x,_,T.z_NotFilled_TooMany,_,rfl,aZ #[_,rfl,_,_,_,rfl, .inr (.inr rfl),?_]];refine#[trivial,by show 4<sizeLine;decide,?_]
  refine#[_,rfl,x,_,T.z_NotFilled_NotPlane,rfl,aZ (aZ ?_)];refine#[_,rfl,x,_,T.z_NotFilled_NotFilled,rfl,cG ?_];refine#[_,rfl,x,T.n_NotFilled_land,_,rfl,by show 1<=sizeLine;decide,trivial,?_]
  exact#[#[_,rfl],_,rfl,_,rfl,by show 2<=sizeLine;decide,q]
 .exact#[#[_,rfl],_,rfl,_,rfl,by show 2<=sizeLine;decide,(j b c).2 all]
end GW
namespace L2
open PySem PySem.Spec PyProof.Rows
def gw(K:aj)(x:Str)(st:Stmt):Prop:=∃(d:Addr)(b c:Option Addr)(e:Array (Option Value))(f kV g h a i:Value),PB K x d/\zi K x x st d b c e f kV g h a i/\aE K a x=true/\aA K (.ref d)=true
def GY(K:aj)(C:Addr)(m a:Str)(st:Stmt):Prop:=∃(d:Addr)(c e:Option Addr)(f:Array (Option Value))(g kV h i b j:Value),am K (.ref C) m=some (some (.ref d))/\bj K (.ref d)=true/\zi K m a st d c e f g kV h i b j/\aE K b a=true/\aA K (.ref d)=true
abbrev pH(K:aj)(x:Str):Prop:=aD K mainGlobals x=some none
section
variable {K:aj} {h:Heap} {mg:Str->Option Value}
def ZD{x:Str}{st:Stmt}{d:Addr}{e f:Option Addr}{g:Array (Option Value)}{i kV j m b n:Value}(a:PB K x d)(l:zi K x x st d e f g i kV j m b n)(c:aE K b x=true)(k:aA K (.ref d)=true):gw K x st:=#[_,_,_,_,_,_,_,_,_,_,a,l,c,k]
def mfH{C:Addr}{m b:Str}{st:Stmt}{d:Addr}{g i:Option Addr}{j:Array (Option Value)}{n kV o p e q:Value}(a:am K (.ref C) m=some (some (.ref d)))(f:bj K (.ref d)=true)(l:zi K m b st d g i j n kV o p e q)(c:aE K e b=true)(k:aA K (.ref d)=true):GY K C m b st:=#[_,_,_,_,_,_,_,_,_,_,a,f,l,c,k]
noncomputable def eZ.ch{x:Str}{st:Stmt}{ps:List Str}(X:K.In h)(G:h.Ns mainGlobals mg)(e:gw K x st)
  (b:∀(kV d g:Value)(i:Option Addr)(j m:Value)(f:List Value),f.length=ps.length->bindArgs (b0 x x (hJ st) (cU st) (ao st) .none kV d g i j m) #[f,[]]=pure (ps.zip f)):eZ K mg x st ps:=
 Classical.choice (by
  obtain⟨_,_,_,_,_,_,_,_,_,_,a,l,c,k⟩:=e;exact#[.of X G a l c k b])
noncomputable def Br.ch{Z:DC}{m d:Str}{st:Stmt}{ps:List Str}(e:GY Z.K Z.C m d st)
  (b:∀(kV g j:Value)(n:Option Addr)(o p:Value)(i:List Value),i.length=ps.length->bindArgs (b0 m d (hJ st) (cU st) (ao st) .none kV g j n o p) #[i,[]]=pure (ps.zip i)):Br Z m d st ps:=
 Classical.choice (by
  obtain⟨_,_,_,_,_,_,_,_,_,_,a,f,l,c,k⟩:=e;exact#[.of a f l c k b])
end
end L2
namespace GW
open PySem L2 Wb
variable {P:Program} {w:World} {mg:Str->Option Value} {base:Heap} {Z:DC} (T:Txt Z mg)
open Classical in
noncomputable def nB(w:W):D:=if w.length<3 then D0 else if kc w then(match (f9 w).findIdx? (λl=>decide (l.length≠3)) with|some k=>Ip k|none=>Hl) else Hd w
def As{w:W}{P:D->Prop}(h:P (nB w)):Cases w P:=by
 unfold nB at h;refine#[λa=>by rwa [tz a] at h,λa c=>by rwa [mo (by lia),mo c] at h,λa c=>?_]
 rw[mo (by lia),tz c] at h
 refine#[λk l b d f=>?_,λall=>?_]
 .have:(f9 w).findIdx? (λl=>decide (l.length≠3))=some k:=by
   obtain⟨g,e⟩:=cX.mp b;rw[List.findIdx?_eq_some_iff_getElem];refine#[g,by rw[e];simpa using d,λj i=>?_]
   have:=f j _ i (dD (by lia))
   simpa using this
  rwa [this] at h
 .have:(f9 w).findIdx? (λl=>decide (l.length≠3))=none:=by
   rw[List.findIdx?_eq_none_iff];intro l b
   have:=all l b
   simpa using this
  rwa [this] at h
def Ho(w:W):nB w=D0\/nB w=Hd w\/(∃k,nB w=Ip k)\/nB w=Hl:=by
 unfold nB
 split
 .exact .inl rfl
 .split
  .split
   .exact .inr (.inr (.inl #[_,rfl]))
   .exact .inr (.inr (.inr rfl))
  .exact .inr (.inl rfl)
structure Sh (d:D):Prop where
 two:∃(a:D)(is:List Int),d= .tup [a, .lst (is.map D.int)]/\is.length<=3
 self:∀R:D->Prop,R (.bl true)->Kt d d R
def oZ(p:PyData){P:D->Prop}(a:d.py=some p)(b:PyData.eqv p p=true)(c:p.depth<=64)(h:P (.bl true)):Kt d d P:=by
 exists p,p,a,a,c;rw[mo eO,b];exact h
def Hq(w:W):Sh (nB w):=by
 rcases Ho w with e|e| ⟨k,e⟩ |e<;>rw[e]
 .exact#[#[_,[],rfl,by decide],λR h=>oZ _ rfl (by simp[PyData.eqv,PyData.eqvAll]) (by simp[PyData.depth,PyData.depthAll]) h]
 .exact#[#[_,[(w.length:Int),(tc w:Int),((f9 w).length:Int)],rfl,bu 3],λR h=>oZ _ rfl (by simp[PyData.eqv,PyData.eqvAll]) (by simp[PyData.depth,PyData.depthAll]) h]
 .exact#[#[_,[(k:Int)],rfl,by show 1<=3;decide],λR h=>oZ _ rfl (by simp[PyData.eqv,PyData.eqvAll]) (by simp[PyData.depth,PyData.depthAll]) h]
 .exact#[#[_,[],rfl,by decide],λR h=>oZ _ rfl (by simp[PyData.eqv,PyData.eqvAll]) (by simp[PyData.depth,PyData.depthAll]) h]
def Pg{w:W}{P:D->Prop}(ok:jP w)(h:P (nB w)):J9 [aO w] P:=#[w,rfl,ok,As h]
def P7{w:W}{P:D->Prop}(ok:jP w)(h:P (nB w)):OW [aO w] P:=#[w,rfl,ok,As h]
def QQ:FnOk P w Z.K mg base cz 9 T.d_law.f T.d_law.fd ["_law_script"] (aU Z J8):=by
 have c:=J7.nd;refine bp T.d_law.F J7 [0,0,0,0] (by decide) (λi R h=>by obtain⟨_,rfl,_⟩:=h;rfl) (λm A outer s H E i R b h=>?_)
 have j:=b.units
 refine#[_,(ah (bb false 1 c (aQ T.d__law_turns (yq T) b (ae (aa 0) ag)))
   (ah (v7 (aQ T.d__law_told (Ab T) b (ae (aa 1) ag)) (dY 2 rfl (aM (aH 2 c) (aM (aH 3 c) b7))))
   (ah (bL (bo Dw c8 (qy (NC:= ["_law_number"]) (src:= [none]) rfl (qv (ao DV)) trivial (bK (aa 3)) (λ_ _ _=>(bX 0 (show(["_law_number"]:List Str).Nodup from by decide+kernel))) (λ_ _ _=>e8) (λ_ _ _=>(v5 "bool" (aa 0) rfl T.B.isinstance rfl T.B.bool EN))) (by with_unfolding_all rfl)) (aq (aN c8)) aW)
   (aq (aN (Jx (kM j) (cD (ae (aa 2) (ae (aa 3) ag))) (aQ T.d__law_due (Dz T) b (ae (aa 1) ag)) (bD _))))))),?_]
 obtain⟨k,rfl,n,q⟩:=h;refine#[_,rfl,k,rfl,λe ok=>#[trivial,?_]];exists _,rfl;dsimp only[fJ];refine Pg ok ?_;obtain⟨⟨a,d,g,o⟩,self⟩:=Hq e
 have self:∀R:D->Prop,R (.bl true)->Kt (.tup [a, .lst (d.map D.int)]) (nB e) R:=λR h=>by
  have:=self R h
  rw[g] at this ⊢;exact this
 rw[g];exists rfl,rfl;refine#[_,rfl,jw (ρ:= [none]) D.int (λ_=> .bl false) d _ (λy p Y h=>#[_,rfl,rfl,h]) rfl (small (by lia)) λr=>?_]
 have l:inD (.bl true) (d.map λ_=>(.bl false:D))=false:=by
  unfold inD;rw[acN,vy];simp[i4]
 refine#[rfl,by rw[acO,y3];intro x _;rfl,_,rfl,?_]
 rw[mo eO,l];refine aZ ?_;refine#[_,rfl,_,rfl,by show 2<=sizeLine;decide,?_]
 exists _,rfl;dsimp only[fJ];refine P7 ok ?_;exact self _ q
set_option hygiene false in
local macro_rules| `(tactic|and_intros)=> `(tactic| (intro _ _ _ _ _ _ _ hl;first| (obtain⟨_,rfl⟩:=L2.Su hl;rfl) | (obtain⟨_,_,rfl⟩:=L2.Sv hl;rfl) | (obtain⟨_,_,_,rfl⟩:=L2.XG hl;rfl) | (obtain⟨_,_,_,_,rfl⟩:=L2.aan hl;rfl) | (obtain⟨_,_,_,_,_,rfl⟩:=L2.aao hl;rfl)))
def all_mk{l:cm}{w:World}(X:K.In h)(G:h.Ns mainGlobals f)(z:f "law"=some (.ref fa)) 
  
  
  
  
  
  
  
  
  
  
  
  
  
  
  
  
  
  
  
  
  
  
  
  (gC:aD K mainGlobals "Web"=some (some (.ref C)))
  (a0:gw K "round_from" kX)
  (a1:gw K "lands" og)
  (a2:gw K "count" yD)
  (a3:gw K "is_plane" n9)
  (a4:gw K "need_plane" kW)
  (a5:gw K "need_filled" j4)
  (a6:gw K "third_dyed" gk)
  (a7:gw K "dyed_by_lands" fW)
  (a8:gw K "three_dyes" kZ)
  (a9:gw K "is_among" n6)
  (Y8:gw K "alien_fault" j1)
  (Y9:gw K "self_fault" kY)
  (Za:gw K "twice_fault" j5)
  (Zb:gw K "lone_fault" kU)
  (Zc:gw K "reached_from_first" di)
  (Zd:gw K "apart_fault" j2)
  (Ze:gw K "first_fault" j3)
  (Zf:gw K "_law_cell_at" jh)
  (Zg:gw K "_law_drawn" kQ)
  (Zh:gw K "_law_tied_turns" eX)
  (Zi:gw K "_law_grown" kR)
  (Zj:gw K "_law_behind" jZ)
  (Zk:gw K "_law_named" gf)
  (Zl:gw K "_law_lands" kS)
  (Zm:gw K "_law_web" ku)
  (Zn:gw K "_law_others" j0)
  (Zo:gw K "_law_turns" kT)
  (Zp:gw K "_law_due" kr)
  (Zq:gw K "_law_told" mB)
  (VJ:PB K "law" A)
  (N:zi K "law" "law" DV A X0 VM Yq XZ Xy Wd X7 R7 VS)
  (Zr:aE K R7 "law"=true)
  (O:aA K (.ref A)=true)
  (m0:am K (.ref C) "__init__"=some (some (.ref g)))
  (f0:bj K (.ref g)=true)
  (Q:zi K "__init__" "Web.__init__" fh g B E F H I J L Xx M)
  (R:aE K Xx "Web.__init__"=true)
  (S:aA K (.ref g)=true)
  (m1:GY K C "many" "Web.many" n5)
  (m2:GY K C "turns" "Web.turns" jA)
  (m3:GY K C "ties" "Web.ties" kq)
  (m4:GY K C "tied" "Web.tied" vk)
  (m5:GY K C "behind" "Web.behind" kP)
  (U:b6 K C Str.empty=true)
  (Qj:bd K C=true)
  (Y:cu K C=true)
  (saC:am K (.ref C) "__setattr__"=some (some (.builtin "object.__setattr__")))
  (mkC:cV K C=true)
  (kpC:aA K (.ref C)=true)
  (nR:am K (.ref C) "rows"=some none)
  (xn:aS K (.builtin "object.__class__") "__get__"=some (some (.builtin "getset_descriptor.__get__")))
  (xt:cF K (.builtin "object.__class__")=some true)
  (zVE:aD K mainGlobals "ValueError"=some none)
  (r9:aD K mainGlobals "MapError"=some (some (.ref d)))
  (Fc:aD K mainGlobals "TooMany"=some (some (.ref i)))
  (Cc:aD K mainGlobals "TooSmall"=some (some (.ref c)))
  (KP:aD K mainGlobals "NoWeb"=some (some (.ref j)))
  (Cb:aD K mainGlobals "NotPlane"=some (some (.ref a)))
  (Hx:aD K mainGlobals "NoText"=some (some (.ref k)))
  (Ca:aD K mainGlobals "NoCorner"=some (some (.ref m)))
  (Hw:aD K mainGlobals "NoRing"=some (some (.ref n)))
  (KO:aD K mainGlobals "Alike"=some (some (.ref o)))
  (Hz:aD K mainGlobals "TooFew"=some (some (.ref p)))
  (Fb:aD K mainGlobals "NotFree"=some (some (.ref q)))
  (zG:aD K mainGlobals "NotFilled"=some (some (.ref b)))
  (Qf:aD K mainGlobals "Odd"=some (some (.ref r)))
  (Hv:aD K mainGlobals "Bridge"=some (some (.ref t)))
  (Hy:aD K mainGlobals "Shared"=some (some (.ref u)))
  (Ci:bd K d=true)
  (B9:am K (.ref d) "__getattribute__"=some (some (.builtin "BaseException.__getattribute__")))
  (Cd:am K (.ref d) "__getattr__"=some none)
  (DX:am K (.ref d) "__setattr__"=some (some (.builtin "object.__setattr__")))
  (BL:am K (.ref d) "__class__"=some (some (.builtin "object.__class__")))
  (BP:ce K d=some rF)
  (BN:rF.mro= .ref d:: [.type "ValueError", .type "Exception", .type "BaseException", .type "object"])
  (Di:K.lookup d=some (excClassObj Dr q_MapError d Ez BC rz xD D3 Aj Bx zy BU CM CP CU CY C3 "ValueError.__new__"))
  (BJ:rz= [.type "ValueError", .type "Exception", .type "BaseException", .type "object"])
  (sC:bd K c=true)
  (r8:am K (.ref c) "__getattribute__"=some (some (.builtin "BaseException.__getattribute__")))
  (sj:am K (.ref c) "__getattr__"=some none)
  (tG:am K (.ref c) "__setattr__"=some (some (.builtin "object.__setattr__")))
  (rL:am K (.ref c) "__class__"=some (some (.builtin "object.__class__")))
  (rP:ce K c=some rH)
  (rN:rH.mro= .ref c:: [.ref d, .type "ValueError", .type "Exception", .type "BaseException", .type "object"])
  (sT:K.lookup c=some (excClassObj Dt q_TooSmall c EB BE rB xF D5 Al Bz zB BW CO CT CW C1 C5 "ValueError.__new__"))
  (rE:rB= [.ref d, .type "ValueError", .type "Exception", .type "BaseException", .type "object"])
  (sA:bd K a=true)
  (r6:am K (.ref a) "__getattribute__"=some (some (.builtin "BaseException.__getattribute__")))
  (sh:am K (.ref a) "__getattr__"=some none)
  (tF:am K (.ref a) "__setattr__"=some (some (.builtin "object.__setattr__")))
  (rK:am K (.ref a) "__class__"=some (some (.builtin "object.__class__")))
  (rO:ce K a=some rG)
  (rM:rG.mro= .ref a:: [.ref d, .type "ValueError", .type "Exception", .type "BaseException", .type "object"])
  (sS:K.lookup a=some (excClassObj Ds q_NotPlane a EA BD rA xE D4 Ak By zA BV CN CQ CV CZ C4 "ValueError.__new__"))
  (rD:rA= [.ref d, .type "ValueError", .type "Exception", .type "BaseException", .type "object"])
  (p9:bd K b=true)
  (pZ:am K (.ref b) "__getattribute__"=some (some (.builtin "BaseException.__getattribute__")))
  (p5:am K (.ref b) "__getattr__"=some none)
  (qi:am K (.ref b) "__setattr__"=some (some (.builtin "object.__setattr__")))
  (pV:am K (.ref b) "__class__"=some (some (.builtin "object.__class__")))
  (pX:ce K b=some pU)
  (pW:pU.mro= .ref b:: [.ref d, .type "ValueError", .type "Exception", .type "BaseException", .type "object"])
  (qf:K.lookup b=some (excClassObj z9 q_NotFilled b Bu zp pS vL Ah yN zo wM zD zY zZ z0 z3 z4 "ValueError.__new__"))
  (pT:pS= [.ref d, .type "ValueError", .type "Exception", .type "BaseException", .type "object"])
  (sgM:aS K (.ref d) "__getattribute__"=some (some (.builtin "type.__getattribute__")))
  (rdM:cS K d (.type "type")=true)
  (ZU:da K (.ref d) (.type "type") "__init__"=some (.val (.builtin "ValueError.__init__")))
  (BG:aS K (.ref c) "__call__"=some (some (.builtin "type.__call__")))
  (Ef:cr K (.ref c) (.type "type")=some true)
  (CB:am K (.ref c) "__init__"=some (some (.builtin "ValueError.__init__")))
  (C7:aA K (.ref c)=true)
  (z_TooSmall_TooMany:ac K (.ref c) (.ref i)=some false)
  (z_TooSmall_NoWeb:ac K (.ref c) (.ref j)=some false)
  (z_TooSmall_NotPlane:ac K (.ref c) (.ref a)=some false)
  (z_TooSmall_NoText:ac K (.ref c) (.ref k)=some false)
  (z_TooSmall_NoCorner:ac K (.ref c) (.ref m)=some false)
  (z_TooSmall_NoRing:ac K (.ref c) (.ref n)=some false)
  (z_TooSmall_Alike:ac K (.ref c) (.ref o)=some false)
  (z_TooSmall_TooFew:ac K (.ref c) (.ref p)=some false)
  (z_TooSmall_NotFree:ac K (.ref c) (.ref q)=some false)
  (z_TooSmall_NotFilled:ac K (.ref c) (.ref b)=some false)
  (z_TooSmall_Odd:ac K (.ref c) (.ref r)=some false)
  (z_TooSmall_Bridge:ac K (.ref c) (.ref t)=some false)
  (z_TooSmall_Shared:ac K (.ref c) (.ref u)=some false)
  (z_TooSmall_ValueError:ac K (.ref c) (.type "ValueError")=some true)
  (m_TooSmall_MapError:bv K c (.ref d)=some true)
  (BF:aS K (.ref a) "__call__"=some (some (.builtin "type.__call__")))
  (Ee:cr K (.ref a) (.type "type")=some true)
  (CA:am K (.ref a) "__init__"=some (some (.ref x)))
  (C6:aA K (.ref a)=true)
  (B7:bj K (.ref x)=true)
  (sL:zi K "__init__" "NotPlane.__init__" fK x CF CH CK CD CG CI CJ sN CL)
  (sM:aE K sN "NotPlane.__init__"=true)
  (sI:aA K (.ref x)=true)
  (n_NotPlane_counted:am K (.ref a) "counted"=some none)
  (z_NotPlane_TooMany:ac K (.ref a) (.ref i)=some false)
  (z_NotPlane_TooSmall:ac K (.ref a) (.ref c)=some false)
  (z_NotPlane_NoWeb:ac K (.ref a) (.ref j)=some false)
  (z_NotPlane_NoText:ac K (.ref a) (.ref k)=some false)
  (z_NotPlane_NoCorner:ac K (.ref a) (.ref m)=some false)
  (z_NotPlane_NoRing:ac K (.ref a) (.ref n)=some false)
  (z_NotPlane_Alike:ac K (.ref a) (.ref o)=some false)
  (z_NotPlane_TooFew:ac K (.ref a) (.ref p)=some false)
  (z_NotPlane_NotFree:ac K (.ref a) (.ref q)=some false)
  (z_NotPlane_NotFilled:ac K (.ref a) (.ref b)=some false)
  (z_NotPlane_Odd:ac K (.ref a) (.ref r)=some false)
  (z_NotPlane_Bridge:ac K (.ref a) (.ref t)=some false)
  (z_NotPlane_Shared:ac K (.ref a) (.ref u)=some false)
  (z_NotPlane_ValueError:ac K (.ref a) (.type "ValueError")=some true)
  (m_NotPlane_MapError:bv K a (.ref d)=some true)
  (zq:aS K (.ref b) "__call__"=some (some (.builtin "type.__call__")))
  (An:cr K (.ref b) (.type "type")=some true)
  (zN:am K (.ref b) "__init__"=some (some (.ref y)))
  (z5:aA K (.ref b)=true)
  (zE:bj K (.ref y)=true)
  (qb:zi K "__init__" "NotFilled.__init__" fu y zQ zT zW zP zS zU zV qd zX)
  (qc:aE K qd "NotFilled.__init__"=true)
  (qa:aA K (.ref y)=true)
  (n_NotFilled_land:am K (.ref b) "land"=some none)
  (z_NotFilled_TooMany:ac K (.ref b) (.ref i)=some false)
  (z_NotFilled_TooSmall:ac K (.ref b) (.ref c)=some false)
  (z_NotFilled_NoWeb:ac K (.ref b) (.ref j)=some false)
  (z_NotFilled_NotPlane:ac K (.ref b) (.ref a)=some false)
  (z_NotFilled_NoText:ac K (.ref b) (.ref k)=some false)
  (z_NotFilled_NoCorner:ac K (.ref b) (.ref m)=some false)
  (z_NotFilled_NoRing:ac K (.ref b) (.ref n)=some false)
  (z_NotFilled_Alike:ac K (.ref b) (.ref o)=some false)
  (z_NotFilled_TooFew:ac K (.ref b) (.ref p)=some false)
  (z_NotFilled_NotFree:ac K (.ref b) (.ref q)=some false)
  (z_NotFilled_Odd:ac K (.ref b) (.ref r)=some false)
  (z_NotFilled_Bridge:ac K (.ref b) (.ref t)=some false)
  (z_NotFilled_Shared:ac K (.ref b) (.ref u)=some false)
  (z_NotFilled_ValueError:ac K (.ref b) (.type "ValueError")=some true)
  (m_NotFilled_MapError:bv K b (.ref d)=some true)
  (VR:aD K mainGlobals "__name__"=some (some (.str "law_mapdye_k66_not_plane_or_not_filled" YM)))
  (Zs:aD K mainGlobals "MOST_POINTS"=some (some (.int 14 Pe)))
  (YU:pH K "len")
  (RU:pH K "range")
  (YV:pH K "max")
  (YW:pH K "min")
  (GG:pH K "enumerate")
  (YZ:pH K "zip")
  (Pp:pH K "sorted")
  (YS:pH K "all")
  (Er:pH K "isinstance")
  (YT:pH K "int")
  (Vv:pH K "bool")
  (Vw:pH K "list")
  (RV:pH K "tuple")
  (YY:pH K "sum")
  (Jj:pH K "reversed")
  (YX:pH K "set")
  :∃fd:FuncData,(∀(s:Shared)(v:Value),BindsTo s fd #[[v],[]] [("_law_script",v)])/\∀base:Heap,K.In base->base.Ns mainGlobals f->FnOk l.prog w K f base cz 40 fa fd ["_law_script"] (L2.tP K):=by
 have e:=z.symm.trans (KF X G VJ);cases e;have E0:=jv (st:=fh) Q R S;have e0:=E0.binds (ps:= ["self","turns"]) (by and_intros)
 let Z:DC:=#[K,C]
 let T:Txt Z f:=#[#[GT X G YU,GT X G RU,GT X G YV,GT X G YW,GT X G GG,GT X G YZ,GT X G Pp,GT X G YS,GT X G Er,GT X G YT,GT X G Vv,GT X G Vw,GT X G RV,GT X G YY,GT X G Jj],GT X G YX, .ch X G a0 (by and_intros), .ch X G a1 (by and_intros), .ch X G a2 (by and_intros), .ch X G a3 (by and_intros), .ch X G a4 (by and_intros), .ch X G a5 (by and_intros), .ch X G a6 (by and_intros), .ch X G a7 (by and_intros), .ch X G a8 (by and_intros), .ch X G a9 (by and_intros), .ch X G Y8 (by and_intros), .ch X G Y9 (by and_intros), .ch X G Za (by and_intros), .ch X G Zb (by and_intros), .ch X G Zc (by and_intros), .ch X G Zd (by and_intros), .ch X G Ze (by and_intros), .ch X G Zf (by and_intros), .ch X G Zg (by and_intros), .ch X G Zh (by and_intros), .ch X G Zi (by and_intros), .ch X G Zj (by and_intros), .ch X G Zk (by and_intros), .ch X G Zl (by and_intros), .ch X G Zm (by and_intros), .ch X G Zn (by and_intros), .ch X G Zo (by and_intros), .ch X G Zp (by and_intros), .ch X G Zq (by and_intros), .of X G VJ N Zr O (by and_intros),#[#[U,Qj,Y,saC],nR],KF X G gC,g,_,E0,#[mkC,m0,f0,kpC],e0, .ch m1 (by and_intros), .ch m2 (by and_intros), .ch m3 (by and_intros), .ch m4 (by and_intros), .ch m5 (by and_intros),#[xn,xt],GT X G zVE,d,KF X G r9,i,KF X G Fc,c,KF X G Cc,j,KF X G KP,a,KF X G Cb,k,KF X G Hx,m,KF X G Ca,n,KF X G Hw,o,KF X G KO,p,KF X G Hz,q,KF X G Fb,b,KF X G zG,r,KF X G Qf,t,KF X G Hv,u,KF X G Hy,rj Ci B9 Cd DX BL BP BN Di BJ rfl,rj sC r8 sj tG rL rP rN sT rE rfl,rj sA r6 sh tF rK rO rM sS rD rfl,rj p9 pZ p5 qi pV pX pW qf pT rfl,#[KF X G r9,sgM,rdM,ZU],#[(rj sC r8 sj tG rL rP rN sT rE rfl).obj,BG,Ef,CB,C7],z_TooSmall_TooMany,by unfold ac;exact tz (aaO _),z_TooSmall_NoWeb,z_TooSmall_NotPlane,z_TooSmall_NoText,z_TooSmall_NoCorner,z_TooSmall_NoRing,z_TooSmall_Alike,z_TooSmall_TooFew,z_TooSmall_NotFree,z_TooSmall_NotFilled,z_TooSmall_Odd,z_TooSmall_Bridge,z_TooSmall_Shared,z_TooSmall_ValueError,m_TooSmall_MapError,#[x,_,jv sL sM sI,(jv sL sM sI).binds (ps:= ["self","counted"]) (by and_intros),#[(rj sA r6 sh tF rK rO rM sS rD rfl).obj,BF,Ee,CA,C6],B7],n_NotPlane_counted,z_NotPlane_TooMany,z_NotPlane_TooSmall,z_NotPlane_NoWeb,by unfold ac;exact tz (aaO _),z_NotPlane_NoText,z_NotPlane_NoCorner,z_NotPlane_NoRing,z_NotPlane_Alike,z_NotPlane_TooFew,z_NotPlane_NotFree,z_NotPlane_NotFilled,z_NotPlane_Odd,z_NotPlane_Bridge,z_NotPlane_Shared,z_NotPlane_ValueError,m_NotPlane_MapError,#[y,_,jv qb qc qa,(jv qb qc qa).binds (ps:= ["self","land"]) (by and_intros),#[(rj p9 pZ p5 qi pV pX pW qf pT rfl).obj,zq,An,zN,z5],zE],n_NotFilled_land,z_NotFilled_TooMany,z_NotFilled_TooSmall,z_NotFilled_NoWeb,z_NotFilled_NotPlane,z_NotFilled_NoText,z_NotFilled_NoCorner,z_NotFilled_NoRing,z_NotFilled_Alike,z_NotFilled_TooFew,z_NotFilled_NotFree,by unfold ac;exact tz (aaO _),z_NotFilled_Odd,z_NotFilled_Bridge,z_NotFilled_Shared,z_NotFilled_ValueError,m_NotFilled_MapError,#[YM,KF X G VR],#[Pe,KF X G Zs]]
 exact#[_,λs v=> .of_eq rfl,λbase _ _=>(((QQ (P:=l.prog) (w:=w) (base:=base) T).mono (by decide)).imp (L2.QE (Z:=Z)))]
def walk{l:cm}{q:Program}{a:List Str}{i:(Str->Option Value)->Heap->Prop}{c:World->Heap->Prop}{d:DefRec}{K:Params->aj}(j:l.most=some 63)(k:d.params.defaults= [])
  (m:∀(w:World)(h:Heap),c w h->(K w.params).In h)
  (F:∀(w:World)(b:Str->Option Value)(e:Addr)(h:Heap),(K w.params).In h->h.Ns mainGlobals b->b d.name=some (.ref e)->
   ∃g:FuncData,(∀(s:Shared)(u:Value),BindsTo s g #[[u],[]] [("_law_script",u)])/\∀base:Heap,(K w.params).In base->base.Ns mainGlobals b->FnOk l.prog w (K w.params) b base cz 40 e g ["_law_script"] (tP (K w.params))):
  dV q a i c l.row.toRowW d [] (λf n=>dy f n):=L2.Vp 40 (by decide) j k m F
end GW
namespace PySem.W.Fast
def tw18053976787617594604:=0
def tw9737227555566083579:=0
def tw5841188812805145127:=0
def tw2242414676956966889:=0
def tw5059658337801866686:=0
def tw13331285059074798445:=0
def tw8813594049467054629:=0
def tw1035593575233054746:=0
def tw586231330314710013:=0
def tw871567368544411992:=0
def tw5346681820472829249:=0
def tw17919102072723478478:=0
def tw5862842906443002419:=0
def tw8314098357673418848:=0
def tw7322461660356726928:=0
def tw6058464460427258390:=0
def tw15914037726134948661:=0
def tw15311567327672998449:=0
def tw14167126765617994518:=0
def tw7877590076403139589:=0
def tw8613463563234356631:=0
def tw8599251883667268315:=0
def tw7009306584704558420:=0
def tw17626623377784318781:=0
def tw13071107416097914629:=0
def tw8661616546815472042:=0
def tw14447252219143957193:=0
def tw13719669312423316429:=0
def tw13457318082719691236:=0
def tw8876720357748076554:=0
def tw9018439163996038949:=0
def tw3130052091403903317:=0
def tw10031095001863906374:=0
def tw15103769093710940913:=0
def tw8903625699858474837:=0
def tw4832224909054113232:=0
def tw16870902118882986241:=0
def tw10214034728890437111:=0
def tw4994969915722125251:=0
def tw6597437306708621606:=0
def tw16066024863022512498:=0
def tw4758116398327574620:=0
def tw8433371761123955962:=0
def tw16018431500772076501:=0
def tw12636716247283676507:=0
def tw16058498892423869093:=0
def tw494704554330890993:=0
def tw14008248544727907362:=0
def tw2214389192366620088:=0
def tw5388813359919780180:=0
def tw8007083013201751844:=0
def tw10559298349362899911:=0
def tw7722581513866766705:=0
def tw1639345825234054911:=0
def tw17282583482750301791:=0
def tw4028311473241216663:=0
def tw5033662002187132510:=0
def tw12768824423360437613:=0
def tw3282224971747693006:=0
def tw4717522090531698880:=0
def tw12524869777166649848:=0
def tw6921310453108872586:=0
def tw9652085973113553272:=0
def tw13599989646358427405:=0
def tw14657576044819001494:=0
def tw5936159254430037905:=0
def tw12243779477960002075:=0
def tw3191951061620814273:=0
def tw8428275720790280591:=0
def tw3757323645116587830:=0
def tw82871230934270297:=0
def tw15798598292193697895:=0
def tw10872764696999379608:=0
def tw6978748125253128481:=0
def tw6764769643955791387:=0
def tw15965768879902493345:=0
def tw4358817247516383362:=0
def tw1554851252651194491:=0
def tw5190705224482979212:=0
def tw3438282305162580737:=0
def tw2631046137816986406:=0
def tw15877190924715929241:=0
def tw14506231130843371163:=0
def tw14497059031360858414:=0
def tw11481368432901270705:=0
def tw9683884616328285646:=0
def tw1202931052559814014:=0
def tw12940878863011850887:=0
def tw8217871710497403276:=0
def tw17173905299268647714:=0
def tw4828164203096661900:=0
def tw9426163728267097474:=0
def tw15393748645492211498:=0
def tw3743525396447492172:=0
def tw2010374834269499905:=0
def tw12318253511483495887:=0
def tw13596807325901633908:=0
def tw13936393896026465355:=0
def tw1904304582115621593:=0
def tw9958188964081024598:=0
def tw15737112051434631332:=0
def tw8099314907317106022:=0
def tw14442331306277609026:=0
def tw14636285173097620114:=0
def tw12518025345696670335:=0
def tw3197918221878426048:=0
def tw18125227131231905137:=0
def tw5165855597306008707:=0
def tw5299310397407007643:=0
def tw438161857779331858:=0
def tw626621343599663835:=0
def tw15077744154658491703:=0
def tw17337386488243456976:=0
def tw15743282735632279538:=0
def tw7373501763949349314:=0
def tw10769272523680067990:=0
def tw421024596237153093:=0
def tw6735092502394341604:=0
def tw10139263848727441719:=0
def tw4561942779732052784:=0
def tw17853231044387095742:=0
def tw12636933082946421310:=0
def tw6746254812031883135:=0
def tw221352168768192027:=0
def tw13043903588022244552:=0
def tw7990042006334753318:=0
def tw2591223673988153506:=0
def tw12724075295555616772:=0
def tw15940137580781752479:=0
def tw1117236025493631761:=0
def tw16090087268623610332:=0
def tw17767214976144763131:=0
def tw10002654056643990726:=0
def tw5626887436095813449:=0
def tw17785962600933440345:=0
def tw15573407271578209637:=0
def tw7595134256948754456:=0
def tw1450996858637856873:=0
def tw5496726104751905218:=0
def tw7672638421117448760:=0
def tw958476539880526982:=0
def tw7807749034547318679:=0
def tw739610783803429499:=0
def tw17392736479847345605:=0
def tw681924971933498280:=0
def tw12529016791476995762:=0
def tw16436367799536944369:=0
def tw8919460279566655496:=0
def tw10952689657342486231:=0
def tw6615841885958016135:=0
def tw17914814282378538236:=0
def tw9741227179419367234:=0
def tw8030731028655028455:=0
def tw4944854996986523061:=0
def tw10815105096892495153:=0
def tw16658430385213594819:=0
def tw1918676092385801729:=0
def tw10872197378836617010:=0
def tw16336158540916073759:=0
def tw18356153655972103719:=0
def tw9610650297327146564:=0
def tw5004127419462193254:=0
def tw8809493341965207808:=0
def tw12723663107133450646:=0
def tw8897017800180639071:=0
def tw760967563470010444:=0
def tw4754559252707964884:=0
def tw1178315882377957548:=0
def tw17808261249578645767:=0
def tw2565643692175659201:=0
def tw3033260509105565274:=0
def tw16104765706582927757:=0
def tw8495881150455412277:=0
def tw9378984317741712940:=0
def tw12321917146423846992:=0
def tw10731260856793154311:=0
def tw642031951531939393:=0
def tw13204509831404147370:=0
def tw13848194227532147527:=0
def tw966080406474693762:=0
def tw16466894931846605081:=0
def tw14875571492271117171:=0
def tw12217685990956578698:=0
def tw17446649169673272627:=0
def tw3095201279325712382:=0
def tw15900554485588415938:=0
def tw13742729739335856111:=0
def tw5355360717632311653:=0
def tw8937653898820154157:=0
def tw8128986271067210349:=0
def tw4416443421688847069:=0
def tw16578437329086293874:=0
def tw4526831517424194117:=0
def tw2199086014647103968:=0
def tw9099277346205324060:=0
def tw7516940868386711471:=0
def tw816758542277743755:=0
def tw376664467693000455:=0
def tw35584420529398291:=0
def tw5649661193363396565:=0
def tw7782292940709040327:=0
def tw3842643720936139273:=0
def tw6062161949374155086:=0
def tw13603023503997886424:=0
def tw8955645842980021149:=0
def tw15938192614302092706:=0
def tw14343401369875583993:=0
def tw16677966992697397136:=0
def tw9177835175809496434:=0
def tw5680798728114099808:=0
def tw14018675053457069044:=0
def tw1033622665749163404:=0
def tw11697685670777228933:=0
def tw17897415926341778813:=0
def tw17424980107689191211:=0
def tw16745202591666769471:=0
def tw6515994708078972532:=0
def tw4802115533126846950:=0
def tw7746680186256684643:=0
def tw4202883290653291733:=0
def tw11412509548836704434:=0
def tw16353998795793426534:=0
def tw7737835122976299996:=0
def tw7704982066806605192:=0
def tw16883242383622171829:=0
def tw6456904335021696799:=0
def tw6586041633004169056:=0
def tw9991454207397224830:=0
def tw7085812807375457998:=0
def tw9187803078996855248:=0
def tw17314473951756899894:=0
def tw14605782402285831878:=0
def tw1711125370661825522:=0
def tw12923545950699685410:=0
def tw18390458189335570061:=0
def tw17814884710243482428:=0
def tw1155727063379711408:=0
def tw11865700807201627584:=0
def tw1413720799302604147:=0
def tw15057674518418276391:=0
def tw15530682175909461614:=0
def tw18023413118436806467:=0
def tw5484399286991458431:=0
def tw7199040186207587951:=0
def tw13783388613892335750:=0
def tw13252182759483853298:=0
def tw4024389616572399951:=0
def tw13798082812448587160:=0
def tw6049378928589548486:=0
def tw15315847506980063506:=0
def tw1684101228516562603:=0
def tw3407191512938940207:=0
def tw8905347966677030811:=0
def tw5379704096850383513:=0
def tw2132140548128202905:=0
def tw946030175378181475:=0
def tw13387979953962369727:=0
def tw16904659362697599591:=0
def tw1771419528494513690:=0
def tw2086388965005061866:=0
def tw17989937638360083377:=0
def tw13820798308614548955:=0
def tw14166788639945274802:=0
def tw621959523433717595:=0
def tw1653168806375826168:=0
def tw8055732164696967990:=0
def tw4671836321563312319:=0
def tw3712427825499479229:=0
def tw12037739271343954085:=0
def tw5129242540690238308:=0
def tw5843323036900128914:=0
def tw4631940324284316079:=0
def tw15702821376951481162:=0
def tw10794360479849040021:=0
def tw15232622134627055141:=0
def tw5228159111017424854:=0
def tw1088953207218971903:=0
def tw6464815019593615964:=0
def tw2970718308890818941:=0
def tw6486000500756650201:=0
def tw3756272114942033600:=0
def tw961171903893376485:=0
def tw13480131112661684246:=0
def tw9446133323021960915:=0
def tw8584763696997473221:=0
def tw11852597626605691621:=0
def tw9528545681393489952:=0
def tw3490765807168764828:=0
def tw14932855820561918445:=0
def tw11292879057744894287:=0
def tw1045018654351272733:=0
def tw12504770541825345234:=0
end PySem.W.Fast
open PySem PySem.W PyProof.Rows
set_option maxRecDepth 100000 in
set_option maxHeartbeats 0 in
theorem PySem.Challenge.cw_mapdye_k66_not_plane_or_not_filled_holds : PySem.Challenge.rw_mapdye_k66_not_plane_or_not_filled.Holds := by
 w_on;o_law;k_head;(case hw=>w_witness2)
 k_fill
 refine GW.walk (l:=PySem.Challenge.rw_mapdye_k66_not_plane_or_not_filled) rfl rfl (λw h Y=>PySem.W.kIn_of Y) ?F
 case F=>
  intro w mg fa h KX G HK
  refine' GW.all_mk KX G HK ?_ ?_ ?_ ?_ ?_ ?_ ?_ ?_ ?_ ?_ ?_ ?_ ?_ ?_ ?_ ?_ ?_ ?_ ?_ ?_ ?_ ?_ ?_ ?_ ?_ ?_ ?_ ?_ ?_ ?_ ?_ ?_ ?_ ?_ ?_ ?_ ?_ ?_ ?_ ?_ ?_ ?_ ?_ ?_ ?_ ?_ ?_ ?_ ?_ ?_ ?_ ?_ ?_ ?_ ?_ ?_ ?_ ?_ ?_ ?_ ?_ ?_ ?_ ?_ ?_ ?_ ?_ ?_ ?_ ?_ ?_ ?_ ?_ ?_ ?_ ?_ ?_ ?_ ?_ ?_ ?_ ?_ ?_ ?_ ?_ ?_ ?_ ?_ ?_ ?_ ?_ ?_ ?_ ?_ ?_ ?_ ?_ ?_ ?_ ?_ ?_ ?_ ?_ ?_ ?_ ?_ ?_ ?_ ?_ ?_ ?_ ?_ ?_ ?_ ?_ ?_ ?_ ?_ ?_ ?_ ?_ ?_ ?_ ?_ ?_ ?_ ?_ ?_ ?_ ?_ ?_ ?_ ?_ ?_ ?_ ?_ ?_ ?_ ?_ ?_ ?_ ?_ ?_ ?_ ?_ ?_ ?_ ?_ ?_ ?_ ?_ ?_ ?_ ?_ ?_ ?_ ?_ ?_ ?_ ?_ ?_ ?_ ?_ ?_ ?_ ?_ ?_ ?_ ?_ ?_ ?_ ?_ ?_ ?_ ?_ ?_ ?_ ?_ ?_ ?_ ?_ ?_ ?_ ?_ ?_ ?_ ?_ ?_ ?_ ?_ ?_ ?_ ?_
  all_goals (try (first| (show _=_;k_is) | (refine' L2.ZD ?_ ?_ ?_ ?_<;>(try (show _=_;k_is))) | (refine' L2.mfH ?_ ?_ ?_ ?_ ?_<;>(try (show _=_;k_is))) | (refine' L2.Y1 ?_ ?_ ?_ ?_ ?_ ?_ ?_<;>first| (show _=_;k_is) |rfl) | (refine' L2.Y2 ?_ ?_ ?_ ?_<;>first| (show _=_;k_is) |rfl) |rfl))


