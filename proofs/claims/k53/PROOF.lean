import PyProof.Rows.All
import Wide.All
import OpenK.AllK
import Wide.FinOn
import Lean
import PyProof.EqAt
import PyProof.EqKinds
import PyProof.TupleCall
import PyProof.RaisesMany
import KE.KSortTup
import PyProof.NeKinds
import PyProof.SetKind
import PyProof.SetRoads
import PyProof.SetNew
import PyProof.WalksS
import PyProof.CollectWalk
import PyProof.TupleKey
import PyProof.IsRules
import PyProof.InstEq
import KE.KRevIter
import PyProof.FitsBits
import PyProof.P3Eq
import PyProof.ListRange
import PyProof.MeetsSeq
import PyProof.DictRoadsH
import PyProof.DictTruth
import PyProof.MinMaxWalk
import PySem.Challenge.RW_mapdye_k53_whole_a_point_given_a_dye
local macro_rules|`(tactic|subst_eqs)=>`(tactic|first|exact Or.inl rfl|exact Or.inr rfl|exact Or.inr (Or.inl rfl)|exact Or.inr (Or.inr rfl)|assumption)
local macro_rules|`(tactic|bv_omega)=>`(tactic|exact ⟨rfl,rfl,rfl,by decide+kernel,rfl,by decide+kernel,by decide+kernel⟩)
local macro_rules|`(#[$x,$y,*])=>`(⟨$x,$y,*⟩)
local macro_rules|`(#[$x])=>`(⟨$x⟩)
local macro_rules|`(tactic|exists $x,*)=>`(tactic|refine⟨$x,* ,?_⟩)
local macro_rules|`(())=>`((by lia))
local macro_rules|`(∅)=>`((by decide))
local macro_rules|`(~~~$x)=>`((by simpa using $x))
local macro_rules|`($a\$b)=>`($a=some $b)
open PySem.W renaming Frag→ab,keepIn→am,findIn→ar,emptyDict→bb,codeIn→bc,fnOf→bd,instObj→bi,isFn→bv,plainGet→bD,hasDictIn→b3,nsIn→b4,OpenLaw→b5,lookIn→b8,plainOver→ce,methodObj→cf,takerIn→cm,makesIn→cq,kitOne→cs,WalkO→dg
open List renaming range→ac,replicate→aj,lookup→bj,length→bV,Nodup→dc
open PySem renaming Spec→ay,Within→ci,SetTable→cx,call→cy
open Array renaming replicate→cr
abbrev ir:=@if_pos
abbrev mo:=@if_neg
abbrev GE:=@decide_eq_false
abbrev GM:=@congrArg
abbrev GT:=@decide_eq_true
abbrev KF:=@of_decide_eq_true
abbrev M2:=@of_decide_eq_false
abbrev SC:=@if_false
abbrev aar:=@beq_eq_false_iff_ne
abbrev aaw:=@if_true
abbrev aaz:=@beq_iff_eq
abbrev aaH:=@decide_eq_decide
abbrev aa0:=@decide_eq_true_eq
abbrev abt:=@getElem?_pos
abbrev abT:=@bne_self_eq_false
open PySem renaming wpAny_pure→be,wpAny_holding→KB,wpAny_call_entry→On,wpAny_newObj_type→Os,wpAny_truthy_bool→P3,wpAny_setState_of→SB,codeAny_builtin→aam,plainId_quiet→aaq,mem_of_lookup→aas,wpAny_Call_Name_kw→aau,wpAny_passesOwn→aav,wpAny_standAt→aax,wpAny_rule→aay,wpAny_askSetting→aaC,call_meets→aaF,wpAny_newList→aaI,wpAny_of_eq→aaJ,wpAny_updateSeq→aaL,codeAny_mono→aaM,wpAny_comprehension_free→aaO,wpAny_seqItems→aaV,wpAny_tryCatch→aaW,wpAny_callSpecial?_slot→aaY,wpAny_storeSet_of→aa1,fits_of_scanBound→aa2,wpAny_Call_method_late→aa6,wpAny_forIn_list→abg,wpAny_execs_nil→abo,wpAny_ite_false→abu,wpAny_setEntries_of→abz,wpAny_ite_true→abB,sizeLine_eq→abE,wpAny_attempt→abO,wpAny_pyIter_list→abS,wpAny_typeOf→ab0,codeAny_of_tree→acf,wpAny_specialOf→ach,codeAny_compStart_list→aco,wpAny_letGo→acw,wpAny_setField→acB,codeAny_loop→acF
open PySem.Heap renaming get?_push_of_some→AC,lt_size→Fk,get?_push_size→Gc,get?_update_other→KM,get?_update_self→SL,size_update→aaD,get?_update_ne→aaE,get?_push_ne→aa5
open PyProof.Rows renaming wpS_bind→Da,wpS_pure→FB,wpS_mono→Pi,wpS_forRange→PP,callWith_type1→aat,wpS_get→aaK,size_push'→aaS,args_list_sort→aaT,wpS_modify→aaU,wpS_lift→abh,slot_tuple_getitem→abm,get?_update_seq→abr,assignInOrder_cons→abF,listUpdate_at→abM,callWith_type→abP,evalArgs_nil3→abQ,plain_sorted→ab3,entry_sorted→ab4,args_sorted1→ab5,subscriptTail_builtinR→acn,seqEpoch_at→acp,kind_sorted→acq,sortedAll_old→acD,sortedAll_at→acG,collect_list→acH
open Option.some renaming inj→Do
open Classical renaming byContradiction→FM
open PySem.PassesOwn renaming never→FS
open PySem.W renaming mg_none_of→IR,kia_one→SZ,mg_of→abe,plainGet_of→aby,callWith_K→abH,cellsFrom_some→ack
open PySem.F renaming plainAttrs_list→UF,plain_max_loop→W1,entry_max_loop→aba,args_tuple_add_2→abZ,slot_list_append→ab6,type_list_append→ab7,entry_tuple_add→aca,slot_tuple_add→acm,plainAttrs_set→acv
open PySem.Around renaming under_plainId→UV,in1_units→ab9
open List.cons renaming inj→Wp
open Prod renaming ext→aal
open PySem.Heap.SameBut renaming update→aan
open Prod.mk renaming inj→aao
open List.Perm renaming append_left→aap,append_right→aa9
open PySem.Calls renaming call_function_entry→aaA,callWith_builtin→aaG,evalArgs_plain→abp,Name_function_global→abL
open List.Pairwise renaming imp_of_mem→aaB
open PySem.SeqAt.EqAt renaming int_int→aaN
open Array renaming size_setIfInBounds→aaP,getElem?_setIfInBounds→abA,toList_filterMap→acr
open PySem.SetTable renaming toList_insertAt→aaQ,insertAt_perm→aa8
open PySem.Obj renaming data_mapFields→aaR
open Iff renaming rfl→aaX
open List renaming length_eq_zero_iff→aaZ,reverse_perm→aa3,drop_of_length_le→aa7,any_cons→abb,map_drop→abd,isEmpty_nil→abf,map_reverse→abi,set_getElem_self→abj,pairwise_flatten→abk,count_cons_of_ne→abl,eraseIdxIfInBounds_toArray→abn,pairwise_append→abq,eq_nil_iff_forall_not_mem→abw,filterMap_cons→abx,countP_eq_length_filter→abC,count_set→abD,mem_filterMap→abG,getElem?_take→abI,zip_cons_cons→abK,getElem?_inj→abW,count_replicate_self→abX,all_eq_true→ab2,pairwise_singleton→acb,of_mem_zip→acd,foldl_cons→ace,idxOf_cons→aci,getElem_replicate→acu,drop_drop→acz,count_nil→acC,sum_cons→acE,set_set→acI
open Nat renaming add_mod_right→aa4,lt_trichotomy→abV,ne_of_gt→abY,add_comm→ab1
open Bool renaming not_true→abc,or_eq_true→abv,not_eq_true'→abU,eq_iff_iff→acj,false_and→acx,and_false→acy,not_false→acA
open Int renaming emod_lt_of_pos→abJ,emod_nonneg→acg,le_refl→acs
open PySem.MeetsSeq3 renaming plain_eq_loop→abN
open PySem.Value renaming isInt_shape→abR
open Nat.succ renaming inj→ab8
theorem au{g:Prop}(h:∀G:Prop,(g->G)->G):g:=h g id
set_option hygiene false in
local macro_rules|`(tactic|rfl')=>`(tactic|refine au fun G0 k0=>?_)
set_option hygiene false in
local macro_rules|`(tactic|ac_rfl)=>`(tactic|refine k0 ?_)
set_option Elab.async false
set_option linter.all false
set_option maxRecDepth 100000
abbrev aI:= @List.length_map
abbrev bS:= @List.getD_eq_getElem?_getD
abbrev bP:= @List.mem_cons_self
abbrev cM:= @List.getElem?_eq_getElem
abbrev cI:= @List.mem_cons_of_mem
abbrev cD:= @List.length_append
abbrev eC:= @List.getElem?_eq_some_iff
abbrev b6:= @List.mem_append
abbrev cR:= @List.mem_singleton
abbrev bT:= @List.mem_map
abbrev bo:= @Nat.le_refl
abbrev bH:= @List.mem_cons
abbrev di:= @List.mem_append_right
abbrev cv:= @List.length_cons
abbrev cG:= @List.getElem?_map
abbrev cH:= @List.size_toArray
abbrev dH:= @List.mem_of_getElem?
abbrev dA:= @Bool.false_ne_true
abbrev cE:= @List.mem_range
abbrev bY:= @Nat.ne_of_lt
abbrev eD:= @Array.length_toList
abbrev cW:= @List.map_append
abbrev cX:= @List.nodup_cons
abbrev b7:= @List.map_map
abbrev fi:= @List.mem_append_left
abbrev eE:= @List.nodup_append
abbrev gk:= @Array.getElem?_toList
abbrev gK:= @List.getElem?_eq_none
abbrev fw:= @List.length_range
abbrev dJ:= @List.map_cons
abbrev fj:= @List.length_set
abbrev kW:= @List.getElem?_append_right
abbrev gW:= @Bool.false_eq_true
abbrev kX:= @List.getElem?_append_left
abbrev jE:= @List.take_append_drop
abbrev jF:= @List.getElem?_set_ne
abbrev kY:= @List.getElem?_set_self
abbrev i3:= @Nat.lt_of_lt_of_le
abbrev iu:= @Nat.mod_eq_of_lt
abbrev oI:= @List.nodup_iff_pairwise_ne
abbrev i4:= @List.flatten_cons
abbrev i5:= @List.append_assoc
abbrev fk:= @Nat.zero_le
abbrev jG:= @List.pairwise_map
abbrev i6:= @List.length_take
abbrev qv:= @List.drop_eq_getElem_cons
abbrev qw:= @Array.getElem?_eq_getElem
abbrev iU:= @List.nodup_nil
abbrev jY:= @List.getElem_mem
abbrev jZ:= @List.mem_flatten
abbrev jH:= @List.append_nil
abbrev jI:= @List.mem_filter
abbrev j3:= @List.length_nil
abbrev lO:= @List.perm_append_comm
abbrev rF:= @List.getElem?_replicate
abbrev lP:= @Nat.le_of_not_lt
abbrev mZ:= @List.getElem?_set
abbrev rG:= @List.length_pos_of_mem
abbrev qx:= @List.getElem?_range
abbrev vY:= @List.perm_ext_iff_of_nodup
abbrev ud:= @List.getElem?_cons_succ
abbrev rH:= @List.count_cons_self
abbrev oJ:= @List.take_length
abbrev vZ:= @List.idxOf_lt_length_iff
abbrev ue:= @List.length_singleton
abbrev oK:= @List.nil_append
abbrev uf:= @List.replicate_succ
abbrev rJ:= @List.ext_getElem?
abbrev rK:= @Bool.eq_false_iff
abbrev rL:= @Nat.lt_succ_of_lt
abbrev v5:= @List.length_replicate
abbrev v8:= @List.getLast?_concat
abbrev m8:= @Nat.le_trans
abbrev A1:= @Array.getElem?_eq_some_iff
abbrev qy:= @List.take_succ
abbrev zw:= @List.drop_eq_nil_of_le
abbrev ug:= @Int.toNat_natCast
abbrev uh:= @List.count_append
abbrev v9:= @List.map_congr_left
abbrev wa:= @List.length_pos_iff
abbrev wb:= @List.flatten_append
abbrev ui:= @List.lookup_cons
abbrev A3:= @List.set_eq_of_length_le
abbrev qz:= @Nat.lt_irrefl
abbrev zx:= @List.getElem?_of_mem
abbrev E3:= @Array.getD_eq_getD_getElem?
abbrev qA:= @List.map_set
abbrev rM:= @List.map_take
abbrev wc:= @Bool.and_eq_true
abbrev A4:= @List.length_filter_le
abbrev E4:= @List.getElem?_take_of_lt
abbrev A5:= @Array.toList_append
abbrev zy:= @List.mem_reverse
abbrev qB:= @Nat.mod_lt
abbrev rN:= @Nat.le_succ
abbrev E5:= @List.take_of_length_le
abbrev A6:= @List.pairwise_lt_range
abbrev uj:= @Nat.zero_add
abbrev uk:= @Nat.sub_self
abbrev A7:= @List.getElem_idxOf
abbrev u0:= @List.count_pos_iff
abbrev u4:= @Nat.lt_of_lt_of_eq
abbrev zp:= @List.concat_eq_append
abbrev CI:= @Array.perm_iff_toList_perm
abbrev u5:= @List.flatMap_cons
abbrev u6:= @Array.toList_push
abbrev zq:= @List.mem_iff_getElem
abbrev qu:= @List.map_nil
abbrev u7:= @Nat.lt_succ_self
abbrev u9:= @List.length_drop
abbrev vc:= @List.nodup_range
abbrev vd:= @List.filter_cons
abbrev ve:= @List.cons_append
abbrev CJ:= @List.eraseIdx_cons_succ
abbrev zt:= @List.pairwise_cons
abbrev CK:= @Array.getElem?_eq_none
abbrev zu:= @List.take_sublist
abbrev sH:= @Nat.mod_self
abbrev CL:= @List.eq_nil_or_concat
abbrev CM:= @List.mem_of_mem_take
abbrev vf:= @List.all_cons
abbrev CN:= @List.getD_cons_succ
abbrev Ha:= @List.pairwise_iff_getElem
abbrev vg:= @Nat.le_of_lt
abbrev CO:= @List.getElem?_drop
abbrev CP:= @List.append_of_mem
abbrev zv:= @Nat.mul_le_mul
namespace L2
open PySem PySem.Spec PyProof.Rows
abbrev Key:=Sum Int Str
def LW:Key->Value->Bool
 | .inl k,v=>Value.isInt k v
 | .inr x,v=>Value.isStrOf x v
def VZ(w:World):Key->Int
 | .inl k=>hashInt k
 | .inr x=>hashStr w x
theorem dQ:∀{k:Key}{v:Value},LW k v=true->(∃i t,k=Sum.inl i/\v=Value.int i t)\/(∃x t,k=Sum.inr x/\v=Value.str x t)
 | .inl i,v,h=>by
  obtain⟨t,e⟩:=abR (k:=i) (v:=v) h;exact .inl #[i,t,rfl,e]
 | .inr x,v,h=>by
  obtain⟨t,e⟩:=Value.isStrOf_shape (x:=x) (v:=v) h;exact .inr #[x,t,rfl,e]
def Ou(a b:Int):decide ((Sum.inl a:Key)=Sum.inl b)=(a==b):=by
 by_cases e:a=b
 .subst e;simp
 .have h:¬(Sum.inl a:Key)=Sum.inl b:=λq=>e (Sum.inl.inj q)
  rw[GE h];exact(aar.mpr e).symm
def Oy(a b:Str):decide ((Sum.inr a:Key)=Sum.inr b)=decide (a=b):=by
 by_cases e:a=b
 .subst e;simp
 .have h:¬(Sum.inr a:Key)=Sum.inr b:=λq=>e (Sum.inr.inj q)
  rw[GE h,GE e]
def Ov(a:Int)(b:Str):decide ((Sum.inl a:Key)=Sum.inr b)=false:=GE (λq=>nomatch q)
def Ox(a:Str)(b:Int):decide ((Sum.inr a:Key)=Sum.inl b)=false:=GE (λq=>nomatch q)
def yu(prog:Program)(w:World):PySem.KeyKind prog w Key where
 is:=LW
 hash:=VZ w
 inj:=λv a b g f=>by
  rcases dQ g with ⟨i,t,rfl,rfl⟩ | ⟨x,t,rfl,rfl⟩
  .rcases dQ f with ⟨j,u,rfl,e⟩ | ⟨y,u,rfl,e⟩
   .injection e with c _;rw[c]
   .exact nomatch e
  .rcases dQ f with ⟨j,u,rfl,e⟩ | ⟨y,u,rfl,e⟩
   .exact nomatch e
   .injection e with c _;rw[c]
 byValue:=λk v h=>by
  rcases dQ h with ⟨i,t,rfl,rfl⟩ | ⟨x,t,rfl,rfl⟩<;>rfl
 pyHash:=λd h=>by
  rcases dQ d with ⟨i,t,rfl,rfl⟩ | ⟨x,t,rfl,rfl⟩
  .exact wpAny_pyHash_int h
  .exact wpAny_pyHash_str h
 eqBool:=λl d h=>by
  rcases dQ l with ⟨i,t,rfl,rfl⟩ | ⟨x,t,rfl,rfl⟩
  .rcases dQ d with ⟨j,u,rfl,rfl⟩ | ⟨y,u,rfl,rfl⟩
   .rw[Ou] at h;exact wpAny_eqBool_int h
   .rw[Ov] at h;exact SeqAt.EqAt.int_str i t y u _ _ _ _ h
  .rcases dQ d with ⟨j,u,rfl,rfl⟩ | ⟨y,u,rfl,rfl⟩
   .rw[Ox] at h;exact SeqAt.EqAt.str_int x t j u _ _ _ _ h
   .rw[Oy] at h;exact wpAny_eqBool_str h
 «strs»:=λk x t v h=>by
  rcases dQ h with ⟨i,u,rfl,e⟩ | ⟨y,u,rfl,e⟩
  .exact nomatch e
  .injection e with c _
   subst c;cases v<;>rfl
inductive V where
 |bC|bl (b:Bool) |int (i:Int) |str (x:Str) |Ir (b:Array UInt8) |FA (b:UInt64) |ref (a:Addr) |ty (n:String)
 deriving DecidableEq
def RelV:V->Value->Prop
 | .bC,u=>u=Value.none
 | .bl b,u=>u=Value.bool b
 | .int i,u=>∃t,u=Value.int i t
 | .str x,u=>∃t,u=Value.str x t
 | .Ir b,u=>∃t,u=Value.bytes b t
 | .FA b,u=>∃t,u=Value.float b t
 | .ref a,u=>u=Value.ref a
 | .ty n,u=>u=Value.type n
abbrev Vals:List V->List Value->Prop:=Paired RelV
theorem Vals.length(r:Vals a b):a.length=b.length:=Paired.length r
theorem Vals.get:∀{a:List V}{b:List Value}{i:Nat}{x:V},Vals a b->a[i]?\x->∃u,b[i]?\u/\RelV x u
 |_,_,_,_, .nil,e=>by simp at e
 |_,_,0,_, .cons r _,e=>by simp at e;subst e;exact#[_,rfl,r]
 |_,_,i+1,x, .cons _ t,e=>by
  obtain⟨u,c,d⟩:=Vals.get (i:=i) (x:=x) t (~~~e)
  exact#[u,by simpa using c,d]
theorem Vals.set{x:V}(r:RelV x u):∀{a:List V}{b:List Value}(i:Nat),Vals a b->Vals (a.set i x) (b.set i u)
 |_,_,_, .nil=> .nil
 |_,_,0, .cons _ t=> .cons r t
 |_,_,i+1, .cons q t=> .cons q (Vals.set r i t)
theorem Vals.append:∀{a b:List V}{c d:List Value},Vals a c->Vals b d->Vals (a++b) (c++d)
 |_,_,_,_, .nil,s=>s
 |_,_,_,_, .cons r t,s=> .cons r (Vals.append t s)
theorem Vals.take:∀{xs:List V}{a:List Value}(n:Nat),Vals xs a->Vals (xs.take n) (a.take n)
 |_,_,0,_=> .nil
 |_,_,_+1, .nil=> .nil
 |_,_,n+1, .cons r t=> .cons r (Vals.take n t)
theorem Vals.drop:∀{xs:List V}{a:List Value}(n:Nat),Vals xs a->Vals (xs.drop n) (a.drop n)
 |_,_,0,r=>r
 |_,_,_+1, .nil=> .nil
 |_,_,n+1, .cons _ t=>Vals.drop n t
def oY:Option V->Option Value->Prop
 |some v,some u=>RelV v u
 |none,none=>True
 |_,_=>False
def KV{a:Type}:List (a×V)->List (a×Value)->Prop:=Paired λ(p:a×V)(q:a×Value)=>p.1=q.1/\RelV p.2 q.2
def kV:Key->V
 | .inl i=> .int i
 | .inr x=> .str x
inductive HO where
  |lst (xs:List V)
  |tup (xs:List V)
  |dK (fK:List (Key×V)) |dT (fK:List (List Key×V))
  |set (S:Int->Bool) (n:Nat)
  |ins (C dx:Addr) (fs:List (Str×V))
  |own (x:Addr)
  |xd (fs:List (Str×V))
  |met (f x:Addr)
  |rng (lo hi:Int)
  |sU (o:Obj) (u:HO)
  |GR (ps:Array Value)
  |ext (φ:Heap->Prop)
abbrev Hp:=Addr->Option HO
def upd(H:Hp)(a:Addr)(o:HO):Hp:=λb=>if b=a then some o else H b
def aK{a:Addr}{o:HO}:upd H a o a\o:=by unfold upd;rw[ir rfl]
def bf{a b:Addr}{o:HO}(h:b≠a):upd H a o b=H b:=by unfold upd;rw[mo h]
def bN{H:Hp}{a b:Addr}{o:HO}(h:H a\o)(c:H b=none):a≠b:=by
 intro e;subst e;rw[h] at c;cases c
section
variable (P:Program) (w:World)
def dN(H:Hp)(h:Heap)(a:Addr):HO->Prop
 | .lst c=>c.length<=sizeLine/\∃(b:List Value)(n:Nat),Vals c b/\h.get? a\{cls:= .type "list",data:= .seq b.toArray n}
 | .tup c=>c.length<=sizeLine/\∃b:List Value,Vals c b/\IsTup h a b.toArray
 | .dK e=>e.length<=sizeLine/\(a==sysModules)=false/\∃j,KV e j/\h.DictOf (yu P w) a j
 | .dT e=>e.length<=sizeLine/\(a==sysModules)=false/\∃c:List (List Key×Addr×Value),
   Paired (λ(p:List Key×V)(q:List Key×Addr×Value)=>p.1=q.1/\H q.2.1\(.tup (p.1.map kV))/\RelV p.2 q.2.2) e c/\
   ∃o k r,h.get? a\o/\o.ExactDict/\o.data= .dict k r/\k.toList=c.map (entryOfKey (tupleKind (yu P w)))/\(c.map (·.1)).Nodup
 | .set S n=>h.SetOf (intKind P w) a S n
 | .ins C g fs=>H g\(.own a)/\fs.length<=1000/\g≠a/\h.get? a\(bi C g)/\
   ∃d,h.Ns1 g d/\(∀f,oY (fs.lookup f) (d f))/\ci d (fs.map (·.1))
 | .own _=>∃o,h.get? a\o
 | .xd fs=>∃d,h.Ns1 a d/\∀f,oY (fs.lookup f) (d f)
 | .rng lo s=>∃t u v,h.get? a\{cls:= .type "range",data:= .fields [.int lo t, .int s u, .int 1 v].toArray}
 | .sU o u=>h.get? a\o/\dN H h a u
 | .GR y=>h.get? a\{cls:= .none,data:= .fields y}
 | .met f x=>h.get? a\(cf (.ref f) (.ref x))
 | .ext i=>i h/\(∃o,h.get? a\o)/\∀l m:Heap,i l->(∀o,l.get? a\o->m.get? a\o)->i m
def j4(H:Hp)(h:Heap):Prop:=∀a o,H a\o->dN P w H h a o
end
section
variable {P:Program} {w:World} {H H':Hp} {h h':Heap} {a:Addr} {o:HO}
theorem dN.lt(x:dN P w H h a o):a<h.objs.size:=by
 cases o with
 |lst b=>obtain⟨_,_,_,_,e⟩:=x;exact Fk e
 |tup b=>obtain⟨_,_,_,p⟩:=x;exact p.lt
 |dK c=>obtain⟨_,_,_,_,o,_,_,e,_⟩:=x;exact Fk e
 |dT c=>obtain⟨_,_,_,_,o,_,_,e,_⟩:=x;exact Fk e
 |set S n=>obtain⟨o,_,_,_,e,_⟩:=x;exact Fk e
 |ins C d fs=>obtain⟨_,_,_,e,_⟩:=x;exact Fk e
 |own y=>obtain⟨_,e⟩:=x;exact Fk e
 |xd fs=>obtain⟨_,⟨_,_,_,e,_⟩,_⟩:=x;exact Fk e
 |rng lo g=>obtain⟨_,_,_,e⟩:=x;exact Fk e
 |sU i u=>obtain⟨e,_⟩:=x;exact Fk e
 |GR j=>exact Fk (show h.get? a\_ from x)
 |met f y=>exact Fk (show h.get? a\_ from x)
 |ext k=>obtain⟨_,⟨_,e⟩,_⟩:=x;exact Fk e
theorem Paired.QD:∀{c:List e}{d:List g},Paired F c d->(∀a b,F a b->G a b)->Paired G c d
 |_,_, .nil,_=> .nil
 |_,_, .cons r t,f=> .cons (f _ _ r) (Paired.QD t f)
theorem dN.vW(x:dN P w H h a o)(k:∀b u,(b=a\/H b\(.own a))->h.get? b\u->h'.get? b\u)
  (E:∀b,H b\(.own a)->H' b\(.own a)) (F:∀b m,H b\(.tup m)->H' b\(.tup m)):dN P w H' h' a o:=by
 induction o with
 |lst m=>obtain⟨z,l,n,r,e⟩:=x;exact#[z,l,n,r,k _ _ (.inl rfl) e]
 |tup m=>obtain⟨z,l,r,g,e,c⟩:=x;exact#[z,l,r,g,k _ _ (.inl rfl) e,c]
 |dK G=>obtain⟨z,y,I,r,g,i,j,e,c⟩:=x;exact#[z,y,I,r,g,i,j,k _ _ (.inl rfl) e,c]
 |dT G=>
  obtain⟨z,y,m,r,g,i,j,e,c⟩:=x;exact#[z,y,m,Paired.QD r λp q z=>#[z.1,F _ _ z.2.1,z.2.2],g,i,j,k _ _ (.inl rfl) e,c]
 |set S n=>obtain⟨g,i,j,t,e,c⟩:=x;exact#[g,i,j,t,k _ _ (.inl rfl) e,c]
 |ins C N fs=>
  rfl';obtain⟨d,z,ne,e,s,⟨A,i,j,L,c⟩,r⟩:=x;ac_rfl;exact#[E _ d,z,ne,k _ _ (.inl rfl) e,s,#[A,i,j,k _ _ (.inr d) L,c],r]
 |own y=>obtain⟨g,e⟩:=x;exact#[g,k _ _ (.inl rfl) e]
 |xd fs=>obtain⟨s,⟨A,i,j,e,c⟩,r⟩:=x;exact#[s,#[A,i,j,k _ _ (.inl rfl) e,c],r]
 |rng lo Q=>obtain⟨t,u,v,e⟩:=x;exact#[t,u,v,k _ _ (.inl rfl) e]
 |sU g u M=>obtain⟨e,q⟩:=x;exact#[k _ _ (.inl rfl) e,M q]
 |GR B=>
  have e:h.get? a\{cls:= .none,data:= .fields B}:=x;show h'.get? a\{cls:= .none,data:= .fields B};exact k a _ (.inl rfl) e
 |met f y=>
  have e:h.get? a\(cf (.ref f) (.ref y)):=x;show h'.get? a\(cf (.ref f) (.ref y));exact k a _ (.inl rfl) e
 |ext R=>obtain⟨p,⟨o,e⟩,st⟩:=x;exact#[st _ _ p λo q=>k _ _ (.inl rfl) q,#[o,k _ _ (.inl rfl) e],st]
theorem j4.lt(x:j4 P w H h)(e:H a\o):a<h.objs.size:=(x a o e).lt
def j4.fresh(x:j4 P w H h)(e:h.objs.size<=a):H a=none:=by
 cases q:H a with
 |none=>rfl
 |some u=>exact absurd (i3 (x.lt q) e) (qz _)
def j4.kept(x:j4 P w H h)(k:∀b u,h.get? b\u->h'.get? b\u):j4 P w H h':=λa o e=>
 (x a o e).vW (λb u _ q=>k b u q) (λ_ q=>q) λ_ _ q=>q
def j4.laid(x:j4 P w H h)(k:∀b u,h.get? b\u->h'.get? b\u)(g:h.objs.size<=a)(new:dN P w (upd H a o) h' a o):j4 P w (upd H a o) h':=λb u e=>by
 have d:=x.fresh g
 by_cases f:b=a
 .subst f;rw[aK] at e;cases e;exact new
 .rw[bf f] at e
  exact(x b u e).vW (λc v _ q=>k c v q) (λc q=>by rw[bf (bN q d)];exact q) λc i q=>by rw[bf (bN q d)];exact q
end
def Rd(H:Hp)(a:Addr)(u:HO):Prop:=H a\u\/∃o,H a\(.sU o u)
def Rd.ok{P:Program}{w:World}{H:Hp}{a:Addr}(r:Rd H a u)(x:j4 P w H h):dN P w H h a u:=by
 rcases r with r| ⟨o,r⟩
 .exact x a u r
 .obtain⟨_,q⟩:=x a _ r
  exact q
def NJ:Option HO->Prop
 |some (.lst _)=>True
 |some (.dK _)=>True
 |some (.dT _)=>True
 |some (.set _ _)=>True
 |some (.ins _ _ _)=>True
 |some (.ext _)=>True
 |_=>False
section
variable {P:Program} {w:World} {H:Hp} {h h':Heap} {x e:Addr} {o':HO}
def j4.write(ok:j4 P w H h)(a:NJ (H x))(j:e=x\/H e\(.own x))(k:∀b u,b≠e->h.get? b\u->h'.get? b\u)(n:∃u,h'.get? e\u)
  (new:dN P w (upd H x o') h' x o'):j4 P w (upd H x o') h':=λb u q=>by
 have l:∀c y,H c\(.own y)->c≠x:=λc y r z=>by subst z;rw[r] at a;exact a
 have o:∀c d,H c\(.tup d)->c≠x:=λc d r z=>by subst z;rw[r] at a;exact a
 by_cases f:b=x
 .subst f;rw[aK] at q;cases q;exact new
 .rw[bf f] at q
  by_cases g:b=e
  .have m:H b\(.own x):=by
    rcases j with z|z
    .exact absurd (g.trans z) f
    .rw[g];exact z
   obtain⟨v,p⟩:=n;rw[q] at m;cases m;exact#[v,by rw[g];exact p]
  .refine(ok b u q).vW (λc v i r=>k c v ?_ r) (λc r=>by rw[bf (l c b r)];exact r) λc d r=>by rw[bf (o c d r)];exact r
   rcases i with rfl|i
   .exact g
   .rintro rfl
    rcases j with z|z
    .exact l c b i z
    .rw[i] at z;cases z;exact f rfl
end
structure Un (fs ex:List Addr) (H H':Hp) (h h':Heap):Prop where
 keep:∀b o,h.get? b\o->H b=none->b∉fs->b∉ex->h'.get? b\o
 slot:∀b o,h.get? b\o->H b=none->b∈fs->b∉ex->∃sl,h'.get? b\{o with slots:=sl}
 free:∀b o,h.get? b\o->H b=none->b∉ex->H' b=none
 there:∀b o,h.get? b\o->b∉ex->∃o',h'.get? b\o'
 tups:∀b xs,H b\(.tup xs)->H' b\(.tup xs)
 frzs:∀b o u,H b\(.sU o u)->H' b\(.sU o u)
 tbls:∀b ps,H b\(.GR ps)->∃more,H' b\(.GR (ps++more))
section
variable {fs YD ex ex':List Addr} {H H1 H2:Hp} {h h1 h2 h':Heap} {a x e:Addr} {o:HO}
def Un.any(u:Un fs ex H H1 h h1)(q:h.get? b\c)(n:H b=none)(d:b∉ex):∃g,h1.get? b\{c with slots:=g}:=by
 by_cases f:b∈fs
 .exact u.slot b c q n f d
 .exact#[c.slots,u.keep b c q n f d]
def Un.kept(k:∀b u,h.get? b\u->h'.get? b\u):Un fs ex H H h h':=
 #[λb c q _ _ _=>k b c q,λb c q _ _ _=>#[c.slots,k b c q],λ_ _ _ n _=>n,λb c q _=>#[c,k b c q],λ_ _ q=>q,λ_ _ _ q=>q,λ_ d q=>#[#[],by rw[q];simp]]
def Un.refl:Un fs ex H H h h:=Un.kept λ_ _ q=>q
def Un.laid(k:∀b u,h.get? b\u->h'.get? b\u)(d:h.objs.size<=a)(c:H a=none):Un fs ex H (upd H a o) h h' where
 keep:=λb u q _ _ _=>k b u q
 slot:=λb u q _ _ _=>#[u.slots,k b u q]
 free:=λb u q n _=>by rw[bf (bY (i3 (Fk q) d))];exact n
 there:=λb u q _=>#[u,k b u q]
 tups:=λb f q=>by rw[bf (bN q c)];exact q
 frzs:=λb u f q=>by rw[bf (bN q c)];exact q
 tbls:=λb g q=>#[#[],by rw[bf (bN q c),q];simp]
def Un.write(c:NJ (H x))(j:e=x\/H e\(.own x))(k:∀b u,b≠e->h.get? b\u->h'.get? b\u)(l:∃u,h'.get? e\u):Un fs ex H (upd H x o) h h':=by
 have f:∀b,H b=none->b≠x:=λb n z=>by subst z;rw[n] at c;exact c
 have g:∀b,H b=none->b≠e:=λb n z=>by
  subst z
  rcases j with r|r
  .exact f b n r
  .rw[n] at r;cases r
 have d:∀b u,H b\u->¬NJ (some u)->b≠x:=λb u q m z=>by subst z;rw[q] at c;exact m c
 refine#[λb u q n _ _=>k b u (g b n) q,λb u q n _ _=>#[u.slots,k b u (g b n) q],λb u q n _=>by rw[bf (f b n)];exact n,λb u q _=>?_,
  λb p q=>by rw[bf (d b _ q λz=>z)];exact q,λb u p q=>by rw[bf (d b _ q λz=>z)];exact q,λb s q=>#[#[],by rw[bf (d b _ q λz=>z),q];simp]]
 by_cases i:b=e
 .subst i;exact l
 .exact#[u,k b u i q]
end
def PQ(h:Heap)(H:Hp):List Addr:=(ac h.objs.size).filter λa=>(H a).isSome
def sZ(h:Heap)(H:Hp):Heap:=PySem.W.hideAll h (PQ h H)
def FO(h:Heap)(H:Hp):(sZ h H).objs.size=h.objs.size:=PySem.W.hideAll_size _ _
def Jb(e:h.get? b\o)(n:H b=none):(sZ h H).get? b\o:=
 PySem.W.hideAll_get _ e λa=>by
  have q:(H b).isSome=true:=(jI.mp a).2;rw[n] at q;simp at q
def Mf(e:(sZ h H).get? b\o):h.get? b\o/\H b=none:=by
 have a:h.get? b\o:=PySem.W.of_hideAll (PQ h H) e;exists a;cases q:H b with
 |none=>rfl
 |some x=>
  have c:b∈PQ h H:=jI.mpr #[cE.mpr (Fk a),by simp[q]]
  have z:(sZ h H).get? b=none:=PySem.W.hideAll_none (PQ h H) c;rw[z] at e;cases e
structure Mod (K:ab) (mg:Str->Option Value) (base:Heap):Prop where
 kin:K.In base
 glob:base.Ns mainGlobals mg
 blt:∃mb,base.Ns builtinsNs mb/\∀x:Str,x≠"__name__"->mb x=bootBuiltins x
 nolimit:base.NoLimit
structure Cx where
 prog:Program
 w:World
 K:ab
 mg:Str->Option Value
 base:Heap
 A:Around
 N:List Str
 s₀:Shared
 H₀:Hp
 env:Env
 outer:List Env
 stack:List Env
 ex:List Addr
 fn:Str->Bool
 calm:Bool
 pn:List (Addr×Obj)
 xe:Value->Shared->Prop
def xR(l:List Env):List Addr:=l.filterMap (·.frame)
abbrev Cx.fs(X:Cx):List Addr:=xR X.outer
def kZ(a:Scope)(x:Str):Prop:=a.names.lookup x\.local\/a.names.lookup x\.cell\/a.names.lookup x\.free
def Loc(a:Scope)(x:Str):Prop:=a.names.lookup x\.local\/a.names.lookup x\.cell
def Look(env:Env)(h:Heap)(m:Str->Option Value)(x:Str)(u:Value):Prop:=
 (env.kindOf x\.local/\m x\u)\/((env.kindOf x\.cell\/env.kindOf x\.free)/\∃c,env.cells.lookup x\c/\h.IsCell c (some u))
structure Cx.Ok (X:Cx):Prop where
 mod:Mod X.K X.mg X.base
 kind:X.env.scope.kind= .function
 glob:X.env.globals=mainGlobals
 blt:X.env.builtins=builtinsNs
 above:X.s₀.heap.objs.size<=X.env.locals
 inj:∀x y c,X.env.cells.lookup x\c->X.env.cells.lookup y\c->x=y
 has:∀x,(X.env.kindOf x\.cell\/X.env.kindOf x\.free)->∃c,X.env.cells.lookup x\c
 cab:∀x c,X.fn x=true->X.env.cells.lookup x\c->X.s₀.heap.objs.size<=c
 hd:X.calm=true->X.A.handled=none
 frames:X.A.frames\X.stack
 stk:X.stack=X.outer\/(X.stack=X.env::X.outer/\X.env.frame\X.env.locals)
 exf:∀b∈X.ex,b≠X.env.locals/\∀x c,X.env.cells.lookup x\c->c≠b
 bs:∀b o,X.base.get? b\o->X.s₀.heap.get? b\o/\X.H₀ b=none
 bsz:X.base.objs.size<=X.s₀.heap.objs.size
 noex:∀b o,X.base.get? b\o->b∉X.ex
 exfs:∀b∈X.ex,b∉X.fs
 funs:X.s₀.heap.FunFrames X.base X.outer
 frf:∀b∈X.fs,X.H₀ b=none
structure Inv (X:Cx) (pins:List (Addr×Obj)) (σ:List (Option V)) (H:Hp) (s:Shared):Prop where
 ok:X.Ok
 os:s.os=X.s₀.os
 bare:AllBare s.gens
 base:Un X.fs X.ex X.H₀ H X.s₀.heap s.heap
 loc:∃m,s.heap.Ns X.env.locals m/\∀(i:Nat)(x:Str)(v:V),X.N[i]?\x->σ[i]?\(some v)->kZ X.env.scope x->∃u,RelV v u/\Look X.env s.heap m x u
 cell:∀x c,X.env.cells.lookup x\c->∃v,s.heap.IsCell c v
 free:H X.env.locals=none
 freeC:∀x c,X.env.cells.lookup x\c->H c=none
 pin:∀p∈X.pn++pins,s.heap.get? p.1\p.2/\H p.1=none/\p.1≠X.env.locals/\p.1∉X.fs/\∀v,p.2.data≠ .cell v
 hok:j4 X.prog X.w H s.heap
 len:σ.length=X.N.length
section
variable {X:Cx} {pins:List (Addr×Obj)} {σ:List (Option V)} {H H':Hp} {s:Shared} {h':Heap}
def Cx.Ok.Wh(ok:X.Ok)(e:X.base.get? b\o):b∉X.fs:=λa=>by
 have:=(ok.funs.mem a).1
 rw[e] at this;cases this
theorem Inv.bs(I:Inv X pins σ H s):∀b o,X.base.get? b\o->s.heap.get? b\o/\H b=none:=λb o e=>
 #[I.base.keep b o (I.ok.bs b o e).1 (I.ok.bs b o e).2 (I.ok.Wh e) (I.ok.noex b o e),I.base.free b o (I.ok.bs b o e).1 (I.ok.bs b o e).2 (I.ok.noex b o e)]
def Inv.bk(I:Inv X pins σ H s):∀b o,X.base.get? b\o->s.heap.get? b\o:=λb o e=>(I.bs b o e).1
theorem Inv.mod(I:Inv X pins σ H s):Mod X.K X.mg X.base:=I.ok.mod
def Inv.jO(I:Inv X pins σ H s):X.K.In s.heap:=I.ok.mod.kin.keeps I.bk
theorem Inv.lt(I:Inv X pins σ H s):X.env.locals<s.heap.objs.size:=let #[_,a,_]:=I.loc;a.lt
def Inv.sz(I:Inv X pins σ H s):X.s₀.heap.objs.size<=s.heap.objs.size:=m8 I.ok.above (vg I.lt)
def Inv.QH(I:Inv X pins σ H s)(h:s.heap.objs.size<=a):a∉X.fs:=λb=>by
 obtain⟨_,o,c,_⟩:=I.ok.funs.mem b;exact absurd (i3 (Fk c) (m8 I.sz h)) (qz _)
def Inv.Fq(I:Inv X pins σ H s):∀x c,X.env.cells.lookup x\c->c≠X.env.locals:=λx c e z=>by
 obtain⟨v,o,a,b⟩:=I.cell x c e;obtain⟨m,⟨g,h,i,d,f,_⟩,_⟩:=I.loc;rw[z,d] at a;cases a;rw[f] at b;cases b
theorem Inv.funs(I:Inv X pins σ H s):s.heap.FunFrames X.base X.outer:=by
 have all:∀(l:List Env),(∀b∈xR l,b∈X.fs)->X.s₀.heap.FunFrames X.base l->s.heap.FunFrames X.base l:=by
  intro l
  induction l with
  |nil=>intro _ _;trivial
  |cons env r g=>
   intro f h;rfl';obtain⟨j,⟨L,o,a,k,m,n⟩,p⟩:=h;have c:L∈X.fs:=f L (by unfold xR;rw[abx,a];exact bP)
   obtain⟨t,e⟩:=I.base.slot L o m (I.ok.frf L c) c λz=>I.ok.exfs L z c;ac_rfl;exact#[j,#[L,_,a,k,e,n],g (λb d=>f b (by unfold xR;rw[abx,a];exact cI _ d)) p]
 exact all X.outer (λ_ d=>d) I.ok.funs
theorem Inv.stack(I:Inv X pins σ H s):s.heap.FunFrames X.base X.stack:=by
 rcases I.ok.stk with e| ⟨e,a⟩
 .rw[e];exact I.funs
 .rw[e]
  obtain⟨m,b,_⟩:=I.loc;refine .cons (by rw[I.ok.kind];decide) a b ?_ I.funs
  exact Heap.get?_none_of_le (m8 I.ok.bsz I.ok.above)
def Inv.CA(I:Inv X pins σ H s):∀b∈xR X.stack,b∈X.env.locals::X.fs:=λb a=>by
 rcases I.ok.stk with e| ⟨e,c⟩
 .rw[e] at a;exact cI _ a
 .rw[e] at a
  unfold xR at a;rw[abx,c] at a;exact a
def Inv.ET(I:Inv X pins σ H s):∀b∈xR X.stack,H b=none:=λb a=>by
 rcases bH.mp (I.CA b a) with e|a
 .rw[e];exact I.free
 .obtain⟨_,o,c,_⟩:=I.ok.funs.mem a
  exact I.base.free b o c (I.ok.frf b a) λz=>I.ok.exfs b z a
def Inv.step{g':Array GenState}{t':Nat}{d':Drawn}{ch:List Addr}(I:Inv X pins σ H s)
  (t:∀b∈ch,(b∈X.ex\/X.s₀.heap.objs.size<=b)/\b≠X.env.locals/\(∀x c,X.env.cells.lookup x\c->c≠b)/\∀p∈X.pn++pins,p.1≠b)
  (keep:∀b o,b≠X.env.locals->b∉X.fs->b∉ch->s.heap.get? b\o->H b=none->h'.get? b\o)
  (slot:∀b o,b≠X.env.locals->b∈X.fs->b∉ch->s.heap.get? b\o->H b=none->∃F,h'.get? b\{o with slots:=F}) (free:∀b o,b∉ch->s.heap.get? b\o->H b=none->H' b=none)
  (there:∀b o,b∉ch->s.heap.get? b\o->∃y,h'.get? b\y)
  (tups:∀b xs,H b\(.tup xs)->H' b\(.tup xs)) (frzs:∀b o u,H b\(.sU o u)->H' b\(.sU o u)) (tbls:∀b C,H b\(.GR C)->∃more,H' b\(.GR (C++more)))
  (P:∀m,s.heap.Ns X.env.locals m->h'.Ns X.env.locals m) (hok:j4 X.prog X.w H' h') (Q:AllBare g'):
  Inv X pins σ H' {s with heap:=h',gens:=g',drawn:=d',toks:=t'}:=by
 have L:∀b o,X.s₀.heap.get? b\o->b≠X.env.locals:=λb o e=>bY (i3 (Fk e) I.ok.above)
 have E:∀b o,X.s₀.heap.get? b\o->b∉X.ex->b∉ch:=λb o e a h=>by
  rcases(t b h).1 with z|z
  .exact a z
  .exact absurd (i3 (Fk e) z) (qz _)
 have f:∀x c,X.env.cells.lookup x\c->∀v,s.heap.IsCell c v->h'.IsCell c v:=λx c e v #[o,j,G]=>by
  have A:c∉ch:=λz=>(t c z).2.2.1 x c e rfl
  by_cases M:c∈X.fs
  .obtain⟨F,q⟩:=slot c o (I.Fq x c e) M A j (I.freeC x c e)
   exact#[_,q,G]
  .exact#[o,keep c o (I.Fq x c e) M A j (I.freeC x c e),G]
 refine#[I.ok,I.os,Q,#[λb o e n h a=>?_,λb o e n h a=>?_,λb o e n a=>?_,λb o e a=>?_,λb xs e=>tups b xs (I.base.tups b xs e),λb o xs e=>frzs b o xs (I.base.frzs b o xs e),λb C e=>?_],?_,λx c e=>?_,?_,λx c e=>?_,λp N=>?_,hok,I.len]
 .exact keep b o (L b o e) h (E b o e a) (I.base.keep b o e n h a) (I.base.free b o e n a)
 .obtain⟨F,g⟩:=I.base.slot b o e n h a
  obtain⟨J,B⟩:=slot b _ (L b o e) h (E b o e a) g (I.base.free b o e n a);exact#[J,B]
 .obtain⟨y,g⟩:=I.base.there b o e a
  exact free b y (E b o e a) g (I.base.free b o e n a)
 .obtain⟨y,g⟩:=I.base.there b o e a
  exact there b y (E b o e a) g
 .obtain⟨R,g⟩:=I.base.tbls b C e
  obtain⟨S,B⟩:=tbls b _ g;exact#[R++S,by rw[B,Array.append_assoc]]
 .obtain⟨m,T,U⟩:=I.loc
  refine#[m,P m T,λi x v g B Y=>?_];obtain⟨u,r,l⟩:=U i x v g B Y;exists u,r
  rcases l with l| ⟨k,c,e,z⟩
  .exact .inl l
  .exact .inr #[k,c,e,f x c e _ z]
 .obtain⟨v,z⟩:=I.cell x c e
  exact#[v,f x c e v z]
 .obtain⟨m,⟨o,_,_,j,_⟩,_⟩:=I.loc
  exact free _ o (λz=>(t _ z).2.1 rfl) j I.free
 .obtain⟨v,o,j,G⟩:=I.cell x c e
  exact free c o (λz=>(t c z).2.2.1 x c e rfl) j (I.freeC x c e)
 .obtain⟨e,n,ne,O,d⟩:=I.pin p N
  have A:p.1∉ch:=λz=>(t p.1 z).2.2.2 p N rfl;exact#[keep p.1 p.2 ne O A e n,free p.1 p.2 A e n,ne,O,d]
theorem Inv.un{t':Nat}(I:Inv X pins σ H s)(u:Un X.fs [] H H' s.heap h')(hok:j4 X.prog X.w H' h'):Inv X pins σ H' {s with heap:=h',toks:=t'}:=by
 rfl';obtain⟨m,⟨o,p,q,d,r⟩,_⟩:=id I.loc;obtain⟨t,h⟩:=u.any d I.free (by simp)
 ac_rfl
 exact I.step (g':=s.gens) (d':=s.drawn) (ch:= []) (λ_ z=>nomatch z) (λb o _ c _ e n=>u.keep b o e n c (by simp)) (λb o _ c _ e n=>u.slot b o e n c (by simp)) (λb o _ e n=>u.free b o e n (by simp)) (λb o _ e=>u.there b o e (by simp)) u.tups u.frzs u.tbls (λv i=>by
  rfl';obtain⟨x,j,k,f,l⟩:=i;ac_rfl;rw[d] at f;cases f;exact#[_,j,k,h,l]) hok I.bare
theorem Inv.call{g':Array GenState}{t':Nat}{d':Drawn}{ch:List Addr}(I:Inv X pins σ H s)(u:Un (xR X.stack) ch H H' s.heap h')(hok:j4 X.prog X.w H' h')(j:AllBare g')
  (g:∀b∈ch,(b∈X.ex\/X.s₀.heap.objs.size<=b)/\b≠X.env.locals/\(∀x c,X.env.cells.lookup x\c->c≠b)/\∀p∈X.pn++pins,p.1≠b):
  Inv X pins σ H' {s with heap:=h',gens:=g',drawn:=d',toks:=t'}:=by
 rfl';obtain⟨m,⟨o,A,B,h,r⟩,_⟩:=id I.loc;obtain⟨C,f⟩:=u.any h I.free λz=>(g _ z).2.1 rfl;ac_rfl
 exact I.step (ch:=ch) g (λb o f l a e n=>u.keep b o e n (λz=>(bH.mp (I.CA b z)).elim f l) a) (λb o _ _ a e n=>u.any e n a) (λb o a e n=>u.free b o e n a) (λb o a e=>u.there b o e a) u.tups u.frzs u.tbls (λE q=>by
  rfl';obtain⟨F,t,v,i,y⟩:=q;ac_rfl;rw[h] at i;cases i;exact#[_,t,v,f,y]) hok j
def Inv.turned{t':Nat}{it:Addr}(I:Inv X pins σ H s)(k:∀b o,b≠it->s.heap.get? b\o->h'.get? b\o)(g:H it=none)(d:it≠X.env.locals)
  (h:it∈X.ex\/X.s₀.heap.objs.size<=it) (i:∀x c,X.env.cells.lookup x\c->c≠it) (j:∀p∈X.pn++pins,p.1≠it):Inv X pins σ H {s with heap:=h',toks:=t'}:=by
 have f:∀b u,H b\u->b≠it:=λb u e z=>by rw[z,g] at e;cases e
 refine I.step (g':=s.gens) (d':=s.drawn) (ch:= [it]) (λb l=>?_) (λb o _ _ a e _=>k b o (λz=>a (by simp[z])) e) (λb o _ _ a e _=>#[o.slots,k b o (λz=>a (by simp[z])) e]) (λ_ _ _ _ n=>n)
  (λb o a e=>#[o,k b o (λz=>a (by simp[z])) e]) (λ_ _ e=>e) (λ_ _ _ e=>e) (λb B e=>#[#[],by rw[e];simp]) (λm t=>?_) (λb u e=>?_) I.bare
 .have e:b=it:=by simpa using l
  subst e;exact#[h,d,i,j]
 .obtain⟨o,w,y,A,r⟩:=t
  exact#[o,w,y,k _ o (Ne.symm d) A,r]
 .refine(I.hok b u e).vW (λc v a q=>k c v ?_ q) (λ_ q=>q) λ_ _ q=>q
  rcases a with z|z
  .rw[z];exact f b u e
  .exact f c _ z
def Inv.tok(I:Inv X pins σ H s)(t:Nat):Inv X pins σ H {s with toks:=t}:=I.un (h':=s.heap) (t':=t) Un.refl I.hok
theorem Inv.kept{t':Nat}(I:Inv X pins σ H s)(k:∀b u,s.heap.get? b\u->h'.get? b\u):Inv X pins σ H {s with heap:=h',toks:=t'}:=I.un (Un.kept k) (I.hok.kept k)
theorem Inv.laid{a:Addr}{o:HO}{t':Nat}(I:Inv X pins σ H s)(k:∀b u,s.heap.get? b\u->h'.get? b\u)(c:s.heap.objs.size<=a)(new:dN X.prog X.w (upd H a o) h' a o):
  Inv X pins σ (upd H a o) {s with heap:=h',toks:=t'}:=I.un (Un.laid k c (I.hok.fresh c)) (I.hok.laid k c new)
theorem Inv.write{x e:Addr}{o:HO}{t':Nat}(I:Inv X pins σ H s)(a:NJ (H x))(c:e=x\/H e\(.own x))(k:∀b u,b≠e->s.heap.get? b\u->h'.get? b\u)(d:∃u,h'.get? e\u)
  (new:dN X.prog X.w (upd H x o) h' x o):Inv X pins σ (upd H x o) {s with heap:=h',toks:=t'}:=I.un (Un.write a c k d) (I.hok.write a c k d new)
def Inv.tM(I:Inv X pins σ H s)(h:∀p∈a,s.heap.get? p.1\p.2/\H p.1=none/\p.1≠X.env.locals/\p.1∉X.fs/\∀v,p.2.data≠ .cell v):Inv X a σ H s:=
 #[I.ok,I.os,I.bare,I.base,I.loc,I.cell,I.free,I.freeC,λp b=>(b6.mp b).elim (λz=>I.pin p (fi _ z)) (h p),I.hok,I.len]
def AJ{N:List Str}(c:N.Nodup){i j:Nat}{x:Str}(a:N[i]?\x)(b:N[j]?\x):i=j:=by
 obtain⟨f,d⟩:=eC.mp a;obtain⟨g,e⟩:=eC.mp b;exact(List.getElem_inj c).mp (d.trans e.symm)
theorem store_ok2(I:Inv X pins σ H s)(hN:X.N.Nodup)(O:X.N[i]?\x)(B:Loc X.env.scope x)(r:RelV v u)
  (h:∀S,Inv X pins (σ.set i (some v)) H S->(∃a,Heap.SameBut a s.heap S.heap/\(a=X.env.locals\/X.env.cells.lookup x\a))->Q ⟨⟩ S) (hf:X.fn x=true\/X.env.scope.names.lookup x\.local:=by subst_eqs):wpAny M A (storeName X.env x u) Q E s:=by
 obtain⟨m,T,hl⟩:=id I.loc;have Vb:(X.env.scope.kind== .class|| (X.env.scope.kind== .module&&X.env.locals !=X.env.globals))=false:=by rw[I.ok.kind];rfl
 have Qu:i<σ.length:=by rw[I.len];exact(eC.mp O).1
 have Fq:=I.Fq
 have g:∀{a:Addr}{L:Heap},(∃o,s.heap.get? a\o/\H a=none)->Heap.SameBut a s.heap L->j4 X.prog X.w H L:=λ {a L} ha f b ob e=>by
  obtain⟨_,_,Bw⟩:=ha;refine(I.hok b ob e).vW (λc P t q=>(f.2 c ?_).trans q) (λ_ q=>q) λ_ _ q=>q;rintro rfl
  rcases t with rfl|t
  .rw[Bw] at e;cases e
  .rw[Bw] at t;cases t
 rcases B with F|F
 .refine wpAny_storeName_local F T (λL Zu f=>?_) Vb
  obtain⟨oL,_,_,tj,_⟩:=id T;refine h _ #[I.ok,I.os,I.bare,#[λb o e n G B=>?_,λb o e n G B=>?_,I.base.free,λb o e B=>?_,I.base.tups,I.base.frzs,I.base.tbls],#[_,Zu,λj y U l C Y=>?_],λy c e=>?_,I.free,I.freeC,λp Z=>?_,g #[oL,tj,I.free] f,by simpa using I.len] #[_,f, .inl rfl]
  .exact(f.2 b (bY (i3 (Fk e) I.ok.above))).trans (I.base.keep b o e n G B)
  .obtain⟨sl,l⟩:=I.base.slot b o e n G B
   exact#[sl,(f.2 b (bY (i3 (Fk e) I.ok.above))).trans l]
  .obtain⟨o',l⟩:=I.base.there b o e B
   exact#[o',(f.2 b (bY (i3 (Fk e) I.ok.above))).trans l]
  .by_cases J:j=i
   .subst J
    rw[O] at l;cases l;rw[kY Qu] at C;cases C;exact#[u,r, .inl #[F,by simp]]
   .rw[jF (Ne.symm J)] at C
    obtain⟨u',r',q⟩:=hl j y U l C Y;exists u',r'
    rcases q with ⟨k,e⟩ | ⟨k,c,e,z⟩
    .refine .inl #[k,?_]
     have:y≠x:=λe=>J (AJ hN l (e▸O))
     simp[this,e]
    .exact .inr #[k,c,e,z.sameBut f (Fq y c e)]
  .obtain⟨P,z⟩:=I.cell y c e
   exact#[P,z.sameBut f (Fq y c e)]
  .obtain⟨e,n,ne,nf,d⟩:=I.pin p Z
   exact#[(f.2 p.1 ne).trans e,n,ne,nf,d]
 .have R6:X.fn x=true:=by
   rcases hf with z|z
   .exact z
   .rw[z] at F;cases F
  obtain⟨c,t⟩:=I.ok.has x (.inl F);obtain⟨P,z⟩:=I.cell x c t;refine wpAny_storeName_cell I.ok.kind F t z (λL sX f=>?_);obtain⟨oc,Vv,Vw⟩:=id z;refine h {s with heap:=L} #[I.ok,I.os,I.bare,#[λb o e n G B=>?_,λb o e n G B=>?_,I.base.free,λb o e B=>?_,I.base.tups,I.base.frzs,I.base.tbls],#[m,T.sameBut f (Ne.symm (Fq x c t)),λj y U l C Y=>?_],λy R e=>?_,I.free,I.freeC,λp Z=>?_,g #[oc,Vv,I.freeC x c t] f,by simpa using I.len] #[c,f, .inr t]
  .exact(f.2 b (bY (i3 (Fk e) (I.ok.cab x c R6 t)))).trans (I.base.keep b o e n G B)
  .obtain⟨sl,l⟩:=I.base.slot b o e n G B
   exact#[sl,(f.2 b (bY (i3 (Fk e) (I.ok.cab x c R6 t)))).trans l]
  .obtain⟨o',l⟩:=I.base.there b o e B
   exact#[o',(f.2 b (bY (i3 (Fk e) (I.ok.cab x c R6 t)))).trans l]
  .by_cases J:j=i
   .subst J
    rw[O] at l;cases l;rw[kY Qu] at C;cases C;exact#[u,r, .inr #[.inl F,c,t,sX]]
   .rw[jF (Ne.symm J)] at C
    obtain⟨u',r',q⟩:=hl j y U l C Y;exists u',r'
    rcases q with q| ⟨k,R,e,z'⟩
    .exact .inl q
    .refine .inr #[k,R,e,z'.sameBut f ?_]
     rintro rfl;exact J (AJ hN l (I.ok.inj _ _ _ e t▸O))
  .by_cases U9:R=c
   .subst U9;exact#[_,sX]
   .obtain⟨w2,z2⟩:=I.cell y R e
    exact#[w2,z2.sameBut f U9]
  .obtain⟨e,n,ne,nf,d⟩:=I.pin p Z
   refine#[(f.2 p.1 ?_).trans e,n,ne,nf,d];intro q;rw[q,Vv] at e;have q':oc=p.2:=Do e;exact d P (by rw[<-q'];exact Vw)
def mX{x:Str}{v:V}(I:Inv X pins σ H s)(b:X.N.Nodup)(c:X.N[i]?\x)(d:Loc X.env.scope x)(r:RelV v u)
  (h:∀a,Inv X pins (σ.set i (some v)) H a->Q ⟨⟩ a) (e:X.fn x=true\/X.env.scope.names.lookup x\.local:=by subst_eqs):wpAny M A (storeName X.env x u) Q E s:=
 store_ok2 I b c d r (λa f _=>h a f) e
def Inv.Q8{ch:List Addr}(I:Inv X pins σ H s)(d:a.os=s.os)(u:Un (xR X.stack) ch H H' s.heap a.heap)(hok:j4 X.prog X.w H' a.heap)(f:AllBare a.gens)
  (g:∀b∈ch,(b∈X.ex\/X.s₀.heap.objs.size<=b)/\b≠X.env.locals/\(∀x c,X.env.cells.lookup x\c->c≠b)/\∀p∈X.pn++pins,p.1≠b):Inv X pins σ H' a:=by
 obtain⟨i,g',d',t',h⟩:=a;have e:h=s.os:=d;subst e;exact I.call (g':=g') (t':=t') (d':=d') u hok f g
end
abbrev XK:=Value->Option Addr->Hp->Prop
abbrev St:=List (Option V)
abbrev VK:=V->Hp->Prop
abbrev TE:=St->Hp->VK->Prop
abbrev TT:=St->Hp->(Bool->Hp->Prop)->Prop
abbrev TA:=St->Hp->(List V->Hp->Prop)->Prop
structure Ends where
 nx:St->Hp->Prop
 rt:VK
 bk:St->Hp->Prop:=λ_ _=>False
 ct:St->Hp->Prop:=λ_ _=>False
abbrev TS:=Ends->St->Hp->Prop
def EP(X:Cx)(a:List (Addr×Obj))(c:St)(Q:VK)(u:Value)(d:Shared):Prop:=∃v b,Inv X a c b d/\RelV v u/\Q v b
def TP(X:Cx)(a:List (Addr×Obj))(d:St)(Q:Bool->Hp->Prop)(b:Bool)(e:Shared):Prop:=∃c,Inv X a d c e/\Q b c
def AP(X:Cx)(a:List (Addr×Obj))(d:St)(Q:List V->Hp->Prop)(e:List Value)(f:Shared):Prop:=∃b c,Inv X a d c f/\Vals b e/\Q b c
def SP(X:Cx)(a:List (Addr×Obj))(D:Ends)(f:Flow)(d:Shared):Prop:=
 match f with
 | .next=>∃c b,Inv X a c b d/\D.nx c b
 | .brk=>∃c b,Inv X a c b d/\D.bk c b
 | .cont=>∃c b,Inv X a c b d/\D.ct c b
 | .ret u=>∃v c b,Inv X a c b d/\RelV v u/\D.rt v b
def PE(X:Cx)(e:Expr)(t:TE):Prop:=
 ∀(a:List (Addr×Obj))(s:Shared)(b:St)(H:Hp)(Q:VK),Inv X a b H s->t b H Q->wpAny (model X.prog X.w) X.A (eval e X.env) (EP X a b Q) X.xe s
def PT(X:Cx)(e:Expr)(t:TT):Prop:=
 ∀(a:List (Addr×Obj))(s:Shared)(b:St)(H:Hp)(Q:Bool->Hp->Prop),Inv X a b H s->t b H Q->wpAny (model X.prog X.w) X.A (isTrue e X.env (eval e X.env)) (TP X a b Q) X.xe s
def PW(X:Cx)(e:Expr)(t:TT):Prop:=
 ∀(b:Sem Value)(a:List (Addr×Obj))(s:Shared)(c:St)(H:Hp)(Q:Bool->Hp->Prop),Inv X a c H s->t c H Q->wpAny (model X.prog X.w) X.A (isTrue e X.env b) (TP X a c Q) X.xe s
def PW.pt(h:PW X e t):PT X e t:=h _
def PA(X:Cx)(d:List Expr)(t:TA):Prop:=
 ∀(b:Pos)(a:List (Addr×Obj))(s:Shared)(c:St)(H:Hp)(Q:List V->Hp->Prop),Inv X a c H s->t c H Q->wpAny (model X.prog X.w) X.A (spliced (backTo b (starEach d X.env))) (AP X a c Q) X.xe s
def PS(X:Cx)(st:Stmt)(t:TS):Prop:=
 ∀(a:List (Addr×Obj))(s:Shared)(b:St)(H:Hp)(D:Ends),Inv X a b H s->t D b H->wpAny (model X.prog X.w) X.A (exec st X.env) (SP X a D) X.xe s
def mz(X:Cx)(st:List Stmt)(t:TS):Prop:=
 ∀(a:List (Addr×Obj))(s:Shared)(b:St)(H:Hp)(D:Ends),Inv X a b H s->t D b H->wpAny (model X.prog X.w) X.A (execs st X.env) (SP X a D) X.xe s
def thn{Q c:b->Shared->Prop}(h:wpAny M A t Q E s)(d:∀a s,Q a s->c a s):wpAny M A t c E s:=wpAny_mono h d λ_ _ x=>x
section
variable {X:Cx}
def QU(i:Nat):TE:=λa H Q=>∃v,a[i]?\(some v)/\Q v H
def tC(v:V):TE:=λ_ H Q=>Q v H
def Cb(k:X.N[i]?\x)(n:kZ X.env.scope x)(f:(x==("__debug__":Str))=false:=by decide)(o:(x==("__classdict__":Str))=false:=by decide):PE X (.Name x d) (QU i):=by
 intro b s p H Q I h;rfl';obtain⟨v,e,h⟩:=h;obtain⟨m,t,w⟩:=I.loc;obtain⟨u,r,l⟩:=w i x v k e n;have fin:EP X b p Q u s:=#[v,H,I,r,h];ac_rfl
 rcases l with ⟨a,y⟩ | ⟨a,c,g,j⟩
 .exact wpAny_Name (wpAny_loadName_local I.ok.kind a t y fin) f
 .rcases a with a|a
  .exact wpAny_Name (wpAny_loadName_cell I.ok.kind a g j fin) f
  .exact wpAny_Name (wpAny_loadName_free I.ok.kind a g j fin o) f
def O1{i j pos}:PE X (.Constant (.int i) j pos) (tC (.int i)):=λ_ _ _ H _ I h=>wpAny_Constant_int #[.int i,H,I.tok _,#[_,rfl],h]
def SW{b j pos}:PE X (.Constant (.bool b) j pos) (tC (.bl b)):=λ_ _ _ H _ I h=>Constant_bool #[.bl b,H,I,rfl,h]
def O3{j pos}:PE X (.Constant .none j pos) (tC .bC):=λ_ _ _ H _ I h=>Constant_none #[.bC,H,I,rfl,h]
def O6{x j pos}:PE X (.Constant (.str x) j pos) (tC (.str x)):=λ_ _ _ H _ I h=>Calls.Constant_str #[.str x,H,I.tok _,#[_,rfl],h]
def Gl(X:Cx)(x:Str):Prop:=X.env.kindOf x\.globalImplicit
def yh(I:Inv X a c H s)(d:Gl X x)(e:X.mg x\u)(h:Q u s)
  (f:(x==("__debug__":Str))=false:=by decide):wpAny (model X.prog X.w) X.A (eval (.Name x b) X.env) Q E s:=
 abL I.ok.kind d (Calls.loadGlobal_global (by rw[I.ok.glob];exact I.mod.glob.keeps I.bk) e h) f
def lH{u:Value}(I:Inv X a c H s)(d:Gl X x)(e:X.mg x=none)(f:bootBuiltins x\u)(h:Q u s)
  (g:x≠"__name__":=by decide) (i:(x==("__debug__":Str))=false:=by decide):wpAny (model X.prog X.w) X.A (eval (.Name x b) X.env) Q E s:=by
 obtain⟨l,j,k⟩:=I.mod.blt;exact abL I.ok.kind d (Calls.loadGlobal_builtin (by rw[I.ok.glob];exact I.mod.glob.keeps I.bk) e (by rw[I.ok.blt];exact j.keeps I.bk) ((k x g).trans f) h) i
def Mr{v:V}(b:Gl X x)(c:X.mg x\u)(r:RelV v u)(d:(x==("__debug__":Str))=false:=by decide):PE X (.Name x a) (tC v):=
 λ_ _ _ H _ I h=>yh I b c #[v,H,I,r,h] d
def Mo(b:Gl X x)(c:X.mg x=none)(d:bootBuiltins x\u)(r:RelV v u)(e:x≠"__name__":=by decide)(f:(x==("__debug__":Str))=false:=by decide):PE X (.Name x a) (tC v):=
 λ_ _ _ H _ I h=>lH I b c d #[v,H,I,r,h] e f
variable {a b:Expr} {ta tb:TE} {pos:Pos}
variable {tA CB:TT} {rest:List Expr}
def WO(t u:TT):TT:=λd H Q=>t d H λc e=>if c=true then u d e Q else Q false e
def tOr(t u:TT):TT:=λd H Q=>t d H λc e=>if c=true then Q true e else u d e Q
def WY(t:TT):TT:=λd H Q=>t d H λc e=>Q (!c) e
def MO(f:PT X a tA):PW X (.BoolOp .And [a] pos) tA:=by
 intro i d s g H Q I h;refine isTrue_and (thn (f d s g H Q I h) λc j e=>?_);cases c with
 |true=>exact isTrue_and_nil e
 |false=>exact e
def Pe(f:PT X a tA):PW X (.BoolOp .Or [a] pos) tA:=by
 intro i d s g H Q I h;refine isTrue_or (thn (f d s g H Q I h) λc j e=>?_);cases c with
 |false=>exact isTrue_or_nil e
 |true=>exact e
def Pd(j:PT X a tA)(k:PW X (.BoolOp .And (b::rest) pos) CB):PW X (.BoolOp .And (a::b::rest) pos) (WO tA CB):=by
 intro l d s e H Q I h;refine isTrue_and (thn (j d s e H _ I h) λc m #[f,g,i]=>?_);cases c with
 |true=>exact k l d m e f Q g i
 |false=>exact#[f,g,i]
def SY(j:PT X a tA)(k:PW X (.BoolOp .Or (b::rest) pos) CB):PW X (.BoolOp .Or (a::b::rest) pos) (tOr tA CB):=by
 intro l d s e H Q I h;refine isTrue_or (thn (j d s e H _ I h) λc m #[f,g,i]=>?_);cases c with
 |true=>exact#[f,g,i]
 |false=>exact k l d m e f Q g i
def Pb(e:PT X a tA):PT X (.UnaryOp .Not a pos) (WY tA):=by
 intro d s f H Q I h;exact isTrue_not (e d s f H (λc g=>Q (!c) g) I h)
def Tr(f g:TE):TE:=λd H Q=>f d H λx e=>∃c,x= .bl c/\if c=true then g d e Q else Q (.bl false) e
def Tz(d:TE):TE:=λe H Q=>d e H λx f=>∃c,x= .bl c/\Q (.bl (!c)) f
def O5{op}(h:PE X a t):PE X (.BoolOp op [a] pos) t:=λc s d H Q I hw=>BoolOp_one (h c s d H Q I hw)
def OX(j:PE X a ta)(k:PE X (.BoolOp .And (b::rest) pos) tb):PE X (.BoolOp .And (a::b::rest) pos) (Tr ta tb):=by
 intro d s f H Q I h;refine BoolOp_and (thn (j d s f H _ I h) λv l m=>?_);rfl';obtain⟨x,g,i,o,e⟩:=m;obtain⟨c,rfl,e⟩:=e;ac_rfl;subst o;refine P3 ?_;cases c with
 |true=>exact k d l f g Q i e
 |false=>exact#[.bl false,g,i,rfl,e]
def O4(f:PE X a ta):PE X (.UnaryOp .Not a pos) (Tz ta):=by
 intro d s g H Q I h;refine UnaryOp_ (thn (f d s g H _ I h) λv n i=>?_);rfl';obtain⟨x,k,l,m,e⟩:=i;obtain⟨c,rfl,e⟩:=e;ac_rfl;subst m;exact not_of (P3 #[.bl (!c),k,l,rfl,e])
end
def cJ(K:ab)(H:Hp)(a:Addr)(c:List V):Prop:=
 Rd H a (.lst c)\/
  ∃(o:Obj)(b:Array Value)(n:Nat),K.lookup a\o/\o.cls= .type "list"/\o.dict=none/\o.data= .seq b n/\b.size<=sizeLine/\Vals c b.toList
def fY(K:ab)(H:Hp)(a:Addr)(c:List V):Prop:=
 Rd H a (.tup c)\/
  ∃(o:Obj)(b:Array Value)(n:Nat),K.lookup a\o/\o.cls= .type "tuple"/\o.data= .seq b n/\b.size<=sizeLine/\Vals c b.toList
def Ua:Value->Option V
 | .none=>some .bC
 | .bool b=>some (.bl b)
 | .int i _=>some (.int i)
 | .str x _=>some (.str x)
 | .bytes b _=>some (.Ir b)
 | .float b _=>some (.FA b)
 | .ref a=>some (.ref a)
 | .type n=>some (.ty n)
 |_=>none
def RelV.abs{x:V}{u:Value}(r:RelV x u):Ua u\x:=by
 cases x with
 |bC=>cases r;rfl
 |bl _=>cases r;rfl
 |int _=>obtain⟨t,rfl⟩:=r;rfl
 |str _=>obtain⟨t,rfl⟩:=r;rfl
 |Ir _=>obtain⟨t,rfl⟩:=r;rfl
 |FA _=>obtain⟨t,rfl⟩:=r;rfl
 |ref _=>cases r;rfl
 |ty _=>cases r;rfl
def RelV.inj{x y:V}(r:RelV x u)(q:RelV y u):x=y:=Do (r.abs.symm.trans q.abs)
theorem Vals.inj:∀{a b:List V}{c:List Value},Vals a c->Vals b c->a=b
 |_,_,_, .nil, .nil=>rfl
 |_,_,_, .cons r t, .cons d e=>by rw[r.inj d,Vals.inj t e]
section
variable {X:Cx} {pins:List (Addr×Obj)} {σ:St} {H:Hp} {s:Shared} {a:Addr} {xs ys:List V}
def cJ.of{K:ab}(h:H a\(.lst xs)):cJ K H a xs:= .inl (.inl h)
def fY.of{K:ab}(h:H a\(.tup xs)):fY K H a xs:= .inl (.inl h)
def Inv.list(I:Inv X pins σ H s)(h:cJ X.K H a xs):∃its:List Value,Vals xs its/\PlainL s.heap a its.toArray/\xs.length<=sizeLine:=by
 rcases h with h| ⟨o,its,n,b,c,d,f,g,r⟩
 .obtain⟨z,its,n,r,e⟩:=h.ok I.hok
  exact#[its,r,#[_,n,e,rfl,rfl,rfl],z]
 .refine#[its.toList,r,#[o,n,I.jO a o b,c,d,by simpa using f],?_]
  have e:=r.length;simp only[eD] at e;lia
def Inv.tuple(I:Inv X pins σ H s)(h:fY X.K H a xs):∃its:List Value,Vals xs its/\IsTup s.heap a its.toArray/\xs.length<=sizeLine:=by
 rcases h with h| ⟨o,its,n,b,c,d,f,r⟩
 .obtain⟨z,its,r,p⟩:=h.ok I.hok
  exact#[its,r,p,z]
 .refine#[its.toList,r,#[o,I.jO a o b,c,n,by simpa using d],?_]
  have e:=r.length;simp only[eD] at e;lia
def Inv.uJ(I:Inv X pins σ H s)(h:cJ X.K H a xs)(h':cJ X.K H a ys):xs=ys:=by
 rfl';obtain⟨c,r,⟨o,n,e,_,_,d⟩,_⟩:=I.list h;obtain⟨b,j,⟨m,p,f,_,_,g⟩,_⟩:=I.list h';ac_rfl;rw[e] at f;cases f;rw[d] at g
 injection g with k _
 have:c=b:=by simpa using GM Array.toList k
 subst this;exact r.inj j
end
abbrev Cx.rD(X:Cx)(E:Value->Shared->Prop):Cx:={X with xe:=E}
abbrev Cx.mO(X:Cx):Cx:=X.rD λ_ _=>False
theorem Cx.Ok.rD{X:Cx}(ok:X.Ok)(E:Value->Shared->Prop):(X.rD E).Ok:=
 #[ok.mod,ok.kind,ok.glob,ok.blt,ok.above,ok.inj,ok.has,ok.cab,ok.hd,ok.frames,ok.stk,ok.exf,ok.bs,ok.bsz,ok.noex,ok.exfs,ok.funs,ok.frf]
def Cx.Ok.lN{X:Cx}(ok:(X.rD E).Ok):X.Ok:=
 #[ok.mod,ok.kind,ok.glob,ok.blt,ok.above,ok.inj,ok.has,ok.cab,ok.hd,ok.frames,ok.stk,ok.exf,ok.bs,ok.bsz,ok.noex,ok.exfs,ok.funs,ok.frf]
section
variable {X:Cx} {pins:List (Addr×Obj)} {σ:St} {H:Hp} {s:Shared} {E:Value->Shared->Prop}
theorem Inv.rD(I:Inv X pins σ H s)(E:Value->Shared->Prop):Inv (X.rD E) pins σ H s:=#[I.ok.rD E,I.os,I.bare,I.base,I.loc,I.cell,I.free,I.freeC,I.pin,I.hok,I.len]
theorem Inv.lN(I:Inv (X.rD E) pins σ H s):Inv X pins σ H s:=#[I.ok.lN,I.os,I.bare,I.base,I.loc,I.cell,I.free,I.freeC,I.pin,I.hok,I.len]
theorem SP.lN{D:Ends}{f:Flow}{s':Shared}(h:SP (X.rD E) pins D f s'):SP X pins D f s':=by
 cases f with
 |next=>obtain⟨aQ,H',I,q⟩:=h;exact#[aQ,H',I.lN,q]
 |brk=>obtain⟨aQ,H',I,q⟩:=h;exact#[aQ,H',I.lN,q]
 |cont=>obtain⟨aQ,H',I,q⟩:=h;exact#[aQ,H',I.lN,q]
 |ret u=>obtain⟨v,aQ,H',I,r,q⟩:=h;exact#[v,aQ,H',I.lN,r,q]
theorem mz.mO{st:List Stmt}{t:TS}(h:mz X.mO st t):mz X st t:=λa s b H D I hw=>
 wpAny_mono (h a s b H D (I.rD _) hw) (λ_ _ q=>q.lN) λ_ _ z=>False.elim z
end
section
variable {X:Cx} {st:Stmt} {rest:List Stmt} {t u:TS} {e:Expr} {te:TE} {pos:Pos}
def Tx:TS:=λD a H=>D.nx a H
def W2(t u:TS):TS:=λD a H=>t {D with nx:=u D} a H
def MG:mz X [] Tx:=λ_ _ a H _ I h=>abo #[a,H,I,h]
def gE(h1:PS X st t)(h2:mz X rest u):mz X (st::rest) (W2 t u):=by
 intro pins s σ H D I h;refine wpAny_execs_cons (thn (h1 pins s σ H {D with nx:=u D} I h) λf s1 q=>?_)
 cases f with
 |next=>
  obtain⟨aQ,H',I',q⟩:=q;exact h2 pins s1 aQ H' D I' q
 |ret v=>exact q
 |brk=>exact q
 |cont=>exact q
def ED(h1:PS X st t):mz X [st] t:=by
 intro pins s σ H D I h;refine wpAny_execs_cons (thn (h1 pins s σ H D I h) λf s1 q=>?_);cases f with
 |next=>exact wpAny_execs_nil q
 |ret v=>exact q
 |brk=>exact q
 |cont=>exact q
def Inv.quiet(I:Inv X a b H s):interactive X.env=false:=by simp[interactive,I.ok.kind]
def Tu(b:TE):TS:=λD a H=>b a H λ_ c=>D.nx a c
def jB(c:PE X e te)(d:swapsWith e none pos.line X.env=pure false:=by rfl):PS X (.Expr e pos) (Tu te):=by
 intro a s b H D I h;exact wpAny_Expr_any (thn (c a s b H _ I h) λv j #[x,f,g,k,i]=>#[b,f,g,i]) I.quiet d
def W0(a:TE):TS:=λD b H=>a b H D.rt
def w6(c:PE X e te):PS X (.Return (some e) pos) (W0 te):=by
 intro a s b H D I h;exact wpAny_Return_some (thn (c a s b H _ I h) λv j #[x,d,f,g,i]=>#[x,b,d,f,g,i])
def WW(c:TT)(t u:TS):TS:=λD a H=>c a H λb d=>if b=true then t D a d else u D a d
def ME(m:PT X c tc)(n:mz X a t)(o:mz X b u):PS X (.If c a b pos) (WW tc t u):=by
 intro f s g H D I h;refine wpAny_If (thn (m f s g H _ I h) λd i #[j,k,l]=>?_);cases d with
 |true=>exact n f i g j D k l
 |false=>exact o f i g j D k l
def PK:TS:=λ_ _ _=>False
def JL:PS X st PK:=λ_ _ _ _ _ _ h=>h.elim
end
abbrev TG:=V->St->Hp->(St->Hp->Prop)->Prop
abbrev zC:=List V->St->Hp->(St->Hp->Prop)->Prop
def PG(X:Cx)(a:Expr)(t:TG):Prop:=
 ∀(b:List (Addr×Obj))(s:Shared)(c:St)(H:Hp)(v:V)(u:Value)(Q:St->Hp->Prop),Inv X b c H s->RelV v u->t v c H Q->
  wpAny (model X.prog X.w) X.A (assign a X.env u) (λ_ f=>∃d e,Inv X b d e f/\Q d e) X.xe s
def Bd(X:Cx)(g:List Expr)(t:zC):Prop:=
 ∀(a:List (Addr×Obj))(s:Shared)(b:St)(H:Hp)(c:List V)(d:List Value)(Q:St->Hp->Prop),Inv X a b H s->Vals c d->t c b H Q->
  wpAny (model X.prog X.w) X.A (assignInOrder ((assignEach g X.env).map (·.2)) d) (λ_ h=>∃e f,Inv X a e f h/\Q e f) X.xe s
abbrev Kk:=V->V->V->Hp->(Hp->Prop)->Prop
def P5(X:Cx)(t:Kk):Prop:=
 ∀(a:List (Addr×Obj))(s:Shared)(b:St)(H:Hp)(o i v:V)(c d u:Value)(Q:Hp->Prop),Inv X a b H s->RelV o c->RelV i d->RelV v u->t o i v H Q->
  wpAny (model X.prog X.w) X.A (setItem c d u) (λ_ f=>∃e,Inv X a b e f/\Q e) X.xe s
section
variable {X:Cx} {pos:Pos}
def Lu(i:Nat):TG:=λv a H Q=>Q (a.set i (some v)) H
def Ex(b:X.N.Nodup)(c:X.N[i]?\x)(d:Loc X.env.scope x)(e:X.fn x=true\/X.env.scope.names.lookup x\.local:=by subst_eqs):PG X (.Name x f) (Lu i):=by
 intro a s j H v u Q I r h;exact wpAny_assign_Name (mX I b c d r (λk g=>#[_,H,g,h]) e)
def UT:zC:=λa b H Q=>a= []/\Q b H
def RO(t:TG)(u:zC):zC:=λa b H Q=>∃v r,a=v::r/\t v b H λc d=>u r c d Q
def Ey:Bd X [] UT:=by
 intro a s b H c d Q I r h;obtain⟨e,h⟩:=h;subst e;cases r;exact assignInOrder_nil #[b,H,I,h]
theorem AM(c:PG X e t)(d:Bd X b u)
  (f:(assignEach (e::b) X.env).map (·.2)=assign e X.env::(assignEach b X.env).map (·.2):=by rfl):Bd X (e::b) (RO t u):=by
 intro a s g H w x Q I r h;obtain⟨v,y,i,h⟩:=h;subst i;cases r with
 |cons r j=>
  rw[f];refine abF (thn (c a s g H _ _ _ I r h) λ_ k l=>?_);rfl';obtain⟨n,o,p,q⟩:=l;ac_rfl;exact d a k n o _ _ Q p j q
def UW(K:ab)(n:Nat)(t:zC):TG:=λv c H Q=>∃a b,v= .ref a/\fY K H a b/\b.length=n/\t b c H Q
def HS(i:X.calm=true)(h:Bd X d t)
  (j:(assignEach d X.env).length=n:=by rfl) (l:(assignEach d X.env).findIdx? (·.1)=none:=by rfl):PG X (.Tuple d k pos) (UW X.K n t):=by
 intro c s f H v u Q I r hw;rfl';obtain⟨a,p,q,w,x,hw⟩:=hw;subst q;subst r;obtain⟨y,g,z,F⟩:=I.tuple w;ac_rfl;refine assign_Tuple_tuple (I.ok.hd i) z (by simp[j,<-x,g.length]) l λA B=>?_
 have C:Inv X c f H {s with heap:=A}:=I.kept (t':=s.toks) λb o e=>B b o (bY (Fk e)) e
 exact h c _ f H p _ Q C (g) hw
def UU(b c:TE)(t:Kk):TG:=λv a H Q=>b a H λo d=>c a d λi e=>t o i v e λf=>Q a f
def HQ(l:PE X o g)(m:PE X i j)(n:P5 X t)
  (p:∀v,assign (.Subscript o i pos) X.env v=(do
   let b <-holding [v] (eval o X.env)
   let c <-holding [v,b] (eval i X.env)
   standAt pos
   holding [v,b,c] (setItem b c v)
   release [v,b,c] []):=by intro _;rfl):PG X (.Subscript o i pos) (UU g j t):=by
 intro a s f H v u Q I r h;rw[p];refine wpAny_bind (KB (thn (l a s f H _ I h) λb q d=>?_));rfl';obtain⟨x,w,z,A,B⟩:=d;ac_rfl;refine wpAny_bind (KB (thn (m a q f w _ z B) λc C d=>?_));rfl';obtain⟨y,E,F,G,J⟩:=d;ac_rfl;refine wpAny_bind (aax (wpAny_bind (KB (thn (n a C f E x y v b c u _ F A G r J) λ_ O d=>?_))));rfl';obtain⟨L,M,N⟩:=d;ac_rfl;exact wpAny_release #[f,L,M,N]
def QQ(b:TE)(g:TG):TS:=λD a H=>b a H λx c=>g x a c D.nx
def Cd(f:PE X e c)(i:PG X b g)(j:swapsWithSole [b] e pos.line X.env=pure false:=by rfl)(hw:swappedStores [b] e X.env=pure none:=by rfl)
  (k:(assignEach [b] X.env).map (·.2)= [assign b X.env]:=by rfl):PS X (.Assign [b] e pos) (QQ c g):=by
 intro a s d H D I h;refine wpAny_Assign_stores (thn (f a s d H _ I h) λv l #[x,m,n,o,p]=>?_) j hw;rw[k];exact thn (i a l d m x v _ n o p) λ_ r q=>q
def gZ{i:Nat}(d:X.N.Nodup)(f:X.N[i]?\x)(g:Loc X.env.scope x)(j:PE X e c)(k:swapsWith e (some (.Name x a)) pos.line X.env=pure false:=by rfl)(l:X.fn x=true\/X.env.scope.names.lookup x\.local:=by subst_eqs):
  PS X (.Assign [.Name x a] e pos) (QQ c (Lu i)):=by
 intro b s m H D I h;refine wpAny_Assign_Name (thn (j b s m H _ I h) λv t #[y,n,o,p,q]=>?_) k;exact mX o d f g p (λu r=>#[_,n,r,q]) l
def WZ(i j:Nat)(b:TA):TS:=λD a H=>b a H λc d=>∃v w,c= [v,w]/\D.nx ((a.set i (some v)).set j (some w)) d
theorem Pa{kt k2 Gy}(C:X.calm=true)(n:X.N.Nodup)(E:X.N[i]?\x)(F:X.N[j]?\y)(G:i≠j)
  (r:X.env.scope.names.lookup x\.local) (t:X.env.scope.names.lookup y\.local) (J:PA X [a,b] m)
  (hw:swappedStores [.Tuple [.Name x k, .Name y py] kt pt] (.Tuple [a,b] k2 Gy) X.env=pure (some [x,y]))
  (L:swapsWithSole [.Tuple [.Name x k, .Name y py] kt pt] (.Tuple [a,b] k2 Gy) pos.line X.env=pure false:=by rfl):
  PS X (.Assign [.Tuple [.Name x k, .Name y py] kt pt] (.Tuple [a,b] k2 Gy) pos) (WZ i j m):=by
 intro c s u H D I h;rw[exec_Assign_arm];refine wpAny_bind (aax ?_);rw[L];refine wpAny_bind (be ?_);rw[mo ∅]
 refine wpAny_bind (Tuple_ (thn (J _ c s u H _ I h) λM d O=>?_));obtain⟨vs,z,P,Q,l⟩:=O;obtain⟨v,w,R,l⟩:=l;subst R
 obtain⟨f,g,rfl,S,T⟩:∃f g,M= [f,g]/\RelV v f/\RelV w g:=by
  cases Q with
  |cons p q=>
   cases q with
   |cons U Y=>
    cases Y;exact#[_,_,rfl,p,U]
 refine Os ?_ (by show 2<=sizeLine;decide)
 have Z:Inv X c u z {d with heap:=d.heap.push {cls:= .type "tuple",data:= .seq [f,g].toArray}}:=P.kept (t':=d.toks) λb o e=>AC _ e
 rw[hw];refine wpAny_bind (be ?_);show wpAny (model X.prog X.w) X.A (do rule "assign.swapped-stores";let items <-unpackItems (.ref d.heap.objs.size) 2 none;assignInOrder [λv=>bindName X.env y v,λv=>bindName X.env x v] items.reverse;pure Flow.next) _ _ _
 refine wpAny_bind (aay (wpAny_bind (unpackItems_tuple (items:= [f,g].toArray) (I.ok.hd C) (IsTup.new d.heap _) λh' zO=>?_)));have I3:=Z.kept (h':=h') (t':=d.toks) λb o e=>zO b o (bY (Fk e)) e;show wpAny _ _ (assignInOrder [λv=>bindName X.env y v,λv=>bindName X.env x v] [g,f]>>=λ_=>pure Flow.next) _ _ _;refine wpAny_bind (abF (wpAny_bindName (mX I3 n F (.inl t) T (λs2 I4=>?_) (.inr t))));refine abF (wpAny_bindName (mX I4 n E (.inl r) S (λs3 B=>assignInOrder_nil (be ?_)) (.inr r)));rw[List.set_comm _ _ (Ne.symm G)] at B;exact#[_,z,B,l]
end
section
variable {X:Cx} {pos:Pos}
def PL(c:TT)(h:TS):TS:=λD a H=>∃W:Nat->St->Hp->Prop,(∃m,W m a H)/\∀m a H,W m a H->
 c a H λb d=>if b=true then ∃N:St->Hp->Prop,(∀e f,N e f->∃g,g<m/\W g e f)/\h {D with nx:=N,ct:=N,bk:=D.nx} a d else D.nx a d
def JM{c:Expr}{body:List Stmt}{tc:TT}{tb:TS}(hp:PassesOwn (model X.prog X.w) X.A X.env X.xe)(hc:PT X c tc)(hb:mz X body tb):PS X (.While c body [] pos) (PL tc tb):=by
 intro pins s σ H D I h;obtain⟨W,⟨m0,w0⟩,turn⟩:=h;refine wpAny_While (codeAny_whileLoop (λn s'=>∃aQ H',Inv X pins aQ H' s'/\W n aQ H') ?_ m0 #[σ,H,I,w0]);intro n s1 TL;rfl';obtain⟨Hc,H1,I1,w1⟩:=TL;ac_rfl;refine wpAny_passesOwn hp (thn (hc pins s1 Hc H1 _ I1 (turn n Hc H1 w1)) λb s2 bM=>?_);rfl';obtain⟨H2,I2,q2⟩:=bM;ac_rfl;cases b with
 |true=>
  rfl';obtain⟨N,hN,q2⟩:=q2;ac_rfl;rw[if_pos rfl];refine wpAny_passesOwn hp (thn (hb pins s2 Hc H2 _ I2 q2) λf s3 q3=>?_);cases f with
  |next=>
   obtain⟨wM,H3,I3,n3⟩:=q3;obtain⟨m',hm,w3⟩:=hN wM H3 n3;exact#[m',hm,wM,H3,I3,w3]
  |cont=>
   obtain⟨wM,H3,I3,n3⟩:=q3;obtain⟨m',hm,w3⟩:=hN wM H3 n3;exact#[m',hm,wM,H3,I3,w3]
  |brk=>exact q3
  |ret v=>exact q3
 |false=>
  rw[if_neg dA];exact wpAny_execs_nil #[Hc,H2,I2,q2]
end
structure It where
 go:Nat->Hp->Prop
 yld:Nat->Hp->V->Hp->Prop
 stop:Nat->Hp->Prop
def fS(X:Cx)(a:List (Addr×Obj))(H:Hp)(b:Addr):Prop:=
 H b=none/\b≠X.env.locals/\b∉X.fs/\(b∈X.ex\/X.s₀.heap.objs.size<=b)/\(∀x c,X.env.cells.lookup x\c->c≠b)/\∀p∈X.pn++a,p.1≠b
def Inv.Hx(I:Inv X a g H s)(d:s.heap.objs.size<=b)(h:f b=none):fS X a f b:=by
 refine#[h,abY (i3 I.lt d),I.QH d, .inr (m8 I.sz d),λx c e z=>?_,λp i z=>?_]
 .obtain⟨v,q⟩:=I.cell x c e
  exact absurd (i3 q.lt (by rw[z];exact d)) (qz _)
 .exact absurd (i3 (Fk (I.pin p i).1) (by rw[z];exact d)) (qz _)
structure Turn (P:Program) (w:World) (K:ab) (tg:Expr) (J:It) (fp:List Addr) (it:Addr) (tn:Nat->Heap->Prop):Prop where
 mem:it∈fp
 obj:∀i h,tn i h->∀b∈fp,∃o,h.get? b\o/\∀v,o.data≠ .cell v
 keep:∀i h h',tn i h->(∀b∈fp,∀o,h.get? b\o->h'.get? b\o)->tn i h'
 item:∀(X:Cx),X.prog=P->X.w=w->X.K=K->X.calm=true->∀(i:Nat)(pins:List (Addr×Obj))(s:Shared)(σ:St)(H:Hp)(E:Value->Shared->Prop),Inv X pins σ H s->(∀b∈fp,fS X pins H b)->tn i s.heap->J.go i H->
  wpAny (model P w) X.A (pyNext (.ref it)) (λr s1=>∃u,r\u/\
   wpAny (model P w) X.A (letOwnedTupleGo tg (.ref it) u) (λ_ s2=>∃x H',Inv X pins σ H' s2/\RelV x u/\J.yld i H x H'/\tn (i+1) s2.heap/\∀b∈fp,H' b=none) E s1) E s
 done:∀(X:Cx),X.prog=P->X.w=w->X.K=K->X.calm=true->∀(i:Nat)(pins:List (Addr×Obj))(s:Shared)(σ:St)(H:Hp)(E:Value->Shared->Prop),Inv X pins σ H s->(∀b∈fp,fS X pins H b)->tn i s.heap->J.stop i H->
  wpAny (model P w) X.A (pyNext (.ref it)) (λr s1=>r=none/\Inv X pins σ H s1) E s
 self:∀(A:Around)(i:Nat)(s:Shared)(Q:Value->Shared->Prop)(E:Value->Shared->Prop),tn i s.heap->Q (.ref it) s->wpAny (model P w) A (pyIter (.ref it)) Q E s
abbrev TI:=St->Hp->(It->Hp->Prop)->Prop
def T3(X:Cx)(a:List (Addr×Obj))(h:St)(i:Expr)(R:It->Hp->Prop)(j:Value)(d:Shared):Prop:=
 ∃(e:Addr)(f:List Addr)(g:Nat->Heap->Prop)(J:It)(c:Hp),j= .ref e/\Inv X a h c d/\Turn X.prog X.w X.K i J f e g/\g 0 d.heap/\(∀b∈f,fS X a c b)/\R J c
def PI(X:Cx)(c iter:Expr)(d:TI):Prop:=
 ∀(a:List (Addr×Obj))(s:Shared)(b:St)(H:Hp)(R:It->Hp->Prop),Inv X a b H s->d b H R->
  wpAny (model X.prog X.w) X.A (eval iter X.env) (λv e=>wpAny (model X.prog X.w) X.A (pyIter v) (T3 X a b c R) X.xe e) X.xe s
theorem FE{M:Model}{A:Around}{E:Value->Shared->Prop}{s:Shared}{b:Expr}{c:Addr}{u:Value}{o:Obj}{n:String}{d:Array Value}{Q:Unit->Shared->Prop}(e:s.heap.get? c\o)(f:o.cls= .type n)(g:o.data= .fields d)
  (i: ["enumerate","zip","dict_itemiterator","dict_reverseitemiterator","odict_iterator","itertools.zip_longest","itertools.pairwise"].contains n=false) (a:Q ⟨⟩ s):wpAny M A (letOwnedTupleGo b (.ref c) u) Q E s:=by
 unfold letOwnedTupleGo
 cases b<;>first
  |exact wpAny_pure a
  | (cases u<;>first
    |exact wpAny_pure a
    | (refine wpAny_bind (wpAny_load e ?_)
       rw[f,g];show wpAny M A (if (["enumerate","zip","dict_itemiterator","dict_reverseitemiterator","odict_iterator","itertools.zip_longest","itertools.pairwise"].contains n&&d[0]? ==some (rawInt _))=true then _ else _) Q E s;rw[if_neg (by intro h;rw[i,Bool.false_and] at h;cases h)]
       exact wpAny_pure a))
def QZ(K:ab)(a:Addr):It:=
 #[λi H=>∃b x,cJ K H a b/\b[i]?\x,λi H x c=>c=H/\∀b,cJ K H a b->b[i]?\x,λi H=>∃b,cJ K H a b/\b.length<=i]
def NI(lo:Int)(n:Nat):It:=#[λi _=>i<n,λi H x a=>a=H/\x= .int (lo+i),λi _=>n<=i]
theorem GX{P:Program}{w:World}{K:ab}{R:Expr}(a g:Addr):Turn P w K R (QZ K a) [g] g (λi h=>h.IsListIter g a i) where
 mem:=by simp
 obj:=λi h st b j=>by
  have e:b=g:=by simpa using j
  subst e;obtain⟨o,e,c,d⟩:=st;exact#[o,e,λv z=>by rw[d] at z;cases z]
 keep:=λi h l st k=>st.at λo e=>k g (by simp) o e
 item:=by
  intro X q hw r N i f s O H E I m st t;rfl';subst q hw r;obtain⟨T,x,n,A⟩:=t;obtain⟨B,C,p,U⟩:=I.list n;obtain⟨u,Y,Z⟩:=C.get A;obtain⟨F,G,f2,J,L,M⟩:=m g (by simp)
  ac_rfl;refine wpAny_pyNext_list_item st p.isList (x:=u) (~~~Y) λl Q sb=>?_
  have I1:Inv X f O H {s with heap:=l}:=I.turned (t':=s.toks) (λb o j e=>(sb.2 b j).trans e) F G J L M
  obtain⟨o,e,c,d⟩:=id Q;exact#[u,rfl,FE (s:={s with heap:=l}) e c d ∅ #[x,H,I1,Z,#[rfl,λys hy=>by rw[I.uJ hy n];exact A],Q,λb j=>(m b j).1]]
 done:=by
  intro X q hw r N i f s O H E I m st t;rfl';subst q hw r;obtain⟨T,n,A⟩:=t;obtain⟨B,C,p,U⟩:=I.list n;obtain⟨F,G,f2,J,L,M⟩:=m g (by simp)
  have hl:=C.length;ac_rfl;exact wpAny_pyNext_list_end (I.ok.hd N) st p.isList (by simp;lia) λl eb=>#[rfl,I.turned (t':=s.toks) (λb o j e=>eb b o j e) F G J L M]
 self:=λ_ _ _ _ _ st h=>wpAny_pyIter_listiter st h
def EV{P:Program}{w:World}{K:ab}{G:Expr}(a:Addr)(lo:Int)(n:Nat):Turn P w K G (NI lo n) [a] a (λi h=>IsRangeIter h a (lo+(i:Nat)*1) ((n:Int)-(i:Nat)) 1) where
 mem:=by simp
 obj:=λi h st b d=>by
  have e:b=a:=by simpa using d
  subst e
  exact#[_,st,λv z=>by
   have J:Data.fields _=Data.cell v:=z;cases J]
 keep:=λi h f st k=>k a (by simp) _ st
 item:=by
  intro X j hw l m i c s B H E I g st p;subst j hw l;rfl';obtain⟨r,u,M,x,y,A⟩:=g a (by simp)
  ac_rfl;have W:=Walks.range (prog:=X.prog) (w:=X.w) (I.ok.hd m) a lo 1 n;refine W.item i s _ _ p st λv f C N F O=>?_;obtain⟨t,rfl⟩:=N;have Q:Inv X c B H {s with heap:=f,toks:=C}:=I.turned (λb o d e=>O b o (~~~d) e) r u x y A
  refine#[_,rfl,FE (s:={s with heap:=f,toks:=C}) (n:="range_iterator") F rfl rfl ∅ #[.int (lo+i),H,Q,#[t,?_],#[rfl,rfl],F,λb d=>(g b d).1]]
  rw[Int.mul_one]
 done:=by
  intro X j hw l m i c s B H E I g st p;subst j hw l;rfl';obtain⟨r,u,M,x,y,A⟩:=g a (by simp)
  ac_rfl;exact wpAny_pyNext_range_end (I.ok.hd m) st (by have:n<=i:=p;lia) λf R=>#[rfl,I.turned (t':=s.toks) (λb o d e=>R b o d e) r u x y A]
 self:=λ_ _ _ _ _ st h=>wpAny_pyIter_rangeiter st h
section
variable {X:Cx} {tg:Expr}
def Sq(K:ab)(c:TE):TI:=λd H R=>c d H λx b=>∃a,x= .ref a/\(∃e,cJ K b a e)/\R (QZ K a) b
def Ez(j:PE X l i):PI X tg l (Sq X.K i):=by
 intro c s k H R I h;refine thn (j c s k H _ I h) λv d m=>?_;rfl';obtain⟨x,r,f,t,u⟩:=m;ac_rfl;rfl';obtain⟨a,e,⟨A,w⟩,q⟩:=u;subst e;subst t;obtain⟨y,B,p,C⟩:=f.list w;ac_rfl;refine abS p.isList ?_;refine#[d.heap.objs.size,[d.heap.objs.size],_,_,r,rfl,f.kept (t':=d.toks) λb o e=>AC _ e,GX a _,#[_,Gc _ rfl,rfl,rfl],λb z=>?_,q];have e:b=d.heap.objs.size:=by simpa using z
 subst e;exact f.Hx (bo _) (f.hok.fresh (bo _))
def JP{c:List (Addr×Obj)}{d:St}{H:Hp}{s:Shared}{R:It->Hp->Prop}{E:Value->Shared->Prop}{lo a:Int}{t u v:Tok}{f:Nat}(I:Inv X c d H s)(h: -(2^62)<=lo)(i:lo<2^62)(j: -(2^62)<=a)(k:a<2^62)
  (q:R (NI lo (a-lo).toNat) H):wpAny (model X.prog X.w) X.A (pyIter (.ref s.heap.objs.size)) (T3 X c d tg R) E {s with heap:=s.heap.push {cls:= .type "range",data:= .fields [.int lo t, .int a u, .int 1 v].toArray},toks:=f}:=by
 refine wpAny_pyIter_range (IsRange.new ..) (small_one h i j k) ?_;have g:Inv X c d H {s with heap:=s.heap.push {cls:= .type "range",data:= .fields [.int lo t, .int a u, .int 1 v].toArray},toks:=f}:=I.kept λb o e=>AC _ e
 refine#[(s.heap.push {cls:= .type "range",data:= .fields [.int lo t, .int a u, .int 1 v].toArray}).objs.size,[(s.heap.push {cls:= .type "range",data:= .fields [.int lo t, .int a u, .int 1 v].toArray}).objs.size],_,_,H,rfl,
  g.kept (t':=f) λb o e=>AC _ e,EV _ lo (a-lo).toNat,?_,λb l=>?_,q]
 .have m:lo+((0:Nat):Int)*1=lo:=by simp
  have n:(((a-lo).toNat:Nat):Int)-((0:Nat):Int)=Builtin.Range.rangeSize lo a 1:=by rw[rangeSize_one];split<;>lia
  show IsRangeIter _ _ (lo+((0:Nat):Int)*1) ((((a-lo).toNat:Nat):Int)-((0:Nat):Int)) 1;rw[m,n];exact Gc _ rfl
 .have e:b=(s.heap.push {cls:= .type "range",data:= .fields [.int lo t, .int a u, .int 1 v].toArray}).objs.size:=by simpa using l
  subst e;exact g.Hx (bo _) (g.hok.fresh (bo _))
def Sr(a:TA):TI:=λb H R=>a b H λc d=>∃j:Int,c= [.int j]/\-(2^62)<=j/\j<2^62/\R (NI 0 j.toNat) d
def yT(g:Gl X "range")(i:X.mg "range"=none)(k:PA X [a] f)(l:starEach [a] X.env= [(false,eval a X.env)]:=by rfl):PI X tg (.Call (.Name "range" p) [a] [] b) (Sr f):=by
 intro c s m H R I h;refine Call_ (lH I g i boot_range (aat (thn (k b c s m H _ I h) λw x #[y,z,n,o,d]=>?_) l rfl));obtain⟨j,e,d,u,q⟩:=d;subst e;cases o with
 |cons r v=>
  cases v;obtain⟨t,rfl⟩:=r;exact call_range_1 (JP n () () d u (~~~q))
def WV(e:TI)(g:TG)(f:TS):TS:=λD a H=>e a H λJ h=>∃W:Nat->Nat->St->Hp->Prop,(∃m,W 0 m a h)/\∀i m a H,W i m a H->
 (J.stop i H/\D.nx a H)\/(J.go i H/\∃N:St->Hp->Prop,(∀c b,N c b->∃d,d<m/\W (i+1) d c b)/\∀x b,J.yld i H x b->g x a b λj k=>f {D with nx:=N,ct:=N,bk:=D.nx} j k)
def nT(a:List Addr)(h:Heap):List (Addr×Obj):=a.filterMap λb=>(h.get? b).map λo=>(b,o)
def fu(c:b∈a)(e:h.get? b\o):(b,o)∈nT a h:=abG.mpr #[b,c,by rw[e];rfl]
def Gq(c:p∈nT a h):p.1∈a/\h.get? p.1\p.2:=by
 obtain⟨b,d,e⟩:=abG.mp c;cases q:h.get? b with
 |none=>rw[q] at e;cases e
 |some o=>
  rw[q] at e;have f:(b,o)=p:=Do e;subst f;exact#[d,q]
def Inv.pinned(I:Inv X a f H s)(i:∀b∈c,fS X a H b)(j:∀b∈c,∃o,s.heap.get? b\o/\∀v,o.data≠ .cell v):Inv X (a++nT c s.heap) f H s:=
 I.tM λp k=>(b6.mp k).elim (λz=>I.pin p (di _ z)) λz=>by
  rfl';obtain⟨g,e⟩:=Gq z;obtain⟨m,n,q,_⟩:=i p.1 g;obtain⟨o,h,d⟩:=j p.1 g;ac_rfl;rw[e] at h;cases h;exact#[e,m,n,q,d]
def Inv.ku(I:Inv X (a++c) b H s):Inv X a b H s:=I.tM λp d=>I.pin p (di _ (fi _ d))
theorem Ce(C:PassesOwn (model X.prog X.w) X.A X.env X.xe)(hc:X.calm=true)(hi:PI X tg iter Y)(hg:PG X tg g)(c:mz X t Z)
  (hs:∀x,foldedSetIterable iter X.env x=pure x:=by intro _;rfl):PS X (.For tg iter t [] O) (WV Y g Z):=by
 intro a s σ H D I h;refine wpAny_For (thn (hi a s σ H _ I h) λv s1 h1=>thn h1 λoQ s2 h2=>?_) hs;rfl';obtain⟨it,E,tn,J,H2,e,I2,T,kR,f2,W,⟨m0,w0⟩,turn⟩:=h2;subst e;ac_rfl;have j:∀{q:Hp},(∀b∈E,q b=none)->∀b∈E,fS X a q b:=λhn b c=>#[hn b c,(f2 b c).2];refine codeAny_forLoop_any (λn s'=>∃i F q,Inv X a F q s'/\tn i s'.heap/\(∀b∈E,q b=none)/\W i n F q) ?_ m0 #[0,σ,H2,I2,kR,λb c=>(f2 b c).1,w0];intro n s3 TL;rfl';obtain⟨i,G,M,I3,wJ,UR,w3⟩:=TL;ac_rfl
 rcases turn i n G M w3 with ⟨stop,qn⟩ | ⟨go,N,hN,step⟩
 .refine aav C (thn (T.done X rfl rfl rfl hc i a s3 G M X.xe I3 (j UR) wJ stop) λr s4 B=>?_)
  obtain⟨Q,I4⟩:=B;subst Q;exact abo #[G,M,I4,qn]
 .refine aav C (thn (T.item X rfl rfl rfl hc i a s3 G M X.xe I3 (j UR) wJ go) λr s4 B=>?_)
  obtain⟨u,Q,h4⟩:=B;subst Q;refine aav C (thn h4 λ_ s5 B=>?_);rfl';obtain⟨x,H5,I5,r5,y5,R,zJ⟩:=B;ac_rfl;have QX:=I5.pinned (j zJ) (T.obj _ _ R);refine aav C (thn (hg _ s5 G H5 x u _ QX r5 (step x H5 y5)) λ_ s6 B=>?_);rfl';obtain⟨S,H6,I6,q6⟩:=B;ac_rfl;refine aav C (thn (c _ s6 S H6 _ I6 q6) λf U y=>?_)
  have again:∀{k:St}{l:Hp},Inv X (a++nT E s5.heap) k l U->N k l->∃m,m<n/\∃i F q,Inv X a F q U/\tn i U.heap/\(∀b∈E,q b=none)/\W i m F q:=λ {k l} p L=>by
   obtain⟨m',hm,w7⟩:=hN k l L;refine#[m',hm,i+1,k,l,p.ku,T.keep _ _ _ R λb c o e=>(p.pin (b,o) (di _ (di _ (fu c e)))).1,λb c=>?_,w7];obtain⟨o,e,d⟩:=T.obj _ _ R b c;exact(p.pin (b,o) (di _ (di _ (fu c e)))).2.1
  cases f with
  |next=>obtain⟨k,l,p,L⟩:=y;exact again p L
  |cont=>obtain⟨k,l,p,L⟩:=y;exact again p L
  |brk=>obtain⟨k,l,p,y⟩:=y;exact#[k,l,p.ku,y]
  |ret v=>obtain⟨x7,k,l,p,r7,y⟩:=y;exact#[x7,k,l,p.ku,r7,y]
end
abbrev R2:=V->V->Hp->VK->Prop
def OpR(X:Cx)(f:Value->Value->Sem Value)(r:R2):Prop:=
 ∀(a:List (Addr×Obj))(s:Shared)(b:St)(H:Hp)(x y:V)(v u:Value)(Q:VK),Inv X a b H s->RelV x v->RelV y u->r x y H Q->
  wpAny (model X.prog X.w) X.A (f v u) (EP X a b Q) X.xe s
def UnR(X:Cx)(f:Value->Sem Value)(r:V->Hp->VK->Prop):Prop:=
 ∀(a:List (Addr×Obj))(s:Shared)(b:St)(H:Hp)(x:V)(v:Value)(Q:VK),Inv X a b H s->RelV x v->r x H Q->
  wpAny (model X.prog X.w) X.A (f v) (EP X a b Q) X.xe s
def cw(X:Cx)(f:Value)(r:List V->Hp->VK->Prop):Prop:=
 ∀(a:List (Addr×Obj))(s:Shared)(b:St)(H:Hp)(c:List V)(d:List Value)(Q:VK),Inv X a b H s->Vals c d->r c H Q->
  wpAny (model X.prog X.w) X.A (call f d) (EP X a b Q) X.xe s
def T6(X:Cx)(r:V->Hp->(Bool->Hp->Prop)->Prop):Prop:=
 ∀(a:List (Addr×Obj))(s:Shared)(b:St)(H:Hp)(x:V)(v:Value)(Q:Bool->Hp->Prop),Inv X a b H s->RelV x v->r x H Q->
  wpAny (model X.prog X.w) X.A (truthy v) (TP X a b Q) X.xe s
def Nt(r:R2)(b c:TE):TE:=λa H Q=>b a H λx d=>c a d λy e=>r x y e Q
def tUn(r:V->Hp->VK->Prop)(a:TE):TE:=λb H Q=>a b H λx c=>r x c Q
def rI(C:Int->Int->Prop)(g:Int->Int->V):R2:=λx y H Q=>∃i j,x= .int i/\y= .int j/\C i j/\Q (g i j) H
def Ci(g:Int->Int->V):R2:=λx y H Q=>∃i j,x= .int i/\y= .int j/\Q (g i j) H
def rU(g:Int->V):V->Hp->VK->Prop:=λx H Q=>∃i,x= .int i/\Q (g i) H
section
variable {X:Cx} {a b c:Expr} {ta tb tc:TE} {pos:Pos}
def Kr(l:PE X a ta)(m:PE X b tb){d:List (Addr×Obj)}{s:Shared}{e:St}{H:Hp}{R:V->V->Hp->Prop}(I:Inv X d e H s)
  (h:ta e H λx k=>tb e k λy g=>R x y g) {Q:Value->Shared->Prop} {f:Value->Value->Sem Value}
  (n:∀v u j x y g,Inv X d e g j->RelV x v->RelV y u->R x y g->wpAny (model X.prog X.w) X.A (f v u) Q X.xe j):
  wpAny (model X.prog X.w) X.A (eval a X.env) (λv i=>wpAny (model X.prog X.w) X.A (eval b X.env) (λu o=>wpAny (model X.prog X.w) X.A (f v u) Q X.xe o) X.xe i) X.xe s:=by
 refine thn (l d s e H _ I h) λv p #[x,k,q,r,t]=>?_;refine thn (m d p e k _ q t) λu j #[y,g,z,B,C]=>?_;exact n v u j x y g z r B C
def Ca(f:OpR X (binaryOp e) r)(g:PE X a ta)(i:PE X b tb):PE X (.BinOp a e b pos) (Nt r ta tb):=by
 intro d s j H Q I h;exact wpAny_BinOp (Kr g i I h λv u k x y l m n o q=>f d k j l x y v u Q m n o q)
def SX(g:UnR X (unaryOp e) r)(i:PE X a ta):PE X (.UnaryOp e a pos) (tUn r ta):=by
 intro d s f H Q I h;exact UnaryOp_ (thn (i d s f H _ I h) λv j #[x,k,l,m,n]=>g d j f k x v Q l m n)
def ON{f:Value->Value->Sem Value}{C:Int->Int->Prop}{g:Int->Int->Int}
  (rule:∀(i j:Int)(t u:Tok)(s:Shared)(Q:Value->Shared->Prop)(E:Value->Shared->Prop),C i j->Q (.int (g i j) s.toks) {s with toks:=s.toks+1}->wpAny (model X.prog X.w) X.A (f (.int i t) (.int j u)) Q E s):
  OpR X f (rI C λi j=> .int (g i j)):=by
 intro d s n H x y v u Q I e k h;obtain⟨i,j,rfl,rfl,l,q⟩:=h;obtain⟨t,rfl⟩:=e;obtain⟨m,rfl⟩:=k;exact rule i j t m s _ _ l #[.int (g i j),H,I.tok _,#[_,rfl],q]
def QM{f:Value->Value->Sem Value}{g:Int->Int->Int}
  (rule:∀(i j:Int)(t u:Tok)(s:Shared)(Q:Value->Shared->Prop)(E:Value->Shared->Prop),Q (.int (g i j) s.toks) {s with toks:=s.toks+1}->wpAny (model X.prog X.w) X.A (f (.int i t) (.int j u)) Q E s):
  OpR X f (Ci λi j=> .int (g i j)):=by
 intro d s m H x y v u Q I e k h;obtain⟨i,j,rfl,rfl,q⟩:=h;obtain⟨t,rfl⟩:=e;obtain⟨l,rfl⟩:=k;exact rule i j t l s _ _ #[.int (g i j),H,I.tok _,#[_,rfl],q]
def Mg{f:Value->Value->Sem Value}{g:Int->Int->Bool}
  (rule:∀(i j:Int)(t u:Tok)(s:Shared)(Q:Value->Shared->Prop)(E:Value->Shared->Prop),Q (.bool (g i j)) s->wpAny (model X.prog X.w) X.A (f (.int i t) (.int j u)) Q E s):
  OpR X f (Ci λi j=> .bl (g i j)):=by
 intro d s m H x y v u Q I e k h;obtain⟨i,j,rfl,rfl,q⟩:=h;obtain⟨t,rfl⟩:=e;obtain⟨l,rfl⟩:=k;exact rule i j t l s _ _ #[.bl (g i j),H,I,rfl,q]
def P2(i j:Int):Prop:=0<j/\j<1073741824
def P4(i j:Int):Prop:=0<=j/\j<=1000000/\i.natAbs<2^64
def Hd(i j:Int):Prop:=(-(2^64)<i/\i<2^64)\/(-(2^64)<j/\j<2^64)
def Hd.ok(h:Hd i j):IntMulOk i j:=by
 rcases h with ⟨d,e⟩ | ⟨d,e⟩
 .exact .of_left (intBits_le_64 d e)
 .exact .of_right (intBits_le_64 d e)
def OO:OpR X (binaryOp .Add) (Ci λi j=> .int (i+j)):=QM λ_ _ _ _ _ _ _ q=>add_int q
def OV:OpR X (binaryOp .Sub) (Ci λi j=> .int (i-j)):=QM λ_ _ _ _ _ _ _ q=>sub_int q
def OS:OpR X (binaryOp .Mult) (rI Hd λi j=> .int (i*j)):=ON λ_ _ _ _ _ _ _ d q=>mul_int q d.ok
def Mi:OpR X (binaryOp .FloorDiv) (rI P2 λi j=> .int (i / j)):=ON λi j _ _ _ _ _ d q=>by
 have e:(0:Int)<j:=d.1;have f:j<1073741824:=d.2;exact floordiv_int () (by rw[Int.fdiv_eq_ediv_of_nonneg i ()];exact q) (.inl (PyProof.noPylong_small ()))
def OR:OpR X (binaryOp .Mod) (rI (λ_ j=>0<j) λi j=> .int (i%j)):=ON λi j _ _ _ _ _ d q=>by
 have e:(0:Int)<j:=d;exact mod_int' () (by rw[Int.fmod_eq_emod_of_nonneg i ()];exact q)
def OU:OpR X (binaryOp .Pow) (rI P4 λi j=> .int (i^j.toNat)):=ON λ_ _ _ _ _ _ _ d q=>pow_int_small d.1 d.2.1 d.2.2 q
def unI{f:Value->Sem Value}{g:Int->Int}
  (rule:∀(i:Int)(t:Tok)(s:Shared)(Q:Value->Shared->Prop)(E:Value->Shared->Prop),Q (.int (g i) s.toks) {s with toks:=s.toks+1}->wpAny (model X.prog X.w) X.A (f (.int i t)) Q E s):
  UnR X f (rU λi=> .int (g i)):=by
 intro d s j H x v Q I e h;obtain⟨i,rfl,q⟩:=h;obtain⟨t,rfl⟩:=e;exact rule i t s _ _ #[.int (g i),H,I.tok _,#[_,rfl],q]
def PV:UnR X (unaryOp .USub) (rU λi=> .int (-i)):=unI λ_ _ _ _ _ q=>neg_int q
end
section
variable {X:Cx} {a b c:Expr} {ta tb tc:TE} {pos:Pos}
def Hw(I:Inv X d f H s)(q:Q (.bl k) H)(e:k=g):EP X d f Q (.bool g) s:=by
 subst e;exact#[.bl k,H,I,rfl,q]
def SQ:OpR X (compareOp .Lt) (Ci λi j=> .bl (decide (i<j))):=Mg λ_ _ _ _ _ _ _ q=>lt_int q
def SO:OpR X (compareOp .LtE) (Ci λi j=> .bl (decide (i<=j))):=Mg λ_ _ _ _ _ _ _ q=>le_int q
def SN:OpR X (compareOp .Gt) (Ci λi j=> .bl (decide (j<i))):=Mg λ_ _ _ _ _ _ _ q=>gt_int q
def OQ:OpR X (compareOp .Is) (λx y H Q=>y= .bC/\Q (.bl (decide (x= .bC))) H):=by
 intro d s g H x y v u Q I e f h;obtain⟨rfl,q⟩:=h;subst f;refine is_none_gen (Hw I q ?_)
 cases x<;>first
  | (cases e;rfl)
  | (obtain⟨t,rfl⟩:=e;rfl)
def Mj:OpR X (compareOp .IsNot) (λx y H Q=>y= .bC/\Q (.bl (!decide (x= .bC))) H):=by
 intro d s g H x y v u Q I e f h;obtain⟨rfl,q⟩:=h;subst f;refine isnot_none_gen (Hw I q ?_)
 cases x<;>first
  | (cases e;rfl)
  | (obtain⟨t,rfl⟩:=e;rfl)
def OpR.or(h:OpR X f r)(k:OpR X f e):OpR X f (λx y H Q=>r x y H Q\/e x y H Q):=by
 intro d s g H x y v u Q I i j q
 rcases q with q|q
 .exact h d s g H x y v u Q I i j q
 .exact k d s g H x y v u Q I i j q
def aP(b:Expr)(h:d≠ .In:=by decide)(e:d≠ .NotIn:=by decide):behindInMarks d b=false:=by
 have f:(d==CmpOp.In)=false:=by cases d<;>first|rfl|exact absurd rfl h
 have g:(d==CmpOp.NotIn)=false:=by cases d<;>first|rfl|exact absurd rfl e
 cases b<;>simp[behindInMarks,f,g]
def Mp(f:OpR X (compareOp e) r)(g:PE X a ta)(i:PE X b tb)(j:behindInMarks e b=false):PE X (.Compare a [e] [b] pos) (Nt r ta tb):=by
 intro d s k H Q I h;exact wpAny_Compare1 (Kr g i I h λv u l x y m n o p q=>f d l k m x y v u Q n o p q) j
def GQ(t:TE):TT:=λd H Q=>t d H λx e=>∃k,x= .bl k/\Q k e
def MH(i:OpR X (compareOp f) r)(j:PE X a ta)(l:PE X b tb)(m:behindInMarks f b=false):PT X (.Compare a [f] [b] pos) (GQ (Nt r ta tb)):=by
 intro d s g H Q I h
 refine wpAny_isTrue_Compare1 (thn (j d s g H _ I h) λv n #[x,o,p,q,t]=>thn (l d n g o _ p t) λu w #[y,A,B,C,E]=>
  thn (i d w g A x y v u _ B q C E) λc M #[z,F,G,J,k,e,L]=>?_) m
 subst e;subst J;exact P3 #[F,G,L]
def CC(r f:R2)(g h tc:TE):TE:=λd H Q=>g d H λx i=>h d i λy j=>r x y j λz e=>∃k,z= .bl k/\
 (if k=true then tc d e λl m=>f y l m Q else Q (.bl false) e)
theorem JB(q:OpR X (compareOp i) r)(t:OpR X (compareOp j) l)(w:PE X a ta)(A:PE X b tb)(B:PE X c tc)
  (C:lastMarks [i,j] [b,c]=false:=by with_unfolding_all rfl):PE X (.Compare a [i,j] [b,c] pos) (CC r l ta tb tc):=by
 intro f s g H Q I h
 refine Compare_chain (thn (w f s g H _ I h) λv E #[x,F,G,J,L]=>chain_link (thn (A f E g F _ G L) λu M #[y,N,O,m,P]=>
  thn (q f M g N x y v u _ O J m P) λd R #[z,n,o,S,k,e,p]=>?_)) C
 subst e;subst S;refine P3 ?_;cases k with
 |false=>exact ite_ff #[.bl false,n,o,rfl,p]
 |true=>exact ite_tt (chain_last (thn (B f R g n _ o p) λT U #[Y,Z,I4,r4,q4]=>t f U g Z y Y u T Q I4 m r4 q4))
theorem JN(q:OpR X (compareOp i) r)(t:OpR X (compareOp j) l)(w:PE X a ta)(A:PE X b tb)(B:PE X c tc)
  (C:lastMarks [i,j] [b,c]=false:=by with_unfolding_all rfl):PT X (.Compare a [i,j] [b,c] pos) (GQ (CC r l ta tb tc)):=by
 intro f s g H Q I h
 refine isTrue_chain (thn (w f s g H _ I h) λv E #[x,F,G,J,L]=>test_link (thn (A f E g F _ G L) λu M #[y,N,O,m,P]=>
  thn (q f M g N x y v u _ O J m P) λd R #[z,n,o,S,k,e,p]=>?_)) C
 subst e;subst S;refine P3 ?_;cases k with
 |false=>
  rfl';obtain⟨k',U,Y⟩:=p;cases U;ac_rfl;exact ite_ff #[n,o,Y]
 |true=>
  refine ite_tt (test_last (thn (B f R g n _ o p) λZ s4 #[z',H4,I4,r4,q4]=>thn (t f s4 g H4 y z' u Z _ I4 m r4 q4) λd' s5 #[z2,H5,I5,r5,k2,e2,q5]=>?_));subst e2;subst r5;exact P3 #[H5,I5,q5]
def P6(K:ab)(x:V)(H:Hp)(k:Bool):Prop:=
 match x with
 | .bC=>k=false
 | .bl b=>k=b
 | .int i=>k=(i !=0)
 | .str y=>y.length<=sizeLine/\k=((y.length:Int) !=0)
 | .Ir y=>y.size<=sizeLine/\k=((y.size:Int) !=0)
 | .ref p=>(∃d,cJ K H p d/\k= !d.isEmpty)\/(∃d,fY K H p d/\k= !d.isEmpty)\/∃e,H p\(.dK e)/\k= !e.isEmpty
 |_=>False
def D5(r:KV e f):(!f.isEmpty)= !e.isEmpty:=by
 cases r<;>rfl
def vL(r:Vals e d):(!d.toArray.isEmpty)= !e.isEmpty:=by
 cases r<;>simp
def qK:(sizeLine:Nat)<2^63:=by rw[abE];decide
def PR:T6 X (λx H Q=>∃k,P6 X.K x H k/\Q k H):=by
 intro pins s σ H x v Q I rx h;obtain⟨k,e,q⟩:=h;have hl:=qK;have hs:sizeLine=16777216:=sizeLine_eq;cases x with
 |bC=>
  cases rx;have e':k=false:=e;subst e';exact truthy_none #[H,I,q]
 |bl b=>
  cases rx;have e':k=b:=e;subst e';exact wpAny_truthy_bool #[H,I,q]
 |int i=>
  obtain⟨t,rfl⟩:=rx;have e':k=(i !=0):=e;subst e';exact PySem.P.truthy_int #[H,I,q]
 |str y=>
  obtain⟨t,rfl⟩:=rx;obtain⟨hy,e'⟩:y.length<=sizeLine/\k=((y.length:Int) !=0):=e;subst e';exact PySem.P.truthy_str () #[H,I.tok _,q]
 |Ir y=>
  obtain⟨t,rfl⟩:=rx;obtain⟨hy,e'⟩:y.size<=sizeLine/\k=((y.size:Int) !=0):=e;subst e';exact PySem.W.truthy_bytes () #[H,I.tok _,q]
 |ref p=>
  subst rx;have e':(∃xs,cJ X.K H p xs/\k= !xs.isEmpty)\/(∃xs,fY X.K H p xs/\k= !xs.isEmpty)\/∃fK,H p\(.dK fK)/\k= !fK.isEmpty:=e
  rcases e' with ⟨xs,hx,e'⟩ | ⟨xs,hx,e'⟩ | ⟨fK,hx,e'⟩
  .subst e'
   obtain⟨its,r,pl,hz⟩:=I.list hx;have hlen:=r.length;exact wpAny_truthy_list pl.isList (by simp only[cH];lia) #[H,I.tok _,by rw[vL r];exact q]
  .subst e'
   obtain⟨its,r,pl,hz⟩:=I.tuple hx;have hlen:=r.length;exact truthy_tuple pl (by simp only[cH];lia) #[H,I.tok _,by rw[vL r];exact q]
  .subst e'
   obtain⟨hz,hS,vs,r,m⟩:fK.length<=sizeLine/\(p==sysModules)=false/\∃vs,KV fK vs/\s.heap.DictOf (yu X.prog X.w) p vs:=I.hok p _ hx;have hlen:fK.length=vs.length:=Paired.length r;exact wpAny_truthy_dict hS m () #[H,I.tok _,by rw[D5 r];exact q]
 |_=>exact(show False from e).elim
def JO(i:PE X a ta)(j:∀d,isTrue a X.env d=(do let v <-d;standAt a.pos;holding [v] (truthy v))):
  PT X a (λf H Q=>ta f H λx g=>∃k,P6 X.K x g k/\Q k g):=by
 intro e s f H Q I h;exact isTrue_plain (thn (i e s f H _ I h) λv l #[x,m,n,o,p]=>PR e l f m x v Q n o p) (j _)
def vals1(r:Vals [x] d):∃u,d= [u]/\RelV x u:=by
 cases r with
 |cons e f=>cases f;exact#[_,rfl,e]
def vals2(r:Vals [x,y] d):∃u e,d= [u,e]/\RelV x u/\RelV y e:=by
 cases r with
 |cons f g=>
  cases g with
  |cons h i=>cases i;exact#[_,_,rfl,f,h]
def Fj(g:X.calm=true):cw X (.builtin "max") (λe H Q=>∃i j,e= [.int i, .int j]/\Q (.int (if j>i then j else i)) H):=by
 intro f s m H e n Q I r h;rfl';obtain⟨i,j,rfl,q⟩:=h;obtain⟨u,p,rfl,⟨t,rfl⟩,⟨v,rfl⟩⟩:=vals2 r;ac_rfl;refine max_two_ints (I.ok.hd g) λw x k=>#[_,H,I.kept k,?_,q]
 by_cases d:j>i
 .rw[ir d,ir d];exact#[_,rfl]
 .rw[mo d,mo d];exact#[_,rfl]
def Fn(g:X.calm=true):cw X (.builtin "min") (λe H Q=>∃i j,e= [.int i, .int j]/\Q (.int (if j<i then j else i)) H):=by
 intro f s m H e n Q I r h;rfl';obtain⟨i,j,rfl,q⟩:=h;obtain⟨u,p,rfl,⟨t,rfl⟩,⟨v,rfl⟩⟩:=vals2 r;ac_rfl;refine min_two_ints (I.ok.hd g) λw x k=>#[_,H,I.kept k,?_,q]
 by_cases d:j<i
 .rw[ir d,ir d];exact#[_,rfl]
 .rw[mo d,mo d];exact#[_,rfl]
end
structure xj (h:Heap) (x dx C:Addr) (mA:Str->Option Value):Prop where
 obj:h.get? x\(bi C dx)
 ns:h.Ns1 dx mA
 ne:dx≠x
def F9{h:Heap}(n:h.Ns1 c d):∃f,h.get? c\f/\∀b,b8 b f\(d b):=by
 rfl';obtain⟨o,g,v,j,k,l,_,m⟩:=n;ac_rfl;refine#[o,j,λb=>?_];have e:=m b;unfold nsFind findBy at e;rw[<-Array.find?_toList] at e;unfold b8;rw[k];dsimp only
 split
 .rename_i y q
  rw[q] at e;exact GM some e
 .rename_i q
  rw[q] at e
  have a:g.toList.any (·.refKey)=false:=by
   rw[List.any_eq_false];intro y p;obtain⟨z,t,r⟩:=l y (Array.mem_toList_iff.mp p);simp[DictEntry.refKey,r]
  have s:¬g.toList.any (·.refKey)=true:=by rw[a];exact dA
  rw[mo s];exact GM some e
def xj.look(I:xj h x c C d):∃b,PySem.W.InstAt h x (bi C c) C (some b)/\∀a,b8 a b\(d a):=
 let #[b,e,f]:=F9 I.ns
 #[b,#[I.obj,rfl,rfl,e],f]
section
variable {prog:Program} {w:World} {A:Around} {E:Value->Shared->Prop} {s:Shared} {K:ab} {x dx C f:Addr} {mA:Str->Option Value} {name:Str} {v:Value}
def get_map(X:K.In s.heap)(I:xj s.heap x dx C mA)(b:bD K C name=true)(c:b3 K C=true)
  (d:ar K (.ref C) name\none) (e:mA name\v) (g:PySem.W.handedIn v=true) (h:Q v {s with toks:=s.toks+1}):
  wpAny (model prog w) A (getAttr (.ref x) name a) Q E s:=by
 obtain⟨j,J,i⟩:=I.look;exact PySem.W.get_value X J (aby b).1 (PySem.W.findObj_own c d rfl (by rw[i,e])) g h
def IQ(X:K.In s.heap)(I:xj s.heap x dx C mA)(a:bD K C name=true)
  (c:ar K (.ref C) name\(some (.ref f))) (d:bv K (.ref f)=true) (e:mA name=none) (h:Q (.ref f,[.ref x]) s):
  wpAny (model prog w) A (getMethod (.ref x) name b) Q E s:=by
 obtain⟨g,J,i⟩:=I.look;exact PySem.W.method_fn X J (aby a).1 (aby a).2 c (aaz.mp d) (by show(b8 name g).map (·.isSome)\false;rw[i,e];rfl) h
def M0{e:List Str}(X:K.In s.heap)(I:xj s.heap x dx C mA)
  (j:ar K (.ref C) "__setattr__"\(some (.builtin "object.__setattr__"))) (k:ce K C=true) (l:cm K C name\none) (m:b3 K C=true)
  (hw:ci mA e) (F:e.length<=sizeLine)
  (h:∀c,xj c x dx C (λy=>if y=name then some v else mA y)->Heap.SameBut dx s.heap c->Q ⟨⟩ {s with heap:=c,toks:=s.toks+2}):
  wpAny (model prog w) A (setAttr (.ref x) name v) Q E s:=by
 rfl';obtain⟨G,J,H⟩:=I.look;obtain⟨L,o,p⟩:=PySem.W.any_some m;ac_rfl;refine PySem.W.set_plain X J j (PySem.W.osa_open (s:={s with toks:=s.toks+1}) (r:=none) X J k l λb=>?_)
 have q:s.heap.get? x\#[.ref C,some dx, .plain, #[]]:=I.obj;refine wpAny_bind (be (wpAny_bind (wpAny_bind (wpAny_loadPart q (wpAny_bind (PySem.W.Looks.here (s:={s with toks:=s.toks+1}) (PySem.W.looks_clsIn X o) ?_))))))
 rw[p];refine be (a:=some dx) (wpAny_bind (be (wpAny_bind ?_)));refine wpAny_nsSet1 (s:={s with toks:=s.toks+1}) I.ns λc g i=>?_
 rfl';obtain⟨oD,t,u,z,bQ,B⟩:=g.count (PySem.Within.cons name v hw);ac_rfl;refine wpAny_bind (wpAny_lookBehind z (by rw[bQ];exact pastItsLine_dict (m8 B (by rw[cv];lia))) ?_)
 exact be (h _ #[(i.2 _ (Ne.symm I.ne)).trans I.obj,g,I.ne] i)
def Jm(X:K.In s.heap)(c:cq K C=true)
  (e:ar K (.ref C) "__init__"\(some (.ref f))) (i:PySem.W.typeIn K (.ref f)\(.type "function"))
  (h:codeAny (model prog w) (A.under (.builtin "type.__call__" #[.ref C::a,b])) (.call (.ref f) #[.ref (s.heap.objs.size+1)::a,b]) (PySem.W.InitBack (s.heap.objs.size+1) R)
   {s with heap:=(s.heap.push bb).push (bi C s.heap.objs.size)}):
  codeAny (model prog w) A (.call (.ref C) #[a,b]) R s:=by
 obtain⟨j,g,d,t,os⟩:=s;exact PySem.W.make_core (PySem.W.makes_of X c) (PySem.W.looks_findIn X e) (λself=>PySem.W.bind_fn X self i) (.inl rfl) h
end
def jX(f:Str)(v:V):List (Str×V)->List (Str×V)
 | []=> [(f,v)]
 | (g,x)::r=>if g=f then(g,v)::r else(g,x)::jX f v r
theorem tF(f g:Str)(v:V):∀fs:List (Str×V),(jX f v fs).lookup g=if g=f then some v else fs.lookup g
 | []=>by
  show bj g [(f,v)]=_
  by_cases h:g=f
  .have a:(g==f)=true:=aaz.mpr h
   simp only[bj,a,ir h]
  .have a:(g==f)=false:=aar.mpr h
   simp only[bj,a,mo h]
 | (k,x)::r=>by
  have c:=tF f g v r;rw[show jX f v ((k,x)::r)=(if k=f then(k,v)::r else(k,x)::jX f v r) from rfl]
  by_cases b:k=f
  .rw[ir b]
   by_cases h:g=k
   .have a:(g==k)=true:=aaz.mpr h
    simp only[bj,a,ir (h.trans b)]
   .have a:(g==k)=false:=aar.mpr h
    simp only[bj,a,mo (λe:g=f=>h (e.trans b.symm))]
  .rw[mo b]
   by_cases h:g=k
   .have a:(g==k)=true:=aaz.mpr h
    simp only[bj,a,mo (λe:g=f=>b (h.symm.trans e))]
   .have a:(g==k)=false:=aar.mpr h
    simp only[bj,a];exact c
theorem rY(f:Str)(v:V):∀fs:List (Str×V),f∈(jX f v fs).map (·.1)/\∀g,g∈fs.map (·.1)->g∈(jX f v fs).map (·.1)
 | []=>#[by simp[jX],λg h=>by simp at h]
 | (k,x)::r=>by
  obtain⟨b,c⟩:=rY f v r;rw[show jX f v ((k,x)::r)=(if k=f then(k,v)::r else(k,x)::jX f v r) from rfl]
  by_cases a:k=f
  .rw[ir a]
   subst a;exact#[by simp,λg h=>h]
  .rw[mo a]
   refine#[?_,λg h=>?_]
   .rw[dJ]
    exact cI _ b
   .rw[dJ] at h ⊢
    rcases bH.mp h with e|e
    .exact bH.mpr (.inl e)
    .exact cI _ (c g e)
theorem tD(f:Str)(v:V):∀fs:List (Str×V),(jX f v fs).length<=fs.length+1
 | []=>by simp[jX]
 | (k,x)::r=>by
  have b:=tD f v r;rw[show jX f v ((k,x)::r)=(if k=f then(k,v)::r else(k,x)::jX f v r) from rfl]
  by_cases a:k=f
  .rw[ir a,cv,cv];lia
  .rw[mo a,cv,cv];lia
def oY.some_of{v:V}{o:Option Value}(r:oY (some v) o):∃u,o\u/\RelV v u:=by
 cases o with
 |none=>exact(show False from r).elim
 |some u=>exact#[u,rfl,r]
def oY.none_of(r:oY none o):o=none:=by
 cases o with
 |none=>rfl
 |some u=>exact(show False from r).elim
def FI{v:V}{u:Value}(r:RelV v u):PySem.W.handedIn u=true:=by
 cases v with
 |bC=>cases(show u=Value.none from r);rfl
 |bl b=>cases(show u=Value.bool b from r);rfl
 |int i=>obtain⟨t,e⟩:=(show ∃t,u=Value.int i t from r);cases e;rfl
 |str x=>obtain⟨t,e⟩:=(show ∃t,u=Value.str x t from r);cases e;rfl
 |Ir b=>obtain⟨t,e⟩:=(show ∃t,u=Value.bytes b t from r);cases e;rfl
 |FA b=>obtain⟨t,e⟩:=(show ∃t,u=Value.float b t from r);cases e;rfl
 |ref a=>cases(show u=Value.ref a from r);rfl
 |ty n=>cases(show u=Value.type n from r);rfl
section
variable {P:Program} {w:World} {H H':Hp} {h h':Heap} {a C dx:Addr} {fs YD:List (Str×V)}
def tu(hok:j4 P w H h)(e:H a\(.ins C dx fs)):∃b,xj h a dx C b/\(∀f,oY (fs.lookup f) (b f))/\ci b (fs.map (·.1))/\fs.length<=1000/\H dx\(.own a):=by
 obtain⟨d,z,ne,c,b,n,r,q⟩:=(show dN P w H h a (.ins C dx fs) from hok a _ e);exact#[b,#[c,n,ne],r,q,z,d]
end
structure xg (K:ab) (C:Addr):Prop where
 pg:bD K C Str.empty=true
 hd:b3 K C=true
 po:ce K C=true
 sa:ar K (.ref C) "__setattr__"\(some (.builtin "object.__setattr__"))
def xg.get{K:ab}{C:Addr}(c:xg K C)(f:Str):bD K C f=true:=c.pg
def nh(K:ab)(C:Addr)(f:Str):Prop:=ar K (.ref C) f\none
def nh.TF{K:ab}{C:Addr}{f:Str}(n:nh K C f):cm K C f\none:=by
 unfold cm;rw[show ar K (.ref C) f\none from n];rfl
structure Meth (K:ab) (C:Addr) (m:Str) (f:Addr):Prop where
 at_:ar K (.ref C) m\(some (.ref f))
 fn:bv K (.ref f)=true
 kp:am K (.ref f)=true
section
variable {X:Cx} {pins:List (Addr×Obj)} {σ:St} {H:Hp} {s:Shared} {a C dx:Addr} {fs:List (Str×V)} {f:Str} {v:V} {A:Around} {E:Value->Shared->Prop}
def DM(I:Inv X pins σ H s)(e:H a\(.ins C dx fs))(c:xg X.K C)(n:nh X.K C f)(l:fs.lookup f\v)
  (h:∀u d,Inv X pins σ H d->RelV v u->Q u d):wpAny (model X.prog X.w) A (getAttr (.ref a) f b) Q E s:=by
 obtain⟨i,O,r,_,_,_⟩:=tu I.hok e;obtain⟨u,j,g⟩:=oY.some_of (v:=v) (o:=i f) (by rw[<-l];exact r f)
 exact get_map I.jO O (c.get f) c.hd n j (FI g) (h u _ (I.tok _) g)
def vH{pl:Sem Bool}(I:Inv X pins σ H s)(e:H a\(.ins C dx fs))(c:xg X.K C)(k:Meth X.K C m g)(l:fs.lookup m=none)
  (h:Q (.ref g,[.ref a]) s):wpAny (model X.prog X.w) A (getMethod (.ref a) m pl) Q E s:=by
 obtain⟨b,O,r,_,_,_⟩:=tu I.hok e;have d:b m=none:=oY.none_of (by rw[<-l];exact r m)
 exact IQ I.jO O (c.get m) k.at_ k.fn d h
def EJ(I:Inv X pins σ H s)(e:H a\(.ins C dx fs))(c:xg X.K C)(n:nh X.K C f)(N:fs.length<1000)(m:RelV y u)
  (h:∀i,Inv X pins σ (upd H a (.ins C dx (jX f y fs))) i->Q ⟨⟩ i):wpAny (model X.prog X.w) A (setAttr (.ref a) f u) Q E s:=by
 rfl';obtain⟨j,O,r,k,_,l⟩:=tu I.hok e;have t:(fs.map (·.1)).length<=sizeLine:=by rw[aI,abE];lia
 ac_rfl;refine M0 I.jO O c.sa c.po n.TF c.hd k t λB d F=>h _ ?_;have G:∃o,B.get? dx\o:=let #[o,_,_,J,_]:=d.ns;#[o,J];refine I.write (x:=a) (e:=dx) (by rw[e];exact True.intro) (.inr l) (λb q L z=>(F.2 b L).trans z) G ?_
 refine#[by rw[bf O.ne];exact l,?_,O.ne,d.obj,_,d.ns,λg=>?_,λg M=>?_]
 .have:=tD f y fs;lia
 .show oY ((jX f y fs).lookup g) (if g=f then some u else j g)
  rw[tF]
  by_cases q:g=f
  .rw[ir q,ir q];exact m
  .rw[mo q,mo q];exact r g
 .by_cases q:g=f
  .rw[q];exact(rY f y fs).1
  .refine(rY f y fs).2 g (k g λz=>M ?_)
   show(if g=f then some u else j g)=none;rw[mo q];exact z
def Inv.made(I:Inv X pins σ H s):Inv X pins σ (upd (upd H s.heap.objs.size (.own (s.heap.objs.size+1))) (s.heap.objs.size+1) (.ins C s.heap.objs.size []))
  {s with heap:=(s.heap.push bb).push (bi C s.heap.objs.size)}:=by
 have c:(s.heap.push bb).get? s.heap.objs.size\bb:=Gc s.heap rfl
 have d:((s.heap.push bb).push (bi C s.heap.objs.size)).get? (s.heap.objs.size+1)\(bi C s.heap.objs.size):=by
  have:=Gc (s.heap.push bb) (o:=bi C s.heap.objs.size) rfl
  rwa [Heap.size_push] at this
 have g:(s.heap.push bb).Ns s.heap.objs.size (λ_=>none):=#[bb, #[],_,c,rfl,(λe h=>absurd h (by simp)),λ_=>rfl]
 have i:=I.laid (a:=s.heap.objs.size) (o:= .own (s.heap.objs.size+1)) (h':=s.heap.push bb) (t':=s.toks) (λb u q=>AC _ q) (bo _) #[_,c];refine i.laid (a:=s.heap.objs.size+1) (o:= .ins C s.heap.objs.size []) (t':=s.toks) (λb u q=>AC _ q) (Nat.le_of_eq (Heap.size_push _ _)) ?_;have ne:s.heap.objs.size≠s.heap.objs.size+1:=bY (u7 _);refine#[by rw[bf ne,aK],fk _,ne,d,λ_=>none,(Heap.Ns1.of_empty g).at λo q=>AC _ q,λ_=>True.intro,λy j=>absurd rfl j]
def Kn{f:Str}{s:Shared}(d:attributeBase e f env (eval e env)=eval e env)
  (h:wpAny (model prog w) A (eval e env) (λo b=>wpAny (model prog w) A (getAttr o f true) Q E b) E s):wpAny (model prog w) A (eval (.Attribute e f c) env) Q E s:=
 Attribute_any_ h (by rw[arm_eval_Attribute,d])
end
def WU(K:ab)(c:TE)(f:Str):TE:=λd H Q=>c d H λx b=>∃a C e fs v,x= .ref a/\b a\(.ins C e fs)/\xg K C/\nh K C f/\fs.lookup f\v/\Q v b
def WH(K:ab)(e g:TE)(f:Str):TS:=λD b H=>g b H λy h=>e b h λx c=>∃a C d fs,x= .ref a/\c a\(.ins C d fs)/\xg K C/\nh K C f/\fs.length<1000/\
 D.nx b (upd c a (.ins C d (jX f y fs)))
section
variable {X:Cx} {o e value:Expr} {f:Str} {pos pos' W9:Pos} {ta tv:TE}
def O0(d:PE X e ta)(g:attributeBase e f X.env (eval e X.env)=eval e X.env):PE X (.Attribute e f pos) (WU X.K ta f):=by
 intro b s i H Q I h;refine Kn g (thn (d b s i H _ I h) λu A j=>?_);rfl';obtain⟨x,m,p,r,a,C,E,fs,v,t,w,c,n,l,q⟩:=j;ac_rfl;subst t;obtain rfl:u=Value.ref a:=r;exact DM p w c n l λF G y z=>#[v,m,y,z,q]
def O9(g:PE X o ta)(i:PE X value tv)(j:swapsWith value (some (.Attribute o f pos')) pos.line X.env=pure false):PS X (.Assign [.Attribute o f pos'] value pos) (WH X.K ta tv f):=by
 intro b s d H D I h;refine plainObj_wpAny_Assign_Attribute (thn (i b s d H _ I h) λu k #[y,m,p,r,q]=>thn (g b k d m _ p q) λt F #[x,G,v,w,a,C,J,fs,z,A,c,n,l,B]=>?_) j;subst z;obtain rfl:t=Value.ref a:=w;exact EJ v A c n l r λL E=>#[d,_,E,B]
end
section
variable {X:Cx} {pins:List (Addr×Obj)} {σ:St} {H:Hp} {s:Shared} {A:Around} {E:Value->Shared->Prop} {Q:Value->Shared->Prop} {c:Value} {b:Bool}
inductive k9 (K:ab) (H:Hp):V->Value->Prop where
 |bC:k9 K H .bC (.type "NoneType")
 |bl (x:Bool):k9 K H (.bl x) (.type "bool")
 |int (i:Int):k9 K H (.int i) (.type "int")
 |str (x:Str):k9 K H (.str x) (.type "str")
 |FA (x:UInt64):k9 K H (.FA x) (.type "float")
 |lst {a:Addr} {xs:List V} (e:H a\(.lst xs)):k9 K H (.ref a) (.type "list")
 |sU {a:Addr} {o:Obj} {xs:List V} (e:H a\(.sU o (.lst xs))):k9 K H (.ref a) (.type "list")
 |tup {a:Addr} {xs:List V} (e:H a\(.tup xs)):k9 K H (.ref a) (.type "tuple")
 |dK {a:Addr} {fK:List (Key×V)} (e:H a\(.dK fK)):k9 K H (.ref a) (.type "dict")
 |dT {a:Addr} {fK:List (List Key×V)} (e:H a\(.dT fK)):k9 K H (.ref a) (.type "dict")
 |ins {a C dx:Addr} {fs:List (Str×V)} (e:H a\(.ins C dx fs)) (cl:xg K C) (ha:ar K (.ref C) "__class__"\(some (.builtin "object.__class__")))
   (hn:PySem.W.specialIn K (.builtin "object.__class__") "__get__"\(some (.builtin "getset_descriptor.__get__"))) (VF:PySem.W.takesIn K (.builtin "object.__class__")\true)
   (hm:PySem.W.mroIn K C (.type "object")\true):k9 K H (.ref a) (.ref C)
def F3{x:V}{u t:Value}(I:Inv X pins σ H s)(rx:RelV x u)(ty:k9 X.K H x t)(e:cs X.K t c\b)(h:∀tk,Q (.bool b) {s with toks:=tk}):
  wpAny (model X.prog X.w) A (call (.builtin "isinstance") [u,c]) Q E s:=by
 cases ty with
 |bC=>cases(show u=Value.none from rx);exact PySem.W.kia_one PySem.W.kitx_none I.jO True.intro e (λz=>nomatch z) h
 |bl y=>cases(show u=Value.bool y from rx);exact PySem.W.kia_one PySem.W.kitx_bool I.jO True.intro e (λz=>nomatch z) h
 |int i=>obtain⟨t,q⟩:=(show ∃t,u=Value.int i t from rx);cases q;exact PySem.W.kia_one PySem.W.kitx_int I.jO True.intro e (λz=>nomatch z) h
 |str y=>obtain⟨t,q⟩:=(show ∃t,u=Value.str y t from rx);cases q;exact PySem.W.kia_one PySem.W.kitx_str I.jO True.intro e (λz=>nomatch z) h
 |FA y=>obtain⟨t,q⟩:=(show ∃t,u=Value.float y t from rx);cases q;exact PySem.W.kia_one PySem.W.kitx_float I.jO True.intro e (λz=>nomatch z) h
 | @lst a xs ea=>
  cases(show u=Value.ref a from rx);obtain⟨_,_,n,_,h1⟩:=(show dN X.prog X.w H s.heap a (.lst xs) from I.hok a _ ea);exact PySem.W.kia_one PySem.W.kitx_list I.jO #[_,h1,rfl] e (λz=>nomatch z) h
 | @sU a ob xs ea=>
  cases(show u=Value.ref a from rx);obtain⟨_,_,_,n,_,h1⟩:=(show dN X.prog X.w H s.heap a (.sU ob (.lst xs)) from I.hok a _ ea);exact PySem.W.kia_one PySem.W.kitx_list I.jO #[_,h1,rfl] e (λz=>nomatch z) h
 | @tup a xs ea=>
  cases(show u=Value.ref a from rx);obtain⟨_,_,_,p⟩:=(show dN X.prog X.w H s.heap a (.tup xs) from I.hok a _ ea);obtain⟨o,h1,h2,_⟩:=p;exact PySem.W.kia_one PySem.W.kitx_tuple I.jO #[o,h1,h2] e (λz=>nomatch z) h
 | @dK a fK ea=>
  cases(show u=Value.ref a from rx);obtain⟨_,_,vs,_,p⟩:=(show dN X.prog X.w H s.heap a (.dK fK) from I.hok a _ ea);obtain⟨o,es,ep,h1,h2,_⟩:=p;exact PySem.W.kia_one PySem.W.kitx_dict I.jO #[o,h1,h2.1] e (λz=>nomatch z) h
 | @dT a fK ea=>
  cases(show u=Value.ref a from rx);obtain⟨_,_,xs,_,o,es,ep,h1,h2,_⟩:=(show dN X.prog X.w H s.heap a (.dT fK) from I.hok a _ ea);exact PySem.W.kia_one PySem.W.kitx_dict I.jO #[o,h1,h2.1] e (λz=>nomatch z) h
 | @ins a C dx fs ea cl ha hn VF hm=>
  rfl';cases(show u=Value.ref a from rx);obtain⟨mA,O,_⟩:=tu I.hok ea;obtain⟨od,J,_⟩:=O.look;ac_rfl;exact PySem.W.kia_one (PySem.W.kitx_own (cl.get _) cl.hd ha hn VF hm) I.jO J e (λz=>nomatch z) h
end
structure dq (k:Nat) (A:Around):Prop where
 hd:A.handled=none
 dp:A.depth+3*k+5<recursionLimit
 un:A.units+16*k+200<cLine
def dq.mono(r:dq k A)(h:j<=k):dq j A:=#[r.hd,by have:=r.dp;lia,by have:=r.un;lia]
theorem dq.deeper(r:dq (k+1) A)(env:Env):dq k (A.deeper env):=
 #[r.hd,by have:=r.dp;show A.depth+1+3*k+5<_;lia,by have:=r.un;show A.units+3+16*k+200<_;lia]
def Ed{A:Around}:(A.under (.builtin "type.__call__" #[.ref C::a,b])).depth=A.depth+1:=by
 first|rfl|simp[Around.under,Code.weight,Code.isCreation,Code.isGuard,Code.isCaller,Code.frames,Code.isFrame,guardIds]
def Ee{A:Around}:(A.under (.builtin "type.__call__" #[.ref C::a,b])).units=A.units+1:=by
 first|rfl|simp[Around.under,Code.cUnits,Code.frames,Code.isFrame]
def dq.make(r:dq (k+1) A)(C:Addr)(a:List Value)(b:List (Str×Value)):dq k (A.under (.builtin "type.__call__" #[.ref C::a,b])):=
 #[r.hd,by have:=r.dp;rw[Ed];lia,by have:=r.un;rw[Ee];lia]
theorem dq.depth{k:Nat}(r:dq k A):A.depth<recursionLimit:=by have:=r.dp;lia
theorem dq.units{k:Nat}(r:dq k A):A.units+64<cLine:=by have:=r.un;lia
def QS:TA:=λ_ H Q=>Q [] H
def Tt(b:TE)(c:TA):TA:=λa H Q=>b a H λx d=>c a d λe f=>Q (x::e) f
section
variable {X:Cx} {e:Expr} {es:List Expr} {te:TE} {t:TA} {pos:Pos}
def gD:PA X [] QS:=λ_ _ _ _ H Q I h=>Calls.spliced_nil #[[],H,I, .nil,h]
def d6(d:PE X e te)(f:PA X es t)(g:starEach (e::es) X.env=(false,eval e X.env)::starEach es X.env:=by rfl):PA X (e::es) (Tt te t):=by
 intro b a s c H Q I h;rw[g];show wpAny _ _ (spliced ((false,eval e X.env)::backTo b (starEach es X.env))) _ _ s;refine Calls.spliced_cons (thn (d a s c H _ I h) λu i j=>?_);rfl';obtain⟨x,l,m,n,o⟩:=j;ac_rfl;exact thn (f b a i c l _ m o) λz A #[p,q,r,v,w]=>#[x::p,q,r, .cons n v,w]
def W3(t:TA):TE:=λc H Q=>t c H λa b=>a.length<=sizeLine/\∀p,b p=none->Q (.ref p) (upd b p (.tup a))
def WX(t:TA):TE:=λc H Q=>t c H λa b=>a.length<=sizeLine/\∀p,b p=none->Q (.ref p) (upd b p (.lst a))
def HP{x1}(h:PA X es t):PE X (.Tuple es x1 pos) (W3 t):=by
 intro a s g H Q I i;refine wpAny_Tuple_spliced (thn (h pos a s g H _ I i) λj c #[k,d,f,r,z,q]=>#[r.length▸z,?_]);have l:d c.heap.objs.size=none:=f.hok.fresh (bo _);refine#[.ref c.heap.objs.size,upd d c.heap.objs.size (.tup k),f.laid (t':=c.toks) (λb u e=>AC _ e) (bo _) ?_,rfl,q _ l];exact#[z,j,r,#[_,Gc _ rfl,rfl,_,rfl]]
def B9(h:PA X es t):PE X (.List es pos) (WX t):=by
 intro a s g H Q I i;refine wpAny_List_spliced (thn (h pos a s g H _ I i) λj c #[k,d,f,r,z,q]=>#[r.length▸z,?_]);have l:d c.heap.objs.size=none:=f.hok.fresh (bo _);refine#[.ref c.heap.objs.size,upd d c.heap.objs.size (.lst k),f.laid (t':=c.toks) (λb u e=>AC _ e) (bo _) ?_,rfl,q _ l];exact#[z,j,0,r,Gc _ rfl]
end
abbrev Sp:=List V->Hp->VK->XK->Prop
abbrev uo:=List Env->Hp->Shared->XK->Value->Shared->Prop
structure Env0 (P:Program) (w:World) (K:ab) (mg:Str->Option Value) (base:Heap) (A:Around) (outer:List Env) (s:Shared) (H:Hp):Prop where
 frames:A.frames\outer
 mod:Mod K mg base
 bs:∀b o,base.get? b\o->s.heap.get? b\o/\H b=none
 bsz:base.objs.size<=s.heap.objs.size
 funs:s.heap.FunFrames base outer
 frf:∀b∈xR outer,H b=none
 hok:j4 P w H s.heap
 bare:AllBare s.gens
def CE(outer:List Env)(P:Program)(w:World)(H:Hp)(s:Shared)(Q:VK)(u:Value)(a:Shared):Prop:=
 ∃v b,a.os=s.os/\AllBare a.gens/\Un (xR outer) [] H b s.heap a.heap/\j4 P w b a.heap/\RelV v u/\Q v b
def CR(b:uo)(outer:List Env)(P:Program)(w:World)(H:Hp)(s:Shared)(Q:VK)(E:XK)(r:Result)(a:Shared):Prop:=
 match r with
 | .ok (.ret u)=>CE outer P w H s Q u a
 | .ok _=>False
 | .error e=>b outer H s E e a
structure FnOk (P:Program) (w:World) (K:ab) (mg:Str->Option Value) (base:Heap) (CX:uo) (k:Nat) (f:Addr) (fd:FuncData) (ps:List Str) (sp:Sp):Prop where
 len:∀vs H Q E,sp vs H Q E->vs.length=ps.length
 run:∀(A:Around)(outer:List Env)(s:Shared)(H:Hp)(args:Args)(us:List Value)(vs:List V)(Q:VK)(E:XK),dq k A->Env0 P w K mg base A outer s H->BindsTo s fd args (ps.zip us)->Vals vs us->sp vs H Q E->
  codeAny (model P w) A (.call (.ref f) args) (CR CX outer P w H s Q E) s
theorem FnOk.mono{P:Program}{w:World}{K:ab}{b:Str->Option Value}{base:Heap}(F:FnOk P w K b base c j f d ps e)(h:j<=k):
  FnOk P w K b base c k f d ps e:=#[F.len,λA outer s H a g i Q E l=>F.run A outer s H a g i Q E (l.mono h)]
def FnOk.imp{P:Program}{w:World}{K:ab}{base:Heap}{d:uo}{f:Addr}{g i:Sp}(F:FnOk P w K c base d k f e ps g)
  (h:∀a H Q E,i a H Q E->g a H Q E):FnOk P w K c base d k f e ps i:=
 #[λa H Q E q=>F.len a H Q E (h _ _ _ _ q),λA outer s H b j a Q E l m n o p=>F.run A outer s H b j a Q E l m n o (h _ _ _ _ p)]
def Env0.make{P:Program}{w:World}{K:ab}{a:Str->Option Value}{base:Heap}{A:Around}{outer:List Env}{s:Shared}{H:Hp}(e:Env0 P w K a base A outer s H)(C:Addr)(b:List Value)(c:List (Str×Value)):
  Env0 P w K a base (A.under (.builtin "type.__call__" #[.ref C::b,c])) outer s H:=#[by first|exact e.frames| (simpa [Around.under,Code.envs,Code.isFrame,pushEnvs] using e.frames),e.mod,e.bs,e.bsz,e.funs,e.frf,e.hok,e.bare]
section
variable {X:Cx} {pins:List (Addr×Obj)} {σ:St} {H:Hp} {s s':Shared}
def Inv.Qo(I:Inv X pins σ H s):Env0 X.prog X.w X.K X.mg X.base X.A X.stack s H:=
 #[I.ok.frames,I.ok.mod,I.bs,m8 I.ok.bsz I.sz,I.stack,I.ET,I.hok,I.bare]
def Inv.after(I:Inv X pins σ H s)(h:CE X.stack X.prog X.w H s Q u s'):EP X pins σ Q u s':=by
 obtain⟨v,a,os,bare,un,hok,r,q⟩:=h;obtain⟨c,g,d,t,e⟩:=s';obtain rfl:e=s.os:=os;exact#[v,a,I.call (h':=c) (g':=g) (d':=d) (t':=t) (ch:= []) un hok bare (λb z=>absurd z (by simp)),r,q]
end
def Ts(a:Sp)(b:List V)(E:XK)(t:TA):TE:=λc H Q=>t c H λd e=>a (d++b) e Q E
def GP(C:Addr)(m:Str)(d:Sp)(e:List V)(E:XK)(f:TE)(t:TA):TE:=λb H Q=>f b H λx c=>∃a g fs,x= .ref a/\c a\(.ins C g fs)/\fs.lookup m=none/\
 t b c λh i=>d (x::(h++e)) i Q E
def Tv(C:Addr)(c:Sp)(d:List V)(E:XK)(t:TA):TE:=λe H Q=>t e H λf b=>∀x a,b x=none->b a=none->a≠x->
 c (.ref x::(f++d)) (upd (upd b a (.own x)) x (.ins C a [])) (λv g=>v= .bC/\Q (.ref x) g) E
def Binds(K:ab)(d:FuncData)(b:List Str)(c:List Value):Prop:=
 ∀(s:Shared)(a:List Value),K.In s.heap->(a++c).length=b.length->BindsTo s d #[a,[]] (b.zip (a++c))
def Binds.all{K:ab}{c:FuncData}{b:List Str}(h:∀a:List Value,a.length=b.length->bindArgs c #[a,[]]=pure (b.zip a)):Binds K c b []:=λs a _ d=>by
 rw[jH] at d ⊢;exact .of_eq (h a d)
def Passes(c:uo)(X:Cx)(E:XK):Prop:=∀(a:List (Addr×Obj))(d:St)(H:Hp)(s:Shared)(e:Value)(b:Shared),Inv X a d H s->c X.stack H s E e b->X.xe e b
section
variable {X:Cx} {CX:uo} {k:Nat} {f C:Addr} {fd:FuncData} {ps:List Str} {sp:Sp} {bG:List V} {ds:List Value} {E:XK} {x m:Str} {p pos apos:Pos} {e o:Expr} {es:List Expr} {ta:TE} {t:TA}
theorem Co{pins:List (Addr×Obj)}{σ:St}{H:Hp}{s:Shared}{Q:VK}{us:List Value}{vs:List V}(F:FnOk X.prog X.w X.K X.mg X.base CX k f fd ps sp)(hr:dq k X.A)(hb:Binds X.K fd ps ds)(hd:Vals bG ds)(hx:Passes CX X E)
  (I:Inv X pins σ H s) (r:Vals vs us) (h:sp (vs++bG) H Q E):wpAny (model X.prog X.w) X.A (call (.ref f) us) (EP X pins σ Q) X.xe s:=by
 have r2:Vals (vs++bG) (us++ds):=r.append hd;have hl:(us++ds).length=ps.length:=by rw[<-r2.length];exact F.len _ _ _ _ h
 refine wpAny_call (codeAny_mono (F.run X.A X.stack s H #[us,[]] (us++ds) (vs++bG) Q E hr I.Qo (hb s us I.jO hl) r2 h) λr s' hq=>?_);cases r with
 |error e=>exact hx pins σ H s e s' I hq
 |ok fl=>
  cases fl with
  |ret u=>exact I.after hq
  |next=>exact False.elim hq
  |brk=>exact False.elim hq
  |cont=>exact False.elim hq
def yQ(F:FnOk X.prog X.w X.K X.mg X.base CX k f fd ps sp)(c:dq k X.A)(d:Gl X x)(g:X.mg x\(.ref f))(i:am X.K (.ref f)=true)(j:Binds X.K fd ps ds)(l:Vals bG ds)(n:Passes CX X E)
  (u:PA X (e::es) t) (v:(x==("__debug__":Str))=false:=by decide) (y:starEach (e::es) X.env=(false,eval e X.env)::starEach es X.env:=by rfl) (z:(backTo pos (starEach es X.env)).any (·.1)=false:=by rfl):
  PE X (.Call (.Name x p) (e::es) [] pos) (Ts sp bG E t):=by
 intro a s B H Q I h;refine aau (yh I d g ?_ v);refine abH (h₀:=X.base) I.ok.mod.kin i (thn (u pos a s B H _ I h) λG J #[L,M,b,r,q]=>#[b.jO,?_]) y z;exact Co F c j l n b r q
def Mu{pl:Sem Bool}(v:PE X o ta)(c:xg X.K C)(d:Meth X.K C m f)(F:FnOk X.prog X.w X.K X.mg X.base CX k f fd ps sp)(y:dq k X.A)(z:Binds X.K fd ps ds)(B:Vals bG ds)(G:Passes CX X E)(J:PA X (e::es) t)
  (L:starEach (e::es) X.env=(false,eval e X.env)::starEach es X.env:=by rfl) (M:(backTo pos (starEach es X.env)).any (·.1)=false:=by rfl)
  (N:eval (.Call (.Attribute o m apos) (e::es) [] pos) X.env=(do
   let g <-eval o X.env
   standAt apos.atName
   let (f,first) <-holding [g] (getMethod g m pl)
   callWith pos f first (backTo pos (starEach (e::es) X.env)) (backToKw pos (keywordEach [] X.env))):=by rfl):
  PE X (.Call (.Attribute o m apos) (e::es) [] pos) (GP C m sp bG E ta t):=by
 intro b s i H Q I h;refine PySem.W.methodCall_KW (pl:=pl) (thn (v b s i H _ I h) λu O #[x,P,j,R,a,Y,fs,S,T,l,q]=>?_) N;subst S;obtain rfl:u=Value.ref a:=R;refine vH j T c d l ?_;refine abH (first:= [.ref a]) (h₀:=X.base) I.ok.mod.kin d.kp (thn (J pos b O i P _ j q) λus Z #[vs,p,n,r,U]=>#[n.jO,?_]) L M;exact Co (us:= .ref a::us) (vs:= .ref a::vs) F y z B G n (.cons rfl r) U
def JC{pl:Sem Bool}(j:PE X o ta)(c:xg X.K C)(g:Meth X.K C m f)(F:FnOk X.prog X.w X.K X.mg X.base CX k f fd ps sp)(n:dq k X.A)(r:Binds X.K fd ps ds)(v:Vals bG ds)(y:Passes CX X E)
  (z:eval (.Call (.Attribute o m apos) [] [] pos) X.env=(do
   let i <-eval o X.env
   standAt apos.atName
   let (f,first) <-holding [i] (getMethod i m pl)
   callWith pos f first (backTo pos (starEach [] X.env)) (backToKw pos (keywordEach [] X.env))):=by rfl):
  PE X (.Call (.Attribute o m apos) [] [] pos) (GP C m sp bG E ta QS):=by
 intro b s B H Q I h;refine PySem.W.methodCall_KW (pl:=pl) (thn (j b s B H _ I h) λu M #[x,N,d,G,a,O,fs,J,L,l,q]=>?_) z;subst J;obtain rfl:u=Value.ref a:=G;refine vH d L c g l ?_;exact PySem.W.callWith_K0 (first:= [.ref a]) d.jO g.kp (Co (us:= [.ref a]) (vs:= [.ref a]) F n r v y d (.cons rfl .nil) q)
structure Mk (K:ab) (C f:Addr):Prop where
 makes:cq K C=true
 init:ar K (.ref C) "__init__"\(some (.ref f))
 fn:bv K (.ref f)=true
 kp:am K (.ref C)=true
theorem JU{pins:List (Addr×Obj)}{σ:St}{H:Hp}{s:Shared}{Q:VK}{us:List Value}{vs:List V}(M:Mk X.K C f)(F:FnOk X.prog X.w X.K X.mg X.base CX k f fd ps sp)(hr:dq (k+1) X.A)(hb:Binds X.K fd ps ds)(hd:Vals bG ds)
  (hx:Passes CX X E) (I:Inv X pins σ H s) (r:Vals vs us)
  (h:∀x dx,H x=none->H dx=none->dx≠x->sp (.ref x::(vs++bG)) (upd (upd H dx (.own x)) x (.ins C dx [])) (λv H2=>v= .bC/\Q (.ref x) H2) E):
  wpAny (model X.prog X.w) X.A (call (.ref C) us) (EP X pins σ Q) X.xe s:=by
 have hq:=h (s.heap.objs.size+1) s.heap.objs.size (I.hok.fresh (rN _)) (I.hok.fresh (bo _)) (bY (u7 _));have I2:=Inv.made (C:=C) I;have r2:Vals (V.ref (s.heap.objs.size+1)::(vs++bG)) (Value.ref (s.heap.objs.size+1)::(us++ds)):= .cons rfl (r.append hd)
 have hl:(Value.ref (s.heap.objs.size+1)::us++ds).length=ps.length:=by
  have e:=r2.length;rw[F.len _ _ _ _ hq] at e;exact e.symm
 refine wpAny_call (Jm (f:=f) I.jO M.makes M.init (beq_iff_eq.mp M.fn) (codeAny_mono (F.run _ X.stack _ _ #[Value.ref (s.heap.objs.size+1)::us,[]] (Value.ref (s.heap.objs.size+1)::(us++ds)) _ _ E (hr.make C us [])
  (I2.Qo.make C us []) (hb _ (Value.ref (s.heap.objs.size+1)::us) I2.jO hl) r2 hq) λr s' xZ=>?_))
 cases r with
 |error e=>exact hx pins σ _ _ e s' I2 xZ
 |ok fl=>
  cases fl with
  |ret u=>
   rfl';obtain⟨v,H',I3,rv,ev,q3⟩:=I2.after xZ;subst ev;ac_rfl;exact#[rv,#[V.ref (s.heap.objs.size+1),H',I3,rfl,q3]]
  |next=>exact False.elim xZ
  |brk=>exact False.elim xZ
  |cont=>exact False.elim xZ
def Mt(M:Mk X.K C f)(F:FnOk X.prog X.w X.K X.mg X.base CX k f fd ps sp)(c:dq (k+1) X.A)(d:Gl X x)(g:X.mg x\(.ref C))(i:Binds X.K fd ps ds)(j:Vals bG ds)(l:Passes CX X E)
  (n:PA X (e::es) t) (u:(x==("__debug__":Str))=false:=by decide) (v:starEach (e::es) X.env=(false,eval e X.env)::starEach es X.env:=by rfl) (y:(backTo pos (starEach es X.env)).any (·.1)=false:=by rfl):
  PE X (.Call (.Name x p) (e::es) [] pos) (Tv C sp bG E t):=by
 intro a s z H Q I h;refine aau (yh I d g ?_ u);refine abH (h₀:=X.base) I.ok.mod.kin M.kp (thn (n pos a s z H _ I h) λB G #[J,L,b,r,q]=>#[b.jO,?_]) v y;exact JU M F c i j l b r q
end
section
variable {X:Cx} {CX:uo} {k:Nat} {f C:Addr} {fd:FuncData} {ps ks:List Str} {sp:Sp} {E:XK} {x m:Str} {p pos apos aah:Pos} {e o:Expr} {es:List Expr} {kws:List Keyword} {te ta:TE} {t tk:TA} {nm:Option Str}
variable {g:List Value->List Value->List Value} {gV:List V->List V->List V}
end
structure aN (N P:List Str) (sc:Scope):Prop where
 kind:sc.kind= .function
 co:sc.isCoroutine=false
 gen:sc.isGenerator=false
 nd:N.Nodup
 pre:N.take P.length=P
 par:∀x∈P,sc.names.lookup x\.local\/sc.names.lookup x\.cell
 nofree:∀y∈sc.names,y.2≠ .free
theorem xw{kindOf:Str->Option NameKind}{x:Str}:∀{binds:List (Str×Value)}{m:Str->Option Value},(∀v,(x,v)∉binds)->bindL kindOf binds m x=m x
 | [],_,_=>rfl
 | (n,v)::r,m,h=>by
  unfold bindL;rw[xw λw hw=>h w (cI _ hw)]
  split
  .have:x≠n:=by rintro rfl;exact h v bP
   simp[this]
  .rfl
theorem xu{kindOf:Str->Option NameKind}{x:Str}:∀{binds:List (Str×Value)}{m:Str->Option Value},(∀v,(x,v)∉binds)->bindC kindOf binds m x=m x
 | [],_,_=>rfl
 | (n,v)::r,m,h=>by
  unfold bindC;rw[xu λw hw=>h w (cI _ hw)]
  split
  .rfl
  .have:x≠n:=by rintro rfl;exact h v bP
   simp[this]
theorem xv{kindOf:Str->Option NameKind}{x:Str}{v:Value}:∀{P:List Str}{a:List Value}{i:Nat}{m:Str->Option Value},P.Nodup->P[i]?\x->a[i]?\v->kindOf x\.local->
  bindL kindOf (P.zip a) m x\v
 | [],_,_,_,_,h,_,_=>by simp at h
 |_::_,[],_,_,_,_,h,_=>by simp at h
 |p::P,w::a,0,m,d,b,c,e=>by
  simp at b c;subst b;subst c;show bindL kindOf ((p,w)::P.zip a) m p=_;unfold bindL;rw[xw λv f=>(cX.mp d).1 (acd f).1,ir e];simp
 |p::P,w::a,i+1,m,d,b,c,e=>by
  show bindL kindOf ((p,w)::P.zip a) m x=_;unfold bindL;exact xv (i:=i) (cX.mp d).2 (~~~b) (~~~c) e
theorem xt{kindOf:Str->Option NameKind}{x:Str}{v:Value}:∀{P:List Str}{a:List Value}{i:Nat}{m:Str->Option Value},P.Nodup->P[i]?\x->a[i]?\v->kindOf x≠some .local->
  bindC kindOf (P.zip a) m x\v
 | [],_,_,_,_,h,_,_=>by simp at h
 |_::_,[],_,_,_,_,h,_=>by simp at h
 |p::P,w::a,0,m,d,b,c,e=>by
  simp at b c;subst b;subst c;show bindC kindOf ((p,w)::P.zip a) m p=_;unfold bindC;rw[xu λv f=>(cX.mp d).1 (acd f).1,mo e];simp
 |p::P,w::a,i+1,m,d,b,c,e=>by
  show bindC kindOf ((p,w)::P.zip a) m x=_;unfold bindC;exact xt (i:=i) (cX.mp d).2 (~~~b) (~~~c) e
def start(N:List Str)(a:List V):St:=a.map some++aj (N.length-a.length) none
def vx(g:uo)(P:Program)(w:World)(K:ab)(mg:Str->Option Value)(base:Heap)(N:List Str)(b:Str)(a:Scope)(f:Addr)(c:Value)(A:Around)(outer:List Env)(s:Shared)(H:Hp)(E:XK):Cx where
 prog:=P
 w:=w
 K:=K
 mg:=mg
 base:=base
 A:=A.deeper (envOfC b a s.heap.objs.size f c)
 N:=N
 s₀:=s
 H₀:=H
 env:=envOfC b a s.heap.objs.size f c
 outer:=outer
 stack:=envOfC b a s.heap.objs.size f c::outer
 ex:= []
 calm:=true
 fn:=λ_=>true
 pn:= []
 xe:=λe h=>wpAny (model P w) (A.deeper (envOfC b a s.heap.objs.size f c)) (leaving (envOfC b a s.heap.objs.size f c) e) (λ_ d=>g outer H s E e d) (λi d=>g outer H s E i d) h
def z9{a:Scope}{n:Nat}(h:a.names.lookup x\.cell):∃c,(cellsFrom n a.names []).lookup x\c:=by
 have q:=ack a.names n [] (.inl h);exact Option.isSome_iff_exists.mp q
theorem F0{M:uo}{P:Program}{w:World}{K:ab}{I:Str->Option Value}{base:Heap}{N m:List Str}{g:Str}{d:Scope}{f:Addr}{C:Value}{A:Around}{outer:List Env}{s O:Shared}{H:Hp}{E:XK}{J:List Value}{o:List V}
  (S:aN N m d) (U:A.handled=none) (l:Env0 P w K I base A outer s H) (Z:o.length=m.length) (r:Vals o J)
  (x:InCallC s s.heap.objs.size (bindL (envOfC g d s.heap.objs.size f C).kindOf (m.zip J) λ_=>none) (cellsFrom (s.heap.objs.size+1) d.names []) (bindC (envOfC g d s.heap.objs.size f C).kindOf (m.zip J) λ_=>none) O):
  Inv (vx M P w K I base N g d f C A outer s H E) [] (start N o) H O:=by
 have fC:m.length<=N.length:=by have:=GM bV S.pre;rw[i6] at this;lia
 obtain⟨F,tk,rfl,Q⟩:=x.done;have L:∀b:Addr,b∉(vx M P w K I base N g d f C A outer s H E).ex:=λb z=>absurd (show b∈([]:List Addr) from z) (by simp)
 refine#[#[l.mod,S.kind,rfl,rfl,bo _,λy z c F j=>?_,λy t=>?_,λy c _ h=>?_,λ_=>U,Around.frames_deeper l.frames, .inr #[rfl,rfl],λb z=>absurd z (L b),l.bs,l.bsz,λb _ _=>L b,λb z=>absurd z (L b),l.funs,l.frf],
  rfl,l.bare,Un.kept Q,#[_,x.toInCall.ns,λi y v F j h3=>?_],λy c h=>#[_,x.cell y c h],l.hok.fresh (bo _),λy c h=>?_,λp B=>absurd (show p∈([]:List (Addr×Obj)) from B) (by simp),l.hok.kept Q,?_]
 .exact name_of_addr x.apart (aas F) (aas j)
 .have t:d.names.lookup y\.cell\/d.names.lookup y\.free:=t
  rcases t with t|t
  .exact z9 t
  .exact absurd rfl (S.nofree _ (aas t))
 .exact vg (x.above y c (aas h))
 .have G:i<o.length:=by
   unfold start at j
   by_cases G:i<o.length
   .exact G
   .rw[kW (~~~G)] at j
    rw[rF] at j
    split at j<;>cases j
  have X:o[i]?\v:=by
   unfold start at j;rw[kX (~~~G),cG] at j
   cases e:o[i]? with
   |none=>rw[e] at j;cases j
   |some a=>rw[e] at j;cases j;rfl
  obtain⟨u,R,Y⟩:=r.get X
  have B:m[i]?\y:=by
   rw[<-S.pre,E4 ()];exact F
  have T:m.Nodup:=by rw[<-S.pre];exact S.nd.sublist (zu _ _)
  exists u,Y
  rcases S.par y (dH B) with k|k
  .exact .inl #[k,xv T B R k]
  .obtain⟨c,e⟩:=z9 (n:=s.heap.objs.size+1) k
   refine .inr #[.inl k,c,e,?_];have q:=x.cell y c e;rw[xt T B R (by show d.names.lookup y≠_;rw[k];decide)] at q
   exact q
 .exact l.hok.fresh (vg (x.above y c (aas h)))
 .unfold start
  show _=N.length;rw[cD,aI,v5];lia
theorem RN{B:uo}{P:Program}{w:World}{K:ab}{C:Str->Option Value}{base:Heap}{k:Nat}{f:Addr}{i c:Str}{d:Arguments}{g:List Stmt}{a:Scope}{U kV p X l Y oc:Value}{Z od:Option Addr}
  {Et:Array (Option Value)} {N F:List Str} {L:Sp} (lk:K.lookup f\#[oc,od, .func (bd i c d g a U kV p X Z l Y),Et]) (eH:bc K l c=true) (S:aN N F a)
  (len:∀h H Q E,L h H Q E->h.length=F.length)
  (rT:∀(A:Around)(outer:List Env)(s:Shared)(H:Hp)(h:List V)(Q:VK)(E:XK),dq k (A.deeper (envOfC c a s.heap.objs.size f l))->L h H Q E->
   ∃t,mz (vx B P w K C base N c a f l A outer s H E) g t/\t {nx:=λ_ j=>Q .bC j,rt:=Q} (start N h) H):
  FnOk P w K C base B (k+1) f (bd i c d g a U kV p X Z l Y) F L:=by
 refine#[len,λA outer s H args us h Q E M z hb r D1=>?_];have hl:=len _ _ _ _ D1;have KX:K.In s.heap:=z.mod.kin.keeps λb o e=>(z.bs b o e).1;have O:s.heap.NoLimit:=z.mod.nolimit.keeps λb o e=>(z.bs b o e).1
 have Sb:∀y∈F.zip us,a.names.lookup y.1\.local\/(a.names.lookup y.1\.cell/\((cellsFrom (s.heap.objs.size+1) a.names []).lookup y.1).isSome=true):=λ#[n,v] hy=>by
  rcases S.par n (acd hy).1 with q|q
  .exact .inl q
  .exact .inr #[q,ack _ _ _ (.inl q)]
 refine codeAny_call_function M.depth (KX _ _ lk) rfl S.co S.gen rfl (PySem.W.codeRec_of KX eH) (hb _ _ _ _ ?_);refine wpAny_newFunctionEnv_cells S.kind Sb λenv he s1 x=>?_;subst he;obtain⟨t,ht,hq⟩:=rT A outer s H h Q E (M.deeper _) D1;refine#[O.keeps x.toInCall.keep,codeAny_func ?_];have I:Inv (vx B P w K C base N c a f l A outer s H E) [] (start N h) H s1:=F0 S M.hd z hl r x;refine wpAny_mono (ht [] s1 (start N h) H _ I hq) (λfl R m=>?_) λe R m=>m
 have fin:∀{G:St}{j:Hp}{v:V}{u:Value},Inv (vx B P w K C base N c a f l A outer s H E) [] G j R->RelV v u->Q v j->CE outer P w H s Q u R:=
  λ {G j v u} J T q=>#[v,j,J.os,J.bare,J.base,J.hok,T,q]
 cases fl with
 |ret u=>
  obtain⟨v,G,j,J,T,q⟩:=m;exact fin J T q
 |next=>
  obtain⟨G,j,J,q⟩:=m;exact fin (v:=V.bC) (u:=Value.none) J rfl q
 |brk=>
  obtain⟨_,_,_,q⟩:=m;exact False.elim q
 |cont=>
  obtain⟨_,_,_,q⟩:=m;exact False.elim q
section
variable {X:Cx} {x:Str} {p pos:Pos} {e:Expr} {es:List Expr} {t:TA} {id T:String} {r:List V->Hp->VK->Prop}
def WT(r:List V->Hp->VK->Prop)(t:TA):TE:=λa H Q=>t a H λb c=>r b c Q
theorem qN(c:cw X (.builtin id) r)(d:Gl X x)(f:X.mg x=none)(g:bootBuiltins x\(.builtin id))(i:PA X (e::es) t)(j:x≠"__name__":=by decide)(k:(x==("__debug__":Str))=false:=by decide)
  (l:starEach (e::es) X.env=(false,eval e X.env)::starEach es X.env:=by rfl) (m:(backTo pos (starEach es X.env)).any (·.1)=false:=by rfl):PE X (.Call (.Name x p) (e::es) [] pos) (WT r t):=by
 intro a s b H Q I h;refine aau (lH I d f g ?_ j k);exact PyProof.Rows.callWith_builtin1 (thn (i pos a s b H _ I h) λn o #[q,u,v,w,y]=>c a o b u q n Q v w y) l m
def yR(c:cw X (.type T) r)(d:Gl X x)(f:X.mg x=none)(g:bootBuiltins x\(.type T))(i:PA X (e::es) t)(j:x≠"__name__":=by decide)(k:(x==("__debug__":Str))=false:=by decide)
  (l:starEach (e::es) X.env=(false,eval e X.env)::starEach es X.env:=by rfl) (m:(backTo pos (starEach es X.env)).any (·.1)=false:=by rfl):PE X (.Call (.Name x p) (e::es) [] pos) (WT r t):=by
 intro a s b H Q I h;refine aau (lH I d f g ?_ j k);exact aat (thn (i pos a s b H _ I h) λn o #[q,u,v,w,y]=>c a o b u q n Q v w y) l m
end
end L2
namespace HT
open PySem PyProof.Rows
def lexLt:List Int->List Int->Bool
 | [],[]=>false
 | [],_::_=>true
 |_::_,[]=>false
 |x::a,y::b=>if x=y then lexLt a b else decide (x<y)
def D9(x y:Int)(a b:List Int):lexLt (x::a) (y::b)=if x=y then lexLt a b else decide (x<y):=rfl
def yk:lexLt [] []=false:=rfl
def wB(y:Int)(a:List Int):lexLt [] (y::a)=true:=rfl
def wA(x:Int)(a:List Int):lexLt (x::a) []=false:=rfl
def Ak(A:Around)(s:Shared)(a:Int)(t:Tok)(c:Int)(u:Tok):∃e,SeqAt.EqAt A s (.int a t) (.int c u) e/\(e=true↔a=c):=
 #[(a==c),aaN a t c u,by simp]
def AR(A:Around)(s:Shared)(a:Int)(t:Tok)(c:Int)(u:Tok)(prog:Program)(w:World)(E:Value->Shared->Prop)(Q:Value->Shared->Prop)(h:Q (.bool (decide (a<c))) s):
  wpAny (model prog w) A (richCompare .Lt (.int a t) (.int c u)) Q E s:=
 (PyProof.Rows.lt_int h:wpAny (model prog w) A (compareOp .Lt (.int a t) (.int c u)) Q E s)
section
open PySem.SeqAt
open PySem.AutoSeq1 (wpAny_loadPart')
open PySem.MeetsSeq PySem.MeetsSeq2 PySem.MeetsSeq3
end
section
variable {prog:Program} {w:World} {A:Around} {E:Value->Shared->Prop} {s:Shared}
theorem Kv(r:IsTup s.heap t c.toArray)(u:IsTup s.heap b a.toArray)(h:c≠ [])
  (v:a= []->Q (.ref t) s) (x:a≠ []->Q (.ref s.heap.objs.size) {s with heap:=s.heap.push {cls:= .type "tuple",data:= .seq (c++a).toArray}})
  (y:c.length+a.length<=sizeLine):wpAny (model prog w) A (binaryOp .Add (.ref t) (.ref b)) Q E s:=by
 rfl';obtain⟨⟨cls,i,data,j⟩,f,k,n,l⟩:=id r;obtain⟨⟨C,m,data2,o⟩,g,p,q,d⟩:=id u;ac_rfl;simp only at k l p d;subst k l p d;have e:c.toArray++a.toArray=(c++a).toArray:=by simp
 by_cases hw:a= []
 .exact concat_meets #[_,f,rfl] #[_,g,rfl] noFill_tuple_add seq_tuple_add acm aca (abZ _ _)
   (tuple_addW1 t b c.toArray a.toArray n q i m j o (~~~h) (by simp[hw])) #[f,g,v hw]
 .refine concat_meets #[_,f,rfl] #[_,g,rfl] noFill_tuple_add seq_tuple_add acm aca (abZ _ _)
   (tuple_addW2 t b c.toArray a.toArray n q i m j o (~~~h) (~~~hw) (by rw[cH,cH];exact y)) #[f,g,?_]
  rw[e];exact x hw
def cj(n d:Nat):Option Int->Nat
 |none=>d
 |some v=>if v<0 then(v+(n:Int)).toNat else min v.toNat n
def Po(n d:Nat)(b:d<=n)(o:Option Int):cj n d o<=n:=by
 cases o with
 |none=>exact b
 |some v=>
  show(if v<0 then(v+(n:Int)).toNat else min v.toNat n)<=n
  by_cases a:v<0
  .rw[ir a];lia
  .rw[mo a];exact Nat.min_le_right _ _
def Dc(v:Int)(n d:Nat):(if v<0 then max (v+(n:Int)) 0 else min v (n:Int))=((cj n d (some v):Nat):Int):=by
 show(if v<0 then max (v+(n:Int)) 0 else min v (n:Int))=(((if v<0 then(v+(n:Int)).toNat else min v.toNat n):Nat):Int)
 by_cases a:v<0
 .simp only[ir a];lia
 .simp only[mo a];lia
def CY(lo a:Option Int)(n:Nat):Builtin.Slice.sliceAdjust lo a 1 (n:Int)=(((cj n 0 lo:Nat):Int),((cj n n a:Nat):Int)):=by
 have b:¬((1:Int)<0):=()
 unfold Builtin.Slice.sliceAdjust;simp only[b,SC];refine aal ?_ ?_
 .cases lo with
  |none=>rfl
  |some v=>exact Dc v n 0
 .cases a with
  |none=>rfl
  |some v=>exact Dc v n n
def EB(i j:Nat):Builtin.Slice.slicePlaces (i:Int) (j:Int) 1=j-i:=by
 unfold Builtin.Slice.slicePlaces;have a:(1:Int)>0:=()
 simp only[a,aaw,Int.ediv_one]
 split<;>lia
def vU(p:IsPart v o)(h:Q o s):wpAny (model prog w) A (Builtin.Slice.slicePartIndex v) Q E s:=by
 cases p with
 |none=>exact slicePart_none h
 |int i t=>exact slicePart_int h
theorem t6{f:Addr}{b c:Value}{lo a:Option Int}{n:Nat}{Q:Int×Int×Nat->Shared->Prop}(g:s.heap.IsSliceOf f b c .none)(i:IsPart b lo)(j:IsPart c a)
  (h:Q (((cj n 0 lo:Nat):Int),1,cj n n a-cj n 0 lo) s):wpAny (model prog w) A (Builtin.Slice.sliceApplied (.ref f) (pure (n:Int))) Q E s:=by
 rfl';obtain⟨os,d,m,e⟩:=id g;ac_rfl;unfold Builtin.Slice.sliceApplied Builtin.Slice.sliceFields;refine wpAny_bind (wpAny_bind (wpAny_field d e (x:=b) rfl (wpAny_bind (wpAny_field d e (x:=c) rfl (wpAny_bind (wpAny_field d e (x:= .none) rfl (be ?_)))))));refine wpAny_bind (slicePart_none ?_);rw[mo ∅]
 refine wpAny_bind (vU i (wpAny_bind (vU j (wpAny_bind (be ?_)))));show wpAny _ _ (match Builtin.Slice.sliceAdjust lo a 1 (n:Int) with| (lo,a)=>pure (lo,(1:Int),Builtin.Slice.slicePlaces lo a 1)) _ _ s
 rw[CY lo a n];show wpAny _ _ (pure (((cj n 0 lo:Nat):Int),(1:Int),Builtin.Slice.slicePlaces ((cj n 0 lo:Nat):Int) ((cj n n a:Nat):Int) 1)) _ _ s;rw[EB];exact be h
def JF(a:Array Value)(i k:Nat):((ac k).filterMap λ(m:Nat)=>a[((i:Int)+(m:Int)*1).toNat]?).toArray=((a.toList.drop i).take k).toArray:=by
 have e:(λ(m:Nat)=>a[((i:Int)+(m:Int)*1).toNat]?)=λm=>a[i+m]? :=by
  funext m
  have:((i:Int)+(m:Int)*1).toNat=i+m:=()
  rw[this]
 rw[e]
 have:=pick_run a i k
 rw[List.filterMap_map] at this;have b:((λx=>a[x]?)∘λx=>i+x)=λm=>a[i+m]? :=rfl;rw[b] at this;rw[this]
theorem rS{t e:Addr}{a:Array Value}{f g:Value}{lo b:Option Int}{Q:Value->Shared->Prop}(c:IsTup s.heap t a)(i:s.heap.IsSliceOf e f g .none)(j:IsPart f lo)(k:IsPart g b)
  (hw:¬(cj a.size 0 lo=0/\cj a.size a.size b=a.size))
  (h:Q (.ref s.heap.objs.size) {s with heap:=s.heap.push {cls:= .type "tuple",data:= .seq ((a.toList.drop (cj a.size 0 lo)).take (cj a.size a.size b-cj a.size 0 lo)).toArray}})
  (r:a.size<=sizeLine):wpAny (model prog w) A (getItem (.ref t) (.ref e)) Q E s:=by
 have d:sizeOk (.seq ((a.toList.drop (cj a.size 0 lo)).take (cj a.size a.size b-cj a.size 0 lo)).toArray):=by
  show((a.toList.drop (cj a.size 0 lo)).take (cj a.size a.size b-cj a.size 0 lo)).toArray.size<=sizeLine;rw[cH,i6,u9,eD];lia
 have u:cj a.size a.size b<=a.size:=Po _ _ (bo _) b;obtain⟨os,l,n,v⟩:=id i;have o:s.TypeIs (.ref e) "slice":=#[os,l,n];unfold getItem
 try with_reducible refine wpAny_holding ?_
 first|refine wpAny_bind (wpAny_pure ?_) |skip
 refine wpAny_bind (wpAny_sequenceKey c.typeIs ∅ ?_)
 refine wpAny_bind (wpAny_callSpecial?_slot (name:=Str.ofString "__getitem__") c.typeIs PyProof.Rows.slot_tuple_getitem
  (wpAny_call_entry PyProof.Rows.slot_tuple_getitem c.typeIs entry_tuple_getitem ?_ (args_tuple_getitem _ _)))
 show wpAny _ _ (Builtin.Tuple.tupleItemsOf (.ref t)>>=_) _ _ s;refine wpAny_bind (tupleItemsOf_ c ?_);refine wpAny_bind (wpAny_typeOf o ?_);rw[if_pos ∅]
 refine wpAny_bind (t6 i j k ?_)
 have p:¬((((cj a.size 0 lo:Nat):Int)==0&&(1:Int)==1&&(cj a.size a.size b-cj a.size 0 lo)==a.size)=true):=by
  intro q;rw[wc,wc] at q;have x:((cj a.size 0 lo:Nat):Int)=0:=eq_of_beq q.1.1;have y:cj a.size a.size b-cj a.size 0 lo=a.size:=eq_of_beq q.2;exact hw #[(),()]
 show wpAny _ _ (if (((cj a.size 0 lo:Nat):Int)==0&&(1:Int)==1&&(cj a.size a.size b-cj a.size 0 lo)==a.size)=true then _ else _) _ _ s;rw[if_neg p,JF]
 first
  |exact wpAny_bind (m:=Builtin.Tuple.tupleExact _) (wpAny_newObj_type (wpAny_pure #[_,rfl,wpAny_pure h]) d)
  |exact wpAny_bind (m:=Builtin.Tuple.tupleExact _) (wpAny_newObj_type (wpAny_bind (wpAny_pure (wpAny_pure #[_,rfl,wpAny_pure h]))) d)
  |exact wpAny_bind (wpAny_bind (m:=Builtin.Tuple.tupleExact _) (wpAny_newObj_type (wpAny_pure (wpAny_pure #[_,rfl,wpAny_pure h])) d))
  |exact wpAny_bind (wpAny_bind (m:=Builtin.Tuple.tupleExact _) (wpAny_newObj_type (wpAny_pure #[_,rfl,wpAny_pure h]) d))
end
end HT
namespace L2
open PySem PySem.Spec PyProof.Rows
abbrev TO:=St->Hp->(Option Int->Hp->Prop)->Prop
def PO(X:Cx)(e:Option Expr)(t:TO):Prop:=
 ∀(a:List (Addr×Obj))(s:Shared)(b:St)(H:Hp)(Q:Option Int->Hp->Prop),Inv X a b H s->t b H Q->
  wpAny (model X.prog X.w) X.A (evalPart e X.env) (λu d=>∃o c,Inv X a b c d/\IsPart u o/\Q o c) X.xe s
def Nr:TO:=λ_ H Q=>Q none H
def TB(t:TE):TO:=λa H Q=>t a H λx b=>∃i,x= .int i/\Q (some i) b
def intsAre_of:∀{b:List Value},Vals (a.map V.int) b->IntsAre b a:=by
 induction a with
 |nil=>intro b r;rw[qu] at r;cases r;exact .nil
 |cons n a c=>
  intro b r;rw[dJ] at r;cases r with
  |cons d f=>
   obtain⟨t,e⟩:=d;subst e;exact .cons n t (c f)
section
variable {X:Cx} {e:Expr} {te:TE} {lo hi:Option Expr} {tl th:TO} {pos p2:Pos}
def MB:PO X none Nr:=by
 intro a s b H Q I h;rw[evalPart_none];exact be #[none,H,I, .none,h]
def MC(h:PE X e te):PO X (some e) (TB te):=by
 intro a s b H Q I hw;rw[evalPart_some];refine thn (h a s b H _ I hw) λu l c=>?_;rfl';obtain⟨x,f,g,j,k⟩:=c;obtain⟨i,rfl,q⟩:=k;obtain⟨t,rfl⟩:=j;ac_rfl;exact#[some i,f,g, .int i t,q]
def Fg(X:Cx)(r:V->Option Int->Option Int->Hp->VK->Prop):Prop:=
 ∀(a:List (Addr×Obj))(s:Shared)(b:St)(H:Hp)(x:V)(v c d:Value)(lo f:Option Int)(g:Addr)(Q:VK),Inv X a b H s->RelV x v->s.heap.IsSliceOf g c d .none->IsPart c lo->IsPart d f->r x lo f H Q->
  ∃T id,typeLookup (.type T) "__getitem__"=pure (some (.builtin id))/\s.TypeIs v T/\wpAny (model X.prog X.w) X.A (getItem v (.ref g)) (EP X a b Q) X.xe s
def Fg.or(h:Fg X r)(n:Fg X c):Fg X (λx lo b H Q=>r x lo b H Q\/c x lo b H Q):=by
 intro a s d H x v f g lo b i Q I j k l m q
 rcases q with q|q
 .exact h a s d H x v f g lo b i Q I j k l m q
 .exact n a s d H x v f g lo b i Q I j k l m q
def tSl(r:V->Option Int->Option Int->Hp->VK->Prop)(b:TE)(c d:TO):TE:=λa H Q=>b a H λx f=>c a f λl g=>d a g λu h=>r x l u h Q
theorem JE(m:Fg X r)(n:PE X e te)(o:PO X lo tl)(p:PO X hi th):PE X (.Subscript e (.Slice lo hi none p2) pos) (tSl r te tl th):=by
 intro a s d H Q I h;refine Subscript_ (thn (n a s d H _ I h) λv t f=>?_);rfl';obtain⟨x,y,z,A,B⟩:=f;ac_rfl;refine wpAny_Slice (thn (o a t d y _ z B) λi C #[l,E,F,G,J]=>thn (p a C d E _ F J) λj c f=>?_);rfl';obtain⟨u,k,L,M,N⟩:=f;ac_rfl;rw[evalPart_none];refine be ?_;have O:Inv X a d k {c with heap:=c.heap.push {cls:= .type "slice",data:= .fields [i,j, .none].toArray}}:=L.kept (t':=c.toks) λb U q=>AC _ q
 obtain⟨T,id,P,R,S⟩:=m a {c with heap:=c.heap.push {cls:= .type "slice",data:= .fields [i,j, .none].toArray}} d k x v i j l u c.heap.objs.size Q O A (Heap.IsSliceOf.new ..) G M N
 exact tail_any (ops:= [.ref c.heap.objs.size,v]) R P S (by with_unfolding_all rfl)
def vw(a:List V)(lo b:Option Int):List V:=(a.drop (HT.cj a.length 0 lo)).take (HT.cj a.length a.length b-HT.cj a.length 0 lo)
def sN(a:List V)(lo b:Option Int):(vw a lo b).length<=a.length:=by
 unfold vw;rw[i6,u9];lia
def WD(K:ab):V->Option Int->Option Int->Hp->VK->Prop:=λx lo c H Q=>∃a b,x= .ref a/\fY K H a b/\
 ¬(HT.cj b.length 0 lo=0/\HT.cj b.length b.length c=b.length)/\∀p,H p=none->Q (.ref p) (upd H p (.tup (vw b lo c)))
def Pq:Fg X (WD X.K):=by
 intro i s w H x v y z lo f A Q I l m n p h;rfl';obtain⟨a,d,rfl,u,hw,q⟩:=h;subst l;obtain⟨g,r,j,k⟩:=I.tuple u;have c:g.toArray.size=d.length:=by rw[cH];exact r.length.symm
 ac_rfl;exists "tuple",_,abm.lookup,j.typeIs;refine HT.rS j m n p (by rw[c];exact hw) ?_ (by rw[c];exact k)
 rw[c];refine#[.ref s.heap.objs.size,_,I.laid (t':=s.toks) (o:= .tup (vw d lo f)) (λb C q=>AC _ q) (bo _) ?_,rfl,q _ (I.hok.fresh (bo _))];exact#[m8 (sN d lo f) k,_,(r.drop (HT.cj d.length 0 lo)).take (HT.cj d.length d.length f-HT.cj d.length 0 lo),IsTup.new _ _]
def Ta(K:ab):R2:=λx y H Q=>∃a b d c,x= .ref a/\y= .ref b/\fY K H a d/\fY K H b c/\d≠ []/\d.length+c.length<=sizeLine/\
 (c= []->Q (.ref a) H)/\(c≠ []->∀p,H p=none->Q (.ref p) (upd H p (.tup (d++c))))
def Vals.yz(r:Vals a b):b= []↔a= []:=by
 cases r with
 |nil=>simp
 |cons _ _=>simp
def Mh:OpR X (binaryOp .Add) (Ta X.K):=by
 intro f s F H x y v u Q I i j h;rfl';obtain⟨a,b,l,m,rfl,rfl,n,p,r,g,t,A⟩:=h;subst i;subst j;obtain⟨B,d,C,_⟩:=I.tuple n;obtain⟨J,c,E,_⟩:=I.tuple p;ac_rfl;refine HT.Kv C E (λz=>r (d.yz.mp z)) (λz=>#[.ref a,H,I,rfl,t (c.yz.mp z)]) (λz=>?_) (by rw[<-d.length,<-c.length];exact g)
 refine#[.ref s.heap.objs.size,_,I.laid (t':=s.toks) (o:= .tup (l++m)) (λb L q=>AC _ q) (bo _) ?_,rfl,A (λw=>z (c.yz.mpr w)) _ (I.hok.fresh (bo _))];exact#[by rw[cD];exact g,_,d.append c,IsTup.new _ _]
end
def iw(n:Nat)(i:Int):Option Nat:=if 0<=i then(if i<n then some i.toNat else none) else if-(n:Int)<=i then some (i+n).toNat else none
def eG{a:Type}(b:List a)(i:Int):Option a:=(iw b.length i).bind λj=>b[j]?
def yf(h:iw n i\j):seqIndex? i n\j/\j<n/\-(n:Int)<=i/\i<n:=by
 unfold iw at h
 by_cases b:0<=i
 .rw[ir b] at h
  by_cases a:i<n
  .rw[ir a] at h
   have e:i.toNat=j:=Do h;exact#[by rw[seqIndex_of b a,e],(),(),a]
  .rw[mo a] at h;cases h
 .rw[mo b] at h
  by_cases a: -(n:Int)<=i
  .rw[ir a] at h
   have e:(i+n).toNat=j:=Do h;exact#[by rw[seqIndex_neg () a,e],(),a,()]
  .rw[mo a] at h;cases h
def C1(h:eG a i\v):∃j,seqIndex? i a.length\j/\a[j]?\v/\j<a.length/\-(a.length:Int)<=i/\i<a.length:=by
 unfold eG at h;cases e:iw a.length i with
 |none=>rw[e] at h;cases h
 |some j=>
  rw[e] at h;obtain⟨c,d,f,g⟩:=yf e;exact#[j,c,h,d,f,g]
def pz{j:Nat}(h:a[j]?\v):eG a (j:Int)\v:=by
 have c:j<a.length:=(eC.mp h).1
 have e:iw a.length (j:Int)\j:=by
  unfold iw;rw[ir (),ir ()];simp
 unfold eG;rw[e];exact h
def oX(b:Expr):Prop:=∀o i,subscripted b false o i=operate [o,i] (getItem o i)
def Fb(X:Cx)(r:R2):Prop:=
 ∀(c a:Expr)(b:List (Addr×Obj))(s:Shared)(d:St)(H:Hp)(x y:V)(v u:Value)(Q:VK),Inv X b d H s->RelV x v->RelV y u->r x y H Q->
  subscripted a false v u=operate [v,u] (getItem v u)->wpAny (model X.prog X.w) X.A (subscriptTail c a v u) (EP X b d Q) X.xe s
def Ik(X:Cx)(id:String)(r:V->List V->Hp->VK->Prop):Prop:=
 ∀(a:List (Addr×Obj))(s:Shared)(b:St)(H:Hp)(x:V)(c:List V)(v:Value)(d:List Value)(Q:VK),Inv X a b H s->RelV x v->Vals c d->r x c H Q->
  wpAny (model X.prog X.w) X.A (call (.builtin id) (v::d)) (EP X a b Q) X.xe s
section
variable {X:Cx} {a b:Expr} {ta tb:TE} {pos:Pos}
def Fb.or(h:Fb X r)(l:Fb X f):Fb X (λx y H Q=>r x y H Q\/f x y H Q):=by
 intro c d e s g H x y v u Q I i j q k
 rcases q with q|q
 .exact h c d e s g H x y v u Q I i j q k
 .exact l c d e s g H x y v u Q I i j q k
def B8(d:Fb X r)(e:PE X a ta)(f:PE X b tb)(g:oX b):PE X (.Subscript a b pos) (Nt r ta tb):=by
 intro c s i H Q I h;exact Subscript_ (Kr e f I h λv u j x y k l m n q=>d a b c j i k x y v u Q l m n q (g _ _))
def Ww(K:ab):R2:=λx y H Q=>∃p c i v,x= .ref p/\y= .int i/\cJ K H p c/\eG c i\v/\Q v H
def Wx(K:ab):R2:=λx y H Q=>∃p c i v,x= .ref p/\y= .int i/\fY K H p c/\eG c i\v/\Q v H
def yg:Fb X (Ww X.K):=by
 intro e f c s m H x y v u Q I B C h n;rfl';obtain⟨p,S,i,z,rfl,rfl,F,G,q⟩:=h;subst B;obtain⟨t,rfl⟩:=C;obtain⟨g,r,k,T⟩:=I.list F;obtain⟨j,d,J,U,L,M⟩:=C1 G;obtain⟨w,o,N⟩:=r.get J;have O:=r.length;have Y:=qK;have fin:EP X c m Q w s:=#[z,H,I,N,q];ac_rfl
 by_cases A:0<=i
 .have l:i.toNat=j:=by
   rw[seqIndex_of A M] at d;exact Do d
  exact item_listR k.isList A () (by rw[l];simpa using o) fin n
 .have l:(i+(g.toArray.size:Int)).toNat=j:=by
   rw[seqIndex_neg () L] at d
   rw[cH,<-O];exact Do d
  exact acn (x:=w) k.isList.typeIs slot_list_getitem.lookup
   (wpAny_getItem_list_neg (Q:=λr P=>r=w/\EP X c m Q r P) k.isList () (by rw[cH]<;>lia) () (by rw[l];simpa using o) #[rfl,fin]) n
def HC:Fb X (Wx X.K):=by
 intro d e c s f H x y v u Q I k l h m;rfl';obtain⟨p,N,i,z,rfl,rfl,o,A,q⟩:=h;subst k;obtain⟨t,rfl⟩:=l;obtain⟨B,r,g,O⟩:=I.tuple o;obtain⟨j,C,E,P,R,S⟩:=C1 A;obtain⟨w,F,G⟩:=r.get E;have J:=r.length;have T:=qK;have fin:EP X c f Q w s:=#[z,H,I,G,q];ac_rfl
 exact acn (x:=w) g.typeIs slot_tuple_getitem.lookup
  (getItem_tuple (j:=j) (Q:=λr L=>r=w/\EP X c f Q r L) g () () (by rw[cH,<-J];exact C) (~~~F) #[rfl,fin]) m
def Ef(c:List Value)(n j:Nat)(u:Value):Obj.mapSeq (·.setIfInBounds j u) {cls:= .type "list",data:= .seq c.toArray n}={cls:= .type "list",data:= .seq (c.set j u).toArray n}:=by
 simp[Obj.mapSeq]
theorem Inv.lst{c:List (Addr×Obj)}{d:St}{H:Hp}{s:Shared}{p:Addr}{xs:List V}(I:Inv X c d H s)(h:H p\(.lst xs)):
  ∃(its:List Value)(n:Nat),Vals xs its/\s.heap.get? p\{cls:= .type "list",data:= .seq its.toArray n}/\xs.length<=sizeLine:=by
 obtain⟨z,its,n,r,e⟩:=I.hok p _ h;exact#[its,n,r,e,z]
def Inv.OG{its c:List Value}(I:Inv X d j H s)(h:H p\(.lst xs))
  (l:s.heap.get? p\{cls:= .type "list",data:= .seq its.toArray n}) (k:f {cls:= .type "list",data:= .seq its.toArray n}={cls:= .type "list",data:= .seq c.toArray i}) (r:Vals g c) (m:g.length<=sizeLine) (t:Nat):
  Inv X d j (upd H p (.lst g)) {s with heap:=s.heap.update p f,toks:=t}:=by
 have e:(s.heap.update p f).get? p\{cls:= .type "list",data:= .seq c.toArray i}:=by
  rw[SL f l (by rw[k]<;>rfl),k]
 refine I.write (x:=p) (e:=p) (by rw[h];trivial) (.inl rfl) (λb u o q=>(KM _ _ (Ne.symm o)).trans q) #[_,e] ?_
 exact#[m,c,i,r,e]
def Tc:V->V->V->Hp->(Hp->Prop)->Prop:=λo i v H Q=>∃p c k j,o= .ref p/\i= .int k/\H p\(.lst c)/\iw c.length k\j/\Q (upd H p (.lst (c.set j v)))
def set_list:P5 X Tc:=by
 intro c s A H o i v M N u Q I B C E h;rfl';obtain⟨p,G,k,j,rfl,rfl,m,J,q⟩:=h;subst B;obtain⟨t,rfl⟩:=C;obtain⟨d,n,r,f,L⟩:=I.lst m;obtain⟨e,P,w,x⟩:=yf J;have g:=r.length;have R:=qK;ac_rfl
 have y:Inv X c A (upd H p (.lst (G.set j v))) {s with heap:=s.heap.update p (Obj.mapSeq (·.setIfInBounds j u))}:=
  I.OG m f (Ef d n j u) (r.set E j) (by rw[fj];exact L) s.toks
 by_cases z:0<=k
 .have l:k.toNat=j:=by
   rw[seqIndex_of z x] at e;exact Do e
  exact PySem.W.ki_setAt f z () (by rw[cH,<-g];exact x) (by rw[l];exact#[_,y,q])
 .have l:(k+(d.toArray.size:Int)).toNat=j:=by
   rw[seqIndex_neg () w] at e
   rw[cH,<-g];exact Do e
  exact PySem.W.ki_setBack f () (by rw[cH,<-g];exact w) () (by rw[l];exact#[_,y,q])
def zW(lo c:Option Int)(n:Nat):(sliceBounds lo c none n).1=((HT.cj n 0 lo:Nat):Int)/\(sliceBounds lo c none n).2.1=((HT.cj n n c:Nat):Int)/\(sliceBounds lo c none n).2.2=1:=by
 refine#[?_,?_,rfl]
 .cases lo with
  |none=>simp[sliceBounds,HT.cj]
  |some i=>
   simp only[sliceBounds,HT.cj,Option.getD_none,show(1:Int)>0 by decide,aaw]
   by_cases h:i<0
   .simp only[h,aaw]<;>lia
   .simp only[h,SC]<;>lia
 .cases c with
  |none=>simp[sliceBounds,HT.cj]
  |some i=>
   simp only[sliceBounds,HT.cj,Option.getD_none,show(1:Int)>0 by decide,aaw]
   by_cases h:i<0
   .simp only[h,aaw]<;>lia
   .simp only[h,SC]<;>lia
def y4(c:List Value)(lo d:Option Int):slicePick c.toArray lo d none=((c.drop (HT.cj c.length 0 lo)).take (HT.cj c.length c.length d-HT.cj c.length 0 lo)).toArray:=by
 obtain⟨e,f,g⟩:=zW lo d c.toArray.size;unfold slicePick;rw[e,f,g];simp only[sliceRange_one,pick_run,cH]<;>rfl
def WC(K:ab):V->Option Int->Option Int->Hp->VK->Prop:=λx lo d H Q=>∃a c,x= .ref a/\cJ K H a c/\∀p,H p=none->Q (.ref p) (upd H p (.lst (vw c lo d)))
def M3:Fg X (WC X.K):=by
 intro f s u H x v w y lo e z Q I i j k l h;rfl';obtain⟨a,c,rfl,n,q⟩:=h;subst i;obtain⟨p,r,g,t⟩:=I.list n;have d:=r.length;ac_rfl;exists "list",_,slot_list_getitem.lookup,g.isList.typeIs;refine wpAny_getItem_list_slice g.isList j k l .none (by simp) ?_ (by rw[cH]<;>lia)
 rw[y4,<-d];refine#[.ref s.heap.objs.size,_,I.laid (t':=s.toks) (o:= .lst (vw c lo e)) (λb B q=>AC _ q) (bo _) ?_,rfl,q _ (I.hok.fresh (bo _))];exact#[m8 (sN c lo e) t,_,0,(r.drop (HT.cj c.length 0 lo)).take (HT.cj c.length c.length e-HT.cj c.length 0 lo),Gc _ rfl]
def iE:V->Bool
 | .bC=>true
 | .bl _=>true
 | .int _=>true
 | .str _=>true
 |_=>false
def xN:V->V->Bool
 | .bC, .bC=>true
 | .bl a, .bl b=>a==b
 | .bl a, .int b=>(if a then 1 else 0)==b
 | .int a, .bl b=>a==(if b then 1 else 0)
 | .int a, .int b=>a==b
 | .str a, .str b=>a==b
 |_,_=>false
def N3{A:Around}{s:Shared}{y x:V}{u v:Value}(ry:RelV y u)(rx:RelV x v)(fy:iE y=true)(fx:iE x=true):SeqAt.EqAt A s u v (xN y x):=by
 cases y with
 |bC=>
  cases ry;cases x with
  |bC=>cases rx;exact SeqAt.EqAt.same _
  |bl b=>cases rx;exact SeqAt.EqAt.none_bool b
  |int b=>obtain⟨t,rfl⟩:=rx;exact SeqAt.EqAt.none_int b t
  |str b=>obtain⟨t,rfl⟩:=rx;exact SeqAt.EqAt.none_str b t
  |_=>exact absurd (show false=true from fx) dA
 |bl a=>
  subst ry;cases x with
  |bC=>cases rx;exact SeqAt.EqAt.bool_none a
  |bl b=>cases rx;exact SeqAt.EqAt.bool_bool a b
  |int b=>obtain⟨t,rfl⟩:=rx;exact SeqAt.EqAt.bool_int a b t
  |str b=>obtain⟨t,rfl⟩:=rx;exact SeqAt.EqAt.bool_str a b t
  |_=>exact absurd (show false=true from fx) dA
 |int a=>
  obtain⟨t',rfl⟩:=ry;cases x with
  |bC=>cases rx;exact SeqAt.EqAt.int_none a t'
  |bl b=>cases rx;exact SeqAt.EqAt.int_bool a t' b
  |int b=>obtain⟨t,rfl⟩:=rx;exact SeqAt.EqAt.int_int a t' b t
  |str b=>obtain⟨t,rfl⟩:=rx;exact SeqAt.EqAt.int_str a t' b t
  |_=>exact absurd (show false=true from fx) dA
 |str a=>
  obtain⟨t',rfl⟩:=ry;cases x with
  |bC=>cases rx;exact SeqAt.EqAt.str_none a t'
  |bl b=>cases rx;exact SeqAt.EqAt.str_bool a t' b
  |int b=>obtain⟨t,rfl⟩:=rx;exact SeqAt.EqAt.str_int a t' b t
  |str b=>obtain⟨t,rfl⟩:=rx;exact SeqAt.EqAt.str_str a t' b t
  |_=>exact absurd (show false=true from fx) dA
 |_=>exact absurd (show false=true from fy) dA
def qR(x:V)(u:Value):Bool:=match u with
 | .none=>xN .bC x
 | .bool b=>xN (.bl b) x
 | .int i _=>xN (.int i) x
 | .str z _=>xN (.str z) x
 |_=>false
def wV{x y:V}{u:Value}(r:RelV y u)(f:iE y=true):qR x u=xN y x:=by
 cases y with
 |bC=>cases r;rfl
 |bl b=>cases r;rfl
 |int i=>obtain⟨t,rfl⟩:=r;rfl
 |str z=>obtain⟨t,rfl⟩:=r;rfl
 |_=>exact absurd (show false=true from f) dA
theorem pq:∀{c:List V}{d:List Value},Vals c d->c.all iE=true->d.any (qR x)=c.any λy=>xN y x
 |_,_, .nil,_=>rfl
 |y::c,u::d, .cons r t,f=>by
  rw[vf,wc] at f;rw[abb,abb,wV r f.1,pq t f.2]
theorem kn(g:RelV x v)(h:iE x=true):∀{d:List V}{e:List Value},Vals d e->d.all iE=true->∀u∈e,SeqAt.EqAt A s u v (qR x u)
 |_,_, .nil,_=>λu c=>by cases c
 |y::d,u::e, .cons r t,f=>λi c=>by
  rw[vf,wc] at f
  rcases bH.mp c with rfl|c
  .rw[wV r f.1];exact N3 r g f.1 h
  .exact kn g h t f.2 i c
def Oq(x:V)(c:List V):Bool:=c.any λy=>xN y x
def Tb(K:ab)(d:Bool):R2:=λx y H Q=>∃p c,y= .ref p/\(cJ K H p c\/fY K H p c)/\iE x=true/\c.all iE=true/\Q (.bl (if d then !Oq x c else Oq x c)) H
def Gr:OpR X (compareOp .In) (Tb X.K false):=by
 intro f s m H x y v u Q I g j h;rfl';obtain⟨p,o,rfl,d,i,fs,q⟩:=h;subst j;ac_rfl
 rcases d with d|d
 .obtain⟨c,r,e,l⟩:=I.list d
  refine SeqAt.in_listAt (qR x) e.isList (λw hw=>kn g i r fs w (~~~hw)) #[.bl _,H,I,rfl,?_]
  rw[show c.toArray.any (qR x)=c.any (qR x) by simp,pq r fs]
  exact q
 .obtain⟨c,r,e,l⟩:=I.tuple d
  refine SeqAt.in_tupleAt (qR x) e (λw hw=>kn g i r fs w (~~~hw)) #[.bl _,H,I,rfl,?_]
  rw[show c.toArray.any (qR x)=c.any (qR x) by simp,pq r fs]
  exact q
def zV:OpR X (compareOp .NotIn) (Tb X.K true):=by
 intro f s m H x y v u Q I g j h;rfl';obtain⟨p,o,rfl,d,i,fs,q⟩:=h;subst j;ac_rfl
 rcases d with d|d
 .obtain⟨c,r,e,l⟩:=I.list d
  refine SeqAt.notIn_listAt (qR x) e.isList (λw hw=>kn g i r fs w (~~~hw)) #[.bl _,H,I,rfl,?_]
  rw[show c.toArray.any (qR x)=c.any (qR x) by simp,pq r fs]
  exact q
 .obtain⟨c,r,e,l⟩:=I.tuple d
  refine SeqAt.notIn_tupleAt (qR x) e (λw hw=>kn g i r fs w (~~~hw)) #[.bl _,H,I,rfl,?_]
  rw[show c.toArray.any (qR x)=c.any (qR x) by simp,pq r fs]
  exact q
def zF:cw X (.builtin "len") (λj H Q=>∃p d,j= [.ref p]/\(cJ X.K H p d\/fY X.K H p d)/\Q (.int d.length) H):=by
 intro k s o H j t Q I r h;rfl';obtain⟨p,d,rfl,e,q⟩:=h;obtain⟨u,rfl,m⟩:=vals1 r;subst m;have w:=qK;ac_rfl
 rcases e with e|e
 .obtain⟨f,g,i,n⟩:=I.list e
  have c:=g.length;exact Calls.call_len_list i.isList (by simp only[cH]<;>lia) #[.int d.length,H,I.tok _,#[s.toks+1,by rw[cH,c]],q]
 .obtain⟨f,g,i,n⟩:=I.tuple e
  have c:=g.length;exact len_tuple i (by simp only[cH]<;>lia) #[.int d.length,H,I.tok _,#[s.toks+1,by rw[cH,c]],q]
def qV:cw X (.type "list") (λB H Q=>∃p f,B= [.ref p]/\(cJ X.K H p f\/fY X.K H p f)/\∀l,H l=none->Q (.ref l) (upd H l (.lst f))):=by
 intro j s E H B G Q I r h;obtain⟨p,f,rfl,k,q⟩:=h;obtain⟨u,rfl,F⟩:=vals1 r;subst F
 have fin:∀(c:List Value),Vals f c->f.length<=sizeLine->∀(d:Heap)(g:Nat),(∀b C,s.heap.get? b\C->d.get? b\C)->
   d.get? s.heap.objs.size\{cls:= .type "list",dict:=none,data:= .seq c.toArray g,slots:= #[]}->EP X j E Q (.ref s.heap.objs.size) {s with heap:=d}:=λc i m d g t e=>
  #[.ref s.heap.objs.size,_,I.laid (t':=s.toks) t (bo _) (show dN X.prog X.w _ d _ (.lst f) from#[m,c,g,i,e]),rfl,q _ (I.hok.fresh (bo _))]
 rcases k with k|k
 .obtain⟨c,i,x,m⟩:=I.list k
  have v:=i.length;obtain⟨o,y,z,n,A⟩:=x.isList;exact call_list_seq p (.inl rfl) y z A (λd g t e=>fin c i m d g t e) (by simp only[cH]<;>lia)
 .obtain⟨c,i,x,m⟩:=I.tuple k
  have v:=i.length;obtain⟨o,y,z,n,A⟩:=x;exact call_list_seq p (.inr rfl) y z A (λd g t e=>fin c i m d g t e) (by simp only[cH]<;>lia)
def PU(K:ab)(T:String)(x:V)(H:Hp):Prop:=match x with
 | .str _=>T="str"
 | .int _=>T="int"
 | .ref p=>(T="list"/\∃d,cJ K H p d)\/(T="tuple"/\∃o,K.lookup p\o/\o.cls= .type "tuple"/\o.dict=none)\/
   (T="dict"/\((∃c,H p\(.dK c))\/∃c,H p\(.dT c)))\/(T="set"/\∃S n,H p\(.set S n))
 |_=>False
theorem Ie(I:Inv X g q H s)(r:RelV x v)(h:PU X.K T x H):
  s.TypeIs v T/\∀a,v= .ref a->∃l,s.heap.get? a\l/\l.dict=none:=by
 cases x with
 |str z=>
  obtain⟨t,rfl⟩:=r;cases(show T="str" from h);exact#[typeIs_str s z t,λ_ e=>nomatch e]
 |int i=>
  obtain⟨t,rfl⟩:=r;cases(show T="int" from h);exact#[typeIs_int s i t,λ_ e=>nomatch e]
 |ref p=>
  subst r
  rcases h with ⟨rfl,B,u⟩ | ⟨rfl,o,d,w,j⟩ | ⟨rfl,d⟩ | ⟨rfl,S,n,d⟩
  .obtain⟨y,_,m,_⟩:=I.list u
   refine#[m.isList.typeIs,λa e=>?_];cases e;obtain⟨o,n,e,c,j,_⟩:=m;exact#[o,e,j]
  .refine#[#[o,I.jO p o d,w],λa e=>?_]
   cases e;exact#[o,I.jO _ o d,j]
  .have z:∃o,s.heap.get? p\o/\o.ExactDict:=by
    rcases d with ⟨A,d⟩ | ⟨A,d⟩
    .obtain⟨_,_,_,_,o,_,_,e,f,_⟩:=I.hok p _ d
     exact#[o,e,f]
    .obtain⟨_,_,_,_,o,_,_,e,f,_⟩:=I.hok p _ d
     exact#[o,e,f]
   obtain⟨o,e,f⟩:=z;refine#[#[o,e,f.1],λa k=>?_];cases k;exact#[o,e,f.2.1]
  .obtain⟨o,_,_,_,e,f,_⟩:=I.hok p _ d
   refine#[#[o,e,f.1],λa k=>?_];cases k;exact#[o,e,f.2.1]
 |_=>exact False.elim h
def WQ(K:ab)(T:String)(r:V->List V->Hp->VK->Prop)(d:TE):TE:=λe H Q=>d e H λx c=>PU K T x c/\r x [] c Q
def tBM(K:ab)(T:String)(r:V->List V->Hp->VK->Prop)(e:TE)(t:TA):TE:=λc H Q=>e c H λx d=>PU K T x d/\t c d λf g=>r x f g Q
variable {o e:Expr} {es:List Expr} {to:TE} {t:TA} {name:Str} {apos bh:Pos} {T id:String} {r:V->List V->Hp->VK->Prop}
theorem HN(i:PlainAttrs T)(slot:Slot T name id)(j:typeOf (.builtin id)=pure (.type "method_descriptor"))(k:Ik X id r)(l:PE X o to)
  (m:attributeBase o name X.env (eval o X.env)=eval o X.env:=by rfl) (n:(apos.endLine==bh.line)=true:=by rfl):PE X (.Call (.Attribute o name apos) [] [] bh) (WQ X.K T r to):=by
 intro c s d H Q I h;refine wpAny_Call_method0_late m n (thn (l c s d H _ I h) λv p q=>?_);rfl';obtain⟨x,w,f,g,y,z⟩:=q;obtain⟨A,B⟩:=Ie f g y;ac_rfl;exact#[T,id,i,slot,j,A,B,aaG rfl (PySem.evalArgs_none (k c p d w x [] v [] Q f g .nil z))]
theorem yP(l:PlainAttrs T)(slot:Slot T name id)(m:typeOf (.builtin id)=pure (.type "method_descriptor"))(n:Ik X id r)(p:PE X o to)(q:PA X (e::d) t)
  (u:attributeBase o name X.env (eval o X.env)=eval o X.env:=by rfl)
  (w:((backTo f (starEach (e::d) X.env)).all (λx=>!x.1)&&(backToKw f (keywordEach [] X.env)).all (λx=>x.1.isSome)
   &&decide ((e::d).length+([]:List Keyword).length+(if ([]:List Keyword).isEmpty then 0 else 1)<30))=true:=by rfl)
  (y:(apos.endLine==f.line)=true:=by rfl) (z:starEach (e::d) X.env=(false,eval e X.env)::starEach d X.env:=by rfl) (A:(backTo f (starEach d X.env)).any (·.1)=false:=by rfl):
  PE X (.Call (.Attribute o name apos) (e::d) [] f) (tBM X.K T r to t):=by
 intro c s g H Q I h;refine aa6 u w y rfl (thn (p c s g H _ I h) λv B C=>?_);rfl';obtain⟨x,F,i,j,G,J⟩:=C;obtain⟨L,M⟩:=Ie i j G;ac_rfl;exists T,id,l,slot,m,L,M;have k:=q f c B g F _ i J;rw[z] at k ⊢;refine aaG (by show(false|| (backTo f (starEach d X.env)).any (·.1))=false;rw[A]<;>rfl) (abp ?_)
 exact thn k λN O #[P,R,S,U,Y]=>n c O g R x P v N Q S j U Y
end
def Ij(X:Cx)(id:String)(r:V->List V->Hp->VK->Prop):Prop:=
 ∀(a:List (Addr×Obj))(s:Shared)(b:St)(H:Hp)(x:V)(c:List V)(v:Value)(d:List Value)(Q:VK),Inv X a b H s->RelV x v->Vals c d->r x c H Q->
  wpAny (model X.prog X.w) X.A (call (.builtin id) (v::d)) (EP X a b Q) X.xe s
def Vals.one(h:Vals [x] a):∃u,a= [u]/\RelV x u:=by
 cases h with|cons r t=>cases t;exact#[_,rfl,r]
def Vals.two(h:Vals [x,y] a):∃u v,a= [u,v]/\RelV x u/\RelV y v:=by
 cases h with
 |cons r t=>
  obtain⟨v,rfl,q⟩:=Vals.one t;exact#[_,v,rfl,r,q]
theorem Vals.zero:∀{a:List Value},Vals [] a->a= []
 |_, .nil=>rfl
theorem Vals.dropLast(h:Vals a b):Vals a.dropLast b.dropLast:=by
 induction h with
 |nil=>exact .nil
 |cons r t c=>
  cases t with
  |nil=>exact .nil
  |cons q d=>exact .cons r c
theorem Vals.eraseIdx:∀{a:List V}{b:List Value}(i:Nat),Vals a b->Vals (a.eraseIdx i) (b.eraseIdx i)
 |_,_,_, .nil=> .nil
 |_,_,0, .cons _ t=>t
 |_,_,i+1, .cons r t=> .cons r (Vals.eraseIdx i t)
theorem Vals.rep(h:Vals a b):∀k:Nat,Vals (aj k a).flatten (aj k b).flatten
 |0=> .nil
 |k+1=>by
  rw[uf,uf,i4,i4];exact Vals.append h (Vals.rep h k)
def DB(l:List c):l.eraseIdx (l.length-1)=l.dropLast:=by
 induction l with
 |nil=>rfl
 |cons a r d=>
  cases r with
  |nil=>rfl
  |cons b r=>
   have e:(a::b::r).length-1=((b::r).length-1)+1:=by
    have f:(a::b::r).length=r.length+2:=rfl;have g:(b::r).length=r.length+1:=rfl;lia
   rw[e,CJ,d]
   all_goals rfl
theorem yi:∀(l:List a)(i:Nat),(l.eraseIdx i).length<=l.length
 | [],_=>bo _
 |_::_,0=>rN _
 |_::r,i+1=>Nat.succ_le_succ (yi r i)
theorem foldl_rep(a:List Value):∀(k:Nat)(b:List Value),
  List.foldl (λc d=>c++d) b.toArray (aj k a.toArray)=(b++(aj k a).flatten).toArray
 |0,b=>by simp
 |k+1,b=>by
  have e:b.toArray++a.toArray=(b++a).toArray:=by simp
  have f:(b++a)++(aj k a).flatten=b++(aj (k+1) a).flatten:=by
   rw[uf,i4,i5]
  rw[<-f,<-foldl_rep a k (b++a),<-e,uf,ace]
section
variable {X:Cx} {pins:List (Addr×Obj)} {σ:St} {H:Hp} {s:Shared} {l b:Addr} {xs ys zs:List V}
def Inv.Eb{its its':List Value}(I:Inv X pins σ H s)(a:H l\(.lst xs))
  (e:s.heap.get? l\{cls:= .type "list",data:= .seq its.toArray n}) (c:f its.toArray=its'.toArray) (d:Vals ys its') (g:ys.length<=sizeLine):
  Inv X pins σ (upd H l (.lst ys)) {s with heap:=s.heap.update l (Obj.mapSeq f),toks:=t'}:=by
 have q:=PySem.IsL.update e f;rw[c] at q;refine I.write (x:=l) (e:=l) (by rw[a];exact trivial) (.inl rfl) (λj u h i=>(KM s.heap (Obj.mapSeq f) (Ne.symm h)).trans i) #[_,q] ?_
 exact#[g,its',_,d,q]
def Inv.HF{its:List Value}{t':Nat}(I:Inv X pins σ H s)(a:Vals ys its)(c:ys.length<=sizeLine):
  Inv X pins σ (upd H s.heap.objs.size (.lst ys)) {s with heap:=s.heap.push {cls:= .type "list",data:= .seq its.toArray},toks:=t'}:=
 I.laid (λ_ _ q=>AC _ q) (bo _) #[c,its,0,a,Gc _ rfl]
theorem Inv.fresh(I:Inv X pins σ H s):H s.heap.objs.size=none:=I.hok.fresh (bo _)
def Inv.pM(I:Inv X pins σ H s)(a:H l\(.lst xs)):xs.length<=sizeLine/\∃(its:List Value)(n:Nat),Vals xs its/\xs.length=its.length/\s.heap.get? l\{cls:= .type "list",data:= .seq its.toArray n}:=by
 obtain⟨z,its,n,r,e⟩:=I.hok l _ a;exact#[z,its,n,r,r.length,e]
def AK(h:n<=sizeLine):Builtin.List.listTooLong n=false:=by
 unfold Builtin.List.listTooLong;exact GE ()
end
section
variable {X:Cx}
def MR:V->List V->Hp->VK->Prop:=λx b H Q=>∃l a y,x= .ref l/\b= [y]/\H l\(.lst a)/\a.length<sizeLine/\Q .bC (upd H l (.lst (a++ [y])))
def nM:Ij X "list.append" MR:=by
 intro b s j H x k v m Q I d f h;rfl';obtain⟨l,p,y,rfl,rfl,c,t,q⟩:=h;subst d;obtain⟨u,rfl,i⟩:=f.one;obtain⟨z,a,n,r,w,e⟩:=I.pM c;ac_rfl;refine aaF F.slot_list_append #[_,e,rfl] F.entry_list_append (F.args_list_append_2 _ _) (PySem.list_append l a.toArray n u (by rw[cH];lia)) #[e,?_]
 refine#[.bC,_,I.Eb (its':=a++ [u]) c e (by simp) (r.append (.cons i .nil)) ?_,rfl,q]
 rw[cD,ue];lia
def MS:V->List V->Hp->VK->Prop:=λx d H Q=>∃l b a c,x= .ref l/\d= [.ref b]/\H l\(.lst a)/\H b\(.lst c)/\a.length+c.length<=sizeLine/\Q .bC (upd H l (.lst (a++c)))
def Gg:Ij X "list.extend" MS:=by
 intro d s y H x A v B Q I g i h;obtain⟨l,b,C,E,rfl,rfl,f,j,G,q⟩:=h;cases g;obtain⟨u,rfl,k⟩:=i.one;cases k;obtain⟨z,a,n,r,J,e⟩:=I.pM f;obtain⟨L,c,m,o,M,p⟩:=I.pM j;have t:a.toArray.size+c.toArray.size<=sizeLine:=by rw[cH,cH];lia
 have w:¬(!a.toArray.isEmpty&&Builtin.List.listTooLong (a.toArray.size+c.toArray.size))=true:=by
  rw[AK t,acy];exact dA
 refine aaF F.slot_list_extend #[_,e,rfl] F.entry_list_extend (F.args_list_extend_2 _ _)
  (AutoSeq1.list_extend_list_list_0 l a.toArray n b c.toArray m w (by rw[cH];lia) ()) #[e,p,?_]
 refine#[.bC,_,I.Eb (its':=a++c) f e (by simp) (r.append o) ?_,rfl,q]
 rw[cD];lia
def WA:V->List V->Hp->VK->Prop:=λx b H Q=>∃l a y,x= .ref l/\b= []/\H l\(.lst a)/\a[a.length-1]?\y/\Q y (upd H l (.lst a.dropLast))
def OI:Ij X "list.pop" WA:=by
 intro b s t H x w v A Q I d f h;rfl';obtain⟨l,C,y,rfl,rfl,c,i,q⟩:=h;subst d;have j:=f.zero;subst j;obtain⟨z,a,n,r,k,e⟩:=I.pM c;obtain⟨u,m,o⟩:=r.get i;ac_rfl
 have p:a.toArray[a.toArray.size-1]?\u:=by
  show a.toArray[a.length-1]?\u;rw[<-gk,<-k];exact m
 refine aaF F.slot_list_pop #[_,e,rfl] F.entry_list_pop (F.args_list_pop_1 _) (MeetsSeq.list_pop_last l a.toArray n u p (by rw[cH];lia)) #[e,?_]
 refine#[y,_,I.Eb (its':=a.dropLast) c e ?_ r.dropLast ?_,o,q]
 .show a.toArray.eraseIdxIfInBounds (a.toArray.size-1)=a.dropLast.toArray
  rw[cH,abn,DB]
 .rw[List.length_dropLast]
  lia
def Ph:V->List V->Hp->VK->Prop:=λx b H Q=>∃l a i k y,x= .ref l/\b= [.int i]/\H l\(.lst a)/\-(2^63)<=i/\i<2^63/\seqIndex? i a.length\k/\a[k]?\y/\Q y (upd H l (.lst (a.eraseIdx k)))
def Jt:Ij X "list.pop" Ph:=by
 intro b s E H x G v J Q I d f h;obtain⟨l,g,i,k,y,rfl,rfl,c,j,m,o,p,q⟩:=h;cases d;obtain⟨u,rfl,A⟩:=f.one;obtain⟨t,rfl⟩:=A;obtain⟨z,a,n,r,B,e⟩:=I.pM c;obtain⟨w,hw,C⟩:=r.get p
 refine aaF F.slot_list_pop #[_,e,rfl] F.entry_list_pop (F.args_list_pop_2 _ _)
  (MeetsSeq.list_pop_at l a.toArray n i t k w (fitsIndex_both j m) (by rw[cH,<-B];exact o) (by rw[<-gk];exact hw) (by rw[cH];lia)) #[e,?_]
 refine#[y,_,I.Eb (its':=a.eraseIdx k) c e ?_ (r.eraseIdx k) ?_,C,q]
 .show a.toArray.eraseIdxIfInBounds k=(a.eraseIdx k).toArray
  rw[abn]
 .have:=yi g k
  lia
def Pf:V->List V->Hp->VK->Prop:=λx a H Q=>∃l b,x= .ref l/\a= []/\H l\(.lst b)/\Q .bC (upd H l (.lst []))
def Jr:Ij X "list.clear" Pf:=by
 intro b s i H x j v k Q I d f h;obtain⟨l,m,rfl,rfl,c,q⟩:=h;cases d;have g:=f.zero;subst g;obtain⟨z,a,n,r,o,e⟩:=I.pM c;refine aaF F.slot_list_clear #[_,e,rfl] F.entry_list_clear (F.args_list_clear_1 _) (AutoSeq1.list_clear_list_0 l a.toArray n (by rw[cH];lia)) #[e,?_]
 exact#[.bC,_,I.Eb (its':= []) (ys:= []) c e rfl .nil (fk _),rfl,q]
def Wu:R2:=λx y H Q=>∃l b a c,x= .ref l/\y= .ref b/\H l\(.lst a)/\H b\(.lst c)/\a.length+c.length<=sizeLine/\∀p,H p=none->Q (.ref p) (upd H p (.lst (a++c)))
def B7:OpR X (binaryOp .Add) Wu:=by
 intro c s t H x y v u Q I f g h;rfl';obtain⟨l,b,A,B,rfl,rfl,j,k,C,q⟩:=h;subst f;subst g;obtain⟨z,a,n,r,E,e⟩:=I.pM j;obtain⟨F,d,G,m,J,o⟩:=I.pM k;ac_rfl;refine PySem.P.add_list e o ?_ (by rw[cH,cH];lia)
 have p:a.toArray++d.toArray=(a++d).toArray:=by simp
 rw[p];exact#[.ref _,_,I.HF (t':=s.toks) (r.append m) (by rw[cD];lia),rfl,q _ I.fresh]
def WB:R2:=λx y H Q=>∃l k a,x= .ref l/\y= .int k/\H l\(.lst a)/\-(2^63)<=k/\k<2^63/\a.length*k.toNat<=sizeLine/\
 ∀p,H p=none->Q (.ref p) (upd H p (.lst (aj k.toNat a).flatten))
def len_rep(a:List b)(k:Nat):(aj k a).flatten.length=k*a.length:=by
 induction k with
 |zero=>simp
 |succ k c=>rw[uf,i4,cD,c,Nat.succ_mul,ab1]
def HM:OpR X (binaryOp .Mult) WB:=by
 intro g s O H x y v u Q I j o h;rfl';obtain⟨l,k,R,rfl,rfl,w,A,B,i,q⟩:=h;subst j;obtain⟨t,rfl⟩:=o;obtain⟨z,b,n,r,C,e⟩:=I.pM w;have c:b.toArray.size*k.toNat<=sizeLine:=by rw[cH,<-C];exact i
 ac_rfl
 have E:¬b.toArray.size*k.toNat>(2^63-1) / 8:=by
  have:(sizeLine:Nat)<=(2^63-1) / 8:=∅
  lia
 have G:¬(!Builtin.List.listFitsIndex k)=true:=by
  rw[fitsIndex_both A B];exact dA
 have J:¬Builtin.List.listTooLong (b.toArray.size*k.toNat)=true:=by
  rw[AK c];exact dA
 have L:List.foldl (λd f=>d++f) #[] (aj (if b.toArray.isEmpty=true then 0 else k.toNat) b.toArray)=(aj k.toNat b).flatten.toArray:=by
  have M:∀m:Nat,List.foldl (λd f=>d++f) #[] (aj m b.toArray)=(aj m b).flatten.toArray:=λm=>by
   have:=foldl_rep b m []
   rw[oK] at this;exact this
  rw[M];cases b with
  |nil=>simp
  |cons a S=>rw[mo (by simp)]
 refine wpAny_binaryOp_repeat_ref (T:="list") (U:="int") ∅ #[_,e,rfl] (λN=>typeIs_int N k t) noFill_list_mul F.fills_int_mul F.slot_int_rmul repeat_list F.slot_int_index.lookup
  (aaF F.slot_int_rmul (typeIs_int s k t) F.entry_int_rmul (F.args_int_rmul_2 _ _) (int___rmul___int_list k t l b.toArray n)
   #[e,rfl,#[_,e,rfl],aaF F.slot_list_mul #[_,e,rfl] F.entry_list_mul (F.args_list_mul_2 _ _) (AutoListH.list___mul___list_int_3 l b.toArray n k t G E J) #[e,?_]])
 rw[L];exact#[.ref _,_,I.HF (t':=s.toks) (r.rep k.toNat) (by rw[len_rep,Nat.mul_comm];exact i),rfl,q _ I.fresh]
end
section
variable {prog:Program} {w:World} {A:Around} {E:Value->Shared->Prop} {s:Shared}
end
section
variable {X:Cx}
end
end L2
namespace TQ
open PySem PySem.W PySem.Calls PyProof.Rows
def uE:∀(c:List Int)(d:List Value),WellAll P h d (c.map WData.int)->IntsAre d c:=by
 intro c
 induction c with
 |nil=>
  intro d w;rw[qu] at w;cases w;exact .nil
 |cons n c e=>
  intro d w;rw[dJ] at w;cases w with
  |cons a b=>
   cases a;exact .cons _ _ (e _ b)
theorem GF{l:OpenLaw}(m:l.most\n) 
  (i:l.row.toRowW.claim.pre args=true) (o:WellAll P h c args):
  ∃a j b,c= [Value.ref a]/\args= [WData.list (b.map WData.int)]/\h.get? a\{cls:= .type "list",data:= .seq j.toArray}/\IntsAre j b/\b.length<=n:=by
 have p:WShape.hasAll [] args [.list .int]=true:=(pre_splitW i).1;have k:l.pre.holds [] {args:=args}=true:=(pre_splitW i).2;obtain⟨d,r,rfl,s,t⟩:=hasAllW_cons p;obtain rfl:=hasAllW_nil t;obtain⟨A,rfl,u⟩:=hasW_list s;obtain⟨b,rfl⟩:=items_int u
 have e:b.length<=n:=by
  unfold OpenLaw.pre at k
  have f:(WTm.not (.lt (.lit (.int (n:Int))) (.len (.arg 0)))).holds [] {args:= [.list (b.map .int)]}=true:=by
   have f:=(holds_andW k).1;rw[m] at f;exact f
  have g:=condW_of f (w_not (w_lt w_lit (w_len_list (w_arg rfl))));rw[aI] at g;refine lP λq=>?_;have v:(n:Int)<((b.length:Nat):Int):=()
  first
   | (rw[B v] at g;exact absurd g ∅)
   | (simp at g;lia)
 cases o with
 |cons w x=>
  cases x;cases w with
  |list y z=>exact#[_,_,b,rfl,rfl,y,uE b _ z,e]
def Gx(l:OpenLaw)(args:List WData):l.row.toRowW.claim.post args (.bool true) args=true:=
 postW_of (r:=l.row.toRowW) (X:=(true==true))
  (show WShape.has [] (.bool true) .bool=true by first|rfl|decide|simp[WShape.has,WShape.arms,WShape.armsAll])
  (show(WTm.eq .res (.lit (.bool true))).value [] {args:=args,res:=some (.bool true),after:=args}\(.bool (true==true)) from w_eq_bool (w_res rfl) w_lit) rfl
def Be{l:OpenLaw} 
  (C:l.most\n) (E:d.params.defaults= [])
  (call:∀(w:World)(e b:Shared)(m u:Str->Option Value)(j:Addr)(o:Obj)(v p g:Value)(a:Addr)(i:List Value)(s:List Int),
   Ground q c [] x w e m u b.heap->y w b.heap->
   b.heap.get? j\o->o.data= .func (docDef d.name d.params d.body d.scope v p g)->b.heap.CodeRec p d.name->m d.name\(.ref j)->
   b.heap.get? a\{cls:= .type "list",data:= .seq i.toArray}->IntsAre i s->s.length<=n->b.gens= #[]->
   codeAny (model l.prog w) callerA (.call (.ref j) #[[.ref a],[]]) (λr t=>r= .ok (.ret (.bool true))/\OldK b.heap t.heap/\t.os=b.os/\AllBare t.gens) b):
  WalkO q c x y l.row.toRowW d [] (λf i=>cy f i):=by
 intro w e b m u G Y j o v p g F kV H I J z L M A B as N O VA P Zp;obtain rfl:F= .none:=Dflts.none z E;obtain rfl:kV= .none:=Dflts.noKw z;rfl';obtain⟨a,i,s,rfl,rfl,R,h,k⟩:=GF C N P;ac_rfl;refine enter_call (aaM (call w e b m u j o v p g a i s G Y H (fd_plain I) J L R h k M) λr t S=>?_);obtain⟨rfl,T,U,X⟩:=S;exact#[.inl #[.bool true, .bool true,[],rfl,λ_=>rfl, .bool true,Gx l _,λ_=>#[List.Pairwise.nil,λ_ Z=>(nomatch Z)]],T,U,X]
section
variable {prog:Program} {w:World} {A:Around} {E:Value->Shared->Prop} {s:Shared} {K:Frag}
end
end TQ
namespace L2
open PySem PySem.Spec PyProof.Rows
theorem og:∀{a:List Value}{b:List Int},IntsAre a b->Vals (b.map V.int) a
 |_,_, .nil=> .nil
 |_,_, .cons n t h=> .cons #[t,rfl] (og h)
def Kh(H:Hp):Prop:=∀b,H b=none\/∃o a,H b\(.sU o (.lst a))
theorem Ji{P:Program}{w:World}{K:ab}{l E:Str->Option Value}{L:uo}{k:Nat}{G a:Addr}{M:FuncData}{x:Str}{N:Sp}{c:Shared}{j:List Value}{p:List Int}
  (O:K.In c.heap) (Q:c.heap.Ns mainGlobals l) (f:c.heap.Ns builtinsNs E) (YY:∀x:Str,x≠"__name__"->E x=bootBuiltins x) (Vr:c.heap.NoLimit) (hg:c.gens= #[])
  (B:c.heap.get? a\{cls:= .type "list",data:= .seq j.toArray}) (R:IntsAre j p) (S:p.length<=sizeLine) (hr:dq k callerA)
  (F:∀base:Heap,K.In base->base.Ns mainGlobals l->FnOk P w K l base L k G M [x] N) (RZ:∀(s:Shared)(u:Value),BindsTo s M #[[u],[]] [(x,u)])
  (D1:∀H:Hp,Kh H->cJ K H a (p.map V.int)->N [.ref a] H (λv _=>v= .bl true) λ_ _ _=>False)
  (RS:∀H e g,L [] H c (λ_ _ _=>False) e g->False):
  codeAny (model P w) callerA (.call (.ref G) #[[.ref a],[]]) (λr g=>r= .ok (.ret (.bool true))/\OldK c.heap g.heap/\g.os=c.os/\AllBare g.gens) c:=by
 have T:=og R;have V6:=R.length
 have i:∀H:Hp,Kh H->cJ K H a (p.map V.int)->j4 P w H c.heap->(∀b,H b≠none->b=a)->(H a≠none->K.lookup a=none)->
   codeAny (model P w) callerA (.call (.ref G) #[[.ref a],[]]) (λr g=>r= .ok (.ret (.bool true))/\OldK c.heap g.heap/\g.os=c.os/\AllBare g.gens) c:=by
  intro H U hS hok X hK;have Y:∀{b:Addr}{o:Obj},c.heap.get? b\o->H b=none->(sZ c.heap H).get? b\o:=λe n=>Jb e n
  have Mb:∀{b:Addr}{o:Obj}{t:Array DictEntry}{y:Nat},c.heap.get? b\o->o.data= .dict t y->H b=none:=λ {b o t y} e d=>by
   cases q:H b with
   |none=>rfl
   |some u=>
    have I:b=a:=X b (by rw[q];simp)
    subst I;rw[B] at e;cases e;have d':Data.seq j.toArray _=Data.dict t y:=d;cases d'
  have C:∀{b:Addr}{m:Str->Option Value},c.heap.Ns b m->(sZ c.heap H).Ns b m:=λ {b m} #[o,t,y,e,d,r]=>#[o,t,y,Y e (Mb e d),d,r]
  have Z:K.In (sZ c.heap H):=λb o e=>Y (O b o e) (by
   cases q:H b with
   |none=>rfl
   |some u=>
    have I:b=a:=X b (by rw[q];simp)
    subst I;rw[hK (by rw[q];simp)] at e;cases e)
  have hM:Mod K l (sZ c.heap H):=#[Z,C Q,#[E,C f,YY],let #[mc,h1,h2]:=Vr;#[mc,C h1,h2]];have e0:Env0 P w K l (sZ c.heap H) callerA [] c H:=#[rfl,hM,λb o e=>Mf e,Nat.le_of_eq (FO _ _),trivial,λb f=>absurd (show b∈([]:List Addr) from f) (by simp),hok, .of_eq hg]
  refine aaM ((F _ Z (C Q)).run callerA [] c H #[[.ref a],[]] [.ref a] [.ref a] _ _ hr e0 (RZ c (.ref a)) (.cons rfl .nil) (D1 H U hS)) λr g h=>?_;cases r with
  |error e=>exact(RS H e g h).elim
  |ok fl=>
   cases fl with
   |next=>exact False.elim h
   |brk=>exact False.elim h
   |cont=>exact False.elim h
   |ret u=>
    rfl';obtain⟨v,H',os,bare,un,Vx,r',q⟩:=h;have q':v= .bl true:=q;subst q';ac_rfl;obtain rfl:u=Value.bool true:=r';refine#[rfl,OldK.of_keep λb o e=>?_,os,bare];cases q:H b with
    |none=>exact un.keep b o e q (by intro z;exact absurd (show b∈([]:List Addr) from z) (by simp)) (by simp)
    |some u=>
     rcases U b with z| ⟨ob,xs,z⟩
     .rw[q] at z;cases z
     .have z2:=un.frzs b ob _ z
      obtain⟨e1,_⟩:=hok b _ z;obtain⟨e2,_⟩:=Vx b _ z2;rw[e] at e1;cases e1;exact e2
 cases J:K.lookup a with
 |some o=>
  have e:=O a o J;rw[B] at e;cases Do e;refine i (λ_=>none) (λ_=> .inl rfl) (.inr #[_,j.toArray,_,J,rfl,rfl,rfl,by rw[cH,V6];exact S,by simpa using T]) (λb u z=>by have A:(none:Option HO)\u:=z;cases A) (λb z=>absurd rfl z) λz=>absurd rfl z
 |none=>
  refine i (λb=>if b=a then some (.sU {cls:= .type "list",data:= .seq j.toArray} (.lst (p.map V.int))) else none) (λb=>?_) (.inl (.inr #[{cls:= .type "list",data:= .seq j.toArray},ir rfl])) (λb u z=>?_) (λb z=>?_) λ_=>J
  .by_cases f:b=a
   .exact .inr #[_,_,ir f]
   .exact .inl (mo f)
  .by_cases f:b=a
   .have A:=(ir f).symm.trans z
    obtain rfl:=Do A;subst f;exact#[B,by rw[aI];exact S,j,_,T,B]
   .have A:=(mo f).symm.trans z
    cases A
  .by_cases f:b=a
   .exact f
   .exact absurd (mo f) z
def Nw{l:b5}{n k:Nat}{q:Program}{i:List Str}{I:(Str->Option Value)->Heap->Prop}{A:World->Heap->Prop}{d:DefRec}{K:Params->ab}{CX:World->uo}{sp:World->Sp}{x:Str}
  (J:l.most\n) (L:n<=sizeLine) (M:d.params.defaults= []) (N:dq k callerA)
  (O:∀(w:World)(h:Heap),A w h->(K w.params).In h)
  (F:∀(w:World)(m:Str->Option Value)(r:Addr)(h:Heap),(K w.params).In h->h.Ns mainGlobals m->m d.name\(.ref r)->
   ∃y:FuncData,(∀(s:Shared)(u:Value),BindsTo s y #[[u],[]] [(x,u)])/\
    ∀base:Heap,(K w.params).In base->base.Ns mainGlobals m->FnOk l.prog w (K w.params) m base (CX w) k r y [x] (sp w))
  (P:∀(w:World)(H:Hp)(a:Addr)(t:List Int),t.length<=n->Kh H->cJ (K w.params) H a (t.map V.int)->sp w [.ref a] H (λv _=>v= .bl true) λ_ _ _=>False)
  (Q:∀(w:World)(H:Hp)(s:Shared)(e:Value)(z:Shared),CX w [] H s (λ_ _ _=>False) e z->False):
  dg q i I A l.row.toRowW d [] (λf B=>cy f B):=by
 refine TQ.Be J M λw C p m mb r o pm cd R a B t G Y ho hd eH S U j c X=>?_;have E:=O w _ Y;obtain⟨y,Z,hF⟩:=F w m r _ E G.T.g S;exact Ji E G.T.g G.T.b G.T.builtins G.T.nolimit X U j (m8 c L) N hF Z (λH hO hS=>P w H a t c hO hS) λH e z=>Q w H p e z
def inClass(s:Stmt)(j:Nat):Stmt:=match s with
 | .ClassDef _ _ _ body _ _ _ _ _ _ _=>body.getD j (.Pass #[0,0,0,0])
 |_=> .Pass #[0,0,0,0]
def iA(s:Stmt):Arguments:=match s with
 | .FunctionDef _ a _ _ _ _ _ _ _ _=>a
 |_=>{posonlyargs:= [],args:= [],vararg:=none,kwonlyargs:= [],kw_defaults:= [],kwarg:=none,defaults:= []}
def fG(s:Stmt):List Stmt:=match s with
 | .FunctionDef _ _ b _ _ _ _ _ _ _=>b
 |_=> []
def aw(s:Stmt):Scope:=match s with
 | .FunctionDef _ _ _ _ _ _ sc _ _ _=>sc
 |_=>{kind:= .function,names:= [],isGenerator:=false,isCoroutine:=false}
abbrev b9:uo:=λ_ _ _ _ _ _=>False
abbrev E0:XK:=λ_ _ _=>False
def uR:Passes b9 X E0:=λ_ _ _ _ _ _ _ h=>h.elim
structure zB (K:ab) (x qual:Str) (st:Stmt) (f:Addr) (fd:FuncData):Prop where
 ex:∃(oc:Value)(od:Option Addr)(kV doc pm:Value)(an:Option Addr)(bE ct:Value)(Et:Array (Option Value)),
  fd=bd x qual (iA st) (fG st) (aw st) .none kV doc pm an bE ct/\K.lookup f\#[oc,od, .func fd,Et]/\bc K bE qual=true
 kp:am K (.ref f)=true
section
variable {P:Program} {w:World} {K:ab} {mg:Str->Option Value} {base:Heap}
def zB.ok{x a:Str}{st:Stmt}{f:Addr}{e:FuncData}{N c:List Str}{k:Nat}{d:Sp}(F:zB K x a st f e)(S:aN N c (aw st))(len:∀vs H Q E,d vs H Q E->vs.length=c.length)
  (g:∀(b:Value)(A:Around)(outer:List Env)(s:Shared)(H:Hp)(vs:List V)(Q:VK)(E:XK),dq k (A.deeper (envOfC a (aw st) s.heap.objs.size f b))->d vs H Q E->
   ∃t,mz (vx b9 P w K mg base N a (aw st) f b A outer s H E).mO (fG st) t/\t {nx:=λ_ i=>Q .bC i,rt:=Q} (start N vs) H):FnOk P w K mg base b9 (k+1) f e c d:=by
 rfl';obtain⟨u,v,kV,l,y,z,b,B,C,rfl,m,n⟩:=F.ex;ac_rfl;refine RN m n S len λA outer s H vs Q E o p=>?_;obtain⟨t,h,q⟩:=g b A outer s H vs Q E o p;exact#[t,h.mO,q]
def zB.binds{st:Stmt}{ps:List Str}(F:zB K x a st f j)
  (h:∀(kV b c:Value)(d:Option Addr)(e g:Value)(i:List Value),i.length=ps.length->bindArgs (bd x a (iA st) (fG st) (aw st) .none kV b c d e g) #[i,[]]=pure (ps.zip i)):Binds K j ps []:=by
 rfl';obtain⟨m,n,kV,b,c,d,e,g,o,rfl,p,q⟩:=F.ex;ac_rfl;exact .all (h kV b c d e g)
def sV{x a:Str}{st:Stmt}{f:Addr}{i:Value}{j e:Option Addr}{m:Array (Option Value)}{kV b g d h:Value}(l:K.lookup f\#[i,j, .func (bd x a (iA st) (fG st) (aw st) .none kV b g e d h),m])
  (c:bc K d a=true) (k:am K (.ref f)=true):zB K x a st f (bd x a (iA st) (fG st) (aw st) .none kV b g e d h):=#[#[i,j,kV,b,g,e,d,h,m,rfl,l,c],k]
end
def cL(h:n<=1000):n<sizeLine:=Nat.lt_of_le_of_lt h ∅
section
variable {X:Cx}
def pv(i:Nat)(b:X.N[i]?\x:=by rfl)(c:kZ X.env.scope x:=by subst_eqs)(d:(x==("__debug__":Str))=false:=by decide)
  (e:(x==("__classdict__":Str))=false:=by decide):PE X (.Name x a) (QU i):=Cb b c d e
end
def bK{A B:Prop}(h:B):if false=true then A else B:=by
 rw[mo dA];exact h
def c9{A B:Prop}(h:A):if true=true then A else B:=by
 rw[ir rfl];exact h
def bx(H a:Hp):Prop:=∀b o,H b\o->a b\o
def bx.refl(H:Hp):bx H H:=λ_ _ h=>h
def bx.trans{H d e:Hp}(a:bx H d)(b:bx d e):bx H e:=λc o h=>b c o (a c o h)
def bx.free(e:bx H a)(h:a l=Option.none):H l=Option.none:=by
 cases q:H l with
 |none=>rfl
 |some o=>
  rw[e l o q] at h;cases h
def jV(env:Env):List (Str×NameKind)->List (Str×Addr)->List (Str×Addr)
 | [],a=>a
 | (n,k)::r,a=>if k==NameKind.free then jV env r ((n,(env.cells.lookup n).getD 0)::a) else jV env r a
def i9(h:∀x∈b.names,x.2= .free->∃c,env.cells.lookup x.1\c):closureFor b env=pure (jV env b.names []):=by
 simp only[closureFor]
 have j:∀(names:List (Str×NameKind))(d:List (Str×Addr)),(∀x∈names,x.2= .free->∃c,env.cells.lookup x.1\c)->
   (forIn names d λx e=>if (x.snd==NameKind.free)=true then(do let a <-cellOf env x.fst;pure (ForInStep.yield ((x.fst,a)::e))) else pure (ForInStep.yield e))=(pure (jV env names d):Sem _):=by
  intro names
  induction names with
  |nil=>intro d _;rfl
  |cons x r l=>
   obtain⟨n,k⟩:=x;intro d h;rw[List.forIn_cons,jV];have f:=λd=>l d λy m=>h y (cI _ m);cases g:k==NameKind.free with
   |false=>
    simp only[g,gW,SC];exact f d
   |true=>
    have o:k= .free:=by simpa using g
    obtain⟨c,i⟩:=h (n,k) bP o;simp only at i;simp only[aaw,cellOf,i];exact f _
 rw[j _ _ h];rfl
theorem gu:∀(names:List (Str×NameKind))(a:List (Str×Addr)),(∀x∈names,x.2= .free->∃c,env.cells.lookup x.1\c)->(∀x c,a.lookup x\c->env.cells.lookup x\c)->
  ∀x c,(jV env names a).lookup x\c->env.cells.lookup x\c
 | [],a,_,b=>b
 | (n,k)::r,a,h,b=>by
  rw[jV]
  split
  .rename_i g
   refine gu r _ (λy d=>h y (cI _ d)) λx c e=>?_;obtain⟨l,f⟩:=h (n,k) bP (~~~g)
   rw[ui] at e
   split at e
   .rename_i i
    have j:x=n:=by simpa using i
    subst j;simp only at f;rw[f] at e ⊢;exact e
   .exact b x c e
  .exact gu r a (λy d=>h y (cI _ d)) b
theorem qC{env:Env}:∀(names:List (Str×NameKind))(a:List (Str×Addr))(x:Str),((x,NameKind.free)∈names\/∃c,a.lookup x\c)->∃c,(jV env names a).lookup x\c
 | [],a,x,h=>by
  rcases h with h|h
  .cases h
  .exact h
 | (n,k)::r,a,x,h=>by
  rw[jV]
  split
  .rename_i b
   refine qC r _ x ?_
   by_cases e:x=n
   .subst e;exact .inr #[(env.cells.lookup x).getD 0,by simp[ui]]
   .have ne:(x==n)=false:=by simpa using e
    rcases h with h| ⟨c,h⟩
    .rcases bH.mp h with z|z
     .cases z;exact absurd rfl e
     .exact .inl z
    .exact .inr #[c,by rw[ui,ne];exact h]
  .rename_i b
   refine qC r a x ?_
   rcases h with h|h
   .rcases bH.mp h with z|z
    .cases z;exact absurd rfl b
    .exact .inl z
   .exact .inr h
def mW(src:List (Option Nat))(a:St):St:=src.map λo=>o.bind λi=>(a[i]?).bind id
def dW(a:Scope)(b:List Str):List (Option Nat)->List Str->Prop
 | [],[]=>True
 |none::r,_::n=>dW a b r n
 |some i::r,x::n=>b[i]?\x/\a.names.lookup x\.free/\dW a b r n
 |_,_=>False
theorem dW.len:∀{src:List (Option Nat)}{NC:List Str},dW a b src NC->src.length=NC.length
 | [],[],_=>rfl
 |none::r,_::n,h=>by have:=dW.len (src:=r) (NC:=n) h;simp[this]
 |some i::r,_::n,h=>by have:=dW.len (src:=r) (NC:=n) h.2.2;simp[this]
 | [],_::_,h=>h.elim
 |none::_,[],h=>h.elim
 |some _::_,[],h=>h.elim
theorem dW.at{a:Scope}:∀{src:List (Option Nat)}{NC:List Str}{j i:Nat}{x:Str},dW a d src NC->src[j]?\(some i)->NC[j]?\x->d[i]?\x/\a.names.lookup x\.free
 | [],[],_,_,_,_,h,_=>by simp at h
 |none::r,_::n,0,_,_,_,h,_=>by simp at h
 |none::r,_::n,j+1,i,x,h,b,c=>dW.at (src:=r) (NC:=n) (j:=j) h (~~~b) (~~~c)
 |some k::r,y::n,0,i,x,h,b,c=>by
  have e:k=i:=by simpa using b
  have f:y=x:=by simpa using c
  subst e f;exact#[h.1,h.2.1]
 |some k::r,_::n,j+1,i,x,h,b,c=>dW.at (src:=r) (NC:=n) (j:=j) h.2.2 (~~~b) (~~~c)
 | [],_::_,_,_,_,h,_,_=>h.elim
 |none::_,[],_,_,_,h,_,_=>h.elim
 |some _::_,[],_,_,_,h,_,_=>h.elim
structure cS (X:Cx) (scope:Scope):Prop where
 kind:scope.kind= .function
 names:∀x∈scope.names,x.2= .local->scope.names.lookup x.1\.local
 nocell:∀x∈scope.names,x.2≠ .cell
 free:∀x∈scope.names,x.2= .free->X.env.kindOf x.1\.cell\/X.env.kindOf x.1\.free
theorem jQ{env:Env}:∀(names:List (Str×NameKind))(x:Str),
  (names.map λ(n,k)=>if (k==NameKind.free&&env.scope.kind== .function&&env.kindOf n==some .cell) then(n,NameKind.cell) else(n,k)).lookup x=
   (names.lookup x).map λk=>if (k==NameKind.free&&env.scope.kind== .function&&env.kindOf x==some .cell) then NameKind.cell else k
 | [],_=>rfl
 | (n,k)::r,x=>by
  have c:=jQ (env:=env) r x;show bj x ((if (k==NameKind.free&&env.scope.kind== .function&&env.kindOf n==some .cell)=true then(n,NameKind.cell) else(n,k))::_)=_;cases b:x==n with
  |true=>
   have e:x=n:=by simpa using b
   subst e
   by_cases a:(k==NameKind.free&&env.scope.kind== .function&&env.kindOf x==some .cell)=true
   .rw[ir a,ui,ui]
    simp only[b];show some NameKind.cell\(if _ then _ else _);rw[ir a]
   .rw[mo a,ui,ui]
    simp only[b];show some k\(if _ then _ else _);rw[mo a]
  |false=>
   by_cases a:(k==NameKind.free&&env.scope.kind== .function&&env.kindOf n==some .cell)=true
   .rw[ir a];simp only[ui,b];exact c
   .rw[mo a];simp only[ui,b];exact c
def mem_lookup{names:List (Str×NameKind)}{x:Str}{k:NameKind}(h:names.lookup x\k):(x,k)∈names:=aas h
def cV(X:Cx)(a:Scope)(NC:List Str)(ex:List Addr)(s:Shared)(H:Hp):Cx:=
 {X with N:=NC,s₀:=s,H₀:=H,env:=compEnvC a (jV X.env a.names []) s.heap.objs.size X.env,outer:=X.stack,stack:=X.stack,ex:=ex,fn:=λ_=>false,pn:= [],xe:=λ_ _=>False}
section
variable {X:Cx} {pins:List (Addr×Obj)} {σ:St} {H:Hp} {s:Shared} {scope:Scope} {NC:List Str} {ex:List Addr} {src:List (Option Nat)}
theorem cS.cells(c:cS X scope)(ok:X.Ok):∀x∈scope.names,x.2= .free->∃c,X.env.cells.lookup x.1\c:=λx a e=>ok.has x.1 (c.free x a e)
def cS.Sy(c:cS X scope)(h:(compEnvC scope (jV X.env scope.names []) C X.env).kindOf x\k)(i:k= .cell\/k= .free):scope.names.lookup x\.free:=by
 have a:(relabel scope X.env).names.lookup x\k:=h;unfold relabel at a;rw[jQ] at a;cases e:scope.names.lookup x with
 |none=>rw[e] at a;cases a
 |some b=>
  have g:=c.nocell _ (mem_lookup e);rw[e] at a;have f:(if (b==NameKind.free&&X.env.scope.kind== .function&&X.env.kindOf x==some .cell) then NameKind.cell else b)=k:=Do a
  by_cases d:b= .free
  .rw[d]
  .have j:(b==NameKind.free)=false:=by simpa using d
   rw[j,acx,acx,mo dA] at f
   rcases i with z|z
   .rw[f] at g;exact absurd z g
   .rw[f] at d;exact absurd z d
def KA(I:Inv X pins σ H s)(c:cS X scope)(f:∀b∈ex,fS X pins H b)(g:∀b∈ex,b<s.heap.objs.size):(cV X scope NC ex s H).Ok where
 mod:=I.ok.mod
 kind:=c.kind
 glob:=I.ok.glob
 blt:=I.ok.blt
 above:=bo _
 inj:=λx y d i j=>I.ok.inj x y d (gu _ _ (c.cells I.ok) (λ_ _ z=>by cases z) x d i) (gu _ _ (c.cells I.ok) (λ_ _ z=>by cases z) y d j)
 has:=λx k=>qC _ _ x (.inl (mem_lookup (by rcases k with h|h<;>exact c.Sy h (by simp))))
 cab:=λ_ _ z=>by cases z
 hd:=I.ok.hd
 frames:=I.ok.frames
 stk:= .inl rfl
 exf:=λb a=>#[bY (g b a),λx d e=>(f b a).2.2.2.2.1 x d (gu _ _ (c.cells I.ok) (λ_ _ z=>by cases z) x d e)]
 bs:=I.bs
 bsz:=m8 I.ok.bsz I.sz
 noex:=λb o e a=>by
  rcases(f b a).2.2.2.1 with z|z
  .exact I.ok.noex b o e z
  .exact absurd (i3 (Fk e) (m8 I.ok.bsz z)) (qz _)
 exfs:=λb a z=>(bH.mp (I.CA b z)).elim (f b a).2.1 (f b a).2.2.1
 funs:=I.stack
 frf:=I.ET
theorem Aa{tk:Nat}(I:Inv X pins σ H s)(c:cS X scope)(A:dW scope X.N src NC)(E:∀b∈ex,fS X pins H b)(F:∀b∈ex,b<s.heap.objs.size)
  (G:h.Ns s.heap.objs.size (λ_=>none)) (J:Heap.SameBut s.heap.objs.size (s.heap.push C) h):
  Inv (cV X scope NC ex s H) [] (mW src σ) H {s with heap:=h,toks:=tk}:=by
 have f:∀b o,s.heap.get? b\o->h.get? b\o:=λb o e=>J.extBut b o (bY (Fk e)) (AC _ e);have t:∀x d,(jV X.env scope.names []).lookup x\d->X.env.cells.lookup x\d:=λx d=>gu _ _ (c.cells I.ok) (λ_ _ z=>by cases z) x d
 have a:∀d v,s.heap.IsCell d v->h.IsCell d v:=λd v #[o,L,k]=>#[o,f d o L,k];refine#[KA I c E F,rfl,I.bare,Un.kept f,#[_,G,λj x v M O U=>?_],λx d e=>?_,I.hok.fresh (bo _),λx d e=>I.freeC x d (t x d e),λp P=>absurd (show p∈([]:List (Addr×Obj)) from P) (by simp),I.hok.kept f,?_]
 .have g:(mW src σ)[j]?\(some v):=O
  unfold mW at g;rw[cG] at g;cases w:src[j]? with
  |none=>rw[w] at g;cases g
  |some o=>
   rw[w] at g;cases o with
   |none=>cases g
   |some i=>
    have n:(σ[i]?).bind id\v:=Do g
    have Q:σ[i]?\(some v):=by
     cases q:σ[i]? with
     |none=>rw[q] at n;cases n
     |some z=>rw[q] at n;exact GM some n
    rfl';obtain⟨S,y⟩:=A.at w M;have B:=c.free _ (mem_lookup y) rfl;obtain⟨m,Z,T⟩:=I.loc;obtain⟨u,r,l⟩:=T i x v S Q (B.elim (λz=> .inr (.inl z)) (λz=> .inr (.inr z)));ac_rfl;refine#[u,r, .inr #[?_,?_]]
    .show(relabel scope X.env).names.lookup x=_\/(relabel scope X.env).names.lookup x=_
     unfold relabel;rw[jQ,y]
     by_cases z:(NameKind.free==NameKind.free&&X.env.scope.kind== .function&&X.env.kindOf x==some .cell)=true
     .left;simp only[Option.map_some,z,aaw]
     .right;simp only[Option.map_some,z];rfl
    .obtain⟨d,k⟩:=qC (env:=X.env) scope.names [] x (.inl (mem_lookup y))
     exists d,k
     rcases l with ⟨l,_⟩ | ⟨_,d',e,z⟩
     .exfalso;rcases B with z|z<;>(rw[l] at z;cases z)
     .rw[t x d k] at e;cases e;exact a d _ z
 .obtain⟨v,z⟩:=I.cell x d (t x d e)
  exact#[v,a d v z]
 .show(mW src σ).length=NC.length
  unfold mW;rw[aI];exact A.len
def comp_back(I:Inv X pins σ H s)(p:∀b∈ex,fS X pins H b)(J:Inv (cV X scope NC ex s H) m l g c)
  (r:Heap.SameBut s.heap.objs.size c.heap i):Inv X pins σ g {c with heap:=i}:=by
 have h:∀b o,b≠s.heap.objs.size->c.heap.get? b\o->i.get? b\o:=λb o a e=>r.extBut b o a e;have ne:∀b o,s.heap.get? b\o->b≠s.heap.objs.size:=λb o e=>bY (Fk e);have u:=J.base;refine I.Q8 (ch:=ex) (show c.os=s.os from J.os) #[λb o e n a f=>h b o (ne b o e) (u.keep b o e n a f),λb o e n a f=>?_,u.free,λb o e f=>?_,u.tups,u.frzs,u.tbls] ?_ J.bare λb a=>?_
 .obtain⟨t,q⟩:=u.slot b o e n a f
  exact#[t,h b _ (ne b o e) q]
 .obtain⟨j,q⟩:=u.there b o e f
  exact#[j,h b j (ne b o e) q]
 .intro b o e
  have k:∀b o,g b\o->b≠s.heap.objs.size:=λb o e z=>by
   have:=J.free
   rw[z] at e;have w:g s.heap.objs.size=none:=this;rw[w] at e;cases e
  refine(J.hok b o e).vW (λd v x q=>h d v ?_ q) (λ_ q=>q) λ_ _ q=>q
  rcases x with z|z
  .rw[z];exact k b o e
  .exact k d _ z
 .obtain⟨_,y,_,A,B,C⟩:=p b a
  exact#[A,y,B,C]
end
def ni(X:Cx)(b:List Expr)(t:TT):Prop:=
 ∀(a:List (Addr×Obj))(s:Shared)(d:St)(H:Hp)(Q:Bool->Hp->Prop),Inv X a d H s->t d H Q->
  wpAny (model X.prog X.w) X.A (forIn b true λc r=>if r=true then do let ok <-isTrue c X.env (eval c X.env);pure (ForInStep.yield ok) else pure (ForInStep.yield r)) (TP X a d Q) X.xe s
def W4:TT:=λ_ H Q=>Q true H
def MI:ni X [] W4:=λ_ _ _ H _ I h=>wpAny_tests_nil #[H,I,h]
def MJ(h:PT X c t):ni X [c] t:=λa s b H Q I q=>wpAny_tests_one (h a s b H Q I q)
def Xs(J:It)(g:TG)(o:TT)(p:TE)(D:Addr)(Q:VK)(q:St)(H:Hp):Prop:=
 ∃W:Nat->Nat->St->Hp->Prop,(∃m,W 0 m q H)/\∀i m e a,W i m e a->
  (J.stop i a/\Q (.ref D) a)\/
  (J.go i a/\∃N:St->Hp->Prop,(∀f h,N f h->∃j,j<m/\W (i+1) j f h)/\∀x k,J.yld i a x k->g x e k λc r=>o c r λb l=>
   if b=true then p c l λv n=>∃d,n D\(.lst d)/\d.length<sizeLine/\N c (upd n D (.lst (d++ [v]))) else N c l)
def PJ(c:TI)(g:TG)(d:TT)(e:TE)(src:List (Option Nat)):TE:=λa H Q=>c a H λJ b=>∀D,b D=none->Xs J g d e D Q (mW src a) (upd b D (.lst []))
section
variable {X:Cx} {elt iter tg:Expr} {ifs:List Expr} {scope:Scope} {pos:Pos} {wi:TI} {g:TG} {tt:TT} {te:TE} {src:List (Option Nat)} {NC:List Str}
theorem vv{RR:Value->Addr->Result->Shared->Prop}{Q:VK}
  (hc:X.calm=true) (c:cS X scope) (fq:dW scope X.N src NC) (I2:Inv X j σ I B) (T:Turn X.prog X.w X.K tg J F it Z) (kR:Z 0 B.heap) (f2:∀b∈F,fS X j I b)
  (hg:∀s H,PG (cV X scope NC F s H) tg g) (ht:∀s H,ni (cV X scope NC F s H) ifs tt) (he:∀s H,PE (cV X scope NC F s H) elt te)
  (hW:∀D,I D=none->∃W:Nat->Nat->St->Hp->Prop,(∃m,W 0 m (mW src σ) (upd I D (.lst [])))/\∀i m gG I,W i m gG I->
   (J.stop i I/\Q (.ref D) I)\/
   (J.go i I/\∃N:St->Hp->Prop,(∀G a,N G a->∃m',m'<m/\W (i+1) m' G a)/\∀x U,J.yld i I x U->g x gG U λgH H4=>tt gH H4 λb H5=>
    if b=true then te gH H5 λv H6=>∃ys,H6 D\(.lst ys)/\ys.length<sizeLine/\N gH (upd H6 D (.lst (ys++ [v]))) else N gH H5))
  (Ly:∀D C U G a M,Inv X j σ U C->(∀b∈F,fS X j U b)->Inv (cV X scope NC F C U) [] G a M->Q (.ref D) a->RR (.ref D) C.heap.objs.size (.ok .next) M):
  wpAny (model X.prog X.w) X.A (newList []) (λacc EU=>wpAny (model X.prog X.w) X.A (newFunctionEnv scope X.env.globals (jV X.env scope.names []) [] X.env.qual none .none (some X.env)) (λpC zf=>
   codeAny (model X.prog X.w) X.A (.compStart (.ListComp elt [#[tg,iter,ifs,0]] scope pos) 0 (.ref it) acc {pC with scope:=relabel scope X.env}) (RR acc pC.locals) zf) E EU) E B:=by
 rfl';obtain⟨W,⟨m0,w0⟩,turn⟩:=hW B.heap.objs.size I2.fresh;have I3:Inv X j σ (upd I B.heap.objs.size (.lst [])) {B with heap:=B.heap.push {cls:= .type "list",data:= .seq ([]:List Value).toArray}}:=I2.HF (its:= []) (t':=B.toks) .nil (fk _)
 ac_rfl
 have SD:∀b∈F,b<B.heap.objs.size:=λb l=>by
  obtain⟨o,e,_⟩:=T.obj _ _ kR b l;exact Fk e
 have f3:∀b∈F,fS X j (upd I B.heap.objs.size (.lst [])) b:=λb l=>#[by rw[bf (bY (SD b l))];exact(f2 b l).1,(f2 b l).2]
 refine Os ?_
 suffices key:∀C:Shared,Inv X j σ (upd I B.heap.objs.size (.lst [])) C->(∀b o,B.heap.get? b\o->C.heap.get? b\o)->
   wpAny (model X.prog X.w) X.A (newFunctionEnv scope X.env.globals (jV X.env scope.names []) [] X.env.qual none .none (some X.env)) (λpC zf=>
    codeAny (model X.prog X.w) X.A (.compStart (.ListComp elt [#[tg,iter,ifs,0]] scope pos) 0 (.ref it) (.ref B.heap.objs.size) {pC with scope:=relabel scope X.env}) (RR (.ref B.heap.objs.size) pC.locals) zf) E C from
  key _ I3 λb o e=>AC _ e
 intro C I3 TH;have wJ:Z 0 C.heap:=T.keep _ _ _ kR λb _ o e=>TH b o e
 have Gb:∀b∈F,b<C.heap.objs.size:=λb l=>by
  obtain⟨o,e,_⟩:=T.obj _ _ wJ b l;exact Fk e
 generalize YU:upd I B.heap.objs.size (.lst [])=U at I3 f3 w0;refine wpAny_newFunctionEnv c.nocell (by intro y hy;simp at hy) (λh1 BB BG=>?_) c.kind
 have I4:=Aa (src:=src) (NC:=NC) (ex:=F) (tk:=C.toks+([]:List (Str×Value)).length) I3 c fq f3 Gb BB BG;have Nk:Z 0 h1:=T.keep _ _ _ wJ λb l o e=>BG.extBut b o (bY (Gb b l)) (AC _ e);generalize L:cV X scope NC F C U=k at I4
 have R:∀{a:Hp},(∀b∈F,a b=none)->∀b∈F,fS k [] a b:=λ {a} hn b l=>by
  subst L;refine#[hn b l,bY (Gb b l),λz=>?_, .inl l,λx d e=>?_,λp hp=>absurd (show p∈([]:List (Addr×Obj)) from hp) (by simp)]
  .exact(I4.ok.exfs b l) z
  .exact(I4.ok.exf b l).2 x d e
 have loop:codeAny (model X.prog X.w) X.A (.compLoop (.ListComp elt [#[tg,iter,ifs,0]] scope pos) 0 (.ref it) (.ref B.heap.objs.size) k.env) (RR (.ref B.heap.objs.size) C.heap.objs.size)
   {C with heap:=h1,toks:=C.toks+([]:List (Str×Value)).length}:=by
  refine acF rfl (λn M=>∃i G a,Inv k [] G a M/\Z i M.heap/\(∀b∈F,a b=none)/\W i n G a) (λn M hI=>?_) m0 #[0,_,_,I4,Nk,λb l=>(f3 b l).1,w0];obtain⟨i,G,a,I5,wK,zJ,w5⟩:=hI;show wpAny _ X.A ((compTurn (.ListComp elt [#[tg,iter,ifs,0]] scope pos) 0 (.ref it) (.ref B.heap.objs.size) k.env).onRaise (λx=>do noteFrame x k.env;theTreesLotGoes x)) _ _ M
  refine wpAny_noted ?_;rw[compTurn_list]
  have mO:∀{α:Type}{t:Sem α}{Q:α->Shared->Prop}{E:Value->Shared->Prop}{s:Shared},wpAny (model k.prog k.w) k.A t Q k.xe s->wpAny (model X.prog X.w) X.A t Q E s:=λ {α t Q E s} h=>by
   subst L;exact wpAny_mono h (λ_ _ q=>q) λ_ _ f=>f.elim
  have IY:k.calm=true:=by subst L;exact hc
  have eP:k.prog=X.prog:=by subst L;rfl
  have ew:k.w=X.w:=by subst L;rfl
  have eK:k.K=X.K:=by subst L;rfl
  have eA:k.A=X.A:=by subst L;rfl
  have R7:PG k tg g:=by subst L;exact hg _ _
  have Si:ni k ifs tt:=L▸ht _ _;have R4:PE k elt te:=L▸he _ _;refine wpAny_bind (aax (wpAny_bind ?_))
  rcases turn i n G a w5 with ⟨stop,qn⟩ | ⟨go,N,hN,step⟩
  .have hd:=T.done k eP ew eK IY i [] M G a (notedBy (model X.prog X.w) X.A k.env λe M=>RR (.ref B.heap.objs.size) C.heap.objs.size (.error e) M) I5 (R zJ) wK stop
   rw[eA] at hd;refine thn hd λr s6 O=>?_;obtain⟨hr,I6⟩:=O;subst hr;refine be ?_;subst L;exact Ly _ C U G a s6 I3 f3 I6 qn
  .have hd:=T.item k eP ew eK IY i [] M G a (notedBy (model X.prog X.w) X.A k.env λe M=>RR (.ref B.heap.objs.size) C.heap.objs.size (.error e) M) I5 (R zJ) wK go
   rw[eA] at hd;refine thn hd λr s6 O=>?_;rfl';obtain⟨u,hr,h6⟩:=O;ac_rfl;subst hr;refine wpAny_bind (thn h6 λ_ s7 O=>?_);rfl';obtain⟨x,H7,I7,r7,y7,y9,Lr⟩:=O;ac_rfl;have Ke:=I7.pinned (R Lr) (T.obj _ _ y9)
   have again:∀{S:St}{Y:Hp}{s8:Shared},Inv k ([]++nT F s7.heap) S Y s8->N S Y->∃m,m<n/\∃i G a,Inv k [] G a s8/\Z i s8.heap/\(∀b∈F,a b=none)/\W i m G a:=λ {S Y s8} I8 n8=>by
    obtain⟨m',hm,w8⟩:=hN S Y n8;refine#[m',hm,i+1,S,Y,I8.ku,T.keep _ _ _ y9 λb l o e=>(I8.pin (b,o) (di _ (di _ (fu l e)))).1,λb l=>?_,w8];obtain⟨o,e,d⟩:=T.obj _ _ y9 b l;exact(I8.pin (b,o) (di _ (di _ (fu l e)))).2.1
   refine wpAny_bind (mO (thn (R7 _ s7 G H7 x u _ Ke r7 (step x H7 y7)) λ_ s8 O=>?_));rfl';obtain⟨S,Y,I8,q8⟩:=O;ac_rfl;refine wpAny_bind (mO (thn (Si _ s8 S Y _ I8 q8) λb s9 O=>?_));obtain⟨H9,I9,q9⟩:=O;cases b with
   |false=>
    rw[mo dA] at q9;exact be #[L▸rfl,again I9 q9]
   |true=>
    rw[ir rfl] at q9;refine wpAny_bind (wpAny_bind (mO (thn (R4 _ s9 S H9 _ I9 q9) λy Pn O=>?_)));rfl';obtain⟨v,NG,QW,S8,ys,hD,hz,S0⟩:=O;ac_rfl;refine wpAny_bind (mO (thn (nM _ Pn S NG (.ref B.heap.objs.size) [v] _ [y] (λ_ a=>N S a) QW rfl (.cons S8 .nil) #[_,ys,v,rfl,rfl,hD,hz,S0]) λ_ MY O=>?_));rfl';obtain⟨_,Kc,E8,_,MQ⟩:=O;ac_rfl;exact be (be #[L▸rfl,again E8 MQ])
 subst L;exact aco loop (T.self _ 0 _ _ _ Nk loop)
def Ms(j:X.calm=true)(c:cS X scope)(k:dW scope X.N src NC)(l:PI X tg iter wi)
  (n:∀b s H,PG (cV X scope NC b s H) tg g) (o:∀b s H,ni (cV X scope NC b s H) ifs tt) (p:∀b s H,PE (cV X scope NC b s H) elt te)
  (r:∀x,foldedSetIterable iter X.env x=pure x:=by intro _;rfl):PE X (.ListComp elt [#[tg,iter,ifs,0]] scope pos) (PJ wi g tt te src):=by
 intro a s f H Q I h;rw[eval_ListComp];refine aaO (use:=none) rfl r (i9 (c.cells I.ok)) c.kind c.names (thn (l a s f H _ I h) λv R t=>thn t λS U u=>?_);rfl';obtain⟨Z,d,tn,J,H2,rfl,z,T,B,E,F⟩:=u;ac_rfl;refine vv (RR:=λe C=>compPost (model X.prog X.w) X.A X.xe none (EP X a f Q) e C) (Q:=Q) j c k z T B E (n d) (o d) (p d) F ?_;intro D s3 H3 aQ G s' L M i q;obtain⟨m,O,_⟩:=i.loc;exact#[m,O,λh' P=>#[.ref D,G,comp_back L M i P,rfl,q]]
def PH(b:TI)(g:TG)(c:TT)(d:TE)(src:List (Option Nat))(i:Nat):TS:=λD a H=>PJ b g c d src a H λv e=>D.nx (a.set i (some v)) e
theorem uS(hc:X.calm=true)(hN:X.N.Nodup)(j9:X.N[i]?\x)(hx:Loc X.env.scope x)(c:cS X scope)(fq:dW scope X.N src NC)(hi:PI X tg iter wi)
  (hg:∀t s H,PG (cV X scope NC t s H) tg g) (ht:∀t s H,ni (cV X scope NC t s H) ifs tt) (he:∀t s H,PE (cV X scope NC t s H) elt te)
  (lV:swapsWith (.ListComp elt [#[tg,iter,ifs,0]] scope pos) (some (.Name x r)) P.line X.env=pure true)
  (hf:X.fn x=true\/X.env.scope.names.lookup x\.local:=by subst_eqs)
  (hs:∀x,foldedSetIterable iter X.env x=pure x:=by intro _;rfl):PS X (.Assign [.Name x r] (.ListComp elt [#[tg,iter,ifs,0]] scope pos) P) (PH wi g tt te src i):=by
 intro f s u H D I h;rw[exec_Assign_Name_used _ _ _ _ lV];refine wpAny_bind (aax (wpAny_bind ?_));show wpAny _ X.A (do let _ <-comprehension (.ListComp elt [#[tg,iter,ifs,0]] scope pos) scope X.env _ (newList []) false (eval iter X.env) (some (assign (.Name x r) X.env))) _ _ s
 refine wpAny_bind (wpAny_mono (aaO (use:=some (assign (.Name x r) X.env)) (Q:=λ_ j=>SP X f D .next j) rfl hs (i9 (c.cells I.ok)) c.kind c.names
  (thn (hi f s u H _ I h) λv s1 h1=>thn h1 λoQ s2 h2=>?_)) (λ_ j hq=>be (be hq)) λ_ _ e=>e)
 rfl';obtain⟨it,F,tn,J,H2,rfl,I2,T,kR,f2,hW⟩:=h2;ac_rfl;refine vv (RR:=λG C=>compPost (model X.prog X.w) X.A X.xe (some (assign (.Name x r) X.env)) (λ_ j=>SP X f D .next j) G C) (Q:=λv k=>D.nx (u.set i (some v)) k) hc c fq I2 T kR f2 (hg F) (ht F) (he F) hW ?_;intro a l H3 aQ k j n f3 L q;obtain⟨m,hn,_⟩:=L.loc;have R:Inv X f u k j:=comp_back n f3 L (.refl ..);have S:l.heap.objs.size≠X.env.locals:=abY n.lt
 have nc:∀y d,X.env.cells.lookup y\d->d≠l.heap.objs.size:=λy d e z=>by
  obtain⟨v,hv⟩:=n.cell y d e
  have:=hv.lt
  rw[z] at this;exact absurd this (qz _)
 have np:∀p∈X.pn++f,p.1≠l.heap.objs.size:=λp B z=>by
  have:=Fk (n.pin p B).1
  rw[z] at this;exact absurd this (qz _)
 rfl';obtain⟨M,es,ep,Zx,U,rC⟩:=id hn;have Y:k l.heap.objs.size=none:=L.free;ac_rfl
 have IP:Inv X ((l.heap.objs.size,M)::f) u k j:=R.tM λp B=>by
  rcases bH.mp B with z|z
  .rw[z]
   exact#[Zx,Y,S,n.QH (bo _),λv w=>by rw[U] at w;cases w]
  .exact R.pin p (di _ z)
 refine wpAny_assign_Name (mX (x:=x) IP hN j9 hx (v:= .ref a) rfl (λZ O=>?_) hf);have YT:=(O.pin (l.heap.objs.size,M) (di _ bP)).1;refine#[m,#[M,es,ep,YT,U,rC],λh6 sb=>?_];have QX:Inv X f (u.set i (some (.ref a))) k Z:=O.tM λp B=>O.pin p (di _ (cI _ B));exact#[_,k,QX.turned (t':=Z.toks) (it:=l.heap.objs.size) (λb o hb e=>sb.extBut b o hb e) Y S (.inr n.sz) nc np,q]
end
section
variable {X:Cx} {pins:List (Addr×Obj)} {σ:St} {H:Hp} {s:Shared} {h':Heap} {fp:List Addr}
def Inv.EX{t':Nat}(I:Inv X pins σ H s)(d:∀b∈fp,fS X pins H b)(k:∀b o,b∉fp->s.heap.get? b\o->h'.get? b\o):Inv X pins σ H {s with heap:=h',toks:=t'}:=by
 refine I.step (g':=s.gens) (d':=s.drawn) (ch:=fp) (λb g=>?_) (λb o _ _ a e _=>k b o a e) (λb o _ _ a e _=>#[o.slots,k b o a e]) (λ_ _ _ _ n=>n)
  (λb o a e=>#[o,k b o a e]) (λ_ _ e=>e) (λ_ _ _ e=>e) (λb y e=>#[#[],by rw[e];simp]) (λm h=>?_) (λb u e=>?_) I.bare
 .obtain⟨_,i,_,j,l,p⟩:=d b g
  exact#[j,i,l,p]
 .obtain⟨o,t,w,x,r⟩:=h
  exact#[o,t,w,k _ o (λz=>(d _ z).2.1 rfl) x,r]
 .have f:∀b u,H b\u->b∉fp:=λb u e z=>by rw[(d b z).1] at e;cases e
  refine(I.hok b u e).vW (λc v a q=>k c v ?_ q) (λ_ q=>q) λ_ _ q=>q
  rcases a with z|z
  .rw[z];exact f b u e
  .exact f c _ z
def Inv.Nv(I:Inv X pins σ H s)(g:∀b∈fp,fS X pins H b)(k:∀b o,b∉fp->s.heap.get? b\o->h'.get? b\o)(i:s.heap.objs.size<=t)
  (new:dN X.prog X.w (upd H t o) h' t o):Inv X pins σ (upd H t o) {s with heap:=h',toks:=t'}:=by
 have l:H t=none:=I.hok.fresh i;have d:∀b u,H b\u->upd H t o b\u:=λb u e=>by rw[bf (bN e l)];exact e
 refine I.step (g':=s.gens) (d':=s.drawn) (ch:=fp) (λb f=>?_) (λb o _ _ a e _=>k b o a e) (λb o _ _ a e _=>#[o.slots,k b o a e]) (λb o _ e n=>?_)
  (λb o a e=>#[o,k b o a e]) (λb G e=>d b _ e) (λb _ _ e=>d b _ e) (λb J e=>#[#[],by rw[d b _ e];simp]) (λm p=>?_) (λb u e=>?_) I.bare
 .obtain⟨_,x,_,y,A,B⟩:=g b f
  exact#[y,x,A,B]
 .rw[bf (bY (i3 (Fk e) i))];exact n
 .obtain⟨o,C,E,F,r⟩:=p
  exact#[o,C,E,k _ o (λz=>(g _ z).2.1 rfl) F,r]
 .by_cases f:b=t
  .subst f
   rw[aK] at e;cases Do e;exact new
  .rw[bf f] at e
   have j:∀b u,H b\u->b∉fp:=λb u e z=>by rw[(g b z).1] at e;cases e
   refine(I.hok b u e).vW (λc v a q=>k c v ?_ q) (λh q=>d h _ q) λh _ q=>d h _ q
   rcases a with z|z
   .rw[z];exact j b u e
   .exact j c _ z
end
def QY(K:ab)(a:Addr):It:=
 #[λi H=>∃b x,cJ K H a b/\b[i]?\x,λi H y c=>∃t x,y= .ref t/\H t=none/\c=upd H t (.tup [.int i,x])/\∀b,cJ K H a b->b[i]?\x,λi H=>∃b,cJ K H a b/\b.length<=i]
def D6(e:h.get? t\{cls:= .type "tuple",data:= .seq [u,v].toArray}):IsTup h t [u,v].toArray:=#[_,e,rfl,_,rfl]
def GW{P:Program}{w:World}{K:ab}{T:List Expr}{k1}{U:Pos}(a e l:Addr)(ne:e≠l):
  Turn P w K (.Tuple T k1 U) (QY K a) [e,l] e (λi h=>(∃g,IsEnum h e l i g)/\h.IsListIter l a i) where
 mem:=by simp
 obj:=λi h st b f=>by
  obtain⟨⟨g,m⟩,o,A,c,d⟩:=st
  rcases bH.mp f with z|z
  .subst z
   exact#[_,m,λv w=>by cases w]
  .have B:b=l:=by simpa using z
   subst B;exact#[o,A,λv z=>by rw[d] at z;cases z]
 keep:=λi h t st k=>by
  obtain⟨⟨g,m⟩,Y⟩:=st;exact#[#[g,k e (by simp) _ m],Y.at λo q=>k l (by simp) o q]
 item:=by
  intro X C hw F O i j s Q H E I r st G;rfl';subst C hw F;obtain⟨xs,x,y,L⟩:=G;obtain⟨M,N,p,hz⟩:=I.list y;obtain⟨u,hu,ru⟩:=N.get L;obtain⟨⟨g,m⟩,n⟩:=st;ac_rfl;refine wpAny_pyNext_enum_item m n p.isList (x:=u) (~~~hu) ne λt xU LI Jf aaf kk=>?_
  have k2:∀b o,b∉ [e,l]->s.heap.get? b\o->t.get? b\o:=λb o f q=>kk b o (λz=>f (by simp[z])) (λz=>f (by simp[z])) q
  have I1:Inv X j Q (upd H s.heap.objs.size (.tup [.int i,x])) {s with heap:=t,toks:=s.toks+1}:=
   I.Nv r k2 (bo _) #[by show 2<=sizeLine;decide,[.int i s.toks,u], .cons #[_,rfl] (.cons ru .nil),D6 Jf]
  refine#[_,rfl,wpAny_letOwnedTupleGo_enum xU λh2 R3 R=>?_]
  have lt:∀b∈ [e,l],b<s.heap.objs.size:=λb f=>by
   rcases bH.mp f with z|z
   .rw[z];exact Fk m
   .obtain⟨o,A,_⟩:=n
    have B:b=l:=by simpa using z
    rw[B];exact Fk A
  have S:∀b∈ [e,l],fS X j (upd H s.heap.objs.size (.tup [.int i,x])) b:=λb f=>#[by rw[bf (bY (lt b f))];exact(r b f).1,(r b f).2]
  refine#[.ref s.heap.objs.size,_,I1.EX (t':=s.toks+1) S (λb o f q=>R.extBut b o (λz=>f (by simp[z])) q),rfl,#[_,x,rfl,I.hok.fresh (bo _),rfl,λys hy=>by rw[I.uJ hy y];exact L],#[#[u,?_],LI.extBut R.extBut (Ne.symm ne)],λb f=>(S b f).1]
  have z:((i+1:Nat):Int)=(i:Int)+1:=()
  rw[z];exact R3
 done:=by
  intro X C hw F O i j s Q H E I r st G;rfl';subst C hw F;obtain⟨xs,y,L⟩:=G;obtain⟨M,N,p,hz⟩:=I.list y;have hl:=N.length;obtain⟨⟨g,m⟩,n⟩:=st;ac_rfl;exact wpAny_pyNext_enum_end (I.ok.hd O) m n p.isList (by simp;lia) λt eb=>#[rfl,I.EX (t':=s.toks) r λb o f q=>eb b o (λz=>f (by simp[z])) q]
 self:=λ_ _ _ _ _ st h=>by
  obtain⟨⟨g,m⟩,_⟩:=st;exact wpAny_pyIter_enum m h
section
variable {X:Cx}
def So(K:ab)(c:TA):TI:=λd H R=>c d H λe b=>∃a,e= [.ref a]/\(∃f,b a\(.lst f))/\R (QY K a) b
def My{k1}(v:Gl X "enumerate")(w:X.mg "enumerate"=none)(x:PA X [a] j)(y:starEach [a] X.env= [(false,eval a X.env)]:=by rfl):
  PI X (.Tuple r k1 t) (.Call (.Name "enumerate" p) [a] [] d) (So X.K j):=by
 intro f s A H R I h;refine Call_ (lH I v w boot_enumerate (aat (thn (x d f s A H _ I h) λQ c #[S,B,g,C,E]=>?_) y rfl));rfl';obtain⟨l,e,⟨U,G⟩,q⟩:=E;subst e;obtain⟨u,rfl,J⟩:=C.one;subst J;obtain⟨z,L,n,Y,k,e⟩:=g.pM G;ac_rfl;refine call_enumerate_1 e λZ m i pK M=>?_;refine wpAny_pyIter_enum m ?_;have N:c.heap.objs.size+1≠c.heap.objs.size:=Nat.succ_ne_self _;refine#[c.heap.objs.size+1,[c.heap.objs.size+1,c.heap.objs.size],_,_,B,rfl,g.kept (t':=c.toks) M,GW l _ _ N,#[#[_,m],i],λb O=>?_,q]
 have o:c.heap.objs.size<=b:=by
  rcases bH.mp O with z|z
  .rw[z];exact rN _
  .have P:b=c.heap.objs.size:=by simpa using z
   rw[P];exact bo _
 exact g.Hx o (g.hok.fresh o)
end
end L2
namespace Wb
abbrev W:=List (List Nat)
def row(w:W)(p:Nat):List Nat:=w.getD p []
inductive Reach (w:W):Nat->Nat->Prop
 |refl (p):Reach w p p
 |step {p q r}:Reach w p q->r∈row w q->Reach w p r
structure Good (w:W):Prop where
 rng:∀p q,q∈row w p->q<w.length
 irr:∀p,p∉row w p
 nod:∀p,(row w p).Nodup
 sym:∀p q,q∈row w p->p∈row w q
 con:∀p,p<w.length->Reach w 0 p
def bO(h:q∈row w p):p<w.length:=by
 apply FM;intro a;unfold row at h;rw[bS,gK ()] at h
 simp at h
def EH(h:p<w.length):w[p]?\(row w p):=by
 unfold row;rw[bS,cM h];rfl
def Pm(h:w[p]?\r):row w p=r:=by
 unfold row;rw[bS,h];rfl
def MW(h:w.length<=p):row w p= []:=by
 unfold row;rw[bS,gK h];rfl
def Reach.trans{w:W}(h:Reach w p q)(h':Reach w q r):Reach w p r:=by
 induction h' with
 |refl=>exact h
 |step _ a b=>exact .step b a
def Reach.symm{w:W}(a:∀p q,q∈row w p->p∈row w q)(h:Reach w p q):Reach w q p:=by
 induction h with
 |refl=>exact .refl _
 |step _ b c=>exact(Reach.step (.refl _) (a _ _ b)).trans c
def ins{a:Type}(b:List a)(i:Nat)(x:a):List a:=b.take i++x::b.drop i
def uD(a:List b)(i:Nat)(x:b):(ins a i x).Perm (x::a):=by
 unfold ins;have h:= @List.perm_middle _ x (a.take i) (a.drop i);rw[jE] at h;exact h
def Eg:a∈ins b i x↔a=x\/a∈b:=by
 rw[(uD b i x).mem_iff,bH]
def yA(h:a.Nodup)(c:x∉a):(ins a i x).Nodup:=by
 rw[(uD a i x).nodup_iff,cX];exact#[c,h]
def yd(a:List b)(i:Nat)(x:b):(ins a i x).length=a.length+1:=by
 rw[(uD a i x).length_eq];rfl
def MX(h:p<w.length):row (w.set p r) x=if p=x then r else row w x:=by
 unfold row;rw[bS,mZ]
 by_cases e:p=x
 .rw[ir e,ir e,ir h];rfl
 .rw[mo e,mo e,bS]
theorem IT{ord:Nat->Nat}(g:Good w)(k:i.length=w.length)(j:∀p,p<w.length->ord p<w.length)
  (inj:∀p q,p<w.length->q<w.length->ord p=ord q->p=q) (sur:∀y,y<w.length->∃p,p<w.length/\ord p=y)
  (l:∀p,p<w.length->(row i (ord p)).Perm ((row w p).map ord)):Good i:=by
 have mem:∀p q,p<w.length->(q∈row i (ord p)↔∃a,a∈row w p/\ord a=q):=λp q d=>by
  rw[(l p d).mem_iff,bT]
 have reach:∀{p q},Reach w p q->Reach i (ord p) (ord q):=λ {p q} h=>by
  induction h with
  |refl=>exact .refl _
  |step _ m o=>exact .step o ((mem _ _ (bO m)).mpr #[_,m,rfl])
 refine#[λy q c=>?_,λy c=>?_,λy=>?_,λy q c=>?_,λy c=>?_]
 .obtain⟨p,d,rfl⟩:=sur y (by have:=bO c;lia)
  obtain⟨a,f,rfl⟩:=(mem p q d).mp c;rw[k];exact j a (g.rng _ _ f)
 .obtain⟨p,d,rfl⟩:=sur y (by have:=bO c;lia)
  obtain⟨a,f,e⟩:=(mem p _ d).mp c
  have:=inj a p (g.rng _ _ f) d e
  subst this;exact g.irr _ f
 .by_cases c:y<w.length
  .obtain⟨p,d,rfl⟩:=sur y c
   rw[(l p d).nodup_iff];unfold dc;rw[jG];refine aaB ?_ (g.nod p);intro a b f r ne e;exact ne (inj a b (g.rng _ _ f) (g.rng _ _ r) e)
  .rw[MW ()];exact iU
 .obtain⟨p,d,rfl⟩:=sur y (by have:=bO c;lia)
  obtain⟨a,f,rfl⟩:=(mem p q d).mp c;exact(mem a _ (g.rng _ _ f)).mpr #[p,g.sym _ _ f,rfl]
 .rw[k] at c
  obtain⟨p,d,rfl⟩:=sur y c;obtain⟨z,s,t⟩:=sur 0 ()
  have n:=reach (((g.con z s).symm g.sym).trans (g.con p d));rw[t] at n;exact n
def aW(l:List Nat)(x:Nat):Nat:=l.getD ((l.idxOf x+1)%l.length) 0
def fh(w:W)(d:Nat×Nat):Nat×Nat:=(d.2,aW (row w d.2) d.1)
def aU(w:W)(d:Nat×Nat):Prop:=d.2∈row w d.1
def kS(h:x∈l):l[(l.idxOf x+1)%l.length]?\(aW l x):=by
 have a:0<l.length:=rG h;unfold aW;rw[bS,cM (qB _ a)];rfl
def GO(h:x∈l):aW l x∈l:=dH (kS h)
def L6(f:a<n)(g:b<n)(e:(a+1)%n=(b+1)%n):a=b:=by
 by_cases d:a+1=n
 .by_cases c:b+1=n
  .lia
  .rw[d,sH,iu ()] at e;lia
 .by_cases c:b+1=n
  .rw[c,sH,iu ()] at e;lia
  .rw[iu (),iu ()] at e;lia
def zd(g:l.Nodup)(a:x∈l)(b:y∈l)(e:aW l x=aW l y):x=y:=by
 have o:0<l.length:=rG a;have c:=kS a;have h:=kS b;rw[e] at c;have d:=vZ.mpr a;have f:=vZ.mpr b;obtain⟨p,i⟩:=eC.mp c;obtain⟨r,j⟩:=eC.mp h;have q:=(List.getElem_inj g).mp (i.trans j.symm);have k:=L6 d f q;have m:=A7 d;have n:=A7 f;rw[<-m,<-n];simp only[k]
def Jw(g:Good w)(h:aU w d):aU w (fh w d):=GO (g.sym _ _ h)
def yB(g:Good w)(h:aU w d)(c:aU w e)(q:fh w d=fh w e):d=e:=by
 have a:d.2=e.2:=GM Prod.fst q;have b:aW (row w d.2) d.1=aW (row w e.2) e.1:=GM Prod.snd q;rw[<-a] at b;have f:d.1∈row w d.2:=g.sym _ _ h;have i:e.1∈row w d.2:=by rw[a];exact g.sym _ _ c
 exact aal (zd (g.nod _) f i b) a
def br(w:W):List (Nat×Nat):=(ac w.length).flatMap λp=>(row w p).map λq=>(p,q)
def bg{w:W}:d∈br w↔aU w d:=by
 unfold br aU;rw[List.mem_flatMap]
 constructor
 .rintro⟨p,_,h⟩
  obtain⟨q,a,rfl⟩:=bT.mp h;exact a
 .intro h
  exact#[d.1,cE.mpr (bO h),bT.mpr #[d.2,h,rfl]]
theorem aF [DecidableEq b]:∀{l m:List b},l.Nodup->(∀x∈l,x∈m)->l.length<=m.length
 | [],_,_,_=>fk _
 |a::r,m,g,h=>by
  have c:=cX.mp g;have d:=h a bP;have i:=aF (l:=r) (m:=m.erase a) c.2 λx f=>(List.mem_erase_of_ne (λ(e:x=a)=>c.1 (by rw[<-e];exact f))).mpr (h x (cI _ f))
  rw[List.length_erase_of_mem d] at i
  have:=rG d
  simp only[cv];lia
def dG(g:Good w)(p:Nat):(row w p).length<=w.length:=by
 have:=aF (m:=ac w.length) (g.nod p) λx a=>cE.mpr (g.rng _ _ a)
 simpa using this
theorem Aq{f:b->List c}{k:Nat}:∀{l:List b},(∀x∈l,(f x).length<=k)->(l.flatMap f).length<=l.length*k
 | [],_=>by simp
 |a::r,h=>by
  have e:=Aq (f:=f) (k:=k) (l:=r) λx d=>h x (cI _ d)
  have:=h a bP
  rw[u5,cD,cv,Nat.succ_mul];lia
def kB(g:Good w):(br w).length<=w.length*w.length:=by
 have:=Aq (f:=λp=>(row w p).map λq=>(p,q)) (k:=w.length) (l:=ac w.length) λx _=>by rw[aI];exact dG g x
 rw[fw] at this;exact this
def bu(w:W):Nat->Nat×Nat->Nat×Nat
 |0,d=>d
 |n+1,d=>fh w (bu w n d)
theorem cN(g:Good w)(h:aU w d):∀n,aU w (bu w n d)
 |0=>h
 |n+1=>Jw g (cN g h n)
theorem fb{w:W}{d:Nat×Nat}(m:Nat):∀n,bu w (n+m) d=bu w n (bu w m d)
 |0=>by rw[uj];rfl
 |n+1=>by rw[Nat.succ_add];show fh w (bu w (n+m) d)=fh w (bu w n (bu w m d));rw[fb m n]
theorem tx(g:Good w)(h:aU w d)(a:aU w e):∀n,bu w n d=bu w n e->d=e
 |0,q=>q
 |n+1,q=>tx g h a n (yB g (cN g h n) (cN g a n) q)
def walk(w:W)(d:Nat×Nat)(k:Nat):List (Nat×Nat):=(ac k).map λi=>bu w i d
def sD(w:W)(d:Nat×Nat)(k:Nat):walk w d (k+1)=walk w d k++ [bu w k d]:=by
 unfold walk;rw[List.range_succ,cW];rfl
def dU(w:W)(d:Nat×Nat)(k:Nat):(walk w d k).length=k:=by unfold walk;simp
def oh(g:Good w)(h:aU w d):∀e∈walk w d k,aU w e:=λe a=>by
 obtain⟨i,_,rfl⟩:=bT.mp a;exact cN g h i
def qp(g:Good w)(h:aU w d)(a:∀j,0<j->j<k->bu w j d≠d):(walk w d k).Nodup:=by
 unfold walk dc;rw[jG];refine aaB ?_ A6;intro i j f b lt e;have l:=cE.mp b;have c:bu w i d=bu w i (bu w (j-i) d):=by rw[<-fb (j-i) i,show i+(j-i)=j by lia];exact e
 exact a (j-i) () () (tx g h (cN g h _) i c).symm
def zk(g:Good w)(h:aU w d){k:Nat}(a:∀j,0<j->j<k->bu w j d≠d):k<=(br w).length:=by
 have:=aF (m:=br w) (qp g h a) λe b=>bg.mpr (oh g h e b)
 rwa [dU] at this
def vt(g:Good w){S:Nat->Prop}(c:S 0)(d:∀p q,S p->q∈row w p->S q):∀p,p<w.length->S p:=λp e=>by
 have:∀{a b},Reach w a b->S a->S b:=λ {a b} h f=>by
  induction h with
  |refl=>exact f
  |step _ i j=>exact d _ _ j i
 exact this (g.con p e) c
def lexLe(a b:Nat×Nat):Prop:=a.1<b.1\/(a.1=b.1/\a.2<=b.2)
def Jj(h:lexLe a b)(c:lexLe b a):a=b:=by
 unfold lexLe at h c;exact aal () ()
def kg(a:Nat->List Nat)(n:Nat):List (Nat×Nat):=(ac n).flatMap λp=>((a p).filter λq=>decide (p<q)).map λq=>(p,q)
theorem pU{e c:Type}{R:c->c->Prop}{f:e->List c}:∀{l:List e},(∀x∈l,(f x).Pairwise R)->l.Pairwise (λa b=>∀x∈f a,∀y∈f b,R x y)->(l.flatMap f).Pairwise R
 | [],_,_=>List.Pairwise.nil
 |a::r,h,p=>by
  have g:=zt.mp p;rw[u5,abq];refine#[h a bP,pU (λx d=>h x (cI _ d)) g.2,λx d y i=>?_];obtain⟨b,j,k⟩:=List.mem_flatMap.mp i;exact g.1 b j x d y k
end Wb
namespace L2
open PySem PySem.Spec PyProof.Rows
section
variable {X:Cx}
def Pg(K:ab):V->List V->Hp->VK->Prop:=λx b H Q=>∃(l:Addr)(a:List V)(y:V)(j:Nat)(z:V),x= .ref l/\b= [y]/\H l\(.lst a)/\iE y=true/\a.all iE=true/\a[j]?\z/\xN z y=true/\
 (∀(m:Nat) z,m<j->a[m]?\z->xN z y=false)/\Q (.int j) H
def Js:Ij X "list.index" (Pg X.K):=by
 intro o s U H x Y v Z Q I p t h;rfl';obtain⟨l,d,y,j,z,rfl,rfl,B,C,fs,f,E,G,q⟩:=h;subst p;obtain⟨u,rfl,J⟩:=t.one;obtain⟨pK,a,n,r,hl,e⟩:=I.pM B;obtain⟨w,hw,L⟩:=r.get f;ac_rfl
 have M:j<a.toArray.size:=by
  obtain⟨b,_⟩:=eC.mp hw;simpa using b
 have flat:∀(m:Nat) z,d[m]?\z->iE z=true:=λm z h=>(ab2.mp fs) z (dH h)
 have N:a.toArray[j]=w:=by
  obtain⟨b,g⟩:=eC.mp hw;simpa using g
 have eS:=qK
 have Zl:j<d.length:=by
  obtain⟨b,_⟩:=eC.mp f;exact b
 refine aaF F.slot_list_index #[_,e,rfl] F.entry_list_index (F.args_list_index_2 _ _) (SeqAt.list_indexAt l a.toArray n none #[] u (qR y) j M () ?_ ?_) #[e,λw hw=>kn J C r fs w (~~~hw),?_]
 .rw[N,wV L (flat j z f)];exact E
 .intro m O P
  have xW:m<a.length:=by simpa using O
  obtain⟨c,i⟩:∃c,d[m]?\c:=#[_,cM ()]
  obtain⟨R,S,k⟩:=r.get i
  have T:a.toArray[m]=R:=by
   obtain⟨b,g⟩:=eC.mp S;simpa using g
  rw[T,wV k (flat m c i)];exact G m c P i
 .exact#[.int j,H,I.tok _,#[_,rfl],q]
end
mutual
inductive Dp (K:ab) (H:Hp):V->PyData->Prop
 |bC:Dp K H .bC .none
 |bl (b:Bool):Dp K H (.bl b) (.bool b)
 |int (i:Int):Dp K H (.int i) (.int i)
 |str (x:Str) (h:PyData.strOk x=true):Dp K H (.str x) (.str x)
 |lst {a:Addr} {xs:List V} {ds:List PyData}:cJ K H a xs->jK K H xs ds->Dp K H (.ref a) (.list ds)
 |tup {a:Addr} {xs:List V} {ds:List PyData}:fY K H a xs->jK K H xs ds->Dp K H (.ref a) (.tuple ds)
inductive jK (K:ab) (H:Hp):List V->List PyData->Prop
 |nil:jK K H [] []
 |cons {v:V} {vs:List V} {d:PyData} {ds:List PyData}:Dp K H v d->jK K H vs ds->jK K H (v::vs) (d::ds)
end
section
variable {X:Cx} {pins:List (Addr×Obj)} {σ:St} {H:Hp} {s:Shared}
mutual
theorem Dp.reads(I:Inv X pins σ H s):∀{v:V}{d:PyData}{u:Value},Dp X.K H v d->RelV v u->(∃as,Reads s.heap u d as)/\d.canLay0=true
 |_,_,_, .bC,r=>by cases r;exact#[#[_, .none],rfl]
 |_,_,_, .bl b,r=>by cases r;exact#[#[_, .bool b],rfl]
 |_,_,_, .int i,r=>by obtain⟨t,rfl⟩:=r;exact#[#[_, .int i t],rfl]
 |_,_,_, .str x h,r=>by obtain⟨t,rfl⟩:=r;exact#[#[_, .str x t],by simpa [PyData.canLay0] using h]
 |_,_,_, .lst h a,r=>by
  cases r;obtain⟨its,rv,pl,hz⟩:=I.list h;obtain⟨⟨as,ra⟩,c⟩:=jK.reads I a rv;obtain⟨o,ho,hc,n,hd⟩:=pl.isList;exact#[#[_, .list ho hc hd (~~~ra)],by simpa [PyData.canLay0] using c]
 |_,_,_, .tup h a,r=>by
  cases r;obtain⟨its,rv,pl,hz⟩:=I.tuple h;obtain⟨⟨as,ra⟩,c⟩:=jK.reads I a rv;obtain⟨o,ho,hc,n,hd⟩:=pl;exact#[#[_, .tuple ho hc hd (~~~ra)],by simpa [PyData.canLay0] using c]
theorem jK.reads(I:Inv X pins σ H s):∀{vs:List V}{ds:List PyData}{us:List Value},jK X.K H vs ds->Vals vs us->(∃as,ReadsAll s.heap us ds as)/\PyData.canLayAll0 ds=true
 |_,_,_, .nil, .nil=>#[#[_, .nil],by simp[PyData.canLayAll0]]
 |_,_,_, .cons a as, .cons r rs=>by
  obtain⟨⟨x,h1⟩,c1⟩:=Dp.reads I a r;obtain⟨⟨y,h2⟩,c2⟩:=jK.reads I as rs;exact#[#[_, .cons h1 h2],by simp[PyData.canLayAll0,c1,c2]]
end
end
section
variable {X:Cx}
def Wv(K:ab):R2:=λx y H Q=>∃d e,Dp K H x d/\Dp K H y e/\d.depth<=64/\Q (.bl (PyData.eqv d e)) H
def Wz(K:ab):R2:=λx y H Q=>∃d e,Dp K H x d/\Dp K H y e/\d.depth<=64/\Q (.bl (!PyData.eqv d e)) H
def OP(n:X.A.units+64<cLine):OpR X (compareOp .Eq) (Wv X.K):=by
 intro a s o H x y v u Q I b c h;rfl';obtain⟨d,e,g,i,r,q⟩:=h;obtain⟨⟨t,j⟩,k⟩:=g.reads I b;obtain⟨⟨bs,l⟩,m⟩:=i.reads I c;ac_rfl;exact SeqAt.compareEq_reads j l k m (by have:=Nat.min_le_left d.depth e.depth;lia) #[.bl _,H,I,rfl,q]
def OT(n:X.A.units+64<cLine):OpR X (compareOp .NotEq) (Wz X.K):=by
 intro a s o H x y v u Q I b c h;rfl';obtain⟨d,e,g,i,r,q⟩:=h;obtain⟨⟨t,j⟩,k⟩:=g.reads I b;obtain⟨⟨bs,l⟩,m⟩:=i.reads I c;ac_rfl;exact SeqAt.compareNe_reads j l k m (by have:=Nat.min_le_left d.depth e.depth;lia) #[.bl _,H,I,rfl,q]
end
def nD(n:Nat):PyData:= .int n
def oq(r:List Nat):PyData:= .list (r.map nD)
theorem lD{e:Type}{f:e->PyData}(g:∀a b,PyData.eqv (f a) (f b)=true↔a=b):∀c d:List e,PyData.eqvAll (c.map f) (d.map f)=true↔c=d
 | [],[]=>by simp[PyData.eqvAll]
 | [],_::_=>by simp[PyData.eqvAll]
 |_::_,[]=>by simp[PyData.eqvAll]
 |a::c,b::d=>by
  have h:=lD g c d;simp[PyData.eqvAll,g,h]
def N5(a b:Nat):PyData.eqv (nD a) (nD b)=true↔a=b:=by
 simp[nD,PyData.eqv];lia
def uA(a b:List Nat):PyData.eqv (oq a) (oq b)=true↔a=b:=by
 unfold oq;rw[PyData.eqv];exact lD N5 a b
theorem fO{f:c->PyData}{k:Nat}(d:∀a,(f a).depth<=k):∀b:List c,PyData.depthAll (b.map f)<=k
 | []=>by simp[PyData.depthAll]
 |a::b=>by
  have:=d a
  have e:=fO d b;simp[PyData.depthAll];lia
def pE(a:List Nat):(oq a).depth<=2:=by
 unfold oq;rw[PyData.depth]
 have:=fO (f:=nD) (k:=1) (λn=>by simp[nD,PyData.depth]) a
 lia
def qq(w:List (List Nat)):PyData:= .list (w.map oq)
def qH(a b:List (List Nat)):PyData.eqv (qq a) (qq b)=true↔a=b:=by
 unfold qq;rw[PyData.eqv];exact lD uA a b
def vA(a:List (List Nat)):(qq a).depth<=3:=by
 unfold qq;rw[PyData.depth]
 have:=fO (f:=oq) (k:=2) pE a
 lia
end L2
namespace L2
open PySem PySem.Spec PyProof.Rows
theorem Vals.of_get:∀{a:List V}{b:List Value},a.length=b.length->(∀(k:Nat) x u,a[k]?\x->b[k]?\u->RelV x u)->Vals a b
 | [],[],_,_=> .nil
 | [],_::_,h,_=>by simp at h
 |_::_,[],h,_=>by simp at h
 |x::a,u::b,h,r=> .cons (r 0 x u rfl rfl) (Vals.of_get (~~~h) λk y w c d=>r (k+1) y w (~~~c) (~~~d))
section
variable {X:Cx}
def Bg:cw X (.builtin "isinstance") (λa H Q=>∃(x:V)(n:String)(t:Value)(b:Bool),a= [x, .ty n]/\k9 X.K H x t/\cs X.K t (.type n)\b/\Q (.bl b) H):=by
 intro c s k H a l Q I d h;rfl';obtain⟨x,n,t,b,rfl,g,e,q⟩:=h;obtain⟨o,p,rfl,i,j⟩:=d.two;subst j;ac_rfl;exact F3 I i g e λr=>#[.bl b,H,I.tok _,rfl,q]
def zG:cw X (.builtin "sorted") (λf H Q=>∃(p:Addr)(c:List Int),f= [.ref p]/\cJ X.K H p (c.map V.int)/\c.length<64/\∀(q:Addr)(a:List Int),H q=none->a.Perm c->a.Pairwise (·<=·)->Q (.ref q) (upd H q (.lst (a.map V.int)))):=by
 intro g s A H f B Q I j h;rfl';obtain⟨p,c,rfl,l,E,q⟩:=h;obtain⟨u,rfl,m⟩:=j.one;subst m;obtain⟨d,r,n,_⟩:=I.list l;have t:=r.length;rw[aI] at t;ac_rfl;refine sorted_ints n.isList (intsAre_of r) () λout a v i w=>?_
 obtain⟨e,x⟩:=acG s.heap d out;have y:H (s.heap.objs.size+1)=none:=I.hok.fresh (rN _);have F:=i.length_eq;have G:64<=sizeLine:=∅
 refine#[.ref (s.heap.objs.size+1),_,I.laid (t':=s.toks) (λb o z=>acD z) (rN _) (o:= .lst (a.map V.int)) #[by rw[aI];lia,out.toList,e,og v,by simpa using x],rfl,q _ a y i w]
def nU(i:Int)(n:Nat):List V:=(ac n).map λ(k:Nat)=>V.int (i+(k:Int))
theorem xB(r:X.calm=true):cw X (.type "list") (λg H Q=>∃(p:Addr)(i j:Int),g= [.ref p]/\H p\(.rng i j)/\-(2^62)<=i/\i<2^62/\-(2^62)<=j/\j<2^62/\(j-i).toNat<=1000/\
  ∀q,H q=none->Q (.ref q) (upd H q (.lst (nU i (j-i).toNat)))):=by
 intro l s R H g S Q I y h;rfl';obtain⟨p,i,j,rfl,B,C,E,F,G,U,q⟩:=h;obtain⟨u,rfl,J⟩:=y.one;subst J;obtain⟨t,u,v,e⟩:=(show dN X.prog X.w H s.heap p (.rng i j) from I.hok p _ B);ac_rfl;refine call_list_range (n:=(j-i).toNat) (I.ok.hd r) e (small_one C E F G) ?_ () λY Z f c L M m=>?_
 .rw[rangeSize_one];split<;>lia
 .have cu:1000<=sizeLine:=∅
  refine#[.ref s.heap.objs.size,_,I.laid L (bo _) (o:= .lst (nU i (j-i).toNat)) #[by unfold nU;simp;lia,f.toList,c,?_,by simpa using M],rfl,q _ (I.hok.fresh (bo _))]
  refine Vals.of_get (by unfold nU;simp[m.1]) λk x w d hw=>?_
  unfold nU at d;rw[cG] at d;obtain⟨N,O⟩:=m.2 k w (by rw[<-gk];exact hw)
  have P:(ac (j-i).toNat)[k]?\k:=by
   cases q:(ac (j-i).toNat)[k]? with
   |none=>rw[q] at d;cases d
   |some z=>
    obtain⟨a,b⟩:=eC.mp q;rw[List.getElem_range] at b;rw[b]
  rw[P] at d;obtain rfl:=Do d;exact#[N,by rw[O,Int.mul_one]]
end
structure uu (C:Expr) (t0 i0 t1 i1:Expr) (f0 f1:List Expr) (el:Addr->Env->Sem Unit):Prop where
 u:∀(A:Around)(k:Nat)(it:Value)(D:Addr)(env:Env),A.under (.compLoop C k it (.ref D) env)=A
 z0:∀(P:Program)(w:World)(it:Value)(D:Addr)(env:Env),(model P w).den (.compLoop C 0 it (.ref D) env)=Sem.onRaise (do
   standAt i0.pos
   match <-pyNext it with
   |none=>pure (.done .next)
   |some v=>
    letOwnedTupleGo t0 it v
    assign t0 env v
    let ok <-forIn f0 true λc r=>if r=true then do let ok <-isTrue c env (eval c env);pure (ForInStep.yield ok) else pure (ForInStep.yield r)
    if ok=true then
     let x <-eval i1 env
     standAt i1.pos
     let x <-foldedSetIterable i1 env x
     let LS <-holding [x] (pyIter x)
     let _ <-runOwn (.compStart C 1 LS (.ref D) env) env
     again (.compLoop C 0 it (.ref D) env)
    else again (.compLoop C 0 it (.ref D) env)) (λx=>do noteFrame x env;theTreesLotGoes x)
 z1:∀(P:Program)(w:World)(it:Value)(D:Addr)(env:Env),(model P w).den (.compLoop C 1 it (.ref D) env)=Sem.onRaise (do
   standAt i1.pos
   match <-pyNext it with
   |none=>pure (.done .next)
   |some v=>
    letOwnedTupleGo t1 it v
    assign t1 env v
    let ok <-forIn f1 true λc r=>if r=true then do let ok <-isTrue c env (eval c env);pure (ForInStep.yield ok) else pure (ForInStep.yield r)
    if ok=true then
     el D env
     again (.compLoop C 1 it (.ref D) env)
    else again (.compLoop C 1 it (.ref D) env)) (λx=>do noteFrame x env;theTreesLotGoes x)
 b0:∀{P:Program}{w:World}{A:Around}{R:Result->Shared->Prop}{s:Shared}{it:Value}{D:Addr}{env:Env},codeAny (model P w) A (.compLoop C 0 it (.ref D) env) R s->
  (∀(Q:Value->Shared->Prop)(E:Value->Shared->Prop),Q it s->wpAny (model P w) A (pyIter it) Q E s)->codeAny (model P w) A (.compStart C 0 it (.ref D) env) R s
 b1:∀{P:Program}{w:World}{A:Around}{R:Result->Shared->Prop}{s:Shared}{it:Value}{D:Addr}{env:Env},codeAny (model P w) A (.compLoop C 1 it (.ref D) env) R s->
  (∀(Q:Value->Shared->Prop)(E:Value->Shared->Prop),Q it s->wpAny (model P w) A (pyIter it) Q E s)->codeAny (model P w) A (.compStart C 1 it (.ref D) env) R s
abbrev Kj:=Addr->St->Hp->(Hp->Prop)->Prop
def NL(X:Cx)(d:Addr->Env->Sem Unit)(e:Kj):Prop:=∀(D:Addr)(a:List (Addr×Obj))(s:Shared)(b:St)(H:Hp)(N:Hp->Prop),Inv X a b H s->e D b H N->wpAny (model X.prog X.w) X.A (d D X.env) (λ_ f=>∃c,Inv X a b c f/\N c) X.xe s
section
variable {X XC:Cx} {C elt i0 t0 i1 t1:Expr} {f0 f1:List Expr} {scope:Scope} {pos:Pos} {wi gF:TI} {g g1:TG} {tt d9:TT} {te:TE} {ta:Kj} {el:Addr->Env->Sem Unit} {src:List (Option Nat)} {NC:List Str}
theorem GZ{a:List (Addr×Obj)}{s:Shared}{Z:St}{H:Hp}{g D:Addr}{z:List Addr}{P:Nat->Heap->Prop}{J:It}{R:Result->Shared->Prop}{N:St->Hp->Prop}
  (Oo:XC.xe=λ_ _=>False) (hc:XC.calm=true) (I:Inv XC a Z H s) (T:Turn XC.prog XC.w XC.K t1 J z g P) (st:P 0 s.heap) (f2:∀b∈z,fS XC a H b)
  (X:uu C t0 i0 t1 i1 f0 f1 el) (hg:PG XC t1 g1) (ht:ni XC f1 d9) (he:NL XC el ta)
  (hW:∃W:Nat->Nat->St->Hp->Prop,(∃m,W 0 m Z H)/\∀i m gG L,W i m gG L->(J.stop i L/\N gG L)\/
   (J.go i L/\∃M:St->Hp->Prop,(∀j c,M j c->∃S,S<m/\W (i+1) S j c)/\∀x H3,J.yld i L x H3->g1 x gG H3 λU H4=>d9 U H4 λb H5=>
    if b=true then ta D U H5 (M U) else M U H5))
  (hR:∀j c v,Inv XC a j c v->N j c->R (.ok .next) v):
  codeAny (model XC.prog XC.w) XC.A (.compStart C 1 (.ref g) (.ref D) XC.env) R s:=by
 obtain⟨W,⟨m0,w0⟩,turn⟩:=hW
 have mO:∀{α:Type}{t:Sem α}{Q:α->Shared->Prop}{E:Value->Shared->Prop}{s:Shared},wpAny (model XC.prog XC.w) XC.A t Q XC.xe s->wpAny (model XC.prog XC.w) XC.A t Q E s:=λ {α t Q E s} h=>
  wpAny_mono h (λ_ _ q=>q) λ_ _ f=>by rw[Oo] at f;exact f.elim
 have k:∀{c:Hp},(∀b∈z,c b=none)->∀b∈z,fS XC a c b:=λhn b p=>#[hn b p,(f2 b p).2]
 have loop:codeAny (model XC.prog XC.w) XC.A (.compLoop C 1 (.ref g) (.ref D) XC.env) R s:=by
  refine acF rfl (λn v=>∃i j c,Inv XC a j c v/\P i v.heap/\(∀b∈z,c b=none)/\W i n j c) (λn v hI=>?_) m0 #[0,Z,H,I,st,λb p=>(f2 b p).1,w0];rfl';obtain⟨i,j,c,I5,wK,zJ,w5⟩:=hI;ac_rfl;rw[X.u,X.z1];refine wpAny_noted ?_;refine wpAny_bind (aax (wpAny_bind ?_))
  rcases turn i n j c w5 with ⟨stop,qn⟩ | ⟨go,M,hN,step⟩
  .refine thn (T.done XC rfl rfl rfl hc i a v j c _ I5 (k zJ) wK stop) λr s6 l=>?_
   obtain⟨hr,I6⟩:=l;subst hr;exact be (hR j c s6 I6 qn)
  .refine thn (T.item XC rfl rfl rfl hc i a v j c _ I5 (k zJ) wK go) λr s6 l=>?_
   rfl';obtain⟨u,hr,h6⟩:=l;ac_rfl;subst hr;refine wpAny_bind (thn h6 λ_ s7 l=>?_);rfl';obtain⟨x,H7,I7,r7,y7,y9,Lr⟩:=l;ac_rfl;have Ke:=I7.pinned (k Lr) (T.obj _ _ y9)
   have nextT:∀{y:St}{F:Hp}{G:Shared},Inv XC (a++nT z s7.heap) y F G->M y F->∃m,m<n/\∃i j c,Inv XC a j c G/\P i G.heap/\(∀b∈z,c b=none)/\W i m j c:=λ {y F G} O n8=>by
    obtain⟨S,hm,w8⟩:=hN y F n8;refine#[S,hm,i+1,y,F,O.ku,T.keep _ _ _ y9 λb p o e=>(O.pin (b,o) (di _ (di _ (fu p e)))).1,λb p=>?_,w8];obtain⟨o,e,d⟩:=T.obj _ _ y9 b p;exact(O.pin (b,o) (di _ (di _ (fu p e)))).2.1
   refine wpAny_bind (mO (thn (hg _ s7 j H7 x u _ Ke r7 (step x H7 y7)) λ_ G l=>?_));rfl';obtain⟨y,F,O,q8⟩:=l;ac_rfl;refine wpAny_bind (mO (thn (ht _ G y F _ O q8) λb s9 l=>?_));obtain⟨H9,I9,Y⟩:=l;cases b with
   |false=>
    rw[mo dA] at Y;exact be #[rfl,nextT I9 Y]
   |true=>
    rw[ir rfl] at Y;refine wpAny_bind (mO (thn (he D _ s9 y H9 _ I9 Y) λ_ MY l=>?_));obtain⟨Kc,E8,MQ⟩:=l;exact be #[rfl,nextT E8 MQ]
 exact X.b1 loop λQ E q=>T.self _ 0 _ _ _ st q
def YG(n:TG)(o:TT)(p:Kj)(D:Addr)(J:It)(N:St->Hp->Prop):St->Hp->Prop:=λq H=>
 ∃W:Nat->Nat->St->Hp->Prop,(∃m,W 0 m q H)/\∀i m d a,W i m d a->(J.stop i a/\N d a)\/
  (J.go i a/\∃e:St->Hp->Prop,(∀f h,e f h->∃j,j<m/\W (i+1) j f h)/\∀x k,J.yld i a x k->n x d k λc r=>o c r λb l=>
   if b=true then p D c l (e c) else e c l)
def Qt(g:TG)(l:TT)(n:TI)(o:TG)(p:TT)(q:Kj)(D:Addr)(J:It)(Q:VK)(r:St)(H:Hp):Prop:=
 ∃W:Nat->Nat->St->Hp->Prop,(∃m,W 0 m r H)/\∀i m d a,W i m d a->
  (J.stop i a/\Q (.ref D) a)\/
  (J.go i a/\∃N:St->Hp->Prop,(∀e f,N e f->∃h,h<m/\W (i+1) h e f)/\∀x j,J.yld i a x j->g x d j λc s=>l c s λb k=>
   if b=true then n c k λt u=>YG o p q D t N c u else N c k)
theorem GY{k:List (Addr×Obj)}{σ:St}{v:Shared}{U:Hp}{it:Addr}{G:List Addr}{Z:Nat->Heap->Prop}{J:It}{RR:Value->Addr->Result->Shared->Prop}{E:Value->Shared->Prop}{Q:VK}{o0:Addr->HO}{new:Sem Value}
  (Tw:uu C t0 i0 t1 i1 f0 f1 el)
  (hc:X.calm=true) (c:cS X scope) (fq:dW scope X.N src NC) (I2:Inv X k σ U v) (T:Turn X.prog X.w X.K t0 J G it Z) (kR:Z 0 v.heap) (f2:∀b∈G,fS X k U b)
  (hg:∀ex s H,PG (cV X scope NC ex s H) t0 g) (ht:∀ex s H,ni (cV X scope NC ex s H) f0 tt) (qS:∀ex s H,PI (cV X scope NC ex s H) t1 i1 gF) (FN:∀ex s H,PG (cV X scope NC ex s H) t1 g1)
  (FU:∀ex s H,ni (cV X scope NC ex s H) f1 d9) (he:∀ex s H,NL (cV X scope NC ex s H) el ta) (zN:∀env x,foldedSetIterable i1 env x=pure x)
  (hn:∀(Q':Value->Shared->Prop)(E':Value->Shared->Prop),(∀B:Shared,Inv X k σ (upd U v.heap.objs.size (o0 v.heap.objs.size)) B->(∀b o,v.heap.get? b\o->B.heap.get? b\o)->Q' (.ref v.heap.objs.size) B)->wpAny (model X.prog X.w) X.A new Q' E' v)
  (hW:∀D,U D=none->Qt g tt gF g1 d9 ta D J Q (mW src σ) (upd U D (o0 D)))
  (Ly:∀D B H3 I l L,Inv X k σ H3 B->(∀b∈G,fS X k H3 b)->Inv (cV X scope NC G B H3) [] I l L->Q (.ref D) l->RR (.ref D) B.heap.objs.size (.ok .next) L):
  wpAny (model X.prog X.w) X.A new (λacc EU=>wpAny (model X.prog X.w) X.A (newFunctionEnv scope X.env.globals (jV X.env scope.names []) [] X.env.qual none .none (some X.env)) (λpC zf=>
   codeAny (model X.prog X.w) X.A (.compStart C 0 (.ref it) acc {pC with scope:=relabel scope X.env}) (RR acc pC.locals) zf) E EU) E v:=by
 rfl';obtain⟨W,⟨m0,w0⟩,turn⟩:=hW v.heap.objs.size I2.fresh;ac_rfl
 have SD:∀b∈G,b<v.heap.objs.size:=λb j=>by
  obtain⟨o,e,_⟩:=T.obj _ _ kR b j;exact Fk e
 have f3:∀b∈G,fS X k (upd U v.heap.objs.size (o0 v.heap.objs.size)) b:=λb j=>#[by rw[bf (bY (SD b j))];exact(f2 b j).1,(f2 b j).2]
 refine hn _ _ λB I3 TH=>?_;have wJ:Z 0 B.heap:=T.keep _ _ _ kR λb _ o e=>TH b o e
 have Gb:∀b∈G,b<B.heap.objs.size:=λb j=>by
  obtain⟨o,e,_⟩:=T.obj _ _ wJ b j;exact Fk e
 generalize YU:upd U v.heap.objs.size (o0 v.heap.objs.size)=H3 at I3 f3 w0;refine wpAny_newFunctionEnv c.nocell (by intro y hy;simp at hy) (λh1 BB BG=>?_) c.kind
 have I4:=Aa (src:=src) (NC:=NC) (ex:=G) (tk:=B.toks+([]:List (Str×Value)).length) I3 c fq f3 Gb BB BG;have Nk:Z 0 h1:=T.keep _ _ _ wJ λb j o e=>BG.extBut b o (bY (Gb b j)) (AC _ e);generalize F:cV X scope NC G B H3=a at I4
 have M:∀{l:Hp},(∀b∈G,l b=none)->∀b∈G,fS a [] l b:=λ {l} hn b j=>by
  subst F;refine#[hn b j,bY (Gb b j),λz=>?_, .inl j,λx d e=>?_,λp hp=>absurd (show p∈([]:List (Addr×Obj)) from hp) (by simp)]
  .exact(I4.ok.exfs b j) z
  .exact(I4.ok.exf b j).2 x d e
 have IY:a.calm=true:=by subst F;exact hc
 have eP:a.prog=X.prog:=by subst F;rfl
 have ew:a.w=X.w:=by subst F;rfl
 have eK:a.K=X.K:=by subst F;rfl
 have eA:a.A=X.A:=by subst F;rfl
 have Oo:a.xe=λ_ _=>False:=by subst F;rfl
 have R7:PG a t0 g:=by subst F;exact hg _ _ _
 have Si:ni a f0 tt:=F▸ht _ _ _;have Zf:PI a t1 i1 gF:=F▸qS _ _ _;have Vm:PG a t1 g1:=F▸FN _ _ _;have VE:ni a f1 d9:=F▸FU _ _ _;have R4:NL a el ta:=F▸he _ _ _
 have mO:∀{α:Type}{t:Sem α}{Q:α->Shared->Prop}{E:Value->Shared->Prop}{s:Shared},wpAny (model a.prog a.w) a.A t Q a.xe s->wpAny (model X.prog X.w) X.A t Q E s:=λ {α t Q E s} h=>by
  rw[<-eP,<-ew,<-eA];exact wpAny_mono h (λ_ _ q=>q) λ_ _ f=>by rw[Oo] at f;exact f.elim
 have loop:codeAny (model X.prog X.w) X.A (.compLoop C 0 (.ref it) (.ref v.heap.objs.size) a.env) (RR (.ref v.heap.objs.size) B.heap.objs.size)
   {B with heap:=h1,toks:=B.toks+([]:List (Str×Value)).length}:=by
  refine acF rfl (λn L=>∃i I l,Inv a [] I l L/\Z i L.heap/\(∀b∈G,l b=none)/\W i n I l) (λn L hI=>?_) m0 #[0,_,_,I4,Nk,λb j=>(f3 b j).1,w0];rfl';obtain⟨i,I,l,I5,wK,zJ,w5⟩:=hI;ac_rfl;rw[Tw.u,Tw.z0];refine wpAny_noted ?_;refine wpAny_bind (aax (wpAny_bind ?_))
  rcases turn i n I l w5 with ⟨stop,qn⟩ | ⟨go,N,hN,step⟩
  .have hd:=T.done a eP ew eK IY i [] L I l (notedBy (model X.prog X.w) X.A a.env λe L=>RR (.ref v.heap.objs.size) B.heap.objs.size (.error e) L) I5 (M zJ) wK stop
   rw[eA] at hd;refine thn hd λr s6 P=>?_;obtain⟨hr,I6⟩:=P;subst hr;refine be ?_;subst F;exact Ly _ B _ I l s6 I3 f3 I6 qn
  .have hd:=T.item a eP ew eK IY i [] L I l (notedBy (model X.prog X.w) X.A a.env λe L=>RR (.ref v.heap.objs.size) B.heap.objs.size (.error e) L) I5 (M zJ) wK go
   rw[eA] at hd;refine thn hd λr s6 P=>?_;obtain⟨u,hr,h6⟩:=P;subst hr;refine wpAny_bind (thn h6 λ_ s7 P=>?_);rfl';obtain⟨x,H7,I7,r7,y7,y9,Lr⟩:=P;ac_rfl;have Ke:=I7.pinned (M Lr) (T.obj _ _ y9)
   have nextT:∀{S:St}{Y:Hp}{s8:Shared},Inv a ([]++nT G s7.heap) S Y s8->N S Y->∃m,m<n/\∃i I l,Inv a [] I l s8/\Z i s8.heap/\(∀b∈G,l b=none)/\W i m I l:=λ {S Y s8} I8 n8=>by
    obtain⟨m',hm,w8⟩:=hN S Y n8;refine#[m',hm,i+1,S,Y,I8.ku,T.keep _ _ _ y9 λb j o e=>(I8.pin (b,o) (di _ (di _ (fu j e)))).1,λb j=>?_,w8];obtain⟨o,e,d⟩:=T.obj _ _ y9 b j;exact(I8.pin (b,o) (di _ (di _ (fu j e)))).2.1
   refine wpAny_bind (mO (thn (R7 _ s7 I H7 x u _ Ke r7 (step x H7 y7)) λ_ s8 P=>?_));rfl';obtain⟨S,Y,I8,q8⟩:=P;ac_rfl;refine wpAny_bind (mO (thn (Si _ s8 S Y _ I8 q8) λb s9 P=>?_));obtain⟨H9,I9,q9⟩:=P;cases b with
   |false=>
    rw[mo dA] at q9;exact be #[F▸rfl,nextT I9 q9]
   |true=>
    rw[ir rfl] at q9;refine wpAny_bind (mO (thn (Zf _ s9 S H9 _ I9 q9) λv1 Pn YK=>?_));refine wpAny_bind (aax (wpAny_bind (aaJ (zN _ v1) (wpAny_bind (KB (mO (thn YK λoQ MY YL=>?_)))))));rfl';obtain⟨LS,fp1,tn1,J1,Kc,rfl,E8,T1,WK,YA,Zk⟩:=YL;ac_rfl;refine wpAny_bind (wpAny_runOwn ?_);have tr:∀(cd:Code)(R:Result->Shared->Prop),codeAny (model a.prog a.w) a.A cd R MY->codeAny (model X.prog X.w) X.A cd R MY:=λcd R h=>by rw[eP,ew,eA] at h;exact h
    exact tr _ _ (GZ Oo IY E8 T1 WK YA Tw Vm VE R4 Zk λI l L Xp n12=>be #[F▸rfl,nextT Xp n12])
 subst F;exact Tw.b0 loop λQ E q=>T.self _ 0 _ _ _ Nk q
def Ub(c:TE):Kj:=λD d H N=>c d H λv b=>∃a,b D\(.lst a)/\a.length<sizeLine/\N (upd b D (.lst (a++ [v])))
theorem J9:uu (.ListComp elt [#[t0,i0,f0,0],#[t1,i1,f1,0]] scope pos) t0 i0 t1 i1 f0 f1 (λD env=>do let _ <-call (.builtin "list.append") [.ref D,<-eval elt env]) where
 u:=λ_ _ _ _ _=>rfl
 z0:=λ_ _ _ _ _=>rfl
 z1:=λ_ _ _ _ _=>rfl
 b0:=λa b=>codeAny_compStart_list a (b _ _ a)
 b1:=λa b=>by
  refine codeAny_of_tree ?_;refine wpAny_notedAt ?_;unfold compStart;refine wpAny_bind (wpAny_askSetting (wpAny_ite ?_))
  split
  .first
    |exact wpAny_bind (wpAny_pure (wpAny_pure #[rfl,a]))
    |exact wpAny_pure #[rfl,a]
  .refine wpAny_bind (wpAny_rule ?_)
   exact wpAny_bind (wpAny_standAt (wpAny_bind (b _ _ (wpAny_pure #[rfl,a]))))
def Jz(e:PE X elt te):NL X (λD env=>do let _ <-call (.builtin "list.append") [.ref D,<-eval elt env]) (Ub te):=λD a s d H N I h=>
 wpAny_bind (thn (e a s d H _ I h) λy f b=>by
  rfl';obtain⟨v,j,k,l,m,n,o,p⟩:=b;ac_rfl;refine wpAny_bind (thn (nM _ f d j (.ref D) [v] _ [y] (λ_ q=>N q) k rfl (.cons l .nil) #[_,m,v,rfl,rfl,n,o,p]) λ_ w b=>?_);rfl';obtain⟨_,r,t,_,u⟩:=b;ac_rfl;exact be #[r,t,u])
def QT(g:TG)(a:TT)(b:TI)(c:TG)(d:TT)(e:TE)(D:Addr)(J:It)(Q:VK)(f:St)(H:Hp):Prop:=Qt g a b c d (Ub e) D J Q f H
def QR(c:TI)(g:TG)(d:TT)(e:TI)(f:TG)(h:TT)(i:TE)(src:List (Option Nat)):TE:=λa H Q=>c a H λJ b=>∀D,b D=none->QT g d e f h i D J Q (mW src a) (upd b D (.lst []))
def Bh{a:List (Addr×Obj)}{k:St}{h:Shared}{i:Hp}{n:Addr}{j:List Addr}{p:Nat->Heap->Prop}{J:It}{r:Value->Addr->Result->Shared->Prop}{E:Value->Shared->Prop}{Q:VK}
  (z:X.calm=true) (c:cS X scope) (B:dW scope X.N src NC) (t:Inv X a k i h) (T:Turn X.prog X.w X.K t0 J j n p) (F:p 0 h.heap) (G:∀b∈j,fS X a i b)
  (I:∀d s H,PG (cV X scope NC d s H) t0 g) (L:∀d s H,ni (cV X scope NC d s H) f0 tt) (qS:∀d s H,PI (cV X scope NC d s H) t1 i1 gF) (M:∀d s H,PG (cV X scope NC d s H) t1 g1)
  (O:∀d s H,ni (cV X scope NC d s H) f1 d9) (P:∀d s H,PE (cV X scope NC d s H) elt te) (R:∀env x,foldedSetIterable i1 env x=pure x)
  (S:∀D,i D=none->QT g tt gF g1 d9 te D J Q (mW src k) (upd i D (.lst [])))
  (U:∀D l m Y u v,Inv X a k m l->(∀b∈j,fS X a m b)->Inv (cV X scope NC j l m) [] Y u v->Q (.ref D) u->r (.ref D) l.heap.objs.size (.ok .next) v):
  wpAny (model X.prog X.w) X.A (newList []) (λf Z=>wpAny (model X.prog X.w) X.A (newFunctionEnv scope X.env.globals (jV X.env scope.names []) [] X.env.qual none .none (some X.env)) (λy C=>
   codeAny (model X.prog X.w) X.A (.compStart (.ListComp elt [#[t0,i0,f0,0],#[t1,i1,f1,0]] scope pos) 0 (.ref n) f {y with scope:=relabel scope X.env}) (r f y.locals) C) E Z) E h:=by
 refine GY (o0:=λ_=> .lst []) J9 z c B t T F G I L qS M O (λd s H=>Jz (P d s H)) R (λQ' E' q=>?_) S U;exact Os (q _ (t.HF (its:= []) (t':=h.toks) .nil (fk _)) λb o e=>AC _ e)
def O2(e:X.calm=true)(c:cS X scope)(f:dW scope X.N src NC)(i:PI X t0 i0 wi)
  (j:∀a s H,PG (cV X scope NC a s H) t0 g) (k:∀a s H,ni (cV X scope NC a s H) f0 tt) (qS:∀a s H,PI (cV X scope NC a s H) t1 i1 gF) (l:∀a s H,PG (cV X scope NC a s H) t1 g1)
  (n:∀a s H,ni (cV X scope NC a s H) f1 d9) (o:∀a s H,PE (cV X scope NC a s H) elt te)
  (p:∀x,foldedSetIterable i0 X.env x=pure x:=by intro _;rfl) (q:∀env x,foldedSetIterable i1 env x=pure x:=by intro _ _;rfl):
  PE X (.ListComp elt [#[t0,i0,f0,0],#[t1,i1,f1,0]] scope pos) (QR wi g tt gF g1 d9 te src):=by
 intro b s r H Q I h;rw[eval_ListComp];refine aaO (use:=none) rfl p (i9 (c.cells I.ok)) c.kind c.names (thn (i b s r H _ I h) λv P t=>thn t λR S u=>?_);rfl';obtain⟨Y,Z,C,J,H2,rfl,y,T,z,A,B⟩:=u;ac_rfl
 exact Bh e c f y T z A j k qS l n o q B λD s3 H3 aQ E s' F G d L=>by
  obtain⟨m,M,_⟩:=d.loc;exact#[m,M,λh' O=>#[.ref D,E,comp_back F G d O,rfl,L]]
end
end L2
namespace KS
open PySem PySem.W PyProof.Rows
section
variable {prog:Program} {w:World} {A:Around} {E:Value->Shared->Prop} {s:Shared}
def vV(c:s.heap.get? a\(seqObj "list" b.toArray n))(i:b.length<2)
  (h:G (.done (.ret .none)) {s with heap:=sortedHeap s.heap a b b.toArray}):wpAny (model prog w) A (Builtin.«list.sort» #[[.ref a],[]]) G E s:=by
 rw[list_sort_plain];have l:a<s.heap.objs.size:=Fk c;refine wpAny_bind (listItems_at c rfl (wpAny_bind (abM c rfl ?_)));obtain⟨j,d⟩:∃k,(s.heap.update a (Obj.mapSeq λ_=> #[])).get? a\(seqObj "list" #[] k):=#[_,abr c (λ_=> #[])];refine wpAny_bind (acp d rfl (wpAny_bind (wpAny_newTuple (wpAny_bind (aaI (KB ?_))))));have e:(((s.heap.update a (Obj.mapSeq λ_=> #[])).push (seqObj "tuple" b.toArray 0)).push (seqObj "list" #[] 0)).get? a\(seqObj "list" #[] j):=AC _ (AC _ d);show wpAny (model prog w) A _ G E {s with heap:=((s.heap.update a (Obj.mapSeq λ_=> #[])).push (seqObj "tuple" b.toArray 0)).push (seqObj "list" #[] 0)}
 dsimp only;have lz:b.toArray.size<2:=i;rw[ir lz,ir lz];refine wpAny_bind (be ?_);rw[StateT.run_pure];refine wpAny_bind (be ?_);dsimp only
 have f:(arrOf (SortSt.mk' general' (b.toArray.zip b.toArray) #[] 7 none)).map (·.2)=b.toArray:=by
  show(b.toArray.zip b.toArray).map (·.2)=b.toArray;apply Array.toList_inj.mp;simp[List.map_snd_zip]
 refine wpAny_bind (acp e rfl (wpAny_bind (abM e rfl ?_ (hsz2:=by rw[f];rw[abE];lia))))
 simp only[abT,gW,SC];have g:=h;unfold sortedHeap at g;rw[f];exact be g
def zX(e:s.heap.IsList l a.toArray)(f:a.length<2)(h:G (.ref (s.heap.objs.size+1)) {s with heap:=sortedAll s.heap a a.toArray}):
  wpAny (model prog w) A (call (.builtin "sorted") [.ref l]) G E s:=by
 refine aaA acq ab3 ab4 (ab5 (.ref l)) ?_;unfold Builtin.«sorted»;have b:a.length<=sizeLine:=by rw[abE];lia
 refine wpAny_bind (m:=checkCount "sorted" 1 1 _) (be (wpAny_bind (acH e (wpAny_bind (aaI ?_ b)) b)));have c:((s.heap.push (seqObj "list" #[] 0)).update s.heap.objs.size (Obj.mapSeq (·++a.toArray))).objs.size=s.heap.objs.size+1:=by rw[aaD,aaS]
 have d:(((s.heap.push (seqObj "list" #[] 0)).update s.heap.objs.size (Obj.mapSeq (·++a.toArray))).push (seqObj "list" a.toArray 0)).get? (s.heap.objs.size+1)\(seqObj "list" a.toArray 0):=by
  rw[<-c];exact Gc _ rfl
 show wpAny (model prog w) _ _ _ E {s with heap:=((s.heap.push (seqObj "list" #[] 0)).update s.heap.objs.size (Obj.mapSeq (·++a.toArray))).push (seqObj "list" a.toArray 0)}
 rw[c];exact wpAny_bind (KB (On slot_list_sort #[_,d,rfl] entry_list_sort (vV d f #[_,rfl,be #[_,rfl,h]]) (aaT _)))
end
end KS
namespace L2
open PySem PySem.Spec PyProof.Rows
section
variable {X:Cx} {pins:List (Addr×Obj)} {σ:St} {H:Hp} {s:Shared} {h':Heap}
end
def Gv(k:Nat×Nat):List V:= [.int (k.1:Nat), .int (k.2:Nat)]
def Fe(H:Hp)(L:List (Addr×(Nat×Nat))):Prop:=∀p∈L,H p.1\(.tup (Gv p.2))
def Ow 
  (l:IsTup s.heap x [.int a f, .int b g].toArray) (m:IsTup s.heap y [.int c i, .int d j].toArray)
  (h:C (if a=c then decide (b<d) else decide (a<c)) s):wpAny (model prog w) A (keyLt' (tuples' true) (.ref x) (.ref y)) C E s:=by
 rfl';obtain⟨u,o,_,v,p⟩:=l;obtain⟨z,q,_,B,r⟩:=m;ac_rfl;refine PySem.W.kat_lt o p q r ?_;refine PySem.W.kat_cons (aaN a f c i prog w _ _ ?_)
 by_cases e:a=c
 .rw[ir e] at h
  rw[show(a==c)=true by simpa using e]
  refine PySem.W.kat_yes (PySem.W.kat_cons (aaN b g d j prog w _ _ ?_))
  by_cases k:b=d
  .rw[show(b==d)=true by simpa using k]
   refine PySem.W.kat_yes (PySem.W.kat_nil ?_);rw[show decide (b<d)=false by simp;lia] at h
   simpa using h
  .rw[show(b==d)=false by simpa using k]
   refine PySem.W.kat_no (PySem.W.kat_one _ _ ?_);exact lt_int h
 .rw[mo e] at h
  rw[show(a==c)=false by simpa using e]
  exact PySem.W.kat_no (oneLt_int h)
section
variable {X:Cx}
theorem sA:∀{as:List Addr}{us:List Value},Vals (as.map V.ref) us->us=as.map Value.ref
 | [],_, .nil=>rfl
 |a::as,_, .cons r t=>by cases r;rw[sA t];rfl
theorem sq:∀b:List Addr,Vals (b.map V.ref) (b.map Value.ref)
 | []=> .nil
 |a::b=> .cons rfl (sq b)
def JA(I:Inv X b c H s)(h:H a\(.tup (Gv k))):
  ∃t u,IsTup s.heap a [.int (k.1:Nat) t, .int (k.2:Nat) u].toArray:=by
 rfl';obtain⟨e,r,p,_⟩:=I.tuple (fY.of h);obtain⟨g,i,rfl,⟨t,rfl⟩,⟨u,rfl⟩⟩:=Vals.two r;ac_rfl;exact#[t,u,p]
end
end L2
set_option maxHeartbeats 4000000
namespace L2
open PySem PySem.Spec PyProof.Rows
def Xv(a:Addr)(fs:List (Str×V)):HO:= .ext λh=>fs.length<=1000/\∃b,h.Ns1 a b/\(∀f,oY (fs.lookup f) (b f))/\ci b (fs.map (·.1))
section
variable {P:Program} {w:World} {H:Hp} {h:Heap} {a C:Addr} {d:Option Addr} {fs:List (Str×V)}
end
section
variable {X:Cx} {pins:List (Addr×Obj)} {σ:St} {H:Hp} {s:Shared}
variable {a C:Addr} {fs:List (Str×V)} {f:Str} {v:V} {A:Around} {E:Value->Shared->Prop}
end
section
variable {X:Cx} {o e value:Expr} {f:Str} {pos pos' W9:Pos} {ta tv:TE}
end
def cS.of(f:Scope)(e:X.env.scope=f)(k:d.kind= .function)(a:∀x∈d.names,x.2= .local->d.names.lookup x.1\.local)(b:∀x∈d.names,x.2≠ .cell)
  (c:∀x∈d.names,x.2= .free->f.names.lookup x.1\.cell\/f.names.lookup x.1\.free):cS X d:=#[k,a,b,λx g h=>by rw[<-e] at c;exact c x g h]
structure dE (K:ab) (mg:Str->Option Value) (x:Str) (st:Stmt) (ps:List Str) where
 f:Addr
 fd:FuncData
 F:zB K x x st f fd
 b:Binds K fd ps []
 m:mg x\(.ref f)
def bq(h:H p=none)(o:HO):bx H (upd H p o):=λb u q=>by rw[bf (bN q h)];exact q
def small(h:n<=1000):n<=sizeLine:=vg (cL h)
open PySem.Calls
abbrev Qq(C t:Addr)(a:Value)(d:Option Addr):Obj:={cls:= .ref C,dict:=d,data:= .fields [.ref t,a, .none, .none, .bool false, .none].toArray}
def TV(C a:Addr)(d:Option Addr):HO:= .ext λh=>∃t b,h.get? a\(Qq C t b d)
section
variable {P:Program} {w:World} {H:Hp} {h:Heap} {a C:Addr} {d:Option Addr}
end
def T4(h:Heap)(T:Addr):Prop:=∃o a,h.get? T\o/\o.data= .fields a/\a[3]?\.none
section
variable {M:Model} {A:Around} {E:Value->Shared->Prop} {s:Shared}
end
def T5(X:Cx)(H:Hp)(h:Heap)(a:Value):Prop:=a= .none\/∃T,a= .ref T/\X.s₀.heap.objs.size<=T/\T≠X.env.locals/\(∀x c,X.env.cells.lookup x\c->c≠T)/\(∀p∈X.pn,p.1≠T)/\H T=none/\T4 h T
def TX(X:Cx)(H:Hp)(s:Shared)(a:Addr):Prop:=∃C t b d,H a\(TV C a d)/\s.heap.get? a\(Qq C t b d)/\T5 X H s.heap b
section
variable {X:Cx} {pins:List (Addr×Obj)} {σ:St} {H H':Hp} {s s':Shared} {a:Addr}
end
def T7(X:Cx)(b:St)(H:Hp)(a:Addr):Prop:=∀s,Inv X [] b H s->TX X H s a->X.xe (.ref a) s
end L2
namespace TS
open PySem PyProof.Rows
def fJ:Bool->Keyed->Array Keyed->Nat->Nat->Nat->StateT SortSt Sem (Option Nat):=sortPriv%PySem.Builtin.gallop
def qM:Array Keyed->Array Keyed->StateT SortSt Sem (Array Keyed):=sortPriv%PySem.Builtin.mergeLo
def qL:Array Keyed->Array Keyed->StateT SortSt Sem (Array Keyed):=sortPriv%PySem.Builtin.mergeHi
def setMinGallop':Nat->StateT SortSt Sem Unit:=sortPriv%PySem.Builtin.setMinGallop
def jv(left:Bool)(key:Keyed)(arr:Array Keyed)(base i:Nat):StateT SortSt Sem (Option Bool):=do
 let x <-elem' arr (base+i)
 if left then lt' x key else return (<-lt' key x).map (!·)
def DK(left:Bool)(key:Keyed)(arr:Array Keyed)(base n a:Nat):fJ left key arr base n a=(do
 let mut lastofs:=0
 let mut ofs:=1
 let mut lo:=0
 let mut hi:=0
 let some right <-jv left key arr base a|return none
 if right then
  let b:=n-a
  for _ in [0:n] do
   if ofs>=b then break
   let some more <-jv left key arr base (a+ofs) |return none
   if !more then break
   lastofs:=ofs
   ofs:=2*ofs+1
  lo:=a+lastofs+1
  hi:=a+min ofs b
 else
  let b:=a+1
  for _ in [0:n] do
   if ofs>=b then break
   let some found <-jv left key arr base (a-ofs) |return none
   if found then break
   lastofs:=ofs
   ofs:=2*ofs+1
  lo:=a+1-min ofs b
  hi:=a-lastofs
 for _ in [0:n] do
  if lo>=hi then break
  let m:=lo+(hi-lo) / 2
  let some more <-jv left key arr base m|return none
  if more then lo:=m+1 else hi:=m
 return some hi):=rfl
section
variable {O:KeyOrd} {key:Keyed->O.α} {S:Keyed->Prop} {k0:SortKind} {M:Model} {A:Around} {E:Value->Shared->Prop} {s:Shared} {st:SortSt}
def bJ{i:Nat}(h:arr[i]?\x)(q:Q x st):wpS M A E s (elem' arr i) Q st:=by
 rw[elem'_eq,h];exact FB q
end
section
variable {O:KeyOrd} {key:Keyed->O.α} {S:Keyed->Prop} {k0:SortKind} {M:Model} {A:Around} {E:Value->Shared->Prop} {s:Shared} {st ck:SortSt}
structure g7 (ck st:SortSt) (lo hi:Nat):Prop where
 perm:(arrOf st).Perm (arrOf ck)
 kind:kindOf st=kindOf ck
 failed:failedOf st=failedOf ck
 pend:pendingOf st=pendingOf ck
 out:∀i,i<lo\/hi<=i->(arrOf st)[i]? =(arrOf ck)[i]?
theorem g7.refl(st:SortSt)(lo a:Nat):g7 st st lo a:=#[.refl _,rfl,rfl,rfl,λ_ _=>rfl]
theorem g7.trans{d e:SortSt}{lo c:Nat}(a:g7 ck d lo c)(b:g7 d e lo c):g7 ck e lo c:=
 #[b.perm.trans a.perm,b.kind.trans a.kind,b.failed.trans a.failed,b.pend.trans a.pend,λi h=>(b.out i h).trans (a.out i h)]
theorem g7.size{lo b:Nat}(a:g7 ck st lo b):(arrOf st).size=(arrOf ck).size:=a.perm.size_eq
theorem g7.mirror{lo a i j:Nat}(c:lo<=i)(d:j<=a)(b:j<=(arrOf st).size):g7 st (setArr st (mirror (arrOf st) i j ((j-i) / 2))) lo a:=
 #[mirror_perm _ _ _ _,rfl,rfl,rfl,λk h=>by
  show(PyProof.Rows.mirror (arrOf st) i j ((j-i) / 2))[k]? =_;rw[getElem?_mirror_all b,mo ()]]
theorem g7.bubble{lo a src d:Nat}(b:d<=src)(e:lo<=src-d)(f:src<a)(c:src<(arrOf st).size):g7 st (setArr st (bubble (arrOf st) src d)) lo a:=
 #[bubble_perm _ _ _,rfl,rfl,rfl,λk h=>by
  show(PyProof.Rows.bubble (arrOf st) src d)[k]? =_;rw[getElem?_bubble c d b,mo (),mo ()]]
structure Ok (S:Keyed->Prop) (k0:SortKind) (st:SortSt):Prop where
 mem:∀p,p∈(arrOf st).toList->S p
 kind:kindOf st=k0
def Ok.step{lo b:Nat}(o:Ok S k0 ck)(a:g7 ck st lo b):Ok S k0 st:=
 #[λp c=>o.mem p ((CI.mp a.perm).mem_iff.mp c),a.kind.trans o.kind]
def Ok.at{i:Nat}(o:Ok S k0 st)(a:i<(arrOf st).size):(arrOf st)[i]?\((arrOf st)[i]?.getD (.none, .none))/\S ((arrOf st)[i]?.getD (.none, .none)):=by
 have e:(arrOf st)[i]? =some (arrOf st)[i]:=abt _ i a;rw[e];exact#[rfl,o.mem _ (by simp)]
end
def C0(lo a d:Nat):StateT SortSt Sem AscSt:=
 forIn [a:d] ((none,a):AscSt) λ_ b=>do
  let c <-ltAt' (lo+b.snd) (lo+b.snd-1)
  match c with
  |some e=>if e=true then pure (ForInStep.done (none,b.snd)) else pure (ForInStep.yield (none,b.snd+1))
  |_=>pure (ForInStep.done (some none,b.snd))
def tailL(lo n b:Nat):StateT SortSt Sem (Option Nat):=do
 reverseSlice' lo (lo+n)
 let a <-C0 lo n b
 match a.fst with
 |some r=>pure r
 |none=>pure (some a.snd)
def Fw(lo n c:Nat):StateT SortSt Sem DescSt:=
 forIn [n:c] ((none,n,0):DescSt) λ_ a=>do
  let b <-ltAt' (lo+a.snd.fst) (lo+a.snd.fst-1)
  match b with
  |some d=>
   if d=true then
    if a.snd.snd>0 then do
     reverseSlice' (lo+a.snd.fst-(a.snd.snd+1)) (lo+a.snd.fst)
     pure (ForInStep.yield (none,a.snd.fst+1,0))
    else pure (ForInStep.yield (none,a.snd.fst+1,0))
   else do
    let b <-ltAt' (lo+a.snd.fst-1) (lo+a.snd.fst)
    match b with
    |some e=>
     if e=true then pure (ForInStep.done (none,a.snd.fst,a.snd.snd))
     else pure (ForInStep.yield (none,a.snd.fst+1,a.snd.snd+1))
    |_=>pure (ForInStep.done (some none,a.snd.fst,a.snd.snd))
  |_=>pure (ForInStep.done (some none,a.snd.fst,a.snd.snd))
def descP(lo n b:Nat):StateT SortSt Sem (Option Nat):=do
 liftM (rule "list.sort.descending-run")
 let a <-Fw lo (n+1) b
 match a.fst with
 |some r=>pure r
 |none=>
  if a.snd.snd>0 then do
   reverseSlice' (lo+a.snd.fst-(a.snd.snd+1)) (lo+a.snd.fst)
   tailL lo a.snd.fst b
  else tailL lo a.snd.fst b
theorem zI(lo c:Nat):countRun' lo c=(do
  let a <-C0 lo 1 c
  match a.fst with
  |some r=>pure r
  |none=>
   if (a.snd==c)=true then pure (some a.snd)
   else if a.snd>1 then do
    let e <-ltAt' lo (lo+a.snd-1)
    match e with
    |some g=>if g=true then pure (some a.snd) else do
      reverseSlice' lo (lo+a.snd)
      descP lo a.snd c
    |_=>pure none
   else descP lo a.snd c):=by
 rw[countRun'_eq];dsimp only;unfold descP tailL Fw C0
 congr 1
 funext a
 obtain⟨r,n⟩:=a;cases r with
 |some r=>rfl
 |none=>
  dsimp only
  split
  .rfl
  .split
   .congr 1
    funext x
    cases x with
    |none=>rfl
    |some g=>
     dsimp only
     split
     .rfl
     .congr 1
      funext _r
      (congr 1;funext _u;congr 1;congr 1;funext s2;obtain⟨d,h,i⟩:=s2;cases d with
 |some d=>rfl
 |none=>(dsimp only;split;(congr 1;funext _v;(congr 1;funext _w;congr 1;(funext s3;obtain⟨b,f⟩:=s3;cases b<;>rfl)));(congr 1;funext _w;congr 1;(funext s3;obtain⟨b,f⟩:=s3;cases b<;>rfl))))
   ·(congr 1;funext _u;congr 1;congr 1;funext s2;obtain⟨d,h,i⟩:=s2;cases d with
 |some d=>rfl
 |none=>(dsimp only;split;(congr 1;funext _v;(congr 1;funext _w;congr 1;(funext s3;obtain⟨b,f⟩:=s3;cases b<;>rfl)));(congr 1;funext _w;congr 1;(funext s3;obtain⟨b,f⟩:=s3;cases b<;>rfl))))
section
variable {O:KeyOrd} {key:Keyed->O.α} {S:Keyed->Prop} {k0:SortKind} {prog:Program} {w:World} {A:Around} {E:Value->Shared->Prop} {s:Shared} {st ck:SortSt}
def ub(h:Q ⟨⟩ (setArr st (mirror (arrOf st) i j ((j-i) / 2)))):wpS (model prog w) A E s (reverseSlice' i j) Q st:=by
 rw[reverseSlice'_eq];exact aaU h
end
section lists
variable (O:KeyOrd) (key:Keyed->O.α)
variable {O key}
end lists
def BQ(a b:Array Keyed)(h e f d:Nat)(out:Array Keyed)(g:Nat):StateT SortSt Sem (ForInStep (Option (Array Keyed)×Array Keyed×Nat×Nat×Nat×Nat×Nat)):=do
 let c <-elem' a d
 let out:Array Keyed:=out.push c
 let d:Nat:=d+1
 if (d+1==a.size)=true then pure (ForInStep.done (some (out++b.extract g b.size++a.extract d a.size),out,d,g,h,e,f))
 else if (decide (e<7)&&decide (f<7))=true then pure (ForInStep.done (none,out,d,g,h,e,f))
 else pure (ForInStep.yield (none,out,d,g,h,e,f))
def uK(a b:Array Keyed)(f g i d:Nat)(out:Array Keyed)(e:Nat):StateT SortSt Sem (ForInStep (Option (Array Keyed)×Array Keyed×Nat×Nat×Nat×Nat×Nat)):=do
 let c <-elem' b d
 let out:Array Keyed:=out.push c
 let d:Nat:=d+1
 if (d==b.size)=true then pure (ForInStep.done (some (out++a.extract e a.size++b.extract d b.size),out,e,d,f,g,i))
 else do
  let c <-elem' a e
  let h <-fJ true c b d (b.size-d) 0
  match h with
  |some k=>
   if k>0 then
    if (d+k==b.size)=true then pure (ForInStep.done (some (out++b.extract d (d+k)++a.extract e a.size++b.extract (d+k) b.size),out++b.extract d (d+k),e,d+k,f,g,k))
    else BQ a b f g k e (out++b.extract d (d+k)) (d+k)
   else BQ a b f g k e out d
  |_=>pure (ForInStep.done (some (out++a.extract e a.size++b.extract d b.size),out,e,d,f,g,i))
def r8(a b:Array Keyed)(g i c e:Nat)(out:Array Keyed)(f:Nat):StateT SortSt Sem (ForInStep (Option (Array Keyed)×Array Keyed×Nat×Nat×Nat×Nat×Nat)):=do
 setMinGallop' f
 let d <-elem' b e
 let h <-fJ false d a c (a.size-c) 0
 match h with
 |some k=>
  if k>0 then
   if (c+k+1==a.size)=true then pure (ForInStep.done (some (out++a.extract c (c+k)++b.extract e b.size++a.extract (c+k) a.size),out++a.extract c (c+k),c+k,e,f,k,g))
   else if (c+k==a.size)=true then pure (ForInStep.done (some (out++a.extract c (c+k)++a.extract (c+k) a.size++b.extract e b.size),out++a.extract c (c+k),c+k,e,f,k,g))
   else uK a b f k g e (out++a.extract c (c+k)) (c+k)
  else uK a b f k g e out c
 |_=>pure (ForInStep.done (some (out++a.extract c a.size++b.extract e b.size),out,c,e,f,i,g))
def BS(a b:Array Keyed)(c:Option (Array Keyed)×Array Keyed×Nat×Nat×Nat×Nat×Nat):StateT SortSt Sem (ForInStep (Option (Array Keyed)×Array Keyed×Nat×Nat×Nat×Nat×Nat)):=
 if c.2.2.2.2.1>1 then r8 a b c.2.2.2.2.2.2 c.2.2.2.2.2.1 c.2.2.1 c.2.2.2.1 c.2.1 (c.2.2.2.2.1-1) else r8 a b c.2.2.2.2.2.2 c.2.2.2.2.2.1 c.2.2.1 c.2.2.2.1 c.2.1 c.2.2.2.2.1
def BR(a b:Array Keyed)(e:Nat)(c:Option (Array Keyed)×Array Keyed×Nat×Nat×Nat×Nat):StateT SortSt Sem (ForInStep (Option (Array Keyed)×Array Keyed×Nat×Nat×Nat×Nat)):=do
 let y <-elem' b c.2.2.2.1
 let x <-elem' a c.2.2.1
 let d <-lt' y x
 match d with
 |some f=>
  if f=true then do
   let y <-elem' b c.2.2.2.1
   if (c.2.2.2.1+1==b.size)=true then pure (ForInStep.done (some (c.2.1.push y++a.extract c.2.2.1 a.size++b.extract (c.2.2.2.1+1) b.size),c.2.1.push y,c.2.2.1,c.2.2.2.1+1,0,c.2.2.2.2.2+1))
   else if c.2.2.2.2.2+1>=e then pure (ForInStep.done (none,c.2.1.push y,c.2.2.1,c.2.2.2.1+1,0,c.2.2.2.2.2+1))
   else pure (ForInStep.yield (none,c.2.1.push y,c.2.2.1,c.2.2.2.1+1,0,c.2.2.2.2.2+1))
  else do
   let x <-elem' a c.2.2.1
   if (c.2.2.1+1+1==a.size)=true then pure (ForInStep.done (some (c.2.1.push x++b.extract c.2.2.2.1 b.size++a.extract (c.2.2.1+1) a.size),c.2.1.push x,c.2.2.1+1,c.2.2.2.1,c.2.2.2.2.1+1,0))
   else if c.2.2.2.2.1+1>=e then pure (ForInStep.done (none,c.2.1.push x,c.2.2.1+1,c.2.2.2.1,c.2.2.2.2.1+1,0))
   else pure (ForInStep.yield (none,c.2.1.push x,c.2.2.1+1,c.2.2.2.1,c.2.2.2.2.1+1,0))
 |_=>pure (ForInStep.done (some (c.2.1++a.extract c.2.2.1 a.size++b.extract c.2.2.2.1 b.size),c.2.1,c.2.2.1,c.2.2.2.1,c.2.2.2.2.1,c.2.2.2.2.2))
def tE(a b:Array Keyed)(f:Option (Array Keyed)×Array Keyed×Nat×Nat×Nat):StateT SortSt Sem (ForInStep (Option (Array Keyed)×Array Keyed×Nat×Nat×Nat)):=do
 let e <-forIn [0:a.size+b.size] (none,f.2.1,f.2.2.1,f.2.2.2.1,0,0) λ_ c=>BR a b f.2.2.2.2 c
 match e.1 with
 |some r=>pure (ForInStep.done (some r,e.2.1,e.2.2.1,e.2.2.2.1,f.2.2.2.2))
 |none=>do
  liftM (rule "list.sort.gallop")
  let d <-forIn [0:a.size+b.size] (none,e.2.1,e.2.2.1,e.2.2.2.1,f.2.2.2.2+1,e.2.2.2.2.1,e.2.2.2.2.2) λ_ c=>BS a b c
  match d.1 with
  |some r=>pure (ForInStep.done (some r,d.2.1,d.2.2.1,d.2.2.2.1,d.2.2.2.2.1))
  |none=>do
   setMinGallop' (d.2.2.2.2.1+1)
   pure (ForInStep.yield (none,d.2.1,d.2.2.1,d.2.2.2.1,d.2.2.2.2.1+1))
def dY{b d:Type}{m c:StateT SortSt Sem b}{f a:b->StateT SortSt Sem d}(h:m=c)(g:∀x,f x=a x):m>>=f=c>>=a:=by rw[h,show f=a from funext g]
def Bt{a:Type}{n:Nat}{d:a}{f b:Nat->a->StateT SortSt Sem (ForInStep a)}(h:∀i c,f i c=b i c):forIn [0:n] d f=forIn [0:n] d b:=by rw[show f=b from funext λi=>funext (h i)]
def fV [Decidable c] (h:c->x=a) (g:¬c->y=b):(if c then x else y)=if c then a else b:=by
 by_cases e:c
 .rw[ir e,ir e];exact h e
 .rw[mo e,mo e];exact g e
def zR(a b:Array Keyed):qM a b=(do
 rule "list.sort.merge-lo"
 let e:=a.size+b.size
 let done (out:Array Keyed) (c d:Nat):=out++a.extract c a.size++b.extract d b.size
 let f (out:Array Keyed) (c d:Nat):=out++b.extract d b.size++a.extract c a.size
 let mut out:Array Keyed:= [<-elem' b 0].toArray
 let mut c:=0
 let mut d:=1
 if d==b.size then return done out c d
 if c+1==a.size then return f out c d
 let mut minGallop:=gallopOf (<-get)
 for _ in [0:e] do
  let mut acount:=0
  let mut bcount:=0
  for _ in [0:e] do
   let some Fi <-lt' (<-elem' b d) (<-elem' a c) |return done out c d
   if Fi then
    out:=out.push (<-elem' b d);d:=d+1;bcount:=bcount+1;acount:=0
    if d==b.size then return done out c d
    if bcount>=minGallop then break
   else
    out:=out.push (<-elem' a c);c:=c+1;acount:=acount+1;bcount:=0
    if c+1==a.size then return f out c d
    if acount>=minGallop then break
  rule "list.sort.gallop"
  minGallop:=minGallop+1
  for _ in [0:e] do
   if minGallop>1 then minGallop:=minGallop-1
   setMinGallop' minGallop
   let some k <-fJ false (<-elem' b d) a c (a.size-c) 0|return done out c d
   acount:=k
   if k>0 then
    out:=out++a.extract c (c+k);c:=c+k
    if c+1==a.size then return f out c d
    if c==a.size then return done out c d
   out:=out.push (<-elem' b d);d:=d+1
   if d==b.size then return done out c d
   let some k <-fJ true (<-elem' a c) b d (b.size-d) 0|return done out c d
   bcount:=k
   if k>0 then
    out:=out++b.extract d (d+k);d:=d+k
    if d==b.size then return done out c d
   out:=out.push (<-elem' a c);c:=c+1
   if c+1==a.size then return f out c d
   if acount<7&&bcount<7 then break
  minGallop:=minGallop+1
  setMinGallop' minGallop
 unsupported "internal:list.sort.merge-bound"):=rfl
theorem BX(a b:Array Keyed):qM a b=(do
 liftM (rule "list.sort.merge-lo")
 let y <-elem' b 0
 if (1==b.size)=true then pure ([y].toArray++a.extract 0 a.size++b.extract 1 b.size)
 else if (0+1==a.size)=true then pure ([y].toArray++b.extract 1 b.size++a.extract 0 a.size)
 else do
  let d <-get
  let e <-forIn [0:a.size+b.size] (none, [y].toArray,0,1,gallopOf d) λ_ c=>tE a b c
  match e.1 with
  |some r=>pure r
  |none=>liftM (unsupported (α:=Array Keyed) "internal:list.sort.merge-bound")):=by
 rw[zR];dsimp only;refine dY rfl λ_=>dY rfl λy=>?_;refine GM (ite _ _) (GM (ite _ _) ?_);refine dY rfl λg=>dY (Bt λ_ c=>?_) λu=>?_
 .unfold tE
  refine dY (Bt λ_ t=>?_) λt=>?_
  .unfold BR
   refine dY rfl λ_=>dY rfl λ_=>dY rfl λz=>?_;cases z<;>rfl
  .obtain⟨i,l⟩:=t
   cases i with
   |some r=>rfl
   |none=>
    dsimp only;refine dY rfl λ_=>dY (Bt λ_ u=>?_) λu=>?_
    .unfold BS
     have m:∀h,r8 a b u.2.2.2.2.2.2 u.2.2.2.2.2.1 u.2.2.1 u.2.2.2.1 u.2.1 h=r8 a b u.2.2.2.2.2.2 u.2.2.2.2.2.1 u.2.2.1 u.2.2.2.1 u.2.1 h:=λ_=>rfl;refine fV (λ_=>?_) (λ_=>?_)
     all_goals
      unfold r8;refine dY rfl λ_=>dY rfl λ_=>dY rfl λz=>?_;cases z with
      |none=>rfl
      |some k=>
       dsimp only;refine fV (λ_=>?_) (λ_=>?_)
       .refine fV (λ_=>rfl) (λ_=>fV (λ_=>rfl) (λ_=>?_))
        unfold uK;refine dY rfl λ_=>fV (λ_=>rfl) (λ_=>dY rfl λ_=>dY rfl λz=>?_);cases z with
        |none=>rfl
        |some k=>rfl
       .unfold uK
        refine dY rfl λ_=>fV (λ_=>rfl) (λ_=>dY rfl λ_=>dY rfl λz=>?_);cases z with
        |none=>rfl
        |some k=>rfl
    .obtain⟨f,j⟩:=u
     cases f<;>rfl
 .obtain⟨f,j⟩:=u
  cases f<;>rfl
structure GS (st aC:SortSt):Prop where
 arr:arrOf aC=arrOf st
 kind:kindOf aC=kindOf st
 failed:failedOf aC=failedOf st
 pend:pendingOf aC=pendingOf st
def GS.refl(st:SortSt):GS st st:=#[rfl,rfl,rfl,rfl]
theorem GS.trans(x:GS a b)(y:GS b c):GS a c:=#[y.arr.trans x.arr,y.kind.trans x.kind,y.failed.trans x.failed,y.pend.trans x.pend]
def tZ(g:Nat):setMinGallop' g=modify λs=>SortSt.mk' (kindOf s) (arrOf s) (pendingOf s) g (failedOf s):=rfl
def ext_toList(a:Array Keyed)(i j:Nat):(a.extract i j).toList=(a.toList.drop i).take (j-i):=by
 rw[Array.toList_extract]
def DD(a:Array Keyed)(i:Nat):(a.extract i a.size).toList=a.toList.drop i:=by
 rw[ext_toList,E5 (by simp)]
def drop_cons{xs:Array Keyed}(h:xs[i]?\x):xs.toList.drop i=x::xs.toList.drop (i+1):=by
 have a:xs.toList[i]?\x:=by rw[<-h];simp
 obtain⟨b,e⟩:=eC.mp a;rw[qv b,e]
def vB(l:List Keyed)(i k:Nat):l.drop i=(l.drop i).take k++l.drop (i+k):=by
 rw[<-acz,jE]
section
variable {O:KeyOrd} {key:Keyed->O.α} {S:Keyed->Prop} {k0:SortKind} {M:Model} {A:Around} {E:Value->Shared->Prop} {s:Shared} {st ck:SortSt}
def qP(h:∀a,GS st a->Q ⟨⟩ a):wpS M A E s (setMinGallop' g) Q st:=by
 rw[tZ];exact aaU (h _ #[rfl,rfl,rfl,rfl])
def eN{xs:Array Keyed}{i:Nat}(h:i<xs.size):∃x,xs[i]?\x/\x∈xs.toList/\xs.toList[i]?\x:=by
 refine#[xs[i],abt xs i h,by simp,?_]
 rw[gk];exact abt xs i h
def L3{a:Array Keyed}{i:Nat}{x:Keyed}(h:a[i]?\x):a.toList[i]?\x:=by rw[gk];exact h
end
def zQ(a b:Array Keyed):qL a b=(do
 rule "list.sort.merge-hi"
 let c:=a.size+b.size
 let done (out:Array Keyed) (na nb:Nat):=a.extract 0 na++b.extract 0 nb++out.reverse
 let d (out:Array Keyed) (na nb:Nat):=b.extract 0 nb++a.extract 0 na++out.reverse
 let mut na:=a.size-1
 let mut nb:=b.size
 let mut out:Array Keyed:= [<-elem' a na].toArray
 if na==0 then return done out na nb
 if nb==1 then return d out na nb
 let mut minGallop:=gallopOf (<-get)
 for _ in [0:c] do
  let mut acount:=0
  let mut bcount:=0
  for _ in [0:c] do
   let some Fh <-lt' (<-elem' b (nb-1)) (<-elem' a (na-1)) |return done out na nb
   if Fh then
    na:=na-1;out:=out.push (<-elem' a na);acount:=acount+1;bcount:=0
    if na==0 then return done out na nb
    if acount>=minGallop then break
   else
    nb:=nb-1;out:=out.push (<-elem' b nb);bcount:=bcount+1;acount:=0
    if nb==1 then return d out na nb
    if bcount>=minGallop then break
  rule "list.sort.gallop"
  minGallop:=minGallop+1
  for _ in [0:c] do
   if minGallop>1 then minGallop:=minGallop-1
   setMinGallop' minGallop
   let some at_ <-fJ false (<-elem' b (nb-1)) a 0 na (na-1) |return done out na nb
   let k:=na-at_
   acount:=k
   if k>0 then
    out:=out++(a.extract at_ na).reverse;na:=at_
    if na==0 then return done out na nb
   nb:=nb-1;out:=out.push (<-elem' b nb)
   if nb==1 then return d out na nb
   let some at_ <-fJ true (<-elem' a (na-1)) b 0 nb (nb-1) |return done out na nb
   let k:=nb-at_
   bcount:=k
   if k>0 then
    out:=out++(b.extract at_ nb).reverse;nb:=at_
    if nb==1 then return d out na nb
    if nb==0 then return done out na nb
   na:=na-1;out:=out.push (<-elem' a na)
   if na==0 then return done out na nb
   if acount<7&&bcount<7 then break
  minGallop:=minGallop+1
  setMinGallop' minGallop
 unsupported "internal:list.sort.merge-bound"):=rfl
abbrev S7:=Option (Array Keyed)×Nat×Nat×Array Keyed×Nat×Nat×Nat
abbrev S6:=Option (Array Keyed)×Nat×Nat×Array Keyed×Nat×Nat
abbrev S5:=Option (Array Keyed)×Nat×Nat×Array Keyed×Nat
def lS(a b out:Array Keyed)(c d:Nat):Array Keyed:=a.extract 0 c++b.extract 0 d++out.reverse
def wX(a b out:Array Keyed)(c d:Nat):Array Keyed:=b.extract 0 d++a.extract 0 c++out.reverse
def Bx(a b:Array Keyed)(g d e c:Nat)(out:Array Keyed)(f:Nat):StateT SortSt Sem (ForInStep S7):=do
 let x <-elem' a (c-1)
 if (c-1==0)=true then pure (ForInStep.done (some (lS a b (out.push x) (c-1) f),c-1,f,out.push x,g,d,e))
 else if (decide (d<7)&&decide (e<7))=true then pure (ForInStep.done (none,c-1,f,out.push x,g,d,e))
 else pure (ForInStep.yield (none,c-1,f,out.push x,g,d,e))
def uC(a b:Array Keyed)(e f h c:Nat)(out:Array Keyed)(d:Nat):StateT SortSt Sem (ForInStep S7):=do
 let y <-elem' b (c-1)
 if (c-1==1)=true then pure (ForInStep.done (some (wX a b (out.push y) d (c-1)),d,c-1,out.push y,e,f,h))
 else do
  let x <-elem' a (d-1)
  let g <-fJ true x b 0 (c-1) (c-1-1)
  match g with
  |some p=>
   if c-1-p>0 then
    if (p==1)=true then pure (ForInStep.done (some (wX a b (out.push y++(b.extract p (c-1)).reverse) d p),d,p,out.push y++(b.extract p (c-1)).reverse,e,f,c-1-p))
    else if (p==0)=true then pure (ForInStep.done (some (lS a b (out.push y++(b.extract p (c-1)).reverse) d p),d,p,out.push y++(b.extract p (c-1)).reverse,e,f,c-1-p))
    else Bx a b e f (c-1-p) d (out.push y++(b.extract p (c-1)).reverse) p
   else Bx a b e f (c-1-p) d (out.push y) (c-1)
  |_=>pure (ForInStep.done (some (lS a b (out.push y) d (c-1)),d,c-1,out.push y,e,f,h))
def xV(a b:Array Keyed)(f h c d:Nat)(out:Array Keyed)(e:Nat):StateT SortSt Sem (ForInStep S7):=do
 setMinGallop' e
 let y <-elem' b (d-1)
 let g <-fJ false y a 0 c (c-1)
 match g with
 |some p=>
  if c-p>0 then
   if (p==0)=true then pure (ForInStep.done (some (lS a b (out++(a.extract p c).reverse) p d),p,d,out++(a.extract p c).reverse,e,c-p,f))
   else uC a b e (c-p) f d (out++(a.extract p c).reverse) p
  else uC a b e (c-p) f d out c
 |_=>pure (ForInStep.done (some (lS a b out c d),c,d,out,e,h,f))
def Bz(a b:Array Keyed)(c:S7):StateT SortSt Sem (ForInStep S7):=
 if c.2.2.2.2.1>1 then xV a b c.2.2.2.2.2.2 c.2.2.2.2.2.1 c.2.1 c.2.2.1 c.2.2.2.1 (c.2.2.2.2.1-1) else xV a b c.2.2.2.2.2.2 c.2.2.2.2.2.1 c.2.1 c.2.2.1 c.2.2.2.1 c.2.2.2.2.1
def By(a b:Array Keyed)(e:Nat)(c:S6):StateT SortSt Sem (ForInStep S6):=do
 let y <-elem' b (c.2.2.1-1)
 let x <-elem' a (c.2.1-1)
 let d <-lt' y x
 match d with
 |some f=>
  if f=true then do
   let x <-elem' a (c.2.1-1)
   if (c.2.1-1==0)=true then pure (ForInStep.done (some (lS a b (c.2.2.2.1.push x) (c.2.1-1) c.2.2.1),c.2.1-1,c.2.2.1,c.2.2.2.1.push x,c.2.2.2.2.1+1,0))
   else if c.2.2.2.2.1+1>=e then pure (ForInStep.done (none,c.2.1-1,c.2.2.1,c.2.2.2.1.push x,c.2.2.2.2.1+1,0))
   else pure (ForInStep.yield (none,c.2.1-1,c.2.2.1,c.2.2.2.1.push x,c.2.2.2.2.1+1,0))
  else do
   let y <-elem' b (c.2.2.1-1)
   if (c.2.2.1-1==1)=true then pure (ForInStep.done (some (wX a b (c.2.2.2.1.push y) c.2.1 (c.2.2.1-1)),c.2.1,c.2.2.1-1,c.2.2.2.1.push y,0,c.2.2.2.2.2+1))
   else if c.2.2.2.2.2+1>=e then pure (ForInStep.done (none,c.2.1,c.2.2.1-1,c.2.2.2.1.push y,0,c.2.2.2.2.2+1))
   else pure (ForInStep.yield (none,c.2.1,c.2.2.1-1,c.2.2.2.1.push y,0,c.2.2.2.2.2+1))
 |_=>pure (ForInStep.done (some (lS a b c.2.2.2.1 c.2.1 c.2.2.1),c.2.1,c.2.2.1,c.2.2.2.1,c.2.2.2.2.1,c.2.2.2.2.2))
def sY(a b:Array Keyed)(f:S5):StateT SortSt Sem (ForInStep S5):=do
 let e <-forIn [0:a.size+b.size] ((none,f.2.1,f.2.2.1,f.2.2.2.1,0,0):S6) λ_ c=>By a b f.2.2.2.2 c
 match e.1 with
 |some r=>pure (ForInStep.done (some r,e.2.1,e.2.2.1,e.2.2.2.1,f.2.2.2.2))
 |none=>do
  liftM (rule "list.sort.gallop")
  let d <-forIn [0:a.size+b.size] ((none,e.2.1,e.2.2.1,e.2.2.2.1,f.2.2.2.2+1,e.2.2.2.2.1,e.2.2.2.2.2):S7) λ_ c=>Bz a b c
  match d.1 with
  |some r=>pure (ForInStep.done (some r,d.2.1,d.2.2.1,d.2.2.2.1,d.2.2.2.2.1))
  |none=>do
   setMinGallop' (d.2.2.2.2.1+1)
   pure (ForInStep.yield (none,d.2.1,d.2.2.1,d.2.2.2.1,d.2.2.2.2.1+1))
theorem BW(a b:Array Keyed):qL a b=(do
 liftM (rule "list.sort.merge-hi")
 let x <-elem' a (a.size-1)
 if (a.size-1==0)=true then pure (lS a b [x].toArray (a.size-1) b.size)
 else if (b.size==1)=true then pure (wX a b [x].toArray (a.size-1) b.size)
 else do
  let d <-get
  let e <-forIn [0:a.size+b.size] ((none,a.size-1,b.size, [x].toArray,gallopOf d):S5) λ_ c=>sY a b c
  match e.1 with
  |some r=>pure r
  |none=>liftM (unsupported (α:=Array Keyed) "internal:list.sort.merge-bound")):=by
 rw[zQ];dsimp only;refine dY rfl λ_=>dY rfl λy=>?_;refine GM (ite _ _) (GM (ite _ _) ?_);refine dY rfl λg=>dY (Bt λ_ c=>?_) λu=>?_
 .unfold sY
  refine dY (Bt λ_ t=>?_) λt=>?_
  .unfold By
   refine dY rfl λ_=>dY rfl λ_=>dY rfl λz=>?_;cases z<;>rfl
  .obtain⟨h,j⟩:=t
   cases h with
   |some r=>rfl
   |none=>
    dsimp only;refine dY rfl λ_=>dY (Bt λ_ u=>?_) λu=>?_
    .unfold Bz
     refine fV (λ_=>?_) (λ_=>?_)
     all_goals
      unfold xV;refine dY rfl λ_=>dY rfl λ_=>dY rfl λz=>?_;cases z with
      |none=>rfl
      |some k=>
       dsimp only;refine fV (λ_=>?_) (λ_=>?_)
       .refine fV (λ_=>rfl) (λ_=>?_)
        unfold uC;refine dY rfl λ_=>fV (λ_=>rfl) (λ_=>dY rfl λ_=>dY rfl λz=>?_);cases z with
        |none=>rfl
        |some k=>rfl
       .unfold uC
        refine dY rfl λ_=>fV (λ_=>rfl) (λ_=>dY rfl λ_=>dY rfl λz=>?_);cases z with
        |none=>rfl
        |some k=>rfl
    .obtain⟨f,i⟩:=u
     cases f<;>rfl
 .obtain⟨f,i⟩:=u
  cases f<;>rfl
section
variable {O:KeyOrd} {key:Keyed->O.α} {S:Keyed->Prop} {k0:SortKind} {M:Model} {A:Around} {E:Value->Shared->Prop} {s:Shared} {st ck:SortSt} {a b:Array Keyed}
def Qr(c:Array Keyed)(n:Nat):(c.extract 0 n).toList=c.toList.take n:=by rw[ext_toList];simp
def vX(l:List Keyed)(h:p<=n):l.take n=l.take p++(l.drop p).take (n-p):=by
 conv=>lhs;rw[<-jE p (l.take n)]
 rw[List.take_take,show min p n=p by lia,List.drop_take]
end
def BV(i:Nat):mergeAt' i=(do
 let s <-get
 let (some (sa,na,power),some (sb,nb,_)):=((pendingOf s)[i]?,(pendingOf s)[i+1]?) |unsupported "internal:list.sort.pending"
 set (setPending s (((pendingOf s).setIfInBounds i (sa,na+nb,power)).eraseIdxIfInBounds (i+1)))
 let some k <-fJ false (<-elem' (arrOf s) sb) (arrOf s) sa na 0|return false
 let (sa,na):=(sa+k,na-k)
 if na==0 then return true
 let some nb <-fJ true (<-elem' (arrOf s) (sa+na-1)) (arrOf s) sb nb (nb-1) |return false
 if nb==0 then return true
 let x:=(arrOf s).extract sa sb
 let y:=(arrOf s).extract sb (sb+nb)
 let merged <-if na<=nb then qM x y else qL x y
 modify λs=>setArr s (merged.toList.zipIdx.foldl (λa (p,j)=>a.setIfInBounds (sa+j) p) (arrOf s))
 return (failedOf (<-get)).isNone):=rfl
theorem xP:∀(m:List Keyed)(off b:Nat)(c:Array Keyed),b+off+m.length<=c.size->
  ((m.zipIdx off).foldl (λa (p:Keyed×Nat)=>a.setIfInBounds (b+p.2) p.1) c).size=c.size/\∀i,((m.zipIdx off).foldl (λa (p:Keyed×Nat)=>a.setIfInBounds (b+p.2) p.1) c)[i]? =if b+off<=i/\i<b+off+m.length then m[i-(b+off)]? else c[i]?
 | [],off,b,c,_=>#[rfl,λi=>by rw[mo (by simp)];rfl]
 |x::m,off,b,c,h=>by
  rw[cv] at h;have e:=xP m (off+1) b (c.setIfInBounds (b+off) x) (by rw[aaP];lia)
  rw[List.zipIdx_cons,ace];refine#[by rw[e.1,aaP],λi=>?_]
  rw[e.2 i]
  by_cases f:b+(off+1)<=i/\i<b+(off+1)+m.length
  .rw[ir f,ir (by rw[cv];lia),show i-(b+off)=(i-(b+(off+1)))+1 by lia,ud]
  .rw[mo f,abA]
   by_cases d:b+off=i
   .rw[ir d,ir (),ir (by rw[cv];lia),<-d,uk];rfl
   .rw[mo d,mo (by rw[cv];lia)]
def putAt(c m:Array Keyed)(b:Nat):Array Keyed:=m.toList.zipIdx.foldl (λa (p:Keyed×Nat)=>a.setIfInBounds (b+p.2) p.1) c
def GA(h:b+m.size<=a.size)(i:Nat):(putAt a m b)[i]? =if b<=i/\i<b+m.size then m[i-b]? else a[i]? :=by
 have:=(xP m.toList 0 b a (~~~h)).2 i
 unfold putAt;rw[this];simp
def EE(h:b+m.size<=a.size)(p:m.toList.Perm ((a.toList.drop b).take m.size)):(putAt a m b).Perm a:=by
 rw[CI]
 have e:(putAt a m b).toList=a.toList.take b++(m.toList++a.toList.drop (b+m.size)):=by
  apply rJ;intro i;rw[gk,GA h,List.getElem?_append,List.getElem?_append,i6,eD,eD,abI,CO,gk,gk,gk]
  repeat' split
  all_goals first|rfl| (exfalso;lia) | (congr 1;lia)
 have c:a.toList=a.toList.take b++((a.toList.drop b).take m.size++a.toList.drop (b+m.size)):=by
  conv=>lhs;rw[<-jE b a.toList,vB a.toList b m.size]
 rw[e]
 conv=>rhs;rw[c]
 exact aap _ (p.append_right _)
section
variable {O:KeyOrd} {key:Keyed->O.α} {S:Keyed->Prop} {k0:SortKind} {prog:Program} {w:World} {A:Around} {E:Value->Shared->Prop} {s:Shared} {st ck:SortSt}
def Nx(h:Q ⟨⟩ a):wpS M A E s (set a:StateT SortSt Sem PUnit) Q st:=by
 unfold wpS;rw[StateT.run_set];exact be #[rfl,h]
end
abbrev U1:=Option Unit×Unit
def Ib(a:Nat):StateT SortSt Sem (ForInStep U1):=do
 let st <-get
 match (if (pendingOf st).size>1 then(pendingOf st)[(pendingOf st).size-2]? else none) with
 |some (_,_,b)=>
  if b<=a then pure (ForInStep.done (none,Unit.unit))
  else do
   let ok <-mergeAt' ((pendingOf st).size-2)
   if (!ok)=true then pure (ForInStep.done (some ⟨⟩,Unit.unit)) else pure (ForInStep.yield (none,Unit.unit))
 |_=>pure (ForInStep.done (none,Unit.unit))
def n5(size lo n:Nat):StateT SortSt Sem (ForInStep (Option Unit×Nat)):=do
 let st <-get
 match (pendingOf st).back? with
 |some (b,a,_)=>do
  let t <-forIn [0:size] ((none,⟨⟩):U1) λ_ _=>Ib (power' size (2*b+a) (2*b+a+a+n) size)
  match t.1 with
  |some r=>pure (ForInStep.done (some r,lo))
  |none=>do
   modify λs=>setPending s ((pendingOf s).modify ((pendingOf s).size-1) λx=>(x.1,x.2.1,power' size (2*b+a) (2*b+a+a+n) size))
   modify λs=>setPending s ((pendingOf s).push (lo,n,0))
   pure (ForInStep.yield (none,lo+n))
 |_=>do
  modify λs=>setPending s ((pendingOf s).push (lo,n,0))
  pure (ForInStep.yield (none,lo+n))
def Cy(size lo:Nat):StateT SortSt Sem (ForInStep (Option Unit×Nat)):=
 if lo>=size then pure (ForInStep.done (none,lo))
 else do
  let x <-countRun' lo (size-lo)
  match x with
  |some a=>
   if a<minRun' size size 0 then do
    liftM (rule "list.sort.binary-insertion")
    let ok <-binarySort' lo (min (size-lo) (minRun' size size 0)) a
    if (!ok)=true then pure (ForInStep.done (some ⟨⟩,lo)) else n5 size lo (min (size-lo) (minRun' size size 0))
   else n5 size lo a
  |_=>pure (ForInStep.done (some ⟨⟩,lo))
def Nj:StateT SortSt Sem (ForInStep U1):=do
 let st <-get
 if (pendingOf st).size<=1 then pure (ForInStep.done (none,Unit.unit))
 else do
  let ok <-mergeAt' (if (if (pendingOf st).size-2>0 then(pendingOf st)[(pendingOf st).size-2-1]?.map (·.2.1) else none).any (·<((pendingOf st)[(pendingOf st).size-2+1]?.elim 0 (·.2.1))) then(pendingOf st).size-2-1 else(pendingOf st).size-2)
  if (!ok)=true then pure (ForInStep.done (some ⟨⟩,Unit.unit)) else pure (ForInStep.yield (none,Unit.unit))
theorem y8:sortRuns'=(do
 let st <-get
 let c <-forIn [0:(arrOf st).size] ((none,0):Option Unit×Nat) λ_ c=>Cy (arrOf st).size c.2
 match c.1 with
 |some r=>pure r
 |none=>do
  let t <-forIn [0:(arrOf st).size] ((none,⟨⟩):U1) λ_ _=>Nj
  match t.1 with
  |some r=>pure r
  |none=>pure ⟨⟩):=by
 rw[sortRuns'_eq];dsimp only;refine dY rfl λst=>dY (Bt λ_ c=>?_) λc=>?_
 .unfold Cy
  refine fV (λ_=>rfl) (λ_=>dY rfl λx=>?_);cases x with
  |none=>rfl
  |some f=>
   dsimp only;have i:∀n:Nat,n5 (arrOf st).size c.2 n=n5 (arrOf st).size c.2 n:=λ_=>rfl;refine fV (λ_=>dY rfl λ_=>dY rfl λok=>fV (λ_=>rfl) (λ_=>?_)) (λ_=>?_)
   all_goals
    unfold n5;refine dY rfl λd=>?_;cases(pendingOf d).back? with
    |none=>rfl
    |some e=>
     obtain⟨j,k,l⟩:=e;dsimp only;refine dY (Bt λ_ c=>?_) λt=>?_
     .unfold Ib
      refine dY rfl λa=>?_;cases(if (pendingOf a).size>1 then(pendingOf a)[(pendingOf a).size-2]? else none) with
      |none=>rfl
      |some e=>rfl
     .obtain⟨b,g⟩:=t
      cases b<;>rfl
 .obtain⟨h,m⟩:=c
  cases h with
  |some r=>rfl
  |none=>
   dsimp only;refine dY (Bt λ_ c=>?_) λt=>?_
   .rfl
   .obtain⟨b,g⟩:=t
    cases b<;>rfl
end TS
namespace L2
open PySem PySem.Spec PyProof.Rows
section
open PySem.SeqAt
open PySem.AutoSeq1 (wpAny_loadPart')
open PySem.MeetsSeq PySem.MeetsSeq2 PySem.MeetsSeq3
def D4{c:List Value}{d:List Int}(h:IntsAre c d){i:Nat}{a:Int}(e:d[i]?\a):∃t,c[i]?\(.int a t):=by
 induction h generalizing i with
 |nil=>simp at e
 |cons b t _ f=>
  cases i with
  |zero=>simp at e;subst e;exact#[t,rfl]
  |succ i=>simp at e;obtain⟨u,g⟩:=f e;exact#[u,by simpa using g]
theorem L4(l b:Addr)(a j:Array Value)(n C:Nat)(E F:Option Addr)(G H:Array (Option Value))(m f:List Int)(y:IntsAre a.toList m)(z:IntsAre j.toList f)(k:Nat):
  ∀i:Nat,a.size-i=k->i<=a.size->i<=j.size->Meets (Builtin.«list.__eq__.loop» #[[.ref l, .ref b,rawInt i,rawInt 0],[]])
   (λA R s=>s.heap.get? l\{cls:= .type "list",dict:=E,data:= .seq a n,slots:=G}/\s.heap.get? b\{cls:= .type "list",dict:=F,data:= .seq j C,slots:=H}/\
    R (.ok (.ret (.bool (HT.lexLt (m.drop i) (f.drop i))))) s):=by
 have X:a.size=m.length:=by rw[<-y.length];simp
 have Y:j.size=f.length:=by rw[<-z.length];simp
 induction k with
 |zero=>
  intro i I J L prog w A R s h;obtain⟨r,g,d,v,os⟩:=s;obtain⟨o,p,h⟩:=h
  wp_walk using wpAny_loadPart' o,wpAny_loadPart' p
  have qS:a[((i:Nat):Int).toNat]? =none:=by simp;lia
  rw[qS];have M:m.drop i= []:=aa7 ()
  rw[M] at h
  have N:HT.lexLt [] (f.drop i)=decide (a.size<j.size):=by
   by_cases c:i<f.length
   .rw[qv c,HT.wB]
    exact(GT ()).symm
   .rw[aa7 (),HT.yk]
    exact(GE ()).symm
  rw[N] at h
  wp_walk using wpAny_loadPart' o,wpAny_loadPart' p
  exact h
 |succ k O=>
  intro i I J L prog w A R s h;obtain⟨r,g,d,v,os⟩:=s;obtain⟨o,p,h⟩:=h
  wp_walk using wpAny_loadPart' o,wpAny_loadPart' p
  have x:i<m.length:=()
  obtain⟨t,P⟩:=D4 y (cM x);have qS:a[((i:Nat):Int).toNat]?\(.int m[i] t):=by rw[ug,<-gk];exact P
  have Q:((i:Int)+1)=((i+1:Nat):Int):=by push_cast;rfl
  rw[qS]
  by_cases c:i<f.length
  .obtain⟨u,S⟩:=D4 z (cM c)
   have zL:j[((i:Nat):Int).toNat]?\(.int f[i] u):=by rw[ug,<-gk];exact S
   rw[zL];rw[qv x,qv c,HT.D9] at h;obtain⟨e,T,B⟩:=HT.Ak A.in1 #[r,g,d,v,os] m[i] t f[i] u;refine wpAny_bind (T prog w _ _ ?_);cases e with
   |true=>
    rw[ir (B.mp rfl)] at h
    wp_walk
    rw[Q]
    exact#[aaq abN _,aam entry_eq_loop (by
     rw[UV abN _];exact O (i+1) () () () prog w A R _ #[o,p,h])]
   |false=>
    rw[mo (λq=>absurd (B.mpr q) dA)] at h
    wp_walk using wpAny_loadPart' o,wpAny_loadPart' p
    rw[qS,zL];have U:=HT.AR A.in1 #[r,g,d,v,os] m[i] t f[i] u prog w
    wp_walk using U
    exact h
  .have zL:j[((i:Nat):Int).toNat]? =none:=by simp;lia
   rw[zL];rw[qv x,aa7 (show f.length<=i by lia),HT.wA] at h
   wp_walk using wpAny_loadPart' o,wpAny_loadPart' p
   show R (.ok (.ret (.bool (decide (a.size<j.size))))) _;rw[GE ()]
   exact h
end
section
open PySem.SeqAt
open PySem.AutoSeq1 (wpAny_loadPart')
open PySem.MeetsSeq PySem.MeetsSeq2 PySem.MeetsSeq3
def zP(l b:Addr)(a c:Array Value)(n i:Nat)(j k:Option Addr)(m o:Array (Option Value))(e f:List Int)(r:IntsAre a.toList e)(t:IntsAre c.toList f):
  Meets (Builtin.«list.__lt__» #[[.ref l, .ref b],[]])
   (λ_ R s=>s.heap.get? l\{cls:= .type "list",dict:=j,data:= .seq a n,slots:=m}/\s.heap.get? b\{cls:= .type "list",dict:=k,data:= .seq c i,slots:=o}/\
    R (.ok (.ret (.bool (HT.lexLt e f)))) s):=by
 intro prog w A R s h;obtain⟨u,g,d,v,os⟩:=s;obtain⟨p,q,h⟩:=h;have x:=AutoSeq1.sub_list_list
 wp_walk using wpAny_loadPart' p,wpAny_loadPart' q
 exact#[aaq abN _,aam entry_eq_loop (by
  rw[UV abN _];exact L4 l b a c n i j k m o e f r t _ 0 rfl (fk _) (fk _) prog w A R _ #[p,q,h])]
end
section
variable {prog:Program} {w:World} {A:Around} {E:Value->Shared->Prop} {s:Shared}
theorem Er(o:s.heap.IsList l a)(p:s.heap.IsList b d)(q:IntsAre a.toList e)(r:IntsAre d.toList f)(t:A.units<cLine)
  (h:Q (HT.lexLt e f) s):wpAny (model prog w) A (oneLt' true (.ref l) (.ref b)) Q E s:=by
 rfl';obtain⟨⟨v,x,i,y⟩,g,j,n,k⟩:=id o;obtain⟨⟨I,z,data2,B⟩,C,m,G,c⟩:=id p;ac_rfl;simp only at j k m c;subst j k m c;rw[oneLt'_eq];simp only[aaw];refine wpAny_bind (wpAny_cRoomFor t ?_);refine wpAny_bind (wpAny_callSpecialIfBound?_slot #[_,g,rfl] PySem.F.slot_list_lt (aaF PySem.F.slot_list_lt #[_,g,rfl] PySem.F.entry_list_lt (PySem.F.args_list_lt_2 _ _) (zP l b a d n G x z y B e f q r) #[g,C,?_]));exact P3 h
end
def CD(r:List Nat):List Int:=r.map λ(n:Nat)=>(n:Int)
def Ii(H:Hp)(L:List (Addr×List Nat)):Prop:=∀p∈L,H p.1\(.lst ((CD p.2).map V.int))
section
variable {X:Cx}
end
end L2
namespace PySem.SetTable
def oZ(xs:Array Nat):Prop:=∀i j (a:j<xs.size),i<j->xs[i]! <xs[j]!
def Lw{a:Array Nat}{i d:Nat}(h:i<a.size):a.getD i d=a[i]! :=by
 simp[Array.getD,h]
theorem xT(R:oZ h)(j:Nat):∀(f lo g:Nat),g-lo<=f->lo<=g->g<=h.size->(∀i,i<lo->h[i]! <j)->(∀i,g<=i->i<h.size->j<=h[i]!)->
  lo<=below.go h j f lo g/\below.go h j f lo g<=g/\(∀i,i<below.go h j f lo g->h[i]! <j)/\∀i,below.go h j f lo g<=i->i<h.size->j<=h[i]!
 |0,lo,g,m,n,k,a,b=>by
  have:lo=g:=()
  subst this;rw[below.go];exact#[bo _,bo _,a,b]
 |f+1,lo,g,m,n,k,a,b=>by
  rw[below.go]
  by_cases c:lo<g
  .rw[ir c]
   have l:(lo+g) / 2<h.size:=()
   dsimp only;rw[Lw l]
   by_cases d:h[(lo+g) / 2]! <j
   .rw[ir d]
    have:=xT R j f ((lo+g) / 2+1) g () () k (λi p=>by
     by_cases e:i=(lo+g) / 2
     .rw[e];exact d
     .have:=R i ((lo+g) / 2) l ();lia) b
    exact#[(),this.2.1,this.2.2]
   .rw[mo d]
    have:=xT R j f lo ((lo+g) / 2) () () () a (λi q o=>by
     by_cases e:i=(lo+g) / 2
     .rw[e];lia
     .have:=R ((lo+g) / 2) i o ();lia)
    exact#[this.1,(),this.2.2]
  .rw[mo c]
   have:lo=g:=()
   subst this;exact#[bo _,bo _,a,b]
def ju{xs:Array Nat}(R:oZ xs)(j:Nat):below xs j<=xs.size/\(∀i,i<below xs j->xs[i]! <j)/\∀i,below xs j<=i->i<xs.size->j<=xs[i]! :=by
 have:=xT R j xs.size 0 xs.size () (fk _) (bo _) (λi h=>by lia) (λi a b=>by lia)
 exact#[this.2.1,this.2.2]
def below_at(R:oZ a)(h:a[i]?\j):below a j=i:=by
 obtain⟨b,e⟩:=A1.mp h;have g:a[i]! =j:=by simp[b,e]
 obtain⟨k,d,f⟩:=ju R j;apply Nat.le_antisymm
 .apply FM
  intro c
  have:=d i ()
  lia
 .apply FM
  intro c;have l:=f (below a j) (bo _) ()
  have m:=R (below a j) i b ()
  lia
def sv{t:SetTable}(R:oZ t.place)(h:t.place[i]?\j):t.slot j= .live i:=by
 unfold slot;rw[below_at R h];simp[h]
def EK{t:SetTable}(R:oZ t.place)(a:t.dummies= #[])(h:∀i:Nat,t.place[i]? ≠some j):t.slot j= .empty:=by
 unfold slot
 have b:(t.place[below t.place j]? ==some j)=false:=by
  rw[aar];exact h _
 dsimp only;rw[mo (by rw[b];exact dA)]
 unfold has;rw[a];rfl
def oN(mask:Nat)(p:Probe):Probe:=
 if p.more>0 then {p with j:=p.j+1,more:=p.more-1} else
 let (i,perturb):=leap mask p.i p.perturb
 {p with j:=i,more:=runEnd mask i-i,i,perturb}
def ck(mask:Nat)(h:Int):Probe:={j:=bits h%(mask+1),more:=runEnd mask (bits h%(mask+1))-bits h%(mask+1),i:=bits h%(mask+1),perturb:=bits h,dummy:=none}
def J4(t:SetTable)(h:Int):t.probeStart h=ck t.mask h:=rfl
def qU(mask:Nat)(h:Int):Nat->Probe
 |0=>ck mask h
 |k+1=>oN mask (qU mask h k)
def bR(mask:Nat)(h:Int)(k:Nat):Nat:=(qU mask h k).j
def Kt(h:Int):bits h<2^64:=by
 unfold bits;have a:0<=h%(2^64:Int):=acg _ ∅
 have b:h%(2^64:Int)<2^64:=abJ _ ∅
 lia
def eY(mask:Nat)(i p:Nat):Nat->Nat×Nat
 |0=>(i,p)
 |r+1=>leap mask (eY mask i p r).1 (eY mask i p r).2
theorem l6(mask i p:Nat):∀r,(eY mask i p r).2=p / 32^r
 |0=>by simp[eY]
 |r+1=>by
  show(eY mask i p r).2 / 32=_;rw[l6 mask i p r,Nat.div_div_eq_div_mul,Nat.pow_succ]
def OC(mask:Nat)(i:Nat):Nat:=(i*5+1)%(mask+1)
def lG(mask:Nat)(i:Nat):Nat->Nat
 |0=>i
 |r+1=>OC mask (lG mask i r)
theorem mM(mask i:Nat)(a:Nat):∀b,lG mask i (a+b)=lG mask (lG mask i a) b
 |0=>rfl
 |b+1=>by
  show OC mask (lG mask i (a+b))=_;rw[mM mask i a b];rfl
theorem uU{mask i p a:Nat}(h:(eY mask i p a).2=0):∀r,eY mask i p (a+r)=(lG mask (eY mask i p a).1 r,0)
 |0=>by rw[Nat.add_zero,lG];exact aal rfl h
 |r+1=>by
  show leap mask (eY mask i p (a+r)).1 (eY mask i p (a+r)).2=_;rw[uU h r];unfold leap;simp[lG,OC]
def we(mask:Nat):Prop:=mask=7\/mask=31\/mask=127\/mask=511
def SR(mask:Nat):Nat->Nat->List Nat
 |_,0=> []
 |i,n+1=>i::SR mask (OC mask i) n
theorem Eh{mask s:Nat}:∀{i n:Nat},s∈SR mask i n->∃r,r<n/\lG mask i r=s
 |i,0,h=>by cases h
 |i,n+1,h=>by
  rcases bH.mp h with rfl|h
  .exact#[0,(),rfl]
  .obtain⟨r,a,e⟩:=Eh h
   refine#[r+1,(),?_]
   have:=mM mask i 1 r
   rw[show 1+r=r+1 by lia] at this
   rw[this];exact e
def SS{mask:Nat}(h:we mask):(∀s,s<=mask->∃r,r<=mask/\lG mask 0 r=s)/\lG mask 0 (mask+1)=0:=by
 have key:∀m,(ac (m+1)).all (λs=>(SR m 0 (m+1)).contains s)=true->∀s,s<=m->∃r,r<=m/\lG m 0 r=s:=λm a s b=>by
  have:=ab2.mp a s (cE.mpr ())
  obtain⟨r,c,e⟩:=Eh (List.contains_iff_mem.mp this);exact#[r,(),e]
 rcases h with rfl|rfl|rfl|rfl
 .exact#[key 7 (by decide+kernel),by decide+kernel]
 .exact#[key 31 (by decide+kernel),by decide+kernel]
 .exact#[key 127 (by decide+kernel),by decide+kernel]
 .exact#[key 511 (by decide+kernel),by decide+kernel]
def cover{mask:Nat}(h:we mask){i s:Nat}(d:i<=mask)(e:s<=mask):∃r,r<=mask/\lG mask i r=s:=by
 obtain⟨o,per⟩:=SS h;obtain⟨a,f,rfl⟩:=o i d;obtain⟨b,g,rfl⟩:=o s e
 by_cases c:a<=b
 .refine#[b-a,(),?_]
  rw[<-mM,show a+(b-a)=b by lia]
 .refine#[mask+1-a+b,(),?_]
  rw[<-mM,show a+(mask+1-a+b)=mask+1+b by lia,mM,per]
def c8(mask:Nat)(p:Probe):Nat->Probe
 |0=>p
 |k+1=>oN mask (c8 mask p k)
theorem mB(mask:Nat)(p:Probe)(a:Nat):∀b,c8 mask p (a+b)=c8 mask (c8 mask p a) b
 |0=>rfl
 |b+1=>by
  show oN mask (c8 mask p (a+b))=_;rw[mB mask p a b];rfl
theorem n6(mask:Nat)(h:Int):∀k,qU mask h k=c8 mask (ck mask h) k
 |0=>rfl
 |k+1=>by
  show oN mask _=oN mask _;rw[n6 mask h k]
theorem uv(mask:Nat)(p:Probe):∀c,c<=p.more->c8 mask p c={p with j:=p.j+c,more:=p.more-c}
 |0,_=>rfl
 |c+1,a=>by
  show oN mask (c8 mask p c)=_;rw[uv mask p c ()]
  unfold oN;rw[ir (by show p.more-c>0;lia)]
  show({p with j:=p.j+c+1,more:=p.more-c-1}:Probe)={p with j:=p.j+(c+1),more:=p.more-(c+1)}
  rw[show p.more-c-1=p.more-(c+1) by lia,show p.j+c+1=p.j+(c+1) by lia]
def PF(mask:Nat)(p:Probe)(a:Nat×Nat):Probe:={p with j:=a.1,more:=runEnd mask a.1-a.1,i:=a.1,perturb:=a.2}
def more_le(mask i:Nat):runEnd mask i-i<=9:=by
 unfold runEnd
 split<;>lia
def rP(mask:Nat)(p:Probe):c8 mask p (p.more+1)=PF mask p (leap mask p.i p.perturb):=by
 show oN mask (c8 mask p p.more)=_;rw[uv mask p p.more (bo _)];unfold oN;rw[mo (by show ¬p.more-p.more>0;lia)]
 rfl
theorem xn(mask:Nat)(p:Probe):∀r,∃k,k<=p.more+1+10*r/\c8 mask p k=PF mask p (eY mask p.i p.perturb (r+1))
 |0=>#[p.more+1,(),rP mask p]
 |r+1=>by
  obtain⟨k,a,e⟩:=xn mask p r;have b:=more_le mask (eY mask p.i p.perturb (r+1)).1;refine#[k+((runEnd mask (eY mask p.i p.perturb (r+1)).1-(eY mask p.i p.perturb (r+1)).1)+1),(),?_]
  rw[mB,e];exact rP mask (PF mask p (eY mask p.i p.perturb (r+1)))
def EI(mask i p:Nat)(r:Nat):(eY mask i p (r+1)).1<=mask:=by
 show(((eY mask i p r).1*5+1+(eY mask i p r).2 / 32)%(mask+1))<=mask
 have:=qB ((eY mask i p r).1*5+1+(eY mask i p r).2 / 32) (show 0<mask+1 by lia)
 lia
def HZ{mask i:Nat}(h:i<=mask):i+(runEnd mask i-i)<=mask:=by
 unfold runEnd
 split<;>lia
structure ur (mask:Nat) (p:Probe):Prop where
 le:p.j+p.more<=mask
 more:p.more<=9
 per:p.perturb<2^64
 dum:p.dummy=none
theorem ur.oN{mask:Nat}{p:Probe}(o:ur mask p):ur mask (oN mask p):=by
 unfold SetTable.oN
 split
 .next h=>exact#[by show p.j+1+(p.more-1)<=mask;have:=o.le;lia,by show p.more-1<=9;have:=o.more;lia,o.per,o.dum]
 .refine#[HZ (by have:=qB (p.i*5+1+p.perturb / 32) (show 0<mask+1 by lia);show(p.i*5+1+p.perturb / 32)%(mask+1)<=mask;lia),more_le _ _,?_,o.dum]
  show p.perturb / 32<2^64
  have:=o.per
  lia
def ur.start(mask:Nat)(h:Int):ur mask (ck mask h):=#[HZ (mask:=mask) (i:=bits h%(mask+1)) (by have:=qB (bits h) (show 0<mask+1 by lia);lia),more_le _ _,Kt h,rfl]
theorem ur.c8{mask:Nat}{p:Probe}(o:ur mask p):∀k,ur mask (c8 mask p k)
 |0=>o
 |k+1=>(o.c8 k).oN
def meets{mask:Nat}(f:we mask){p:Probe}(o:ur mask p){s:Nat}(a:s<=mask):∃k,k<10*turns mask/\(c8 mask p k).j=s:=by
 have z:(eY mask p.i p.perturb 13).2=0:=by
  rw[l6];exact Nat.div_eq_of_lt (i3 o.per ∅)
 obtain⟨r,c,e⟩:=cover f (EI mask p.i p.perturb 12) a;obtain⟨k,d,b⟩:=xn mask p (12+r);refine#[k,?_,?_]
 .have:=o.more
  unfold turns;lia
 .rw[b]
  show(eY mask p.i p.perturb (12+r+1)).1=s;rw[show 12+r+1=13+r by lia,uU z]
  exact e
theorem AO(R:oZ t.place)(n:t.dummies= #[])(hashAt:Nat->Int)(h:Int):∀(K d:Nat)(p:Probe),p.dummy=none->K<d->(∀i:Nat,t.place[i]? ≠some (c8 t.mask p K).j)->
  ∃e,e<=K/\(∀f,f<e->∃i:Nat,t.place[i]?\(c8 t.mask p f).j/\hashAt i≠h)/\
   (((∀i:Nat,t.place[i]? ≠some (c8 t.mask p e).j)/\probe.go t hashAt h d p\(.empty (c8 t.mask p e).j none))\/
    (∃i:Nat,t.place[i]?\(c8 t.mask p e).j/\hashAt i=h/\probe.go t hashAt h d p\(.candidate (c8 t.mask p e).j i (c8 t.mask p (e+1)))))
 |K,0,p,_,u,_=>by lia
 |K,d+1,p,o,u,q=>by
  by_cases c:∃i:Nat,t.place[i]?\p.j
  .obtain⟨i,g⟩:=c
   have r:=sv R g
   by_cases l:hashAt i=h
   .refine#[0,fk _,λf s=>by lia, .inr #[i,g,l,?_]]
    rw[probe.go,r];dsimp only;rw[ir (~~~l)]
    rfl
   .cases K with
    |zero=>exact absurd g (q i)
    |succ K=>
     have v:(oN t.mask p).dummy=none:=by
      unfold oN
      split<;>exact o
     have m:∀k,c8 t.mask (oN t.mask p) k=c8 t.mask p (k+1):=λk=>by
      have:=mB t.mask p 1 k
      rw[show 1+k=k+1 by lia] at this
      exact this.symm
     obtain⟨e,x,a,b⟩:=AO R n hashAt h K d (oN t.mask p) v () (by rw[m];exact q)
     have w:probe.go t hashAt h (d+1) p=probe.go t hashAt h d (oN t.mask p):=by
      rw[probe.go,r];dsimp only;rw[mo (~~~l)]
      rfl
     refine#[e+1,(),λf s=>?_,?_]
     .cases f with
      |zero=>exact#[i,g,l]
      |succ f=>
       have:=a f ()
       rw[m] at this;exact this
     .rw[m,m] at b
      rw[w];exact b
  .have c:∀i:Nat,t.place[i]? ≠some p.j:=λi g=>c #[i,g]
   refine#[0,fk _,λf s=>by lia, .inl #[c,?_]]
   rw[probe.go,EK R n c];dsimp only;rw[o];rfl
structure TOk (t:SetTable) (hs:List Int):Prop where
 few:we t.mask
 dum:t.dummies= #[]
 rise:oZ t.place
 size:t.place.size=hs.length
 le:∀(i j:Nat),t.place[i]?\j->j<=t.mask
 room:t.place.size<=t.mask
 path:∀(i:Nat)(h:Int),hs[i]?\h->∃k,t.place[i]?\(bR t.mask h k)/\∀k',k'<k->∃i':Nat,t.place[i']?\(bR t.mask h k')
def Cs(mask:Nat)(h:Int)(k:Nat):bR mask h k<=mask:=by
 unfold bR;rw[n6]
 have:=((ur.start mask h).c8 k).le
 lia
def TOk.empty(T:TOk t a):∃s,s<=t.mask/\∀i:Nat,t.place[i]? ≠some s:=by
 apply FM;intro c
 have all:∀s∈ac (t.mask+1),s∈t.place.toList:=λs a=>by
  apply FM;intro n;refine c #[s,by have:=cE.mp a;lia,λi b=>n ?_]
  rw[<-gk] at b;exact dH b
 have:=Wb.aF vc all
 rw[fw,eD] at this
 have:=T.room
 lia
theorem TOk.probe(T:TOk t g)(hashAt:Nat->Int)(h:Int)(k:Nat):
  ∃d,k<=d/\(∀e,k<=e->e<d->∃i:Nat,t.place[i]?\(bR t.mask h e)/\hashAt i≠h)/\
   (((∀i:Nat,t.place[i]? ≠some (bR t.mask h d))/\t.probe hashAt h (qU t.mask h k)\(.empty (bR t.mask h d) none))\/
    (∃i:Nat,t.place[i]?\(bR t.mask h d)/\hashAt i=h/\t.probe hashAt h (qU t.mask h k)\(.candidate (bR t.mask h d) i (qU t.mask h (d+1))))):=by
 obtain⟨s,j,l⟩:=T.empty;have o:=(ur.start t.mask h).c8 k;rw[<-n6] at o;obtain⟨K,m,n⟩:=meets T.few o j;have f:∀c,c8 t.mask (qU t.mask h k) c=qU t.mask h (k+c):=λc=>by rw[n6,n6,<-mB]
 obtain⟨d,p,a,b⟩:=AO T.rise T.dum hashAt h K (10*turns t.mask) (qU t.mask h k) o.dum m (by rw[n];exact l)
 refine#[k+d,(),λe q r=>?_,?_]
 .have:=a (e-k) ()
  rw[f,show k+(e-k)=e by lia] at this
  exact this
 .rw[f,f] at b
  exact b
def lX{xs:Array a}(x:a)(e:p<=xs.size)(i:Nat):(insertAt xs p x)[i]? =if i<p then xs[i]? else if i=p then some x else xs[i-1]? :=by
 rw[<-gk,aaQ];have lt:(xs.toList.take p).length=p:=by rw[i6,eD];lia
 by_cases c:i<p
 .rw[ir c,kX (),E4 c,gk]
 .rw[mo c]
  by_cases d:i=p
  .subst d
   rw[ir rfl,kW (),lt,uk];rfl
  .rw[mo d,kW (),lt]
   obtain⟨m,b⟩:∃m,i-p=m+1:=#[i-p-1,()]
   rw[b,ud,CO,gk]
   congr 1;lia
def f7(xs:Array a)(p:Nat)(x:a):(insertAt xs p x).size=xs.size+1:=by
 rw[<-eD,(aa8 xs p x).length_eq];simp
def kj{a:Array Nat}{i j:Nat}(h:a[i]?\j):a[i]! =j:=by
 obtain⟨b,e⟩:=A1.mp h;simp[b,e]
def JR{xs:Array Nat}(R:oZ xs){j:Nat}(h:∀i:Nat,xs[i]? ≠some j):oZ (insertAt xs (below xs j) j):=by
 obtain⟨t,w,x⟩:=ju R j;have g:=lX (xs:=xs) j t;intro a b y A;rw[f7] at y
 have m:∀i,i<xs.size+1->∃v,(insertAt xs (below xs j) j)[i]?\v/\((i<below xs j/\xs[i]?\v)\/(i=below xs j/\v=j)\/(below xs j<i/\xs[i-1]?\v)):=λi r=>by
  rw[g i]
  by_cases c:i<below xs j
  .rw[ir c,qw ()]
   exact#[_,rfl, .inl #[c,rfl]]
  .rw[mo c]
   by_cases d:i=below xs j
   .rw[ir d];exact#[j,rfl, .inr (.inl #[d,rfl])]
   .rw[mo d,qw ()]
    exact#[_,rfl, .inr (.inr #[(),rfl])]
 obtain⟨G,B,C⟩:=m a ()
 obtain⟨H,E,s⟩:=m b ()
 rw[kj B,kj E];have lo:∀i v,i<below xs j->xs[i]?\v->v<j:=λi v n f=>by have:=w i n;rw[kj f] at this;exact this
 have r:∀i v,below xs j<=i->xs[i]?\v->j<v:=λi v n f=>by
  have:=x i n (A1.mp f).1
  rw[kj f] at this
  have:v≠j:=λz=>h i (by rw[f,z])
  lia
 have o:∀i k v u,xs[i]?\v->xs[k]?\u->i<k->v<u:=λi k v u n f F=>by
  have:=R i k (A1.mp f).1 F
  rw[kj n,kj f] at this;exact this
 rcases C with ⟨q,p⟩ | ⟨q,rfl⟩ | ⟨q,p⟩
 .rcases s with ⟨l,e⟩ | ⟨l,rfl⟩ | ⟨l,e⟩
  .exact o _ _ _ _ p e A
  .exact lo _ _ q p
  .have:=lo _ _ q p;have:=r (b-1) _ () e;lia
 .rcases s with ⟨l,e⟩ | ⟨l,rfl⟩ | ⟨l,e⟩
  .lia
  .lia
  .exact r (b-1) _ () e
 .rcases s with ⟨l,e⟩ | ⟨l,rfl⟩ | ⟨l,e⟩
  .lia
  .lia
  .exact o _ _ _ _ p e ()
def MN{xs:Array Nat}(R:oZ xs){j s:Nat}:(∃i:Nat,(insertAt xs (below xs j) j)[i]?\s)↔s=j\/∃i:Nat,xs[i]?\s:=by
 obtain⟨a,_,_⟩:=ju R j;have g:=lX (xs:=xs) j a
 constructor
 .rintro⟨i,h⟩
  rw[g i] at h
  split at h
  .exact .inr #[i,h]
  .split at h
   .exact .inl (Do h).symm
   .exact .inr #[_,h]
 .rintro(rfl| ⟨i,h⟩)
  .exact#[below xs s,by rw[g,mo (),ir rfl]]
  .by_cases c:i<below xs j
   .exact#[i,by rw[g,ir c];exact h]
   .exact#[i+1,by rw[g,mo (),mo ()];exact h]
theorem TOk.put(T:TOk t l){h:Int}{k:Nat}(v:∀i:Nat,t.place[i]? ≠some (bR t.mask h k))(w:∀a,a<k->∃i:Nat,t.place[i]?\(bR t.mask h a))(room:t.place.size+1<=t.mask):
  (t.put (bR t.mask h k)).2=below t.place (bR t.mask h k)/\below t.place (bR t.mask h k)<=l.length/\
  TOk (t.put (bR t.mask h k)).1 (l.take (below t.place (bR t.mask h k))++h::l.drop (below t.place (bR t.mask h k))):=by
 obtain⟨x,z,A⟩:=ju T.rise (bR t.mask h k);have g:=lX (xs:=t.place) (bR t.mask h k) x;have sz:=T.size;have o:=λs=>MN (s:=s) (j:=bR t.mask h k) T.rise;refine#[rfl,(),T.few,?_,JR T.rise v,?_,?_,?_,?_]
 .show(if has t.dummies _=true then _ else t.dummies)= #[]
  rw[T.dum];rfl
 .show(insertAt t.place _ _).size=_
  rw[f7,cD,i6,cv,u9];lia
 .intro i j p
  have p:(insertAt t.place (below t.place (bR t.mask h k)) (bR t.mask h k))[i]?\j:=p
  rcases(o j).mp #[i,p] with rfl| ⟨u,e⟩
  .exact Cs _ _ _
  .exact T.le _ _ e
 .show(insertAt t.place _ _).size<=_
  rw[f7];exact room
 .intro i e b
  show ∃f,(insertAt t.place (below t.place (bR t.mask h k)) (bR t.mask h k))[i]?\(bR t.mask e f)/\∀a,a<f->∃u:Nat,(insertAt t.place (below t.place (bR t.mask h k)) (bR t.mask h k))[u]?\(bR t.mask e a);have lt:(l.take (below t.place (bR t.mask h k))).length=below t.place (bR t.mask h k):=by rw[i6];lia
  by_cases c:i<below t.place (bR t.mask h k)
  .rw[kX (),E4 c] at b
   obtain⟨f,q,r⟩:=T.path i e b;exact#[f,by rw[g,ir c];exact q,λa n=>(o _).mpr (.inr (r a n))]
  .rw[kW (),lt] at b
   by_cases d:i=below t.place (bR t.mask h k)
   .rw[d,uk] at b
    cases(Do b);exact#[k,by rw[d,g,mo (),ir rfl],λa n=>(o _).mpr (.inr (w a n))]
   .obtain⟨m,y⟩:∃m,i-below t.place (bR t.mask h k)=m+1:=#[i-below t.place (bR t.mask h k)-1,()]
    rw[y,ud,CO] at b;obtain⟨f,q,r⟩:=T.path _ e b;refine#[f,?_,λa n=>(o _).mpr (.inr (r a n))];rw[g,mo c,mo d,show i-1=below t.place (bR t.mask h k)+m by lia]
    exact q
theorem vS(mask i p:Nat):∀r,eY mask i p (r+1)=eY mask (leap mask i p).1 (leap mask i p).2 r
 |0=>rfl
 |r+1=>by
  show leap mask (eY mask i p (r+1)).1 (eY mask i p (r+1)).2=_;rw[vS mask i p r];rfl
def Own(o:Array (Option Nat))(s:Nat):Prop:=(o.getD s (some 0)).isNone=false
theorem xQ{mask:Nat}(e:Array (Option Nat)):∀(f:Nat)(p:Probe),p.j=p.i->p.more=runEnd mask p.i-p.i->p.i<=runEnd mask p.i->(∃r,r<f/\¬Own e (eY mask p.i p.perturb r).1)->
  ∃h,layClean.free mask e f p.i p.perturb\(c8 mask p h).j/\¬Own e (c8 mask p h).j/\∀g,g<h->Own e (c8 mask p g).j
 |0,p,_,_,_,#[r,u,_]=>by lia
 |f+1,p,v,C,E,#[r,u,q]=>by
  have run:∀c,c<=p.more->(c8 mask p c).j=p.i+c:=λc t=>by rw[uv mask p c t];show p.j+c=_;rw[v]
  cases l:(ac (runEnd mask p.i+1-p.i)).find? λk=>(e.getD (p.i+k) (some 0)).isNone with
  |some k=>
   obtain⟨w,m,bs,o,x⟩:=List.find?_eq_some_iff_append.mp l;have F:k<runEnd mask p.i+1-p.i:=cE.mp (by rw[o];simp)
   have y:m.length=k:=by
    have z:m.length<(ac (runEnd mask p.i+1-p.i)).length:=by rw[o];simp
    have:=qx (n:=runEnd mask p.i+1-p.i) (i:=m.length) (~~~z)
    rw[o,kW (bo _),uk] at this;exact(Do this).symm
   refine#[k,?_,?_,λg A=>?_]
   .rw[layClean.free,l,run k ()]
   .rw[run k ()]
    unfold Own;rw[w];exact Bool.noConfusion
   .rw[run g ()]
    have B:g∈m:=by
     have:=qx (n:=runEnd mask p.i+1-p.i) (i:=g) ()
     rw[o,kX ()] at this
     exact dH this
    have:=x g B
    unfold Own;exact abU _▸this
  |none=>
   have all:=List.find?_eq_none.mp l
   have own:∀c,c<=p.more->Own e (p.i+c):=λc t=>by
    have:=all c (cE.mpr ())
    unfold Own;exact rK.mpr this
   cases r with
   |zero=>exact absurd (own 0 (fk _)) q
   |succ r=>
    have lp:=rP mask p
    obtain⟨h,a,b,c⟩:=xQ e f (PF mask p (leap mask p.i p.perturb)) rfl rfl (by
     show(leap mask p.i p.perturb).1<=runEnd mask (leap mask p.i p.perturb).1;unfold runEnd;split<;>lia) #[r,(),by rw[vS] at q;exact q]
    rw[<-lp] at a b c;have s:∀k,c8 mask (c8 mask p (p.more+1)) k=c8 mask p (p.more+1+k):=λk=>(mB mask p (p.more+1) k).symm;refine#[p.more+1+h,?_,?_,λg A=>?_]
    .rw[layClean.free,l,<-s,<-a,lp];rfl
    .rw[<-s];exact b
    .by_cases d:g<=p.more
     .rw[run g d];exact own g d
     .have:=c (g-(p.more+1)) ()
      rw[s,show p.more+1+(g-(p.more+1))=g by lia] at this
      exact this
structure Laid (mask:Nat) (hs:List Int) (owner:Array (Option Nat)) (ss:List Nat):Prop where
 size:owner.size=mask+1
 len:ss.length=hs.length
 nd:ss.Nodup
 le:∀s∈ss,s<=mask
 get:∀s,s<=mask->∀k,owner.getD s (some 0)\k↔ss[k]?\s
 path:∀(k:Nat)(h:Int),hs[k]?\h->∃c,ss[k]?\(bR mask h c)/\∀c',c'<c->bR mask h c'∈ss
def Laid.own{mask:Nat}{c:List Int}{a:Array (Option Nat)}{b:List Nat}(L:Laid mask c a b){s:Nat}(h:s<=mask):Own a s↔s∈b:=by
 unfold Own
 constructor
 .intro e
  cases o:a.getD s (some 0) with
  |none=>rw[o] at e;cases e
  |some k=>exact dH ((L.get s h k).mp o)
 .intro e
  obtain⟨k,d⟩:=zx e;rw[(L.get s h k).mpr d];rfl
def F4{mask:Nat}(f:we mask){l:List Int}{g:Array (Option Nat)}{m:List Nat}(L:Laid mask l g m)(room:l.length<=mask)(h:Int):
  ∃j,layClean.free mask g (turns mask) (bits h%(mask+1)) (bits h)\j/\Laid mask (l++ [h]) (g.setIfInBounds j (some l.length)) (m++ [j]):=by
 have o:=ur.start mask h
 obtain⟨s,C,F⟩:∃s,s<=mask/\s∉m:=by
  apply FM;intro c
  have all:∀s∈ac (mask+1),s∈m:=λs l=>by
   apply FM;intro n;exact c #[s,by have:=cE.mp l;lia,n]
  have:=Wb.aF vc all
  rw[fw,L.len] at this;lia
 have z:(eY mask (ck mask h).i (ck mask h).perturb 13).2=0:=by
  rw[l6];exact Nat.div_eq_of_lt (i3 o.per ∅)
 obtain⟨r,N,e⟩:=cover f (EI mask (ck mask h).i (ck mask h).perturb 12) C
 have O:(ck mask h).i<=mask:=by
  have:=qB (bits h) (show 0<mask+1 by lia)
  show bits h%(mask+1)<=mask;lia
 obtain⟨p,a,b,c⟩:=xQ g (turns mask) (ck mask h) rfl rfl (by unfold runEnd;split<;>lia) #[13+r,by unfold turns;lia,by
  rw[uU z];show ¬Own g (lG mask _ r);rw[e,L.own C];exact F]
 have E:∀k,(c8 mask (ck mask h) k).j=bR mask h k:=λk=>by unfold bR;rw[n6]
 rw[E] at a b;have u:=Cs mask h p;rw[L.own u] at b;refine#[bR mask h p,a,?_,?_,?_,?_,?_,?_]
 .rw[aaP];exact L.size
 .rw[cD,cD,L.len];rfl
 .exact eE.mpr #[L.nd,by simp,λx t y G z=>b (by rw[<-cR.mp G,<-z];exact t)]
 .intro x t
  rcases b6.mp t with t|t
  .exact L.le x t
  .rw[cR.mp t];exact u
 .intro x t k
  have w:(g.setIfInBounds (bR mask h p) (some l.length)).getD x (some 0)=if bR mask h p=x then some l.length else g.getD x (some 0):=by
   rw[E3,E3,abA]
   by_cases d:bR mask h p=x
   .rw[ir d,ir d,ir (by rw[L.size];lia)];rfl
   .rw[mo d,mo d]
  rw[w]
  by_cases d:bR mask h p=x
  .rw[ir d]
   constructor
   .intro e
    cases(Do e);rw[<-L.len,kW (bo _),uk,<-d];rfl
   .intro e
    by_cases q:k<m.length
    .rw[kX q] at e
     exact absurd (by rw[d];exact dH e) b
    .have:k<(m++ [bR mask h p]).length:=(eC.mp e).1
     rw[cD] at this
     have:k<m.length+1:=this
     rw[show k=m.length by lia,L.len]
  .rw[mo d,L.get x t k]
   constructor
   .intro e
    rw[kX (eC.mp e).1];exact e
   .intro e
    by_cases q:k<m.length
    .rw[kX q] at e;exact e
    .have:k<(m++ [bR mask h p]).length:=(eC.mp e).1
     rw[cD] at this
     have:k<m.length+1:=this
     rw[show k=m.length by lia,kW (bo _),uk] at e
     exact absurd (Do e) d
 .intro k H v
  by_cases q:k<l.length
  .rw[kX q] at v
   obtain⟨I,w,J⟩:=L.path k H v;exact#[I,by rw[kX (by rw[L.len];exact q)];exact w,λA B=>fi _ (J A B)]
  .have:k<(l++ [h]).length:=(eC.mp v).1
   rw[cD] at this
   have:k<l.length+1:=this
   have M:k=l.length:=()
   subst M;rw[kW (bo _),uk] at v;cases(Do v);refine#[p,by rw[<-L.len,kW (bo _),uk];rfl,λA B=>fi _ ?_]
   have:=c A B
   rw[E] at this;exact(L.own (Cs _ _ _)).mp this
def F5(mask:Nat):Laid mask [] (cr (mask+1) none) [] where
 size:=by simp
 len:=rfl
 nd:=iU
 le:=λs h=>by cases h
 get:=λs a k=>by
  rw[E3,Array.getElem?_replicate,ir ()]
  simp
 path:=λk h e=>by cases e
def AA(mask:Nat)(a:Option (Array (Option Nat)×Nat))(h:Int):Option (Array (Option Nat)×Nat):=do
 let (owner,k) <-a
 let j <-layClean.free mask owner (turns mask) (bits h%(mask+1)) (bits h)
 pure (owner.setIfInBounds j (some k),k+1)
theorem AB{mask:Nat}(f:we mask):∀(b done:List Int)(a:Array (Option Nat))(d:List Nat),Laid mask done a d->done.length+b.length<=mask+1->
  ∃c i,b.foldl (AA mask) (some (a,done.length))\(c,done.length+b.length)/\Laid mask (done++b) c i
 | [],done,a,d,L,_=>#[a,d,rfl,by rw[jH];exact L]
 |h::b,done,a,d,L,l=>by
  rw[cv] at l;obtain⟨j,e,m⟩:=F4 f L () h
  have n:AA mask (some (a,done.length)) h\(a.setIfInBounds j (some done.length),done.length+1):=by
   unfold AA;simp[e]
  obtain⟨c,i,g,k⟩:=AB f b (done++ [h]) _ _ m (by rw[cD];show done.length+1+b.length<=_;lia)
  refine#[c,i,?_,by rw[i5] at k;exact k]
  rw[ace,n];rw[cD] at g;have g:b.foldl (AA mask) (some (a.setIfInBounds j (some done.length),done.length+1))\(c,done.length+1+b.length):=g;rw[g,cv]
  congr 2;lia
def BM{mask:Nat}(f:we mask)(b:List Int)(room:b.length<=mask+1):∃a c,layClean mask b.toArray\a/\Laid mask b a c:=by
 rfl';obtain⟨a,c,e,L⟩:=AB f b [] _ _ (F5 mask) (~~~room)
 ac_rfl;refine#[a,c,?_,by simpa using L]
 have:layClean mask b.toArray=(b.foldl (AA mask) (some (cr (mask+1) none,0))).map (·.1):=by
  unfold layClean;rw[List.foldl_toArray];rfl
 have e:b.foldl (AA mask) (some (cr (mask+1) none,0))\(a,[].length+b.length):=e;rw[this,e];rfl
def eU(mask:Nat)(a:Array (Option Nat)):List (Nat×Nat):=(ac (mask+1)).filterMap λj=>(a.getD j none).map (j,·)
def Jk{mask:Nat}{b:List Int}{a:Array (Option Nat)}{c:List Nat}(L:Laid mask b a c){j k:Nat}:(j,k)∈eU mask a↔c[k]?\j:=by
 unfold eU;rw[abG]
 have dflt:∀s,s<=mask->a.getD s none=a.getD s (some 0):=λs b=>by
  rw[E3,E3,qw (by rw[L.size];lia)];rfl
 constructor
 .rintro⟨s,d,e⟩
  have d:=cE.mp d;rw[dflt s ()] at e
  cases o:a.getD s (some 0) with
  |none=>rw[o] at e;cases e
  |some f=>
   rw[o] at e;have e:=Do e;have h:s=j:=(aao e).1;have i:f=k:=(aao e).2;rw[<-h,<-i];exact(L.get s () f).mp o
 .intro e
  have g:=L.le j (dH e);refine#[j,cE.mpr (),?_]
  rw[dflt j g,(L.get j g k).mpr e];rfl
def F8(mask:Nat)(c:Array (Option Nat)):((eU mask c).map (·.1)).Pairwise (·<·):=by
 unfold eU;rw[jG,List.pairwise_filterMap];refine A6.imp λ {a b} h x d y e=>?_;cases f:c.getD a none with
 |none=>rw[f] at d;cases d
 |some i=>
  cases g:c.getD b none with
  |none=>rw[g] at e;cases e
  |some j=>
   rw[f] at d;rw[g] at e;cases(Do d);cases(Do e);exact h
theorem LX{mask:Nat}(f:we mask)(l:List Int)(room:l.length<=mask)(finger moves:Nat)(led plain:Bool):
  ∃t g,laid mask finger moves led plain l.toArray\(t,g)/\t.mask=mask/\t.led=led/\t.plain=plain/\t.moves=moves/\g.toList.Perm (ac l.length)/\TOk t (g.toList.map λk=>l.getD k 0):=by
 rfl';obtain⟨d,u,e,L⟩:=BM f l ()
 have m:=λ {j k:Nat}=>Jk (j:=j) (k:=k) L;have v:=F8 mask d;ac_rfl
 have F:((eU mask d).map (·.2)).Nodup:=by
  rw[oI,jG];rw[jG] at v;refine v.imp_of_mem λ {a b} G q r z=>?_;obtain⟨H,I⟩:=a;obtain⟨J,bk⟩:=b;have y:=m.mp G;have M:=m.mp q;have z:I=bk:=z;rw[z,M] at y
  have:=Do y
  have r:H<J:=r;lia
 have perm:((eU mask d).map (·.2)).Perm (ac l.length):=by
  refine(vY F vc).mpr λk=>?_;rw[bT,cE]
  constructor
  .rintro⟨⟨j,Z⟩,h,rfl⟩
   have:=(eC.mp (m.mp h)).1
   rw[L.len] at this;exact this
  .intro n
   have N:k<u.length:=by rw[L.len];exact n
   exact#[(u[k],k),m.mpr (cM N),rfl]
 have O:(eU mask d).length=l.length:=by
  have:=perm.length_eq
  simpa using this
 refine#[{mask,place:=((eU mask d).map (·.1)).toArray,dummies:= #[],finger,led,moves,plain},((eU mask d).map (·.2)).toArray,?_,rfl,rfl,rfl,rfl,by simpa using perm,?_]
 .unfold laid
  rw[e];rfl
 have w:∀(i j:Nat),((eU mask d).map (·.1)).toArray[i]?\j↔∃k,(eU mask d)[i]?\(j,k):=λi j=>by
  rw[List.getElem?_toArray,cG];cases o:(eU mask d)[i]? with
  |none=>simp
  |some x=>
   obtain⟨a,b⟩:=x;simp
 have P:∀s,s∈u->∃i:Nat,((eU mask d).map (·.1)).toArray[i]?\s:=λs Q=>by
  obtain⟨k,n⟩:=zx Q;obtain⟨i,p⟩:=zx (m.mpr n);exact#[i,(w i s).mpr #[k,p]]
 refine#[f,rfl,?_,?_,?_,?_,?_]
 .intro a b q r
  have q:b<((eU mask d).map (·.1)).length:=q
  have:=Ha.mp v a b () q r
  simp[show a<(eU mask d).length by simpa using(show a<((eU mask d).map (·.1)).length by lia),show b<(eU mask d).length by simpa using q]
  simpa using this
 .simp
 .intro i j h
  obtain⟨k,n⟩:=(w i j).mp h;exact L.le j (dH (m.mp (dH n)))
 .show((eU mask d).map (·.1)).toArray.size<=mask
  simp[O];exact room
 .intro i A p
  rw[cG] at p;cases o:(eU mask d)[i]? with
  |none=>
   have:(((eU mask d).map (·.2)).toArray.toList)[i]? =none:=by simp[o]
   rw[this] at p;cases p
  |some x=>
   obtain⟨j,k⟩:=x;have R:(((eU mask d).map (·.2)).toArray.toList)[i]?\k:=by simp[o]
   rw[R] at p;have B:=m.mp (dH o);have n:k<l.length:=by rw[<-L.len];exact(eC.mp B).1
   have S:l[k]?\A:=by
    rw[<-Do p];show _\(l.getD k 0);rw[bS,cM n];rfl
   obtain⟨c,C,T⟩:=L.path k A S;rw[B] at C;refine#[c,(w i _).mpr #[k,by rw[o,Do C]],λU X=>P _ (T U X)]
end PySem.SetTable
namespace PySem
open SetTable PyProof.Rows
def cP(w:World):Bool:=w.params.followText "set-order"
structure fU (bt:Bool) (o:Obj) (es:Array (Int×Value)) (ep:Nat) (t:SetTable):Prop where
 ex:o.ExactSet
 dat:o.data= .set es ep t
 tok:TOk t (es.toList.map (·.1))
 pl:t.plain=true
 ld:t.led= !bt
 few:5*es.size<3*t.mask
theorem TOk.fits(T:TOk t a):t.fits a.length=true:=by
 simp only[SetTable.fits,SetTable.fill,T.dum,T.size,wc,aaz,aa0,true_and]
 have:=T.room
 rw[T.size] at this;simpa using this
theorem fU.fits(S:fU w o a b t):t.fits a.size=true:=by
 have:=TOk.fits S.tok
 simpa using this
def Ap{mask n:Nat}(f:we mask)(h:5*n<3*mask):n+1<=mask:=by
 rcases f with rfl|rfl|rfl|rfl<;>lia
def F6(T:TOk t (f.toList.map (·.1)))(few:5*f.size<3*t.mask)(h:Int)(x:Value):
  ∃p g,layNew t f h x=(SetTable.insertAt f p (h,x),g,false,false)/\TOk g ((SetTable.insertAt f p (h,x)).toList.map (·.1))/\g.mask=t.mask/\g.plain=t.plain/\g.led=t.led:=by
 obtain⟨d,_,a,b⟩:=TOk.probe T (λ_=>h+1) h 0;obtain⟨m,n⟩:=b.resolve_right (λ#[i,_,c,_]=>by have c:h+1=h:=c;lia)
 have fs:t.freeSlot h\(bR t.mask h d,false):=by
  unfold SetTable.freeSlot;rw[J4,show ck t.mask h=qU t.mask h 0 from rfl,n];rfl
 have sz:t.place.size=f.size:=by rw[T.size];simp
 obtain⟨o,u,j⟩:=TOk.put T (h:=h) (k:=d) m (λq r=>let #[i,s,_]:=a q (fk _) r;#[i,s]) (by rw[sz];exact Ap T.few few)
 have e:(SetTable.insertAt f (below t.place (bR t.mask h d)) (h,x)).toList.map (·.1)=(f.toList.map (·.1)).take (below t.place (bR t.mask h d))++h::(f.toList.map (·.1)).drop (below t.place (bR t.mask h d)):=by
  rw[aaQ];simp
 rw[<-e] at j;refine#[below t.place (bR t.mask h d),(t.put (bR t.mask h d)).1,?_,j,rfl,rfl,rfl]
 have l:(t.put (bR t.mask h d)).1.fits (SetTable.insertAt f (below t.place (bR t.mask h d)) (h,x)).size=true:=by
  have:=TOk.fits j
  rw[aI,eD] at this;exact this
 unfold layNew;rw[fs];show(SetTable.insertAt f (t.put (bR t.mask h d)).2 (h,x),(t.put (bR t.mask h d)).1.orStandIn (SetTable.insertAt f (t.put (bR t.mask h d)).2 (h,x)).size,false,!(t.put (bR t.mask h d)).1.fits (SetTable.insertAt f (t.put (bR t.mask h d)).2 (h,x)).size)=_;rw[o];unfold SetTable.orStandIn;rw[ir l,l];rfl
def FH{mask n:Nat}(f:we mask)(a:3*mask<=5*n)(b:5*(n-1)<3*mask)(c:n<=306):we (sizeAbove (grown n)-1)/\5*n<3*(sizeAbove (grown n)-1)/\n<=sizeAbove (grown n)-1/\sizeAbove (grown n)<=512:=by
 rcases f with rfl|rfl|rfl|rfl
 .have:n=5:=()
  subst this;exact#[.inr (.inl rfl),∅,∅,∅]
 .have:n=19:=()
  subst this;exact#[.inr (.inr (.inl rfl)),∅,∅,∅]
 .have:n=77:=()
  subst this;exact#[.inr (.inr (.inr rfl)),∅,∅,∅]
 .lia
theorem yW{t:SetTable}{c:Array (Int×Value)}(T:TOk t (c.toList.map (·.1)))(d:t.tooFull=true)(near:5*(c.size-1)<3*t.mask)(small:c.size<=306):
  ∃f a,t.relaid (c.map (·.1)) (grown c.size)\(f,a)/\a.toList.Perm (ac c.size)/\(a.filterMap (c[·]?)).toList.Perm c.toList/\(a.filterMap (c[·]?)).size=c.size/\
   TOk f ((a.filterMap (c[·]?)).toList.map (·.1))/\f.plain=t.plain/\f.led=t.led/\5*c.size<3*f.mask/\sizeAbove (grown c.size)<=512:=by
 have sz:t.place.size=c.size:=by rw[T.size];simp
 have m:3*t.mask<=5*c.size:=by
  unfold SetTable.tooFull SetTable.fill at d;rw[T.dum,sz] at d;simp at d;lia
 rfl';obtain⟨o,p,q,r⟩:=FH T.few m near small;obtain⟨f,a,e,em,s,u,_,g,v⟩:=LX o (c.toList.map (·.1)) (~~~q) t.finger (t.movedTo (sizeAbove (grown c.size)-1)) t.led t.plain
 rw[aI,eD] at g;ac_rfl
 have i:(a.filterMap (c[·]?)).toList.Perm c.toList:=by
  rw[acr];exact(g.filterMap _).trans (by rw[filterMap_getElem?_range])
 have w:(a.filterMap (c[·]?)).size=c.size:=by rw[<-eD,i.length_eq,eD]
 refine#[f,a,?_,g,i,w,?_,u,s,by rw[em];exact p,r]
 .unfold SetTable.relaid
  rw[show c.map (·.1)=(c.toList.map (·.1)).toArray by apply Array.toList_inj.mp;simp]
  exact e
 .have:(a.filterMap (c[·]?)).toList.map (·.1)=a.toList.map λk=>(c.toList.map (·.1)).getD k 0:=by
   rw[acr];have lt:∀k∈a.toList,k<c.size:=λk h=>cE.mp (g.mem_iff.mp h);generalize a.toList=l at lt
   induction l with
   |nil=>rfl
   |cons k l x=>
    have h:=lt k (bP ..);rw[List.filterMap_cons_some (b:=c[k]) (by simp[h]),dJ,dJ,x λj y=>lt j (cI _ y)]
    simp[h]
  rw[this];exact v
def Cj(T:TOk t (b.toList.map (·.1)))(f:t.tooFull=true)(near:5*(b.size-1)<3*t.mask)(small:b.size<=306):
  ∃g d,relayAll t b (grown b.size)=(g,d,false)/\g.toList.Perm b.toList/\TOk d (g.toList.map (·.1))/\d.plain=t.plain/\d.led=t.led/\5*b.size<3*d.mask:=by
 rfl';obtain⟨d,a,e,j,k,q,h,l,m,n,_⟩:=yW T f near small;ac_rfl;refine#[_,d,?_,k,h,l,m,n];unfold relayAll;rw[e];dsimp only;have c:coversAll a b.size=true:=List.isPerm_iff.mpr j
 have o:d.fits (a.filterMap (b[·]?)).size=true:=by
  have:=TOk.fits h
  rw[aI,eD] at this;exact this
 rw[c,o];rfl
end PySem
set_option maxHeartbeats 1000000
namespace PySem
open SetTable PyProof.Rows
section
variable {prog:Program} {w:World} {A:Around} {E:Value->Shared->Prop} {s:Shared}
def lM{h:Heap}(g:h.get? a\o)(e:o.data= .set f d t)(b:Array (Int×Value))(c:SetTable):
  (h.update a (Obj.putSet b c)).get? a\{o with data:= .set b (d+1) c}:=by
 have:=SL (Obj.putSet b c) g (by rw[putSet_of b c e];rfl)
 rw[putSet_of b c e] at this;exact this
theorem CF(h:s.heap.get? a\o)(S:fU (cP w) o b U t)(z:ElemsOf (intKind prog w) b.toList)
  (B:(intKind prog w).is k x=true) (room:b.size<=305)
  (X:(∃e∈b.toList,(intKind prog w).is k e.2=true)->Q false s)
  (C:¬(∃e∈b.toList,(intKind prog w).is k e.2=true)->∀n F G Y Z,Heap.SameBut a s.heap n->n.get? a\F->fU (cP w) F G Y Z->G.toList.Perm (b.toList++ [((intKind prog w).hash k,x)])->Q true {s with heap:=n}):
  wpAny (model prog w) A (setAddHashed a x ((intKind prog w).hash k)) Q E s:=by
 have i:=S.dat;have H:=S.fits;obtain⟨d,rfl⟩:=abR B;have I:(Value.int k d).scannable=true:=rfl;have hb:b.size<scanBound:=by show b.size<4096;lia
 unfold setAddHashed setAddHashedIn;refine KB (wpAny_bind (SB h i H ?_));dsimp only;rw[byScan_of I hb z];simp only[↓reduceIte];unfold setAddByScan;refine wpAny_bind ?_;refine wpAny_bind (aay ?_);refine wpAny_bind (wpAny_setScan_of B h i H z ?_);cases J:List.findIdx? (λe=>(intKind prog w).is k e.2) b.toList with
 |some j=>
  dsimp only;obtain⟨hj,ZE,_⟩:=List.findIdx?_eq_some_iff_getElem.mp J;exact be (be (X #[b.toList[j],jY hj,ZE]))
 |none=>
  dsimp only
  have L:¬∃e∈b.toList,(intKind prog w).is k e.2=true:=by
   rintro⟨e,he,hp⟩
   have:=List.findIdx?_eq_none_iff.mp J e he
   rw[hp] at this;exact Bool.noConfusion this
  rfl';obtain⟨p,f,eL,l,m1,r,M⟩:=F6 S.tok S.few ((intKind prog w).hash k) (.int k d);ac_rfl;rw[eL];dsimp only;refine wpAny_bind (be ?_);rw[show f.plain=true by rw[r];exact S.pl]
  simp only[↓reduceIte];refine wpAny_bind ?_;rw[hashByValue_scannable 8 I];refine be ?_;simp only[plainKind, ↓reduceIte];have g:(SetTable.insertAt b p ((intKind prog w).hash k,Value.int k d)).size=b.size+1:=SetTable.f7 ..;have u:=aa8 b p ((intKind prog w).hash k,Value.int k d);rw[u6] at u;refine wpAny_bind (aa1 h i ?_ (by rw[g];refine aa2 ?_;show b.size+1<4096;lia))
  have v:=lM h i (SetTable.insertAt b p ((intKind prog w).hash k,Value.int k d)) f;have N:=aan s.heap a (Obj.putSet (SetTable.insertAt b p ((intKind prog w).hash k,Value.int k d)) f)
  by_cases c:f.tooFull=true
  .rw[c]
   simp only[acA,Bool.and_true, ↓reduceIte];rfl';obtain⟨y,O,eR,P,T2,p2,l2,R⟩:=Cj l c (by rw[g,m1];have:=S.few;lia) (by rw[g];lia)
   ac_rfl;rw[eR];dsimp only;have T:y.size=b.size+1:=by rw[<-eD,P.length_eq,eD,g]
   refine wpAny_bind (be ?_);refine wpAny_bind (aa1 v rfl ?_ (by rw[T];refine aa2 ?_;show b.size+1<4096;lia))
   have rW:=lM v rfl y O;refine be (be (C L _ _ y _ O (N.trans (aan _ a _)) rW #[S.ex,rfl,T2,by rw[p2,r];exact S.pl,by rw[l2,M];exact S.ld,by rw[T];rw[g] at R;exact R] (P.trans u)))
  .have m:f.tooFull=false:=by simpa using c
   rw[m];simp only[acA,acy,gW, ↓reduceIte];refine be (be (C L _ _ _ _ f N v #[S.ex,rfl,l,by rw[r];exact S.pl,by rw[M];exact S.ld,?_] u))
   unfold SetTable.tooFull SetTable.fill at m;rw[l.dum,l.size] at m;simp at m;lia
def xE{Q₁:Value->Shared->Prop}
  (h:Q₁ (.ref s.heap.objs.size) {s with heap:=s.heap.push {cls:= .type "set",dict:=none,data:= .set #[] 0 (.fresh 0 0 (!cP w))}}):
  codeAny (model prog w) A (.call (.builtin "set.__new__") #[[.type "set"],[]]) (wants Q₁ E) s:=by
 refine acf ?_;refine wpAny_bind (aaJ F.newCall_set_0 (be #[aaq F.plain_set_new _,aam F.entry_set_new ?_]));rw[UV F.plain_set_new _];unfold Builtin.«set.__new__» Builtin.Frozenset.newClass;have a:=sub_set_self;obtain⟨b,g,d,c,os⟩:=s;dsimp only
 wp_walk
 refine aaC (be ?_);dsimp only;simp only[newObj];refine wpAny_bind (wpAny_alloc (be ?_));exact be h
theorem sL 
  (h:Q (.ref s.heap.objs.size) {s with heap:=s.heap.push {cls:= .type "set",dict:=none,data:= .set #[] 0 (.fresh 0 0 (!cP w))}}):
  wpAny (model prog w) A (call (.type "set") []) Q E s:=by
 obtain⟨c,q,g⟩:=F.called_set.mro;have t:=F.called_set.made;have u:=F.called_set.sub;refine wpAny_call (acf ?_);show wpAny _ _ (callAny (.type "set") _) _ _ _;refine be #[Code.quiet_builtin _ (by decide+kernel),aam F.entry_type_call ?_]
 rw[Around.under_plain (weight_type_call_type "set" [] []) rfl];have v:=F.called_set.notType;have x:=F.called_set.canCreate;have i:=F.typeCall_set_0
 repeat (any_goals (first|assumption|wp_step))
 refine aaM (xE (E:=E) (Q₁:=λobj a=>obj= .ref s.heap.objs.size/\a={s with heap:=s.heap.push {cls:= .type "set",dict:=none,data:= .set #[] 0 (.fresh 0 0 (!cP w))}}) #[rfl,rfl]) λr a b=>?_
 cases r with
 |error e=>exact b
 |ok j=>
  cases j with
  |ret obj=>
   obtain⟨rfl,rfl⟩:=b;have k:(s.heap.push {cls:= .type "set",dict:=none,data:= .set #[] 0 (.fresh 0 0 (!cP w))}).get? s.heap.objs.size\{cls:= .type "set",dict:=none,data:= .set #[] 0 (.fresh 0 0 (!cP w))}:=Gc _ rfl;have l:Shared.TypeIs {s with heap:=s.heap.push {cls:= .type "set",dict:=none,data:= .set #[] 0 (.fresh 0 0 (!cP w))}} (.ref s.heap.objs.size) "set":=#[_,k,rfl]
   have m:=F.called_set.init.lookup;have n:=F.called_set.init.bind (.ref s.heap.objs.size)
   repeat (any_goals (first|assumption|wp_step))
   refine aaM (codeAny_call_builtin (R:=wants (λr f=>r= .none/\Q (.ref s.heap.objs.size) f) E) F.called_set.init.plain F.entry_set_init (check_set_init l ?_)) λo f d=>?_
   .unfold Builtin.«set.__init__» noKeywords
    wp_walk
    exact#[rfl,h]
   .cases o with
    |error e=>exact d
    |ok p=>
     cases p with
     |ret r=>
      obtain⟨rfl,y⟩:=d
      repeat (any_goals (first|assumption|wp_step))
     |_=>exact d.elim
  |_=>exact b.elim
def fU.new(w:World):fU (cP w) {cls:= .type "set",dict:=none,data:= .set #[] 0 (.fresh 0 0 (!cP w))} #[] 0 (.fresh 0 0 (!cP w)) where
 ex:=#[rfl,rfl,rfl]
 dat:=rfl
 tok:=#[.inl rfl,rfl,λi j a=>by simp[SetTable.fresh] at a,rfl,λi j h=>by simp[SetTable.fresh] at h,by simp[SetTable.fresh],λi h e=>by simp at e]
 pl:=rfl
 ld:=rfl
 few:=by simp[SetTable.fresh]
end
namespace F
def wq:entryFor table "set.__iter__"\Builtin.«frozenset.__iter__»:=
 entryFor_alias (id':="frozenset.__iter__") (by kernel_rfl) rfl (by decide+kernel) (by kernel_rfl)
def jW:Manifest.owners.lookup (String.ofList ['r','o','t','a','r','e','t','i','_','t','e','s'].reverse)\Manifest.sig_set_iterator:=by kernel_rfl
def bX:Slot "set_iterator" "__next__" "set_iterator.__next__":=
 .of (owner:="set_iterator") (n:="__next__") (by rw[typeLookup_type,builtinLookup_eq_fast];kernel_rfl) (by decide+kernel) (by decide+kernel) (by decide+kernel)
  (by first|exact .inl (by decide+kernel) |exact .inr (by decide+kernel)) (by rw[isSubtype_type];kernel_rfl)
def gQ:entryFor table "set_iterator.__next__"\Builtin.«set_iterator.__next__»:=entryFor_of_tree (by kernel_rfl)
theorem gJ(a:Value):argsOk "set_iterator.__next__" #[[a],[]]:=by
 unfold argsOk;rw[signature?_of (id:="set_iterator.__next__") (n:= ['_','_','t','x','e','n','_','_']) (o:= ['r','o','t','a','r','e','t','i','_','t','e','s']) (by kernel_rfl) jW];kernel_rfl
def ik:Slot "set_iterator" "__iter__" "set_iterator.__iter__":=
 .of (owner:="set_iterator") (n:="__iter__") (by rw[typeLookup_type,builtinLookup_eq_fast];kernel_rfl) (by decide+kernel) (by decide+kernel) (by decide+kernel)
  (by first|exact .inl (by decide+kernel) |exact .inr (by decide+kernel)) (by rw[isSubtype_type];kernel_rfl)
def lR:entryFor table "set_iterator.__iter__"\Builtin.«dict_keyiterator.__iter__»:=
 entryFor_alias (id':="dict_keyiterator.__iter__") (by kernel_rfl) rfl (by decide+kernel) (by kernel_rfl)
theorem k5(a:Value):argsOk "set_iterator.__iter__" #[[a],[]]:=by
 unfold argsOk;rw[signature?_of (id:="set_iterator.__iter__") (n:= ['_','_','r','e','t','i','_','_']) (o:= ['r','o','t','a','r','e','t','i','_','t','e','s']) (by kernel_rfl) jW];kernel_rfl
end F
theorem vO:∀(l:List a)(i:Nat)(h:i<l.length),(l[i]::l.eraseIdx i).Perm l
 |y::l,0,_=> .refl _
 |y::l,i+1,h=>by
  have:=vO l i (~~~h)
  simp only[List.getElem_cons_succ,CJ];exact(List.Perm.swap ..).trans (this.cons y)
theorem EA(next:Nat->Nat):∀(a k:Nat)(left:List b)(out:Array b),left.length<=a->(pickOrder.go next a k left out).toList.Perm (out.toList++left)
 |0,k,left,out,h=>by
  have:left= []:=aaZ.mp ()
  subst this;simp[pickOrder.go]
 |a+1,k,[],out,h=>by
  simp[pickOrder.go]
 |a+1,k,y::left,out,h=>by
  have lt:next k%(y::left).length<(y::left).length:=qB _ (by simp)
  unfold pickOrder.go;rw[cM lt];dsimp only;refine(EA next a (k+1) _ _ (by rw[List.length_eraseIdx_of_lt lt];simp at h ⊢;lia)).trans ?_
  rw[u6,i5];refine aap _ ?_;exact vO _ _ lt
def gd(w:World)(a:Addr)(c:Nat)(b:Array (Int×Value)):Array (Int×Value):=if cP w=true then pickOrder (w.params.setOrder a c) b else b
def yN(w:World)(a:Addr)(c:Nat)(b:Array (Int×Value)):(gd w a c b).toList.Perm b.toList:=by
 unfold gd
 split
 .unfold pickOrder
  simpa using EA (w.params.setOrder a c) b.size 0 b.toList #[] (by simp)
 .exact .refl _
def kI(w:World)(a:Addr)(c:Nat)(b:Array (Int×Value)):(gd w a c b).size=b.size:=by
 rw[<-eD,(yN w a c b).length_eq,eD]
def eV(w:World)(t:SetTable)(i:Nat):Nat:=if cP w=true then 0 else if i=0 then 0 else t.place[i-1]! +1
section
variable {prog:Program} {w:World} {A:Around} {E:Value->Shared->Prop} {s:Shared}
def C5(T:TOk t a)(d:cP w=false){i:Nat}(f:i<=a.length):below t.place (eV w t i)=i:=by
 have sz:=T.size;obtain⟨g,c,e⟩:=ju T.rise (eV w t i);unfold eV at*;rw[mo (by rw[d];exact dA)] at*
 by_cases z:i=0
 .rw[ir z] at*
  rcases Nat.eq_zero_or_pos (below t.place 0) with h|h
  .rw[h,z]
  .exact absurd (c 0 h) (Nat.not_lt_zero _)
 .rw[mo z] at*
  generalize below t.place (t.place[i-1]! +1)=b at*
  rcases abV b i with h|h|h
  .have:=e (i-1) () ()
   lia
  .exact h
  .have:=c i h
   have:=T.rise (i-1) i () ()
   lia
theorem mY(f:s.heap.get? a\o)(S:fU (cP w) o c d t)(k:i<=c.size)
  (h:Q (((gd w a d c)[i]?).map λe=>(e.2,eV w t (i+1))) s):wpAny (model prog w) A (setNext a (eV w t i) i d) Q E s:=by
 have g:=S.dat;have j:=S.fits;unfold setNext;refine wpAny_bind (SB f g j ?_);dsimp only;unfold setsByText;refine wpAny_bind (wpAny_bind (aaC (be ?_)));cases b:cP w with
 |true=>
  refine abB (GT (show w.params.followText "set-order"=true from b)) ?_;rw[mo (by simp)]
  unfold setWalk setsByText;refine wpAny_bind (wpAny_bind (SB f g j ?_));dsimp only;refine wpAny_bind (wpAny_bind (aaC (be ?_)));refine abB (GT (show w.params.followText "set-order"=true from b)) ?_;refine wpAny_bind (aaC (be (be ?_)));unfold gd eV at h;rw[ir b,ir b] at h;unfold eV;rw[ir b];exact h
 |false=>
  refine abu (GE (show ¬w.params.followText "set-order"=true from by rw[show w.params.followText "set-order"=false from b];exact dA)) ?_
  refine abu ?_ ?_
  .refine GE ?_
   show ¬((!t.plain&&decide (c.size>1))=true);rw[S.pl];simp
  refine wpAny_bind ?_;show wpAny _ _ (if (!t.led&& !c.isEmpty)=true then _ else _) _ _ _;rw[mo (by rw[S.ld,b];simp)]
  refine be ?_;have l:=C5 (w:=w) S.tok b (i:=i) (~~~k)
  rw[l];refine be ?_;have sz:t.place.size=c.size:=by rw[S.tok.size];simp
  unfold gd at h;rw[mo (by rw[b];exact dA)] at h
  by_cases lt:i<c.size
  .have lp:i<t.place.size:=()
   rw[qw lt] at h ⊢;rw[qw lp];dsimp only
   have e:eV w t (i+1)=t.place[i]+1:=by
    unfold eV;rw[mo (by rw[b];exact dA),mo ()]
    simp[lp]
   rw[Option.map_some,e] at h;exact h
  .rw[CK ()] at h ⊢
   exact h
end
def i7(w:World)(h:Heap)(I a:Addr)(t:SetTable)(i n b:Nat):Prop:=
 ∃o,h.get? I\o/\o.cls= .type "set_iterator"/\o.data= .fields [.int (eV w t i:Nat) 0, .int i 0, .ref a, .int n 0, .int b 0].toArray
section
variable {prog:Program} {w:World} {A:Around} {E:Value->Shared->Prop} {s:Shared}
def i7.typeIs(x:i7 w s.heap I a t i n b):s.TypeIs (.ref I) "set_iterator":=let #[o,c,d,_]:=x;#[o,c,d]
def t9(b:s.heap.get? a\o)(S:fU (cP w) o c g t)
  (h:Q (.ref s.heap.objs.size) {s with heap:=s.heap.push {cls:= .type "set_iterator",data:= .fields [.int (eV w t 0:Nat) 0, .int (0:Nat) 0, .ref a, .int c.size 0, .int g 0].toArray}}):
  wpAny (model prog w) A (pyIter (.ref a)) Q E s:=by
 have d:=S.dat;have f:=S.fits;have i:s.TypeIs (.ref a) "set":=#[o,b,S.ex.1];refine wpAny_pyIter_slot i F.slot_set_iter (On F.slot_set_iter i F.wq ?_ (F.args_set_iter_1 _));unfold Builtin.«frozenset.__iter__» Builtin.Frozenset.slot0 slotArgs;simp only[abf,abc,gW, ↓reduceIte,bind_assoc,j3,abT];unfold Builtin.Frozenset.addrOf Builtin.Frozenset.sizeOf;refine wpAny_bind (be ?_)
 try dsimp only
 refine wpAny_bind (be ?_);refine wpAny_bind (wpAny_bind (abz b d f (be ?_)));unfold setDrawn setsByText;refine wpAny_bind (wpAny_bind (SB b d f ?_));dsimp only;refine wpAny_bind (wpAny_bind (aaC (be ?_)));refine be ?_;refine abu ?_ ?_
 .refine GE ?_
  show ¬((!w.params.followText "set-order"&&(!t.plain&&decide (c.size>1)))=true);rw[S.pl];simp
 refine wpAny_bind (be ?_);refine wpAny_bind ?_;unfold setEpoch;refine wpAny_bind (SB b d f (be ?_));refine wpAny_bind (Os (be #[_,rfl,"set_iterator",_,#[_,Gc _ rfl,rfl],F.bX.lookup,?_]));have e:eV w t 0=0:=by unfold eV;simp
 rw[e] at h;exact h
theorem ua(b:i7 w s.heap I a t i c.size d)(j:s.heap.get? a\o)(S:fU (cP w) o c d t)
  (k:(gd w a d c)[i]?\x) (n:∀f,i7 w f I a t (i+1) c.size d->Heap.SameBut I s.heap f->Q (some x.2) {s with heap:=f}):wpAny (model prog w) A (pyNext (.ref I)) Q E s:=by
 obtain⟨u,g,p,e⟩:=id b
 have q:i<c.size:=by
  have:=(A1.mp k).1
  rwa [kI] at this
 unfold pyNext
 refine wpAny_bind (abO (aaY (name:=Str.ofString "__next__") b.typeIs F.bX
  (On F.bX b.typeIs F.gQ ?_ (F.gJ _))))
 unfold Builtin.«set_iterator.__next__»;refine wpAny_bind (m:=slotArgs "__next__" 0 _) (be ?_);refine wpAny_bind (wpAny_fieldsOf g e ?_);dsimp only;refine wpAny_bind (abz j S.dat S.fits ?_);rw[mo (by simp)]
 refine wpAny_bind ?_;rw[ug,ug,ug];refine mY j S (vg q) ?_;rw[k];dsimp only[Option.map_some];refine wpAny_bind (acB g e (by simp) ?_)
 have l:=SL (Obj.mapFields (·.setIfInBounds 0 (rawInt (eV w t (i+1):Nat)))) g (Obj.isFreed_of_fields (aaR e _));have h:=aaR e (·.setIfInBounds 0 (rawInt (eV w t (i+1):Nat)));refine wpAny_bind (acB l h (by simp) ?_)
 have r:=SL (Obj.mapFields (·.setIfInBounds 1 (rawInt ((i:Int)+1)))) l (Obj.isFreed_of_fields (aaR h _));refine be #[_,rfl,be (n _ #[_,r,?_,?_] ((aan ..).trans (aan ..)))]
 .exact(Obj.cls_mapFields ..).trans ((Obj.cls_mapFields ..).trans p)
 .rw[aaR h];simp[rawInt]
theorem oT(j:A.handled=none)(c:i7 w s.heap I a t d.size d.size e)(f:s.heap.get? a\o)(S:fU (cP w) o d e t)
  (k:∀g,Heap.ExtBut I s.heap g->Q none {s with heap:=g}):wpAny (model prog w) A (pyNext (.ref I)) Q E s:=by
 obtain⟨l,h,n,i⟩:=id c;unfold pyNext
 refine wpAny_bind (abO (aaY (name:=Str.ofString "__next__") c.typeIs F.bX
  (On F.bX c.typeIs F.gQ ?_ (F.gJ _))))
 unfold Builtin.«set_iterator.__next__»;refine wpAny_bind (m:=slotArgs "__next__" 0 _) (be ?_);refine wpAny_bind (wpAny_fieldsOf h i ?_);dsimp only;refine wpAny_bind (abz f S.dat S.fits ?_);rw[mo (by simp)]
 refine wpAny_bind ?_;rw[ug,ug,ug];refine mY f S (bo _) ?_;rw[CK (by rw[kI];exact bo _)]
 dsimp only[Option.map_none];refine wpAny_bind (acB h i (by simp) ?_)
 show wpAny _ _ (newExc (.type "StopIteration") []>>=_) _ _ _;refine wpAny_bind ?_;simp only[newExc,newTuple];refine wpAny_bind (Os ?_ (by size_fits))
 refine wpAny_bind (m:=firstArgMember _ _) (aaJ (a:=Value.none) (by first|rfl| (simp only[firstArgMember];rfl)) ?_)
 refine Os ?_ (by size_fits)
 simp only[raiseNew];refine wpAny_bind (wpAny_handled ?_);rw[show A.in1.handled=none from j];refine wpAny_bind (be (wpAny_throw ?_));refine wpAny_bind (wpAny_isInstance (T:="StopIteration") (b:=true) #[_,Gc _ rfl,rfl] isSubtype_stop ?_);exact be (k _ (((aan ..).extBut.push _).push _))
def Walks.sets(p:A.handled=none)(I a:Addr)(q:a≠I)(S:fU (cP w) o c f t):
  Walks prog w A I [I,a] [I] c.size (λi v=>∃x,(gd w a f c)[i]?\x/\v=x.2) (λi h=>i7 w h I a t i c.size f/\h.get? a\o) where
 sub:=λb d=>by simp at d;simp[d]
 frame:=λi h j st k=>#[let #[u,y,r]:=st.1;#[u,k I (by simp) _ y,r],k a (by simp) _ st.2]
 item:=λi s Q E z st g=>by
  have l:(gd w a f c)[i]?\((gd w a f c)[i]'(by rw[kI];exact z)):=qw _
  refine ua st.1 st.2 S l λj B n=>?_;exact g _ j s.toks #[_,l,rfl] #[B,(n.2 a q).trans st.2] λb o d e=>n.extBut b o (λh=>d (by simp[h])) e
 done:=λs Q E st g=>oT p st.1 st.2 S λj C=>g j s.toks λb o d e=>C b o (λh=>d (by simp[h])) e
 self:=λi s Q E st g=>by
  refine wpAny_pyIter_slot st.1.typeIs F.ik (On F.ik st.1.typeIs F.lR ?_ (F.k5 _));unfold Builtin.«dict_keyiterator.__iter__»;refine wpAny_bind (m:=slotArgs "__iter__" 0 _) (be ?_);exact be #[_,rfl,"set_iterator",_,st.1.typeIs,F.bX.lookup,g]
end
section
variable {prog:Program} {w:World} {A:Around} {E:Value->Shared->Prop} {s:Shared}
def sF(Z:A.handled=none)(H:s.heap.get? a\o)(S:fU (cP w) o c d t)
  (hQ:∀k tk,s.heap.objs.size<k.objs.size->(∀b o,s.heap.get? b\o->k.get? b\o)->Q ((gd w a d c).toList.map (·.2)) {s with heap:=k,toks:=tk}) (hn:c.size<=sizeLine:=by size_fits):
  wpAny (model prog w) A (collect (.ref a)) Q E s:=by
 have m:a<s.heap.objs.size:=Fk H;unfold collect;refine wpAny_bind (wpAny_runValue (aam F.entry_proto_collect ?_));rw[UV F.plain_proto_collect _];show wpAny _ A.in1 (newList []>>=λl=>again (.builtin "list.__iadd__" #[[l, .ref a],[]])) _ _ s;refine wpAny_bind (Os ?_);refine be #[aaq F.plain_list_iadd _,aam F.entry_list_iadd ?_];rw[UV F.plain_list_iadd _];have n:(s.heap.push {cls:= .type "list",data:= .seq ([]:List Value).toArray}).get? a\o:=AC _ H;show wpAny _ A.in1 (Builtin.List.listExtendWith (.ref s.heap.objs.size) (.ref a) (.ref s.heap.objs.size)) _ _ {s with heap:=s.heap.push {cls:= .type "list",data:= .seq ([]:List Value).toArray}}
 unfold Builtin.List.listExtendWith;have hT:Shared.TypeIs {s with heap:=s.heap.push {cls:= .type "list",data:= .seq ([]:List Value).toArray}} (.ref a) "set":=#[o,n,S.ex.1]
 refine wpAny_bind (ab0 hT ?_);have h1:Builtin.List.listSameRef (.ref s.heap.objs.size) (.ref a)=false:=by simp[Builtin.List.listSameRef,abY m]
 have f:(Value.type "set"==Value.type "list")=false:=∅
 have h3:(Value.type "set"==Value.type "tuple")=false:=∅
 simp only[h1,f,h3,Bool.or_false,gW,SC];refine wpAny_bind (t9 n S ?_);generalize J:(s.heap.push {cls:= .type "list",data:= .seq ([]:List Value).toArray}).objs.size=I;have p:I=s.heap.objs.size+1:=by rw[<-J,aaS]
 have YV:a≠I:=by rw[p];exact bY (rL m)
 have L:s.heap.objs.size≠I:=by rw[p];exact bY (u7 _)
 have M:s.heap.objs.size≠a:=abY m;have q:((s.heap.push {cls:= .type "list",data:= .seq ([]:List Value).toArray}).push {cls:= .type "set_iterator",data:= .fields [.int (eV w t 0:Nat) 0, .int (0:Nat) 0, .ref a, .int c.size 0, .int d 0].toArray}).get? s.heap.objs.size\{cls:= .type "list",data:= .seq ([]:List Value).toArray}:=AC _ (Gc _ rfl);have N:((s.heap.push {cls:= .type "list",data:= .seq ([]:List Value).toArray}).push {cls:= .type "set_iterator",data:= .fields [.int (eV w t 0:Nat) 0, .int (0:Nat) 0, .ref a, .int c.size 0, .int d 0].toArray}).get? I\{cls:= .type "set_iterator",data:= .fields [.int (eV w t 0:Nat) 0, .int (0:Nat) 0, .ref a, .int c.size 0, .int d 0].toArray}:=by rw[<-J];exact Gc _ rfl
 have r:((s.heap.push {cls:= .type "list",data:= .seq ([]:List Value).toArray}).push {cls:= .type "set_iterator",data:= .fields [.int (eV w t 0:Nat) 0, .int (0:Nat) 0, .ref a, .int c.size 0, .int d 0].toArray}).get? a\o:=AC _ n;have O:∀b o,s.heap.get? b\o->((s.heap.push {cls:= .type "list",data:= .seq ([]:List Value).toArray}).push {cls:= .type "set_iterator",data:= .fields [.int (eV w t 0:Nat) 0, .int (0:Nat) 0, .ref a, .int c.size 0, .int d 0].toArray}).get? b\o:=λb o e=>AC _ (AC _ e);generalize ((s.heap.push {cls:= .type "list",data:= .seq ([]:List Value).toArray}).push {cls:= .type "set_iterator",data:= .fields [.int (eV w t 0:Nat) 0, .int (0:Nat) 0, .ref a, .int c.size 0, .int d 0].toArray})=f at q N r O ⊢;have u:Shared.TypeIs {s with heap:=f} (.ref a) "set":=#[o,r,S.ex.1]
 refine wpAny_bind (KB ?_);unfold Builtin.List.listLengthHint;refine wpAny_bind (ach u F.slot_set_len.lookup ?_)
 (generalize v:("set.__len__":String)=P;(fail_if_success (clear v P));wp_delta;rw[show splitId P\("set","__len__") from by subst v;decide+kernel];subst v)
 refine wpAny_bind (wpAny_isInstance (b:=true) u sub_set_self ?_);dsimp only;refine abu ∅ ?_
 refine abB (by decide+kernel) ?_
 refine wpAny_bind (ab0 u ?_);refine be ?_;refine abB (by decide+kernel) ?_
 refine wpAny_bind (aay ?_);refine wpAny_bind ?_;show wpAny _ A.in1 (updateSeq s.heap.objs.size (·.push .none)>>=λ_=>updateSeq s.heap.objs.size (·.pop)) _ _ _;refine wpAny_bind (aaL q rfl ?_);have R:=SL (Obj.mapSeq (·.push Value.none)) q rfl;refine aaL R rfl ?_;have RW:=SL (Obj.mapSeq (·.pop)) R rfl
 have y:∀b o,b≠s.heap.objs.size->f.get? b\o->
   ((f.update s.heap.objs.size (Obj.mapSeq (·.push Value.none))).update s.heap.objs.size (Obj.mapSeq (·.pop))).get? b\o:=
  λb o g e=>(KM _ _ (Ne.symm g)).trans ((KM _ _ (Ne.symm g)).trans e)
 have W:=(Walks.sets (prog:=prog) (A:=A.in1) Z I a YV S).toS;have z:s.heap.objs.size∉ [I,a]:=by simp[L,M]
 refine be #[aaq F.plain_extend_loop _,codeAny_extend_loopS W hn _ z _ c.size 0 _ _ _ rfl (fk _)
  #[#[_,y _ _ (Ne.symm L) N,rfl,rfl],y _ _ (Ne.symm M) r] RW (ItemsOf.nil _) λh i c' T U X=>?_]
 show wpAny _ A (load s.heap.objs.size>>=_) _ _ h;refine wpAny_bind (wpAny_load U ?_)
 have g9:h={s with heap:=h.heap,toks:=h.toks}:=by
  obtain⟨lU,g',d',tk',SU⟩:=h;obtain⟨_,B,C,G,_⟩:=T;have B:g'=s.gens:=B;have C:d'=s.drawn:=C;have G:SU=s.os:=G;subst B C G;rfl
 have ea:i.toList=(gd w a d c).toList.map (·.2):=by
  refine rJ λj=>?_;rw[gk,cG,gk];have sz:i.size=(gd w a d c).size:=by rw[X.1,kI]
  by_cases lt:j<i.size
  .obtain⟨x,hx,hv⟩:=X.2 j i[j] (qw lt)
   rw[hx,qw lt,hv];rfl
  .rw[CK (),CK ()];rfl
 rw[g9];show wpAny _ _ (pure i.toList) Q E _;rw[ea];refine be (hQ _ _ (Fk U) λb o e=>?_);have g:=Fk e;have Y:b≠s.heap.objs.size:=bY g;have b2:b≠I:=by rw[p];exact bY (rL g)
 exact T.heap b o (by simp[Y,b2]) (y b o Y (O b o e))
def ye(p:i.Perm g):∀{e:List Int},IntsAre g e->∃f,IntsAre i f/\f.Perm e:=by
 induction p with
 |nil=>intro e h;exact#[e,h, .refl _]
 |cons x _ j=>
  intro e h;cases h with
  |cons n t h=>
   obtain⟨f,a,b⟩:=j h;exact#[n::f, .cons n t a,b.cons n]
 |swap x y l=>
  intro e h;cases h with
  |cons n t h=>
   cases h with
   |cons m u h=>exact#[_, .cons m u (.cons n t h), .swap ..]
 |trans _ _ k o=>
  intro e h;obtain⟨f,a,b⟩:=o h;obtain⟨q,c,d⟩:=k a;exact#[q,c,d.trans b]
def EL(v:A.handled=none)(x:s.heap.get? a\o)(S:fU (cP w) o d f t)(y:IntsAre (d.toList.map (·.2)) i)(z:d.size<64)
  (h:∀j B q (out:Array Value) (e:Nat) (g:List Int),(∀b o,s.heap.get? b\o->j.get? b\o)->s.heap.objs.size<=q->j.get? q\{cls:= .type "list",data:= .seq out e}->IntsAre out.toList g->g.Perm i->g.Pairwise (·<=·)->Q (.ref q) {s with heap:=j,toks:=B}):
  wpAny (model prog w) A (call (.builtin "sorted") [.ref a]) Q E s:=by
 have C:=(yN w a f d).map (λe:Int×Value=>e.2);obtain⟨k,F,G⟩:∃k,IntsAre ((gd w a f d).toList.map (·.2)) k/\k.Perm i:=ye C y;have sz:((gd w a f d).toList.map (·.2)).length=d.size:=by rw[aI,eD,kI]
 refine aaA acq ab3 ab4 (ab5 _) ?_;unfold Builtin.«sorted»;refine wpAny_bind (m:=checkCount "sorted" 1 1 _) (be ?_);have p:64<=sizeLine:=∅
 refine wpAny_bind (sF v x S (λc R H I=>?_) ())
 refine wpAny_bind (aaI ?_ (by rw[sz];lia))
 have l:(c.push (seqObj "list" ((gd w a f d).toList.map (·.2)).toArray 0)).get? c.objs.size\(seqObj "list" ((gd w a f d).toList.map (·.2)).toArray 0):=Gc _ rfl;refine wpAny_bind (KB (On slot_list_sort #[_,l,rfl] entry_list_sort (list_sort_tree l F (by rw[sz];exact z) λout g J L M=>#[_,rfl,?_]) (aaT _)))
 obtain⟨n,N⟩:∃n,((c.push (seqObj "list" ((gd w a f d).toList.map (·.2)).toArray 0)).update c.objs.size (Obj.mapSeq λ_=> #[])).get? c.objs.size\(seqObj "list" #[] n):=#[_,abr l (λ_=> #[])];have T:((c.push (seqObj "list" ((gd w a f d).toList.map (·.2)).toArray 0)).update c.objs.size (Obj.mapSeq λ_=> #[])).objs.size=c.objs.size+1:=by rw[aaD,aaS]
 have O:((((c.push (seqObj "list" ((gd w a f d).toList.map (·.2)).toArray 0)).update c.objs.size (Obj.mapSeq λ_=> #[])).push (seqObj "tuple" ((gd w a f d).toList.map (·.2)).toArray 0)).push (seqObj "list" #[] 0)).get? c.objs.size\(seqObj "list" #[] n):=
  AC _ (AC _ N)
 have P:=abr O (λ_=>out);refine be #[_,rfl,h _ _ c.objs.size out _ g (λb o e=>?_) (vg H) P J (L.trans G) M];have r:=I b o e;have u:b≠c.objs.size:=bY (Fk r);show((((((c.push (seqObj "list" ((gd w a f d).toList.map (·.2)).toArray 0)).update c.objs.size (Obj.mapSeq λ_=> #[])).push (seqObj "tuple" ((gd w a f d).toList.map (·.2)).toArray 0)).push (seqObj "list" #[] 0)).update c.objs.size (Obj.mapSeq λ_=>out))).get? b\o;rw[aaE _ _ _ _ u];refine AC _ (AC _ ?_);rw[aaE _ _ _ _ u];exact AC _ r
end
section
variable {prog:Program} {w:World} {A:Around} {E:Value->Shared->Prop} {s:Shared}
def ItemsAre.ints(h:ItemsAre (intKind prog w) c b):∀v∈b,∃i t,v= .int i t:=by
 induction h with
 |nil=>intro v a;simp at a
 | @cons k f c b d _ e=>
  intro v a
  rcases bH.mp a with rfl|a
  .obtain⟨t,rfl⟩:=abR d
   exact#[k,t,rfl]
  .exact e v a
def qs(f:IsTupleKey (intKind prog w) s.heap j a)(h:Q false s):wpAny (model prog w) A (ofAClassStatement 8 (.ref a)) Q E s:=by
 have k:=f.typeIs;obtain⟨o,c,n,l,_,m,p⟩:=f;unfold ofAClassStatement;refine wpAny_bind (ab0 k ?_);dsimp only;simp only[beq_self_eq_true, ↓reduceIte];refine wpAny_bind (be ?_);simp only[abc,gW, ↓reduceIte];refine wpAny_bind (aaV l m ?_);dsimp only;refine wpAny_bind ?_;rw[<-Array.forIn_toList];refine abg _ (λb r d=>r.1=none/\d=s/\∀v∈b,∃i t,v=Value.int i t) _ ?_ ?_ _ _ #[rfl,rfl,p.ints]
 .rintro v b r d ⟨e,rfl,g⟩
  obtain⟨i,t,rfl⟩:=g v bP;refine wpAny_bind (aaJ (show ofAClassStatement 7 (.int i t)=pure false from by unfold ofAClassStatement;rfl) ?_)
  simp only[gW,SC];exact be #[rfl,rfl,λu q=>g u (cI _ q)]
 .rintro⟨x,y⟩ d ⟨e,rfl,_⟩
  simp only at e;subst e;exact be h
def E1(j:IsTupleKey (intKind prog w) s.heap n b)(stored:List Value)(o:∀y∈stored,∃f a,y=Value.ref a/\IsTupleKey (intKind prog w) s.heap f a)(h:Q false s):
  wpAny (model prog w) A (searchCouldBeSeen (.ref b) stored) Q E s:=by
 unfold searchCouldBeSeen;refine wpAny_bind ?_;refine abg _ (λd r g=>r.1=none/\g=s/\∀y∈d,∃f a,y=Value.ref a/\IsTupleKey (intKind prog w) s.heap f a) _ ?_ ?_ _ _ #[rfl,rfl,o]
 .rintro y d r g ⟨i,rfl,k⟩
  obtain⟨f,a,rfl,l⟩:=k y bP;have m:∀y∈d,∃f a,y=Value.ref a/\IsTupleKey (intKind prog w) g.heap f a:=λy p=>k y (cI _ p);have e:(carriedByValue (Value.ref b)&&carriedByValue (Value.ref a))=false:=by simp[carriedByValue]
  dsimp only;rw[e,Bool.or_false]
  by_cases c:(b==a)=true
  .rw[ir c]
   exact be #[rfl,rfl,m]
  .rw[mo c]
   refine wpAny_bind (wpAny_eqIsQuiet_tuple j ?_);simp only[abc,gW,SC];refine wpAny_bind (wpAny_eqIsQuiet_tuple l ?_);simp only[abc,gW,SC];refine wpAny_bind (qs j ?_);simp only[gW,SC];refine wpAny_bind (qs l ?_);simp only[gW,SC];exact be #[rfl,rfl,m]
 .rintro⟨q,t⟩ g ⟨i,rfl,_⟩
  simp only at i;subst i;exact be h
def z3(f:IsTupleKey (intKind prog w) s.heap j a)(h:Q true s):wpAny (model prog w) A (hashByValue 8 (.ref a)) Q E s:=by
 rfl';have l:=f.typeIs;obtain⟨o,c,n,m,_,p,q⟩:=f;ac_rfl;unfold hashByValue;refine wpAny_bind (ach l F.slot_tuple_hash.lookup ?_);dsimp only;refine wpAny_bind (aaV m p ?_);refine wpAny_bind ?_;show wpAny _ _ (forIn c _ _) _ _ s;rw[<-Array.forIn_toList];refine abg _ (λb r d=>r.1=none/\d=s/\∀v∈b,∃i t,v=Value.int i t) _ ?_ ?_ _ _ #[rfl,rfl,q.ints]
 .rintro v b r d ⟨e,rfl,g⟩
  obtain⟨i,t,rfl⟩:=g v bP;refine wpAny_bind (aaJ (show hashByValue 7 (.int i t)=pure true from by unfold hashByValue;rfl) ?_)
  simp only[abc,gW,SC];exact be #[rfl,rfl,λu x=>g u (cI _ x)]
 .rintro⟨z,B⟩ d ⟨e,rfl,_⟩
  simp only at e;subst e;exact be h
def Ki(prog:Program)(w:World)(h:Heap)(b:Array (Int×Value)):Prop:=∀(i:Nat)(e:Int×Value),b[i]?\e->∃k a,e=(tupleKeyHash (intKind prog w) k, .ref a)/\IsTupleKey (intKind prog w) h k a
def Nl(a:Array (Int×Value))(i:Nat):Int:=(a[i]?.map (·.1)).getD 0
def Lj(h:we m):m%2=1:=by rcases h with rfl|rfl|rfl|rfl<;>rfl
def AU{a:Array Nat}(R:oZ a){i j v:Nat}(b:a[i]?\v)(c:a[j]?\v):i=j:=by
 rw[<-below_at R b,<-below_at R c]
theorem rE(hu:A.units<cLine)(ho:s.heap.get? a\o)(S:fU (cP w) o q M t)(P:Ki prog w s.heap q)(hk:IsTupleKey (intKind prog w) s.heap u b)
  (Og:(∃(i:Nat)(c:Addr),q[i]?\(tupleKeyHash (intKind prog w) u, .ref c)/\IsTupleKey (intKind prog w) s.heap u c)->∀r:Option Nat,(B=false->r.isSome=true)->Q (.there r) s)
  (Bw:(∀(i:Nat)(e:Int×Value),q[i]?\e->∀c,e.2= .ref c->¬IsTupleKey (intKind prog w) s.heap u c)->∀g,(∀i:Nat,t.place[i]? ≠some (bR t.mask (tupleKeyHash (intKind prog w) u) g))->(∀j,j<g->∃i:Nat,t.place[i]?\(bR t.mask (tupleKeyHash (intKind prog w) u) j))->
   Q (.free (bR t.mask (tupleKeyHash (intKind prog w) u) g) false) s):
  wpAny (model prog w) A (setSearch a (.ref b) (tupleKeyHash (intKind prog w) u) B) Q E s:=by
 generalize hh:tupleKeyHash (intKind prog w) u=h at*;have T:=S.tok;obtain⟨s0,ZI,Vg⟩:=T.empty;obtain⟨K,hK,Z⟩:=meets T.few (ur.start t.mask h) ZI;have Z:bR t.mask h K=s0:=by unfold bR;rw[n6];exact Z
 have kb:K<6000:=by
  have:10*turns t.mask<=5260:=by
   rcases T.few with e|e|e|e<;>rw[e]<;>decide
  lia
 have sz:t.place.size=q.size:=by rw[T.size];simp
 have hN:(t.mask%2==0)=false:=by rw[Lj T.few];rfl
 have N:∀(n:Nat)(k:Nat)(l:Nat)(O:Option Probe),K+1-k<=n->n<l->k<=K->O.getD (t.probeStart h)=qU t.mask h k->(∀j,j<k->∃i:Nat,t.place[i]?\(bR t.mask h j))->
   (∀(i:Nat) c,q[i]?\(h, .ref c)->IsTupleKey (intKind prog w) s.heap u c->∀C,t.place[i]?\(bR t.mask h C)->k<=C)->
   wpAny (model prog w) A (setSearchFrom a (.ref b) h B l O) Q E s:=by
  intro n
  induction n with
  |zero=>intro k l O h1 h2 h3;lia
  |succ n ih=>
   intro k l O h1 h2 h3 h4 h5 h6;obtain⟨f,rfl⟩:∃f,l=f+1:=#[l-1,()]
   unfold setSearchFrom;refine wpAny_bind (SB ho S.dat S.fits ?_);dsimp only;unfold SetTable.gaveWay;rw[hN];simp only[gW,SC]
   have UY:∀(i:Nat)(e:Int×Value),q[i]?\e->Nl q i=e.1:=λi e d=>by
    show(q[i]?.map (·.1)).getD 0=e.1;rw[d];rfl
   generalize I:t.probe _ h (O.getD (t.probeStart h))=r;have I:t.probe (Nl q) h (qU t.mask h k)=r:=by rw[<-h4];exact I
   generalize Nl q=hA at UY I;obtain⟨g,FP,hp,alt⟩:=TOk.probe T hA h k
   have k0K:g<=K:=by
    apply FM;intro c;obtain⟨i,d,_⟩:=hp K h3 ()
    rw[Z] at d;exact Vg i d
   have OL:∀j,j<g->∃i:Nat,t.place[i]?\(bR t.mask h j):=λj h'=>by
    by_cases c:j<k
    .exact h5 j c
    .obtain⟨i,d,_⟩:=hp j () h'
     exact#[i,d]
   have F:∀(i:Nat) c,q[i]?\(h, .ref c)->IsTupleKey (intKind prog w) s.heap u c->∀C,t.place[i]?\(bR t.mask h C)->g<=C:=λi c d hc C R=>by
    have Zm:=h6 i c d hc C R;apply FM;intro z;obtain⟨p,G,nI⟩:=hp C Zm ()
    have:i=p:=AU T.rise R G
    subst this;exact nI (UY i _ d)
   rcases alt with ⟨LG,M⟩ | ⟨i,d,hhi,M⟩
   .rw[M] at I
    subst I;dsimp only;refine be (Bw (λi e d c hc Vq=>?_) g LG OL);obtain⟨j,a',U,X⟩:=P i e d;subst U;cases hc
    have:j=u:=X.inj Vq
    subst this;rw[hh] at d;obtain⟨ky,VN,ZR⟩:=T.path i h (by rw[cG,gk,d];rfl)
    have lt:=F i _ d Vq ky VN
    by_cases c1:g<ky
    .obtain⟨p,G⟩:=ZR g c1
     exact LG p G
    .have:ky=g:=()
     subst this;exact LG i VN
   .rw[M] at I
    subst I;dsimp only
    have VR:i<q.size:=by
     have:=(A1.mp d).1
     lia
    obtain⟨j,c,U,X⟩:=P i q[i] (qw VR);have L:q[i]?\(tupleKeyHash (intKind prog w) j, .ref c):=by rw[qw VR,U]
    have H:wpAny (model prog w) A (match q[i]? with
      |some (fst,y)=>do
       let m <-holding [y] (eqBool y (Value.ref b))
       let J <-setState a
       if (B&&m)=true then pure (SetFound.there none)
        else
         match J.2.snd.sameMemory t.moves t.mask with
         |some same=>
          match if same=true then J.2.snd.slot (bR t.mask h g) else Slot.empty with
          |Slot.live p=>
           match J.fst[p]? with
           |some (fst,y')=>do
            let v <-isSame y' y
            let Y <-pure (if v=true then some p else none)
            match Y with
             |none=>do
              rule "set.search.anew"
              setSearchFrom a (Value.ref b) h B f none
             |some p=>
              if m=true then pure (SetFound.there (some p))
              else setSearchFrom a (Value.ref b) h B f (some (qU t.mask h (g+1)))
           |none=>do
            let Y <-pure none
            match Y with
             |none=>do
              rule "set.search.anew"
              setSearchFrom a (Value.ref b) h B f none
             |some p=>
              if m=true then pure (SetFound.there (some p))
              else setSearchFrom a (Value.ref b) h B f (some (qU t.mask h (g+1)))
          |x=>do
           let Y <-pure none
           match Y with
            |none=>do
             rule "set.search.anew"
             setSearchFrom a (Value.ref b) h B f none
            |some p=>
             if m=true then pure (SetFound.there (some p))
             else setSearchFrom a (Value.ref b) h B f (some (qU t.mask h (g+1)))
         |x=>unsupported "set.changed-during-lookup:is-the-new-block-at-the-old-address"
      |x=>unsupported "internal:set-entry") Q E s:=by
     rw[L];dsimp only;refine wpAny_bind (KB (wpAny_eqBool_tuple hu X hk ?_));refine wpAny_bind (SB ho S.dat S.fits ?_);dsimp only;have sm:t.sameMemory t.moves t.mask\true:=by unfold SetTable.sameMemory;simp
     have nI:j≠u->wpAny (model prog w) A (setSearchFrom a (Value.ref b) h B f (some (qU t.mask h (g+1)))) Q E s:=λne=>by
      by_cases kk:g=K
      .subst kk
       rw[Z] at d;exact absurd d (Vg i)
      refine ih (g+1) f _ () () () rfl (λOt h''=>?_) λp c' G sX C R=>?_
      .by_cases z:Ot=g
       .subst z;exact#[i,d]
       .exact OL Ot ()
      .have l1:=F p c' G sX C R
       have:C≠g:=λz=>by
        subst z
        have:p=i:=AU T.rise R d
        subst this;rw[L] at G;cases G;exact ne (X.inj sX)
       lia
     have there:j=u->∀r:Option Nat,(B=false->r.isSome=true)->Q (.there r) s:=λe=>by
      subst e;rw[hh] at L;exact Og #[i,c,L,X]
     by_cases e:j=u
     .rw[GT e,Bool.and_true]
      cases B with
      |true=>exact be (there e none λz=>absurd z ∅)
      |false=>
       simp only[gW,SC];rw[sm];dsimp only;rw[ir rfl,sv T.rise d];dsimp only;rw[L];dsimp only;refine wpAny_bind (wpAny_isSame_ref_self ?_);refine wpAny_bind (be ?_);simp only[aaw];exact be (there e (some i) λ_=>rfl)
     .rw[GE e,acy]
      simp only[gW,SC];rw[sm];dsimp only;rw[ir rfl,sv T.rise d];dsimp only;rw[L];dsimp only;refine wpAny_bind (wpAny_isSame_ref_self ?_);refine wpAny_bind (be ?_);simp only[aaw];exact nI e
    by_cases led:(!t.led)=true
    .rw[ir led]
     refine wpAny_bind (E1 hk _ (λy hy=>?_) ?_)
     .obtain⟨e,he,rfl⟩:=bT.mp hy
      have he:=(Array.mem_filter.mp (Array.mem_toList_iff.mp he)).1;obtain⟨p,G,rfl⟩:=Array.mem_iff_getElem.mp he;obtain⟨Ot,c',U,Vp⟩:=P p q[p] (qw G);exact#[Ot,c',by rw[U],Vp]
     .simp only[gW,SC]
      exact H
    .rw[mo led]
     exact H
 refine N (K+1) 0 100000 none (bo _) () (fk _) rfl (λj h'=>by lia) λi c d hc C _=>fk _
end
section
variable {prog:Program} {w:World} {A:Around} {E:Value->Shared->Prop} {s:Shared}
def vq(b:Addr)(a:Array (Int×Value)):byScan (.ref b) a=false:=rfl
def zZ(k:A.units<cLine)(g:s.heap.get? a\o)(S:fU (cP w) o f j t)(P:Ki prog w s.heap f)(l:IsTupleKey (intKind prog w) s.heap d b)
  (m:(∃(i:Nat)(c:Addr),f[i]?\(tupleKeyHash (intKind prog w) d, .ref c)/\IsTupleKey (intKind prog w) s.heap d c)->∀r:Option Nat,r.isSome=true->Q r s)
  (n:(∀(i:Nat)(e:Int×Value),f[i]?\e->∀c,e.2= .ref c->¬IsTupleKey (intKind prog w) s.heap d c)->Q none s):
  wpAny (model prog w) A (setFind a (.ref b) (tupleKeyHash (intKind prog w) d)) Q E s:=by
 unfold setFind setFindIn;refine wpAny_bind (SB g S.dat S.fits ?_);dsimp only;rw[vq];simp only[gW,SC];refine wpAny_bind (rE k g S P l (λh r p=>?_) λh q _ _=>?_)
 .exact be (m h r (p rfl))
 .exact be (n h)
def CG(hu:A.units<cLine)(n:s.heap.get? a\o)(S:fU (cP w) o d Z t)(P:Ki prog w s.heap d)(I:IsTupleKey (intKind prog w) s.heap g b)(room:d.size<=305)
  (hy:(∃(i:Nat)(c:Addr),d[i]?\(tupleKeyHash (intKind prog w) g, .ref c)/\IsTupleKey (intKind prog w) s.heap g c)->Q false s)
  (J:(∀(i:Nat)(e:Int×Value),d[i]?\e->∀c,e.2= .ref c->¬IsTupleKey (intKind prog w) s.heap g c)->∀z L M uz t',Heap.SameBut a s.heap z->z.get? a\L->fU (cP w) L M uz t'->M.toList.Perm (d.toList++ [(tupleKeyHash (intKind prog w) g, .ref b)])->Q true {s with heap:=z}):
  wpAny (model prog w) A (setAddHashed a (.ref b) (tupleKeyHash (intKind prog w) g)) Q E s:=by
 have u:=S.dat;have N:=S.fits;have T:=S.tok;have sz:t.place.size=d.size:=by rw[T.size];simp
 unfold setAddHashed setAddHashedIn;refine KB (wpAny_bind (SB n u N ?_));dsimp only;rw[vq];simp only[gW,SC];refine wpAny_bind (rE hu n S P I (λh r hr=>?_) λh k B OL=>?_)
 .exact be (hy h)
 .dsimp only
  refine wpAny_bind (SB n u N ?_);dsimp only;obtain⟨p1,p2,l⟩:=TOk.put T B OL (by rw[sz];exact Ap T.few S.few)
  rw[p1]
  have e:(SetTable.insertAt d (below t.place (bR t.mask (tupleKeyHash (intKind prog w) g) k)) (tupleKeyHash (intKind prog w) g,Value.ref b)).toList.map (·.1)=(d.toList.map (·.1)).take (below t.place (bR t.mask (tupleKeyHash (intKind prog w) g) k))++tupleKeyHash (intKind prog w) g::(d.toList.map (·.1)).drop (below t.place (bR t.mask (tupleKeyHash (intKind prog w) g) k)):=by
   rw[aaQ];simp
  rw[<-e] at l;have C:(t.put (bR t.mask (tupleKeyHash (intKind prog w) g) k)).1.plain=true:=S.pl;have ld:(t.put (bR t.mask (tupleKeyHash (intKind prog w) g) k)).1.led= !cP w:=S.ld;have mk:(t.put (bR t.mask (tupleKeyHash (intKind prog w) g) k)).1.mask=t.mask:=rfl;generalize hx:((tupleKeyHash (intKind prog w) g,Value.ref b):Int×Value)=x at*;generalize hp:below t.place (bR t.mask (tupleKeyHash (intKind prog w) g) k)=p at*;generalize (t.put (bR t.mask (tupleKeyHash (intKind prog w) g) k)).1=m at*;rw[ir C];refine wpAny_bind (z3 I ?_);simp only[aaw,acA,Bool.true_and];have q:(SetTable.insertAt d p x).size=d.size+1:=SetTable.f7 ..;have F:=aa8 d p x;rw[u6] at F;refine wpAny_bind (aa1 n u ?_ (by rw[q];refine aa2 ?_;show d.size+1<4096;lia))
  have v:=lM n u (SetTable.insertAt d p x) m;have O:=aan s.heap a (Obj.putSet (SetTable.insertAt d p x) m)
  have YE:m.fits (SetTable.insertAt d p x).size=true:=by
   have:=TOk.fits l
   rw[aI,eD] at this;exact this
  by_cases j:m.tooFull=true
  .rw[ir j]
   refine au λG0 k=>?_;obtain⟨y,f,R,_,pf,U,T2,G,l2,X,WG⟩:=yW l j (by rw[q,mk];have:=S.few;lia) (by rw[q];lia)
   refine k ?_;rw[q] at R X WG;refine wpAny_bind ?_;unfold setRelay;refine wpAny_bind (SB v rfl YE ?_);dsimp only;have big:512<=sizeLine:=∅
   rw[mo (),R]
   have Y:(f.filterMap ((SetTable.insertAt d p x)[·]?)).size=d.size+1:=by rw[U,q]
   refine wpAny_bind (aaJ (a:=(f.filterMap ((SetTable.insertAt d p x)[·]?),y)) ?_ ?_)
   .show(if ((f.filterMap ((SetTable.insertAt d p x)[·]?)).size !=(SetTable.insertAt d p x).size)=true then _ else pure (f.filterMap ((SetTable.insertAt d p x)[·]?),y))=_
    rw[mo (by rw[U];simp)]
   .dsimp only
    refine aa1 v rfl ?_ (by rw[Y];refine aa2 ?_;show d.size+1<4096;lia)
    have rW:=lM v rfl (f.filterMap ((SetTable.insertAt d p x)[·]?)) y;exact be (J h _ _ _ _ y (O.trans (aan _ a _)) rW #[S.ex,rfl,T2,by rw[G];exact C,by rw[l2];exact ld,by rw[Y];exact X] (pf.trans F))
  .rw[mo j]
   refine be (J h _ _ _ _ m O v #[S.ex,rfl,l,C,ld,?_] F);have H:m.tooFull=false:=by simpa using j
   unfold SetTable.tooFull SetTable.fill at H;rw[l.dum,l.size] at H;simp at H;lia
variable {a b:Addr} {o:Obj} {es:Array (Int×Value)} {ep:Nat} {t:SetTable} {ks:List Int}
open Classical in
noncomputable def pI(prog:Program)(w:World)(h:Heap)(es:Array (Int×Value))(ks:List Int):Bool:=decide (∃(i:Nat)(c:Addr),es[i]?\(tupleKeyHash (intKind prog w) ks, .ref c)/\IsTupleKey (intKind prog w) h ks c)
def LA(h:∀(i:Nat)(e:Int×Value),es[i]?\e->∀c,e.2= .ref c->¬IsTupleKey (intKind prog w) s.heap ks c):pI prog w s.heap es ks=false:=by
 classical
 unfold pI;exact GE λ#[i,c,d,f]=>h i _ d c rfl f
def IW(h:∃(i:Nat)(c:Addr),es[i]?\(tupleKeyHash (intKind prog w) ks, .ref c)/\IsTupleKey (intKind prog w) s.heap ks c):pI prog w s.heap es ks=true:=by
 classical
 unfold pI;exact GT h
def t8(k:A.units+64<cLine)(d:s.heap.get? a\o)(S:fU (cP w) o es ep t)(P:Ki prog w s.heap es)(e:IsTupleKey (intKind prog w) s.heap ks b)
  (h:∀f,Q (pI prog w s.heap es ks) {s with toks:=f}):wpAny (model prog w) A (contains (.ref a) (.ref b)) Q E s:=by
 have c:s.TypeIs (.ref a) "set":=#[o,d,S.ex.1];unfold contains
 try with_reducible refine KB ?_
 refine wpAny_bind (ach c F.slot_set_contains.lookup ?_);show wpAny _ _ (if (some (Value.builtin "set.__contains__")==some Value.none)=true then _ else _) _ E s;rw[mo (by rw[beq_builtin_none];exact dA)]
 refine wpAny_bind (wpAny_callSpecialUnlessNone?_slot (name:=Str.ofString "__contains__") c F.slot_set_contains
  (On F.slot_set_contains c entry_set_contains ?_ (F.args_set_contains_2 _ _)))
 unfold Builtin.«frozenset.__contains__» Builtin.Frozenset.oneOther;simp only[abf,bind_assoc];unfold Builtin.Frozenset.addrOf Builtin.Frozenset.withSetAsKey setContains;refine wpAny_bind (be ?_)
 try dsimp only
 refine wpAny_bind (be ?_)
 try dsimp only
 refine wpAny_bind (aaW ?_);refine KB ?_;refine wpAny_bind (wpAny_pyHash_tuple ?_ e ?_)
 .show A.units+1<cLine;lia
 refine wpAny_bind (zZ (s:={s with toks:=s.toks+(ks.length+1)}) ?_ d S P e (λg r i=>?_) λj=>?_)
 .show A.units+1<cLine;lia
 .refine be ?_
  show wpAny _ _ (ret (Value.bool r.isSome)) _ _ _;rw[i]
  have:=h (s.toks+(ks.length+1))
  rw[IW g] at this;exact be #[_,rfl,P3 this]
 .refine be ?_
  have:=h (s.toks+(ks.length+1))
  rw[LA j] at this;exact be #[_,rfl,P3 this]
end
end PySem
set_option maxHeartbeats 4000000
namespace L2
open PySem PySem.Spec PyProof.Rows
inductive FV where
 |int (i:Int) |bl (b:Bool)
inductive XD where
 |tN (b:Bool) (ps:List (Int×Int)) |tL (ks:List (Int×Int)) (vs:List FV)
inductive D where
 |bC|bl (b:Bool) |int (i:Int) |str (x:Str) |lst (l:List D) |tup (l:List D) |gN (ns:List Int) |rng (lo hi:Int) |obj (a:Addr) |fM (w:List (List Nat)) |set (b:Bool) (l:List Int) |x (k:XD) |err (C:Addr) (ks:List Str) (l:List D)
structure DC where
 K:ab
 C:Addr
def ao(n:Nat):D:= .int n
def az(r:List Nat):D:= .lst (r.map ao)
def aL(w:List (List Nat)):D:= .lst (w.map az)
def vh(a:Array (Int×Value))(b:List Int):Prop:=(∀e∈a.toList,∃k t,e=(hashInt k,Value.int k t))/\b.Nodup/\∃c,IntsAre (a.toList.map (·.2)) c/\c.Perm b
def gI(b:Bool)(a:Addr)(d:List Int)(h:Heap):Prop:=∃o c e t,h.get? a\o/\fU b o c e t/\vh c d
def c5(p:Int×Int):Int:=reduceHash (Builtin.Tuple.tupleHashOf [hashInt p.1,hashInt p.2])
inductive i8 (H:Hp):List (Int×Addr)->List (Int×Int)->Prop
 |nil:i8 H [] []
 |cons {a:Addr} {p:Int×Int} {es:List (Int×Addr)} {ps:List (Int×Int)}:H a\(.tup [.int p.1, .int p.2])->i8 H es ps->i8 H ((c5 p,a)::es) (p::ps)
theorem i8.mono{H a:Hp}(s:bx H a):∀{b:List (Int×Addr)}{c:List (Int×Int)},i8 H b c->i8 a b c
 |_,_, .nil=> .nil
 |_,_, .cons h t=> .cons (s _ _ h) (t.mono s)
def fX(b:Bool)(a:Addr)(d:List (Int×Addr))(h:Heap):Prop:=∃o c f t,h.get? a\o/\fU b o c f t/\c.toList.Perm (d.map λe=>(e.1,Value.ref e.2))
def NF:FV->Value->Prop
 | .int i,v=>∃t,v= .int i t
 | .bl b,v=>v= .bool b
inductive Ig:List DictEntry->List (Int×Addr)->List FV->Prop
 |nil:Ig [] [] []
 |cons {e:DictEntry} {l:List DictEntry} {h:Int} {a:Addr} {v:FV} {es:List (Int×Addr)} {vs:List FV}:e.hash=h->e.key= .ref a->NF v e.val->Ig l es vs->Ig (e::l) ((h,a)::es) (v::vs)
def iz(a:Addr)(c:List (Int×Addr))(d:List FV)(h:Heap):Prop:=(a==sysModules)=false/\∃o b e,h.get? a\o/\o.ExactDict/\o.data= .dict b e/\Ig b.toList c d
def Il(H:Hp)(a:Addr)(d:Heap->Prop):XD->Prop
 | .tN b e=>e.Nodup/\∃c,d=fX b a c/\i8 H c e
 | .tL ks f=>ks.Nodup/\∃c,d=iz a c f/\i8 H c ks
theorem Il.mono{H c:Hp}(s:bx H c):∀{k:XD},Il H a d k->Il c a d k
 | .tN _ _,#[n,b,e,p]=>#[n,b,e,p.mono s]
 | .tL _ _,#[n,b,e,p]=>#[n,b,e,p.mono s]
def ND(H:Hp)(d:Option Addr)(a:List Str)(b:List V):Prop:=(d=none/\a= []/\b= [])\/∃c,d\c/\H c\(Xv c (a.zip b))/\a.length=b.length
theorem ND.mono{H d:Hp}(s:bx H d)(h:ND H e f g):ND d e f g:=h.imp id λ#[i,a,b,c]=>#[i,a,s _ _ b,c]
mutual
inductive Dv (Z:DC) (H:Hp):V->D->Prop
 |bC:Dv Z H .bC .bC
 |bl (b:Bool):Dv Z H (.bl b) (.bl b)
 |int (i:Int):Dv Z H (.int i) (.int i)
 |str (x:Str) (h:PyData.strOk x=true):Dv Z H (.str x) (.str x)
 |lst {a:Addr} {xs:List V} {ds:List D}:H a\(.lst xs)->DvAll Z H xs ds->Dv Z H (.ref a) (.lst ds)
 |tup {a:Addr} {xs:List V} {ds:List D}:H a\(.tup xs)->DvAll Z H xs ds->Dv Z H (.ref a) (.tup ds)
 |obj (a:Addr):Dv Z H (.ref a) (.obj a)
 |rng {a:Addr} {lo hi:Int}:H a\(.rng lo hi)->Dv Z H (.ref a) (.rng lo hi)
 |gN {a:Addr} {ns:List Int}:cJ Z.K H a (ns.map V.int)->ns.length<=63->Dv Z H (.ref a) (.gN ns)
 |fM {p dx R:Addr} {w:List (List Nat)}:H p\(.ins Z.C dx [("rows", .ref R)])->Dv Z H (.ref R) (aL w)->Wb.Good w->1<=w.length->w.length<=14->Dv Z H (.ref p) (.fM w)
 |set {a:Addr} {b:Bool} {ns:List Int}:H a\(.ext (gI b a ns))->Dv Z H (.ref a) (.set b ns)
 |x {a:Addr} {φ:Heap->Prop} {k:XD}:H a\(.ext φ)->Il H a φ k->Dv Z H (.ref a) (.x k)
 |err {a C:Addr} {od:Option Addr} {ks:List Str} {xs:List V} {ds:List D}:H a\(TV C a od)->ND H od ks xs->DvAll Z H xs ds->Dv Z H (.ref a) (.err C ks ds)
inductive DvAll (Z:DC) (H:Hp):List V->List D->Prop
 |nil:DvAll Z H [] []
 |cons {v:V} {vs:List V} {d:D} {ds:List D}:Dv Z H v d->DvAll Z H vs ds->DvAll Z H (v::vs) (d::ds)
end
def cJ.mono{K:ab}{H b:Hp}(s:bx H b)(h:cJ K H a c):cJ K b a c:=by
 rcases h with (h| ⟨o,h⟩) |h
 .exact .inl (.inl (s _ _ h))
 .exact .inl (.inr #[o,s _ _ h])
 .exact .inr h
section
variable {Z:DC} {H H' G G':Hp}
def Dv.ofInt(h:Dv Z H v (.int i)):v= .int i:=by cases h;rfl
def Dv.En(h:Dv Z H v (.bl b)):v= .bl b:=by cases h;rfl
def Dv.hV(h:Dv Z H v (.lst b)):∃a c,v= .ref a/\H a\(.lst c)/\DvAll Z H c b:=by cases h with|lst h e=>exact#[_,_,rfl,h,e]
def Dv.pO(h:Dv Z H v (.tup b)):∃a c,v= .ref a/\H a\(.tup c)/\DvAll Z H c b:=by cases h with|tup h e=>exact#[_,_,rfl,h,e]
def Dv.Md{v:V}{ns:List Int}(h:Dv Z H v (.gN ns)):∃a,v= .ref a/\cJ Z.K H a (ns.map V.int)/\ns.length<=63:=by cases h with|gN h z=>exact#[_,rfl,h,z]
def DvAll.Mc(h:DvAll Z H a []):a= []:=by cases h;rfl
def DvAll.B0(h:DvAll Z H c (d::e)):∃v f,c=v::f/\Dv Z H v d/\DvAll Z H f e:=by cases h with|cons a b=>exact#[_,_,rfl,a,b]
def DvAll.ofOne(h:DvAll Z H c [d]):∃v,c= [v]/\Dv Z H v d:=by
 obtain⟨v,e,rfl,a,b⟩:=h.B0;rw[b.Mc];exact#[v,rfl,a]
def DvAll.Me(h:DvAll Z H f [d,e]):∃v u,f= [v,u]/\Dv Z H v d/\Dv Z H u e:=by
 obtain⟨v,g,rfl,a,b⟩:=h.B0;obtain⟨u,rfl,c⟩:=b.ofOne;exact#[v,u,rfl,a,c]
theorem Dv.mono(s:bx H H')(h:Dv Z H v d):Dv Z H' v d:=
 Dv.rec (motive_1:=λv d _=>Dv Z H' v d) (motive_2:=λc e _=>DvAll Z H' c e) .bC .bl .int .str (λh _ a=> .lst (s _ _ h) a) (λh _ a=> .tup (s _ _ h) a) .obj (λh=> .rng (s _ _ h)) (λh z=> .gN (h.mono s) z) (λh _ g a b r=> .fM (s _ _ h) r g a b) (λh=> .set (s _ _ h)) (λh k=> .x (s _ _ h) (k.mono s)) (λh k _ a=> .err (s _ _ h) (k.mono s) a) .nil (λ_ _ a b=> .cons a b) h
def DvAll.ind{p:List V->List D->Prop}(n:p [] [])(c:∀{v:V}{e:List V}{d:D}{f:List D},Dv Z H v d->DvAll Z H e f->p e f->p (v::e) (d::f)){f:List D}(h:DvAll Z H e f):p e f:=
 DvAll.rec (motive_1:=λ_ _ _=>True) (motive_2:=λe f _=>p e f) trivial (λ_=>trivial) (λ_=>trivial) (λ_ _=>trivial) (λ_ _ _=>trivial) (λ_ _ _=>trivial) (λ_=>trivial) (λ_=>trivial) (λ_ _=>trivial) (λ_ _ _ _ _ _=>trivial) (λ_=>trivial) (λ_ _=>trivial) (λ_ _ _ _=>trivial) n (λa b _ q=>c a b q) h
theorem DvAll.mono(s:bx H H')(h:DvAll Z H c d):DvAll Z H' c d:=h.ind .nil λa _ b=> .cons (a.mono s) b
theorem DvAll.length(h:DvAll Z H a b):a.length=b.length:=h.ind (p:=λa b=>a.length=b.length) rfl λ_ _ e=>GM (·+1) e
def DvAll.get{b:List V}{i:Nat}{d:D}(h:DvAll Z H b c)(e:c[i]?\d):∃v,b[i]?\v/\Dv Z H v d:=by
 revert i
 refine h.ind (p:=λb c=>∀{i:Nat},c[i]?\d->∃v,b[i]?\v/\Dv Z H v d) (λe=>by cases e) λa _ f i e=>?_
 cases i with
 |zero=>cases e;exact#[_,rfl,a]
 |succ i=>exact f e
def DvAll.Hy{b:List V}{c:List D}{i:Nat}{v:V}(h:DvAll Z H b c)(e:b[i]?\v):∃d,c[i]?\d/\Dv Z H v d:=by
 revert i
 refine h.ind (p:=λb c=>∀{i:Nat},b[i]?\v->∃d,c[i]?\d/\Dv Z H v d) (λe=>by cases e) λa _ f i e=>?_
 cases i with
 |zero=>cases e;exact#[_,rfl,a]
 |succ i=>exact f e
def DvAll.append(h:DvAll Z H c d)(k:DvAll Z H e f):DvAll Z H (c++e) (d++f):=h.ind (p:=λc d=>DvAll Z H (c++e) (d++f)) k λa _ b=> .cons a b
theorem DvAll.take:∀{b:List V}{c:List D}(n:Nat),DvAll Z H b c->DvAll Z H (b.take n) (c.take n)
 |_,_,0,_=>DvAll.nil
 |_,_,n+1, .nil=>DvAll.nil
 |_,_,n+1, .cons a d=>DvAll.cons a (d.take n)
theorem DvAll.drop:∀{b:List V}{c:List D}(n:Nat),DvAll Z H b c->DvAll Z H (b.drop n) (c.drop n)
 |_,_,0,h=>h
 |_,_,n+1, .nil=>by simpa using DvAll.nil
 |_,_,n+1, .cons a d=>by simpa using d.drop n
theorem DvAll.set{v:V}(h:Dv Z H v d):∀{c:List V}{e:List D}(n:Nat),DvAll Z H c e->DvAll Z H (c.set n v) (e.set n d)
 |_,_,_, .nil=> .nil
 |_,_,0, .cons a b=> .cons h b
 |_,_,n+1, .cons a b=> .cons a (DvAll.set h n b)
theorem DvAll.ints:∀(a:List Int),DvAll Z H (a.map V.int) (a.map D.int)
 | []=> .nil
 |n::a=> .cons (.int n) (DvAll.ints a)
def DvAll.snoc{e:List D}(a:DvAll Z H c e)(b:Dv Z H v d):DvAll Z H (c++ [v]) (e++ [d]):=a.append (.cons b .nil)
structure Ext (G H G' H':Hp):Prop where
 gg:bx G G'
 sub:bx G' H'
 hh:bx H H'
 off:∀b,H b≠none->G b=none->G' b=none
theorem Ext.refl(s:bx G H):Ext G H G H:=#[.refl _,s, .refl _,λ_ _ h=>h]
theorem Ext.trans{c d f i:Hp}(a:Ext G H c d)(b:Ext c d f i):Ext G H f i:=
 #[a.gg.trans b.gg,b.sub,a.hh.trans b.hh,λx h g=>b.off x (λz=>by
  cases e:H x with
  |none=>exact h e
  |some o=>rw[a.hh x o e] at z;cases z) (a.off x h g)]
def Ext.new{o:HO}(s:bx G H)(h:H p=none):Ext G H (upd G p o) (upd H p o):=by
 have a:G p=none:=s.free h;refine#[bq a o,λb u e=>?_,bq h o,λb c a=>?_]
 .by_cases z:b=p
  .subst z;rw[aK] at e ⊢;exact e
  .rw[bf z] at e ⊢;exact s b u e
 .have:b≠p:=λz=>c (by rw[z];exact h)
  rw[bf this];exact a
end
abbrev DN:=List (Option D)
structure eX (Z:DC) (G:Hp) (σ:St) (ρ:DN):Prop where
 len:ρ.length=σ.length
 at_:∀(i:Nat)(d:D),ρ[i]?\(some d)->∃v,σ[i]?\(some v)/\Dv Z G v d
section
variable {Z:DC} {G G' H H':Hp} {σ:St} {ρ:DN}
theorem eX.mono(e:eX Z G σ ρ)(s:bx G G'):eX Z G' σ ρ:=#[e.len,λi d h=>let #[v,a,b]:=e.at_ i d h;#[v,a,b.mono s]]
theorem eX.set{v:V}(e:eX Z G σ ρ)(h:Dv Z G v d):eX Z G (σ.set i (some v)) (ρ.set i (some d)):=by
 refine#[by rw[fj,fj];exact e.len,λj c a=>?_]
 by_cases z:i=j
 .subst z
  by_cases b:i<ρ.length
  .rw[kY b] at a
   cases Do a;exact#[v,by rw[kY (e.len▸b)],h]
  .rw[A3 (lP b)] at a
   rw[gK (lP b)] at a;cases a
 .rw[jF z] at a ⊢
  exact e.at_ j c a
end
abbrev bz:=DN->(D->Prop)->Prop
abbrev dM:=DN->(Bool->Prop)->Prop
abbrev iW:=DN->(List D->Prop)->Prop
abbrev g6:=D->D->(D->Prop)->Prop
abbrev fE:=D->DN->(DN->Prop)->Prop
abbrev kv:=DN->(List D->Prop)->Prop
def fc(Z:DC)(t:bz):TE:=λe H Q=>∃(G:Hp)(a:DN)(P:D->Prop),bx G H/\eX Z G e a/\t a P/\∀d,P d->∀v b c,Ext G H b c->Dv Z b v d->Q v c
def liftT(Z:DC)(t:dM):TT:=λd H Q=>∃(G:Hp)(a:DN)(P:Bool->Prop),bx G H/\eX Z G d a/\t a P/\∀b,P b->∀e c,Ext G H e c->Q b c
def F7(Z:DC)(t:iW):TA:=λf H Q=>∃(G:Hp)(a:DN)(P:List D->Prop),bx G H/\eX Z G f a/\t a P/\∀b,P b->∀c d e,Ext G H d e->DvAll Z d c b->Q c e
def cA(Z:DC)(r:g6):R2:=λx y H Q=>∃(G:Hp)(a b:D)(P:D->Prop),bx G H/\Dv Z G x a/\Dv Z G y b/\r a b P/\∀d,P d->∀v c e,Ext G H c e->Dv Z c v d->Q v e
def hU(Z:DC)(r:List D->(D->Prop)->Prop):List V->Hp->VK->Prop:=λe H Q=>∃(G:Hp)(a:List D)(P:D->Prop),bx G H/\DvAll Z G e a/\r a P/\∀d,P d->∀v b c,Ext G H b c->Dv Z b v d->Q v c
abbrev bZ:=List D->(D->Prop)->Prop
def aX(Z:DC)(a:bZ):Sp:=λb H Q _=>hU Z a b H Q
def DE(Z:DC)(X:Cx)(e:Expr)(t:bz):Prop:=PE X e (fc Z t)
def DT(Z:DC)(X:Cx)(e:Expr)(t:dM):Prop:=PT X e (liftT Z t)
def DA(Z:DC)(X:Cx)(a:List Expr)(t:iW):Prop:=PA X a (F7 Z t)
def PE.imp(h:PE X e t)(f:∀b H Q,t' b H Q->t b H Q):PE X e t':=λa s b H Q I q=>h a s b H Q I (f _ _ _ q)
def PT.imp(h:PT X e t)(f:∀b H Q,c b H Q->t b H Q):PT X e c:=λa s b H Q I q=>h a s b H Q I (f _ _ _ q)
def PW.imp(h:PW X e t)(f:∀b H Q,c b H Q->t b H Q):PW X e c:=λd a s b H Q I q=>h d a s b H Q I (f _ _ _ q)
def PA.imp{d:List Expr}(h:PA X d t)(f:∀b H Q,t' b H Q->t b H Q):PA X d t':=λc a s b H Q I q=>h c a s b H Q I (f _ _ _ q)
def OpR.imp{f:Value->Value->Sem Value}{r d:R2}(h:OpR X f r)(g:∀x y H Q,d x y H Q->r x y H Q):OpR X f d:=λc s e H x y v u Q I a b q=>h c s e H x y v u Q I a b (g _ _ _ _ q)
def cw.imp{f:Value}{r d:List V->Hp->VK->Prop}(h:cw X f r)(g:∀c H Q,d c H Q->r c H Q):cw X f d:=λb s e H c i Q I a q=>h b s e H c i Q I a (g _ _ _ q)
def Dl(i:Nat):bz:=λa P=>∃d,a[i]?\(some d)/\P d
def dC(d:D):bz:=λ_ P=>P d
section
variable {Z:DC} {X:Cx}
def aa(i:Nat)(f:X.N[i]?\x:=by rfl)(b:kZ X.env.scope x:=by subst_eqs)(c:(x==("__debug__":Str))=false:=by decide)
  (g:(x==("__classdict__":Str))=false:=by decide):DE Z X (.Name x a) (Dl i):=by
 refine(Cb f b c g).imp λk H Q h=>?_;rfl';obtain⟨G,m,P,s,e,⟨d,c,p⟩,q⟩:=h;ac_rfl;exact let #[v,b,dv]:=e.at_ i d c;#[v,b,q d p v G H (.refl s) dv]
def av{i j pos}:DE Z X (.Constant (.int i) j pos) (dC (.int i)):=by
 refine O1.imp λc H Q a=>?_;rfl';obtain⟨G,f,P,s,e,p,q⟩:=a;ac_rfl;exact q _ p _ G H (.refl s) (.int i)
def jb{b j pos}:DE Z X (.Constant (.bool b) j pos) (dC (.bl b)):=by
 refine SW.imp λd H Q a=>?_;rfl';obtain⟨G,g,P,s,e,p,q⟩:=a;ac_rfl;exact q _ p _ G H (.refl s) (.bl b)
def bB{j pos}:DE Z X (.Constant .none j pos) (dC .bC):=by
 refine O3.imp λc H Q a=>?_;rfl';obtain⟨G,f,P,s,e,p,q⟩:=a;ac_rfl;exact q _ p _ G H (.refl s) .bC
def jn{x j pos}(h:PyData.strOk x=true:=by decide+kernel):DE Z X (.Constant (.str x) j pos) (dC (.str x)):=by
 refine O6.imp λc H Q a=>?_;rfl';obtain⟨G,f,P,s,e,p,q⟩:=a;ac_rfl;exact q _ p _ G H (.refl s) (.str x h)
def IE(d:Gl X x)(b:∃c,X.mg x\(.int i c))(f:(x==("__debug__":Str))=false:=by decide):DE Z X (.Name x a) (dC (.int i)):=by
 obtain⟨c,b⟩:=b;exact(Mr d b (v:= .int i) #[c,rfl] f).imp λg H Q #[G,h,P,s,e,p,q]=>q _ p _ G H (.refl s) (.int i)
def KO(r:g6)(d e:bz):bz:=λc P=>d c λa=>e c λb=>r a b P
variable {a b c:Expr} {ta tb tc:bz} {pos:Pos}
def BO:∀f H Q,fc Z (KO r ta tb) f H Q->Nt (cA Z r) (fc Z ta) (fc Z tb) f H Q:=by
 intro f H Q k;rfl';obtain⟨G,j,P,s,e,h,q⟩:=k;ac_rfl;refine#[G,j,_,s,e,h,λa m v n E g dv=>?_];refine#[n,j,_,g.sub,e.mono g.gg,m,λb o u p F i t=>?_];exact#[p,a,b,P,i.sub,dv.mono i.gg,t,o,λd w x y z A B=>q d w x y z ((g.trans i).trans A) B]
def aH(e:OpR X (binaryOp d) (cA Z r))(f:DE Z X a ta)(g:DE Z X b tb):DE Z X (.BinOp a d b pos) (KO r ta tb):=(Ca e f g).imp BO
def lA(e:OpR X (compareOp d) (cA Z r))(f:DE Z X a ta)(g:DE Z X b tb)(h:behindInMarks d b=false):DE Z X (.Compare a [d] [b] pos) (KO r ta tb):=(Mp e f g h).imp BO
def Fu(t:bz):dM:=λe P=>t e λd=>∃k,d= .bl k/\P k
def AG:∀d H Q,liftT Z (Fu t) d H Q->GQ (fc Z t) d H Q:=by
 intro d H Q f;rfl';obtain⟨G,i,P,s,e,h,q⟩:=f;ac_rfl;exists G,i,_,s,e,h;rintro _ ⟨k,rfl,p⟩ v j l m dv;cases dv.En;exact#[k,rfl,q k p j l m]
def aG(f:OpR X (compareOp d) (cA Z r))(g:DE Z X a ta)(i:DE Z X b tb)(j:behindInMarks d b=false):DT Z X (.Compare a [d] [b] pos) (Fu (KO r ta tb)):=
 (MH f g i j).imp λe H Q h=>by
  obtain h:=AG e H Q h;exact BO e H _ h
def Bi(r e:g6)(f g tc:bz):bz:=λd P=>f d λx=>g d λy=>r x y λz=>∃k,z= .bl k/\(if k=true then tc d λh=>e y h P else P (.bl false))
def yn:∀f H Q,fc Z (Bi r o ta tb tc) f H Q->CC (cA Z r) (cA Z o) (fc Z ta) (fc Z tb) (fc Z tc) f H Q:=by
 intro f H Q y;rfl';obtain⟨G,g,P,s,e,h,q⟩:=y;ac_rfl;refine#[G,g,_,s,e,h,λa A v B Y i dv=>?_];refine#[B,g,_,i.sub,e.mono i.gg,A,λb C u E X j p=>?_];exists E,a,b,_,j.sub,dv.mono j.gg,p,C;rintro _ ⟨k,rfl,t⟩ v' w F l I;cases I.En;exists k,rfl;have x:=(i.trans j).trans l;cases k with
 |false=>exact bK (q _ t _ w F x (.bl false))
 |true=>
  refine c9 #[w,g,_,l.sub,e.mono x.gg,t,λc J w' L H4 m M=>?_];exact#[L,b,c,P,m.sub,(p.mono l.gg).mono m.gg,M,J,λd N n O R S T=>q d N n O R ((x.trans m).trans S) T]
def ID(g:OpR X (compareOp d) (cA Z r))(h:OpR X (compareOp e) (cA Z f))(i:DE Z X a ta)(j:DE Z X b tb)(k:DE Z X c tc)
  (l:lastMarks [d,e] [b,c]=false:=by with_unfolding_all rfl):DE Z X (.Compare a [d,e] [b,c] pos) (Bi r f ta tb tc):=(JB g h i j k l).imp yn
def IJ(i:OpR X (compareOp d) (cA Z r))(j:OpR X (compareOp e) (cA Z f))(k:DE Z X a ta)(l:DE Z X b tb)(m:DE Z X c tc)
  (n:lastMarks [d,e] [b,c]=false:=by with_unfolding_all rfl):DT Z X (.Compare a [d,e] [b,c] pos) (Fu (Bi r f ta tb tc)):=
 (JN i j k l m n).imp λg H Q h=>by
  obtain h:=AG g H Q h;exact yn g H _ h
def zg:D->Bool
 | .bC=>false
 | .bl b=>b
 | .int i=>i !=0
 | .str x=>x.length !=0
 | .lst l=>!l.isEmpty
 | .tup l=>!l.isEmpty
 | .gN l=>!l.isEmpty
 | .rng lo d=>decide (lo<d)
 | .obj _=>true
 | .fM _=>true
 | .set _ l=>!l.isEmpty
 | .x _=>true
 | .err _ _ _=>true
def VW:D->Bool
 | .bl _=>true
 | .int _=>true
 | .lst _=>true
 | .tup _=>true
 | .bC=>true
 |_=>false
def UD(t:bz):dM:=λe P=>t e λd=>VW d=true/\P (zg d)
def vK(h:DvAll Z G d e):d.isEmpty=e.isEmpty:=by cases h<;>rfl
def dr(ha:DE Z X a ta)(he:∀whole,isTrue a X.env whole=(do let v <-whole;standAt a.pos;holding [v] (truthy v)):=by intro _;rfl):DT Z X a (UD ta):=by
 refine(JO ha he).imp ?_;intro σ H Q aV;rfl';obtain⟨G,ρ,P,s,e,h,q⟩:=aV;ac_rfl;exists G,ρ,_,s,e,h;rintro d ⟨hd,p⟩ v G1 H1 x1 dv;refine#[zg d,?_,q _ p G1 H1 x1];cases dv with
 |bC=>rfl
 |bl b=>rfl
 |int i=>rfl
 |lst h a=>exact .inl #[_,cJ.of (x1.sub _ _ h),by rw[vK a];rfl]
 |tup h a=>exact .inr (.inl #[_,fY.of (x1.sub _ _ h),by rw[vK a];rfl])
 |_=>cases hd
def Uk(t u:dM):dM:=λd P=>t d λc=>if c=true then u d P else P false
def Yh(t u:dM):dM:=λd P=>t d λc=>if c=true then P true else u d P
def Ux(t:dM):dM:=λd P=>t d λc=>P (!c)
variable {tA CB:dM} {rest:List Expr}
def DW(Z:DC)(X:Cx)(e:Expr)(t:dM):Prop:=PW X e (liftT Z t)
def DW.dt(h:DW Z X e t):DT Z X e t:=PW.pt h
def jy(d:DT Z X a tA):DW Z X (.BoolOp .And [a] pos) tA:=MO d
def gx(d:DT Z X a tA):DW Z X (.BoolOp .Or [a] pos) tA:=Pe d
def lC(k:DT Z X a tA)(f:DW Z X (.BoolOp .And (b::rest) pos) CB):DW Z X (.BoolOp .And (a::b::rest) pos) (Uk tA CB):=by
 refine(Pd k f).imp ?_;intro t H Q l;rfl';obtain⟨G,g,P,s,e,h,q⟩:=l;ac_rfl;refine#[G,g,_,s,e,h,λc i j n d=>?_];cases c with
 |true=>exact c9 #[j,g,P,d.sub,e.mono d.gg,i,λb f o p r=>q b f o p (d.trans r)]
 |false=>exact bK (q _ i j n d)
def fB(k:DT Z X a tA)(f:DW Z X (.BoolOp .Or (b::rest) pos) CB):DW Z X (.BoolOp .Or (a::b::rest) pos) (Yh tA CB):=by
 refine(SY k f).imp ?_;intro t H Q l;rfl';obtain⟨G,g,P,s,e,h,q⟩:=l;ac_rfl;refine#[G,g,_,s,e,h,λc i j n d=>?_];cases c with
 |false=>exact bK #[j,g,P,d.sub,e.mono d.gg,i,λb f o p r=>q b f o p (d.trans r)]
 |true=>exact c9 (q _ i j n d)
def eJ(d:DT Z X a tA):DT Z X (.UnaryOp .Not a pos) (Ux tA):=by
 refine(Pb d).imp ?_;rintro l H Q ⟨G,f,P,s,e,h,q⟩;exact#[G,f,_,s,e,h,λc g i j k=>q _ g i j k]
def Rh(e f:bz):bz:=λd P=>e d λx=>∃c,x= .bl c/\if c=true then f d P else P (.bl false)
def Rt(d:bz):bz:=λe P=>d e λx=>∃c,x= .bl c/\P (.bl (!c))
def wQ{op}(h:DE Z X a ta):DE Z X (.BoolOp op [a] pos) ta:=O5 h
def qE(k:DE Z X a ta)(f:DE Z X (.BoolOp .And (b::rest) pos) tb):DE Z X (.BoolOp .And (a::b::rest) pos) (Rh ta tb):=by
 refine(OX k f).imp ?_;intro u H Q l;rfl';obtain⟨G,g,P,s,e,h,q⟩:=l;ac_rfl;exists G,g,_,s,e,h;rintro _ ⟨c,rfl,i⟩ v j n d dv;cases dv.En;exists c,rfl;cases c with
 |true=>exact c9 #[j,g,P,d.sub,e.mono d.gg,i,λb f v o p r t=>q b f v o p (d.trans r) t]
 |false=>exact bK (q _ i _ j n d (.bl false))
def Hn(d:DE Z X a ta):DE Z X (.UnaryOp .Not a pos) (Rt ta):=by
 refine(O4 d).imp ?_;intro n H Q f;rfl';obtain⟨G,i,P,s,e,h,q⟩:=f;ac_rfl;exists G,i,_,s,e,h;rintro _ ⟨c,rfl,j⟩ v k l m dv;cases dv.En;exact#[c,rfl,q _ j _ k l m (.bl _)]
def lu:iW:=λ_ P=>P []
def Bj(e:bz)(t:iW):iW:=λd P=>e d λx=>t d λf=>P (x::f)
variable {es:List Expr} {t:iW} {e:Expr}
def ah:DA Z X [] lu:=by
 refine gD.imp λg H Q d=>?_;rfl';obtain⟨G,i,P,s,e,p,q⟩:=d;ac_rfl;exact q _ p _ G H (.refl s) .nil
def ae(d:DE Z X e ta)(j:DA Z X es t)(k:starEach (e::es) X.env=(false,eval e X.env)::starEach es X.env:=by rfl):DA Z X (e::es) (Bj ta t):=by
 refine(d6 d j k).imp ?_;intro w H Q l;rfl';obtain⟨G,g,P,s,e,h,q⟩:=l;ac_rfl;refine#[G,g,_,s,e,h,λa d v n y f dv=>?_];exact#[n,g,_,f.sub,e.mono f.gg,d,λz o A p r i u=>q _ o _ p r (f.trans i) (.cons (dv.mono i.gg) u)]
def Qk(t:iW):bz:=λf P=>t f λd=>d.length<=sizeLine/\P (.tup d)
def Dh(t:iW):bz:=λf P=>t f λd=>d.length<=sizeLine/\P (.lst d)
def cK{d}(h:DA Z X es t):DE Z X (.Tuple es d pos) (Qk t):=by
 refine(HP h).imp ?_;intro n H Q i;rfl';obtain⟨G,k,P,s,e,h,q⟩:=i;ac_rfl;exists G,k,_,s,e,h;rintro r ⟨l,m⟩ u v w d f;exact#[by rw[f.length];exact l,λp g=>q _ m _ _ _ (d.trans (.new d.sub g)) (.tup aK (f.mono (bq (d.sub.free g) _)))]
def c7(h:DA Z X es t):DE Z X (.List es pos) (Dh t):=by
 refine(B9 h).imp ?_;intro n H Q i;rfl';obtain⟨G,k,P,s,e,h,q⟩:=i;ac_rfl;exists G,k,_,s,e,h;rintro r ⟨l,m⟩ u v w d f;exact#[by rw[f.length];exact l,λp g=>q _ m _ _ _ (d.trans (.new d.sub g)) (.lst aK (f.mono (bq (d.sub.free g) _)))]
def xG(r:List D->(D->Prop)->Prop)(t:iW):bz:=λd P=>t d λf=>r f P
def uH:∀f H Q,fc Z (xG r t) f H Q->F7 Z t f H λg i=>hU Z r g i Q:=by
 intro f H Q k;rfl';obtain⟨G,m,P,s,e,h,q⟩:=k;ac_rfl;exact#[G,m,_,s,e,h,λn o g p i j u=>#[p,n,P,j.sub,u,o,λd w v x y z dv=>q d w v x y (j.trans z) dv]]
def KU(F:FnOk X.prog X.w X.K X.mg X.base b9 k f g i (aX Z d))(m:dq k X.A)(n:Gl X x)(o:X.mg x\(.ref f))(r:am X.K (.ref f)=true)(u:Binds X.K g i [])
  (v:DA Z X (e::es) t) (y:(x==("__debug__":Str))=false:=by decide) (z:starEach (e::es) X.env=(false,eval e X.env)::starEach es X.env:=by rfl) (B:(backTo pos (starEach es X.env)).any (·.1)=false:=by rfl):
  DE Z X (.Call (.Name x p) (e::es) [] pos) (xG d t):=
 (yQ F m n o r u .nil uR v y z B).imp λC H Q h=>by
  rfl';have h:=uH C H Q h;obtain⟨G,I,P,s,e,h,q⟩:=h;ac_rfl;exact#[G,I,P,s,e,h,λJ L j M l N O=>by show aX Z d (j++ []) l Q E0;rw[jH];exact q J L j M l N O]
theorem aE{id:String}{x:Str}{p:Pos}{r:List D->(D->Prop)->Prop}(d:cw X (.builtin id) (hU Z r))(f:Gl X x)(g:X.mg x=none)(h:bootBuiltins x\(.builtin id))(i:DA Z X (e::es) t)(j:x≠"__name__":=by decide)(k:(x==("__debug__":Str))=false:=by decide)
  (l:starEach (e::es) X.env=(false,eval e X.env)::starEach es X.env:=by rfl) (m:(backTo pos (starEach es X.env)).any (·.1)=false:=by rfl):
  DE Z X (.Call (.Name x p) (e::es) [] pos) (xG r t):=(qN d f g h i j k l m).imp uH
def g8(d:cw X (.type T) (hU Z r))(f:Gl X x)(g:X.mg x=none)(h:bootBuiltins x\(.type T))(i:DA Z X (e::es) t)(j:x≠"__name__":=by decide)(k:(x==("__debug__":Str))=false:=by decide)
  (l:starEach (e::es) X.env=(false,eval e X.env)::starEach es X.env:=by rfl) (m:(backTo pos (starEach es X.env)).any (·.1)=false:=by rfl):
  DE Z X (.Call (.Name x p) (e::es) [] pos) (xG r t):=(yR d f g h i j k l m).imp uH
end
end L2
namespace L2
open PySem PySem.Spec PyProof.Rows
section
variable {Z:DC} {X:Cx}
def Qd:g6:=λx y P=>match x,y with
 | .int i, .int j=>P (.int (i+j))
 | .lst a, .lst b=>a.length+b.length<=sizeLine/\P (.lst (a++b))
 | .tup a, .tup b=>a≠ []/\a.length+b.length<=sizeLine/\b≠ []/\P (.tup (a++b))
 |_,_=>False
def dI(c:Int->Int->Prop)(g:Int->Int->Int):g6:=λx y P=>match x,y with
 | .int i, .int j=>c i j/\P (.int (g i j))
 |_,_=>False
def Ro(g:Int->Int->Int):g6:=λx y P=>match x,y with
 | .int i, .int j=>P (.int (g i j))
 |_,_=>False
def UC:g6:=Ro λi j=>i-j
def Qi:g6:=λx y P=>match x,y with
 | .int i, .int j=>Hd i j/\P (.int (i*j))
 | .lst a, .int k=> -(2^63)<=k/\k<2^63/\a.length*k.toNat<=sizeLine/\P (.lst (aj k.toNat a).flatten)
 |_,_=>False
def Um:g6:=dI P2 λi j=>i / j
def Uv:g6:=dI (λ_ j=>0<j) λi j=>i%j
def UA:g6:=dI P4 λi j=>i^j.toNat
def BP(h:OpR X f (rI c λi j=> .int (g i j))):OpR X f (cA Z (dI c g)):=by
 refine h.imp ?_;intro x y H Q e;rfl';obtain⟨G,a,b,P,s,l,m,d,q⟩:=e;ac_rfl;unfold dI at d
 split at d
 .exact#[_,_,l.ofInt,m.ofInt,d.1,q _ d.2 _ G H (.refl s) (.int _)]
 .exact d.elim
def OE(h:OpR X f (Ci λi j=> .int (g i j))):OpR X f (cA Z (Ro g)):=by
 refine h.imp ?_;intro x y H Q d;rfl';obtain⟨G,a,b,P,s,k,l,c,q⟩:=d;ac_rfl;unfold Ro at c
 split at c
 .exact#[_,_,k.ofInt,l.ofInt,q _ c _ G H (.refl s) (.int _)]
 .exact c.elim
def nO:OpR X (binaryOp .Sub) (cA Z UC):=OE OV
def gB:OpR X (binaryOp .FloorDiv) (cA Z Um):=BP Mi
def bW:OpR X (binaryOp .Mod) (cA Z Uv):=BP OR
def HK:OpR X (binaryOp .Pow) (cA Z UA):=BP OU
def bL(e:X.K=Z.K:=by rfl):OpR X (binaryOp .Add) (cA Z Qd):=by
 refine(OO.or (B7.or (Mh))).imp ?_;rintro x y H Q ⟨G,a,b,P,s,h,i,c,q⟩;unfold Qd at c
 split at c
 .exact .inl #[_,_,h.ofInt,i.ofInt,q _ c _ G H (.refl s) (.int _)]
 .obtain⟨n,o,rfl,j,d⟩:=h.hV
  obtain⟨r,t,rfl,k,f⟩:=i.hV;obtain⟨l,m⟩:=c;refine .inr (.inl #[_,_,_,_,rfl,rfl,s _ _ j,s _ _ k,by rw[d.length,f.length];exact l,λp g=>?_])
  exact q _ m _ _ _ (.new s g) (.lst aK ((d.append f).mono (bq (s.free g) _)))
 .obtain⟨n,o,rfl,j,d⟩:=h.pO
  obtain⟨r,t,rfl,k,f⟩:=i.pO;obtain⟨u,l,v,m⟩:=c;refine .inr (.inr #[_,_,_,_,rfl,rfl,fY.of (s _ _ j),fY.of (s _ _ k),?_,by rw[d.length,f.length];exact l,?_])
  .rintro rfl;cases d;exact u rfl
  .refine#[?_,λ_ p g=>q _ m _ _ _ (.new s g) (.tup aK ((d.append f).mono (bq (s.free g) _)))]
   rintro rfl;cases f;exact(v rfl).elim
 .exact c.elim
theorem DvAll.rep(h:DvAll Z G a b):∀k:Nat,DvAll Z G (aj k a).flatten (aj k b).flatten
 |0=> .nil
 |k+1=>by rw[uf,uf,i4,i4];exact h.append (DvAll.rep h k)
def lI:OpR X (binaryOp .Mult) (cA Z Qi):=by
 refine(OS.or HM).imp ?_;intro x y H Q h;rfl';obtain⟨G,a,b,P,s,d,e,c,q⟩:=h;ac_rfl;unfold Qi at c
 split at c
 .exact .inl #[_,_,d.ofInt,e.ofInt,c.1,q _ c.2 _ G H (.refl s) (.int _)]
 .obtain⟨r,t,rfl,j,f⟩:=d.hV
  obtain⟨k,l,m,n⟩:=c;refine .inr #[_,_,_,rfl,e.ofInt,s _ _ j,k,l,by rw[f.length];exact m,λp g=>?_]
  exact q _ n _ _ _ (.new s g) (.lst aK ((f.rep _).mono (bq (s.free g) _)))
 .exact c.elim
mutual
def D.py:D->Option PyData
 | .bC=>some .none
 | .bl b=>some (.bool b)
 | .int i=>some (.int i)
 | .str x=>some (.str x)
 | .lst l=>(gf l).map PyData.list
 | .tup l=>(gf l).map PyData.tuple
 | .gN _=>none
 | .rng _ _=>none
 | .obj _=>none
 | .fM _=>none
 | .set _ _=>none
 | .x _=>none
 | .err _ _ _=>none
def gf:List D->Option (List PyData)
 | []=>some []
 |d::ds=>(D.py d).bind λa=>(gf ds).map λas=>a::as
end
def Dv.dp{K:ab}{G:Hp}{v:V}{d:D}(h:Dv Z G v d):∀{e:PyData},d.py\e->Dp K G v e:=by
 refine Dv.rec (motive_1:=λv d _=>∀{e:PyData},d.py\e->Dp K G v e) (motive_2:=λn f _=>∀{g:List PyData},gf f\g->jK K G n g) ?_ ?_ ?_ ?_ ?_ ?_ ?_ ?_ ?_ ?_ ?_ ?_ ?_ ?_ ?_ h
 .intro e h;rw[D.py] at h;cases h;exact .bC
 .intro b e h;rw[D.py] at h;cases h;exact .bl b
 .intro i e h;rw[D.py] at h;cases h;exact .int i
 .intro x k e h;rw[D.py] at h;cases h;exact .str x k
 .intro a o f q _ j e h
  rw[D.py] at h;cases c:gf f with
  |none=>rw[c] at h;cases h
  |some l=>rw[c] at h;cases h;exact .lst (cJ.of q) (j c)
 .intro a o f q _ j e h
  rw[D.py] at h;cases c:gf f with
  |none=>rw[c] at h;cases h
  |some l=>rw[c] at h;cases h;exact .tup (fY.of q) (j c)
 .intro a e h;simp[D.py] at h
 .intro a lo u _ e h;simp[D.py] at h
 .intro a r _ _ e h;simp[D.py] at h
 .intro p z R w _ _ _ _ _ _ e h;simp[D.py] at h
 .intro a b r _ e h;simp[D.py] at h
 .intro a A k _ _ e h;simp[D.py] at h
 .intro a C B E o f _ _ _ _ e h;simp[D.py] at h
 .intro g h;rw[gf] at h;cases h;exact .nil
 .intro v n d f _ _ s t g h
  rw[gf] at h;cases c:d.py with
  |none=>rw[c] at h;cases h
  |some x=>
   rw[c] at h;cases m:gf f with
   |none=>rw[m] at h;cases h
   |some y=>rw[m] at h;cases h;exact .cons (s c) (t m)
def fY.mono{K:ab}{H b:Hp}(s:bx H b)(h:fY K H a c):fY K b a c:=by
 rcases h with (h| ⟨o,h⟩) |h
 .exact .inl (.inl (s _ _ h))
 .exact .inl (.inr #[o,s _ _ h])
 .exact .inr h
theorem Dp.mono{K:ab}{G H:Hp}(s:bx G H)(h:Dp K G v d):Dp K H v d:=
 Dp.rec (motive_1:=λv d _=>Dp K H v d) (motive_2:=λc e _=>jK K H c e) .bC .bl .int .str (λh _ a=> .lst (h.mono s) a) (λh _ a=> .tup (h.mono s) a) .nil (λ_ _ a b=> .cons a b) h
def Qe(c:Bool):g6:=λx y P=>∃a b,x.py\a/\y.py\b/\a.depth<=64/\P (.bl (if c then !PyData.eqv a b else PyData.eqv a b))
abbrev sO:g6:=Qe false
abbrev rR:g6:=Qe true
def fD(e:X.A.units+64<cLine):OpR X (compareOp .Eq) (cA Z sO):=by
 refine(OP e).imp ?_;intro x y H Q f;rfl';obtain⟨G,a,b,P,s,h,i,⟨c,d,j,k,l,m⟩,q⟩:=f;ac_rfl;exact#[c,d,(h.dp j).mono s,(i.dp k).mono s,l,q _ m _ G H (.refl s) (.bl _)]
def f9(e:X.A.units+64<cLine):OpR X (compareOp .NotEq) (cA Z rR):=by
 refine(OT e).imp ?_;intro x y H Q f;rfl';obtain⟨G,a,b,P,s,h,i,⟨c,d,j,k,l,m⟩,q⟩:=f;ac_rfl;exact#[c,d,(h.dp j).mono s,(i.dp k).mono s,l,q _ m _ G H (.refl s) (.bl _)]
def sP(h:P (.bl (decide (i=j)))):sO (.int i) (.int j) P:=#[.int i, .int j,rfl,rfl,by simp[PyData.depth],by
 have:PyData.eqv (.int i) (.int j)=decide (i=j):=by
  rw[PyData.eqv]
  by_cases z:i=j<;>simp[z]
 simpa [this] using h]
def mD(h:P (.bl (!decide (i=j)))):rR (.int i) (.int j) P:=#[.int i, .int j,rfl,rfl,by simp[PyData.depth],by
 have:PyData.eqv (.int i) (.int j)=decide (i=j):=by
  rw[PyData.eqv]
  by_cases z:i=j<;>simp[z]
 simpa [this] using h]
def Dg(p:Int->Int->Bool):g6:=λx y P=>match x,y with
 | .int i, .int j=>P (.bl (p i j))
 |_,_=>False
def yo(h:OpR X f (Ci λi j=> .bl (p i j))):OpR X f (cA Z (Dg p)):=by
 refine h.imp ?_;intro x y H Q d;rfl';obtain⟨G,a,b,P,s,g,k,c,q⟩:=d;ac_rfl;unfold Dg at c
 split at c
 .exact#[_,_,g.ofInt,k.ofInt,q _ c _ G H (.refl s) (.bl _)]
 .exact c.elim
end
end L2
namespace L2
open PySem PySem.Spec PyProof.Rows
section
variable {Z:DC} {X:Cx}
abbrev Yg:g6:=Dg λi j=>decide (i<j)
abbrev Yf:g6:=Dg λi j=>decide (i<=j)
abbrev Up:g6:=Dg λi j=>decide (j<i)
def nN:OpR X (compareOp .Lt) (cA Z Yg):=yo SQ
def Gk:OpR X (compareOp .LtE) (cA Z Yf):=yo SO
def BZ:OpR X (compareOp .Gt) (cA Z Up):=yo SN
def F1:D->Bool
 | .bC=>true
 |_=>false
def Qg(a:Bool):g6:=λx y P=>match y with
 | .bC=>P (.bl (if a then !F1 x else F1 x))
 |_=>False
def Ay(h:Dv Z G v d):decide (v= .bC)=F1 d:=by cases h<;>rfl
def kE:OpR X (compareOp .Is) (cA Z (Qg false)):=by
 refine OQ.imp ?_;rintro x y H Q ⟨G,a,b,P,s,d,e,c,q⟩;cases e<;>first|exact c.elim|skip
 exact#[rfl,by rw[Ay d];exact q _ c _ G H (.refl s) (.bl _)]
def ko:OpR X (compareOp .IsNot) (cA Z (Qg true)):=by
 refine Mj.imp ?_;rintro x y H Q ⟨G,a,b,P,s,d,e,c,q⟩;cases e<;>first|exact c.elim|skip
 exact#[rfl,by rw[Ay d];exact q _ c _ G H (.refl s) (.bl _)]
def dO:D->Bool
 | .bC=>true
 | .bl _=>true
 | .int _=>true
 | .str _=>true
 |_=>false
def iD:D->D->Bool
 | .bC, .bC=>true
 | .bl a, .bl b=>a==b
 | .bl a, .int b=>(if a then 1 else 0)==b
 | .int a, .bl b=>a==(if b then 1 else 0)
 | .int a, .int b=>a==b
 | .str a, .str b=>a==b
 |_,_=>false
def inD(x:D)(l:List D):Bool:=l.any λy=>iD y x
def sT(h:Dv Z G v d):iE v=dO d:=by cases h<;>rfl
def pG(h:DvAll Z G b c):b.all iE=c.all dO:=h.ind (p:=λb c=>b.all iE=c.all dO) rfl λa _ e=>by rw[vf,vf,sT a,e]
def Bp(h:Dv Z G v d)(k:Dv Z G u e):xN v u=iD d e:=by cases h<;>first|rfl| (cases k<;>rfl)
theorem FY(h:Dv Z G v d):∀{b:List V}{c:List D},DvAll Z G b c->Oq v b=inD d c
 |_,_, .nil=>rfl
 |_,_, .cons a e=>by
  unfold Oq inD;rw[abb,abb,Bp a h];exact GM _ (FY h e)
def KH(a:Bool):g6:=λx y P=>match y with
 | .lst l=>dO x=true/\l.all dO=true/\P (.bl (if a then !inD x l else inD x l))
 | .tup l=>dO x=true/\l.all dO=true/\P (.bl (if a then !inD x l else inD x l))
 |_=>False
def MT:∀x y H Q,cA Z (KH c) x y H Q->Tb X.K c x y H Q:=by
 rintro x y H Q ⟨G,a,b,P,s,d,l,f,q⟩;cases l<;>first|exact f.elim|skip
 .rename_i p g m h e
  obtain⟨i,j,k⟩:=f;refine#[p,g,rfl, .inl (cJ.of (s _ _ h)),by rw[sT d];exact i,by rw[pG e];exact j,?_]
  rw[FY d e];exact q _ k _ G H (.refl s) (.bl _)
 .rename_i p g m h e
  obtain⟨i,j,k⟩:=f;refine#[p,g,rfl, .inr (fY.of (s _ _ h)),by rw[sT d];exact i,by rw[pG e];exact j,?_]
  rw[FY d e];exact q _ k _ G H (.refl s) (.bl _)
def yD:OpR X (compareOp .In) (cA Z (KH false)):=Gr.imp MT
def fQ:OpR X (compareOp .NotIn) (cA Z (KH true)):=zV.imp MT
def Uu:g6:=λx y P=>match x,y with
 | .lst l, .int i=>∃d,eG l i\d/\P d
 | .tup l, .int i=>∃d,eG l i\d/\P d
 | .gN l, .int i=>∃n,eG l i\n/\P (.int n)
 |_,_=>False
def wN(h:DvAll Z G b a)(e:eG a i\d):∃v,eG b i\v/\Dv Z G v d:=by
 unfold eG at e ⊢;rw[h.length];cases z:iw a.length i with
 |none=>rw[z] at e;cases e
 |some j=>rw[z] at e;exact h.get e
def Kl(f:a->b)(l:List a)(i:Int):eG (l.map f) i=(eG l i).map f:=by
 unfold eG;rw[aI];cases iw l.length i with
 |none=>rfl
 |some j=>show(l.map f)[j]? =_;rw[cG];rfl
variable {a b c e:Expr} {ta tb tc te:bz} {pos:Pos}
def aB(p:DE Z X a ta)(r:DE Z X b tb)(t:X.K=Z.K:=by rfl)(u:oX b:=by exact λ_ _=>rfl):DE Z X (.Subscript a b pos) (KO Uu ta tb):=by
 refine(B8 (yg.or HC) p r u).imp λw H Q h=>?_;rfl';obtain⟨G,x,P,s,e,h,q⟩:=BO w H Q h;ac_rfl;refine#[G,x,P,s,e,h,λd y v z A B dv=>?_];rfl';obtain⟨C,E,F,I,J,L,M⟩:=q d y v z A B dv;ac_rfl;refine#[C,E,F,I,J,L,λN k O R S T U=>?_];obtain⟨G,a,b,P,s,l,m,f,q⟩:=M N k O R S T U;unfold Uu at f
 split at f
 .obtain⟨d,i,j⟩:=f
  obtain⟨_,_,rfl,h,e⟩:=l.hV;obtain⟨v,n,dv⟩:=wN e i;exact .inl #[_,_,_,v,rfl,m.ofInt,cJ.of (s _ _ h),n,q _ j _ G _ (.refl s) dv]
 .obtain⟨d,i,j⟩:=f
  obtain⟨_,_,rfl,h,e⟩:=l.pO;obtain⟨v,n,dv⟩:=wN e i;exact .inr #[_,_,_,v,rfl,m.ofInt,fY.of (s _ _ h),n,q _ j _ G _ (.refl s) dv]
 rotate_left
 .exact f.elim
 .obtain⟨d,i,j⟩:=f
  rfl';obtain⟨_,rfl,h,_⟩:=l.Md;ac_rfl;refine .inl #[_,_,_, .int d,rfl,m.ofInt,by rw[t];exact h.mono s,by rw[Kl,i];rfl,q _ j _ G _ (.refl s) (.int d)]
def cutD{f:Type}(d:List f)(lo g:Option Int):List f:=(d.drop (HT.cj d.length 0 lo)).take (HT.cj d.length d.length g-HT.cj d.length 0 lo)
def Hi(h:DvAll Z G d f)(lo g:Option Int):DvAll Z G (vw d lo g) (cutD f lo g):=by
 unfold vw cutD;rw[h.length];exact(h.drop _).take _
def IA(f:d->h)(l:List d)(lo g:Option Int):cutD (l.map f) lo g=(cutD l lo g).map f:=by
 unfold cutD;rw[aI,rM,abd]
abbrev E7:=DN->(Option Int->Prop)->Prop
def KN:E7:=λ_ P=>P none
def Ru(t:bz):E7:=λf P=>t f λd=>match d with
 | .int i=>P (some i)
 |_=>False
def SA(Z:DC)(t:E7):TO:=λg H Q=>∃(G:Hp)(d:DN)(P:Option Int->Prop),bx G H/\eX Z G g d/\t d P/\∀o,P o->∀h f,Ext G H h f->Q o f
def DO(Z:DC)(X:Cx)(e:Option Expr)(t:E7):Prop:=PO X e (SA Z t)
def PO.imp{e:Option Expr}(h:PO X e t)(f:∀g H Q,t' g H Q->t g H Q):PO X e t':=λd s g H Q I q=>h d s g H Q I (f _ _ _ q)
def fH:DO Z X none KN:=by
 refine MB.imp λg H Q d=>?_;rfl';obtain⟨G,i,P,s,e,p,q⟩:=d;ac_rfl;exact q _ p G H (.refl s)
def fI(h:DE Z X e te):DO Z X (some e) (Ru te):=by
 refine(MC h).imp ?_;intro n H Q g;rfl';obtain⟨G,j,P,s,e,h,q⟩:=g;ac_rfl;refine#[G,j,_,s,e,h,λd f v k l m dv=>?_];cases dv<;>first|exact f.elim|skip
 exact#[_,rfl,q _ f k l m]
def Yi(g:bz)(h i:E7):bz:=λf P=>g f λx=>h f λlo=>i f λd=>match x with
 | .lst l=>P (.lst (cutD l lo d))
 | .tup l=>¬(HT.cj l.length 0 lo=0/\HT.cj l.length l.length d=l.length)/\P (.tup (cutD l lo d))
 | .gN l=>P (.lst ((cutD l lo d).map D.int))
 |_=>False
variable {lo hi:Option Expr} {tl th:E7} {p2:Pos}
def eI(r:DE Z X e te)(m:DO Z X lo tl)(g:DO Z X hi th)(t:X.K=Z.K:=by rfl):DE Z X (.Subscript e (.Slice lo hi none p2) pos) (Yi te tl th):=by
 refine(JE (M3.or Pq) r m g).imp ?_;intro C H Q w;rfl';obtain⟨G,n,P,s,o,h,q⟩:=w;ac_rfl;refine#[G,n,_,s,o,h,λd z v A F j dv=>?_];refine#[A,n,_,j.sub,o.mono j.gg,z,λl m B I k=>?_];refine#[B,n,_,k.sub,(o.mono j.gg).mono k.gg,m,λu g J L f=>?_];have x:=(j.trans k).trans f;have dv:=(dv.mono k.gg).mono f.gg;cases dv<;>first|exact g.elim|skip
 .rename_i h e
  exact .inl #[_,_,rfl,cJ.of (f.sub _ _ h),λp i=>q _ g _ _ _ (x.trans (.new f.sub i)) (.lst aK ((Hi e l u).mono (bq (f.sub.free i) _)))]
 .rename_i h e
  refine .inr #[_,_,rfl,fY.of (f.sub _ _ h),by rw[e.length];exact g.1,λp i=>q _ g.2 _ _ _ (x.trans (.new f.sub i)) (.tup aK ((Hi e l u).mono (bq (f.sub.free i) _)))]
 .rename_i h _
  refine .inl #[_,_,rfl,by rw[t];exact h.mono f.sub,λp i=>q _ g _ _ _ (x.trans (.new f.sub i)) (.lst aK ?_)]
  show DvAll Z _ (cutD _ l u) _;rw[IA];exact .ints _
def vo:bZ:=λd P=>match d with
 | [.lst l]=>P (.int l.length)
 | [.tup l]=>P (.int l.length)
 | [.gN l]=>P (.int l.length)
 |_=>False
def aZ(f:X.K=Z.K:=by rfl):cw X (.builtin "len") (hU Z vo):=by
 refine zF.imp ?_;rintro g H Q ⟨G,i,P,s,dv,d,q⟩;unfold vo at d
 split at d
 .obtain⟨_,rfl,a⟩:=dv.ofOne
  obtain⟨_,_,rfl,h,e⟩:=a.hV;exact#[_,_,rfl, .inl (cJ.of (s _ _ h)),by rw[e.length];exact q _ d _ G H (.refl s) (.int _)]
 .obtain⟨_,rfl,a⟩:=dv.ofOne
  obtain⟨_,_,rfl,h,e⟩:=a.pO;exact#[_,_,rfl, .inr (fY.of (s _ _ h)),by rw[e.length];exact q _ d _ G H (.refl s) (.int _)]
 .obtain⟨_,rfl,a⟩:=dv.ofOne
  obtain⟨_,rfl,h,_⟩:=a.Md;exact#[_,_,rfl, .inl (by rw[f];exact h.mono s),by rw[aI];exact q _ d _ G H (.refl s) (.int _)]
 .exact d.elim
def Ko:bZ:=λd P=>match d with
 | [.lst l]=>P (.lst l)
 | [.tup l]=>P (.lst l)
 |_=>False
def pB:cw X (.type "list") (hU Z Ko):=by
 refine qV.imp ?_;rintro g H Q ⟨G,i,P,s,dv,d,q⟩;unfold Ko at d
 split at d
 .obtain⟨_,rfl,a⟩:=dv.ofOne
  obtain⟨_,_,rfl,h,e⟩:=a.hV;exact#[_,_,rfl, .inl (cJ.of (s _ _ h)),λp f=>q _ d _ _ _ (.new s f) (.lst aK (e.mono (bq (s.free f) _)))]
 .obtain⟨_,rfl,a⟩:=dv.ofOne
  obtain⟨_,_,rfl,h,e⟩:=a.pO;exact#[_,_,rfl, .inr (fY.of (s _ _ h)),λp f=>q _ d _ _ _ (.new s f) (.lst aK (e.mono (bq (s.free f) _)))]
 .exact d.elim
def VV:String->D->Bool
 |"int", .int _=>true
 |"int", .bl _=>true
 |"bool", .bl _=>true
 |"list", .lst _=>true
 |"tuple", .tup _=>true
 |_,_=>false
def SK(n:String):Bool:=n=="int"||n=="bool"||n=="list"||n=="tuple"
def QJ:D->Bool
 | .bC=>true
 | .bl _=>true
 | .int _=>true
 | .str _=>true
 | .lst _=>true
 | .tup _=>true
 |_=>false
def Ut(n:String)(t:bz):bz:=λf P=>t f λd=>QJ d=true/\P (.bl (VV n d))
def Oz{K:ab}{H:Hp}{v:V}{d:D}{n:String}(hn:SK n=true)(hd:QJ d=true)(h:Dv Z H v d):∃t,k9 K H v t/\cs K t (.type n)\(VV n d):=by
 unfold SK at hn;rw[Bool.or_eq_true,Bool.or_eq_true,Bool.or_eq_true,beq_iff_eq,beq_iff_eq,beq_iff_eq,beq_iff_eq] at hn;cases h with
 |bC=>exists _, .bC;rcases hn with ((rfl|rfl) |rfl) |rfl<;>kernel_rfl
 |bl b=>exists _, .bl b;rcases hn with ((rfl|rfl) |rfl) |rfl<;>kernel_rfl
 |int b=>exists _, .int b;rcases hn with ((rfl|rfl) |rfl) |rfl<;>kernel_rfl
 |str b=>exists _, .str b;rcases hn with ((rfl|rfl) |rfl) |rfl<;>kernel_rfl
 |lst h a=>exists _, .lst h;rcases hn with ((rfl|rfl) |rfl) |rfl<;>kernel_rfl
 |tup h a=>exists _, .tup h;rcases hn with ((rfl|rfl) |rfl) |rfl<;>kernel_rfl
 |_=>cases hd
end
section
variable {Z:DC} {X:Cx} {a b c e:Expr} {ta tb tc te:bz} {pos:Pos}
def lB(n:String)(k:DE Z X a ta)(l:Gl X "isinstance")(m:X.mg "isinstance"=none)(o:Gl X x)(r:X.mg x=none)(u:bootBuiltins x\(.type n))(ok:SK n=true:=by decide)
  (w:x≠"__name__":=by decide) (y:(x==("__debug__":Str))=false:=by decide) (g:starEach [a, .Name x f] X.env=(false,eval a X.env)::starEach [.Name x f] X.env:=by rfl)
  (z:(backTo pos (starEach [.Name x f] X.env)).any (·.1)=false:=by rfl) (A:starEach [.Name x f] X.env=(false,eval (.Name x f) X.env)::starEach [] X.env:=by rfl):
  DE Z X (.Call (.Name "isinstance" p) [a, .Name x f] [] pos) (Ut n ta):=by
 have B:PE X (.Name x f) (tC (.ty n)):=Mo o r u rfl w y;refine(qN Bg l m (by decide+kernel) (d6 k (d6 B gD A) g) ∅ ∅ g z).imp ?_
 intro O H Q C;rfl';obtain⟨G,F,P,s,e,h,q⟩:=C;ac_rfl;exists G,F,_,s,e,h;rintro d ⟨I,J⟩ v L i j dv;obtain⟨t,M,N⟩:=Oz (K:=X.K) (H:=i) ok I (dv.mono j.sub);exact#[v,n,t,_,rfl,M,N,q _ J _ L i j (.bl _)]
def uI(Z:DC)(g:fE):TG:=λv j H Q=>∃(G:Hp)(f:DN)(d:D)(P:DN->Prop),bx G H/\eX Z G j f/\Dv Z G v d/\g d f P/\∀h,P h->∀i,eX Z G i h->Q i H
def DG(Z:DC)(X:Cx)(e:Expr)(g:fE):Prop:=PG X e (uI Z g)
def PG.imp{e:Expr}{t i:TG}(h:PG X e t)(f:∀v g H Q,i v g H Q->t v g H Q):PG X e i:=λd s g H v u Q I r q=>h d s g H v u Q I r (f _ _ _ _ q)
def wR(i:Nat):fE:=λd f P=>P (f.set i (some d))
def bI(i:Nat)(f:X.N.Nodup)(g:X.N[i]?\x:=by rfl)(j:Loc X.env.scope x:=by exact Or.inl rfl)(k:X.fn x=true\/X.env.scope.names.lookup x\.local:=by subst_eqs):DG Z X (.Name x l) (wR i):=by
 refine(Ex f g j k).imp λv o H Q m=>?_;rfl';obtain⟨G,r,d,P,s,e,dv,h,q⟩:=m;ac_rfl;exact q _ h _ (e.set dv)
abbrev oj:=List D->DN->(DN->Prop)->Prop
def OD(Z:DC)(g:oj):zC:=λj k H Q=>∃(G:Hp)(d:DN)(f:List D)(P:DN->Prop),bx G H/\eX Z G k d/\DvAll Z G j f/\g f d P/\∀h,P h->∀i,eX Z G i h->Q i H
def NB(Z:DC)(X:Cx)(d:List Expr)(g:oj):Prop:=Bd X d (OD Z g)
def Bd.imp{i:List Expr}(h:Bd X i t)(f:∀v g H Q,j v g H Q->t v g H Q):Bd X i j:=λd s g H v u Q I r q=>h d s g H v u Q I r (f _ _ _ _ q)
def K0:oj:=λd f P=>d= []/\P f
def Hr(g:fE)(f:oj):oj:=λh i P=>match h with
 |d::r=>g d i λj=>f r j P
 | []=>False
def xI:NB Z X [] K0:=by
 refine Ey.imp λv g H Q d=>?_;rfl';obtain⟨G,j,k,P,s,e,dv,⟨h,p⟩,q⟩:=d;subst h;cases dv;ac_rfl;exact#[rfl,q _ p _ e]
def kh(i:DG Z X e g)(j:NB Z X d f)(k:(assignEach (e::d) X.env).map (·.2)=assign e X.env::(assignEach d X.env).map (·.2):=by rfl):NB Z X (e::d) (Hr g f):=by
 refine(AM i j k).imp ?_;intro v u H Q l;rfl';obtain⟨G,n,x,P,s,e,dv,h,q⟩:=l;ac_rfl;cases dv with
 |nil=>exact h.elim
 |cons a o=>
  refine#[_,_,rfl,G,n,_,_,s,e,a,h,λp r y t=>?_];exact#[G,p,_,P,s,t,o,r,q]
def K1(n:Nat)(f:oj):fE:=λd g P=>match d with
 | .tup l=>l.length=n/\f l g P
 |_=>False
def Bk(n:Nat)(i:X.calm=true)(h:NB Z X f g)(j:(assignEach f X.env).length=n:=by rfl)(l:(assignEach f X.env).findIdx? (·.1)=none:=by rfl):DG Z X (.Tuple f k pos) (K1 n g):=by
 refine(HS i h j l).imp ?_;rintro v r H Q ⟨G,m,d,P,s,e,dv,h,q⟩;cases dv<;>first|exact h.elim|skip
 rename_i a o t p f
 exact#[a,o,rfl,fY.of (s _ _ p),by rw[f.length];exact h.1,G,m,_,P,s,e,f,h.2,q]
def xh(Z:DC)(G:Hp)(J:It)(g:List D):Prop:=∀h f,bx G h->bx h f->∀i:Nat,(i<g.length->J.go i f)/\(g.length<=i->J.stop i f)/\
 ∀x j,i<g.length->J.yld i f x j->∃k d,Ext h f k j/\g[i]?\d/\Dv Z k x d
def yt(Z:DC)(i:kv):TI:=λj H R=>∃(G:Hp)(d:DN)(P:List D->Prop),bx G H/\eX Z G j d/\i d P/\∀f,P f->∀J g h,Ext G H g h->xh Z g J f->R J h
def DI(Z:DC)(X:Cx)(d e:Expr)(f:kv):Prop:=PI X d e (yt Z f)
def PI.imp{i e:Expr}(h:PI X i e t)(f:∀g H Q,t' g H Q->t g H Q):PI X i e t':=λd s g H Q I q=>h d s g H Q I (f _ _ _ q)
def RB(t:bz):kv:=λf P=>t f λd=>match d with
 | .lst l=>P l
 |_=>False
def D7{K:ab}{a:Addr}(h:G a\(.lst f))(e:DvAll Z G f j):xh Z G (QZ K a) j:=by
 intro o r k m i;have g:=cJ.of (K:=K) (m _ _ (k _ _ h));have l:=e.length;refine#[λn=>#[f,f[i],g,cM ()],λn=>#[f,g,()],?_]
 rintro x s n ⟨rfl,p⟩;obtain⟨d,q,dv⟩:=e.Hy (p _ g);exact#[o,d, .refl m,q,dv.mono k]
def bA(h:DE Z X e te):DI Z X j e (RB te):=by
 refine(Ez h).imp ?_;intro r H Q k;rfl';obtain⟨G,m,P,s,n,h,q⟩:=k;ac_rfl;refine#[G,m,_,s,n,h,λd f v o p g dv=>?_];cases dv<;>first|exact f.elim|skip
 rename_i i e
 exact#[_,rfl,#[_,cJ.of (g.sub _ _ i)],q _ f _ o p g (D7 i e)]
def e8(lo:Int)(n:Nat):List D:=(ac n).map λ(k:Nat)=>D.int (lo+(k:Int))
def vQ{lo:Int}{n i:Nat}(h:i<n):(e8 lo n)[i]?\(.int (lo+i)):=by
 unfold e8;rw[cG,qx h];rfl
def Az(lo:Int)(n:Nat):xh Z G (NI lo n) (e8 lo n):=by
 intro f h j g i;have l:(e8 lo n).length=n:=by unfold e8;simp
 rw[l];refine#[λd=>d,λd=>d,?_];rintro x k d ⟨rfl,rfl⟩;exact#[f,_, .refl g,vQ d, .int _]
def Ql(t:iW):kv:=λd P=>t d λf=>match f with
 | [.int j]=>(-(2^62)<=j/\j<2^62)/\P (e8 0 j.toNat)
 |_=>False
variable {t:iW}
def nE(g:Gl X "range")(i:X.mg "range"=none)(j:DA Z X [a] t)(k:starEach [a] X.env= [(false,eval a X.env)]:=by rfl):DI Z X f (.Call (.Name "range" p) [a] [] pos) (Ql t):=by
 refine(yT g i j k).imp ?_;intro w H Q l;rfl';obtain⟨G,n,P,s,o,h,q⟩:=l;ac_rfl;refine#[G,n,_,s,o,h,λy d z r u v dv=>?_]
 split at d
 .obtain⟨_,rfl,a⟩:=dv.ofOne
  exact#[_,by rw[a.ofInt],d.1.1,d.1.2,q _ d.2 _ r u v (Az 0 _)]
 .exact d.elim
def iC(l:List D):List D:=l.mapIdx λi x=> .tup [.int (i:Int),x]
def NW(t:iW):kv:=λd P=>t d λf=>match f with
 | [.lst l]=>P (iC l)
 |_=>False
def LU{K:ab}{a:Addr}(h:G a\(.lst f))(e:DvAll Z G f g):xh Z G (QY K a) (iC g):=by
 intro r s m j i;have k:=cJ.of (K:=K) (j _ _ (m _ _ h));have l:=e.length;rw[show(iC g).length=g.length by unfold iC;simp]
 refine#[λn=>#[f,f[i],k,cM ()],λn=>#[f,k,()],?_]
 rintro x u n ⟨t,y,rfl,o,rfl,p⟩;obtain⟨d,q,dv⟩:=e.Hy (p _ k);refine#[_,_, .new j o,by unfold iC;rw[List.getElem?_mapIdx,q];rfl,?_]
 exact .tup aK (.cons (.int _) (.cons ((dv.mono m).mono (bq (j.free o) _)) .nil))
def jw{k1}(j:Gl X "enumerate")(k:X.mg "enumerate"=none)(l:DA Z X [a] t)(m:starEach [a] X.env= [(false,eval a X.env)]:=by rfl):DI Z X (.Tuple g k1 i) (.Call (.Name "enumerate" p) [a] [] pos) (NW t):=by
 refine(My j k l m).imp ?_;intro x H Q n;rfl';obtain⟨G,r,P,s,u,h,q⟩:=n;ac_rfl;refine#[G,r,_,s,u,h,λz d A v w f dv=>?_]
 split at d
 .obtain⟨_,rfl,a⟩:=dv.ofOne
  obtain⟨_,_,rfl,h,e⟩:=a.hV;exact#[_,rfl,#[_,f.sub _ _ h],q _ d _ v w f (LU h e)]
 .exact d.elim
def AZ(src:List (Option Nat))(d:DN):DN:=src.map λo=>o.bind λi=>(d[i]?).bind id
theorem eX.src{ρ:DN}(e:eX Z G g ρ)(src:List (Option Nat)):eX Z G (mW src g) (AZ src ρ):=by
 refine#[by unfold mW AZ;simp,λi d h=>?_]
 unfold AZ at h;unfold mW;rw[cG] at h ⊢;cases k:src[i]? with
 |none=>rw[k] at h;cases h
 |some o=>
  rw[k] at h;cases o with
  |none=>cases h
  |some j=>
   have f:(ρ[j]?).bind id\d:=Do h;cases m:ρ[j]? with
   |none=>rw[m] at f;cases f
   |some z=>
    rw[m] at f;rfl';have n:z\d:=f;subst n;obtain⟨v,p,dv⟩:=e.at_ j d m;ac_rfl;exact#[v,by show some ((g[j]?).bind id)=_;rw[p];rfl,dv]
def lcW(g:fE)(i:dM)(j:bz):List D->DN->List D->(DN->List D->Prop)->Prop
 | [],k,f,N=>N k f
 |x::l,k,f,N=>g x k λh=>i h λb=>if b=true then j h λd=>f.length<sizeLine/\lcW g i j l h (f++ [d]) N else lcW g i j l h f N
def Rp(f:kv)(g:fE)(h:dM)(i:bz)(src:List (Option Nat)):bz:=λd P=>f d λj=>lcW g h i j (AZ src d) [] λ_ out=>P (.lst out)
def qY(g:fE)(h:dM)(i:kv)(j:fE)(k:dM)(l:bz):List D->DN->List D->(List D->Prop)->Prop
 | [],_,d,P=>P d
 |x::m,n,d,P=>g x n λf=>h f λb=>if b=true then i f λo=>lcW j k l o f d λp q=>qY g h i j k l m p q P else qY g h i j k l m f d P
def Qh(f:kv)(g:fE)(h:dM)(i:kv)(j:fE)(k:dM)(l:bz)(src:List (Option Nat)):bz:=λd P=>f d λm=>qY g h i j k l m (AZ src d) [] λout=>P (.lst out)
def xH:dM:=λ_ P=>P true
def A9(Z:DC)(X:Cx)(d:List Expr)(t:dM):Prop:=ni X d (liftT Z t)
def ni.imp{d:List Expr}{t j:TT}(h:ni X d t)(f:∀i H Q,j i H Q->t i H Q):ni X d j:=λg s i H Q I q=>h g s i H Q I (f _ _ _ q)
def dF:A9 Z X [] xH:=by
 refine MI.imp λg H Q d=>?_;rfl';obtain⟨G,i,P,s,e,p,q⟩:=d;ac_rfl;exact q _ p G H (.refl s)
def jx(h:DT Z X c d):A9 Z X [c] d:=MJ h
def CS(Z:DC)(f g:Hp)(h:Addr)(j:DN)(d:List D)(k:St)(H:Hp):Prop:=
 ∃(G:Hp)(i:List V),bx f G/\bx G H/\bx g H/\(∀b,g b≠none->f b=none->G b=none)/\G h=none/\H h\(.lst i)/\DvAll Z G i d/\eX Z G k j
def jD(s:bx H d){b:Addr}(h:H b≠none):d b≠none:=λz=>by
 cases e:H b with
 |none=>exact h e
 |some o=>rw[s b o e] at z;cases z
def sS{d:Type}{l:List d}{i:Nat}{x:d}(h:l[i]?\x):l.drop i=x::l.drop (i+1):=by
 obtain⟨f,e⟩:=eC.mp h;rw[qv f,e]
theorem AD(hA:n f=none)(B:Hp)(it:xh Z B J p)(i:Nat)(M:DN)(k:List D)(X:St)(H:Hp)
  (c:CS Z m n f M k X H) (hG:∀G,bx m G->bx B G) (hi:i<p.length) (h:lcW g w A (p.drop i) M k N):
  J.go i H/\∀x C,J.yld i H x C->uI Z g x X C λq H4=>liftT Z w q H4 λb O=>
   if b=true then fc Z A q O λv P=>∃l,P f\(.lst l)/\l.length<sizeLine/\(∃r s,CS Z m n f r s q (upd P f (.lst (l++ [v])))/\lcW g w A (p.drop (i+1)) r s N)
   else ∃r s,CS Z m n f r s q O/\lcW g w A (p.drop (i+1)) r s N:=by
 rfl';obtain⟨R,l,S,s2,T,off,gA,U,Y,en⟩:=c;obtain⟨go,_,yld⟩:=it R H (hG _ S) s2 i;ac_rfl;refine#[go hi,λx C y=>?_];rfl';obtain⟨G3,d,E,hd,dv⟩:=yld x C hi y;rw[sS hd] at h;ac_rfl;refine#[G3,M,d,_,E.sub,en.mono E.gg,dv,h,λF I q L=>?_];refine#[G3,F,_,E.sub,L,I,λb hb G5 O u=>?_];have j:=E.trans u;have a:∀{G t:Hp},Ext R H G t->G f=none:=λx=>x.off f (by rw[U];exact λz=>nomatch z) gA
 have Eo:∀{G t:Hp},Ext R H G t->∀b,n b≠none->m b=none->G b=none:=λx b I h2=>x.off b (jD T I) (off b I h2);cases b with
 |false=>
  refine bK #[F,k,#[G5,l,S.trans j.gg,j.sub,T.trans j.hh,Eo j,a j,j.hh _ _ U,Y.mono j.gg,L.mono u.gg],?_];simpa using hb
 |true=>
  refine c9 #[G5,F,_,u.sub,L.mono u.gg,(~~~hb),λd' jM v G6 P x6 Yn=>?_]
  have x:=j.trans x6;refine#[l,x.hh _ _ U,by rw[Y.length];exact jM.1,F,_,#[G6,l++ [v],S.trans x.gg,λb o e=>?_,λb o e=>?_,Eo x,a x,aK,(Y.mono x.gg).snoc Yn,(L.mono u.gg).mono x6.gg],jM.2]
  .rw[bf (bN e (a x))];exact x.sub _ _ e
  .rw[bf (bN e hA)];exact(T.trans x.hh) _ _ e
def CS.done(c:CS Z i h d p f q j)(g:Ext G H i h)(r:h d=none):∃k,Ext G H k j/\Dv Z k (.ref d) (.lst f):=by
 rfl';obtain⟨u,v,w,x,y,off,l,A,B,F⟩:=c;ac_rfl;refine#[upd u d (.lst v),#[(g.gg.trans w).trans (bq l _),λb o e=>?_,g.hh.trans y,λb m C=>?_], .lst aK (B.mono (bq l _))]
 .by_cases z:b=d
  .subst z;rw[aK] at e;cases e;exact A
  .rw[bf z] at e;exact x _ _ e
 .have n:=jD g.hh m
  rw[bf (λz=>n (by rw[z];exact r))]
  exact off b n (g.off b m C)
def CS.begin(s:bx d f)(i:f g=none)(l:eX Z d k j):CS Z d f g j [] k (upd f g (.lst [])):=
 #[d,[], .refl _,λb o e=>by rw[bf (bN e (s.free i))];exact s _ _ e,bq i _,λ_ _ h=>h,s.free i,aK, .nil,l]
variable {tg iter elt:Expr} {ifs:List Expr} {scope:Scope} {NC:List Str} {src:List (Option Nat)} {wi:kv} {g:fE} {tt:dM}
def HE:∀o H Q,fc Z (Rp wi g tt te src) o H Q->PJ (yt Z wi) (uI Z g) (liftT Z tt) (fc Z te) src o H Q:=by
 intro o H Q C;rfl';obtain⟨G,E,P,s,y,h,q⟩:=C;ac_rfl;refine#[G,E,_,s,y,h,λf F J z I p A L r=>?_];refine#[λi m u k=>m=f.length-i/\i<=f.length/\∃l d,CS Z z I L l d u k/\lcW g tt te (f.drop i) l d λ_ out=>P (.lst out),#[_,rfl,fk _,_,[], .begin p.sub r ((y.mono p.gg).src src),F],?_];intro i m u k M;rfl';obtain⟨rfl,U,l,d,c,v⟩:=M;ac_rfl
 by_cases B:i<f.length
 .obtain⟨N,turn⟩:=AD r z A i l d u k c (λ_ s=>s) B v
  exact .inr #[N,_,λY a n=>#[f.length-(i+1),(),rfl,B,n],turn]
 .have e:f.drop i= []:=zw ()
  rfl';rw[e] at v;obtain⟨O,x,dv⟩:=c.done p r;obtain⟨R,b,S,T,_⟩:=c;ac_rfl;exact .inl #[(A R k S T i).2.1 (),q _ v _ O k x dv]
def jL(f:X.calm=true)(c:cS X scope)(h:dW scope X.N src NC)(i:DI Z X tg iter wi)
  (j:∀d s H,DG Z (cV X scope NC d s H) tg g) (k:∀d s H,A9 Z (cV X scope NC d s H) ifs tt) (l:∀d s H,DE Z (cV X scope NC d s H) elt te)
  (m:∀x,foldedSetIterable iter X.env x=pure x:=by intro _;rfl):DE Z X (.ListComp elt [#[tg,iter,ifs,0]] scope pos) (Rp wi g tt te src):=(Ms f c h i j k l m).imp HE
variable {t0 i0 t1 i1:Expr} {f0 f1:List Expr} {gF:kv} {g1:fE} {d9:dM}
def L0:∀σ H Q,fc Z (Qh wi g tt gF g1 d9 te src) σ H Q->QR (yt Z wi) (uI Z g) (liftT Z tt) (yt Z gF) (uI Z g1) (liftT Z d9) (fc Z te) src σ H Q:=by
 intro σ H Q aV;rfl';obtain⟨G,ρ,P,s,en,h,q⟩:=aV;ac_rfl;refine#[G,ρ,_,s,en,h,λp hd J F u x1 it l hA=>?_];refine#[λi m gG I=>m=p.length-i/\i<=p.length/\∃w j,CS Z F u l w j gG I/\qY g tt gF g1 d9 te (p.drop i) w j λout=>P (.lst out),#[_,rfl,fk _,_,[], .begin x1.sub hA ((en.mono x1.gg).src src),hd],?_];intro i m gG I jm;rfl';obtain⟨rfl,hi,w,j,c,hl⟩:=jm;ac_rfl
 by_cases eS:i<p.length
 .have c0:=c
  rfl';obtain⟨S,r,T,s2,s3,off,gA,wu,bG,Yv⟩:=c;obtain⟨go,_,yld⟩:=it S I T s2 i;ac_rfl;refine .inr #[go eS,λU L=>∃Y a,CS Z F u l Y a U L/\qY g tt gF g1 d9 te (p.drop (i+1)) Y a λout=>P (.lst out),λU L n=>#[p.length-(i+1),(),rfl,eS,n],λx H3 y=>?_]
  rfl';obtain⟨G3,d,x3,IZ,dv⟩:=yld x H3 eS y;rw[sS IZ] at hl;ac_rfl;refine#[G3,w,d,_,x3.sub,Yv.mono x3.gg,dv,hl,λt M gH Bo=>?_];refine#[G3,t,_,x3.sub,Bo,M,λb X G5 H5 x5=>?_];have A:=x3.trans x5;have AL:∀{G N:Hp},Ext S I G N->G l=none:=λx=>x.off l (by rw[wu];exact λz=>nomatch z) gA
  have Eo:∀{G N:Hp},Ext S I G N->∀b,u b≠none->F b=none->G b=none:=λx b M h2=>x.off b (jD s3 M) (off b M h2);cases b with
  |false=>exact bK #[t,j,#[G5,r,T.trans A.gg,A.sub,s3.trans A.hh,Eo A,AL A,A.hh _ _ wu,bG.mono A.gg,Bo.mono x5.gg],by simpa using X]
  |true=>
   refine c9 #[G5,t,_,x5.sub,Bo.mono x5.gg,(~~~X),λO Zb J1 G6 H6 x6 LS=>?_]
   have x:=A.trans x6;have c6:CS Z G6 H6 l t j gH H6->True:=λ_=>trivial
   refine#[λk m um B=>m=O.length-k/\k<=O.length/\∃(NA:DN)(CW:List D),(∃(G:Hp)(r:List V),bx G6 G/\bx G B/\bx u B/\(∀b,u b≠none->F b=none->G b=none)/\G l=none/\B l\(.lst r)/\DvAll Z G r CW/\eX Z G um NA)/\
    lcW g1 d9 te (O.drop k) NA CW λw xk=>qY g tt gF g1 d9 te (p.drop (i+1)) w xk λout=>P (.lst out),
    #[_,rfl,fk _,t,j,#[G6,r, .refl _,x.sub,s3.trans x.hh,Eo x,AL x,x.hh _ _ wu,bG.mono x.gg,(Bo.mono x5.gg).mono x6.gg],Zb],?_]
   intro k m um B jm;rfl';obtain⟨rfl,hk,NA,CW,⟨G7,PX,a1,a2,a3,a4,a5,a6,a7,a8⟩,Oi⟩:=jm;ac_rfl;have YF:bx F G6:=T.trans x.gg
   by_cases LK:k<O.length
   .obtain⟨YH,_,Xf⟩:=LS G7 B a1 a2 k
    refine .inr #[YH LK,λU L=>∃(Y:DN)(a:List D),(∃(G:Hp)(r:List V),bx G6 G/\bx G L/\bx u L/\(∀b,u b≠none->F b=none->G b=none)/\G l=none/\L l\(.lst r)/\DvAll Z G r a/\eX Z G U Y)/\
     lcW g1 d9 te (O.drop (k+1)) Y a λw xk=>qY g tt gF g1 d9 te (p.drop (i+1)) w xk λout=>P (.lst out),λU L n=>#[O.length-(k+1),(),rfl,LK,n],λy H8 hy=>?_]
    rfl';obtain⟨G8,d8,x8,Y7,Yo⟩:=Xf y H8 LK hy;rw[sS Y7] at Oi;ac_rfl;refine#[G8,NA,d8,_,x8.sub,a8.mono x8.gg,Yo,Oi,λP1 h9 σ9 N2=>?_];refine#[G8,P1,_,x8.sub,N2,h9,λb X TY NG Ny=>?_];have C:=x8.trans Ny;have oA:∀{G N:Hp},Ext G7 B G N->G l=none:=λx=>x.off l (by rw[a6];exact λz=>nomatch z) a5
    have oB:∀{G N:Hp},Ext G7 B G N->∀b,u b≠none->F b=none->G b=none:=λx b M h2=>x.off b (jD a3 M) (a4 b M h2);cases b with
    |false=>exact bK #[P1,CW,#[TY,PX,a1.trans C.gg,C.sub,a3.trans C.hh,oB C,oA C,C.hh _ _ a6,a7.mono C.gg,N2.mono Ny.gg],by simpa using X]
    |true=>
     refine c9 #[TY,P1,_,Ny.sub,N2.mono Ny.gg,(~~~X),λd' jM v Xo Kc Xd UH=>?_]
     have E:=C.trans Xd;refine#[PX,E.hh _ _ a6,by rw[a7.length];exact jM.1,P1,_,#[Xo,PX++ [v],a1.trans E.gg,λb o e=>?_,λb o e=>?_,oB E,oA E,aK,(a7.mono E.gg).snoc UH,(N2.mono Ny.gg).mono Xd.gg],jM.2]
     .rw[bf (bN e (oA E))];exact E.sub _ _ e
     .rw[bf (bN e hA)];exact(a3.trans E.hh) _ _ e
   .have e:O.drop k= []:=zw ()
    rw[e] at Oi;exact .inl #[(LS G7 B a1 a2 k).2.1 (),NA,CW,#[G7,PX,YF.trans a1,a2,a3,a4,a5,a6,a7,a8],Oi]
 .have e:p.drop i= []:=zw ()
  rfl';rw[e] at hl;obtain⟨G',x,dv⟩:=c.done x1 hA;obtain⟨S,r,T,s2,_⟩:=c;ac_rfl;exact .inl #[(it S I T s2 i).2.1 (),q _ hl _ G' I x dv]
def NV(f:X.calm=true)(c:cS X scope)(h:dW scope X.N src NC)(i:DI Z X t0 i0 wi)
  (j:∀d s H,DG Z (cV X scope NC d s H) t0 g) (k:∀d s H,A9 Z (cV X scope NC d s H) f0 tt) (qS:∀d s H,DI Z (cV X scope NC d s H) t1 i1 gF) (l:∀d s H,DG Z (cV X scope NC d s H) t1 g1)
  (m:∀d s H,A9 Z (cV X scope NC d s H) f1 d9) (n:∀d s H,DE Z (cV X scope NC d s H) elt te)
  (o:∀x,foldedSetIterable i0 X.env x=pure x:=by intro _;rfl) (p:∀env x,foldedSetIterable i1 env x=pure x:=by intro _ _;rfl):
  DE Z X (.ListComp elt [#[t0,i0,f0,0],#[t1,i1,f1,0]] scope pos) (Qh wi g tt gF g1 d9 te src):=(O2 f c h i j k qS l m n o p).imp L0
end
inductive fF (R:V->D->List Addr->Prop):List V->List D->List Addr->Prop
 |nil:fF R [] [] []
 |cons {v:V} {vs:List V} {d:D} {ds:List D} {f fs:List Addr}:R v d f->fF R vs ds fs->fF R (v::vs) (d::ds) (f++fs)
def BL:D->Bool
 | .lst _=>true
 |_=>false
def Own(Z:DC)(G H:Hp):Nat->V->D->List Addr->Prop
 |0,v,d,c=>Dv Z G v d/\c= []
 |n+1,v,d,c=>(∃a e g i,v= .ref a/\d= .lst g/\H a\(.lst e)/\c=a::i/\fF (Own Z G H n) e g i)\/(1<=n/\∃a e g,v= .ref a/\d= .tup g/\G a\(.tup e)/\fF (λv d f=>(BL d=true/\Own Z G H n v d f)\/(BL d=false/\Dv Z G v d/\f= [])) e g c)\/(∃a h,v= .ref a/\H a\(.ext h)/\c= [a]/\((n=98/\∃b j,d= .set b j/\h=gI b a j)\/(n=97/\∃k,d= .x k/\Il G a h k)))
theorem Own.lst{Z:DC}{G H:Hp}{n:Nat}{v:V}{c:List D}{f:List Addr}(o:Own Z G H (n+1) v (.lst c) f):∃a d g h,v= .ref a/\D.lst c= .lst g/\H a\(.lst d)/\f=a::h/\fF (Own Z G H n) d g h:=by
 rcases o with o| ⟨_,a,d,c,_,e,_⟩ | ⟨a,i,_,_,_,⟨_,b,j,e,_⟩ | ⟨_,k,e,_⟩⟩
 .exact o
 .cases e
 .cases e
 .cases e
def Own.QP{b:Bool}(o:Own Z G H 99 v (.set b c) d):∃a,v= .ref a/\H a\(.ext (gI b a c))/\d= [a]:=by
 rcases o with ⟨_,_,_,_,_,e,_⟩ | ⟨_,a,j,l,_,e,_⟩ | ⟨a,m,f,g,h,⟨_,b,c,e,i⟩ | ⟨_,k,e,_⟩⟩
 .cases e
 .cases e
 .cases e;subst i;exact#[a,f,g,h]
 .cases e
def Own.xA(o:Own Z G H 98 v (.x k) d):∃a c,v= .ref a/\H a\(.ext c)/\d= [a]/\Il G a c k:=by
 rcases o with ⟨_,_,_,_,_,e,_⟩ | ⟨_,a,j,l,_,e,_⟩ | ⟨a,c,f,g,h,⟨_,b,m,e,n⟩ | ⟨_,k,e,i⟩⟩
 .cases e
 .cases e
 .cases e
 .cases e;exact#[a,c,f,g,h,i]
theorem Own.tup{Z:DC}{G H:Hp}{n:Nat}{v:V}{g:List D}{h:List Addr}(o:Own Z G H (n+1) v (.tup g) h):∃a c,v= .ref a/\G a\(.tup c)/\fF (λv d f=>(BL d=true/\Own Z G H n v d f)\/(BL d=false/\Dv Z G v d/\f= [])) c g h:=by
 rcases o with ⟨a,c,g,m,_,e,_⟩ | ⟨_,a,c,g,i,e,j,l⟩ | ⟨a,p,_,_,_,⟨_,b,q,e,_⟩ | ⟨_,k,e,_⟩⟩
 .cases e
 .cases e;exact#[a,c,i,j,l]
 .cases e
 .cases e
def Own.one{d:D}(o:Own Z G H 1 v d b):∃a c e f,v= .ref a/\d= .lst e/\H a\(.lst c)/\b=a::f/\fF (Own Z G H 0) c e f:=by
 rcases o with o| ⟨z,_⟩ | ⟨_,_,_,_,_,⟨z,_⟩ | ⟨z,_⟩⟩
 .exact o
 .exact absurd z ∅
 .exact absurd z ∅
 .exact absurd z ∅
def fF.imp{i:List V}(o:fF R i ds c)(h:∀v d f,(∀b∈f,b∈c)->R v d f->g v d f):fF g i ds c:=by
 induction o with
 |nil=>exact .nil
 |cons a _ j=>exact .cons (h _ _ _ (λb e=>fi _ e) a) (j λv d f k r=>h v d f (λb e=>di _ (k b e)) r)
theorem fF.length(o:fF R a ds b):a.length=ds.length:=by
 induction o with
 |nil=>rfl
 |cons _ _ c=>exact GM (·+1) c
section
variable {Z:DC} {G G' H H':Hp}
theorem Own.keep:∀{v:V}{d:D}{g:List Addr},Own Z G H n v d g->bx G G'->(∀b∈g,H' b=H b)->Own Z G' H' n v d g:=by
 induction n with
 |zero=>exact λh s _=>#[h.1.mono s,h.2]
 |succ n u=>
  intro v d g h s k
  rcases h with ⟨a,j,l,w,c,m,e,i,o⟩ | ⟨p,a,j,l,c,m,e,o⟩ | ⟨a,x,c,e,i,y⟩
  .subst i
   exact .inl #[a,j,l,w,c,m,by rw[k a (bP ..)];exact e,rfl,o.imp λv d f t r=>u r s λb q=>k b (cI _ (t b q))]
  .exact .inr (.inl #[p,a,j,l,c,m,s _ _ e,o.imp λv d f t r=>r.imp (λr=>#[r.1,u r.2 s λb q=>k b (t b q)]) λr=>#[r.1,r.2.1.mono s,r.2.2]])
  .exact .inr (.inr #[a,x,c,by rw[k a (by rw[i];exact bP ..)];exact e,i,y.imp id λ#[p,k,z,A]=>#[p,k,z,A.mono s]])
def fF.Qn(o:fF R e ds g)(k:∀v d f,(∀b∈f,b∈g)->R v d f->Dv Z G' v d):DvAll Z G' e ds:=by
 induction o with
 |nil=>exact .nil
 |cons a _ h=>exact .cons (k _ _ _ (λb c=>fi _ c) a) (h λv d f i r=>k v d f (λb c=>di _ (i b c)) r)
def Own.Qm(o:HO->Prop)(y:∀j,o (.lst j))(t:∀u,o (.ext u)):∀{v:V}{d:D}{l:List Addr},Own Z G H n v d l->bx G G'->(∀b∈l,∀x,o x->H b\x->G' b\x)->Dv Z G' v d:=by
 induction n with
 |zero=>exact λh s _=>h.1.mono s
 |succ n w=>
  intro v d l h s k
  rcases h with ⟨a,j,z,B,i,c,g,e,m⟩ | ⟨_,a,j,z,i,c,g,m⟩ | ⟨a,u,i,g,e,A⟩
  .subst e i c
   exact .lst (k a (bP ..) _ (y _) g) (m.Qn λv d f e r=>w r s λb p=>k b (cI _ (e b p)))
  .subst i c
   exact .tup (s _ _ g) (m.Qn λv d f e r=>r.elim (λr=>w r.2 s λb p=>k b (e b p)) λr=>r.2.1.mono s)
  .subst i e
   rcases A with ⟨_,b,C,c,q⟩ | ⟨_,E,c,q⟩
   .subst c q
    exact .set (k a (bP ..) _ (t _) g)
   .subst c
    exact .x (k a (bP ..) _ (t _) g) (q.mono s)
def Own.dv{d:D}(h:Own Z G H n v d a)(s:bx G G')(k:∀b∈a,∀o,H b\o->G' b\o):Dv Z G' v d:=h.Qm (λ_=>True) (λ_=>trivial) (λ_=>trivial) s λb c x _ e=>k b c x e
def fF.flat(o:fF (Own Z G H 0) b ds c):DvAll Z G b ds/\c= []:=by
 induction o with
 |nil=>exact#[.nil,rfl]
 |cons a _ d=>exact#[.cons a.1 d.1,by rw[a.2,d.2];rfl]
def DvAll.own(h:DvAll Z G c d):fF (Own Z G H 0) c d []:=h.ind (p:=λc d=>fF (Own Z G H 0) c d []) .nil λa _ b=> .cons (f:= []) (fs:= []) #[a,rfl] b
def Dv.flat{v:V}{d:D}(h:Dv Z G v d)(f:dO d=true):Dv Z G' v d:=by
 cases h with
 |bC=>exact .bC
 |bl b=>exact .bl b
 |int i=>exact .int i
 |str x k=>exact .str x k
 |_=>cases f
end
mutual
def oR:D->Bool
 | .bC=>true
 | .bl _=>true
 | .int _=>true
 | .str _=>true
 | .tup l=>HJ l
 |_=>false
def HJ:List D->Bool
 | []=>true
 |d::ds=>oR d&&HJ ds
end
theorem Dv.oR(k:∀b g,G b\(.tup g)->e b\(.tup g))(h:Dv Z G v d):L2.oR d=true->Dv Z e v d:=by
 have c:∀{p:Prop}{d:D},L2.oR d=false->L2.oR d=true->p:=λa b=>by rw[a] at b;cases b
 refine Dv.rec (motive_1:=λv d _=>L2.oR d=true->Dv Z e v d) (motive_2:=λl j _=>HJ j=true->DvAll Z e l j) (λ_=> .bC) (λb _=> .bl b) (λi _=> .int i) (λx h _=> .str x h) (λ_ _ _=>c (by rw[L2.oR]<;>simp)) (λh _ m f=> .tup (k _ _ h) (m (by rw[L2.oR] at f;exact f))) (λ_=>c (by rw[L2.oR]<;>simp)) (λ_=>c (by rw[L2.oR]<;>simp)) (λ_ _=>c (by rw[L2.oR]<;>simp)) (λ_ _ _ _ _ _=>c (by rw[L2.oR]<;>simp)) (λ_=>c (by rw[L2.oR]<;>simp)) (λ_ _=>c (by rw[L2.oR]<;>simp)) (λ_ _ _ _=>c (by rw[L2.oR]<;>simp)) (λ_=> .nil) (λ_ _ n o f=>?_) h
 rw[HJ,wc] at f;exact .cons (n f.1) (o f.2)
def Ml:HO->Bool
 | .lst _=>true
 | .ext _=>true
 |_=>false
def Own.Yp(h:Own Z G H n v d c)(s:bx G a)(k:∀b∈c,∀o,Ml o=true->H b\o->a b\o):Dv Z a v d:=h.Qm (λo=>Ml o=true) (λ_=>rfl) (λ_=>rfl) s k
structure Bs where
 G₀:Hp
 H₀:Hp
 Gf:Hp
structure SIx (Z:DC) (B:Bs) (md:List Nat) (ρ:DN) (σ:St) (H G:Hp) (fp:Nat->List Addr):Prop where
 ex:Ext B.G₀ B.H₀ G H
 fl:bx B.Gf G
 len:ρ.length=σ.length
 at_:∀(i:Nat)(d:D),ρ[i]?\(some d)->∃v,σ[i]?\(some v)/\Own Z G H (md.getD i 0) v d (fp i)
 nd:∀i,(fp i).Nodup
 ap:∀i j b,i≠j->b∈fp i->b∉fp j
 nw:∀i b,b∈fp i->B.H₀ b=none/\H b≠none/\G b=none
def SI(Z:DC)(B:Bs)(a:List Nat)(b:DN)(c:St)(H:Hp):Prop:=∃G d,SIx Z B a b c H G d
def df:List Nat->DN->DN
 |_,[]=> []
 | [],o::a=>o::a
 |0::b,o::a=>o::df b a
 | (_+1)::b,_::a=>none::df b a
theorem so:∀(a:List Nat)(b:DN),(df a b).length=b.length
 |a,[]=>by cases a<;>rfl
 | [],o::b=>rfl
 |0::a,o::b=>by rw[df,cv,so a b,cv]
 | (_+1)::a,_::b=>by rw[df,cv,so a b,cv]
theorem uT:∀(c:List Nat)(e:DN)(i:Nat),(df c e)[i]?\(some d)->c.getD i 0=0/\e[i]?\(some d)
 |c,[],i,h=>by cases c<;>simp[df] at h
 | [],o::e,i,h=>#[by simp,h]
 |0::c,o::e,0,h=>#[rfl,by simpa [df] using h]
 |0::c,o::e,i+1,h=>by
  rw[df,ud] at h;obtain⟨a,b⟩:=uT c e i h;exact#[by rw[CN];exact a,by rw[ud];exact b]
 | (_+1)::c,_::e,0,h=>by simp[df] at h
 | (_+1)::c,_::e,i+1,h=>by
  rw[df,ud] at h;obtain⟨a,b⟩:=uT c e i h;exact#[by rw[CN];exact a,by rw[ud];exact b]
def zi(b:List Nat):Bool->DN->DN
 |true,a=>a
 |false,a=>df b a
def wW:Bool->D->Prop
 |true,d=>oR d=true
 |false,_=>True
section
variable {Z:DC} {B:Bs} {md:List Nat} {ρ:DN} {σ:St} {H G:Hp} {fp:Nat->List Addr}
def Gz(h:(df md ρ)[i]?\(some d)):md.getD i 0=0/\ρ[i]?\(some d):=uT md ρ i h
def SIx.Aj(S:SIx Z B md ρ σ H G fp):eX Z G σ (df md ρ):=by
 refine#[by rw[so];exact S.len,λi d h=>?_]
 obtain⟨z,h⟩:=Gz h;obtain⟨v,a,o⟩:=S.at_ i d h;rw[z] at o;exact#[v,a,o.1]
def SIx.vE(S:SIx Z B md ρ σ H G fp):eX Z H σ ρ:=by
 refine#[S.len,λi d h=>?_];obtain⟨v,a,o⟩:=S.at_ i d h;exact#[v,a,o.dv S.ex.sub λb _ u e=>e]
theorem SIx.grow{c f:Hp}(S:SIx Z B md ρ σ H G fp)(x:Ext G H c f):SIx Z B md ρ σ f c fp where
 ex:=S.ex.trans x
 fl:=S.fl.trans x.gg
 len:=S.len
 at_:=λi d h=>by
  obtain⟨v,j,o⟩:=S.at_ i d h;refine#[v,j,o.keep x.gg λb a=>?_];cases e:H b with
  |none=>exact absurd e (S.nw i b a).2.1
  |some u=>exact x.hh _ _ e
 nd:=S.nd
 ap:=S.ap
 nw:=λi b a=>let #[k,g,l]:=S.nw i b a;#[k,jD x.hh g,x.off b g l]
def Ext.all(s:bx G H)(x:Ext H H b a):Ext G H G a:=#[.refl _,s.trans x.hh,x.hh,λ_ _ h=>h]
open Classical in
noncomputable def jU(G H:Hp)(fp:Nat->List Addr):Hp:=λb=>if ∃i,b∈fp i then(match H b with|some (.lst xs)=>some (.lst xs) |some (.ext φ)=>some (.ext φ) |_=>none) else G b
open Classical in
noncomputable def uG(G:Hp)(fp:Nat->List Addr):Hp:=λb=>if ∃i,b∈fp i then none else G b
def Kb(i:Nat)(h:b∈fp i)(a:Ml o=true)(e:H b\o):jU G H fp b\o:=by
 unfold jU;rw[ir #[i,h],e];cases o<;>first|rfl|cases a
def sE(h:¬∃i,b∈fp i):jU G H fp b=G b:=mo h
def SIx.Qp(S:SIx Z B md ρ σ H G fp):bx G (jU G H fp)/\bx (jU G H fp) H/\eX Z (jU G H fp) σ ρ:=by
 have c:bx G (jU G H fp):=λb o e=>by
  by_cases h:∃i,b∈fp i
  .obtain⟨i,f⟩:=h
   rw[(S.nw i b f).2.2] at e;cases e
  .rw[sE h];exact e
 refine#[c,λb o e=>?_,S.len,λi d h=>?_]
 .by_cases h:∃i,b∈fp i
  .unfold jU at e
   rw[ir h] at e
   split at e
   .next l a=>rw[a];exact e
   .next m a=>rw[a];exact e
   .cases e
  .rw[sE h] at e;exact S.ex.sub _ _ e
 .obtain⟨v,g,o⟩:=S.at_ i d h
  exact#[v,g,o.Yp c λb j u k a=>Kb i j k a]
def SIx.Wq(S:SIx Z B md ρ σ H G fp)(x:Ext (jU G H fp) H a g):Ext G H (uG a fp) g/\∀b d,a b\(.tup d)->uG a fp b\(.tup d):=by
 obtain⟨j,l,_⟩:=S.Qp;refine#[#[λb o e=>?_,λb o e=>?_,x.hh,λb f k=>?_],λb d e=>?_]
 .have h:¬∃i,b∈fp i:=by
   rintro⟨i,c⟩;rw[(S.nw i b c).2.2] at e;cases e
  unfold uG;rw[mo h];exact x.gg _ _ (j _ _ e)
 .unfold uG at e
  split at e
  .cases e
  .exact x.sub _ _ e
 .unfold uG
  split
  .rfl
  .next h=>exact x.off b f (by rw[sE h];exact k)
 .have h:¬∃i,b∈fp i:=by
   rintro⟨i,c⟩;have f:=(S.nw i b c).2.1;cases hw:jU G H fp b with
   |none=>rw[x.off b f hw] at e;cases e
   |some o=>
    have:=x.gg _ _ hw
    rw[e] at this;cases Do this;unfold jU at hw;rw[ir #[i,c]] at hw
    split at hw<;>cases hw
  unfold uG;rw[mo h];exact e
theorem SIx.ev(S:SIx Z B md ρ σ H G fp)(m:Bool)(h:t (zi md m ρ) P)
  (f:∀d,P d->wW m d/\∀v b a,SIx Z B md ρ σ a b fp->Ext G H b a->Dv Z b v d->Q v a):fc Z t σ H Q:=by
 cases m with
 |false=>exact#[G,_,P,S.ex.sub,S.Aj,h,λd c v b a x dv=>(f d c).2 v b a (S.grow x) x dv]
 |true=>
  obtain⟨j,i,e⟩:=S.Qp;refine#[jU G H fp,_,P,i,e,h,λd c v b a x dv=>?_];obtain⟨g,k⟩:=S.Wq x;exact(f d c).2 v _ a (S.grow g) g (dv.oR k (f d c).1)
def SIx.UL(S:SIx Z B md ρ σ H G fp)(h:t ρ P)(c:∀b,P b->∀a,SIx Z B md ρ σ a G fp->Q b a):liftT Z t σ H Q:=
 #[H,ρ,P, .refl _,S.vE,h,λb d e a x=>c b d a (S.grow (Ext.all S.ex.sub x))]
def SIx.qj(S:SIx Z B md ρ σ H G fp)(l:md.getD i 0=0)(dv:Dv Z G v d):SIx Z B md (ρ.set i (some d)) (σ.set i (some v)) H G (λj=>if j=i then[] else fp j) where
 ex:=S.ex
 fl:=S.fl
 len:=by rw[fj,fj];exact S.len
 at_:=λj c h=>by
  by_cases z:i=j
  .subst z
   by_cases a:i<ρ.length
   .rw[kY a] at h
    cases Do h;exact#[v,kY (by rw[<-S.len];exact a),by rw[l,ir rfl];exact#[dv,rfl]]
   .rw[A3 (lP a),gK (lP a)] at h;cases h
  .rw[jF z] at h ⊢
   rw[mo (Ne.symm z)];exact S.at_ j c h
 nd:=λj=>by split;exact iU;exact S.nd j
 ap:=λj k b ne e f=>by
  split at e
  .cases e
  .split at f
   .cases f
   .exact S.ap j k b ne e f
 nw:=λj b g=>by
  split at g
  .cases g
  .exact S.nw j b g
def SIx.t5{f:List Addr}(S:SIx Z B md ρ σ H G fp)(m:md.getD i 0=n)(o:Own Z G H n v d f)(nd:f.Nodup)(nw:∀b∈f,B.H₀ b=none/\H b≠none/\G b=none)(ap:∀b∈f,∀j,j≠i->b∉fp j):
  SIx Z B md (ρ.set i (some d)) (σ.set i (some v)) H G (λj=>if j=i then f else fp j) where
 ex:=S.ex
 fl:=S.fl
 len:=by rw[fj,fj];exact S.len
 at_:=λj c h=>by
  by_cases z:i=j
  .subst z
   by_cases e:i<ρ.length
   .rw[kY e] at h
    cases Do h;exact#[v,kY (by rw[<-S.len];exact e),by rw[m,ir rfl];exact o]
   .rw[A3 (lP e),gK (lP e)] at h;cases h
  .rw[jF z] at h ⊢
   rw[mo (Ne.symm z)];exact S.at_ j c h
 nd:=λj=>by split;exact nd;exact S.nd j
 ap:=λj k b ne g a=>by
  split at g
  .next z=>
   rw[mo (λw=>ne (z.trans w.symm))] at a;exact ap b g k (λw=>ne (z.trans w.symm)) a
  .next z=>
   split at a
   .exact ap b a j z g
   .exact S.ap j k b ne g a
 nw:=λj b l=>by
  split at l
  .exact nw b l
  .exact S.nw j b l
noncomputable def plus(G H:Hp)(F:Addr->Prop):Hp:=λb=>open Classical in if F b then H b else G b
def mQ(h:F b):plus G H F b=H b:=by unfold plus;rw[ir h]
def jf(h:¬F b):plus G H F b=G b:=by unfold plus;rw[mo h]
def kq(s:bx G H):bx (plus G H F) H:=λb o e=>by
 by_cases h:F b
 .rw[mQ h] at e;exact e
 .rw[jf h] at e;exact s _ _ e
def fR(s:bx G H):bx G (plus G H F):=λb o e=>by
 by_cases h:F b
 .rw[mQ h];exact s _ _ e
 .rw[jf h];exact e
def SIx.Yy(S:SIx Z B md ρ σ H G fp)(h:t ρ P)(g:∀d,P d->∀v a c,Ext B.G₀ B.H₀ a c->Dv Z a v d->Q v c):fc Z t σ H Q:=by
 let F:Addr->Prop:=λb=>∃i,b∈fp i
 have s:=S.ex.sub
 have j:Ext B.G₀ B.H₀ (plus G H F) H:=#[S.ex.gg.trans (fR s),kq s,S.ex.hh,λb f k=>by
  rw[jf (λ#[i,l]=>f (S.nw i b l).1)];exact S.ex.off b f k]
 refine#[plus G H F,ρ,P,kq s,#[S.len,λi d h=>?_],h,λd m v a c x dv=>g d m v a c (j.trans x) dv];obtain⟨v,n,o⟩:=S.at_ i d h;exact#[v,n,o.dv (fR s) λb f u e=>by rw[mQ #[i,f]];exact e]
end
structure eO where
 nx:DN->Prop
 rt:D->Prop
 bk:DN->Prop:=λ_=>False
 ct:DN->Prop:=λ_=>False
 xc:DN->D->Prop:=λ_ _=>False
abbrev cz:=eO->DN->Prop
structure Meets (Z:DC) (X:Cx) (B:Bs) (md:List Nat) (rn:Nat) (E:eO) (Dn:Ends):Prop where
 nx:∀ρ,E.nx ρ->∀σ H,SI Z B md ρ σ H->Dn.nx σ H
 rt:∀d,E.rt d->∀v f G' H',Ext B.G₀ B.H₀ G' H'->Own Z G' H' rn v d f->f.Nodup->(∀b∈f,B.H₀ b=none/\H' b≠none/\G' b=none)->Dn.rt v H'
 bk:∀ρ,E.bk ρ->∀σ H,SI Z B md ρ σ H->Dn.bk σ H
 ct:∀ρ,E.ct ρ->∀σ H,SI Z B md ρ σ H->Dn.ct σ H
 xc:∀ρ d,E.xc ρ d->∀σ H G fp a,SIx Z B md ρ σ H G fp->Dv Z G (.ref a) d->T7 X σ H a
def rZ(Z:DC)(X:Cx)(a:List Nat)(c:Nat)(t:cz):TS:=λd e H=>∃(B:Bs)(b:DN)(E:eO),SI Z B a b e H/\t E b/\Meets Z X B a c E d
def DSt(Z:DC)(X:Cx)(a:List Nat)(b:Nat)(st:Stmt)(t:cz):Prop:=PS X st (rZ Z X a b t)
def ng(Z:DC)(X:Cx)(md:List Nat)(rn:Nat)(a:List Stmt)(t:cz):Prop:=mz X a (rZ Z X md rn t)
def PS.imp{X:Cx}{st:Stmt}{t c:TS}(h:PS X st t)(f:∀D b H,c D b H->t D b H):PS X st c:=λa s b H D I q=>h a s b H D I (f _ _ _ q)
def mz.imp{X:Cx}{st:List Stmt}{t c:TS}(h:mz X st t)(f:∀D b H,c D b H->t D b H):mz X st c:=λa s b H D I q=>h a s b H D I (f _ _ _ q)
section
variable {Z:DC} {X:Cx} {md:List Nat} {rn:Nat} {st:Stmt} {GK:List Stmt} {t u:cz} {e:Expr} {te:bz} {pos:Pos}
def pD:cz:=λE a=>E.nx a
def dSeq(t u:cz):cz:=λE a=>t {E with nx:=u E} a
def aM:ng Z X md rn [] pD:=by
 refine MG.imp λD b H a=>?_;obtain⟨B,c,E,S,h,M⟩:=a;exact M.nx _ h _ _ S
def ag(a:DSt Z X md rn st t)(b:ng Z X md rn GK u):ng Z X md rn (st::GK) (dSeq t u):=by
 refine(gE a b).imp λD k H c=>?_;rfl';obtain⟨B,f,E,S,h,M⟩:=c;ac_rfl;exact#[B,f,_,S,h,#[λg i m n j=>#[B,g,E,j,i,M],M.rt,M.bk,M.ct,M.xc]]
def aq(a:DSt Z X md rn st t):ng Z X md rn [st] t:=ED a
def qG:DSt Z X md rn st (λ_ _=>False):=by
 refine JL.imp λD b H a=>?_;obtain⟨B,c,E,S,h,M⟩:=a;exact h
def UB(a:bz):cz:=λE b=>a b E.rt
def aJ(a:DE Z X e te):DSt Z X md 0 (.Return (some e) pos) (UB te):=by
 refine(w6 a).imp λD l H c=>?_;rfl';obtain⟨B,n,E,⟨G,o,S⟩,h,M⟩:=c;ac_rfl;exact S.Yy h λd g v i j x dv=>M.rt d g v [] i j x #[dv,rfl] iU (λb k=>by cases k)
def Rw(i:Nat):cz:=λE a=>∃d,a[i]?\(some d)/\E.rt d
def xK(i:Nat)(f:md.getD i 0=rn:=by rfl)(g:X.N[i]?\x:=by rfl)(a:kZ X.env.scope x:=by subst_eqs)(b:(x==("__debug__":Str))=false:=by decide)(j:(x==("__classdict__":Str))=false:=by decide):
  DSt Z X md rn (.Return (some (.Name x c)) pos) (Rw i):=by
 refine(w6 (Cb g a b j)).imp λD n H k=>?_;rfl';obtain⟨B,q,E,⟨G,m,S⟩,⟨d,b,h⟩,M⟩:=k;obtain⟨v,a,o⟩:=S.at_ i d b;rw[f] at o;ac_rfl;exact#[v,a,M.rt d h v (m i) G H S.ex o (S.nd i) (S.nw i)]
def vy(c:dM)(t u:cz):cz:=λE a=>c a λb=>if b=true then t E a else u E a
def bp(j:DT Z X c tc)(k:ng Z X md rn a t)(d:ng Z X md rn b u):DSt Z X md rn (.If c a b pos) (vy tc t u):=by
 refine(ME j k d).imp ?_;intro D n H l;rfl';obtain⟨B,f,E,⟨G,g,S⟩,h,M⟩:=l;ac_rfl;refine S.UL h λb d p i=>?_;cases b with
 |true=>exact c9 #[B,f,E,#[G,g,i],(d),M]
 |false=>exact bK #[B,f,E,#[G,g,i],(d),M]
def Dk(b:List Nat)(m:Bool)(i:Nat)(c:bz):cz:=λE a=>c (zi b m a) λd=>wW m d/\E.nx (a.set i (some d))
def aO(m:Bool)(i:Nat)(g:X.N.Nodup)(j:DE Z X e k)(l:c.getD i 0=0:=by rfl)(n:X.N[i]?\x:=by rfl)(o:Loc X.env.scope x:=by subst_eqs)(p:swapsWith e (some (.Name x a)) b.line X.env=pure false:=by rfl)
  (q:X.fn x=true\/X.env.scope.names.lookup x\.local:=by subst_eqs):DSt Z X c z (.Assign [.Name x a] e b) (Dk c m i k):=by
 refine(gZ g n o j p q).imp ?_;intro D A H r;rfl';obtain⟨B,F,E,⟨G,I,S⟩,h,M⟩:=r;ac_rfl;exact S.ev m h λd f=>#[f.1,λv w J y x dv=>M.nx _ f.2 _ _ #[w,_,y.qj l dv]]
def mE(i:Nat){NC:List Str}{src:List (Option Nat)}(q:X.calm=true)(r:X.N.Nodup)(c:cS X a)(w:dW a X.N src NC)(y:DI Z X k iter n)
  (z:∀j s H,DG Z (cV X a NC j s H) k g) (A:∀j s H,A9 Z (cV X a NC j s H) f o) (C:∀j s H,DE Z (cV X a NC j s H) b te)
  (F:swapsWith (.ListComp b [#[k,iter,f,0]] a pos) (some (.Name x l)) m.line X.env=pure true:=by rfl) (I:md.getD i 0=0:=by rfl) (J:X.N[i]?\x:=by rfl) (L:Loc X.env.scope x:=by subst_eqs)
  (O:X.fn x=true\/X.env.scope.names.lookup x\.local:=by subst_eqs)
  (P:∀x,foldedSetIterable iter X.env x=pure x:=by intro _;rfl):DSt Z X md rn (.Assign [.Name x l] (.ListComp b [#[k,iter,f,0]] a pos) m) (Dk md false i (Rp n g o te src)):=by
 refine(uS q r J L c w y z A C F O P).imp ?_;intro D Q H R;rfl';obtain⟨B,t,E,⟨G,u,S⟩,h,M⟩:=R;ac_rfl;refine HE Q H _ (S.ev false h λd p=>#[p.1,λv U H' Y x dv=>M.nx _ p.2 _ _ #[U,_,Y.qj I dv]])
end
end L2
namespace L2
open PySem PySem.Spec PyProof.Rows
section
variable {Z:DC} {X:Cx} {B:Bs} {md:List Nat} {rn:Nat} {ρ:DN} {σ:St} {H G:Hp} {fp:Nat->List Addr}
def HD(Z:DC)(a:List Nat)(g:fE):TG:=λv f H Q=>∃(B:Bs)(b:DN)(d:D)(P:DN->Prop)(G:Hp)(h:Nat->List Addr),SIx Z B a b f H G h/\Dv Z G v d/\g d b P/\∀c,P c->∀e i,SIx Z B a c e H G i->Q e H
def LZ(Z:DC)(a:List Nat)(g:oj):zC:=λf h H Q=>∃(B:Bs)(b:DN)(c:List D)(P:DN->Prop)(G:Hp)(i:Nat->List Addr),SIx Z B a b h H G i/\DvAll Z G f c/\g c b P/\∀d,P d->∀e j,SIx Z B a d e H G j->Q e H
def E6(Z:DC)(X:Cx)(a:List Nat)(e:Expr)(g:fE):Prop:=PG X e (HD Z a g)
def He(Z:DC)(X:Cx)(a:List Nat)(b:List Expr)(g:oj):Prop:=Bd X b (LZ Z a g)
def aR(i:Nat)(b:X.N.Nodup)(c:e.getD i 0=0:=by rfl)(f:X.N[i]?\x:=by rfl)(g:Loc X.env.scope x:=by subst_eqs)(j:X.fn x=true\/X.env.scope.names.lookup x\.local:=by subst_eqs):E6 Z X e (.Name x a) (wR i):=by
 refine(Ex b f g j).imp λv m H Q k=>?_;rfl';obtain⟨B,o,d,P,G,p,S,dv,h,q⟩:=k;ac_rfl;exact q _ h _ _ (S.qj c dv)
def e9:He Z X md [] K0:=by
 refine Ey.imp λv c H Q a=>?_;rfl';obtain⟨B,e,f,P,G,g,S,dv,⟨h,p⟩,q⟩:=a;subst h;cases dv;ac_rfl;exact#[rfl,q _ p _ _ S]
def bF(d:E6 Z X md e g)(f:He Z X md b c)(i:(assignEach (e::b) X.env).map (·.2)=assign e X.env::(assignEach b X.env).map (·.2):=by rfl):He Z X md (e::b) (Hr g c):=by
 refine(AM d f i).imp ?_;intro v t H Q j;rfl';obtain⟨B,l,w,P,G,m,S,dv,h,q⟩:=j;ac_rfl;cases dv with
 |nil=>exact h.elim
 |cons a n=>exact#[_,_,rfl,B,l,_,_,G,m,S,a,h,λo p x r s=>#[B,o,_,P,G,r,s,n,p,q]]
def iB(n:Nat)(f:X.calm=true)(h:He Z X md b e)(g:(assignEach b X.env).length=n:=by rfl)(i:(assignEach b X.env).findIdx? (·.1)=none:=by rfl):E6 Z X md (.Tuple b k c) (K1 n e):=by
 refine(HS f h g i).imp ?_;rintro v p H Q ⟨B,j,d,P,G,l,S,dv,h,q⟩;cases dv<;>first|exact h.elim|skip
 rename_i a m r o b
 exact#[a,m,rfl,fY.of (S.ex.sub _ _ o),by rw[b.length];exact h.1,B,j,_,P,G,l,S,b,h.2,q]
def Ul(b:List Nat)(c:bz)(g:fE):cz:=λE a=>c (df b a) λd=>g d a E.nx
def wU(i:DE Z X e c)(j:E6 Z X md a g)(k:swapsWithSole [a] e b.line X.env=pure false:=by rfl)(hw:swappedStores [a] e X.env=pure none:=by rfl)
  (l:(assignEach [a] X.env).map (·.2)= [assign a X.env]:=by rfl):DSt Z X md rn (.Assign [a] e b) (Ul md c g):=by
 refine(Cd i j k hw l).imp ?_;intro D w H m;rfl';obtain⟨B,o,E,⟨G,p,S⟩,h,M⟩:=m;ac_rfl;exact S.ev false h λd q=>#[trivial,λv f z r x dv=>#[B,o,d,E.nx,f,p,r,dv,q,λA s C t u=>M.nx _ s _ _ #[f,t,u]]]
def lE(g:fE)(a:cz)(E:eO):List D->DN->Prop
 | [],b=>E.nx b
 |x::c,b=>g x b λd=>a {nx:=lE g a E c,ct:=lE g a E c,bk:=E.nx,rt:=E.rt,xc:=E.xc} d
def Qf(b:List Nat)(m:Bool)(c:kv)(g:fE)(d:cz):cz:=λE a=>c (zi b m a) λe=>lE g d E e a
def uB(S:SIx Z B md h c H G fp)(L:xh Z G J k)(O:lE g r E k h)(M:Meets Z X B md rn E q):
  ∃W:Nat->Nat->St->Hp->Prop,(∃m,W 0 m c H)/\∀i m c H,W i m c H->
   (J.stop i H/\q.nx c H)\/(J.go i H/\∃N:St->Hp->Prop,(∀j a,N j a->∃C,C<m/\W (i+1) C j a)/\∀x a,J.yld i H x a->HD Z md g x c a λF v=>rZ Z X md rn r {q with nx:=N,ct:=N,bk:=q.nx} F v):=by
 let p:Bs:={B with Gf:=G}
 have back:∀h c H,SI Z p md h c H->SI Z B md h c H:=λh c H #[s,t,f]=>#[s,t,#[f.ex,S.fl.trans f.fl,f.len,f.at_,f.nd,f.ap,f.nw]];have P:SIx Z p md h c H G fp:=#[S.ex, .refl _,S.len,S.at_,S.nd,S.ap,S.nw];refine#[λi m c H=>m=k.length-i/\i<=k.length/\∃h,SI Z p md h c H/\lE g r E (k.drop i) h,#[_,rfl,fk _,h,#[G,fp,P],O],?_];intro i m F v Q;rfl';obtain⟨rfl,hi,T,⟨s,t,f⟩,u⟩:=Q;obtain⟨U,stop,yld⟩:=L s v f.fl f.ex.sub i;ac_rfl
 by_cases z:i<k.length
 .refine .inr #[U z,λj a=>∃l,SI Z p md l j a/\lE g r E (k.drop (i+1)) l,λj a n=>#[k.length-(i+1),(),rfl,z,n],λx a y=>?_]
  rfl';obtain⟨I,d,Y,IZ,dv⟩:=yld x a z y;rw[sS IZ] at u;ac_rfl;refine#[p,T,d,_,I,t,f.grow Y,dv,u,λA h4 gH YC S4=>?_];exact#[p,A,_,#[I,YC,S4],h4,#[λl o j a b=>#[l,b,o],M.rt,λl o j a b=>M.nx _ o _ _ (back _ _ _ b),λl o j a b=>#[l,b,o],λl d o j a G' Br a' b nF=>M.xc l d o j a G' Br a' #[b.ex,S.fl.trans b.fl,b.len,b.at_,b.nd,b.ap,b.nw] nF]]
 .have e:k.drop i= []:=zw ()
  rw[e] at u;exact .inl #[stop (),M.nx _ u _ _ (back _ _ _ #[s,t,f])]
variable {tg iter:Expr} {body:List Stmt} {wi:kv} {g:fE} {tb:cz} {pos:Pos}
def cT(a:X.calm=true)(b:PassesOwn (model X.prog X.w) X.A X.env X.xe)(c:DI Z X tg iter wi)(d:E6 Z X md tg g)(e:ng Z X md rn body tb)
  (f:∀x,foldedSetIterable iter X.env x=pure x:=by intro _;rfl):DSt Z X md rn (.For tg iter body [] pos) (Qf md false wi g tb):=by
 refine(Ce b a c d e f).imp ?_;intro D n H i;rfl';obtain⟨B,p,E,⟨G,q,S⟩,h,M⟩:=i;ac_rfl;exact#[G,_,_,S.ex.sub,S.Aj,h,λr k J s t l m=>uB (S.grow l) m k M]
def OF(Z:DC)(d:kv):TI:=λe H R=>∃(G:Hp)(a:DN)(P:List D->Prop),bx G H/\eX Z G e a/\d a P/\∀b,P b->∀J f c,Ext G H f c->(∀h,xh Z h J b)->R J c
def TU(Z:DC)(X:Cx)(a e:Expr)(b:kv):Prop:=PI X a e (OF Z b)
def gP(a:X.calm=true)(b:PassesOwn (model X.prog X.w) X.A X.env X.xe)(c:TU Z X tg iter wi)(d:E6 Z X md tg g)(e:ng Z X md rn body tb)
  (f:∀x,foldedSetIterable iter X.env x=pure x:=by intro _;rfl):DSt Z X md rn (.For tg iter body [] pos) (Qf md true wi g tb):=by
 refine(Ce b a c d e f).imp ?_;intro D o H i;rfl';obtain⟨B,k,E,⟨G,q,S⟩,h,M⟩:=i;ac_rfl;exact#[H,k,_, .refl _,S.vE,h,λr l J s t m n=>uB (S.grow (Ext.all S.ex.sub m)) (n _) l M]
variable {a b e:Expr} {ta te:bz} {t:iW}
def eQ(d:Gl X "range")(f:X.mg "range"=none)(i:DA Z X [a] t)(j:starEach [a] X.env= [(false,eval a X.env)]:=by rfl):TU Z X tg (.Call (.Name "range" p) [a] [] pos) (Ql t):=by
 refine(yT d f i j).imp ?_;intro v H Q k;rfl';obtain⟨G,m,P,s,n,h,q⟩:=k;ac_rfl;refine#[G,m,_,s,n,h,λx c y o r u dv=>?_]
 split at c
 .obtain⟨_,rfl,a⟩:=dv.ofOne
  exact#[_,by rw[a.ofInt],c.1.1,c.1.2,q _ c.2 _ o r u λ_=>Az 0 _]
 .exact c.elim
def Hl(c:dM)(i:cz):cz:=λE d=>∃W:Nat->DN->Prop,(∃m,W m d)/\∀m d,W m d->c d λb=>if b=true then i {nx:=λh=>∃f,f<m/\W f h,ct:=λh=>∃f,f<m/\W f h,bk:=E.nx,rt:=E.rt,xc:=E.xc} d else E.nx d
def mF(y:PassesOwn (model X.prog X.w) X.A X.env X.xe)(z:DT Z X c tc)(k:ng Z X md rn body tb):DSt Z X md rn (.While c body [] pos) (Hl tc tb):=by
 refine(JM y z k).imp ?_;intro D r H o;rfl';obtain⟨B,l,E,S,⟨W,⟨F,I⟩,turn⟩,M⟩:=o;ac_rfl;refine#[λm r H=>∃l,SI Z B md l r H/\W m l,#[F,l,S,I],?_];intro m O P o;rfl';obtain⟨s,⟨u,v,J⟩,L⟩:=o;ac_rfl;refine J.UL (turn m s L) λb k h x=>?_;cases b with
 |false=>exact bK (M.nx _ (k) _ _ #[u,v,x])
 |true=>
  refine c9 #[λn h=>∃d f,f<m/\SI Z B md d n h/\W f d,λn h #[d,f,i,j,N]=>#[f,i,d,j,N],B,s,_,#[u,v,x],(k),?_];exact#[λd #[f,i,j] n h q=>#[d,f,i,q,j],M.rt,M.nx,λd #[f,i,j] n h q=>#[d,f,i,q,j],M.xc]
abbrev jJ:=DN->(List D->Prop)->Prop
def yq(Z:DC)(n:Nat)(t:jJ):TE:=λj H Q=>∃(G:Hp)(h:DN)(P:List D->Prop),bx G H/\eX Z G j h/\t h P/\∀i,P i->∀v f d c,Ext G H d c->Own Z d c n v (.lst i) f->f.Nodup->(∀b∈f,H b=none/\c b≠none/\d b=none)->Q v c
def DF(Z:DC)(X:Cx)(n:Nat)(e:Expr)(t:jJ):Prop:=PE X e (yq Z n t)
def Ext.side(x:Ext G H d c)(f:c p=none):Ext G H d (upd c p o):=
 #[x.gg,λb u e=>by rw[bf (bN e (x.sub.free f))];exact x.sub _ _ e,x.hh.trans (bq f _),x.off]
def jA(x:Ext G H d f)(i:f p=none)(dv:DvAll Z d c h):
  Own Z d (upd f p (.lst c)) 1 (.ref p) (.lst h) [p]/\([p]:List Addr).Nodup/\∀b∈([p]:List Addr),H b=none/\(upd f p (.lst c)) b≠none/\d b=none:=by
 refine#[.inl #[p,c,h,[],rfl,rfl,aK,rfl,dv.own],by simp,λb j=>?_]
 have:b=p:=by simpa using j
 subst this;exact#[x.hh.free i,(aK▸λz=>nomatch z),x.sub.free i]
def UP(t:iW):jJ:=λd P=>t d λc=>c.length<=sizeLine/\P c
def gX(h:DA Z X c t):DF Z X 1 (.List c pos) (UP t):=by
 refine(B9 h).imp ?_;intro v H Q j;rfl';obtain⟨G,l,P,s,e,h,q⟩:=j;ac_rfl;exists G,l,_,s,e,h;rintro x ⟨m,n⟩ y z A d f;refine#[by rw[f.length];exact m,λp i=>?_]
 obtain⟨o,r,u⟩:=jA d i f;exact q _ n _ _ _ _ (d.side i) o r u
def RL(c:bz):jJ:=λf P=>c f λd=>match d with
 | .lst l=>P l
 | .tup l=>P l
 |_=>False
def kC{x:Str}{p:Pos}(F:x="list")(n:Gl X x)(o:X.mg x=none)(r:bootBuiltins x\(.type "list"))(u:DE Z X a ta)(w:x≠"__name__":=by decide)(y:(x==("__debug__":Str))=false:=by decide)
  (m:starEach [a] X.env=(false,eval a X.env)::starEach [] X.env:=by rfl) (z:(backTo pos (starEach [] X.env)).any (·.1)=false:=by rfl):DF Z X 1 (.Call (.Name x p) [a] [] pos) (RL ta):=by
 refine(yR qV n o r (d6 u gD m) w y m z).imp ?_;intro I H Q A;rfl';obtain⟨G,E,P,s,e,h,q⟩:=A;ac_rfl;refine#[G,E,_,s,e,h,λd i v L M c dv=>?_];cases dv<;>first|exact i.elim|skip
 .rename_i h e
  refine#[_,_,rfl, .inl (cJ.of (c.sub _ _ h)),λp f=>?_];obtain⟨j,k,l⟩:=jA c f e;exact q _ i _ _ _ _ (c.side f) j k l
 .rename_i h e
  refine#[_,_,rfl, .inr (fY.of (c.sub _ _ h)),λp f=>?_];obtain⟨j,k,l⟩:=jA c f e;exact q _ i _ _ _ _ (c.side f) j k l
def UQ(t:iW)(f:bz):jJ:=λd P=>t d λc=>c.length<=sizeLine/\f d λk=>match k with
 | .int k=> -(2^63)<=k/\k<2^63/\c.length*k.toNat<=sizeLine/\P (aj k.toNat c).flatten
 |_=>False
def Hq(h:DA Z X l t)(w:DE Z X b te):DF Z X 1 (.BinOp (.List l m) .Mult b pos) (UQ t te):=by
 refine(Ca HM (B9 h) w).imp ?_;intro Y H Q y;rfl';obtain⟨G,n,P,s,e,h,q⟩:=y;ac_rfl;exists G,n,_,s,e,h;rintro A ⟨C,E⟩ c F I d f;refine#[by rw[f.length];exact C,λp o=>?_]
 have i:Ext G H (upd F p (.lst c)) (upd I p (.lst c)):=d.trans (.new d.sub o);refine#[_,n,_,i.sub,e.mono i.gg,E,λk r v J g j dv=>?_];cases dv<;>first|exact r.elim|skip
 obtain⟨L,M,N,O⟩:=r;have R:DvAll Z J c A:=f.mono ((bq (d.sub.free o) _).trans j.gg);refine#[_,_,_,rfl,rfl,j.hh _ _ aK,L,M,by rw[f.length];exact N,λm u=>?_]
 have x:=i.trans j;obtain⟨S,T,U⟩:=jA x u (R.rep _);exact q _ O _ _ _ _ (x.side u) S T U
def N6(d:kv)(g:fE)(f:dM)(h:bz)(src:List (Option Nat)):jJ:=λc P=>d c λi=>lcW g f h i (AZ src c) [] λ_ out=>P out
def yr:∀u H Q,yq Z 1 (N6 wi g r te src) u H Q->PJ (yt Z wi) (uI Z g) (liftT Z r) (fc Z te) src u H Q:=by
 intro u H Q O;rfl';obtain⟨G,S,P,s,w,h,q⟩:=O;ac_rfl;refine#[G,S,_,s,w,h,λj T J C U f E k x=>?_];refine#[λi m y l=>m=j.length-i/\i<=j.length/\∃o d,CS Z C U k o d y l/\lcW g r te (j.drop i) o d λ_ out=>P out,#[_,rfl,fk _,_,[], .begin f.sub x ((w.mono f.gg).src src),T],?_];rintro i m y l ⟨rfl,hi,o,d,c,A⟩
 by_cases F:i<j.length
 .obtain⟨Y,turn⟩:=AD x C E i o d y l c (λ_ s=>s) F A
  exact .inr #[Y,_,λaQ H' n=>#[j.length-(i+1),(),rfl,F,n],turn]
 .have e:j.drop i= []:=zw ()
  rfl';rw[e] at A;obtain⟨I,a,L,M,t,off,B,N,X,w⟩:=c;ac_rfl;refine .inl #[(E I l L M i).2.1 (),q _ A (.ref k) [k] I l #[f.gg.trans L,M,f.hh.trans t,λb p hg=>off b (jD f.hh p) (f.off b p hg)] (.inl #[k,a,d,[],rfl,rfl,N,rfl,X.own]) (by simp) λb p=>?_]
  have:b=k:=by simpa using p
  subst this;exact#[f.hh.free x,(by rw[N];exact λz=>nomatch z),B]
variable {elt:Expr} {ifs:List Expr} {scope:Scope} {NC:List Str} {src:List (Option Nat)} {tt:dM}
def Qj(d:List Nat)(i:Nat)(t:jJ):cz:=λE c=>t (df d c) λf=>E.nx (c.set i (some (.lst f)))
def AI{t:jJ}(p:md.getD i 0=n)(S:SIx Z B md ρ σ H G fp)(h:t (df md ρ) λl=>E.nx (ρ.set i (some (.lst l))))(M:Meets Z X B md rn E k):yq Z n t σ H λv m=>k.nx (σ.set i (some v)) m:=by
 refine#[G,_,_,S.ex.sub,S.Aj,h,λl q v f r m x o s d=>?_];refine M.nx _ q _ _ #[r,_,(S.grow x).t5 p o s (λb c=>#[S.ex.hh.free (d b c).1,(d b c).2]) λb c j _ u=>(S.nw j b u).2.1 (d b c).1]
def cU(i:Nat){t:jJ}(j:X.N.Nodup)(k:DF Z X n e t)(l:f.getD i 0=n:=by rfl)(m:X.N[i]?\x:=by rfl)(o:Loc X.env.scope x:=by subst_eqs)(p:swapsWith e (some (.Name x c)) d.line X.env=pure false:=by rfl)
  (q:X.fn x=true\/X.env.scope.names.lookup x\.local:=by subst_eqs):DSt Z X f u (.Assign [.Name x c] e d) (Qj f i t):=by
 refine(gZ j m o k p q).imp ?_;intro D v H r;rfl';obtain⟨B,y,E,⟨G,z,S⟩,h,M⟩:=r;ac_rfl;exact AI l S h M
def Ac(i:Nat)(k:X.calm=true)(l:X.N.Nodup)(c:cS X scope)(m:dW scope X.N src NC)(n:DI Z X tg iter wi)
  (o:∀d s H,DG Z (cV X scope NC d s H) tg g) (p:∀d s H,A9 Z (cV X scope NC d s H) ifs tt) (q:∀d s H,DE Z (cV X scope NC d s H) elt te)
  (r:swapsWith (.ListComp elt [#[tg,iter,ifs,0]] scope pos) (some (.Name x f)) j.line X.env=pure true:=by rfl) (u:md.getD i 0=1:=by rfl) (v:X.N[i]?\x:=by rfl) (w:Loc X.env.scope x:=by subst_eqs)
  (y:X.fn x=true\/X.env.scope.names.lookup x\.local:=by subst_eqs)
  (z:∀x,foldedSetIterable iter X.env x=pure x:=by intro _;rfl):DSt Z X md rn (.Assign [.Name x f] (.ListComp elt [#[tg,iter,ifs,0]] scope pos) j) (Qj md i (N6 wi g tt te src)):=by
 refine(uS k l v w c m n o p q r y z).imp ?_;intro D A H C;rfl';obtain⟨B,J,E,⟨G,L,S⟩,h,M⟩:=C;ac_rfl;exact yr A H _ (AI u S h M)
end
section
variable {Z:DC} {X:Cx} {B:Bs} {md:List Nat} {rn:Nat} {ρ:DN} {σ:St} {H G:Hp} {fp:Nat->List Addr} {a e k o:Expr} {ta te tk tp:bz} {pos apos bh p2:Pos}
def SIx.mut{b:Addr}(S:SIx Z B md ρ σ H G fp)(r:σ[i]?\(some v))(n:b∈fp i)(o:Own Z G (upd H b c) (md.getD i 0) v m (fp i)):SIx Z B md (ρ.set i (some m)) σ (upd H b c) G fp where
 ex:=by
  obtain⟨d,p,f⟩:=S.nw i b n;exact#[S.ex.gg,λx u e=>by rw[bf (bN e f)];exact S.ex.sub _ _ e,λx u e=>by rw[bf (bN e d)];exact S.ex.hh _ _ e,S.ex.off]
 fl:=S.fl
 len:=by rw[fj];exact S.len
 at_:=λj w h=>by
  by_cases z:i=j
  .subst z
   by_cases g:i<ρ.length
   .rw[kY g] at h
    cases Do h;exact#[v,r,o]
   .rw[A3 (lP g),gK (lP g)] at h;cases h
  .rw[jF z] at h
   obtain⟨u,s,t⟩:=S.at_ j w h;exact#[u,s,t.keep (.refl _) λx l=>bf λq=>S.ap i j b z n (q▸l)]
 nd:=S.nd
 ap:=S.ap
 nw:=λj x l=>by
  obtain⟨d,p,f⟩:=S.nw j x l;refine#[d,?_,f]
  by_cases z:x=b
  .rw[z,aK];exact λq=>nomatch q
  .rw[bf z];exact p
theorem SIx.one{i:Nat}{d:D}(S:SIx Z B md ρ σ H G fp)(j:md.getD i 0=1)(h:ρ[i]?\(some d)):∃l b c,d= .lst c/\σ[i]?\(some (.ref l))/\H l\(.lst b)/\DvAll Z G b c/\
  ∀f g,DvAll Z G f g->SIx Z B md (ρ.set i (some (.lst g))) σ (upd H l (.lst f)) G fp:=by
 rfl';obtain⟨v,m,o⟩:=S.at_ i d h;rw[j] at o;obtain⟨l,b,c,u,rfl,rfl,q,n,r⟩:=o.one;obtain⟨dv,rfl⟩:=r.flat;ac_rfl;refine#[l,b,c,rfl,m,q,dv,λf g s=>S.mut m (by rw[n];simp) ?_]
 rw[j,n];exact .inl #[l,f,g,[],rfl,rfl,aK,rfl,s.own]
def ty_list{K:ab}{l:Addr}{b:List V}(h:H l\(.lst b)):PU K "list" (.ref l) H:= .inl #[rfl,_,cJ.of h]
def KC(f:List Nat)(m:Bool)(i:Nat)(g:bz):cz:=λE b=>∃c,b[i]?\(some (.lst c))/\g (zi f m b) λd=>wW m d/\c.length<sizeLine/\E.nx (b.set i (some (.lst (c++ [d]))))
def gY(m:Bool)(i:Nat)(t:DE Z X e te)(g:md.getD i 0=1:=by rfl)(u:X.N[i]?\x:=by rfl)(w:kZ X.env.scope x:=by subst_eqs)(f:(x==("__debug__":Str))=false:=by decide)(y:(x==("__classdict__":Str))=false:=by decide)
  (z:attributeBase (.Name x b) "append" X.env (eval (.Name x b) X.env)=eval (.Name x b) X.env:=by rfl)
  (A:((backTo bh (starEach [e] X.env)).all (λx=>!x.1)&&(backToKw bh (keywordEach [] X.env)).all (λx=>x.1.isSome)&&decide (([e]:List Expr).length+([]:List Keyword).length+(if ([]:List Keyword).isEmpty then 0 else 1)<30))=true:=by rfl)
  (C:(apos.endLine==bh.line)=true:=by rfl) (j:starEach [e] X.env=(false,eval e X.env)::starEach [] X.env:=by rfl) (F:(backTo bh (starEach [] X.env)).any (·.1)=false:=by rfl)
  (I:swapsWith (.Call (.Attribute (.Name x b) "append" apos) [e] [] bh) none pos.line X.env=pure false:=by rfl):
  DSt Z X md rn (.Expr (.Call (.Attribute (.Name x b) "append" apos) [e] [] bh) pos) (KC md m i te):=by
 refine(jB (yP UF ab6 ab7 nM (pv i u w f y) (d6 t gD j) z A C j F) I).imp ?_;intro D k H J;rfl';obtain⟨B,o,E,⟨G,L,S⟩,⟨ds,p,h⟩,M⟩:=J;ac_rfl;rfl';obtain⟨l,xs,_,_,q,O,_⟩:=S.one g p;ac_rfl;refine#[_,q,ty_list O,S.ev m h λd f=>#[f.1,λv P H' Q x dv=>?_]];rfl';obtain⟨_,R,T⟩:=f;obtain⟨l',U,gO,Y,r,a,s,put⟩:=Q.one g p;cases Y;ac_rfl;rw[q] at r;cases r;exact#[l,U,v,rfl,rfl,a,by rw[s.length];exact R,M.nx _ T _ _ #[P,L,put _ _ (s.snoc dv)]]
def Hg{j n:Nat}(d:b.length=n)(h:iw n i\j)(e:b[j]?\v):eG b i\v:=by unfold eG;rw[d,h];exact e
def Hk(f:List Nat)(m:Bool)(i:Nat)(g h:bz):cz:=λE b=>h (zi f m b) λd=>wW m d/\∃c,b[i]?\(some (.lst c))/\g b λl=>∃k j,l= .int k/\iw c.length k\j/\E.nx (b.set i (some (.lst (c.set j d))))
def dR(m:Bool)(i:Nat)(z:DE Z X k tk)(A:DE Z X e te)(r:md.getD i 0=1:=by rfl)(C:X.N[i]?\x:=by rfl)(F:kZ X.env.scope x:=by subst_eqs)(g:(x==("__debug__":Str))=false:=by decide)(I:(x==("__classdict__":Str))=false:=by decide)
  (J:∀v,assign (.Subscript (.Name x b) k c) X.env v=(do
   let n <-holding [v] (eval (.Name x b) X.env)
   let q <-holding [v,n] (eval k X.env)
   standAt c
   holding [v,n,q] (setItem n q v)
   release [v,n,q] []):=by intro _;rfl)
  (L:swapsWithSole [.Subscript (.Name x b) k c] e pos.line X.env=pure false:=by rfl) (hw:swappedStores [.Subscript (.Name x b) k c] e X.env=pure none:=by rfl)
  (p:(assignEach [.Subscript (.Name x b) k c] X.env).map (·.2)= [assign (.Subscript (.Name x b) k c) X.env]:=by rfl):DSt Z X md rn (.Assign [.Subscript (.Name x b) k c] e pos) (Hk md m i tk te):=by
 refine(Cd A (HQ (pv i C F g I) z set_list J) L hw p).imp ?_;intro D σ H O;rfl';obtain⟨B,ρ,E,⟨G,P,S⟩,h,M⟩:=O;ac_rfl;refine S.ev m h λd g=>#[g.1,λv G' H' t x dv=>?_];rfl';obtain⟨_,ds,p,h⟩:=g;obtain⟨l,xs,_,_,u,e3,_⟩:=t.one r p;ac_rfl;refine#[_,u,t.ev true h ?_];rintro _ ⟨k,j,rfl,Q,R⟩;refine#[rfl,λv1 T H1 U Y a=>?_];rfl';cases a.ofInt;obtain⟨l',o,gO,e1,w,Bn,y,put⟩:=U.one r p;cases e1;ac_rfl;rw[u] at w;cases w;exact#[l,o,k,j,rfl,rfl,Bn,by rw[y.length];exact Q,M.nx _ R _ _ #[T,P,put _ _ (y.set (dv.mono Y.gg) j)]]
def Uz(f:List Nat)(i j:Nat):cz:=λE b=>∃c d,b[j]?\(some (.lst (c++ [d])))/\E.nx ((b.set j (some (.lst c))).set i (some d))
def Hu(i j:Nat)(u:X.N.Nodup)(w:f.getD i 0=0:=by rfl)(z:f.getD j 0=1:=by rfl)(A:X.N[i]?\x:=by rfl)(C:Loc X.env.scope x:=by subst_eqs)
  (I:X.N[j]?\y:=by rfl) (J:kZ X.env.scope y:=by subst_eqs) (L:(y==("__debug__":Str))=false:=by decide) (O:(y==("__classdict__":Str))=false:=by decide)
  (P:attributeBase (.Name y py) "pop" X.env (eval (.Name y py) X.env)=eval (.Name y py) X.env:=by rfl) (Q:(b.endLine==r.line)=true:=by rfl)
  (R:swapsWith (.Call (.Attribute (.Name y py) "pop" b) [] [] r) (some (.Name x q)) g.line X.env=pure false:=by rfl)
  (T:X.fn x=true\/X.env.scope.names.lookup x\.local:=by subst_eqs):DSt Z X f rn (.Assign [.Name x q] (.Call (.Attribute (.Name y py) "pop" b) [] [] r) g) (Uz f i j):=by
 refine(gZ u A C (HN UF PySem.F.slot_list_pop PySem.F.type_list_pop OI (pv j I J L O) P Q) R T).imp ?_;intro D σ H U;rfl';obtain⟨B,ρ,E,⟨G,fp,S⟩,⟨n,d,a,h⟩,M⟩:=U;ac_rfl;rfl';obtain⟨l,c,gO,e,k,s,p,put⟩:=S.one z a;cases e;have t:c.length=n.length+1:=by rw[p.length];simp
 obtain⟨v,o,dv⟩:=p.get (i:=c.length-1) (d:=d) (by rw[t];simp)
 ac_rfl;refine#[_,k,ty_list s,l,c,v,rfl,rfl,s,o,M.nx _ h _ _ #[G,_,(put c.dropLast n ?_).qj w dv]]
 have:=p.take n.length
 rw[List.take_left'] at this
 .rw[List.dropLast_eq_take,t];exact this
 .rfl
def SIx.Ck(S:SIx Z B md ρ σ H G fp)(h:ρ[j]?\(some d)):∃v,σ[j]?\(some v)/\Dv Z (plus G H λb=>b∈fp j) v d/\SIx Z B md (ρ.set j none) σ H (plus G H λb=>b∈fp j) (λk=>if k=j then[] else fp k):=by
 have s:=S.ex.sub;obtain⟨v,m,o⟩:=S.at_ j d h;refine#[v,m,o.dv (fR s) λb g u e=>by rw[mQ g];exact e,?_]
 refine#[#[S.ex.gg.trans (fR s),kq s,S.ex.hh,λb g n=>?_],S.fl.trans (fR s),by rw[fj];exact S.len,λk c f=>?_,λk=>by split;exact iU;exact S.nd k,λk p b ne f i=>?_,λk b g=>?_]
 .rw[jf (λz=>g (S.nw j b z).1)];exact S.ex.off b g n
 .by_cases z:j=k
  .subst z
   by_cases l:j<ρ.length
   .rw[kY l] at f;cases f
   .rw[A3 (lP l),gK (lP l)] at f;cases f
  .rw[jF z] at f
   obtain⟨u,q,r⟩:=S.at_ k c f;exact#[u,q,by rw[mo (Ne.symm z)];exact r.keep (fR s) λ_ _=>rfl]
 .split at f
  .cases f
  .split at i
   .cases i
   .exact S.ap k p b ne f i
 .split at g
  .cases g
  .next z=>
   obtain⟨t,x,y⟩:=S.nw k b g;exact#[t,x,by rw[jf (λw=>S.ap k j b z g w)];exact y]
def Ri(f:List Nat)(i j:Nat):cz:=λE b=>∃c d,b[i]?\(some (.lst c))/\b[j]?\(some d)/\c.length<sizeLine/\E.nx ((b.set j none).set i (some (.lst (c++ [d]))))
def K6(i j:Nat)(n:i≠j:=by decide)(p:md.getD i 0=1:=by rfl)(q:X.N[j]?\y:=by rfl)(r:kZ X.env.scope y:=by subst_eqs)(s:(y==("__debug__":Str))=false:=by decide)(t:(y==("__classdict__":Str))=false:=by decide)(u:X.N[i]?\x:=by rfl)(w:kZ X.env.scope x:=by subst_eqs)(z:(x==("__debug__":Str))=false:=by decide)(A:(x==("__classdict__":Str))=false:=by decide)
  (C:attributeBase (.Name x b) "append" X.env (eval (.Name x b) X.env)=eval (.Name x b) X.env:=by rfl)
  (F:((backTo bh (starEach [.Name y py] X.env)).all (λx=>!x.1)&&(backToKw bh (keywordEach [] X.env)).all (λx=>x.1.isSome)&&decide (([.Name y py]:List Expr).length+([]:List Keyword).length+(if ([]:List Keyword).isEmpty then 0 else 1)<30))=true:=by rfl)
  (I:(apos.endLine==bh.line)=true:=by rfl) (f:starEach [.Name y py] X.env=(false,eval (.Name y py) X.env)::starEach [] X.env:=by rfl) (J:(backTo bh (starEach [] X.env)).any (·.1)=false:=by rfl)
  (L:swapsWith (.Call (.Attribute (.Name x b) "append" apos) [.Name y py] [] bh) none pos.line X.env=pure false:=by rfl):
  DSt Z X md rn (.Expr (.Call (.Attribute (.Name x b) "append" apos) [.Name y py] [] bh) pos) (Ri md i j):=by
 refine(jB (yP UF ab6 ab7 nM (pv i u w z A) (d6 (pv j q r s t) gD f) C F I f J) L).imp ?_;intro D σ H O;rfl';obtain⟨B,Q,E,⟨G,fp,S⟩,⟨R,d,T,U,Y,h⟩,M⟩:=O;ac_rfl;rfl';obtain⟨v,a,dv,e⟩:=S.Ck U;have k:(Q.set j none)[i]?\(some (.lst R)):=by rw[jF (Ne.symm n)];exact T
 obtain⟨l,o,gO,e1,e2,g,m,put⟩:=e.one p k;cases e1;ac_rfl;exact#[_,e2,ty_list g,_,a,l,o,v,rfl,rfl,g,by rw[m.length];exact Y,M.nx _ h _ _ #[_,_,put _ _ (m.snoc dv)]]
end
structure TR (mg:Str->Option Value):Prop where
 len:mg "len"=none
 range:mg "range"=none
 max:mg "max"=none
 min:mg "min"=none
 enumerate:mg "enumerate"=none
 zip:mg "zip"=none
 sorted:mg "sorted"=none
 all:mg "all"=none
 isinstance:mg "isinstance"=none
 int:mg "int"=none
 bool:mg "bool"=none
 list:mg "list"=none
 tuple:mg "tuple"=none
 sum:mg "sum"=none
 reversed:mg "reversed"=none
def wO:bootBuiltins "max"\(.builtin "max"):=by decide+kernel
def sI:bootBuiltins "min"\(.builtin "min"):=by decide+kernel
def C4:bootBuiltins "bool"\(.type "bool"):=by decide+kernel
def Hh:bootBuiltins "int"\(.type "int"):=by decide+kernel
def dX:bootBuiltins "list"\(.type "list"):=by decide+kernel
def z8:bootBuiltins "tuple"\(.type "tuple"):=by decide+kernel
def kz:bootBuiltins "sorted"\(.builtin "sorted"):=by decide+kernel
def aY:bootBuiltins "len"\(.builtin "len"):=by decide+kernel
def Ip:bootBuiltins "range"\(.type "range"):=by decide+kernel
section
variable {P:Program} {w:World} {K:ab} {mg:Str->Option Value} {base:Heap} {Z:DC}
def xb(N:List Str)(a:List D):DN:=a.map some++aj (N.length-a.length) none
def fg(Z:DC)(n:Nat)(g:bZ):Sp:=λh H Q _=>∃(G:Hp)(e:List D)(P:D->Prop),bx G H/\DvAll Z G h e/\g e P/\∀d,P d->∀v f c a,Ext G H c a->Own Z c a n v d f->f.Nodup->(∀b∈f,H b=none/\a b≠none/\c b=none)->Q v a
def Own.pure(x:Ext G H c a)(o:Own Z c a n v d f)(i:∀b∈f,H b=none/\a b≠none/\c b=none):∃h,Ext G H h a/\Dv Z h v d:=by
 refine#[plus c a λb=>b∈f,#[x.gg.trans (fR x.sub),kq x.sub,x.hh,λb g j=>?_],o.dv (fR x.sub) λb g u e=>by rw[mQ g];exact e]
 rw[jf (λz=>g (i b z).1)];exact x.off b g j
def zY:∀a H Q E,aX Z b a H Q E->fg Z n b a H Q E:=by
 intro a H Q E c;rfl';obtain⟨G,g,P,s,dv,h,q⟩:=c;ac_rfl;exact#[G,g,P,s,dv,h,λd i v f t j x o u k=>let #[l,m,p]:=o.pure x k;q d i v l j m p]
theorem jc(l:Nat){x a:Str}{st:Stmt}{f:Addr}{n:FuncData}{N g:List Str}{k:Nat}{m:bZ}(F:zB K x a st f n)(S:aN N g (aw st))(o:List Nat)(r:∀i,i<g.length->o.getD i 0=0)(len:∀c P,m c P->c.length=g.length)
  (u:∀(j:Value)(A:Around)(outer:List Env)(s:Shared)(H:Hp)(E:XK)(c:List D)(R:D->Prop),dq k (A.deeper (envOfC a (aw st) s.heap.objs.size f j))->m c R->
   ∃t,ng Z (vx b9 P w K mg base N a (aw st) f j A outer s H E).mO o l (fG st) t/\t {nx:=λ_=>l=0/\R .bC,rt:=R} (xb N c)):FnOk P w K mg base b9 (k+1) f n g (fg Z l m):=by
 refine F.ok S (λy H Q E h=>?_) (λj A outer s H y Q E B h=>?_)
 .obtain⟨G,c,R,s,dv,h,q⟩:=h
  rw[dv.length];exact len _ _ h
 rfl';obtain⟨G,c,R,I,dv,h,q⟩:=h;have J:=q;obtain⟨t,L,M⟩:=u j A outer s H E c R B h;have hl:=len _ _ h;ac_rfl;refine#[_,L,#[G,H,G],_,_,#[G,λ_=> [],?_],M,#[λρ p aQ O #[T,fp,U]=>q _ p.2 _ [] T O U.ex (by rw[p.1];exact#[.bC,rfl]) iU (λb X=>by cases X),J,λ_ z=>z.elim,λ_ z=>z.elim,λ_ _ z=>z.elim]]
 refine#[.refl I, .refl _,by unfold xb start;simp[dv.length],λi d e=>?_,λ_=>iU,(λ_ _ _ _ z=>by cases z),(λ_ _ z=>by cases z)]
 unfold xb at e
 have zL:i<c.length:=by
  apply FM;intro z;rw[kW (~~~lP z),rF] at e
  split at e<;>cases e
 rw[kX (~~~zL),cG] at e
 have Y:c[i]?\d:=by
  cases z:c[i]? with
  |none=>rw[z] at e;cases e
  |some d'=>rw[z] at e;cases e;rfl
 obtain⟨v,hv,nF⟩:=dv.get Y;refine#[v,?_,by rw[r i ()];exact#[nF,rfl]]
 unfold start;rw[kX (by simpa [dv.length] using zL),cG,hv];rfl
def ba{x c:Str}{st:Stmt}{f:Addr}{m:FuncData}{N e:List Str}{k:Nat}{j:bZ}(F:zB K x c st f m)(S:aN N e (aw st))(l:List Nat)(n:∀i,i<e.length->l.getD i 0=0)(len:∀d P,j d P->d.length=e.length)
  (o:∀(g:Value)(A:Around)(outer:List Env)(s:Shared)(H:Hp)(E:XK)(d:List D)(R:D->Prop),dq k (A.deeper (envOfC c (aw st) s.heap.objs.size f g))->j d R->
   ∃t,ng Z (vx b9 P w K mg base N c (aw st) f g A outer s H E).mO l 0 (fG st) t/\t {nx:=λ_=>0=0/\R .bC,rt:=R} (xb N d)):FnOk P w K mg base b9 (k+1) f m e (aX Z j):=
 (jc 0 F S l n len λg A outer s H E d R p h=>let #[t,a,b]:=o g A outer s H E d R p h;#[t,a,b]).imp zY
end
section
variable {Z:DC} {X:Cx} {a b c e o:Expr} {ta tb te:bz} {t:iW} {es:List Expr} {pos apos:Pos}
def Uw(f:bz):bz:=λg P=>f g λd=>match d with
 | .int i=>P (.int (-i))
 |_=>False
def Hm(g:DE Z X a ta):DE Z X (.UnaryOp .USub a pos) (Uw ta):=by
 refine(SX PV g).imp ?_;intro r H Q i;rfl';obtain⟨G,k,P,s,l,h,q⟩:=i;ac_rfl;refine#[G,k,_,s,l,h,λd f v m n p dv=>?_];cases dv<;>first|exact f.elim|skip
 exact#[_,rfl,q _ f _ m n p (.int _)]
def Q5:bZ:=λd P=>∃i j,d= [.int i, .int j]/\P (.int (if j<i then j else i))
def Q2:bZ:=λd P=>∃i j,d= [.int i, .int j]/\P (.int (if j>i then j else i))
def EY(h:DvAll Z G d [.int i, .int j]):d= [.int i, .int j]:=by
 cases h with
 |cons a f=>
  cases f with
  |cons b bs=>cases bs;cases a;cases b;rfl
def C8(d:X.calm=true):cw X (.builtin "max") (hU Z Q2):=by
 refine(Fj d).imp ?_;intro k H Q f;rfl';obtain⟨G,m,P,s,dv,⟨i,j,rfl,h⟩,q⟩:=f;ac_rfl;exact#[i,j,EY dv,q _ h _ G H (.refl s) (.int _)]
def sM(d:X.calm=true):cw X (.builtin "min") (hU Z Q5):=by
 refine(Fn d).imp ?_;intro k H Q f;rfl';obtain⟨G,m,P,s,dv,⟨i,j,rfl,h⟩,q⟩:=f;ac_rfl;exact#[i,j,EY dv,q _ h _ G H (.refl s) (.int _)]
theorem mG:∀{d:List V}{f:List Int},DvAll Z G d (f.map D.int)->d=f.map V.int
 |d,[],h=>by cases h;rfl
 |d,b::bs,h=>by
  cases h with
  |cons a g=>cases a;rw[mG g];rfl
def pairD(k:Nat×Nat):D:= .tup [.int (k.1:Nat), .int (k.2:Nat)]
theorem Ag:∀{d:List V}{f:List (Nat×Nat)},DvAll Z G d (f.map pairD)->∃L:List (Addr×(Nat×Nat)),d=L.map (λe=>V.ref e.1)/\L.map (·.2)=f/\Fe G L
 |d,[],h=>by cases h;exact#[[],rfl,rfl,λp g=>by cases g]
 |d,n::f,h=>by
  cases h with
  |cons a j=>
   obtain⟨L,k,l,m⟩:=Ag j;unfold pairD at a;cases a with
   | @tup p r x g e=>
    refine#[(p,n)::L,by rw[k];rfl,by rw[<-l];rfl,λq i=>?_]
    rcases bH.mp i with rfl|i
    .have:r=Gv n:=by
      cases e with
      |cons s u=>
       cases u with
       |cons v w=>cases s;cases v;cases w;rfl
     rw[<-this];exact g
    .exact m q i
theorem Fe.dv:∀{L:List (Addr×(Nat×Nat))},Fe G L->DvAll Z G (L.map λe=>V.ref e.1) ((L.map (·.2)).map pairD)
 | [],_=> .nil
 |x::L,h=> .cons (.tup (h x (bP ..)) (.cons (.int _) (.cons (.int _) .nil))) (Fe.dv λp d=>h p (cI _ d))
def NR(g h:bz):bz:=λf P=>g f λd=>∃l,d= .lst l/\h f λy=>dO y=true/\l.all dO=true/\∃(j:Nat)(z:D),l[j]?\z/\iD z y=true/\(∀(m:Nat) z,m<j->l[m]?\z->iD z y=false)/\P (.int (j:Nat))
theorem qF(E:DE Z X o ta)(I:DE Z X e tb)
  (J:attributeBase o "index" X.env (eval o X.env)=eval o X.env:=by rfl)
  (L:((backTo d (starEach [e] X.env)).all (λx=>!x.1)&&(backToKw d (keywordEach [] X.env)).all (λx=>x.1.isSome)&&decide (([e]:List Expr).length+([]:List Keyword).length+(if ([]:List Keyword).isEmpty then 0 else 1)<30))=true:=by rfl)
  (M:(apos.endLine==d.line)=true:=by rfl) (r:starEach [e] X.env=(false,eval e X.env)::starEach [] X.env:=by rfl) (N:(backTo d (starEach [] X.env)).any (·.1)=false:=by rfl):
  DE Z X (.Call (.Attribute o "index" apos) [e] [] d) (NR ta tb):=by
 refine(yP UF PySem.F.slot_list_index PySem.F.type_list_index Js E (d6 I gD r) J L M r N).imp ?_;intro σ H Q O;rfl';obtain⟨G,A,P,s,B,h,q⟩:=O;ac_rfl;exists G,A,_,s,B,h;rintro _ ⟨l,rfl,S⟩ v T H1 f dv;cases dv with
 | @lst p U ds C e=>
  refine#[ty_list (f.sub _ _ C),T,A,_,f.sub,B.mono f.gg,S,λy Y u a b i k=>?_];rfl';obtain⟨c,t,j,z,h3,h4,h5,h6⟩:=Y;have n:=e.mono i.gg;obtain⟨w,hw,dw⟩:=n.get h3;ac_rfl;refine#[p,U,u,j,w,rfl,rfl,i.hh _ _ (f.sub _ _ C),by rw[sT k];exact c,by rw[pG n];exact t,hw,by rw[Bp dw k];exact h4,λm z' hm hz=>?_,q _ h6 _ a b (f.trans i) (.int _)]
  obtain⟨d',jM,nF⟩:=n.Hy hz;rw[Bp nF k];exact h5 m d' hm jM
end
structure Hf (Z:DC):Prop where
 cl:xg Z.K Z.C
 nR:nh Z.K Z.C "rows"
section
variable {Z:DC} {X:Cx} {a b c e o:Expr} {ta tb te:bz} {t:iW} {es:List Expr} {pos apos:Pos}
def Rx(f:bz):bz:=λg P=>f g λd=>∃w,d= .fM w/\P (aL w)
def sR(T:Hf Z)(i:DE Z X o ta)(d:X.K=Z.K:=by rfl)(j:attributeBase o "rows" X.env (eval o X.env)=eval o X.env:=by rfl):DE Z X (.Attribute o "rows" apos) (Rx ta):=by
 refine(O0 i j).imp ?_;intro B H Q k;rfl';obtain⟨G,m,P,s,n,h,q⟩:=k;ac_rfl;exists G,m,_,s,n,h;rintro _ ⟨w,rfl,r⟩ v u x f dv;cases dv with
 | @fM p y R w z A g F I=>exact#[p,Z.C,y,_, .ref R,rfl,f.sub _ _ z,by rw[d];exact T.cl,by rw[d];exact T.nR,rfl,q _ r _ u x f A]
def Ft(g:bZ)(h:bz)(t:iW):bz:=λf P=>h f λd=>∃w,d= .fM w/\t f λi=>g (.fM w::i) P
def AF(u:([("rows",V.ref 0)]:List (Str×V)).lookup m=none):∀j H Q,fc Z (Ft i ta t) j H Q->GP Z.C m (aX Z i) [] E0 (fc Z ta) (F7 Z t) j H Q:=by
 intro j H Q x;rfl';obtain⟨G,n,P,s,r,h,q⟩:=x;ac_rfl;exists G,n,_,s,r,h;rintro _ ⟨w,rfl,k⟩ v A b f dv;have B:=dv;cases dv with
 | @fM p E R w F c g e o=>
  refine#[p,E,_,rfl,f.sub _ _ F,?_,A,n,_,f.sub,r.mono f.gg,k,λX I J L M l N=>?_]
  .have O:(m==("rows":Str))=false:=by
    cases z:(m==("rows":Str)) with
    |false=>rfl
    |true=>simp[bj,z] at u
   simp[bj,O]
  .show aX Z i (V.ref p::(J++ [])) M Q E0
   rw[jH];exact#[L,_,P,l.sub, .cons (B.mono l.gg) N,I,λd k v S T U Y=>q d k v S T ((f.trans l).trans U) Y]
variable {sd:bZ} {k:Nat} {f:Addr} {fd:FuncData} {ps:List Str} {m:Str}
def Dq(T:Hf Z)(h:DE Z X o ta)(i:Meth Z.K Z.C m f)(F:FnOk X.prog X.w X.K X.mg X.base b9 k f fd ps (aX Z sd))(j:dq k X.A)(l:Binds X.K fd ps [])(n:DA Z X (e::es) t)(d:X.K=Z.K:=by rfl)
  (p:([("rows",V.ref 0)]:List (Str×V)).lookup m=none:=by decide) (q:starEach (e::es) X.env=(false,eval e X.env)::starEach es X.env:=by rfl) (r:(backTo pos (starEach es X.env)).any (·.1)=false:=by rfl)
  (s:eval (.Call (.Attribute o m apos) (e::es) [] pos) X.env=(do
   let g <-eval o X.env
   standAt apos.atName
   let (f,first) <-holding [g] (getMethod g m pl)
   callWith pos f first (backTo pos (starEach (e::es) X.env)) (backToKw pos (keywordEach [] X.env))):=by rfl):DE Z X (.Call (.Attribute o m apos) (e::es) [] pos) (Ft sd ta t):=
 (Mu (pl:=pl) h (by rw[d];exact T.cl) (by rw[d];exact i) F j l .nil uR n q r s).imp (AF p)
def h7(T:Hf Z)(l:DE Z X o ta)(n:Meth Z.K Z.C m f)(F:FnOk X.prog X.w X.K X.mg X.base b9 k f fd ps (aX Z sd))(r:dq k X.A)(u:Binds X.K fd ps [])(i:X.K=Z.K:=by rfl)
  (x:([("rows",V.ref 0)]:List (Str×V)).lookup m=none:=by decide)
  (y:eval (.Call (.Attribute o m apos) [] [] pos) X.env=(do
   let j <-eval o X.env
   standAt apos.atName
   let (f,first) <-holding [j] (getMethod j m pl)
   callWith pos f first (backTo pos (starEach [] X.env)) (backToKw pos (keywordEach [] X.env))):=by rfl):DE Z X (.Call (.Attribute o m apos) [] [] pos) (Ft sd ta lu):=
 (JC (pl:=pl) l (by rw[i];exact T.cl) (by rw[i];exact n) F r u .nil uR y).imp λz H Q h=>by
  rfl';obtain⟨G,E,P,s,I,h,q⟩:=AF x z H Q h;ac_rfl;refine#[G,E,P,s,I,h,λd J v L M N dv=>?_];rfl';obtain⟨p,O,fs,R,S,U,Y,t,P',a,b,c,e⟩:=q d J v L M N dv;ac_rfl;exact#[p,O,fs,R,S,U,e _ c _ Y _ (.refl a) .nil]
def EO(Z:DC):Sp:=λi H Q _=>∃(p h:Addr)(v:V)(G:Hp)(w:List (List Nat)),i= [.ref p,v]/\H p\(.ins Z.C h [])/\bx G H/\G p=none/\Dv Z G v (aL w)/\Wb.Good w/\1<=w.length/\w.length<=14/\
 ∀(R:Addr)(d g:Hp),bx G d->bx d g->(∀b o,H b\o->b≠p->g b\o)->(∀b,H b≠none->G b=none->d b=none)->g p\(.ins Z.C h [("rows", .ref R)])->Dv Z d (.ref R) (aL w)->Q .bC g
def Rq(t:iW):bz:=λd P=>t d λg=>∃w,g= [aL w]/\Wb.Good w/\1<=w.length/\w.length<=14/\P (.fM w)
theorem KW(M:Mk Z.K Z.C f)(F:FnOk X.prog X.w X.K X.mg X.base b9 k f fd ps (EO Z))(N:dq (k+1) X.A)(n:Gl X x)(O:X.mg x\(.ref Z.C))(j:Binds X.K fd ps [])
  (S:DA Z X (e::es) t) (T:X.K=Z.K:=by rfl) (U:(x==("__debug__":Str))=false:=by decide) (Y:starEach (e::es) X.env=(false,eval e X.env)::starEach es X.env:=by rfl) (a:(backTo pos (starEach es X.env)).any (·.1)=false:=by rfl):
  DE Z X (.Call (.Name x p) (e::es) [] pos) (Rq t):=by
 refine(Mt (by rw[T];exact M) F N n O j .nil uR S U Y a).imp ?_
 intro σ H Q c;rfl';obtain⟨G,ρ,P,s,en,h,q⟩:=c;ac_rfl;exists G,ρ,_,s,en,h;rintro _ ⟨w,rfl,g,y,B,hp⟩ vs G1 H1 d r p l i Vf ne;cases r with
 | @cons v _ _ _ dv r=>
  cases r;have zO:upd H1 l (.own p) p=none:=by rw[bf (Ne.symm ne)];exact i
  have u:=(bq Vf (.own p)).trans (bq zO (.ins Z.C l []));refine#[p,l,v,G1,w,rfl,aK,d.sub.trans u,d.sub.free i,dv,g,y,B,λR E H2 g1 g2 kp off Ol Bm=>#[rfl,?_]];have I:E p=none:=off p (by rw[aK];exact λz=>nomatch z) (d.sub.free i)
  refine q _ hp _ (upd E p (.ins Z.C l [("rows", .ref R)])) H2 #[(d.gg.trans g1).trans (bq I _),λb o e=>?_,λb o e=>?_,λb j n=>?_] (.fM aK (Bm.mono (bq I _)) g y B)
  .by_cases z:b=p
   .subst z;rw[aK] at e;cases e;exact Ol
   .rw[bf z] at e;exact g2 _ _ e
  .have J:=d.hh _ _ e
   exact kp b o (u _ _ J) (bN J i)
  .have L:=jD d.hh j
   have nb:b≠p:=λz=>L (by rw[z];exact i)
   rw[bf nb];exact off b (jD u L) (d.off b j n)
end
section
variable {Z:DC} {X:Cx} {pos:Pos}
variable {tg iter elt:Expr} {scope:Scope} {NC:List Str} {src:List (Option Nat)} {wi:kv} {g:fE} {tf:jJ} {md:List Nat} {rn:Nat}
end
abbrev km:=inClass
structure Bb (Z:DC) (m qual:Str) (st:Stmt) (ps:List Str) where
 f:Addr
 fd:FuncData
 F:zB Z.K m qual st f fd
 b:Binds Z.K fd ps []
 m:Meth Z.K Z.C m f
def t7(K:ab):Sp:=λc H Q _=>∃(a:Addr)(b:List Int),c= [.ref a]/\cJ K H a (b.map V.int)/\b.length<=63/\∀d,Q (.bl true) d
def Cw:bZ:=λb P=>∃a:List Int,b= [.gN a]/\a.length<=63/\P (.bl true)
def OB{Z:DC}:∀b H Q E,t7 Z.K b H Q E->aX Z Cw b H Q E:=by
 rintro b H Q E ⟨a,c,rfl,f,e,q⟩;exact#[H,[.gN c],λd=>d= .bl true, .refl _, .cons (.gN f e) .nil,#[c,rfl,e,rfl],λd g v i h x dv=>by subst g;cases dv;exact q h]
def TJ(k:Nat){l:b5}{q:Program}{e:List Str}{o:(Str->Option Value)->Heap->Prop}{m:World->Heap->Prop}{d:DefRec}{K:Params->ab}(H:3*k<150)(p:l.most\63)(r:d.params.defaults= [])
  (t:∀(w:World)(h:Heap),m w h->(K w.params).In h)
  (F:∀(w:World)(g:Str->Option Value)(i:Addr)(h:Heap),(K w.params).In h->h.Ns mainGlobals g->g d.name\(.ref i)->
   ∃j:FuncData,(∀(s:Shared)(u:Value),BindsTo s j #[[u],[]] [("_law_script",u)])/\∀base:Heap,(K w.params).In base->base.Ns mainGlobals g->FnOk l.prog w (K w.params) g base b9 k i j ["_law_script"] (t7 (K w.params))):
  dg q e o m l.row.toRowW d [] (λf v=>cy f v):=
 L2.Nw (n:=63) (k:=50) (x:="_law_script") (CX:=λ_=>b9) (sp:=λw=>t7 (K w.params)) p ∅ r #[rfl,∅,∅] t (λw g i h a b c=>by
  obtain⟨j,A,B⟩:=F w g i h a b c;exact#[j,A,λbase x y=>(B base x y).mono ()]) (λ_ _ a C E _ G=>#[a,C,rfl,G,E,λ_=>rfl]) λ_ _ _ _ _ z=>z
def bw{c:Bool}{A B:Prop}(a:c=true->A)(b:c=false->B):if c=true then A else B:=by
 cases c with
 |true=>exact c9 (a rfl)
 |false=>exact bK (b rfl)
theorem iH{ρ:DN}(c:j->D)(p:j->Bool)(f:j->D):∀(e:List j)(d:DN)(a:List D)(N:DN->List D->Prop),(∀y∈e,∀(Y:D->Prop)(r:Prop),(p y=true->Y (f y))->(p y=false->r)->k (ρ.set i (some (c y))) λb=>if b=true then q (ρ.set i (some (c y))) Y else r)->
  (∃o,d=ρ.set i o)->a.length+e.length<=sizeLine->(∀d,N d (a++(e.filter p).map f))->lcW (wR i) k q (e.map c) d a N
 | [],d,a,N,_,_,_,h=>by
  show N d a;simpa using h d
 |y::e,d,a,N,l,#[o,s],g,h=>by
  show k (d.set i (some (c y))) _;rw[s,acI];rw[cv] at g;refine l y (bP ..) _ _ (λm=>#[(),?_]) (λm=>?_)
  .refine iH c p f e _ (a++ [f y]) N (λz g=>l z (cI _ g)) #[_,rfl] (by simp;lia) λn=>?_
   have:=h n
   rw[vd,m] at this;simpa using this
  .refine iH c p f e _ a N (λz g=>l z (cI _ g)) #[_,rfl] () λn=>?_
   have:=h n
   rw[vd,m] at this;simpa using this
def gz{ρ:DN}(a:c->D)(f:c->D)(b:List c)(N:DN->List D->Prop)(j:∀y∈b,∀(Y:D->Prop),Y (f y)->g (ρ.set i (some (a y))) Y)(k:ρ[i]?\none)(l:b.length<=sizeLine)(h:∀d,N d (b.map f)):lcW (wR i) xH g (b.map a) ρ [] N:=by
 refine iH (ρ:=ρ) a (λ_=>true) f b ρ [] N (λy m Y o n _=>?_) #[none,?_] (~~~l) λd=>by rw[List.filter_eq_self.mpr (λ_ _=>rfl),oK];exact h d
 .unfold xH
  dsimp only;rw[ir rfl];exact j y m Y (n rfl)
 .obtain⟨p,e⟩:=eC.mp k
  rw[<-e,abj]
theorem Ar(I:Nat->DN->Prop):∀(b:List D)(k:Nat)(a:DN),I k a->(∀(j:Nat)(d:D)(a:DN),b[j]?\d->I (k+j) a->∀A:DN->Prop,(∀a,I (k+j+1) a->A a)->g d a λn=>m {nx:=A,ct:=A,bk:=E.nx,rt:=E.rt,xc:=E.xc} n)->
  (∀a,I (k+b.length) a->E.nx a)->lE g m E b a
 | [],k,a,c,e,f=>f a c
 |d::b,k,a,c,e,f=>by
  refine e 0 d a rfl c _ λo p=>?_
  exact Ar I b (k+1) o p (λj q h r i A s=>by
   refine e (j+1) q h (~~~r) (by rw[show k+(j+1)=k+1+j by lia];exact i) A λl t=>s l ?_
   rw[show k+1+j+1=k+(j+1)+1 by lia];exact t) (λh i=>f h (by rw[cv,show k+(b.length+1)=k+1+b.length by lia];exact i))
def bU(I:Nat->DN->Prop)(e:I 0 a)(f:∀(j:Nat)(d:D)(a:DN),b[j]?\d->I j a->∀A:DN->Prop,(∀a,I (j+1) a->A a)->g d a λi=>c {nx:=A,ct:=A,bk:=E.nx,rt:=E.rt,xc:=E.xc} i)
  (k:∀a,I b.length a->E.nx a):lE g c E b a:=Ar I b 0 a e (λj d a l h A m=>f j d a l (~~~h) A λn o=>m n (~~~o)) (λa h=>k a (~~~h))
def Lo{g:fE}{c:cz}{E:eO}{lo:Int}{n:Nat}{a:DN}(I:Nat->DN->Prop)(f:I 0 a)(i:∀(j:Nat)(a:DN),j<n->I j a->∀A:DN->Prop,(∀a,I (j+1) a->A a)->g (.int (lo+j)) a λk=>c {nx:=A,ct:=A,bk:=E.nx,rt:=E.rt,xc:=E.xc} k)
  (m:∀a,I n a->E.nx a):lE g c E (e8 lo n) a:=by
 have l:(e8 lo n).length=n:=by unfold e8;simp
 refine bU I f (λj d a b h A o=>?_) (λa h=>m a (by rw[l] at h;exact h))
 have e:j<n:=by
  have:=(eC.mp b).1
  rw[l] at this;exact this
 rw[vQ e] at b;cases Do b;exact i j a e h A o
def kU(I:Nat->DN->Prop)(g:Nat)(h:I g a)(i:∀m a,I m a->c a λb=>if b=true then f {nx:=λe=>∃d,d<m/\I d e,ct:=λe=>∃d,d<m/\I d e,bk:=E.nx,rt:=E.rt,xc:=E.xc} a else E.nx a):Hl c f E a:=#[I,#[g,h],i]
def TZ(K:ab)(a:Addr)(n:Nat):It:=
 #[λi H=>i<n/\∃b,cJ K H a b/\b.length=n,λi H x c=>c=H/\∀b,cJ K H a b->b[n-1-i]?\x,λi H=>n<=i]
theorem J8{P:Program}{w:World}{K:ab}{U:Expr}(a g:Addr)(n:Nat):Turn P w K U (TZ K a n) [g] g (λi h=>i<=n/\h.IsRevIter g a ((n:Int)-1-(i:Int))) where
 mem:=by simp
 obj:=λi h st b j=>by
  have e:b=g:=by simpa using j
  subst e;obtain⟨_,o,e,c,d⟩:=st;exact#[o,e,λv z=>by rw[d] at z;cases z]
 keep:=λi h l st k=>#[st.1,st.2.at λo e=>k g (by simp) o e]
 item:=by
  intro X r hw t L i f s M H E I m st q;rfl';subst r hw t;obtain⟨N,O,Q,hl⟩:=q;obtain⟨Z,R,p,hz⟩:=I.list Q;have S:=R.length;have T:O[n-1-i]?\(O[n-1-i]'()):=cM ()
  obtain⟨u,hu,ru⟩:=R.get T;obtain⟨A,B,f2,C,F,G⟩:=m g (by simp)
  have e:(n:Int)-1-(i:Int)=((n-1-i:Nat):Int):=()
  obtain⟨_,st⟩:=st;rw[e] at st;ac_rfl;refine wpAny_pyNext_rev_item st p.isList (x:=u) (~~~hu) λl J sb=>?_
  have I1:Inv X f M H {s with heap:=l}:=I.turned (t':=s.toks) (λb o j e=>(sb.2 b j).trans e) A B C F G
  have e2:((n-1-i:Nat):Int)-1=(n:Int)-1-((i+1:Nat):Int):=()
  rw[e2] at J;obtain⟨o,e,c,d⟩:=id J;exact#[u,rfl,FE (s:={s with heap:=l}) e c d ∅ #[_,H,I1,ru,#[rfl,λys hy=>by rw[I.uJ hy Q];exact T],#[N,J],λb j=>(m b j).1]]
 done:=by
  intro X r hw t L i f s M H E I m st q;rfl';subst r hw t;obtain⟨N,st⟩:=st;have q:n<=i:=q;have e:(n:Int)-1-(i:Int)= -1:=()
  rw[e] at st;obtain⟨A,B,f2,C,F,G⟩:=m g (by simp)
  ac_rfl;exact wpAny_pyNext_rev_end (I.ok.hd L) st λl eb=>#[rfl,I.turned (t':=s.toks) (λb o j e=>eb b o j e) A B C F G]
 self:=λ_ _ _ _ _ st h=>wpAny_pyIter_revIter st.2 h
def Bf:bootBuiltins "reversed"\(.type "reversed"):=by decide+kernel
section
variable {Z:DC} {X:Cx} {a b c e:Expr} {ta tb te:bz} {t:iW} {pos:Pos}
def VP(K:ab)(g:TA):TI:=λh H R=>g h H λi d=>∃a f,i= [.ref a]/\cJ K d a f/\R (TZ K a f.length) d
def O7(v:Gl X "reversed")(w:X.mg "reversed"=none)(x:PA X [a] m)(y:starEach [a] X.env= [(false,eval a X.env)]:=by rfl):
  PI X r (.Call (.Name "reversed" p) [a] [] pos) (VP X.K m):=by
 intro f s z H R I h;refine Call_ (lH I v w Bf (aat (thn (x pos f s z H _ I h) λM d #[N,A,j,B,C]=>?_) y rfl));rfl';obtain⟨l,n,e,F,q⟩:=C;subst e;obtain⟨u,rfl,G⟩:=B.one;subst G;obtain⟨k,J,p,P⟩:=j.list F;have g:=J.length;ac_rfl;refine call_reversed_list p.isList ?_;have i:(d.heap.push (revObj l ((k.toArray.size:Int)-1))).IsRevIter d.heap.objs.size l ((n.length:Int)-1-((0:Nat):Int)):=#[_,Gc _ rfl,rfl,by simp[revObj,g]]
 refine wpAny_pyIter_revIter i ?_;refine#[d.heap.objs.size,[d.heap.objs.size],_,_,A,rfl,j.kept (t':=d.toks) λb o e=>AC _ e,J8 l _ n.length,#[fk _,i],λb L=>?_,q];have e:b=d.heap.objs.size:=by simpa using L
 subst e;exact j.Hx (bo _) (j.hok.fresh (bo _))
def RC(t:iW):kv:=λd P=>t d λf=>match f with
 | [.lst l]=>P l.reverse
 |_=>False
def NX(v:Gl X "reversed")(w:X.mg "reversed"=none)(f:DA Z X [a] t)(y:starEach [a] X.env= [(false,eval a X.env)]:=by rfl):DI Z X u (.Call (.Name "reversed" p) [a] [] pos) (RC t):=by
 refine(O7 v w f y).imp ?_;rintro N H Q ⟨G,z,P,s,A,h,q⟩;refine#[G,z,_,s,A,h,λB g O C E m dv=>?_];cases dv with
 |nil=>exact g.elim
 |cons a F=>
  cases F with
  |cons _ _=>cases a<;>exact g.elim
  |nil=>
   cases a<;>first|exact g.elim|skip
   rename_i p j B f e
   refine#[_,j,rfl,cJ.of (m.sub _ _ f),q _ g _ C E m ?_];intro I R n o i;have r:=cJ.of (K:=X.K) (o _ _ (n _ _ f));have l:=e.length;rw[List.length_reverse];refine#[λk=>#[(),j,r,rfl],λk=>(show j.length<=i by lia),?_]
   rintro x S k ⟨rfl,J⟩;obtain⟨d,L,M⟩:=e.Hy (J _ r);refine#[I,d, .refl o,?_,M.mono n];rw[List.getElem?_reverse k,<-l];exact L
variable {md:List Nat} {rn:Nat} {k:Expr} {tk:bz}
variable {apos bh:Pos}
variable {es:List Expr}
def Lg(g:bZ)(t:iW):jJ:=λh P=>t h λi=>g i λd=>∃f,d= .lst f/\P f
def KZ{k:Nat}(F:FnOk X.prog X.w X.K X.mg X.base b9 k f m r (fg Z n g))(y:dq k X.A)(z:Gl X x)(B:X.mg x\(.ref f))(C:am X.K (.ref f)=true)(d:Binds X.K m r [])
  (E:DA Z X (e::es) t) (I:(x==("__debug__":Str))=false:=by decide) (J:starEach (e::es) X.env=(false,eval e X.env)::starEach es X.env:=by rfl) (L:(backTo pos (starEach es X.env)).any (·.1)=false:=by rfl):
  DF Z X n (.Call (.Name x p) (e::es) [] pos) (Lg g t):=by
 refine(yQ F y z B C d .nil uR E I J L).imp ?_;intro σ H Q M;rfl';obtain⟨G,O,P,s,R,h,q⟩:=M;ac_rfl;refine#[G,O,_,s,R,h,λS T U Y a j c=>?_];show fg Z n g (U++ []) a Q E0;rw[jH];exists Y,S,_,j.sub,c,T;intro _ l v f G2 H2 x2 o nd u;rfl';obtain⟨gO,rfl,hp⟩:=l;ac_rfl;exact q _ hp v f G2 H2 (j.trans x2) o nd λb d=>#[j.hh.free (u b d).1,(u b d).2]
end
section
variable {X:Cx} {elt t0 i0 t1 i1:Expr} {f0 f1:List Expr} {scope:Scope} {pos:Pos} {wi gF:TI} {g g1:TG} {tt d9:TT} {te:TE} {src:List (Option Nat)} {NC:List Str}
end
section
variable {Z:DC} {X:Cx} {md:List Nat} {rn:Nat} {elt t0 i0 t1 i1:Expr} {f0 f1:List Expr} {scope:Scope} {pos:Pos} {wi gF:kv} {g g1:fE} {tt d9:dM} {te:bz} {src:List (Option Nat)} {NC:List Str}
end
section
variable {Z:DC} {X:Cx} {md:List Nat} {rn:Nat} {e:Expr} {pos:Pos}
def KL(i:Nat)(t:jJ):cz:=λE a=>t a λb=>b.all dO=true/\E.nx (a.set i (some (.lst b)))
theorem DvAll.flat:∀{c:List V}{b:List D},DvAll Z G c b->b.all dO=true->DvAll Z d c b
 |_,_, .nil,_=> .nil
 |_,_, .cons a f,h=>by
  rw[vf,wc] at h;exact .cons (a.flat h.1) (f.flat h.2)
def Dr(i:Nat)(n:X.N.Nodup)(p:DF Z X 1 e t)(q:r.getD i 0=1:=by rfl)(s:X.N[i]?\x:=by rfl)(u:Loc X.env.scope x:=by subst_eqs)(w:swapsWith e (some (.Name x c)) d.line X.env=pure false:=by rfl)
  (y:X.fn x=true\/X.env.scope.names.lookup x\.local:=by subst_eqs):DSt Z X r Y (.Assign [.Name x c] e d) (KL i t):=by
 refine(gZ n s u p w y).imp ?_;intro D σ H z;rfl';obtain⟨B,C,E,⟨G,fp,S⟩,h,M⟩:=z;ac_rfl;exists H,C,_, .refl _,S.vE,h;rintro F ⟨I,J⟩ v f G' H' x o nd l;have L:=Ext.all S.ex.sub x;have O:=S.grow L;obtain⟨a,P,gO,gR,rfl,Q,R,m,T⟩:=o.lst;cases Q;obtain⟨dv,rfl⟩:=T.flat;have g:H a=none:=(l a (by rw[m];simp)).1
 refine M.nx _ J _ _ #[G,_,O.t5 (f:= [a]) q (.inl #[a,P,F,[],rfl,rfl,R,rfl,(dv.flat I).own]) (by simp) (λb k=>?_) λb k j _ U=>?_]
 .have:b=a:=by simpa using k
  subst this;exact#[S.ex.hh.free g,(l b (by rw[m];simp)).2.1,S.ex.sub.free g]
 .have:b=a:=by simpa using k
  subst this;exact(S.nw j b U).2.1 g
end
def nG{l:List D}{j:Nat}{d:D}(h:(iC l)[j]?\d):∃x,l[j]?\x/\d= .tup [.int (j:Int),x]:=by
 unfold iC at h;rw[List.getElem?_mapIdx] at h;cases e:l[j]? with
 |none=>rw[e] at h;cases h
 |some x=>rw[e] at h;cases h;exact#[x,rfl,rfl]
def xM(l:List D):(iC l).length=l.length:=by unfold iC;simp
def cg{a b:Type}{f:a->b}{l:List a}{j:Nat}{y:b}(h:(l.map f)[j]?\y):∃x,l[j]?\x/\y=f x:=by
 rw[cG] at h;cases e:l[j]? with
 |none=>rw[e] at h;cases h
 |some x=>rw[e] at h;cases h;exact#[x,rfl,rfl]
def cY(r:List Nat):(r.map ao).all dO=true:=by simp[ao,dO]
def jz{r:List Nat}{p:Nat}:inD (ao p) (r.map ao)=decide (p∈r):=by
 unfold inD;rw[List.any_map]
 have:((λy=>iD y (ao p))∘ao)=λq:Nat=>decide (q=p):=by
  funext q
  simp[ao,iD,Function.comp]
  by_cases z:q=p
  .simp[z]
  .have:¬(q:Int)=(p:Int):=()
   simp[z,this]
 rw[this]
 by_cases h:p∈r
 .rw[GT h,List.any_eq_true];exact#[p,h,by simp]
 .rw[GE h]
  apply rK.mpr;intro z;rw[List.any_eq_true] at z;obtain⟨q,a,e⟩:=z
  exact h (by have:q=p:=by simpa using e
              rw[<-this];exact a)
def gr{p:Nat}(h:l[p]?\d):eG l (p:Int)\d:=pz h
def zo(h:p<w.length):(w.map az)[p]?\(az (Wb.row w p)):=by
 rw[cG,Wb.EH h];rfl
section
variable {Z:DC} {X:Cx} {md:List Nat} {rn:Nat} {e:Expr} {te:bz} {pos:Pos}
def Rk(b:bz):cz:=λE a=>b a λ_=>E.nx a
def K8(a:DE Z X e te)(b:swapsWith e none pos.line X.env=pure false:=by rfl):DSt Z X md rn (.Expr e pos) (Rk te):=by
 refine(jB a b).imp ?_;intro D k H c;rfl';obtain⟨B,g,E,⟨G,i,S⟩,h,M⟩:=c;ac_rfl;exact#[H,g,_, .refl _,S.vE,h,λd j v m n x dv=>M.nx _ j _ _ #[G,i,S.grow (Ext.all S.ex.sub x)]]
end
def QV(h:A):xH a (λb=>if b=true then A else B):=by
 unfold xH;dsimp only;rw[ir rfl];exact h
def mL{c:Bool}{A B:Prop}(e:c=false)(h:B):if c=true then A else B:=by rw[mo (by rw[e];exact dA)];exact h
theorem qJ(I:DN->Prop)(e:n->D)(p:n->Bool)(f:n->D):∀(j:List n)(i:DN)(a:List D)(N:DN->List D->Prop),(∀y∈j,∀i,I i->∀(Y:DN->D->Prop)(v:DN->Prop),(∀c,I c->p y=true->Y c (f y))->(∀c,I c->p y=false->v c)->g (e y) i λc=>l c λb=>if b=true then m c (Y c) else v c)->
  I i->a.length+j.length<=sizeLine->(∀i,I i->N i (a++(j.filter p).map f))->lcW g l m (j.map e) i a N
 | [],i,a,N,_,o,_,h=>by
  show N i a;simpa using h i o
 |y::j,i,a,N,q,o,k,h=>by
  rw[cv] at k;refine q y (bP ..) i o (λc d=>a.length<sizeLine/\lcW g l m (j.map e) c (a++ [d]) N) (λc=>lcW g l m (j.map e) c a N) (λc r s=>#[(),?_]) (λc r s=>?_)
  .refine qJ I e p f j _ (a++ [f y]) N (λz k=>q z (cI _ k)) r (by simp;lia) λt u=>?_
   have:=h t u
   rw[vd,s] at this;simpa using this
  .refine qJ I e p f j _ a N (λz k=>q z (cI _ k)) r () λt u=>?_
   have:=h t u
   rw[vd,s] at this;simpa using this
def Qy(h:b.length=1):∃d,b= [d]:=by
 cases b with
 |nil=>cases h
 |cons a l=>
  cases l with
  |nil=>exact#[a,rfl]
  |cons _ _=>cases h
def Qz(h:b.length=2):∃e c,b= [e,c]:=by
 cases b with
 |nil=>cases h
 |cons a l=>
  obtain⟨c,rfl⟩:=Qy (ab8 h);exact#[a,c,rfl]
def QA(h:b.length=3):∃f c d,b= [f,c,d]:=by
 cases b with
 |nil=>cases h
 |cons a l=>
  obtain⟨c,d,rfl⟩:=Qz (ab8 h);exact#[a,c,d,rfl]
def QB(h:b.length=4):∃g c d e,b= [g,c,d,e]:=by
 cases b with
 |nil=>cases h
 |cons a l=>
  obtain⟨c,d,e,rfl⟩:=QA (ab8 h);exact#[a,c,d,e,rfl]
def V3(h:b.length=5):∃i c d e f,b= [i,c,d,e,f]:=by
 cases b with
 |nil=>cases h
 |cons a l=>
  rfl';obtain⟨c,d,e,f,rfl⟩:=QB (ab8 h);ac_rfl;exact#[a,c,d,e,f,rfl]
section
variable {Z:DC} {X:Cx} {e:Expr} {es:List Expr} {t:iW} {pos:Pos}
def aD{a:bZ}{k j:Nat}{x:Str}{st:Stmt}{c:List Str}{p:Pos}(d:dE X.K X.mg x st c)(F:FnOk X.prog X.w X.K X.mg X.base b9 k d.f d.fd c (aX Z a))(g:dq j X.A)(h:DA Z X (e::es) t)(i:Gl X x:=by rfl)(l:k<=j:=by first|decide|lia)
  (n:(x==("__debug__":Str))=false:=by decide) (o:starEach (e::es) X.env=(false,eval e X.env)::starEach es X.env:=by rfl) (q:(backTo pos (starEach es X.env)).any (·.1)=false:=by rfl):
  DE Z X (.Call (.Name x p) (e::es) [] pos) (xG a t):=KU F (g.mono l) i d.m d.F.kp d.b h n o q
def Ab{n:Nat}{a:bZ}{k j:Nat}{x:Str}{st:Stmt}{c:List Str}{p:Pos}(d:dE X.K X.mg x st c)(F:FnOk X.prog X.w X.K X.mg X.base b9 k d.f d.fd c (fg Z n a))(g:dq j X.A)(h:DA Z X (e::es) t)(i:Gl X x:=by rfl)(l:k<=j:=by first|decide|lia)
  (o:(x==("__debug__":Str))=false:=by decide) (q:starEach (e::es) X.env=(false,eval e X.env)::starEach es X.env:=by rfl) (r:(backTo pos (starEach es X.env)).any (·.1)=false:=by rfl):
  DF Z X n (.Call (.Name x p) (e::es) [] pos) (Lg a t):=KZ F (g.mono l) i d.m d.F.kp d.b h o q r
def kA(f:Scope)(e:X.env.scope=f:=by rfl)(k:d.kind= .function:=by rfl)(a:∀x∈d.names,x.2= .local->d.names.lookup x.1\.local:=by decide+kernel)(b:∀x∈d.names,x.2≠ .cell:=by decide+kernel)
  (c:∀x∈d.names,x.2= .free->f.names.lookup x.1\.cell\/f.names.lookup x.1\.free:=by decide+kernel):cS X d:=cS.of f e k a b c
end
section
variable {K:ab} {h:Heap} {mg:Str->Option Value}
abbrev NK(K:ab)(x:Str)(d:Addr):Prop:=b4 K mainGlobals x\(some (.ref d))
abbrev CV(K:ab)(x a:Str)(st:Stmt)(d:Addr)(b c:Option Addr)(e:Array (Option Value))(f kV g i j k:Value):Prop:=K.lookup d\#[f,b, .func (bd x a (iA st) (fG st) (aw st) .none kV g i c j k),e]
def dE.of{x:Str}{st:Stmt}{e:List Str}{d:Addr}{o f:Option Addr}{p:Array (Option Value)}{q kV r g n i:Value}(X:K.In h)(G:h.Ns mainGlobals mg)(a:NK K x d)(l:CV K x x st d o f p q kV r g n i)(c:bc K n x=true)(k:am K (.ref d)=true)
  (b:∀(kV j g:Value)(f:Option Addr)(s i:Value)(m:List Value),m.length=e.length->bindArgs (bd x x (iA st) (fG st) (aw st) .none kV j g f s i) #[m,[]]=pure (e.zip m)):dE K mg x st e:=
 #[d,_,sV l c k,(sV l c k).binds b,abe X G a]
def Bb.of{Z:DC}{m e:Str}{st:Stmt}{g:List Str}{d:Addr}{r i:Option Addr}{s:Array (Option Value)}{t kV u j q n:Value}(a:ar Z.K (.ref Z.C) m\(some (.ref d)))(f:bv Z.K (.ref d)=true)(l:CV Z.K m e st d r i s t kV u j q n)(c:bc Z.K q e=true)(k:am Z.K (.ref d)=true)
  (b:∀(kV o j:Value)(i:Option Addr)(v n:Value)(p:List Value),p.length=g.length->bindArgs (bd m e (iA st) (fG st) (aw st) .none kV o j i v n) #[p,[]]=pure (g.zip p)):Bb Z m e st g:=
 #[d,_,sV l c k,(sV l c k).binds b,#[a,f,k]]
end
end L2
namespace Wb
def j7(w:W):Nat:=(w.map bV).sum
def uy(w:W):j7 w=((ac w.length).map λp=>(row w p).length).sum:=by
 unfold j7
 congr 1
 refine List.ext_getElem (by simp) λi b c=>?_
 rw[List.getElem_map,List.getElem_map,List.getElem_range];have a:i<w.length:=by simpa using b
 have:=EH a
 rw[cM a] at this;rw[Do this]
def fZ(w:W):(br w).length=j7 w:=by
 rw[uy];unfold br;rw[List.length_flatMap]
 congr 1
 apply v9;intro p _;rw[aI]
def cB{w:W}(g:Good w):(br w).Nodup:=by
 unfold br dc;refine pU (λp _=>?_) ?_
 .rw[jG]
  exact(g.nod p).imp λne e=>ne (GM Prod.snd e)
 .refine List.Pairwise.imp ?_ A6
  intro a b lt x c y d e;obtain⟨_,_,rfl⟩:=bT.mp c;obtain⟨_,_,rfl⟩:=bT.mp d
  have:=GM Prod.fst e
  simp at this;lia
def qo(w:W):kg (row w) w.length=(br w).filter λd=>decide (d.1<d.2):=by
 unfold kg br;rw[List.filter_flatMap]
 congr 1
 funext p
 rw[List.filter_map];rfl
def GU(g:Good w):2*(kg (row w) w.length).length<=j7 w:=by
 rw[qo,<-fZ];have f:=List.length_eq_countP_add_countP (λd:Nat×Nat=>decide (d.1<d.2)) (l:=br w)
 have p:((br w).filter λd=>decide (d.1<d.2)).length<=((br w).filter λd=>decide (d.2<d.1)).length:=by
  have:=aF (l:=((br w).filter λd=>decide (d.1<d.2)).map λd=>(d.2,d.1)) (m:=(br w).filter λd=>decide (d.2<d.1)) ?_ ?_
  .rwa [aI] at this
  .unfold dc
   rw[jG];refine List.Pairwise.imp ?_ ((cB g).filter _);intro a b ne e;have i:=GM Prod.fst e;have j:=GM Prod.snd e;exact ne (aal j i)
  .intro x k
   obtain⟨d,n,rfl⟩:=bT.mp k;obtain⟨o,c⟩:=jI.mp n;refine jI.mpr #[bg.mpr (g.sym _ _ (bg.mp o)),?_];simpa using c
 have q:((br w).filter λd=>decide (d.2<d.1)).length<=(br w).countP λd=>!decide (d.1<d.2):=by
  rw[<-abC];apply List.countP_mono_left;intro d _ h;simp at h ⊢;lia
 rw[abC] at f
 have r:(br w).countP (λd=>!decide (d.1<d.2))=List.countP (λa=>decide ¬(decide (a.1<a.2)=true)) (br w):=by
  congr 1
  funext d
  by_cases h:d.1<d.2<;>simp[h]
 lia
structure RI (w:W) (bs:List Bool) (ws ex:List Nat) (c:Nat):Prop where
 len:bs.length=w.length
 z:bs[0]?\true
 wt:∀x∈ws,bs[x]?\true
 cl:∀x,bs[x]?\true->x∈ws\/x∈ex\/∀q∈row w x,bs[q]?\true
 cnt:bs.count false+ws.length<=c
def RI.pop(h:RI w bs (b++ [p]) [] (c+1)):RI w bs b [p] c:=
 #[h.len,h.z,λx a=>h.wt x (fi _ a),λx a=>by
  rcases h.cl x a with q|q|q
  .rcases b6.mp q with q|q
   .exact .inl q
   .exact .inr (.inl q)
  .cases q
  .exact .inr (.inr q),by have:=h.cnt;rw[cD] at this;simp at this;lia]
def RI.push(h:RI w bs f g c)(j:bs[q]?\false):RI w (bs.set q true) (f++ [q]) g c:=by
 obtain⟨b,i⟩:=eC.mp j
 have d:∀x,bs[x]?\true->(bs.set q true)[x]?\true:=λx a=>by
  rw[mZ]
  by_cases e:q=x
  .rw[ir e,ir b]
  .rw[mo e];exact a
 refine#[by rw[fj];exact h.len,d _ h.z,λx a=>?_,λx a=>?_,?_]
 .rcases b6.mp a with z|z
  .exact d _ (h.wt x z)
  .have:x=q:=by simpa using z
   rw[this,mZ,ir rfl,ir b]
 .by_cases e:q=x
  .exact .inl (by rw[e];simp)
  .rw[mZ,mo e] at a
   rcases h.cl x a with z|z|z
   .exact .inl (fi _ z)
   .exact .inr (.inl z)
   .exact .inr (.inr λy k=>d _ (z y k))
 .have l:=h.cnt
  have:0<bs.count false:=u0.mpr (by rw[<-i];exact jY b)
  rw[abD b,i,cD];simp;lia
def RI.close(h:RI w bs a [p] c)(b:∀q∈row w p,bs[q]?\true):RI w bs a [] c:=
 #[h.len,h.z,h.wt,λx d=>by
  rcases h.cl x d with q|q|q
  .exact .inl q
  .have:x=p:=by simpa using q
   rw[this];exact .inr (.inr b)
  .exact .inr (.inr q),h.cnt]
def RI.all{w:W}(g:Good w)(h:RI w bs [] [] c):bs=aj w.length true:=by
 have:=vt g (S:=λx=>bs[x]?\true) h.z λp q b d=>by
  rcases h.cl p b with z|z|z
  .cases z
  .cases z
  .exact z q d
 refine rJ λi=>?_
 by_cases a:i<w.length
 .rw[this i a,rF,ir a]
 .rw[gK (by rw[h.len];lia),gK (by simp;lia)]
structure z5 (w:W):Prop where
 rng:∀p q,q∈row w p->q<w.length
 irr:∀p,p∉row w p
 nod:∀p,(row w p).Nodup
 sym:∀p q,q∈row w p->p∈row w q
def Good.near(g:Good w):z5 w:=#[g.rng,g.irr,g.nod,g.sym]
def z5.good(n:z5 w)(h:∀p,p<w.length->Reach w 0 p):Good w:=#[n.rng,n.irr,n.nod,n.sym,h]
end Wb
namespace L2
open PySem PySem.Spec PyProof.Rows
section
variable {X:Cx} {Z:DC} {pins:List (Addr×Obj)} {σ:St} {H:Hp} {s:Shared}
open Classical in
open Classical in
theorem z7{f:Nat->Int}(g:Int->Int->Bool)(hg:∀a b,g a b=decide (b<a)):∀k,argBest (λi j=>g (f i) (f j)) k<=k/\∀i,i<=k->f i<=f (argBest (λi j=>g (f i) (f j)) k)
 |0=>#[bo _,λi h=>by(obtain rfl:i=0:=();exact acs _)]
 |k+1=>by
  obtain⟨h1,h2⟩:=z7 (f:=f) g hg k;unfold argBest;simp only[hg] at h1 h2 ⊢
  by_cases c:f (argBest (λi j=>decide (f j<f i)) k)<f (k+1)
  .rw[ir (GT c)]
   refine#[bo _,λi hi=>?_]
   by_cases z:i=k+1
   .subst z;exact acs _
   .have:=h2 i ();lia
  .rw[mo (~~~c)]
   refine#[(),λi hi=>?_]
   by_cases z:i=k+1
   .subst z;lia
   .exact h2 i ()
def Fl(P:X.calm=true):cw X (.builtin "max") (λL H Q=>∃(p:Addr)(c:List Int),L= [.ref p]/\H p\(.lst (c.map V.int))/\c≠ []/\∀n∈c,(∀m∈c,m<=n)->Q (.int n) H):=by
 intro M s σ H L us Q I R h;rfl';obtain⟨p,c,rfl,T,U,q⟩:=h;obtain⟨u,rfl,Y⟩:=R.one;subst Y;obtain⟨d,r,z,hz⟩:=I.list (cJ.of T);have Z:=r.length;rw[aI] at Z;have HA:0<c.length:=wa.mpr U;ac_rfl
 have C:∀i:Nat,(g:i<c.length)->∃t,d[i]?\(.int c[i] t):=λi g=>by
  obtain⟨w,hw,su⟩:=r.get (i:=i) (x:= .int c[i]) (by rw[cG,cM g];rfl)
  obtain⟨t,rfl⟩:=su;exact#[t,hw]
 refine call_max_walk (abS z.isList ?_)
 have nI:p≠s.heap.objs.size:=by
  obtain⟨o,E,_⟩:=z.isList;exact bY (Fk E)
 let f:Nat->Int:=λi=>c.getD i 0
 have B:∀k,(y:k<c.length)->f k=c[k]:=λk y=>by
  show c.getD k 0=_;rw[bS,cM y];rfl
 refine#[_,_,_,d.toArray.size,_,_,λi j=>(λa b=>decide (b<a)) (f i) (f j),rfl,Walks.list (show X.A.in1.handled=none from I.ok.hd P) s.heap.objs.size p nI d.toArray,#[#[_,Gc _ rfl,rfl,rfl],z.isList.push _],?_,?_,?_,?_]
 .intro b hb
  have:b=s.heap.objs.size\/b=p:=by simpa using hb
  obtain⟨o,E,_⟩:=z.isList;have lt:=Fk E;have e:(s.heap.push {cls:= .type "list_iterator",data:= .fields [.ref p, .int 0 0].toArray}).objs.size=s.heap.objs.size+1:=by simp[Heap.push]
  rcases this with rfl|rfl
  .exact u4 (u7 _) e.symm
  .exact u4 (rL lt) e.symm
 .rw[cH];lia
 .intro i j u v s' Q' E' BJ lW hq
  have F:d[i]?\u:=by simpa using BJ
  have l:d[j]?\v:=by simpa using lW
  have g:i<c.length:=by have:=(eC.mp F).1;lia
  have N:j<c.length:=by have:=(eC.mp l).1;lia
  obtain⟨t1,h1⟩:=C i g;obtain⟨t2,h2⟩:=C j N;rw[h1] at F;rw[h2] at l;cases Do F;cases Do l;have xZ:Q' (.bool (decide (c[j]<c[i]))) s':=by rw[<-B i g,<-B j N];exact hq
  exact(PyProof.Rows.gt_int xZ:wpAny _ _ (compareOp .Gt _ _) _ _ _)
 .intro v h' tk O kk
  have kept:∀b o,s.heap.get? b\o->h'.get? b\o:=λb o e=>kk b o (by simp;exact bY (Fk e)) (AC _ e)
  obtain⟨y,G⟩:=z7 (f:=f) (λa b=>decide (b<a)) (λ_ _=>rfl) (d.toArray.size-1);generalize argBest (λi j=>(λa b=>decide (b<a)) (f i) (f j)) (d.toArray.size-1)=k at O y G;rw[cH] at y G;have J:k<c.length:=()
  have l:d[k]?\v:=by simpa using O
  obtain⟨t,ht⟩:=C k J;rw[ht] at l;cases Do l;refine#[.int c[k],H,I.kept kept,#[t,rfl],q _ (jY J) λm xW=>?_];obtain⟨i,g,rfl⟩:=zq.mp xW
  have:=G i ()
  rw[B i g,B k J] at this;exact this
def Q3:bZ:=λb P=>∃a:List Int,b= [.lst (a.map D.int)]/\a≠ []/\∀n∈a,(∀m∈a,m<=n)->P (.int n)
def Kw(b:X.calm=true):cw X (.builtin "max") (hU Z Q3):=by
 refine(Fl b).imp ?_;intro l H Q c;rfl';obtain⟨G,o,P,s,dv,⟨f,rfl,g,i⟩,q⟩:=c;obtain⟨v,rfl,a⟩:=dv.ofOne;obtain⟨p,r,rfl,h,e⟩:=a.hV;ac_rfl;rw[mG e] at h;exact#[p,f,rfl,s _ _ h,g,λn j k=>q _ (i n j k) _ G H (.refl s) (.int n)]
end
section
variable {X:Cx} {Z:DC}
def Fp:cw X (.type "range") (λa H Q=>∃i:Int,a= [.int i]/\∀q,H q=none->Q (.ref q) (upd H q (.rng 0 i))):=by
 intro c s f H a g Q I d h;obtain⟨i,rfl,q⟩:=h;obtain⟨j,rfl,⟨k,rfl⟩⟩:=d.one;refine call_range_1 ?_;exact#[.ref s.heap.objs.size,_,I.laid (λb o e=>AC _ e) (bo _) (o:= .rng 0 i) #[_,_,_,Gc _ rfl],rfl,q _ (I.hok.fresh (bo _))]
def Q7:bZ:=λa P=>∃i:Int,a= [.int i]/\P (.rng 0 i)
def Kz:cw X (.type "range") (hU Z Q7):=by
 refine Fp.imp ?_;intro f H Q b;rfl';obtain⟨G,h,P,s,dv,⟨i,rfl,d⟩,q⟩:=b;obtain⟨v,rfl,a⟩:=dv.ofOne;ac_rfl;refine#[i,by rw[a.ofInt],λp e=>q _ d _ _ _ (.new s e) (.rng aK)]
def NO:bZ:=λa P=>∃i j:Int,a= [.rng i j]/\(-(2^62)<=i/\i<2^62/\-(2^62)<=j/\j<2^62/\(j-i).toNat<=1000)/\P (.lst (e8 i (j-i).toNat))
def GC(i:Int)(n:Nat):DvAll Z G (nU i n) (e8 i n):=by
 unfold nU e8
 induction ac n with
 |nil=>exact .nil
 |cons k l a=>exact .cons (.int _) a
def Iu(b:X.calm=true):cw X (.type "list") (hU Z NO):=by
 refine(xB b).imp ?_;intro o H Q c;rfl';obtain⟨G,t,P,s,dv,⟨i,j,rfl,⟨e,f,g,k,l⟩,m⟩,q⟩:=c;obtain⟨v,rfl,a⟩:=dv.ofOne;ac_rfl;cases a with
 |rng h=>exact#[_,i,j,rfl,s _ _ h,e,f,g,k,l,λp n=>q _ m _ _ _ (.new s n) (.lst aK (GC i _))]
end
section
variable {Z:DC} {X:Cx} {md:List Nat} {rn:Nat} {a b e k:Expr} {pos:Pos} {ta tb te tk:bz} {t:jJ}
def UO(g h:bz):jJ:=λf P=>g f λi=>∃c,i= .lst c/\h f λj=>∃d,j= .lst d/\c.length+d.length<=sizeLine/\P (c++d)
def Ho(l:DE Z X a ta)(m:DE Z X b tb):DF Z X 1 (.BinOp a .Add b pos) (UO ta tb):=by
 refine(Ca B7 l m).imp ?_;intro I H Q n;rfl';obtain⟨G,f,P,s,e,h,q⟩:=n;ac_rfl;exists G,f,_,s,e,h;rintro _ ⟨L,rfl,h⟩ M r N c u;exists r,f,_,c.sub,e.mono c.gg,h;rintro _ ⟨O,rfl,v,w⟩ R S T d y;obtain⟨U,Y,rfl,z,g⟩:=u.hV;obtain⟨k,t,rfl,A,i⟩:=y.hV;have B:=g.mono d.gg;have x:=c.trans d;refine#[_,_,_,_,rfl,rfl,d.hh _ _ (c.sub _ _ z),d.sub _ _ A,by rw[g.length,i.length];exact v,λp j=>?_]
 obtain⟨C,E,F⟩:=jA x j (B.append i);exact q _ w _ _ _ _ (x.side j) C E F
variable {tg iter elt:Expr} {ifs:List Expr} {scope:Scope} {NC:List Str} {src:List (Option Nat)} {wi:kv} {g:fE} {tt:dM}
def RA(f:X.calm=true)(c:cS X scope)(h:dW scope X.N src NC)(i:DI Z X tg iter wi)
  (j:∀d s H,DG Z (cV X scope NC d s H) tg g) (l:∀d s H,A9 Z (cV X scope NC d s H) ifs tt) (m:∀d s H,DE Z (cV X scope NC d s H) elt te)
  (n:∀x,foldedSetIterable iter X.env x=pure x:=by intro _;rfl):DF Z X 1 (.ListComp elt [#[tg,iter,ifs,0]] scope pos) (N6 wi g tt te src):=(Ms f c h i j l m n).imp yr
variable {B:Bs} {ρ:DN} {σ:St} {H G:Hp} {fp:Nat->List Addr}
def SIx.Yx(S:SIx Z B md ρ σ H G fp)(h:t ρ P)
  (m:∀c,P c->c.all dO=true/\∀v i d,SIx Z B md ρ σ d i fp->Ext G H i d->Dv Z i v (.lst c)->Q v d):yq Z 1 t σ H Q:=by
 exists H,ρ,P, .refl _,S.vE,h;intro c n v f i d x o F p;obtain⟨q,k⟩:=m c n;obtain⟨a,r,I,J,rfl,s,u,w,y⟩:=o.lst;cases s;obtain⟨dv,rfl⟩:=y.flat;have j:H a=none:=(p a (by rw[w];simp)).1
 have A:G a=none:=S.ex.sub.free j
 have l:Ext G H (upd G a (.lst r)) d:=by
  refine#[bq A _,λb o e=>?_,x.hh,λb C E=>?_]
  .by_cases z:b=a
   .subst z
    rw[aK] at e;rw[<-e];exact u
   .rw[bf z] at e
    exact x.hh _ _ (S.ex.sub _ _ e)
  .rw[bf (λz=>C (by rw[z];exact j))];exact E
 exact k _ _ _ (S.grow l) l (.lst aK (dv.flat q))
def KQ(i:Nat)(h:bz)(t:jJ):cz:=λE c=>t c λd=>d.all dO=true/\∃f,c[i]?\(some (.lst f))/\h c λl=>∃k j,l= .int k/\iw f.length k\j/\E.nx (c.set i (some (.lst (f.set j (.lst d)))))
def Fx(i:Nat)(A:DE Z X k tk)(C:DF Z X 1 e t)(r:md.getD i 0=1:=by rfl)(F:X.N[i]?\x:=by rfl)(I:kZ X.env.scope x:=by subst_eqs)(n:(x==("__debug__":Str))=false:=by decide)(J:(x==("__classdict__":Str))=false:=by decide)
  (L:∀v,assign (.Subscript (.Name x c) k f) X.env v=(do
   let o <-holding [v] (eval (.Name x c) X.env)
   let q <-holding [v,o] (eval k X.env)
   standAt f
   holding [v,o,q] (setItem o q v)
   release [v,o,q] []):=by intro _;rfl)
  (O:swapsWithSole [.Subscript (.Name x c) k f] e pos.line X.env=pure false:=by rfl) (hw:swappedStores [.Subscript (.Name x c) k f] e X.env=pure none:=by rfl)
  (p:(assignEach [.Subscript (.Name x c) k f] X.env).map (·.2)= [assign (.Subscript (.Name x c) k f) X.env]:=by rfl):DSt Z X md rn (.Assign [.Subscript (.Name x c) k f] e pos) (KQ i tk t):=by
 refine(Cd C (HQ (pv i F I n J) A set_list L) O hw p).imp ?_;intro D σ H P;rfl';obtain⟨B,ρ,E,⟨G,Q,S⟩,h,M⟩:=P;ac_rfl;refine S.Yx h λd n=>#[n.1,λv G' H' u x dv=>?_];rfl';obtain⟨_,ds,p,h⟩:=n;obtain⟨l,xs,_,_,w,e3,_⟩:=u.one r p;ac_rfl;refine#[_,w,u.ev true h ?_];rintro _ ⟨k,j,rfl,R,T⟩;refine#[rfl,λv1 U H1 Y a b=>?_];rfl';cases b.ofInt;obtain⟨l',g,gO,e1,y,Bn,z,put⟩:=Y.one r p;cases e1;ac_rfl;rw[w] at y;cases y;exact#[l,g,k,j,rfl,rfl,Bn,by rw[z.length];exact R,M.nx _ T _ _ #[U,Q,put _ _ (z.set (dv.mono a.gg) j)]]
end
section
variable {Z:DC} {X:Cx} {md:List Nat} {rn:Nat} {b:Expr} {pos P9:Pos} {tb:bz}
def Rc(e:List Nat)(i:Nat)(f:bz):cz:=λE a=>∃c,a[i]?\(some (.lst c))/\f (df e a) λg=>∃d,g= .lst d/\c.length+d.length<=sizeLine/\E.nx (a.set i (some (.lst (c++d))))
def K3(i:Nat)(u:X.N.Nodup)(a:DE Z X b w)(m:n.getD i 0=1:=by rfl)(o:X.N[i]?\x:=by rfl)(y:Loc X.env.scope x:=by subst_eqs)(z:swapsWith (.BinOp (.Name x py) .Add b A) (some (.Name x k)) e.line X.env=pure false:=by rfl)
  (C:kZ X.env.scope x:=by subst_eqs) (f:(x==("__debug__":Str))=false:=by decide) (F:(x==("__classdict__":Str))=false:=by decide)
  (I:X.fn x=true\/X.env.scope.names.lookup x\.local:=by subst_eqs):DSt Z X n rn (.Assign [.Name x k] (.BinOp (.Name x py) .Add b A) e) (Rc n i w):=by
 refine(gZ u o y (Ca B7 (pv i o C f F) a) z I).imp ?_;intro D σ H J;rfl';obtain⟨B,ρ,E,⟨G,fp,S⟩,⟨l1,L,h⟩,M⟩:=J;ac_rfl;rfl';obtain⟨l,xs,_,O,P,Q,r,_⟩:=S.one m L;cases O;ac_rfl;refine#[_,P,S.ev false h λd f=>#[trivial,λv R H' S' x dv=>?_]];rfl';obtain⟨l2,rfl,T,U⟩:=f;obtain⟨p2,ys,rfl,Y,s⟩:=dv.hV;ac_rfl;refine#[_,_,_,_,rfl,rfl,x.hh _ _ Q,x.sub _ _ Y,by rw[r.length,s.length];exact T,λp t=>?_]
 obtain⟨o1,o2,g⟩:=jA x t ((r.mono x.gg).append s);exact M.nx _ U _ _ #[R,_,(S.grow (x.side t)).t5 m o1 o2 (λb a=>#[S.ex.hh.free (g b a).1,(g b a).2]) λb a j _ hj=>(S.nw j b hj).2.1 (g b a).1]
end
end L2
namespace oW
open PySem L2 Wb
def top(i:Nat):Stmt:=PySem.Challenge.pw_mapdye_k53_whole_a_point_given_a_dye.main.body.getD i (.Pass #[0,0,0,0])
abbrev mv:Stmt:=top 11
abbrev p5:Stmt:=top 12
abbrev yY:Stmt:=top 13
abbrev pZ:Stmt:=top 14
abbrev mn:Stmt:=top 15
abbrev yX:Stmt:=top 17
abbrev nZ:Stmt:=top 18
abbrev mi:Stmt:=top 19
abbrev gM:Stmt:=top 20
abbrev iS:Stmt:=top 21
abbrev pY:Stmt:=top 24
abbrev kK:Stmt:=top 25
abbrev mw:Stmt:=top 26
abbrev kN:Stmt:=top 27
abbrev mj:Stmt:=top 28
abbrev eo:Stmt:=top 29
abbrev kL:Stmt:=top 30
abbrev kM:Stmt:=top 31
abbrev jR:Stmt:=top 34
abbrev jT:Stmt:=top 35
abbrev l9:Stmt:=top 36
abbrev mf:Stmt:=top 37
abbrev iR:Stmt:=top 38
abbrev jq:Stmt:=top 39
abbrev pX:Stmt:=top 40
abbrev jr:Stmt:=top 41
abbrev gh:Stmt:=top 42
abbrev iQ:Stmt:=top 43
abbrev l8:Stmt:=top 44
abbrev nY:Stmt:=top 45
abbrev mh:Stmt:=top 46
abbrev jS:Stmt:=top 47
abbrev iP:Stmt:=top 48
abbrev g5:Stmt:=top 49
abbrev iN:Stmt:=top 50
abbrev nX:Stmt:=top 51
abbrev h8:Stmt:=top 52
abbrev ji:Stmt:=top 53
abbrev pW:Stmt:=top 54
abbrev iO:Stmt:=top 55
abbrev kf:Stmt:=top 56
abbrev gj:Stmt:=top 57
abbrev iM:Stmt:=top 58
abbrev Cp:Stmt:=top 59
abbrev fL:Stmt:=L2.km (top 32) 0
abbrev pV:Stmt:=L2.km (top 32) 1
abbrev ke:Stmt:=L2.km (top 32) 2
abbrev lK:Stmt:=L2.km (top 32) 3
abbrev vT:Stmt:=L2.km (top 32) 4
abbrev l7:Stmt:=L2.km (top 32) 5
def qh:aN ["web","side","sides","p","q"] ["web","side"] (aw mv):=by bv_omega
def AX:aN ["web","walked","told","side","sides","step"] ["web"] (aw p5):=by bv_omega
def AW:aN ["web"] ["web"] (aw yY):=by bv_omega
def tY:aN ["web","points","ties","rounds"] ["web"] (aw pZ):=by bv_omega
def qg:aN ["web"] ["web"] (aw mn):=by bv_omega
def AV:aN ["web","dyeing","p","dye","turns","pair","met","waiting","q"] ["web","dyeing","p","dye"] (aw yX):=by bv_omega
def rB:aN ["dyeing","points","one","other","told","p"] ["dyeing","points","one","other"] (aw nZ):=by bv_omega
def qe:aN ["taken","many","dye"] ["taken","many"] (aw mi):=by bv_omega
def jC:aN ["web","dyeing","around","q","r"] ["web","dyeing","around"] (aw gM):=by bv_omega
def rA:aN ["web","dyeing","p","many","around","told","deeds","dye","exchange","q","x"] ["web","dyeing","p","many"] (aw iS):=by bv_omega
def tX:aN ["thing","many"] ["thing","many"] (aw pY):=by bv_omega
def oE:aN ["rows","p","row","q"] ["rows"] (aw kK):=by bv_omega
def qi:aN ["rows","p","row"] ["rows"] (aw mw):=by bv_omega
def oH:aN ["rows","p","row","place","q"] ["rows"] (aw kN):=by bv_omega
def qf:aN ["rows","p","row","q"] ["rows"] (aw mj):=by bv_omega
def iT:aN ["rows","reached","waiting","p","q"] ["rows"] (aw eo):=by bv_omega
def oF:aN ["rows","q","reached"] ["rows"] (aw kL):=by bv_omega
def oG:aN ["rows","fault"] ["rows"] (aw kM):=by bv_omega
def mS:aN ["_law_script","_law_k"] ["_law_script","_law_k"] (aw jR):=by bv_omega
def mV:aN ["_law_cell","_law_k","_law_number"] ["_law_cell","_law_k"] (aw jT):=by bv_omega
def p9:aN ["_law_script","_law_at","_law_many","_law_cell","_law_found","_law_first","_law_k","_law_number"] ["_law_script","_law_at","_law_many"] (aw l9):=by bv_omega
def qb:aN ["_law_turns","_law_sides","_law_found","_law_p","_law_q","_law_row","_law_side","_law_turn"] ["_law_turns"] (aw mf):=by bv_omega
def oz:aN ["_law_land","_law_number","_law_first","_law_found","_law_k"] ["_law_land","_law_number"] (aw iR):=by bv_omega
def qa:aN ["_law_turns","_law_land","_law_places_here","_law_made","_law_around","_law_at","_law_turn","_law_place"] ["_law_turns","_law_land","_law_places_here"] (aw jq):=by bv_omega
def tW:aN ["_law_draws_here","_law_turns","_law_number","_law_rows","_law_land"] ["_law_draws_here"] (aw pX):=by bv_omega
def qc:aN ["_law_turns","_law_draws_here","_law_names","_law_k","_law_at","_law_found","_law_p","_law_turn"] ["_law_turns","_law_draws_here"] (aw jr):=by bv_omega
def ot:aN ["_law_turns","_law_draws_here","_law_dyes","_law_none","_law_found","_law_p","_law_taken","_law_free_here"] ["_law_turns","_law_draws_here","_law_dyes","_law_none"] (aw gh):=by bv_omega
def kQ:aN ["_law_turns","_law_dyeing_here","_law_p","_law_q"] ["_law_turns","_law_dyeing_here"] (aw iQ):=by bv_omega
def p8:aN ["_law_turns","_law_dyeing_here","_law_p","_law_dye","_law_found","_law_at","_law_q"] ["_law_turns","_law_dyeing_here","_law_p","_law_dye"] (aw l8):=by bv_omega
def rz:aN ["_law_dyeing_here","_law_p","_law_dye","_law_found"] ["_law_dyeing_here","_law_p","_law_dye"] (aw nY):=by bv_omega
def qd:aN ["_law_found"] ["_law_found"] (aw mh):=by bv_omega
def mT:aN ["_law_deed","_law_word","_law_points","_law_many"] ["_law_deed","_law_word","_law_points","_law_many"] (aw jS):=by bv_omega
def rm:aN ["_law_turns","_law_dyeing_here","_law_p","_law_many","_law_taken"] ["_law_turns","_law_dyeing_here","_law_p","_law_many"] (aw iP):=by bv_omega
def mU:aN ["_law_turns","_law_dyeing_here","_law_p","_law_dye"] ["_law_turns","_law_dyeing_here","_law_p","_law_dye"] (aw g5):=by bv_omega
def kO:aN ["_law_turns","_law_dyeing_here","_law_q","_law_dye","_law_found","_law_other"] ["_law_turns","_law_dyeing_here","_law_q","_law_dye"] (aw iN):=by bv_omega
def rj:aN ["_law_turns","_law_dyeing_here","_law_p","_law_many","_law_deeds","_law_free_here","_law_behind"] ["_law_turns","_law_dyeing_here","_law_p","_law_many","_law_deeds"] (aw nX):=by bv_omega
def tV:aN ["_law_turns","_law_number","_law_rows","_law_longest","_law_land","_law_places_here"] ["_law_turns","_law_number"] (aw h8):=by bv_omega
def lL:aN ["_law_points","_law_around","_law_number","_law_found","_law_k","_law_q"] ["_law_points","_law_around","_law_number"] (aw ji):=by bv_omega
def tU:aN ["_law_dyeing_here","_law_some","_law_kept","_law_found","_law_q"] ["_law_dyeing_here","_law_some","_law_kept"] (aw pW):=by bv_omega
def kP:aN ["_law_turns","_law_begun","_law_p","_law_draws_here","_law_many","_law_found","_law_q","_law_options"] ["_law_turns","_law_begun","_law_p","_law_draws_here","_law_many"] (aw iO):=by bv_omega
def rg:aN ["_law_turns","_law_dyeing_here","_law_p","_law_many","_law_found","_law_around","_law_q"] ["_law_turns","_law_dyeing_here","_law_p","_law_many"] (aw kf):=by bv_omega
def iZ:aN ["_law_dye","_law_many"] ["_law_dye","_law_many"] (aw gj):=by bv_omega
def rh:aN ["_law_script","_law_draws_here","_law_turns","_law_number","_law_named_here","_law_more","_law_p","_law_around","_law_begun","_law_found","_law_many","_law_dyes","_law_dyeing_here"] ["_law_script"] (aw iM):=by bv_omega
def H0:aN ["_law_script","_law_turns","_law_dyeing_here","_law_p","_law_many","_law_web_here","_law_handed","_law_more","_law_due","_law_found","_law_second","_law_told","_law_again"] ["_law_script"] (aw Cp):=by bv_omega
def mR:aN ["self","turns","rows","fault"] ["self","turns"] (aw fL):=by bv_omega
def tS:aN ["self"] ["self"] (aw pV):=by bv_omega
def rf:aN ["self"] ["self"] (aw ke):=by bv_omega
def tT:aN ["self"] ["self"] (aw lK):=by bv_omega
def p7:aN ["self","p","q","row"] ["self","p","q"] (aw l7):=by bv_omega
set_option genInjectivity false in
structure Txt (Z:DC) (mg:Str->Option Value) where
 B:TR mg
 x_set:mg "set"=none
 d_round_from:dE Z.K mg "round_from" mv ["web","side"]
 d_lands:dE Z.K mg "lands" p5 ["web"]
 d_count:dE Z.K mg "count" yY ["web"]
 d_is_plane:dE Z.K mg "is_plane" pZ ["web"]
 d_need_plane:dE Z.K mg "need_plane" mn ["web"]
 d_chain:dE Z.K mg "chain" yX ["web","dyeing","p","dye"]
 d_exchanged:dE Z.K mg "exchanged" nZ ["dyeing","points","one","other"]
 d_least_free:dE Z.K mg "least_free" mi ["taken","many"]
 d_freeing_exchange:dE Z.K mg "freeing_exchange" gM ["web","dyeing","around"]
 d_dye_given:dE Z.K mg "dye_given" iS ["web","dyeing","p","many"]
 d_is_among:dE Z.K mg "is_among" pY ["thing","many"]
 d_alien_fault:dE Z.K mg "alien_fault" kK ["rows"]
 d_self_fault:dE Z.K mg "self_fault" mw ["rows"]
 d_twice_fault:dE Z.K mg "twice_fault" kN ["rows"]
 d_lone_fault:dE Z.K mg "lone_fault" mj ["rows"]
 d_reached_from_first:dE Z.K mg "reached_from_first" eo ["rows"]
 d_apart_fault:dE Z.K mg "apart_fault" kL ["rows"]
 d_first_fault:dE Z.K mg "first_fault" kM ["rows"]
 d__law_cell_at:dE Z.K mg "_law_cell_at" jR ["_law_script","_law_k"]
 d__law_reserve:dE Z.K mg "_law_reserve" jT ["_law_cell","_law_k"]
 d__law_draws:dE Z.K mg "_law_draws" l9 ["_law_script","_law_at","_law_many"]
 d__law_lands:dE Z.K mg "_law_lands" mf ["_law_turns"]
 d__law_places:dE Z.K mg "_law_places" iR ["_law_land","_law_number"]
 d__law_grown:dE Z.K mg "_law_grown" jq ["_law_turns","_law_land","_law_places_here"]
 d__law_web:dE Z.K mg "_law_web" pX ["_law_draws_here"]
 d__law_named:dE Z.K mg "_law_named" jr ["_law_turns","_law_draws_here"]
 d__law_dyeing:dE Z.K mg "_law_dyeing" gh ["_law_turns","_law_draws_here","_law_dyes","_law_none"]
 d__law_is_dyeing:dE Z.K mg "_law_is_dyeing" iQ ["_law_turns","_law_dyeing_here"]
 d__law_chain:dE Z.K mg "_law_chain" l8 ["_law_turns","_law_dyeing_here","_law_p","_law_dye"]
 d__law_with:dE Z.K mg "_law_with" nY ["_law_dyeing_here","_law_p","_law_dye"]
 d__law_whole:dE Z.K mg "_law_whole" mh ["_law_found"]
 d__law_is_deed:dE Z.K mg "_law_is_deed" jS ["_law_deed","_law_word","_law_points","_law_many"]
 d__law_free:dE Z.K mg "_law_free" iP ["_law_turns","_law_dyeing_here","_law_p","_law_many"]
 d__law_is_free:dE Z.K mg "_law_is_free" g5 ["_law_turns","_law_dyeing_here","_law_p","_law_dye"]
 d__law_exchanged:dE Z.K mg "_law_exchanged" iN ["_law_turns","_law_dyeing_here","_law_q","_law_dye"]
 d__law_done:dE Z.K mg "_law_done" nX ["_law_turns","_law_dyeing_here","_law_p","_law_many","_law_deeds"]
 d__law_hub:dE Z.K mg "_law_hub" h8 ["_law_turns","_law_number"]
 d__law_hub_dyes:dE Z.K mg "_law_hub_dyes" ji ["_law_points","_law_around","_law_number"]
 d__law_but:dE Z.K mg "_law_but" pW ["_law_dyeing_here","_law_some","_law_kept"]
 d__law_filled_up:dE Z.K mg "_law_filled_up" iO ["_law_turns","_law_begun","_law_p","_law_draws_here","_law_many"]
 d__law_bare:dE Z.K mg "_law_bare" kf ["_law_turns","_law_dyeing_here","_law_p","_law_many"]
 d__law_turned_about:dE Z.K mg "_law_turned_about" gj ["_law_dye","_law_many"]
 d__law_case:dE Z.K mg "_law_case" iM ["_law_script"]
 d_law:dE Z.K mg "law" Cp ["_law_script"]
 W:Hf Z
 mC:mg "Web"\(.ref Z.C)
 i_f:Addr
 i_fd:FuncData
 i_F:zB Z.K "__init__" "Web.__init__" fL i_f i_fd
 mkW:Mk Z.K Z.C i_f
 m___init__b:Binds Z.K i_fd ["self","turns"] []
 m_many:Bb Z "many" "Web.many" pV ["self"]
 m_turns:Bb Z "turns" "Web.turns" ke ["self"]
 m_ties:Bb Z "ties" "Web.ties" lK ["self"]
 m_tied:Bb Z "tied" "Web.tied" vT ["self","a","b"]
 m_behind:Bb Z "behind" "Web.behind" l7 ["self","p","q"]
 t___name__:∃tk,mg "__name__"\(.str "law_mapdye_k53_whole_a_point_given_a_dye" tk)
 c_MOST_POINTS:∃tk,mg "MOST_POINTS"\(.int 14 tk)
variable {P:Program} {w:World} {mg:Str->Option Value} {base:Heap} {Z:DC} (T:Txt Z mg)
def M5:bZ:=λa P=>∃(i n:Int),a= [.int i, .int n]/\P (.bl (decide (0<=i/\i<n)))
def B5:FnOk P w Z.K mg base b9 1 T.d_is_among.f T.d_is_among.fd ["thing","many"] (aX Z M5):=by
 have d:=tX.nd;refine ba T.d_is_among.F tX [0,0] ∅ (λb R h=>by obtain⟨_,_,rfl,_⟩:=h;rfl) (λe A outer s H E b R c h=>?_)
 have g:=c.units;exists _,(aq (aJ (qE (lB "int" (aa 0) rfl T.B.isinstance rfl T.B.int Hh) (qE (Hn (lB "bool" (aa 0) rfl T.B.isinstance rfl T.B.bool C4)) (wQ (ID Gk nN av (aa 0) (aa 1)))))));obtain⟨i,n,rfl,q⟩:=h;refine#[_,rfl,rfl,true,rfl,c9 #[_,rfl,rfl,false,rfl,true,rfl,c9 #[_,rfl,?_]]];refine#[_,rfl,bw (λa=>#[_,rfl,?_]) (λa=>?_)]
 .have a:0<=i:=KF a
  show R (.bl (decide (i<n)));rw[show decide (i<n)=decide (0<=i/\i<n) by simp[a]]
  exact q
 .have a:¬0<=i:=M2 a
  rw[show decide (0<=i/\i<n)=false by simp[a]] at q
  exact q
def xa:bZ:=λa P=>∃(w:W),a= [aL w]/\z5 w/\1<=w.length/\w.length<=14/\P .bC
def EZ{w:W}(h:(iC (w.map az))[j]?\d):j<w.length/\d= .tup [.int (j:Int),az (row w j)]:=by
 obtain⟨x,b,rfl⟩:=nG h;obtain⟨r,a,rfl⟩:=cg b;have c:j<w.length:=(eC.mp a).1;exists c;rw[Pm a]
def wF:FnOk P w Z.K mg base b9 2 T.d_alien_fault.f T.d_alien_fault.fd ["rows"] (aX Z xa):=by
 have c:=oE.nd;refine ba T.d_alien_fault.F oE [0,0,0,0] ∅ (λn R h=>by obtain⟨_,rfl,_⟩:=h;rfl) (λy A outer s H E n R m h=>?_)
 have z:=m.units
 refine#[_,(ag (cT rfl FS (jw rfl T.B.enumerate (ae (aa 0) ah)) (iB 2 rfl (bF (aR 1 c) (bF (aR 2 c) e9))) (aq (cT rfl FS (bA (aa 2)) (aR 3 c) (aq (bp (eJ (dr (aD T.d_is_among (B5 T) m (ae (aa 3) (ae (aE aZ rfl T.B.len aY (ae (aa 0) ah)) ah))))) (aq (aJ (cK (ae jn (ae (aa 1) (ae (aa 3) ah)))))) aM)))))
   (aq (aJ bB))),?_]
 obtain⟨a,rfl,g,C,G,q⟩:=h;refine#[_,rfl,bU (λ_ e=>∃i l b,e= [some (aL a),i,l,b]) #[_,_,_,rfl] ?_ ?_]
 .rintro j d _ o ⟨i,l,b,rfl⟩ A p
  obtain⟨I,rfl⟩:=EZ o;exists rfl,rfl;refine#[_,rfl,bU (λ_ e=>∃b,e= [some (aL a),some (.int (j:Int)),some (az (row a j)),b]) #[_,rfl] ?_ ?_]
  .rintro k J _ r ⟨t,rfl⟩ L u
   obtain⟨x,v,rfl⟩:=cg r;refine#[_,rfl,_,rfl,_,_,rfl,#[rfl,?_]];have M:x<a.length:=g.rng _ _ (dH v);rw[show decide ((0:Int)<=(x:Int)/\(x:Int)<((a.map az).length:Int))=true by simp;lia]
   exact bK (u _ #[_,rfl])
  .rintro _ ⟨t,rfl⟩
   exact p _ #[_,_,_,rfl]
 .rintro _ ⟨i,l,b,rfl⟩
  exact q
def yL:FnOk P w Z.K mg base b9 1 T.d_self_fault.f T.d_self_fault.fd ["rows"] (aX Z xa):=by
 have i:=qi.nd;refine ba T.d_self_fault.F qi [0,0,0] ∅ (λk R h=>by obtain⟨_,rfl,_⟩:=h;rfl) (λt A outer s H E k R l h=>?_)
 have u:=l.units
 refine#[_,(ag (cT rfl FS (jw rfl T.B.enumerate (ae (aa 0) ah)) (iB 2 rfl (bF (aR 1 i) (bF (aR 2 i) e9))) (aq (bp (aG yD (aa 1) (aa 2) (by with_unfolding_all rfl)) (aq (aJ (cK (ae jn (ae (aa 1) (ae (aa 1) ah)))))) aM)))
   (aq (aJ bB))),?_]
 obtain⟨a,rfl,g,v,x,q⟩:=h;refine#[_,rfl,bU (λ_ m=>∃b c,m= [some (aL a),b,c]) #[_,_,rfl] ?_ ?_]
 .rintro j d _ n ⟨b,c,rfl⟩ A o
  obtain⟨y,rfl⟩:=EZ n;exists rfl,rfl;exists _,rfl,_,rfl,rfl,cY _,_,rfl
  have e:inD (.int (j:Int)) ((row a j).map ao)=false:=by
   have:=jz (r:=row a j) (p:=j)
   rw[GE (g.irr j)] at this;exact this
  rw[mo dA,e];exact bK (o _ #[_,_,rfl])
 .rintro _ ⟨b,c,rfl⟩
  exact q
def ja(l:List a)(k:Nat)(h:k<=l.length):cutD l none (some (k:Int))=l.take k:=by
 unfold cutD;have b:HT.cj l.length 0 none=0:=rfl
 have c:HT.cj l.length l.length (some (k:Int))=k:=by
  simp only[HT.cj]
  split<;>lia
 rw[b,c];simp
def wH:FnOk P w Z.K mg base b9 1 T.d_twice_fault.f T.d_twice_fault.fd ["rows"] (aX Z xa):=by
 have i:=oH.nd;refine ba T.d_twice_fault.F oH [0,0,0,0,0] ∅ (λt R h=>by obtain⟨_,rfl,_⟩:=h;rfl) (λQ A outer s H E t R u h=>?_)
 have S:=u.units
 refine#[_,(ag (cT rfl FS (jw rfl T.B.enumerate (ae (aa 0) ah)) (iB 2 rfl (bF (aR 1 i) (bF (aR 2 i) e9))) (aq (cT rfl FS (jw rfl T.B.enumerate (ae (aa 2) ah)) (iB 2 rfl (bF (aR 3 i) (bF (aR 4 i) e9))) (aq (bp (aG yD (aa 4) (eI (aa 2) fH (fI (aa 3))) (by with_unfolding_all rfl)) (aq (aJ (cK (ae jn (ae (aa 1) (ae (aa 4) ah)))))) aM)))))
   (aq (aJ bB))),?_]
 obtain⟨a,rfl,g,U,X,q⟩:=h;refine#[_,rfl,bU (λ_ l=>∃n o b c,l= [some (aL a),n,o,b,c]) #[_,_,_,_,rfl] ?_ ?_]
 .rintro j d _ v ⟨n,o,b,c,rfl⟩ A C
  obtain⟨Y,rfl⟩:=EZ v;exists rfl,rfl;refine#[_,rfl,bU (λ_ l=>∃b c,l= [some (aL a),some (.int (j:Int)),some (az (row a j)),b,c]) #[_,_,rfl] ?_ ?_]
  .rintro k d' _ G ⟨I,J,rfl⟩ A' L
   obtain⟨y,M,rfl⟩:=nG G;obtain⟨x,r,rfl⟩:=cg M;have iG:k<(row a j).length:=(eC.mp r).1;exists rfl,rfl;exists _,rfl,_,rfl,_,rfl;have N:cutD ((row a j).map ao) none (some (k:Int))=((row a j).take k).map ao:=by rw[ja _ _ (by simp;lia),rM]
   refine(?_:KH false (ao x) (.lst (cutD ((row a j).map ao) none (some (k:Int)))) _);rw[N];exists rfl,cY _,_,rfl
   have e:inD (ao x) (((row a j).take k).map ao)=false:=by
    rw[jz,GE];intro z;obtain⟨m,p⟩:=zx z
    have O:m<k:=by
     have:=(eC.mp p).1
     rw[i6] at this;lia
    rw[E4 O] at p;exact absurd ((abW () (g.nod j)).mp (p.trans r.symm)) ()
   rw[mo dA,e];exact bK (L _ #[_,_,rfl])
  .rintro _ ⟨I,J,rfl⟩
   exact C _ #[_,_,_,_,rfl]
 .rintro _ ⟨n,o,b,c,rfl⟩
  exact q
def yI:FnOk P w Z.K mg base b9 1 T.d_lone_fault.f T.d_lone_fault.fd ["rows"] (aX Z xa):=by
 have c:=qf.nd;refine ba T.d_lone_fault.F qf [0,0,0,0] ∅ (λo R h=>by obtain⟨_,rfl,_⟩:=h;rfl) (λJ A outer s H E o R t h=>?_)
 have L:=t.units
 refine#[_,(ag (cT rfl FS (jw rfl T.B.enumerate (ae (aa 0) ah)) (iB 2 rfl (bF (aR 1 c) (bF (aR 2 c) e9))) (aq (cT rfl FS (bA (aa 2)) (aR 3 c) (aq (bp (aG fQ (aa 1) (aB (aa 0) (aa 3)) (by with_unfolding_all rfl)) (aq (aJ (cK (ae jn (ae (aa 1) (ae (aa 3) ah)))))) aM)))))
   (aq (aJ bB))),?_]
 obtain⟨a,rfl,g,M,N,q⟩:=h;refine#[_,rfl,bU (λ_ i=>∃l m b,i= [some (aL a),l,m,b]) #[_,_,_,rfl] ?_ ?_]
 .rintro j d _ u ⟨l,m,b,rfl⟩ A v
  obtain⟨O,rfl⟩:=EZ u;exists rfl,rfl;refine#[_,rfl,bU (λ_ i=>∃b,i= [some (aL a),some (.int (j:Int)),some (az (row a j)),b]) #[_,rfl] ?_ ?_]
  .rintro k Q _ y ⟨z,rfl⟩ S C
   obtain⟨x,G,rfl⟩:=cg y;have n:=dH G;have I:x<a.length:=g.rng _ _ n;exists _,rfl,_,rfl,_,rfl,_,gr (zo I),rfl,cY _,_,rfl
   have e:inD (.int (j:Int)) ((row a x).map ao)=true:=by
    have:=jz (r:=row a x) (p:=j)
    rw[GT (g.sym _ _ n)] at this;exact this
   rw[ir rfl,e];exact bK (C _ #[_,rfl])
  .rintro _ ⟨z,rfl⟩
   exact v _ #[_,_,_,rfl]
 .rintro _ ⟨l,m,b,rfl⟩
  exact q
def wj(bs:List Bool):List D:=bs.map D.bl
def Ku{bs:List Bool}{i:Nat}{b:Bool}(h:bs[i]?\b):(wj bs)[i]?\(.bl b):=by unfold wj;rw[cG,h];rfl
def C7(bs:List Bool)(i:Nat)(b:Bool):(wj bs).set i (.bl b)=wj (bs.set i b):=by unfold wj;rw[qA]
def C6(bs:List Bool):(wj bs).length=bs.length:=aI _
def uF{n k:Nat}(h:k<n):iw n (k:Int)\k:=by unfold iw;rw[ir (),ir ()];simp
def GH:bZ:=λa P=>∃(w:W),a= [aL w]/\z5 w/\1<=w.length/\w.length<=14/\∀bs m,RI w bs [] [] m->(∀x,bs[x]?\true->Reach w 0 x)->P (.lst (wj bs))
def Met(w:W)(bs:List Bool):Prop:=∀x,bs[x]?\true->Reach w 0 x
def nQ:FnOk P w Z.K mg base b9 1 T.d_reached_from_first.f T.d_reached_from_first.fd ["rows"] (aX Z GH):=by
 have v:=iT.nd;refine ba T.d_reached_from_first.F iT [0,1,1,0,0] ∅ (λds R h=>by obtain⟨_,rfl,_⟩:=h;rfl) (λbE A outer s H E ds R hr h=>?_)
 have hu:=hr.units
 refine#[_,(ag (Ac 1 (NC:= ["row"]) (src:= [none]) rfl v (kA (aw eo)) trivial (bA (aa 0)) (λ_ _ _=>(bI 0 (show(["row"]:List Str).Nodup from by decide+kernel))) (λ_ _ _=>dF) (λ_ _ _=>jb))
   (ag (dR false 1 av jb)
   (ag (cU 2 v (gX (ae av ah)))
   (ag (mF FS (dr (aa 2)) (ag (Hu 3 2 v)
   (aq (cT rfl FS (bA (aB (aa 0) (aa 3))) (aR 4 v) (aq (bp (eJ (dr (aB (aa 1) (aa 4)))) (ag (dR false 1 (aa 4) jb)
   (aq (gY false 2 (aa 4)))) aM))))))
   (aq (aJ (aa 1))))))),?_]
 obtain⟨c,rfl,g,h1,dZ,q⟩:=h;refine#[_,rfl,gz (ρ:= [none]) az (λ_=> .bl false) c _ (λy b Y h=>h) rfl (small ()) λaT=>?_]
 have e0:c.map (λ_=>D.bl false)=wj (aj c.length false):=by unfold wj;rw[List.map_replicate,List.map_const']
 rw[e0];refine#[trivial,_,rfl,0,0,rfl,by rw[C6,v5];exact uF (k:=0) (),?_]
 rw[C7];refine#[by show 1<=sizeLine;decide,?_]
 refine kU (λm ρ=>∃(bs:List Bool)(l:List Nat)(S B:Option D),ρ= [some (aL c),some (.lst (wj bs)),some (.lst (l.map ao)),S,B]/\RI c bs l [] m/\Met c bs/\m<=14/\bs.count false+l.length=m) c.length ?_ ?_
 .refine#[_,[0],none,none,rfl,#[by simp,?_,?_,λx d=>?_,?_],λx d=>?_,dZ,?_]
  .rw[mZ,ir rfl,ir (by rw[v5];lia)]
  .intro x d
   have:x=0:=by simpa using d
   rw[this,mZ,ir rfl,ir (by rw[v5];lia)]
  .by_cases e:0=x
   .exact .inl (by rw[<-e];simp)
   .rw[mZ,mo e,rF] at d
    split at d<;>cases d
  .rw[abD (by rw[v5];lia),abX,acu]
   simp;lia
  .by_cases e:0=x
   .rw[<-e];exact .refl _
   .rw[mZ,mo e,rF] at d
    split at d<;>cases d
  .rw[abD (by rw[v5];lia),abX,acu]
   simp;lia
 .rintro m _ ⟨bs,l,S,B,rfl,C,mt,hc,U⟩
  exists _,rfl,rfl
  rcases CL l with rfl| ⟨M,p,e⟩
  .exact bK #[_,rfl,q bs m C mt]
  .rw[zp] at e
   subst e;rw[show zg (.lst ((M++ [p]).map ao))=true by simp[zg]]
   refine c9 ?_;rw[cD] at U;simp only[ue] at U;obtain⟨o,rfl⟩:∃o,m=o+1:=#[m-1,()]
   have N:=C.pop;have X:bs[p]?\true:=C.wt p (by simp)
   have ZF:p<c.length:=by rw[<-C.len];exact(eC.mp X).1
   refine#[M.map ao,ao p,by rw[cW];rfl,?_]
   refine#[_,rfl,_,rfl,_,gr (zo ZF),bU (λj ρ=>∃(a:List Bool)(i:List Nat)(B:Option D),ρ= [some (aL c),some (.lst (wj a)),some (.lst (i.map ao)),some (ao p),B]/\RI c a i [p] o/\Met c a/\(∀k y,k<j->(row c p)[k]?\y->a[y]?\true)/\a.count false+i.length=o) ?_ ?_ ?_]
   .exact#[bs,M,_,rfl,N,mt,(λk n r=>by lia),()]
   .rintro j x _ d ⟨a,i,o5,rfl,t,G,I,O⟩ A hA
    obtain⟨n,J,rfl⟩:=cg d;have Zv:=g.rng _ _ (dH J);have Q:n<a.length:=by rw[t.len];exact Zv
    have u:a[n]?\(a[n]):=cM Q;exists _,rfl,_,rfl,_,gr (Ku u),rfl;generalize a[n]=bn at u;cases bn with
    |true=>
     refine bK (hA _ #[a,i,_,rfl,t,G,λk y r b=>?_,O])
     by_cases e:k=j
     .rw[e,J] at b;cases b;exact u
     .exact I k y () b
    |false=>
     refine c9 ?_;refine#[trivial,_,rfl,_,rfl,_,n,rfl,by rw[C6];exact uF Q,?_]
     rw[C7];have L:=t.push u;have aaa:=L.cnt;refine#[_,rfl,_,rfl,trivial,cL (by rw[aI];lia),?_]
     have er:i.map ao++ [ao n]=(i++ [n]).map ao:=by rw[cW];rfl
     rw[er];refine hA _ #[a.set n true,i++ [n],_,rfl,L,λy b=>?_,λk y r b=>?_,?_]
     .by_cases e:n=y
      .rw[<-e];exact .step (mt p X) (dH J)
      .rw[mZ,mo e] at b;exact G y b
     .rw[mZ]
      by_cases e:n=y
      .rw[ir e,ir Q]
      .rw[mo e]
       refine I k y ?_ b;apply FM;intro z
       have:k=j:=()
       rw[this,J] at b;cases b;exact e rfl
     .obtain⟨hl,he⟩:=eC.mp u
      have:0<a.count false:=u0.mpr (by rw[<-he];exact jY hl)
      rw[abD hl,he,cD];simp;lia
   .rintro _ ⟨a,i,o5,rfl,t,G,I,O⟩
    have L:=t.close λy b=>by
     obtain⟨k,r⟩:=zx b;exact I k y (by rw[aI];exact(eC.mp r).1) r
    exact#[o,(),a,i,_,_,rfl,L,G,(),O]
def EM:bZ:=λa P=>∃(w:W),a= [aL w]/\z5 w/\1<=w.length/\w.length<=14/\(Good w->P .bC)/\(¬Good w->∀q,P (.tup [.str "apart", .int 0,ao q]))
def wG:FnOk P w Z.K mg base b9 2 T.d_apart_fault.f T.d_apart_fault.fd ["rows"] (aX Z EM):=by
 have n:=oF.nd;refine ba T.d_apart_fault.F oF [0,0,0] ∅ (λu R h=>by obtain⟨_,rfl,_⟩:=h;rfl) (λO A outer s H E u R o h=>?_)
 have Q:=o.units
 refine#[_,(ag (cT rfl FS (jw rfl T.B.enumerate (ae (aD T.d_reached_from_first (nQ T) o (ae (aa 0) ah)) ah)) (iB 2 rfl (bF (aR 1 n) (bF (aR 2 n) e9))) (aq (bp (eJ (dr (aa 2))) (aq (aJ (cK (ae jn (ae av (ae (aa 1) ah)))))) aM)))
   (aq (aJ bB))),?_]
 obtain⟨q,rfl,g,v,z,C,G⟩:=h;refine#[_,rfl,q,rfl,g,v,z,λbs m r mt=>bU (λk I=>(∀x,x<k->bs[x]?\true)/\∃c i,I= [some (aL q),c,i]) #[λx t=>absurd t (Nat.not_lt_zero x),_,_,rfl] ?_ ?_]
 .rintro j d _ J ⟨l,c,i,rfl⟩ A L
  obtain⟨y,M,rfl⟩:=nG J;obtain⟨b,a,rfl⟩:=cg M;exists rfl,rfl;cases b with
  |true=>
   refine#[_,rfl,rfl,bK (L _ #[λx t=>?_,_,_,rfl])]
   by_cases e:x=j
   .rw[e];exact a
   .exact l x ()
  |false=>
   refine#[_,rfl,rfl,c9 #[_,rfl,by show 3<=sizeLine;decide,G (λN=>?_) j]]
   have:=r.all N
   rw[this,rF] at a
   split at a<;>cases a
 .rintro _ ⟨l,c,i,rfl⟩
  refine C (g.good λp S=>mt p (l p ?_))
  have:=r.len
  unfold wj iC;simp;lia
def om:FnOk P w Z.K mg base b9 3 T.d_first_fault.f T.d_first_fault.fd ["rows"] (aX Z EM):=by
 have b:=oG.nd;refine ba T.d_first_fault.F oG [0,0] ∅ (λj R h=>by obtain⟨_,rfl,_⟩:=h;rfl) (λm A outer s H E j R a h=>?_)
 have n:=a.units
 refine#[_,(ag (aO false 1 b (aD T.d_alien_fault (wF T) a (ae (aa 0) ah)))
   (ag (bp (aG kE (aa 1) bB (aP _)) (aq (aO false 1 b (aD T.d_self_fault (yL T) a (ae (aa 0) ah)))) aM)
   (ag (bp (aG kE (aa 1) bB (aP _)) (aq (aO false 1 b (aD T.d_twice_fault (wH T) a (ae (aa 0) ah)))) aM)
   (ag (bp (aG kE (aa 1) bB (aP _)) (aq (aO false 1 b (aD T.d_lone_fault (yI T) a (ae (aa 0) ah)))) aM)
   (ag (bp (aG kE (aa 1) bB (aP _)) (aq (aO false 1 b (aD T.d_apart_fault (wG T) a (ae (aa 0) ah)))) aM)
   (aq (aJ (aa 1)))))))),?_]
 obtain⟨c,rfl,g,d,e,k,l⟩:=h;exists _,rfl,c,rfl,g,d,e,trivial;refine#[_,rfl,_,rfl,c9 #[_,rfl,c,rfl,g,d,e,trivial,?_]];refine#[_,rfl,_,rfl,c9 #[_,rfl,c,rfl,g,d,e,trivial,?_]];refine#[_,rfl,_,rfl,c9 #[_,rfl,c,rfl,g,d,e,trivial,?_]];refine#[_,rfl,_,rfl,c9 #[_,rfl,c,rfl,g,d,e,λi=>#[trivial,_,rfl,k i],λi q=>#[trivial,_,rfl,l i q]]]
def uO{P:Program}{w:World}{base:Heap}{Z:DC}(T:Txt Z k):FnOk P w Z.K k base b9 4 T.i_f T.i_fd ["self","turns"] (EO Z):=by
 have Lv:=om (P:=P) (w:=w) (base:=base) T;have l:=mR.nd;refine T.i_F.ok mR (λI H Q E h=>?_) (λbE A outer s H I Q E m h=>?_)
 .obtain⟨p,n,v,G,a,rfl,_⟩:=h;rfl
 obtain⟨p,n,v,G,a,rfl,r,J,L,dv,g,M,N,q⟩:=h;have hu:=m.units
 refine#[_,gE (t:=rZ Z _ [0,0,0,0] 0 _)
   (bp (eJ (IJ Gk Gk av (aE aZ rfl T.B.len aY (ae (aa 1) ah)) (IE rfl T.c_MOST_POINTS))) (aq qG) aM)
  (gE (t:=rZ Z _ [0,0,0,0] 0 _)
   (mE 2 (NC:= ["row"]) (src:= [none]) rfl l (kA (aw fL)) trivial (bA (aa 1)) (λ_ _ _=>(bI 0 (show(["row"]:List Str).Nodup from by decide+kernel))) (λ_ _ _=>dF) (λ_ _ _=>(g8 pB rfl T.B.list dX (ae (aa 0) ah))))
  (gE (t:=rZ Z _ [0,0,0,0] 0 _)
   (aO false 3 l (aD T.d_first_fault (om T) m (ae (aa 2) ah)))
  (gE (t:=rZ Z _ [0,0,0,0] 0 _)
   (bp (aG ko (aa 3) bB (aP _)) (aq qG) aM)
  (ED (O9 (pv 0) (pv 2) rfl))))),?_]
 have u:(a.map az).length=a.length:=aI _;refine#[#[G,H,G],[some (.obj p),some (aL a),none,none],{nx:=λρ=>ρ= [some (.obj p),some (aL a),none,none],rt:=λ_=>False},#[G,λ_=> [],?_],?_,#[?_,λ_ z=>z.elim,λ_ z=>z.elim,λ_ z=>z.elim,λ_ _ z=>z.elim]]
 .refine#[.refl J, .refl _,rfl,λi d c=>?_,λ_=>iU,(λ_ _ _ _ z=>by cases z),(λ_ _ z=>by cases z)]
  match i,c with
  |0,c=>cases c;exact#[_,rfl, .obj p,rfl]
  |1,c=>cases c;exact#[_,rfl,dv,rfl]
  |2,c=>cases c
  |3,c=>cases c
  |i+4,c=>cases c
 .have O:D.bl (decide ((1:Int)<=((a.map az).length:Int)))= .bl true:=GM D.bl (GT (by rw[u];lia))
  have S:D.bl (decide (((a.map az).length:Int)<=14))= .bl true:=GM D.bl (GT (by rw[u];lia))
  exact#[_,rfl,true,O,c9 #[true,S,bK rfl]]
 rintro _ rfl Hc H1 U;refine#[#[G,H,G],_,{nx:=λρ=>ρ= [some (.obj p),some (aL a),some (aL a),none],rt:=λ_=>False},U,?_,#[?_,λ_ z=>z.elim,λ_ z=>z.elim,λ_ z=>z.elim,λ_ _ z=>z.elim]]
 .exact#[_,rfl,gz (ρ:= [none]) az az a _ (λy hy Y h=>#[_,rfl,h]) rfl (small ()) λaT=>#[trivial,rfl]]
 rintro _ rfl gG H2 X;refine#[#[G,H,G],_,{nx:=λρ=>ρ= [some (.obj p),some (aL a),some (aL a),some .bC],rt:=λ_=>False},X,?_,#[?_,λ_ z=>z.elim,λ_ z=>z.elim,λ_ z=>z.elim,λ_ _ z=>z.elim]]
 .exact#[_,rfl,a,rfl,g.near,M,N,λ_=>#[trivial,rfl],λz=>absurd g z]
 rintro _ rfl wM H3 S3;refine#[#[G,H,G],_,{nx:=λρ=>ρ= [some (.obj p),some (aL a),some (aL a),some .bC],rt:=λ_=>False},S3,?_,#[?_,λ_ z=>z.elim,λ_ z=>z.elim,λ_ z=>z.elim,λ_ _ z=>z.elim]]
 .exact#[_,rfl,_,rfl,bK rfl]
 rintro _ rfl gH H4 ⟨x,fp,f⟩;obtain⟨v0,nJ,o0⟩:=f.at_ 0 _ rfl;obtain⟨v2,k7,o2⟩:=f.at_ 2 _ rfl;obtain⟨d0,_⟩:=o0;obtain⟨F,_⟩:=o2;cases d0;have Ye:=F;cases F with
 | @lst R xs ds hR e=>
  have ZC:=f.ex.hh _ _ r;refine#[_,k7,_,nJ,p,Z.C,n,[],rfl,ZC,T.W.cl,T.W.nR,∅,?_]
  have g4:x p=none:=f.ex.off p (by show H p≠none;rw[r];exact λz=>nomatch z) L
  refine q R x _ f.ex.gg (λb o j=>?_) (λb o j nb=>?_) f.ex.off aK Ye
  .rw[bf (bN j g4)];exact f.ex.sub _ _ j
  .rw[bf nb];exact f.ex.hh _ _ j
def Pz:bZ:=λa P=>∃(w:W),a= [.fM w]/\P (.int (w.length:Int))
def tH:FnOk P w Z.K mg base b9 1 T.m_many.f T.m_many.fd ["self"] (aX Z Pz):=by
 have d:=tS.nd;refine ba T.m_many.F tS [0] ∅ (λb R h=>by obtain⟨_,rfl,_⟩:=h;rfl) (λe A outer s H E b R c h=>?_)
 have g:=c.units;exists _,(aq (aJ (aE aZ rfl T.B.len aY (ae (sR T.W (aa 0)) ah))));obtain⟨a,rfl,q⟩:=h;exists _,rfl,a,rfl;refine(?_:R (.int ((a.map az).length:Int)));rw[aI];exact q
def Nh:bZ:=λa P=>∃(w:W),a= [.fM w]/\w.length<=14/\P (aL w)
def lY:FnOk P w Z.K mg base b9 1 T.m_turns.f T.m_turns.fd ["self"] (aX Z Nh):=by
 have d:=rf.nd;refine ba T.m_turns.F rf [0] ∅ (λb R h=>by obtain⟨_,rfl,_⟩:=h;rfl) (λe A outer s H E b R c h=>?_)
 have g:=c.units;refine#[_,(aq (aJ (jL (NC:= ["row"]) (src:= [none]) rfl (kA (aw ke)) trivial (bA (sR T.W (aa 0))) (λ_ _ _=>(bI 0 (show(["row"]:List Str).Nodup from by decide+kernel))) (λ_ _ _=>dF) (λ_ _ _=>(g8 pB rfl T.B.list dX (ae (aa 0) ah)))))),?_]
 obtain⟨a,rfl,i,q⟩:=h;exact#[_,rfl,a,rfl,gz (ρ:= [none]) az az a _ (λy j Y h=>#[_,rfl,h]) rfl (small ()) λk=>q]
end oW
namespace L2
open PySem PySem.Spec PyProof.Rows
section
variable {Z:DC} {X:Cx} {md:List Nat} {rn:Nat} {e:Expr} {pos p2:Pos} {te:bz} {t:jJ} {lo hi:Option Expr} {tl th:E7}
def Rv(t:jJ):cz:=λE a=>t a λb=>E.rt (.lst b)
def Ds(g:DF Z X rn e t):DSt Z X md rn (.Return (some e) pos) (Rv t):=by
 refine(w6 g).imp λD C H j=>?_;rfl';obtain⟨B,l,E,⟨G,m,S⟩,h,M⟩:=j;ac_rfl
 let F:Addr->Prop:=λb=>∃i,b∈m i
 have s:=S.ex.sub
 have n:Ext B.G₀ B.H₀ (plus G H F) H:=#[S.ex.gg.trans (fR s),kq s,S.ex.hh,λb a p=>by
  rw[jf (λ#[i,q]=>a (S.nw i b q).1)];exact S.ex.off b a p]
 refine#[plus G H F,l,_,kq s,#[S.len,λi d h=>?_],h,λJ r v f w y x o z c=>M.rt _ r v f w y (n.trans x) o z λb a=>#[S.ex.hh.free (c b a).1,(c b a).2]];obtain⟨v,A,o⟩:=S.at_ i d h;exact#[v,A,o.dv (fR s) λb a u e=>by rw[mQ #[i,a]];exact e]
end
section
variable {X:Cx} {e k:Expr} {te tk:TE} {pos p2:Pos}
end
section
variable {Z:DC} {X:Cx} {md:List Nat} {rn:Nat} {e e2 k:Expr} {es:List Expr} {pos p2 apos bh:Pos} {te tk tp:bz} {t u:jJ}
def Rr(b:List Nat)(i:Nat)(c:bZ)(t:iW):cz:=λE a=>t (df b a) λf=>c f λd=>E.nx (a.set i (some d))
def Lb(i:Nat){t:iW}{k:Nat}(P:X.N.Nodup)(F:FnOk X.prog X.w X.K X.mg X.base b9 k f z C (fg Z n l))(Q:dq k X.A)(R:Gl X y)(T:X.mg y\(.ref f))(U:am X.K (.ref f)=true)(a:Binds X.K z C [])
  (Y:DA Z X (e::g) t) (u:(y==("__debug__":Str))=false:=by decide) (he:starEach (e::g) X.env=(false,eval e X.env)::starEach g X.env:=by rfl) (fC:(backTo I (starEach g X.env)).any (·.1)=false:=by rfl)
  (hm:J.getD i 0=n:=by rfl) (hi:X.N[i]?\x:=by rfl) (hx:Loc X.env.scope x:=by subst_eqs) (hs:swapsWith (.Call (.Name y p) (e::g) [] I) (some (.Name x c)) m.line X.env=pure false:=by rfl)
  (hf:X.fn x=true\/X.env.scope.names.lookup x\.local:=by subst_eqs):DSt Z X J rn (.Assign [.Name x c] (.Call (.Name y p) (e::g) [] I) m) (Rr J i l t):=by
 refine(gZ P hi hx (yQ F Q R T U a .nil uR Y u he fC) hs hf).imp ?_;rintro D σ H ⟨B,ρ,E,⟨G,fp,S⟩,h,M⟩;refine#[G,_,_,S.ex.sub,S.Aj,h,λds q vs G1 H1 r bG=>?_];show fg Z n l (vs++ []) H1 _ E0;rw[jH];refine#[G1,ds,_,r.sub,bG,q,λd q v f L H2 x2 o nd O=>?_];have x:=r.trans x2;have s:∀b∈f,H b=none/\H2 b≠none/\L b=none:=λb a=>#[r.hh.free (O b a).1,(O b a).2];exact M.nx _ q _ _ #[L,_,(S.grow x).t5 hm o nd (λb a=>#[S.ex.hh.free (s b a).1,(s b a).2]) λb a j _ hj=>(S.nw j b hj).2.1 (s b a).1]
theorem fF.P8:∀{m:List V}{n:List D}{j:List Addr}(p:Nat){ds:List D},fF (λv d f=>(BL d=true/\Own Z G H 1 v d f)\/(BL d=false/\Dv Z G v d/\f= [])) m n j->j.Nodup->n[p]?\(.lst ds)->∃l c,m[p]?\(.ref l)/\H l\(.lst c)/\DvAll Z G c ds/\l∈j/\
  ∀g i,DvAll Z G g i->fF (λv d f=>(BL d=true/\Own Z G (upd H l (.lst g)) 1 v d f)\/(BL d=false/\Dv Z G v d/\f= [])) m (n.set p (.lst i)) j
 |_,_,_,_,_, .nil,_,h=>by simp at h
 |_,_,_,0,dp, .cons (f:=f) (fs:=fs) a o,q,h=>by
  simp at h;subst h
  rcases a with ⟨_,a⟩ | ⟨e,_⟩
  .obtain⟨l,c,ds,j,rfl,e,B,s,C⟩:=a.one
   cases e;obtain⟨dv,rfl⟩:=C.flat;subst s;refine#[l,c,rfl,B,dv,by simp,λg i w=> .cons (.inl #[rfl, .inl #[l,g,i,[],rfl,rfl,aK,rfl,w.own]]) (o.imp λv d f s r=>r.imp (λr=>#[r.1,r.2.keep (.refl _) λb x=>bf λz=>?_]) id)]
   have:=(cX.mp q).1
   exact this (by subst z;exact s _ x)
  .cases e
 |_,_,_,p+1,dp, .cons (f:=f) (fs:=fs) a o,q,h=>by
  obtain⟨E,F,y⟩:=eE.mp q;obtain⟨l,c,I,J,L,A,M⟩:=fF.P8 p (ds:=dp) o F (~~~h)
  refine#[l,c,by simpa using I,J,L,di _ A,λg i w=>?_]
  refine .cons (a.imp (λr=>#[r.1,r.2.keep (.refl _) λb x=>bf λz=>y b x l A z]) id) (M g i w)
def SIx.Xc(S:SIx Z B md g j H G n)(q:md.getD i 0=2)(h:g[i]?\(some (.tup b)))(y:b[p]?\(.lst m)):∃T a l c r,D.lst m= .lst r/\j[i]?\(some (.ref T))/\H T\(.tup a)/\a.length=b.length/\a[p]?\(.ref l)/\H l\(.lst c)/\DvAll Z G c r/\
  ∀d f,DvAll Z G d f->SIx Z B md (g.set i (some (.tup (b.set p (.lst f))))) j (upd H l (.lst d)) G n:=by
 obtain⟨v,s,o⟩:=S.at_ i _ h;rw[q] at o;obtain⟨T,a,rfl,w,x⟩:=o.tup;obtain⟨l,c,z,A,C,E,F⟩:=fF.P8 p x (S.nd i) y;refine#[T,a,l,c,m,rfl,s,S.ex.sub _ _ w,x.length,z,A,C,λd f I=>S.mut s E ?_];rw[q];exact .inr (.inl #[∅,T,a,_,rfl,rfl,w,F d f I])
def IB(i:Nat)(c:bz):cz:=λE b=>∃a,b[i]?\(some (.tup a))/\c b λd=>∃p j f,d= .int p/\iw a.length p\j/\a[j]?\(.lst f)/\E.nx (b.set i (some (.tup (a.set j (.lst [])))))
def vC(i:Nat)(m:DE Z X k tp)(n:md.getD i 0=2:=by rfl)(q:oX k:=by exact λ_ _=>rfl)
  (r:X.N[i]?\x:=by rfl) (s:kZ X.env.scope x:=by subst_eqs) (c:(x==("__debug__":Str))=false:=by decide) (v:(x==("__classdict__":Str))=false:=by decide)
  (w:attributeBase (.Subscript (.Name x a) k b) "clear" X.env (eval (.Subscript (.Name x a) k b) X.env)=eval (.Subscript (.Name x a) k b) X.env:=by rfl) (y:(apos.endLine==bh.line)=true:=by rfl)
  (z:swapsWith (.Call (.Attribute (.Subscript (.Name x a) k b) "clear" apos) [] [] bh) none pos.line X.env=pure false:=by rfl):DSt Z X md rn (.Expr (.Call (.Attribute (.Subscript (.Name x a) k b) "clear" apos) [] [] bh) pos) (IB i tp):=by
 refine(jB (HN UF PySem.F.slot_list_clear PySem.F.type_list_clear Jr (B8 HC (pv i r s c v) m q) w y) z).imp ?_;rintro D t H ⟨B,u,E,⟨G,A,S⟩,⟨oO,f,h⟩,M⟩;obtain⟨v0,d,o⟩:=S.at_ i _ f;refine#[_,d,S.ev true h ?_];rintro _ ⟨p,j,ds,rfl,C,c,h⟩;refine#[rfl,λv1 I H1 J x1 L=>?_];cases L;obtain⟨T,O,l,P,gO,Q,R,U,Y,e,g,bG,put⟩:=J.Xc n f c;cases Q;rw[R] at d;cases d;exact#[T,O,p, .ref l,rfl,rfl,fY.of U,Hg Y C e,ty_list g,l,P,rfl,rfl,g,M.nx _ h _ _ #[I,A,put [] [] .nil]]
end
def gI.ok{P:Program}{w:World}{H:Hp}{a:Addr}(x:gI b a d h):dN P w H h a (.ext (gI b a d)):=by
 refine#[x,let #[o,_,_,_,c,_]:=x;#[o,c],λg i p k=>?_];obtain⟨o,e,f,t,c,r⟩:=p;exact#[o,e,f,t,k o c,r]
def vh.elems(i:vh a b):ElemsOf (intKind P w) a.toList:=λe c=>by
 obtain⟨k,t,rfl⟩:=i.1 e c;exact#[#[k,by simp[intKind,Value.isInt],rfl],rfl]
theorem Aw:∀{b:List (Int×Value)}{c:List Int},(∀e∈b,∃k t,e=(hashInt k,Value.int k t))->IntsAre (b.map (·.2)) c->∀k,k∈c↔∃e∈b,Value.isInt k e.2=true
 | [],_,_,h,k=>by cases h;simp
 |e::b,c,d,h,k=>by
  obtain⟨j,t,rfl⟩:=d e (bP ..);cases h with
  |cons n g h=>
   have f:=Aw (λe a=>d e (cI _ a)) h k;rw[bH,f]
   constructor
   .rintro(rfl| ⟨e,a,q⟩)
    .exact#[_,bP ..,by simp[Value.isInt]]
    .exact#[e,cI _ a,q]
   .rintro⟨e,a,q⟩
    rcases bH.mp a with rfl|a
    .left;simp[Value.isInt] at q;exact q.symm
    .exact .inr #[e,a,q]
def vh.mem(i:vh d f)(k:Int):k∈f↔∃e∈d.toList,(intKind P w).is k e.2=true:=by
 obtain⟨a,_,g,b,c⟩:=i;rw[<-c.mem_iff];exact Aw a b k
theorem Av:∀{a:List Value}{b:List Int},IntsAre a b->a.length=b.length
 |_,_, .nil=>rfl
 |_,_, .cons _ _ h=>GM (·+1) (Av h)
theorem vh.size{a:Array (Int×Value)}(i:vh a d):a.size=d.length:=by
 obtain⟨_,_,e,b,c⟩:=i;rw[<-c.length_eq,<-Av b,aI,eD]
def _root_.PySem.fU.M1(S:fU b o a c t):a.size<=306:=by
 have:=S.few
 rcases S.tok.few with h|h|h|h<;>lia
def gI.setOf(x:gI b a c h):h.SetOf (intKind P w) a (λk=>decide (k∈c)) c.length:=by
 obtain⟨o,d,e,t,f,S,i⟩:=x;refine#[o,d,e,t,f,S.ex,S.dat,i.elems,λk=>?_,?_,S.fits,i.size]
 .rw[aa0];exact i.mem k
 .have:=S.M1
  show d.size<4096;lia
def Au(a:List Int)(k:Int):List Int:=if k∈a then a else a++ [k]
section
variable {X:Cx}
def Inv.Ia(I:Inv X c e H s)(h:H a\(.ext (gI b a d))):gI b a d s.heap:=(I.hok a _ h).1
def Mv(d:Gl X "set")(f:X.mg "set"=none):PE X (.Call (.Name "set" p) [] [] a) (λg H Q=>∀q,H q=none->Q (.ref q) (upd H q (.ext (gI (cP X.w) q [])))):=by
 intro c s g H Q I h;refine aau (lH I d f (u:= .type "set") (by decide+kernel) ?_ ∅ ∅)
 refine abP rfl (abQ (sL ?_));have i:=I.hok.fresh (bo _);refine#[.ref s.heap.objs.size,_,I.laid (t':=s.toks) (λb o e=>AC _ e) (bo _) (o:= .ext (gI (cP X.w) s.heap.objs.size [])) (gI.ok #[_,_,_,_,Gc _ rfl,fU.new X.w,?_]),rfl,h _ i];exact#[λe j=>by simp at j,iU,[],by simpa using IntsAre.nil, .refl _]
def Gu:OpR X (compareOp .NotIn) (λx y H Q=>∃k p b a,x= .int k/\y= .ref p/\H p\(.ext (gI b p a))/\Q (.bl (!decide (k∈a))) H):=by
 intro c s g H x y v u Q I d e h;obtain⟨k,p,b,a,rfl,rfl,f,q⟩:=h;obtain⟨t,rfl⟩:=d;cases e;exact wpAny_notInSet_of (knd:=intKind X.prog X.w) (k:=k) (by simp[intKind,Value.isInt]) rfl (I.Ia f).setOf #[.bl _,H,I.tok _,rfl,q]
def S9(w:World):V->List V->Hp->VK->Prop:=λx c H Q=>∃l b a k,x= .ref l/\c= [.int k]/\H l\(.ext (gI b l a))/\b=cP w/\a.length<=300/\Q .bC (upd H l (.ext (gI b l (Au a k))))
def L8:Ik X "set.add" (S9 X.w):=by
 intro m s σ H x M v us Q I N O h;obtain⟨l,b,a,k,rfl,rfl,g,rfl,hz,q⟩:=h;cases N;obtain⟨u,rfl,P⟩:=O.one;obtain⟨d,rfl⟩:=P;obtain⟨o,p,ep,t,r,S,i⟩:=I.Ia g;have R:s.TypeIs (.ref l) "set":=#[o,r,S.ex.1];refine On F.slot_set_add R F.entry_set_add ?_ (F.args_set_add_2 _ _);unfold Builtin.«set.add» Builtin.Frozenset.oneOther;simp only[abf,bind_assoc];unfold Builtin.Frozenset.addrOf setAdd;refine wpAny_bind (be ?_)
 try dsimp only
 refine wpAny_bind (be ?_)
 try dsimp only
 refine wpAny_bind ?_;refine KB ?_;have A:(intKind X.prog X.w).is k (.int k d)=true:=by simp[intKind,Value.isInt]
 refine wpAny_bind ((intKind X.prog X.w).pyHash A ?_);refine CF (s:={s with toks:=s.toks+1}) r S i.elems A (by rw[i.size];lia) (λT=>?_) λU h' B C Y t' Z E S' j=>?_
 .show wpAny _ _ (ret Value.none) _ _ _
  have f:k∈a:=(i.mem k).mpr T;rw[Au,ir f] at q
  have e:upd H l (.ext (gI (cP X.w) l a))=H:=by
   funext c
   by_cases z:c=l
   .subst z;rw[aK];exact g.symm
   .rw[bf z]
  rw[e] at q;exact be #[_,rfl, .bC,H,I.tok _,rfl,q]
 .show wpAny _ _ (ret Value.none) _ _ _
  have f:k∉a:=λz=>U ((i.mem k).mp z);rw[Au,mo f] at q
  have i':vh C (a++ [k]):=by
   obtain⟨a1,a2,ms,G,J⟩:=i;refine#[λe he=>?_,?_,?_]
   .rcases b6.mp (j.mem_iff.mp he) with h|h
    .exact a1 e h
    .rw[cR] at h;exact#[k,d,h]
   .rw[eE]
    refine#[a2,by simp,λx hx y L z=>f ?_]
    rw[cR] at L;rw[<-L,<-z];exact hx
   .have a5:IntsAre ((p.toList++ [((intKind X.prog X.w).hash k,Value.int k d)]).map (·.2)) (ms++ [k]):=by
     rw[cW];clear J j;generalize p.toList.map (·.2)=M at G
     induction G with
     |nil=>exact .cons k d .nil
     |cons n t _ ih=>exact .cons n t ih
    obtain⟨Ei,b1,b2⟩:=ye (j.map (·.2)) a5;exact#[Ei,b1,b2.trans (J.append_right _)]
  have I':=I.write (h':=h') (t':=s.toks+1) (x:=l) (e:=l) (o:= .ext (gI (cP X.w) l (a++ [k]))) (by rw[g];trivial) (.inl rfl) (λb u hb e=>Z.extBut b u hb e) #[B,E] (gI.ok #[B,C,Y,t',E,S',i'])
  exact be #[_,rfl, .bC,_,I',rfl,q]
def WS(r:V->List V->Hp->VK->Prop)(d:TE)(t:TA):TE:=λa H Q=>d a H λx c=>(∃p b e,x= .ref p/\c p\(.ext (gI b p e)))/\t a c λf g=>r x f g Q
variable {o e:Expr} {es:List Expr} {to:TE} {t:TA} {name:Str} {apos bh:Pos} {id:String} {r:V->List V->Hp->VK->Prop}
theorem OZ(m:PlainAttrs "set")(slot:Slot "set" name id)(n:typeOf (.builtin id)=pure (.type "method_descriptor"))(q:Ik X id r)(u:PE X o to)(w:PA X (e::d) t)
  (y:attributeBase o name X.env (eval o X.env)=eval o X.env:=by rfl)
  (z:((backTo f (starEach (e::d) X.env)).all (λx=>!x.1)&&(backToKw f (keywordEach [] X.env)).all (λx=>x.1.isSome)
   &&decide ((e::d).length+([]:List Keyword).length+(if ([]:List Keyword).isEmpty then 0 else 1)<30))=true:=by rfl)
  (A:(apos.endLine==f.line)=true:=by rfl) (B:starEach (e::d) X.env=(false,eval e X.env)::starEach d X.env:=by rfl) (C:(backTo f (starEach d X.env)).any (·.1)=false:=by rfl):
  PE X (.Call (.Attribute o name apos) (e::d) [] f) (WS r to t):=by
 intro c s g H Q I h;refine aa6 y z A rfl (thn (u c s g H _ I h) λv E #[x,F,i,G,J,L]=>?_);obtain⟨p,b,ns,rfl,M⟩:=J;cases G;obtain⟨j,_,_,_,k,S,_⟩:=i.Ia M;refine#["set",id,m,slot,n,#[j,k,S.ex.1],λa N=>?_,?_]
 .cases N;exact#[j,k,S.ex.2.1]
 have l:=w f c E g F _ i L;rw[B] at l ⊢;refine aaG (by show(false|| (backTo f (starEach d X.env)).any (·.1))=false;rw[C]<;>rfl) (abp ?_)
 exact thn l λO P #[R,T,U,Y,Z]=>q c P g T (.ref p) R (.ref p) O Q U rfl Y Z
theorem zH(l:X.calm=true):cw X (.builtin "sorted") (λf H Q=>∃(p:Addr)(b:List Int),f= [.ref p]/\H p\(.ext (gI (cP X.w) p b))/\b.length<64/\∀(q:Addr)(a:List Int),H q=none->a.Perm b->a.Pairwise (·<=·)->Q (.ref q) (upd H q (.lst (a.map V.int)))):=by
 intro g s J H f L Q I m h;obtain⟨p,b,rfl,n,v,q⟩:=h;obtain⟨u,rfl,x⟩:=m.one;cases x;obtain⟨o,M,N,t,y,S,i⟩:=I.Ia n;obtain⟨_,_,z,A,j⟩:=id i;refine EL (I.ok.hd l) y S A (by rw[i.size];exact v) λO B c out e a d le C E k F=>?_
 have G:H c=none:=I.hok.fresh le;have P:64<=sizeLine:=∅
 have R:=(k.trans j).length_eq;exact#[.ref c,_,I.laid (t':=B) d le (o:= .lst (a.map V.int)) #[by rw[aI];lia,out.toList,e,og E,by simpa using C],rfl,q c a G (k.trans j) F]
end
section
variable {Z:DC} {X:Cx} {B:Bs} {md:List Nat} {rn:Nat} {ρ:DN} {σ:St} {H G:Hp} {fp:Nat->List Addr} {a e k o:Expr} {ta te tk tp:bz} {pos apos bh p2:Pos}
def Us(c:Bool):g6:=λa b P=>∃k f d,a= .int k/\b= .set f d/\P (.bl (if c=true then !decide (k∈d) else decide (k∈d)))
def Gp:OpR X (compareOp .NotIn) (cA Z (Us true)):=by
 refine Gu.imp ?_;rintro x y H Q ⟨G,a,b,P,s,c,d,⟨k,i,f,rfl,rfl,h⟩,q⟩;cases c;cases d with
 |set g=>exact#[k,_,_,f,rfl,rfl,s _ _ g,q _ h _ G H (.refl s) (.bl _)]
def Ry(w:World)(i:Nat):cz:=λE b=>E.nx (b.set i (some (.set (cP w) [])))
def Lc(i:Nat)(n:X.N.Nodup)(q:Gl X "set")(r:X.mg "set"=none)(s:t.getD i 0=99:=by rfl)(u:X.N[i]?\x:=by rfl)(v:Loc X.env.scope x:=by subst_eqs)(y:swapsWith (.Call (.Name "set" p) [] [] A) (some (.Name x d)) m.line X.env=pure false:=by rfl)
  (C:X.fn x=true\/X.env.scope.names.lookup x\.local:=by subst_eqs):DSt Z X t J (.Assign [.Name x d] (.Call (.Name "set" p) [] [] A) m) (Ry X.w i):=by
 refine(gZ n u v (Mv q r) y C).imp ?_;rintro D L H ⟨B,O,E,⟨G,P,S⟩,h,M⟩;intro c g;have F:G c=none:=S.ex.sub.free g;have x:Ext G H G (upd H c (.ext (gI (cP X.w) c []))):=#[.refl _,S.ex.sub.trans (bq g _),bq g _,λ_ _ z=>z];refine M.nx _ h _ _ #[G,_,(S.grow x).t5 s (f:= [c]) (.inr (.inr #[c,_,rfl,aK,rfl, .inl #[rfl,_,[],rfl,rfl]])) (by simp) (λb l=>?_) λb l j _ I=>?_]
 .rw[cR] at l;subst l
  exact#[S.ex.hh.free g,(by rw[aK];exact λz=>nomatch z),F]
 .rw[cR] at l;subst l
  exact(S.nw j _ I).2.1 g
def Rg(w:World)(f:List Nat)(m:Bool)(i:Nat)(g:bz):cz:=λE b=>∃c,b[i]?\(some (.set (cP w) c))/\g (zi f m b) λd=>∃k,d= .int k/\c.length<=300/\E.nx (b.set i (some (.set (cP w) (Au c k))))
def K5(m:Bool)(i:Nat)(y:DE Z X e te)(f:md.getD i 0=99:=by rfl)(z:X.N[i]?\x:=by rfl)(A:kZ X.env.scope x:=by subst_eqs)(g:(x==("__debug__":Str))=false:=by decide)(C:(x==("__classdict__":Str))=false:=by decide)
  (I:attributeBase (.Name x c) "add" X.env (eval (.Name x c) X.env)=eval (.Name x c) X.env:=by rfl)
  (J:((backTo bh (starEach [e] X.env)).all (λx=>!x.1)&&(backToKw bh (keywordEach [] X.env)).all (λx=>x.1.isSome)&&decide (([e]:List Expr).length+([]:List Keyword).length+(if ([]:List Keyword).isEmpty then 0 else 1)<30))=true:=by rfl)
  (L:(apos.endLine==bh.line)=true:=by rfl) (n:starEach [e] X.env=(false,eval e X.env)::starEach [] X.env:=by rfl) (O:(backTo bh (starEach [] X.env)).any (·.1)=false:=by rfl)
  (P:swapsWith (.Call (.Attribute (.Name x c) "add" apos) [e] [] bh) none pos.line X.env=pure false:=by rfl):
  DSt Z X md rn (.Expr (.Call (.Attribute (.Name x c) "add" apos) [e] [] bh) pos) (Rg X.w md m i te):=by
 refine(jB (OZ acv PySem.F.slot_set_add PySem.F.type_set_add L8 (pv i z A g C) (d6 y gD n) I J L n O) P).imp ?_;rintro D σ H ⟨B,ρ,E,⟨G,Q,S⟩,⟨R,p,h⟩,M⟩;obtain⟨v0,j,q⟩:=S.at_ i _ p;rw[f] at q;obtain⟨l,rfl,T,_⟩:=q.QP;refine#[_,j,#[l,_,_,rfl,T],S.ev m h λd g=>?_];obtain⟨k,rfl,U,Y⟩:=g;refine#[by cases m<;>trivial,λv a H' r x dv=>?_]
 cases dv;obtain⟨v1,s,t⟩:=r.at_ i _ p;rw[j] at s;cases s;rw[f] at t;obtain⟨l',o,LL,u⟩:=t.QP;cases o;refine#[l,_,R,k,rfl,rfl,LL,rfl,U,M.nx _ Y _ _ #[a,Q,r.mut j (b:=l) (by rw[u];simp) ?_]]
 rw[f,u];exact .inr (.inr #[l,_,rfl,aK,rfl, .inl #[rfl,_,_,rfl,rfl]])
def Uo(g:List Nat)(i:Nat)(h:bz):cz:=λE b=>∃c,b[i]?\(some (.lst c))/\h (df g b) λd=>∃f,d= .lst f/\c.length+f.length<=sizeLine/\E.nx (b.set i (some (.lst (c++f))))
def NZ(i:Nat)(t:DE Z X e te)(g:md.getD i 0=1:=by rfl)(u:X.N[i]?\x:=by rfl)(w:kZ X.env.scope x:=by subst_eqs)(f:(x==("__debug__":Str))=false:=by decide)(y:(x==("__classdict__":Str))=false:=by decide)
  (z:attributeBase (.Name x c) "extend" X.env (eval (.Name x c) X.env)=eval (.Name x c) X.env:=by rfl)
  (A:((backTo bh (starEach [e] X.env)).all (λx=>!x.1)&&(backToKw bh (keywordEach [] X.env)).all (λx=>x.1.isSome)&&decide (([e]:List Expr).length+([]:List Keyword).length+(if ([]:List Keyword).isEmpty then 0 else 1)<30))=true:=by rfl)
  (C:(apos.endLine==bh.line)=true:=by rfl) (j:starEach [e] X.env=(false,eval e X.env)::starEach [] X.env:=by rfl) (I:(backTo bh (starEach [] X.env)).any (·.1)=false:=by rfl)
  (J:swapsWith (.Call (.Attribute (.Name x c) "extend" apos) [e] [] bh) none pos.line X.env=pure false:=by rfl):
  DSt Z X md rn (.Expr (.Call (.Attribute (.Name x c) "extend" apos) [e] [] bh) pos) (Uo md i te):=by
 refine(jB (yP UF PySem.F.slot_list_extend PySem.F.type_list_extend Gg (pv i u w f y) (d6 t gD j) z A C j I) J).imp ?_;rintro D o H ⟨B,ρ,E,⟨G,L,S⟩,⟨ds,m,h⟩,M⟩;obtain⟨l,xs,_,_,n,O,_⟩:=S.one g m;refine#[_,n,ty_list O,S.ev false h λd f=>#[trivial,λv P H' p x dv=>?_]];obtain⟨zs,rfl,Q,R⟩:=f;obtain⟨l',T,gO,U,q,Y,r,put⟩:=p.one g m;cases U;rw[n] at q;cases q;cases dv with
 | @lst b a _ k s=>
  exact#[l,b,T,a,rfl,rfl,Y,p.ex.sub _ _ k,by rw[r.length,s.length];exact Q,M.nx _ R _ _ #[P,L,put _ _ (r.append s)]]
end
def fX.ok{P:Program}{w:World}{H:Hp}{a:Addr}(x:fX b a d h):dN P w H h a (.ext (fX b a d)):=by
 refine#[x,let #[o,_,_,_,c,_]:=x;#[o,c],λg i p k=>?_];obtain⟨o,e,f,t,c,r⟩:=p;exact#[o,e,f,t,k o c,r]
theorem i8.mem:∀{b:List (Int×Addr)}{c:List (Int×Int)},i8 H b c->∀e∈b,∃p∈c,e.1=c5 p/\H e.2\(.tup [.int p.1, .int p.2])
 |_,_, .nil,e,a=>nomatch a
 |_,_, .cons (p:=p) h t,e,a=>by
  rcases bH.mp a with rfl|a
  .exact#[p,bP ..,rfl,h]
  .obtain⟨q,d,f⟩:=t.mem e a
   exact#[q,cI _ d,f]
theorem i8.QE:∀{c:List (Int×Addr)}{d:List (Int×Int)},i8 H c d->∀p∈d,∃a,(c5 p,a)∈c/\H a\(.tup [.int p.1, .int p.2])
 |_,_, .nil,p,b=>nomatch b
 |_,_, .cons (a:=a) h t,p,b=>by
  rcases bH.mp b with rfl|b
  .exact#[a,bP ..,h]
  .obtain⟨e,f,g⟩:=t.QE p b
   exact#[e,cI _ f,g]
theorem i8.len:∀{a:List (Int×Addr)}{b:List (Int×Int)},i8 H a b->a.length=b.length
 |_,_, .nil=>rfl
 |_,_, .cons _ t=>GM (·+1) t.len
theorem i8.snoc(h:H a\(.tup [.int p.1, .int p.2])):∀{b:List (Int×Addr)}{c:List (Int×Int)},i8 H b c->i8 H (b++ [(c5 p,a)]) (c++ [p])
 |_,_, .nil=> .cons h .nil
 |_,_, .cons h' t=> .cons h' (i8.snoc h t)
section
variable {X:Cx} {pins:List (Addr×Obj)} {σ:St} {H:Hp} {s:Shared}
def Inv.vP{p:Int×Int}(I:Inv X pins σ H s)(h:H a\(.tup [.int p.1, .int p.2])):IsTupleKey (intKind X.prog X.w) s.heap [p.1,p.2] a:=by
 rfl';obtain⟨c,r,⟨o,d,e,n,f⟩,_⟩:=I.tuple (fY.of h);obtain⟨i,j,rfl,⟨t,rfl⟩,⟨u,rfl⟩⟩:=Vals.two r;ac_rfl;exact#[o,_,n,d,e,f, .cons (by simp[intKind,Value.isInt]) (.cons (by simp[intKind,Value.isInt]) .nil)]
def Inv.qj(I:Inv X pins σ H s)(h:H a\(.ext (fX b a c))):fX b a c s.heap:=(I.hok a _ h).1
def nS(P:Program)(w:World)(p:Int×Int):tupleKeyHash (intKind P w) [p.1,p.2]=c5 p:=rfl
def Inv.Wr(I:Inv X pins σ H s)(g:i8 H b f)(h:a.toList.Perm (b.map λe=>(e.1,Value.ref e.2))):Ki X.prog X.w s.heap a:=λi e c=>by
 rfl';have k:e∈a.toList:=by rw[<-gk] at c;exact dH c
 obtain⟨d,l,rfl⟩:=bT.mp (h.mem_iff.mp k);obtain⟨p,_,m,n⟩:=g.mem d l;ac_rfl;exact#[[p.1,p.2],d.2,by rw[nS,m],I.vP n]
def Inv.pI{h:List (Int×Addr)}{j:List (Int×Int)}{b:Array (Int×Value)}(I:Inv X pins σ H s)(k:i8 H h j)(l:b.toList.Perm (h.map λe=>(e.1,Value.ref e.2)))(p:Int×Int):
  (∃(i:Nat)(c:Addr),b[i]?\(tupleKeyHash (intKind X.prog X.w) [p.1,p.2], .ref c)/\IsTupleKey (intKind X.prog X.w) s.heap [p.1,p.2] c)↔p∈j:=by
 constructor
 .rintro⟨i,c,d,f⟩
  have g:(tupleKeyHash (intKind X.prog X.w) [p.1,p.2],Value.ref c)∈b.toList:=by rw[<-gk] at d;exact dH d
  obtain⟨m,r,t⟩:=bT.mp (l.mem_iff.mp g);obtain⟨q,u,x,n⟩:=k.mem m r
  have:m.2=c:=by have:=(aao t).2;injection this
  rw[this] at n
  have:=(I.vP n).inj f
  simp at this
  have:q=p:=aal this.1 this.2
  rw[<-this];exact u
 .intro v
  obtain⟨a,d,f⟩:=k.QE p v;have g:(c5 p,Value.ref a)∈b.toList:=l.mem_iff.mpr (bT.mpr #[_,d,rfl]);obtain⟨i,o⟩:=List.mem_iff_getElem?.mp g;rw[gk] at o;exact#[i,a,by rw[nS];exact o,I.vP f]
def JD(d:Gl X "set")(f:X.mg "set"=none):PE X (.Call (.Name "set" p) [] [] a) (λg H Q=>∀q,H q=none->Q (.ref q) (upd H q (.ext (fX (cP X.w) q [])))):=by
 intro c s g H Q I h;refine aau (lH I d f (u:= .type "set") (by decide+kernel) ?_ ∅ ∅)
 refine abP rfl (abQ (sL ?_));have i:=I.hok.fresh (bo _);exact#[.ref s.heap.objs.size,_,I.laid (t':=s.toks) (λb o e=>AC _ e) (bo _) (o:= .ext (fX (cP X.w) s.heap.objs.size [])) (fX.ok #[_,_,_,_,Gc _ rfl,fU.new X.w, .refl _]),rfl,h _ i]
def VT(i:X.A.units+64<cLine)(I:Inv X pins σ H s)(j:H c\(.tup [.int p.1, .int p.2]))(k:H a\(.ext (fX (cP X.w) a e)))(f:i8 H e b)
  (h:∀d,Q (decide (p∈b)) {s with toks:=d}):wpAny (model X.prog X.w) X.A (contains (.ref a) (.ref c)) Q E s:=by
 rfl';obtain⟨o,m,r,t,n,S,g⟩:=I.qj k;ac_rfl;refine t8 i n S (I.Wr f g) (I.vP j) λd=>?_
 have:PySem.pI X.prog X.w s.heap m [p.1,p.2]=decide (p∈b):=by
  classical
  unfold PySem.pI;exact aaH.mpr (I.pI f g p)
 rw[this];exact h d
def Gs(f:X.A.units+64<cLine):OpR X (compareOp .NotIn) (λx y H Q=>∃c a b d p,x= .ref c/\y= .ref a/\H c\(.tup [.int p.1, .int p.2])/\H a\(.ext (fX (cP X.w) a b))/\i8 H b d/\Q (.bl (!decide (p∈d))) H):=by
 intro e s n H x y v u Q I g i h;rfl';obtain⟨c,a,b,d,p,rfl,rfl,k,l,m,q⟩:=h;ac_rfl;cases g;cases i;exact wpAny_bind (VT f I k l m λr=>be #[.bl _,H,I.tok _,rfl,q])
def L7(hu:X.A.units+64<cLine):Ik X "set.add" (λx k H Q=>∃l c d a p,x= .ref l/\k= [.ref c]/\H c\(.tup [.int p.1, .int p.2])/\H l\(.ext (fX (cP X.w) l d))/\i8 H d a/\a.length<=300/\
  (p∈a->Q .bC H)/\(p∉a->Q .bC (upd H l (.ext (fX (cP X.w) l (d++ [(c5 p,c)])))))):=by
 intro m s σ H x k v us Q I C E h;rfl';obtain⟨l,c,d,a,p,rfl,rfl,J,n,g,hz,L,M⟩:=h;subst C;obtain⟨u,rfl,N⟩:=E.one;subst N;obtain⟨o,O,ep,t,q,S,f⟩:=I.qj n;have P:s.TypeIs (.ref l) "set":=#[o,q,S.ex.1];ac_rfl;refine On F.slot_set_add P F.entry_set_add ?_ (F.args_set_add_2 _ _);unfold Builtin.«set.add» Builtin.Frozenset.oneOther;simp only[abf,bind_assoc];unfold Builtin.Frozenset.addrOf setAdd;refine wpAny_bind (be ?_)
 try dsimp only
 refine wpAny_bind (be ?_)
 try dsimp only
 refine wpAny_bind ?_;refine KB ?_;have r:=I.vP J;refine wpAny_bind (wpAny_pyHash_tuple ?_ r ?_)
 .show X.A.units+1<cLine;lia
 have sz:O.size=a.length:=by
  have:=f.length_eq
  rw[eD,aI,g.len] at this;exact this
 refine CG (s:={s with toks:=s.toks+([p.1,p.2].length+1)}) (by show X.A.units+1<cLine;lia) q S (I.Wr g f) r () (λR=>?_) λT h' y U Y t' Z B S' j=>?_
 .show wpAny _ _ (ret Value.none) _ _ _
  exact be #[_,rfl, .bC,H,I.tok _,rfl,L ((I.pI g f p).mp R)]
 .show wpAny _ _ (ret Value.none) _ _ _
  have As:p∉a:=λz=>by
   obtain⟨i,c',h1,h2⟩:=(I.pI g f p).mpr z;exact T i _ h1 c' rfl h2
  have I':=I.write (h':=h') (t':=s.toks+([p.1,p.2].length+1)) (x:=l) (e:=l) (o:= .ext (fX (cP X.w) l (d++ [(c5 p,c)]))) (by rw[n];trivial) (.inl rfl) (λb u hb e=>Z.extBut b u hb e) #[y,B] (fX.ok #[y,U,Y,t',B,S',by
   rw[cW];exact j.trans (f.append_right _)])
  exact be #[_,rfl, .bC,_,I',rfl,M As]
def WR(b:Bool)(r:V->List V->Hp->VK->Prop)(d:TE)(t:TA):TE:=λa H Q=>d a H λx c=>(∃p e,x= .ref p/\c p\(.ext (fX b p e)))/\t a c λf g=>r x f g Q
variable {o e:Expr} {es:List Expr} {to:TE} {t:TA} {name:Str} {apos bh:Pos} {id:String} {r:V->List V->Hp->VK->Prop}
theorem OY{b:Bool}(n:PlainAttrs "set")(slot:Slot "set" name id)(q:typeOf (.builtin id)=pure (.type "method_descriptor"))(u:Ik X id r)(w:PE X o to)(y:PA X (e::d) t)
  (z:attributeBase o name X.env (eval o X.env)=eval o X.env:=by rfl)
  (A:((backTo f (starEach (e::d) X.env)).all (λx=>!x.1)&&(backToKw f (keywordEach [] X.env)).all (λx=>x.1.isSome)
   &&decide ((e::d).length+([]:List Keyword).length+(if ([]:List Keyword).isEmpty then 0 else 1)<30))=true:=by rfl)
  (B:(apos.endLine==f.line)=true:=by rfl) (C:starEach (e::d) X.env=(false,eval e X.env)::starEach d X.env:=by rfl) (E:(backTo f (starEach d X.env)).any (·.1)=false:=by rfl):
  PE X (.Call (.Attribute o name apos) (e::d) [] f) (WR b r to t):=by
 intro c s g H Q I h;refine aa6 z A B rfl (thn (w c s g H _ I h) λv F G=>?_);rfl';obtain⟨x,L,j,M,N,O⟩:=G;ac_rfl;rfl';obtain⟨p,g9,rfl,P⟩:=N;subst M;obtain⟨k,_,_,_,l,S,_⟩:=j.qj P;ac_rfl;refine#["set",id,n,slot,q,#[k,l,S.ex.1],λa R=>?_,?_]
 .cases R;exact#[k,l,S.ex.2.1]
 have m:=y f c F g L _ j O;rw[C] at m ⊢;refine aaG (by show(false|| (backTo f (starEach d X.env)).any (·.1))=false;rw[E]<;>rfl) (abp ?_)
 exact thn m λT U #[Y,Z,I2,r2,q2]=>u c U g Z (.ref p) Y (.ref p) T Q I2 rfl r2 q2
end
def D3(a:List (Int×Int))(p:Int×Int):List (Int×Int):=if p∈a then a else a++ [p]
section
variable {Z:DC} {X:Cx} {B:Bs} {md:List Nat} {rn:Nat} {ρ:DN} {σ:St} {H G:Hp} {fp:Nat->List Addr} {a e k o:Expr} {ta te tk tp:bz} {pos apos bh p2:Pos}
def MD(p:Int×Int):D:= .tup [.int p.1, .int p.2]
def Dv.HL(h:Dv Z G v (MD p)):∃c,v= .ref c/\G c\(.tup [.int p.1, .int p.2]):=by
 rfl';obtain⟨c,l,rfl,b,f⟩:=Dv.pO h;obtain⟨m,n,rfl,g,i⟩:=f.Me;rw[g.ofInt,i.ofInt] at b;ac_rfl;exact#[c,rfl,b]
def Ur(w:World)(c:Bool):g6:=λa b P=>∃p d,a=MD p/\b= .x (.tN (cP w) d)/\P (.bl (if c=true then !decide (p∈d) else decide (p∈d)))
def Gn(d:X.A.units+64<cLine):OpR X (compareOp .NotIn) (cA Z (Ur X.w true)):=by
 refine(Gs d).imp ?_;rintro x y H Q ⟨G,a,b,P,s,f,g,⟨p,i,rfl,rfl,h⟩,q⟩;obtain⟨c,rfl,j⟩:=f.HL;cases g with
 |x l ok=>
  rfl';obtain⟨_,n,rfl,r⟩:=ok;ac_rfl;exact#[c,_,n,i,p,rfl,rfl,s _ _ j,s _ _ l,r.mono s,q _ h _ G H (.refl s) (.bl _)]
def NU(w:World)(i:Nat):cz:=λE b=>E.nx (b.set i (some (.x (.tN (cP w) []))))
def II(i:Nat)(n:X.N.Nodup)(q:Gl X "set")(r:X.mg "set"=none)(s:t.getD i 0=98:=by rfl)(u:X.N[i]?\x:=by rfl)(v:Loc X.env.scope x:=by subst_eqs)(y:swapsWith (.Call (.Name "set" p) [] [] A) (some (.Name x d)) m.line X.env=pure false:=by rfl)
  (C:X.fn x=true\/X.env.scope.names.lookup x\.local:=by subst_eqs):DSt Z X t O (.Assign [.Name x d] (.Call (.Name "set" p) [] [] A) m) (NU X.w i):=by
 refine(gZ n u v (JD q r) y C).imp ?_;intro D P H F;rfl';obtain⟨B,R,E,⟨G,T,S⟩,h,M⟩:=F;ac_rfl;intro c g;have J:G c=none:=S.ex.sub.free g;have x:Ext G H G (upd H c (.ext (fX (cP X.w) c []))):=#[.refl _,S.ex.sub.trans (bq g _),bq g _,λ_ _ z=>z];refine M.nx _ h _ _ #[G,_,(S.grow x).t5 s (f:= [c]) (.inr (.inr #[c,_,rfl,aK,rfl, .inr #[rfl,_,rfl,iU,[],rfl, .nil]])) (by simp) (λb l=>?_) λb l j _ L=>?_]
 .rw[cR] at l;subst l
  exact#[S.ex.hh.free g,(by rw[aK];exact λz=>nomatch z),J]
 .rw[cR] at l;subst l
  exact(S.nw j _ L).2.1 g
def Rf(w:World)(f:List Nat)(m:Bool)(i:Nat)(g:bz):cz:=λE b=>∃c,b[i]?\(some (.x (.tN (cP w) c)))/\g (zi f m b) λd=>∃p,d=MD p/\c.length<=300/\E.nx (b.set i (some (.x (.tN (cP w) (D3 c p)))))
def K4(m:Bool)(i:Nat)(hu:X.A.units+64<cLine)(he:DE Z X e te)(s:md.getD i 0=98:=by rfl)(hi:X.N[i]?\x:=by rfl)(hv:kZ X.env.scope x:=by subst_eqs)(t:(x==("__debug__":Str))=false:=by decide)(eH:(x==("__classdict__":Str))=false:=by decide)
  (dB:attributeBase (.Name x g) "add" X.env (eval (.Name x g) X.env)=eval (.Name x g) X.env:=by rfl)
  (iF:((backTo bh (starEach [e] X.env)).all (λx=>!x.1)&&(backToKw bh (keywordEach [] X.env)).all (λx=>x.1.isSome)&&decide (([e]:List Expr).length+([]:List Keyword).length+(if ([]:List Keyword).isEmpty then 0 else 1)<30))=true:=by rfl)
  (cu:(apos.endLine==bh.line)=true:=by rfl) (I:starEach [e] X.env=(false,eval e X.env)::starEach [] X.env:=by rfl) (dP:(backTo bh (starEach [] X.env)).any (·.1)=false:=by rfl)
  (lV:swapsWith (.Call (.Attribute (.Name x g) "add" apos) [e] [] bh) none pos.line X.env=pure false:=by rfl):
  DSt Z X md rn (.Expr (.Call (.Attribute (.Name x g) "add" apos) [e] [] bh) pos) (Rf X.w md m i te):=by
 refine(jB (OY (b:=cP X.w) acv PySem.F.slot_set_add PySem.F.type_set_add (L7 hu) (pv i hi hv t eH) (d6 he gD I) dB iF cu I dP) lV).imp ?_;intro D σ H aV;rfl';obtain⟨B,J,E,⟨G,L,S⟩,⟨O,n,h⟩,M⟩:=aV;ac_rfl;rfl';obtain⟨v0,y,P⟩:=S.at_ i _ n;rw[s] at P;obtain⟨l,φ,rfl,hl,_,nd,es,rfl,pe⟩:=P.xA;ac_rfl;refine#[_,y,#[l,_,rfl,hl],S.ev m h λd t=>?_];obtain⟨p,rfl,hz,q⟩:=t;refine#[by cases m<;>trivial,λv Q H' C x dv=>?_]
 rfl';obtain⟨c,rfl,R⟩:=dv.HL;obtain⟨v1,T,U⟩:=C.at_ i _ n;rw[y] at T;ac_rfl;cases Do T;rfl';rw[s] at U;obtain⟨l',φ',e',LL,Y,jP,g9,rfl,k⟩:=U.xA;cases e';ac_rfl;refine#[l,c,g9,O,p,rfl,rfl,x.sub _ _ R,LL,k.mono x.sub,hz,λr=>?_,λr=>?_]
 .rw[D3,ir r] at q
  refine M.nx _ q _ _ #[Q,L,?_]
  have e:J.set i (some (.x (.tN (cP X.w) O)))=J:=by
   refine rJ λj=>?_
   by_cases z:i=j
   .subst z
    have eS:=(eC.mp n).1;rw[kY eS,n]
   .rw[jF z]
  rw[e];exact C
 .rw[D3,mo r] at q
  refine M.nx _ q _ _ #[Q,L,C.mut y (b:=l) (by rw[Y];simp) ?_]
  rw[s,Y];refine .inr (.inr #[l,_,rfl,aK,rfl, .inr #[rfl,_,rfl,?_,_,rfl,k.snoc R]]);rw[eE];refine#[jP,by simp,λa ha b o z=>r ?_]
  rw[cR] at o;rw[<-o,<-z];exact ha
end
section
variable {Z:DC} {X:Cx}
def N0(h:Dv Z G v (az r)):∃a,v= .ref a/\G a\(.lst ((CD r).map V.int)):=by
 obtain⟨a,d,rfl,b,c⟩:=Dv.hV h
 have:d=(CD r).map V.int:=by
  have e:r.map ao=(CD r).map D.int:=by unfold CD;rw[b7];rfl
  rw[e] at c;exact mG c
 rw[this] at b;exact#[a,rfl,b]
def Pl(h:G a\(.lst ((CD r).map V.int))):Dv Z G (.ref a) (az r):=by
 have e:az r= .lst ((CD r).map D.int):=by unfold az CD;rw[b7];rfl
 rw[e];exact .lst h (.ints _)
theorem Af:∀{b:List V}{L:List (List Nat)},DvAll Z G b (L.map az)->∃A:List (Addr×List Nat),b=A.map (λe=>V.ref e.1)/\A.map (·.2)=L/\Ii G A
 |b,[],h=>by cases h;exact#[[],rfl,rfl,λp c=>by cases c]
 |b,r::L,h=>by
  cases h with
  |cons a f=>
   obtain⟨A,g,i,j⟩:=Af f;obtain⟨p,rfl,c⟩:=N0 a;refine#[(p,r)::A,by rw[g];rfl,by rw[<-i];rfl,λq d=>?_]
   rcases bH.mp d with rfl|d
   .exact c
   .exact j q d
theorem Ii.dv:∀{L:List (Addr×List Nat)},Ii G L->DvAll Z G (L.map λe=>V.ref e.1) ((L.map (·.2)).map az)
 | [],_=> .nil
 |x::L,h=> .cons (Pl (h x (bP ..))) (Ii.dv λp a=>h p (cI _ a))
end
section
variable {Z:DC} {X:Cx} {md:List Nat} {rn:Nat} {a b:Expr} {pos:Pos} {ta:iW}
def Uy(d:List Nat)(i j:Nat)(e:iW):cz:=λE c=>e (df d c) λf=>∃a b,f= [a,b]/\E.nx ((c.set i (some a)).set j (some b))
def Ht(i j:Nat){kt k2 Gy}(d:X.calm=true)(e:X.N.Nodup)(f:DA Z X [a,b] ta)(g:X.N[i]?\x:=by rfl)(k:X.N[j]?\y:=by rfl)(l:i≠j:=by decide)(m:md.getD i 0=0:=by rfl)(n:md.getD j 0=0:=by rfl)
  (o:X.env.scope.names.lookup x\.local:=by rfl) (p:X.env.scope.names.lookup y\.local:=by rfl)
  (hw:swappedStores [.Tuple [.Name x c, .Name y py] kt pt] (.Tuple [a,b] k2 Gy) X.env=pure (some [x,y]):=by rfl)
  (q:swapsWithSole [.Tuple [.Name x c, .Name y py] kt pt] (.Tuple [a,b] k2 Gy) pos.line X.env=pure false:=by rfl):
  DSt Z X md rn (.Assign [.Tuple [.Name x c, .Name y py] kt pt] (.Tuple [a,b] k2 Gy) pos) (Uy md i j ta):=by
 refine(Pa d e g k l o p f hw q).imp ?_;intro D I H r;rfl';obtain⟨B,t,E,⟨G,L,S⟩,h,M⟩:=r;ac_rfl;exists G,df md t,_,S.ex.sub,S.Aj,h;rintro _ ⟨a,b,rfl,w⟩ O z P x A;obtain⟨v,u,rfl,C,F⟩:=A.Me;exact#[v,u,rfl,M.nx _ w _ _ #[z,_,((S.grow x).qj m C).qj n F]]
end
section
variable {Z:DC} {X:Cx} {e:Expr} {te:bz} {pos p:Pos}
def N8(w:World)(c:bz):jJ:=λf P=>c f λd=>∃a:List Int,d= .set (cP w) a/\a.length<64/\∀b:List Int,b.Perm a->b.Pairwise (·<=·)->P (b.map D.int)
def IG(f:X.calm=true)(g:Gl X "sorted")(i:X.mg "sorted"=none)(j:DE Z X e te)(c:starEach [e] X.env=(false,eval e X.env)::starEach [] X.env:=by rfl)(k:(backTo pos (starEach [] X.env)).any (·.1)=false:=by rfl):DF Z X 1 (.Call (.Name "sorted" p) [e] [] pos) (N8 X.w te):=by
 refine(qN (zH f) g i kz (d6 j gD c) ∅ ∅ c k).imp ?_
 intro I H Q l;rfl';obtain⟨G,n,P,s,o,h,q⟩:=l;ac_rfl;exists G,n,_,s,o,h;rintro _ ⟨r,rfl,t,u⟩ v x L b dv;cases dv with
 |set y=>
  refine#[_,r,rfl,b.sub _ _ y,t,λa z d A B=>?_];obtain⟨C,E,F⟩:=jA b d (DvAll.ints (Z:=Z) (H:=x) z);exact q _ (u _ A B) _ _ _ _ (b.side d) C E F
variable {o:Expr} {ta:bz} {m:Str} {f:Addr} {fd:FuncData} {ps:List Str} {sd:bZ} {k n:Nat} {apos:Pos}
end
section
variable {Z:DC} {X:Cx} {pins:List (Addr×Obj)} {σ:St} {H:Hp} {s:Shared} {o e:Expr} {ta tb:bz} {apos:Pos}
end
def iz.ok{P:Program}{w:World}{H:Hp}{a:Addr}{vs:List FV}(x:iz a c vs h):dN P w H h a (.ext (iz a c vs)):=by
 refine#[x,let #[_,o,_,_,b,_]:=x;#[o,b],λf g p k=>?_];obtain⟨z,o,d,e,b,r⟩:=p;exact#[z,o,d,e,k o b,r]
inductive oV (H:Hp):List (Int×Addr)->List (Int×Int)->List FV->List (List Int×Addr×Value)->Prop
 |nil:oV H [] [] [] []
 |cons {a:Addr} {p:Int×Int} {v:FV} {u:Value} {es:List (Int×Addr)} {ks:List (Int×Int)} {vs:List FV} {xs:List (List Int×Addr×Value)}:H a\(.tup [.int p.1, .int p.2])->NF v u->oV H es ks vs xs->oV H ((c5 p,a)::es) (p::ks) (v::vs) (([p.1,p.2],a,u)::xs)
theorem oV.keys:∀{c:List (Int×Addr)}{a:List (Int×Int)}{d:List FV}{b:List (List Int×Addr×Value)},oV H c a d b->b.map (·.1)=a.map λp=> [p.1,p.2]
 |_,_,_,_, .nil=>rfl
 |_,_,_,_, .cons _ _ t=>by rw[dJ,dJ,t.keys]
theorem oV.len:∀{c:List (Int×Addr)}{a:List (Int×Int)}{d:List FV}{b:List (List Int×Addr×Value)},oV H c a d b->b.length=a.length
 |_,_,_,_, .nil=>rfl
 |_,_,_,_, .cons _ _ t=>GM (·+1) t.len
theorem oV.snoc(b:H a\(.tup [.int p.1, .int p.2]))(h:NF v u):∀{c:List (Int×Addr)}{d:List (Int×Int)}{e:List FV}{f:List (List Int×Addr×Value)},oV H c d e f->oV H (c++ [(c5 p,a)]) (d++ [p]) (e++ [v]) (f++ [([p.1,p.2],a,u)])
 |_,_,_,_, .nil=> .cons b h .nil
 |_,_,_,_, .cons k' g t=> .cons k' g (oV.snoc b h t)
def vD(P:Program)(w:World)(p:Int×Int)(a:Addr)(u:Value):entryOfKey (tupleKind (intKind P w)) ([p.1,p.2],a,u)=#[c5 p, .ref a,u]:=by
 unfold entryOfKey;rw[show(tupleKind (intKind P w)).hash [p.1,p.2]=c5 p from nS P w p]
def RF(d:Ig l b g):∀{c:List (Int×Int)},i8 H b c->∃f,oV H b c g f/\∀(P:Program)(w:World),l=f.map (entryOfKey (tupleKind (intKind P w))):=by
 induction d with
 |nil=>intro c i;cases i;exact#[[], .nil,λ_ _=>rfl]
 | @cons e l h a v b g j k m d n=>
  intro c i;cases i with
  | @cons _ p _ r h t=>
   obtain⟨f,o,q⟩:=n t;refine#[([p.1,p.2],a,e.val)::f, .cons h m o,λP w=>?_];rw[dJ,<-q P w,vD];obtain⟨s,u,ev⟩:=e;simp only at j k ⊢;rw[j,k]
def RJ{e:List (Int×Int)}(d:oV H a e b c):Ig (c.map (entryOfKey (tupleKind (intKind P w)))) a b:=by
 induction d with
 |nil=>exact .nil
 |cons _ h t f=>
  rw[dJ,vD];exact .cons rfl rfl h f
def oV.isKey(I:Inv X a e H s)(d:oV H f g i c):∀x∈c,IsTupleKey (intKind X.prog X.w) s.heap x.1 x.2.1:=by
 induction d with
 |nil=>intro x b;cases b
 |cons h _ _ j=>
  intro x b
  rcases bH.mp b with rfl|b
  .exact I.vP h
  .exact j x b
def pA{K:Type} [DecidableEq K] {b:List (K×Addr×Value)} {k:K}:(atKey b k).isSome=true↔k∈b.map (·.1):=by
 unfold atKey;rw[Option.isSome_map,List.find?_isSome,bT]
 constructor
 .rintro⟨x,a,e⟩;exact#[x,a,KF e]
 .rintro⟨x,a,e⟩;exact#[x,a,GT e]
def uQ{p:Int×Int}{a:List (Int×Int)}: [p.1,p.2]∈a.map (λp=> [p.1,p.2])↔p∈a:=by
 rw[bT]
 constructor
 .rintro⟨q,b,e⟩
  simp at e;rw[<-show q=p from aal e.1 e.2];exact b
 .intro h;exact#[p,h,rfl]
def Ew{c:List (Int×Int)}(h:c.Nodup):(c.map λp=> [p.1,p.2]).Nodup:=by
 rw[oI,jG];rw[oI] at h;exact h.imp λ {a b} n e=>n (by simp at e;exact aal e.1 e.2)
section
variable {X:Cx} {pins:List (Addr×Obj)} {σ:St} {H:Hp} {s:Shared}
def Inv.UG(I:Inv X pins σ H s)(h:H a\(.ext (iz a b e)))(f:i8 H b c)(g:c.Nodup):
  (a==sysModules)=false/\∃xs,oV H b c e xs/\s.heap.DictOfH (tupleKind (intKind X.prog X.w)) a xs:=by
 rfl';obtain⟨z,o,j,k,l,m,n,p⟩:=(I.hok a _ h).1;obtain⟨xs,d,q⟩:=RF p f;ac_rfl;exact#[z,xs,d,o,j,k,l,m,n,q _ _,d.isKey I,by rw[d.keys];exact Ew g]
def Mq:PE X (.Dict [] [] b) (λd H Q=>∀q,H q=none->Q (.ref q) (upd H q (.ext (iz q [] [])))):=by
 intro c s d H Q I h;have e:=I.hok.fresh (bo s.heap.objs.size);refine wpAny_Dict_empty #[.ref s.heap.objs.size,_,I.laid (a:=s.heap.objs.size) (t':=s.toks) (λ_ _ q=>AC _ q) (bo _) (o:= .ext (iz s.heap.objs.size [] [])) (iz.ok #[?_,_, #[],0,Gc _ rfl,#[rfl,rfl,rfl],rfl, .nil]),rfl,h _ e];have f:mainGlobals<s.heap.objs.size:=(I.mod.glob.keeps I.bk).lt;have g:sysModules<s.heap.objs.size:=Nat.lt_trans ∅ f
 exact aar.mpr (Ne.symm (bY g))
def Es(F:X.A.units+64<cLine):OpR X (compareOp .NotIn) (λx y H Q=>∃c a d b g p,x= .ref c/\y= .ref a/\H c\(.tup [.int p.1, .int p.2])/\H a\(.ext (iz a d g))/\i8 H d b/\b.Nodup/\Q (.bl (!decide (p∈b))) H):=by
 intro i s G H x y v u Q I l m h;rfl';obtain⟨c,a,d,b,g,p,rfl,rfl,o,r,t,B,q⟩:=h;ac_rfl;cases l;cases m;rfl';obtain⟨z,C,j,E⟩:=I.UG r t B;ac_rfl
 have:(atKey C [p.1,p.2]).isSome=decide (p∈b):=by
  by_cases e:p∈b
  .rw[GT e];exact pA.mpr (by rw[j.keys];exact uQ.mpr e)
  .rw[GE e]
   apply rK.mpr;exact λz=>e (uQ.mp (by rw[<-j.keys];exact pA.mp z))
 exact PyProof.Rows.wpAny_notIn_heap (knd:=tupleKind (intKind X.prog X.w)) (k:= [p.1,p.2]) (by show X.A.units+1<cLine;lia) (I.vP o) z E (by rw[this];exact#[.bl _,H,I.tok _,rfl,q])
def vF:FV->V
 | .int i=> .int i
 | .bl b=> .bl b
def Oa(h:RelV (vF f) u):NF f u:=by
 cases f with
 |int i=>exact h
 |bl b=>exact h
variable {o i value:Expr} {td ti tv:TE} {pos pos':Pos}
def TC(j k l:TE):TS:=λD b H=>l b H λv m=>j b m λx n=>k b n λy d=>∃a c f e g p h,x= .ref a/\y= .ref c/\v=vF h/\d a\(.ext (iz a f g))/\d c\(.tup [.int p.1, .int p.2])/\i8 d f e/\e.Nodup/\p∉e/\e.length<=300/\D.nx b (upd d a (.ext (iz a (f++ [(c5 p,c)]) (g++ [h]))))
def MF(hu:X.A.units+64<cLine)(J:PE X o td)(L:PE X i ti)(M:PE X value tv)(N:swapsWith value (some (.Subscript o i pos')) pos.line X.env=pure false:=by rfl):PS X (.Assign [.Subscript o i pos'] value pos) (TC td ti tv):=by
 intro d s f H D I h;refine wpAny_Assign_Subscript (thn (M d s f H _ I h) λr O #[v,P,Q,R,S]=>thn (J d O f P _ Q S) λu T #[x,U,Y,Z,q2]=>thn (L d T f U _ Y q2) λiv s3 #[y,H3,g,ry,a,c,m,ks,n,p,t,e1,e2,e3,B,C,pe,nd,np,hz,q3]=>?_) N;subst e1 e2 e3;cases Z;cases ry;obtain⟨z,j,l,hm⟩:=g.UG B pe nd;refine wpAny_setItem_heap (knd:=tupleKind (intKind X.prog X.w)) (k:= [p.1,p.2]) (by show X.A.units+1<cLine;lia) (g.vP C) hm (λh' E sb=>?_) (small (by rw[l.len];lia))
 have na:atKey j [p.1,p.2]=none:=by
  cases e:atKey j [p.1,p.2] with
  |none=>rfl
  |some q=>exact absurd (uQ.mp (by rw[<-l.keys];exact pA.mp (by rw[e];rfl))) np
 rw[storedH_new na] at E;rfl';have x2:oV H3 (m++ [(c5 p,c)]) (ks++ [p]) (n++ [t]) (j++ [([p.1,p.2],c,r)]):=l.snoc C (Oa R);obtain⟨F,Ys,uz,G,zO,jM,xU,_,_⟩:=E;have I':=g.write (h':=h') (t':=s3.toks+(tupleKind (intKind X.prog X.w)).draws [p.1,p.2]) (x:=a) (e:=a) (o:= .ext (iz a (m++ [(c5 p,c)]) (n++ [t]))) (by rw[B];trivial) (.inl rfl) (λb u hb e=>sb.extBut b u hb e) #[F,G] (iz.ok #[z,F,Ys,uz,G,zO,jM,by rw[xU];exact RJ x2])
 ac_rfl;exact#[f,_,I',q3]
end
section
variable {Z:DC} {X:Cx} {B:Bs} {md:List Nat} {rn:Nat} {ρ:DN} {σ:St} {H G:Hp} {fp:Nat->List Addr} {a e k o:Expr} {ta te tk tp:bz} {pos apos bh p2:Pos}
def Uq(c:Bool):g6:=λa b P=>∃p d f,a=MD p/\b= .x (.tL d f)/\P (.bl (if c=true then !decide (p∈d) else decide (p∈d)))
def Gm(d:X.A.units+64<cLine):OpR X (compareOp .NotIn) (cA Z (Uq true)):=by
 refine(Es d).imp ?_;rintro x y H Q ⟨G,a,b,P,s,f,g,⟨p,i,j,rfl,rfl,h⟩,q⟩;obtain⟨c,rfl,l⟩:=f.HL;cases g with
 |x m ok=>
  rfl';obtain⟨r,t,rfl,u⟩:=ok;ac_rfl;exact#[c,_,t,i,j,p,rfl,rfl,s _ _ l,s _ _ m,u.mono s,r,q _ h _ G H (.refl s) (.bl _)]
def Rj(i:Nat):cz:=λE b=>E.nx (b.set i (some (.x (.tL [] []))))
def K7(i:Nat)(n:X.N.Nodup)(p:q.getD i 0=98:=by rfl)(r:X.N[i]?\x:=by rfl)(s:Loc X.env.scope x:=by subst_eqs)(t:swapsWith (.Dict [] [] u) (some (.Name x d)) m.line X.env=pure false:=by rfl)
  (v:X.fn x=true\/X.env.scope.names.lookup x\.local:=by subst_eqs):DSt Z X q F (.Assign [.Name x d] (.Dict [] [] u) m) (Rj i):=by
 refine(gZ n r s Mq t v).imp ?_;intro D I H w;rfl';obtain⟨B,L,E,⟨G,O,S⟩,h,M⟩:=w;ac_rfl;intro c g;have A:G c=none:=S.ex.sub.free g;have x:Ext G H G (upd H c (.ext (iz c [] []))):=#[.refl _,S.ex.sub.trans (bq g _),bq g _,λ_ _ z=>z];refine M.nx _ h _ _ #[G,_,(S.grow x).t5 p (f:= [c]) (.inr (.inr #[c,_,rfl,aK,rfl, .inr #[rfl,_,rfl,iU,[],rfl, .nil]])) (by simp) (λb l=>?_) λb l j _ C=>?_]
 .rw[cR] at l;subst l
  exact#[S.ex.hh.free g,(by rw[aK];exact λz=>nomatch z),A]
 .rw[cR] at l;subst l
  exact(S.nw j _ C).2.1 g
def US:FV->D
 | .int i=> .int i
 | .bl b=> .bl b
def Dv.Wo(h:Dv Z G v (US f)):v=vF f:=by
 cases f with
 |int i=>exact h.ofInt
 |bl b=>exact h.En
def Rz(f:List Nat)(i:Nat)(j l:bz):cz:=λE b=>l (df f b) λd=>∃g c h,d=US g/\b[i]?\(some (.x (.tL c h)))/\j (df f b) λm=>∃p,m=MD p/\p∉c/\c.length<=300/\E.nx (b.set i (some (.x (.tL (c++ [p]) (h++ [g])))))
def Ld(i:Nat)(T:X.A.units+64<cLine)(U:DE Z X k tk)(Y:DE Z X e te)(m:md.getD i 0=98:=by rfl)(o:X.N[i]?\x:=by rfl)(hv:kZ X.env.scope x:=by subst_eqs)(n:(x==("__debug__":Str))=false:=by decide)(eH:(x==("__classdict__":Str))=false:=by decide)
  (hs:swapsWith e (some (.Subscript (.Name x r) k g)) pos.line X.env=pure false:=by rfl):DSt Z X md rn (.Assign [.Subscript (.Name x r) k g] e pos) (Rz md i tk te):=by
 refine(MF T (pv i o hv n eH) U Y hs).imp ?_;intro D σ H aV;rfl';obtain⟨B,ρ,E,⟨G,fp,S⟩,h,M⟩:=aV;ac_rfl;refine S.ev false h λd n=>#[trivial,λv G1 H1 s x1 dv=>?_];rfl';obtain⟨fv,ks,vs,rfl,t,h2⟩:=n;ac_rfl;obtain rfl:=dv.Wo;rfl';obtain⟨v0,q,w⟩:=s.at_ i _ t;rw[m] at w;obtain⟨l,φ,rfl,hl,_,nd,es,rfl,pe⟩:=w.xA;ac_rfl;refine#[_,q,s.ev false h2 λkd Sa=>#[trivial,λu G2 H2 y C du=>?_]];rfl';obtain⟨p,rfl,F,hz,hn⟩:=Sa;obtain⟨c,rfl,I⟩:=du.HL;obtain⟨v1,J,L⟩:=y.at_ i _ t;rw[q] at J;ac_rfl;cases Do J;rfl';rw[m] at L;obtain⟨l',φ',e',LL,O,P,g9,rfl,Q⟩:=L.xA;cases e';ac_rfl;refine#[l,c,g9,ks,vs,p,fv,rfl,rfl,rfl,LL,C.sub _ _ I,Q.mono C.sub,P,F,hz,M.nx _ hn _ _ #[G2,fp,y.mut q (b:=l) (by rw[O];simp) ?_]]
 rw[m,O];refine .inr (.inr #[l,_,rfl,aK,rfl, .inr #[rfl,_,rfl,?_,_,rfl,Q.snoc I]]);rw[eE];refine#[P,by simp,λa ha b R z=>F ?_]
 rw[cR] at R;rw[<-R,<-z];exact ha
end
section
variable {pr:Program} {wd:World} {A:Around} {E:Value->Shared->Prop} {s:Shared}
end
theorem vk(a:Nat->Nat->Bool):∀k,argBest a k<=k
 |0=>bo _
 |k+1=>by
  unfold argBest
  split
  .exact bo _
  .exact Nat.le_succ_of_le (vk a k)
section
variable {X:Cx} {Z:DC}
def tupI(l:List Int):D:= .tup (l.map D.int)
theorem Ah:∀{b:List V}{d:List (List Int)},DvAll Z G b (d.map tupI)->∃L:List (Addr×List Int),b=L.map (λe=>V.ref e.1)/\L.map (·.2)=d/\∀e∈L,G e.1\(.tup (e.2.map V.int))
 |b,[],h=>by rw[h.Mc];exact#[[],rfl,rfl,λp c=>by cases c]
 |b,n::d,h=>by
  rfl';obtain⟨v,m,rfl,a,i⟩:=h.B0;obtain⟨L,rfl,j,k⟩:=Ah i;obtain⟨p,o,rfl,c,e⟩:=a.pO;rw[mG e] at c;ac_rfl;refine#[(p,n)::L,rfl,by rw[<-j];rfl,λq f=>?_]
  rcases bH.mp f with rfl|f
  .exact c
  .exact k q f
end
end L2
namespace Wy
section
variable {α β:Type}
end
def getD_mem{l:List Nat}{i:Nat}(h:i<l.length):l.getD i 0∈l:=by
 rw[bS,cM h];exact jY h
end Wy
namespace L2
open PySem PySem.Spec PyProof.Rows
section
variable {Z:DC} {X:Cx} {B:Bs} {md:List Nat} {rn:Nat} {ρ:DN} {σ:St} {H G:Hp} {fp:Nat->List Addr} {k:Expr} {tk:bz} {pos:Pos}
def Rn(c:List Nat)(i j:Nat)(e:bz):cz:=λE a=>∃b,a[j]?\(some (.lst b))/\e (zi c false a) λf=>∃(n:Int)(d:D),f= .int n/\eG b n\d/\E.nx (a.set i (some d))
def La(i j:Nat)(s:X.N.Nodup)(t:DE Z X k w)(z:b.getD i 0=0:=by rfl)(m:b.getD j 0=1:=by rfl)(A:X.N[i]?\x:=by rfl)(C:Loc X.env.scope x:=by subst_eqs)
  (F:X.N[j]?\y:=by rfl) (I:kZ X.env.scope y:=by subst_eqs) (J:(y==("__debug__":Str))=false:=by decide) (L:(y==("__classdict__":Str))=false:=by decide)
  (O:oX k:=by exact λ_ _=>rfl) (P:swapsWith (.Subscript (.Name y py) k g) (some (.Name x f)) c.line X.env=pure false:=by rfl)
  (Q:X.fn x=true\/X.env.scope.names.lookup x\.local:=by subst_eqs):DSt Z X b rn (.Assign [.Name x f] (.Subscript (.Name y py) k g) c) (Rn b i j w):=by
 refine(gZ s A C (B8 yg (pv j F I J L) t O) P Q).imp ?_;intro D σ H R;rfl';obtain⟨B,ρ,E,⟨G,fp,S⟩,⟨ds,o,h⟩,M⟩:=R;ac_rfl;rfl';obtain⟨l,xs,gO,T,p,e3,bG,put⟩:=S.one m o;cases T;ac_rfl;refine#[_,p,S.ev false h λkd U=>#[trivial,λv Y H' q x dv=>?_]];rfl';obtain⟨n,d,rfl,ha,hn⟩:=U;cases dv.ofInt;obtain⟨l',iX,ds2,RG,r,Bn,UI,_⟩:=q.one m o;cases RG;ac_rfl;rw[p] at r;rfl';cases r;obtain⟨u,hu,Bm⟩:=wN UI ha;ac_rfl;exact#[l,iX,n,u,rfl,rfl,cJ.of Bn,hu,M.nx _ hn _ _ #[Y,_,q.qj z Bm]]
end
section
variable {Z:DC} {X:Cx} {B:Bs} {md:List Nat} {rn:Nat} {ρ:DN} {σ:St} {H G:Hp} {fp:Nat->List Addr} {k c e k1 k2 et:Expr} {tk te tt GV W6:bz} {tc:dM} {pos:Pos}
variable {elt tg iter:Expr} {ifs:List Expr} {scope:Scope} {NC:List Str} {src:List (Option Nat)} {Xb:dM} {wi:kv} {g:fE}
def Gi(s:md.getD i 0=1)(S:SIx Z B md ρ σ H G fp)(h:t ρ λd=>d.all dO=true/\E.nx (ρ.set i (some (.lst d))))(M:Meets Z X B md rn E n):yq Z 1 t σ H λv p=>n.nx (σ.set i (some v)) p:=by
 exists H,ρ,_, .refl _,S.vE,h;rintro d ⟨u,w⟩ v f J p x o L q;have y:=S.grow (Ext.all S.ex.sub x);obtain⟨a,z,N,O,rfl,A,C,r,F⟩:=o.lst;cases A;obtain⟨dv,rfl⟩:=F.flat;have l:H a=none:=(q a (by rw[r];simp)).1
 refine M.nx _ w _ _ #[G,_,y.t5 (f:= [a]) s (.inl #[a,z,d,[],rfl,rfl,C,rfl,(dv.flat u).own]) (by simp) (λb m=>?_) λb m j _ I=>?_]
 .have:b=a:=by simpa using m
  subst this;exact#[S.ex.hh.free l,(q b (by rw[r];simp)).2.1,S.ex.sub.free l]
 .have:b=a:=by simpa using m
  subst this;exact(S.nw j b I).2.1 l
def xJ(i:Nat)(f:X.calm=true)(j:X.N.Nodup)(c:cS X scope)(l:dW scope X.N src NC)(m:DI Z X tg iter wi)
  (n:∀a s H,DG Z (cV X scope NC a s H) tg g) (o:∀a s H,A9 Z (cV X scope NC a s H) ifs Xb) (p:∀a s H,DE Z (cV X scope NC a s H) elt te)
  (q:swapsWith (.ListComp elt [#[tg,iter,ifs,0]] scope pos) (some (.Name x b)) d.line X.env=pure true:=by rfl) (r:md.getD i 0=1:=by rfl) (t:X.N[i]?\x:=by rfl) (u:Loc X.env.scope x:=by subst_eqs)
  (v:X.fn x=true\/X.env.scope.names.lookup x\.local:=by subst_eqs)
  (w:∀x,foldedSetIterable iter X.env x=pure x:=by intro _;rfl):DSt Z X md rn (.Assign [.Name x b] (.ListComp elt [#[tg,iter,ifs,0]] scope pos) d) (KL i (N6 wi g Xb te src)):=by
 refine(uS f j t u c l m n o p q v w).imp ?_;intro C y H z;rfl';obtain⟨B,I,E,⟨G,J,S⟩,h,M⟩:=z;ac_rfl;exact yr y H _ (Gi r S h M)
def Rm(f:List Nat)(j:Nat)(h:bz)(g:fE)(i:cz):cz:=λE a=>∃b,a[j]?\(some (.lst b))/\h (zi f true a) λl=>∃(n:Int)(d:List D),l= .int n/\eG b n\(.lst d)/\lE g i E d a
def K9(j:Nat)(s:X.calm=true)(t:PassesOwn (model X.prog X.w) X.A X.env X.xe)(z:DE Z X k tk)(C:E6 Z X md tg g)(F:ng Z X md rn d m)(I:md.getD j 0=0:=by rfl)
  (J:X.N[j]?\y:=by rfl) (L:kZ X.env.scope y:=by subst_eqs) (O:(y==("__debug__":Str))=false:=by decide) (P:(y==("__classdict__":Str))=false:=by decide)
  (Q:oX k:=by exact λ_ _=>rfl) (R:∀x,foldedSetIterable (.Subscript (.Name y py) k l) X.env x=pure x:=by intro _;rfl):DSt Z X md rn (.For tg (.Subscript (.Name y py) k l) d [] pos) (Rm md j tk g m):=by
 refine(Ce t s (Ez (B8 yg (pv j J L O P) z Q)) C F R).imp ?_;intro Dn σ H T;rfl';obtain⟨B,ρ,E,⟨G,fp,S⟩,⟨oO,U,h⟩,M⟩:=T;ac_rfl;rfl';obtain⟨v0,Y,o⟩:=S.at_ j _ U;rw[I] at o;obtain⟨c,_⟩:=o;obtain⟨a,e,rfl,ha,ZQ⟩:=c.hV;ac_rfl;refine#[_,Y,S.ev true h ?_];rintro _ ⟨n,ds,rfl,LB,hf⟩;refine#[rfl,λv G1 H1 i q Bl=>?_];rfl';cases Bl.ofInt;obtain⟨u,hu,du⟩:=wN (ZQ.mono q.gg) LB;obtain⟨b,ys,rfl,r,ZS⟩:=du.hV;ac_rfl;exact#[a,e,n, .ref b,rfl,rfl,cJ.of (i.ex.sub _ _ (q.gg _ _ ha)),hu,b,rfl,#[_,cJ.of (i.ex.sub _ _ r)],uB i (D7 r ZS) hf M]
def N7(f:bz):jJ:=λh P=>f h λd=>∃a:List Int,d= .lst (a.map D.int)/\a.length<64/\∀b:List Int,b.Perm a->b.Pairwise (·<=·)->P (b.map D.int)
def IF(i:Gl X "sorted")(j:X.mg "sorted"=none)(l:DE Z X e te)(d:starEach [e] X.env=(false,eval e X.env)::starEach [] X.env:=by rfl)(m:(backTo pos (starEach [] X.env)).any (·.1)=false:=by rfl):DF Z X 1 (.Call (.Name "sorted" p) [e] [] pos) (N7 te):=by
 refine(qN zG i j kz (d6 l gD d) ∅ ∅ d m).imp ?_
 intro M H Q n;rfl';obtain⟨G,r,P,s,t,h,q⟩:=n;ac_rfl;exists G,r,_,s,t,h;rintro _ ⟨u,rfl,w,x⟩ v y O b dv;cases dv with
 |lst z A=>
  refine#[_,u,rfl,cJ.of (mG A▸b.sub _ _ z),w,λa C f E F=>?_];obtain⟨I,J,L⟩:=jA b f (DvAll.ints (Z:=Z) (H:=y) C);exact q _ (x _ E F) _ _ _ _ (b.side f) I J L
end
end L2
namespace Wb
def fA(w:W)(d:Nat×Nat)(r:List (Nat×Nat)):Prop:=∃k,0<k/\bu w k d=d/\(∀j,0<j->j<k->bu w j d≠d)/\r=walk w d k
def cO:e∈walk w d k↔∃i,i<k/\e=bu w i d:=by
 unfold walk;rw[bT]
 constructor
 .rintro⟨i,a,rfl⟩;exact#[i,cE.mp a,rfl]
 .rintro⟨i,a,rfl⟩;exact#[i,cE.mpr a,rfl]
def fA.first(h:fA w d r):d∈r:=by
 obtain⟨k,a,_,_,rfl⟩:=h;exact cO.mpr #[0,a,rfl]
def fA.next(h:fA w d r)(a:e∈r):fh w e∈r:=by
 obtain⟨k,b,f,_,rfl⟩:=h;obtain⟨i,g,rfl⟩:=cO.mp a
 by_cases c:i+1<k
 .exact cO.mpr #[i+1,c,rfl]
 .have:i+1=k:=()
  refine cO.mpr #[0,b,?_];show bu w (i+1) d=d;rw[this];exact f
theorem fA.iter(h:fA w d r)(a:e∈r):∀n,bu w n e∈r
 |0=>a
 |n+1=>h.next (h.iter a n)
def fA.back(h:fA w d r)(a:e∈r):∃n,bu w n e=d:=by
 obtain⟨k,c,b,_,rfl⟩:=h;obtain⟨i,f,rfl⟩:=cO.mp a;exists k-i;rw[<-fb i (k-i),show k-i+i=k by lia]
 exact b
def fA.nodup{w:W}(g:Good w)(h:fA w d r)(a:aU w d):r.Nodup:=by
 obtain⟨k,c,e,b,rfl⟩:=h;exact qp g a b
def fA.br(g:Good w)(h:fA w d r)(a:aU w d):∀e∈r,aU w e:=by
 obtain⟨k,b,c,f,rfl⟩:=h;exact oh g a
structure j5 (w:W) (rs:List (List (Nat×Nat))):Prop where
 rnd:∀r∈rs,∃d,fA w d r/\aU w d/\∀e∈r,lexLe d e
 perm:rs.flatten.Perm (br w)
def KR(g:Good w)(h:aU w d):d.1≠d.2:=λe=>g.irr d.1 (by have:d.2∈row w d.1:=h;rw[<-e] at this;exact this)
def xy{w:W}(g:Good w){f:List (Nat×Nat)}(l:f.Perm (kg (row w) w.length)):(f++f.map λt=>(t.2,t.1)).Perm (br w):=by
 have e:=qo w;have n:=cB g
 have m:∀t,t∈f↔aU w t/\t.1<t.2:=λt=>by
  rw[l.mem_iff,e,jI,bg,aa0]
 have i:f.Nodup:=l.nodup_iff.mpr (by rw[e];exact n.filter _)
 refine(vY ?_ n).mpr λd=>?_
 .rw[eE]
  refine#[i,?_,λa o b p z=>?_]
  .rw[oI,jG]
   rw[oI] at i;exact i.imp λ {a b} h z=>h (aal (aao z).2 (aao z).1)
  .obtain⟨c,j,rfl⟩:=bT.mp p
   have k:=((m a).mp o).2;have q:=((m c).mp j).2;rw[z] at k;have k:c.2<c.1:=k;lia
 .rw[b6,bT,bg]
  constructor
  .rintro(h| ⟨c,j,rfl⟩)
   .exact((m d).mp h).1
   .exact g.sym _ _ ((m c).mp j).1
  .intro h
   rcases Nat.lt_or_gt_of_ne (KR g h) with c|c
   .exact .inl ((m d).mpr #[h,c])
   .exact .inr #[(d.2,d.1),(m _).mpr #[g.sym _ _ h,c],rfl]
def fA.uniq(h:fA w d r)(b:fA w d a):r=a:=by
 obtain⟨k,e,f,g,rfl⟩:=h;obtain⟨m,i,j,l,rfl⟩:=b
 rcases abV k m with c|c|c
 .exact absurd f (l k e c)
 .rw[c]
 .exact absurd j (g m i c)
def j5.sub{c a:List (List (Nat×Nat))}(R:j5 w c)(f:j5 w a):∀r∈c,r∈a:=λr j=>by
 obtain⟨d,b,k,l⟩:=R.rnd r j;have m:d∈a.flatten:=f.perm.mem_iff.mpr (bg.mpr k);obtain⟨o,g,h⟩:=jZ.mp m;obtain⟨p,i,u,q⟩:=f.rnd o g;obtain⟨n,s⟩:=i.back h;have t:lexLe d p:=by rw[<-s];exact l _ (b.iter b.first n)
 have e:=Jj t (q d h);subst e;rw[b.uniq i];exact g
def j5.ne{w:W}{a:List (List (Nat×Nat))}(R:j5 w a):∀r∈a,r≠ []:=λr b z=>by
 obtain⟨d,c,_⟩:=R.rnd r b
 have:=c.first
 rw[z] at this;cases this
theorem vG:∀{l:List (List c)},l.flatten.Nodup->(∀r∈l,r≠ [])->l.Nodup
 | [],_,_=>iU
 |a::l,h,b=>by
  rw[i4,eE] at h;refine cX.mpr #[λd=>?_,vG h.2.1 λr e=>b r (cI _ e)];cases a with
  |nil=>exact b [] (bP ..) rfl
  |cons x a=>exact h.2.2 x (bP ..) x (jZ.mpr #[_,d,bP ..]) rfl
def j5.nodup{w:W}(g:Good w)(R:j5 w a):a.Nodup:=vG (R.perm.nodup_iff.mpr (cB g)) R.ne
abbrev Ls(a:List (List (Nat×Nat))):List (List Nat):=a.map λr=>r.map (·.1)
open Classical in
theorem MV{w:W}{d:Nat×Nat}{r:List (Nat×Nat)}(h:fA w d r){i:Nat}(hi:i<r.length):r.getD ((i+1)%r.length) (0,0)=fh w (r.getD i (0,0)):=by
 obtain⟨k,k0,k1,k2,rfl⟩:=h;rw[dU] at hi ⊢
 have at_:∀j,j<k->(walk w d k).getD j (0,0)=bu w j d:=λj hj=>by
  unfold walk;rw[bS,cG,qx hj];rfl
 rw[at_ i hi]
 by_cases c:i+1<k
 .rw[iu c,at_ _ c];rfl
 .have e:i+1=k:=()
  rw[e,sH,at_ 0 k0];show d=bu w (i+1) d;rw[e,k1]
def mJ(r:List (Nat×Nat))(i:Nat):(r.map (·.1)).getD i 0=(r.getD i (0,0)).1:=by
 rw[bS,bS,cG];cases r[i]? <;>rfl
def eW{a b:List Nat}{x y:Nat}(c:(a++x::y::b).Nodup):aW (a++x::y::b) x=y:=by
 have d:x∉a:=λh=>by
  have:=(eE.mp c).2.2 x h x (bP ..)
  exact this rfl
 have e:(a++x::y::b).idxOf x=a.length:=by
  rw[List.idxOf_append,mo d,List.idxOf_cons_self];simp
 unfold aW;rw[e,iu (by simp),bS,kW ()]
 simp
def iq{b:List Nat}{x y:Nat}(a:(y::(b++ [x])).Nodup):aW (y::(b++ [x])) x=y:=by
 have c:x∉y::b:=λh=>by
  have d:(y::b++ [x]).Nodup:=a;exact(eE.mp d).2.2 x h x (by simp) rfl
 have e:(y::(b++ [x])).idxOf x=b.length+1:=by
  show(y::b++ [x]).idxOf x=_;rw[List.idxOf_append,mo c];simp
 unfold aW;rw[e]
 have:(b.length+1+1)%(y::(b++ [x])).length=0:=by simp
 rw[this];rfl
def n9{a b:List Nat}{x:Nat}(f:(a++b).Nodup)(h:x∈a++b):aW (b++a) x=aW (a++b) x:=by
 have d:(b++a).Nodup:=(lO.nodup_iff).mp f;obtain⟨u,v,e⟩:=CP h;cases v with
 |cons y v=>
  rw[e,eW (e▸f)]
  rcases List.append_eq_append_iff.mp e with ⟨c,g,i⟩ | ⟨c,g,i⟩
  .
   rw[i,show c++x::y::v++a=c++x::y::(v++a) by simp]
   refine eW ?_;rw[i] at d;simpa using d
  .
   cases c with
   |nil=>
    have j:b=x::y::v:=by simpa using i.symm
    rw[j,show x::y::v++a= []++x::y::(v++a) by simp]
    refine eW ?_;rw[j] at d;simpa using d
   |cons z c=>
    have l:x=z/\y::v=c++b:=by simpa using i
    obtain⟨rfl,n⟩:=l;cases c with
    |nil=>
     have j:b=y::v:=by simpa using n.symm
     rw[g,j,show y::v++(u++ [x])=y::((v++u)++ [x]) by simp]
     refine iq ?_;rw[g,j] at d;simpa using d
    |cons z c=>
     have l:y=z/\v=c++b:=by simpa using n
     obtain⟨rfl,rfl⟩:=l;rw[g,show b++(u++x::y::c)=(b++u)++x::y::c by simp]
     refine eW ?_;rw[g] at d;simpa using d
 |nil=>
  cases b with
  |nil=>simp
  |cons y b=>
   rcases CL b with rfl| ⟨k,z,rfl⟩
   .
    have:a=u/\y=x:=by
     have:=List.append_inj' e rfl
     exact#[this.1,by simpa using this.2]
    obtain⟨rfl,rfl⟩:=this;cases a with
    |nil=>rfl
    |cons t a=>
     have m:aW (t::a++ [y]) y=t:=iq (b:=a) f;rw[m];show aW ([]++y::t::a) y=t;exact eW (d)
   .have o:z=x:=by
     rw[zp] at e;have e:(a++y::k)++ [z]=u++ [x]:=by simpa using e
     exact by simpa using(List.append_inj' e rfl).2
    subst o;rw[zp] at f d ⊢;cases a with
    |nil=>simp
    |cons t a=>
     have m:aW (t::a++y::(k++ [z])) z=t:=by
      have:=iq (y:=t) (b:=a++y::k) (x:=z) (~~~f)
      simpa using this
     have p:aW (y::(k++ [z])++t::a) z=t:=by
      have:=eW (a:=y::k) (x:=z) (y:=t) (b:=a) (~~~d)
      simpa using this
     rw[m,p]
def uW{i:Nat}(a:l.Nodup)(h:i+1<l.length):aW l (l.getD i 0)=l.getD (i+1) 0:=by
 have e:l.getD i 0=l[i]:=by rw[bS,cM ()];rfl
 unfold aW;rw[e,a.idxOf_getElem i (),iu h]
def GL(a:l.Nodup)(h:i+1=l.length):aW l (l.getD i 0)=l.getD 0 0:=by
 have e:l.getD i 0=l[i]:=by rw[bS,cM ()];rfl
 unfold aW;rw[e,a.idxOf_getElem i (),h,sH]
section
variable {w:W} {R:List Nat} {A:Nat×Nat->Prop} {v m:Nat} {y:Nat->Nat}
end
end Wb
set_option maxHeartbeats 1000000
namespace Wb
def wL(a:(v::l).Nodup)(d:x∈l)(f:x≠l.getD (l.length-1) 0):aW (v::l) x=aW l x:=by
 obtain⟨i,g,rfl⟩:=zq.mp d;have e:l[i]=l.getD i 0:=by rw[bS,cM g];rfl
 have qS:i+1<l.length:=by
  apply FM;intro c;exact f (by rw[e,show l.length-1=i by lia])
 have b:=uW (i:=i+1) a (by simp;lia)
 have h:=uW (i:=i) (cX.mp a).2 qS;rw[CN,CN] at b;rw[e,b,h]
section
variable {w w':W} {R:List Nat} {f:Nat}
end
theorem yb{f:Nat->Nat}{x:Nat}:∀{l:List Nat},(∀y∈l,f y=f x->y=x)->(l.map f).idxOf (f x)=l.idxOf x
 | [],_=>rfl
 |a::l,h=>by
  rw[dJ,aci,aci,yb λy b=>h y (cI _ b)]
  by_cases c:a=x
  .subst c;simp
  .have:f a≠f x:=λz=>c (h a (bP ..) z)
   have d:(f a==f x)=false:=by simpa using this
   have e:(a==x)=false:=by simpa using c
   rw[d,e]
def GN{f:Nat->Nat}{l:List Nat}{x:Nat}(h:∀y∈l,f y=f x->y=x)(a:x∈l):aW (l.map f) (f x)=f (aW l x):=by
 have e:=kS a;show(l.map f).getD (((l.map f).idxOf (f x)+1)%(l.map f).length) 0=_;rw[yb h,aI,bS,cG,e];rfl
section
variable {w w':W} {f:Nat->Nat}
open Classical in
end
def gU{w:W}{d:Nat×Nat}(h:i<k):(walk w d k)[i]?\(bu w i d):=by
 unfold walk;rw[cG,qx h];rfl
def sC{w:W}(h:¬i<k):(walk w d k)[i]? =none:=gK (by rw[dU];lia)
def fA.Te{w:W}(g:Good w)(h:fA w d r)(b:aU w d)(c:m<r.length):fA w (r.getD m (0,0)) (r.drop m++r.take m):=by
 obtain⟨k,n,l,o,rfl⟩:=h;rw[dU] at c;have e:(walk w d k).getD m (0,0)=bu w m d:=by rw[bS,gU c];rfl
 rw[e];have per:bu w k (bu w m d)=bu w m d:=by rw[<-fb,ab1,fb,l]
 refine#[k,n,per,λj p q z=>?_,?_]
 .have:bu w m (bu w j d)=bu w m d:=by rw[<-fb,ab1,fb,z]
  exact o j p q (tx g (cN g b j) b m this)
 .refine rJ λi=>?_
  have a:((walk w d k).drop m).length=k-m:=by rw[u9,dU]
  by_cases s:i<k-m
  .rw[kX (by rw[a];exact s),CO,gU (),gU (),<-fb,ab1]
  .rw[kW (by rw[a];lia),a]
   by_cases t:i<k
   .rw[abI,ir (),gU (),gU t,<-fb,show i+m=(i-(k-m))+k by lia,fb,l]
   .rw[abI,mo (),sC ()]
structure CT (w v:W) (f:Nat×Nat->Nat×Nat):Prop where
 dart:∀d,aU w d->aU v (f d)
 inj:∀d e,aU w d->aU w e->f d=f e->d=e
 nx:∀d,aU w d->fh v (f d)=f (fh w d)
theorem CT.bu{w v:W}{f:Nat×Nat->Nat×Nat}(M:CT w v f)(g:Good w){d:Nat×Nat}(a:aU w d):∀n,Wb.bu v n (f d)=f (Wb.bu w n d)
 |0=>rfl
 |n+1=>by
  show fh v (Wb.bu v n (f d))=f (fh w (Wb.bu w n d));rw[M.bu g a n,M.nx _ (cN g a n)]
def CT.rnd{w v:W}{f:Nat×Nat->Nat×Nat}(M:CT w v f)(g:Good w)(h:fA w d r)(a:aU w d):fA v (f d) (r.map f):=by
 obtain⟨k,b,c,e,rfl⟩:=h;refine#[k,b,by rw[M.bu g a,c],λj l m z=>?_,?_]
 .rw[M.bu g a] at z
  exact e j l m (M.inj _ _ (cN g a j) a z)
 .unfold walk
  rw[b7];exact v9 λi _=>(M.bu g a i).symm
def nK(a b:Nat×Nat):lexLe a b\/lexLe b a:=by unfold lexLe;lia
def BN(h:lexLe a b)(d:lexLe b c):lexLe a c:=by unfold lexLe at*;lia
theorem AE:∀c:List (Nat×Nat),c≠ []->∃e∈c,∀x∈c,lexLe e x
 | [],h=>absurd rfl h
 | [a],_=>#[a,by simp,λx d=>by rw[cR] at d;subst d;exact(nK x x).elim id id]
 |a::b::c,_=>by
  obtain⟨e,i,g⟩:=AE (b::c) (by simp)
  rcases nK a e with h|h
  .refine#[a,by simp,λx d=>?_]
   rcases bH.mp d with rfl|d
   .exact(nK x x).elim id id
   .exact BN h (g x d)
  .refine#[e,cI _ i,λx d=>?_]
   rcases bH.mp d with rfl|d
   .exact h
   .exact g x d
open Classical in
noncomputable def wx(c:List (Nat×Nat)):Nat:=if h:∃e,e∈c/\∀x∈c,lexLe e x then c.idxOf h.choose else 0
def Jh(h:c≠ []):wx c<c.length/\c.getD (wx c) (0,0)∈c/\(∀x∈c,lexLe (c.getD (wx c) (0,0)) x)/\wx c=c.idxOf (c.getD (wx c) (0,0)):=by
 have d:∃e,e∈c/\∀x∈c,lexLe e x:=let #[e,a,b]:=AE c h;#[e,a,b];have g:wx c=c.idxOf d.choose:=by unfold wx;rw[dif_pos d]
 have s:=d.choose_spec;have l:=vZ.mpr s.1
 have i:c.getD (wx c) (0,0)=d.choose:=by
  rw[g,bS,cM l];exact A7 l
 rw[i,g];exact#[l,s.1,s.2,rfl]
noncomputable def xp(c:List (Nat×Nat)):List (Nat×Nat):=c.drop (wx c)++c.take (wx c)
def xq(c:List (Nat×Nat)):(xp c).Perm c:=by
 unfold xp
 have:=lO (l₁:=c.drop (wx c)) (l₂:=c.take (wx c))
 rwa [jE] at this
def Iq{w:W}(g:Good w)(h:fA w d r)(a:aU w d):∃e,fA w e (xp r)/\aU w e/\∀x∈xp r,lexLe e x:=by
 have ne:r≠ []:=λz=>by have:=h.first;rw[z] at this;cases this
 obtain⟨b,c,i,_⟩:=Jh ne;exact#[_,h.Te g a b,h.br g a _ c,λx j=>i x ((xq r).mem_iff.mp j)]
theorem qW{f:List b->List b}(h:∀r,(f r).Perm r):∀a:List (List b),(a.map f).flatten.Perm a.flatten
 | []=> .nil
 |r::a=>by
  rw[dJ,i4,i4];exact(h r).append (qW h a)
def Dm{w v:W}(g:Good w)(b:Good v){f:Nat×Nat->Nat×Nat}(dart:∀d,aU w d->aU v (f d))(inj:∀d e,aU w d->aU w e->f d=f e->d=e)(sur:∀e,aU v e->∃d,aU w d/\f d=e):((br w).map f).Perm (br v):=by
 refine(vY ?_ (cB b)).mpr λe=>?_
 .rw[oI,jG]
  have:=cB g
  rw[oI] at this;exact aaB (λc i n z=>n (inj _ _ (bg.mp c) (bg.mp i) z)) this
 .rw[bT,bg]
  exact#[λ#[d,a,z]=>z▸dart d (bg.mp a),λh=>let #[d,a,z]:=sur e h;#[d,bg.mpr a,z]]
structure Bc (w v:W) (φ:Nat->Nat):Prop where
 len:v.length=w.length
 lt:∀p,p<w.length->φ p<w.length
 inj:∀p q,p<w.length->q<w.length->φ p=φ q->p=q
 sur:∀y,y<w.length->∃p,p<w.length/\φ p=y
 row:∀p,p<w.length->∃b,Wb.row v (φ p)=((Wb.row w p).map φ).drop b++((Wb.row w p).map φ).take b
def Bc.mem{w v:W}(N:Bc w v a){p y:Nat}(c:p<w.length):y∈Wb.row v (a p)↔y∈(Wb.row w p).map a:=by
 obtain⟨b,e⟩:=N.row p c;rw[e,b6]
 conv=>rhs;rw[<-jE b ((Wb.row w p).map a),b6]
 exact or_comm
def Bc.dmap{w v:W}(N:Bc w v c)(g:Good w):CT w v (λd=>(c d.1,c d.2)):=by
 have i:∀d,aU w d->d.1<w.length/\d.2<w.length:=λd h=>#[bO h,g.rng _ _ h];refine#[λd h=>?_,λd e j k z=>?_,λd h=>?_]
 .exact(N.mem (i d h).1).mpr (bT.mpr #[d.2,h,rfl])
 .have m:=(aao z).1
  have o:=(aao z).2;exact aal (N.inj _ _ (i d j).1 (i e k).1 m) (N.inj _ _ (i d j).2 (i e k).2 o)
 .obtain⟨b,e⟩:=N.row d.2 (i d h).2
  have l:d.1∈Wb.row w d.2:=g.sym _ _ h;have p:∀y∈Wb.row w d.2,c y=c d.1->y=d.1:=λy q z=>N.inj _ _ (g.rng _ _ q) (i d h).1 z
  have r:((Wb.row w d.2).map c).Nodup:=by
   have:=g.nod d.2
   rw[oI] at this ⊢;rw[jG];exact aaB (λs t n z=>n (N.inj _ _ (g.rng _ _ s) (g.rng _ _ t) z)) this
  have u:c d.1∈(Wb.row w d.2).map c:=bT.mpr #[_,l,rfl];show(c d.2,aW (Wb.row v (c d.2)) (c d.1))=(c d.2,c (aW (Wb.row w d.2) d.1));rw[e];have A:=n9 (a:=((Wb.row w d.2).map c).take b) (b:=((Wb.row w d.2).map c).drop b) (x:=c d.1) (by rw[jE];exact r) (by rw[jE];exact u)
  rw[A,jE,GN p l]
def Bc.WM{w v:W}(N:Bc w v a):∀e,aU v e->∃d,aU w d/\(a d.1,a d.2)=e:=λe h=>by
 have b:=bO h;rw[N.len] at b;obtain⟨p,g,c⟩:=N.sur e.1 b;have h:e.2∈Wb.row v e.1:=h;rw[<-c] at h;obtain⟨q,i,j⟩:=bT.mp ((N.mem g).mp h);exact#[(p,q),i,aal c j]
abbrev Dt:=Nat×Nat
def rO(w:W):Dt->List Dt->Dt->Prop
 |x,[],y=>x=y
 |x,a::l,y=>x=a/\rO w (fh w a) l y
theorem tO{w:W}:∀{l m:List Dt}{x z:Dt},rO w x (l++m) z↔∃y,rO w x l y/\rO w y m z
 | [],m,x,z=>#[λh=>#[x,rfl,h],λ#[y,e,h]=>by have e:x=y:=e;subst e;exact h]
 |a::l,m,x,z=>#[λ#[e,h]=>let #[y,b,c]:=tO.mp h;#[y,#[e,b],c],λ#[y,#[e,b],c]=>#[e,tO.mpr #[y,b,c]]]
def zj(w:W)(d:Dt)(n:Nat):walk w d (n+1)=d::walk w (fh w d) n:=by
 refine rJ λi=>?_;cases i with
 |zero=>rw[gU ()];rfl
 |succ i=>
  rw[ud]
  by_cases h:i<n
  .rw[gU (),gU h]
   exact GM some (fb (w:=w) (d:=d) 1 i)
  .rw[sC (),sC h]
theorem qO{w:W}:∀{l:List Dt}{x y:Dt},rO w x l y↔l=walk w x l.length/\y=bu w l.length x
 | [],x,y=>#[λh=>#[rfl,(show x=y from h).symm],λh=>h.2.symm]
 |a::l,x,y=>by
  have e:bu w (l.length+1) x=bu w l.length (fh w x):=fb (w:=w) (d:=x) 1 l.length
  constructor
  .rintro⟨rfl,h⟩
   obtain⟨b,c⟩:=qO.mp h;rw[cv,zj,e];exact#[GM (x::·) b,c]
  .rintro⟨b,c⟩
   rw[cv,zj] at b;obtain⟨g,i⟩:=Wp b;rw[cv,e] at c;subst g;exact#[rfl,qO.mpr #[i,c]]
def fA.Pc{w:W}(h:fA w d r):rO w d r d:=by
 obtain⟨k,b,a,c,rfl⟩:=h;exact qO.mpr #[by rw[dU],by rw[dU,a]]
def Cm{w:W}(h:rO w d r d)(ne:r≠ [])(e:r.Nodup):fA w d r:=by
 obtain⟨c,g⟩:=qO.mp h;refine#[r.length,wa.mpr ne,g.symm,λj k i z=>?_,c];have a:r[j]?\(bu w j d):=by rw[c];exact gU i
 have b:r[0]?\(bu w 0 d):=by rw[c];exact gU ()
 rw[z] at a;have b:r[0]?\d:=b
 have:=(abW (by lia:j<r.length) e).mp (a.trans b.symm)
 lia
theorem AQ{w v:W}:∀{l:List Dt}{x y:Dt},rO w x l y->(∀e∈l,fh v e=fh w e)->rO v x l y
 | [],x,y,h,_=>h
 |a::l,x,y,#[e,h],k=>#[e,by rw[k a (bP ..)];exact AQ h λe b=>k e (cI _ b)]
def r6{l:List b}(h:l≠ []):∃a z,l=a++ [z]:=#[l.dropLast,l.getLast h,(List.dropLast_concat_getLast h).symm]
def J5(d:(u::r::t).Nodup):aW (u::r::t) u=r/\∀x∈r::t,aW (u::r::t) x=if aW (r::t) x=r then u else aW (r::t) x:=by
 have g:=(cX.mp d).2;refine#[eW (a:= []) d,λx i=>?_];obtain⟨b,z,e⟩:=r6 (l:=r::t) (by simp)
 have lz:aW (r::t) z=r:=by
  cases t with
  |nil=>
   have:b= []/\z=r:=by
    cases b with
    |nil=>simp at e;exact#[rfl,e.symm]
    |cons a b=>simp at e
   rw[this.2];unfold aW;simp
  |cons a t=>
   cases b with
   |nil=>simp at e
   |cons c b=>
    have j:a::t=b++ [z]:=(Wp e).2
    have:=iq (b:=b) (x:=z) (y:=r) (by rw[<-j];exact g)
    rw[j];exact this
 have k:z∈r::t:=by rw[e];simp
 by_cases c:x=z
 .subst c
  rw[ir lz]
  have:=iq (b:=b) (x:=x) (y:=u) (by rw[<-e];exact d)
  rw[e];exact this
 .rw[mo (λh=>c (zd g i k (h.trans lz.symm)))]
  refine wL d i ?_;rw[e];intro h;apply c;rw[h,bS,cD,kW (by simp),show b.length+ [z].length-1-b.length=0 by simp];rfl
def Ff(l e:List Nat)(r u:Nat):Prop:=∃a t b,l=b++a/\a++b=r::t/\∃c d,e=d++c/\c++d=u::r::t
def Ff.succ(P:Ff l d r u)(p:l.Nodup)(q:u∉l):aW d u=r/\(∀x∈l,aW d x=if aW l x=r then u else aW l x)/\d.Nodup/\(∀x,x∈d↔x=u\/x∈l)/\r∈l:=by
 rfl';obtain⟨a,t,b,rfl,g,i,j,rfl,h⟩:=P;have e:(b++a).Perm (r::t):=by rw[<-g];exact lO
 have m:(j++i).Perm (u::r::t):=by rw[<-h];exact lO
 have n:(r::t).Nodup:=e.nodup_iff.mp p;have k:(u::r::t).Nodup:=cX.mpr #[λz=>q (e.mem_iff.mpr z),n];obtain⟨v,y⟩:=J5 k;ac_rfl
 have A:∀x∈r::t,aW (b++a) x=aW (r::t) x:=λx c=>by
  have:=n9 (a:=a) (b:=b) (x:=x) (by rw[g];exact n) (by rw[g];exact c)
  rw[this,g]
 have o:∀x∈u::r::t,aW (j++i) x=aW (u::r::t) x:=λx c=>by
  have:=n9 (a:=i) (b:=j) (x:=x) (by rw[h];exact k) (by rw[h];exact c)
  rw[this,h]
 refine#[by rw[o u (by simp),v],λx c=>?_,m.nodup_iff.mpr k,λx=>?_,e.mem_iff.mpr (by simp)]
 .have c:=e.mem_iff.mp c
  rw[o x (cI _ c),A x c,y x c]
 .rw[m.mem_iff,bH,e.mem_iff]
def MM(h:l[i]?\r):Ff l (ins l i u) r u:=by
 obtain⟨b,e⟩:=eC.mp h;have a:l.drop i=r::l.drop (i+1):=by rw[qv b,e]
 refine#[l.drop i,l.drop (i+1)++l.take i,l.take i,(jE ..).symm,by rw[a];rfl,u::l.drop i,l.take i,rfl,by rw[a];rfl]
def ML(h:l[0]?\r):Ff l (ins l l.length u) r u:=by
 cases l with
 |nil=>simp at h
 |cons a t=>
  simp at h;subst h;refine#[a::t,t,[],rfl,by simp,[u],a::t,?_,rfl]
  unfold ins;simp
def js(w:W)(a:List (List Dt)):Prop:=∀r∈a,∃d,fA w d r/\aU w d
def Fc(w:W)(n:Nat):Prop:=∃a,js w a/\a.flatten.Perm (br w)/\a.length=n
def IM(a:List (List c))(r:List c)(b:List (List c)):(a++r::b).flatten.Perm (r++(a++b).flatten):=by
 rw[wb,wb,i4,<-i5,<-i5];exact aa9 _ lO
def GD{w:W}(g:Good w)(h:js w k)(t:d∈k.flatten):∃l c,fA w d l/\aU w d/\(l++c.flatten).Perm k.flatten/\js w c/\c.length+1=k.length:=by
 rfl';obtain⟨r,m,n⟩:=jZ.mp t;obtain⟨e,o,p⟩:=h r m;obtain⟨i,q,v⟩:=zq.mp n;have y:r.getD i (0,0)=d:=by rw[bS,cM q];exact v
 have s:=o.Te g p q;rw[y] at s;obtain⟨a,b,rfl⟩:=CP m;ac_rfl
 have z:(r.drop i++r.take i).Perm r:=by
  have:=lO (l₁:=r.drop i) (l₂:=r.take i)
  rwa [jE] at this
 refine#[_,a++b,s,o.br g p d n,?_,λx j=>h x ?_,by simp;lia]
 .exact(z.append_right _).trans (IM a r b).symm
 .rcases b6.mp j with j|j
  .exact fi _ j
  .exact di _ (cI _ j)
def js.dart{w:W}(g:Good w)(h:js w a):∀e∈a.flatten,aU w e:=λe b=>by
 obtain⟨r,c,i⟩:=jZ.mp b;obtain⟨d,R,j⟩:=h r c;exact R.br g j e i
def js.keep{w v:W}(g:Good w)(h:js w a)(k:∀e∈a.flatten,fh v e=fh w e)(dv:∀d,aU w d->aU v d):js v a:=λr b=>by
 obtain⟨d,R,c⟩:=h r b;refine#[d,Cm (AQ R.Pc λe i=>k e (jZ.mpr #[r,b,i])) (λz=>?_) (R.nodup g c),dv d c]
 have:=R.first
 rw[z] at this;cases this
def Eu(b:Bool)(w:W):Prop:=2<=w.length->∃c,Fc w c/\2*(w.length+c)<=j7 w+4/\(b=true->2*(w.length+c)=j7 w+4)
def Eu.nam{w v:W}(g:Good w)(i:Good v)(E:Eu b w)(N:Bc w v a)(j:j7 v=j7 w):Eu b v:=λe=>by
 rw[N.len] at e ⊢;rfl';obtain⟨c,⟨l,m,n,o⟩,p,q⟩:=E e;ac_rfl;rw[j];refine#[c,#[l.map λr=>r.map λd=>(a d.1,a d.2),λx s=>?_,?_,by rw[aI];exact o],p,q]
 .obtain⟨r,t,rfl⟩:=bT.mp s
  obtain⟨d,R,h⟩:=m r t;exact#[_,(N.dmap g).rnd g R h,(N.dmap g).dart d h]
 .rw[<-List.map_flatten]
  exact(n.map _).trans (Dm g i (N.dmap g).dart (N.dmap g).inj N.WM)
abbrev bQ(s:List Dt):Dt:=s.headD (0,0)
def iJ(a:Nat):List (List Dt)->List (List Dt×Nat)
 | []=> []
 | [s]=> [(s,a)]
 |s::t::l=>(s,(bQ t).1)::iJ a (t::l)
def ring(z:Nat)(p:List Dt×Nat):List Dt:=(z,(bQ p.1).1)::(p.1++ [(p.2,z)])
theorem yv(a:Nat):∀b,(iJ a b).map (·.1)=b
 | []=>rfl
 | [s]=>rfl
 |s::t::l=>by rw[iJ,dJ,yv a (t::l)]
theorem yy(a:Nat):∀(s:List Dt)(b:List (List Dt)),(iJ a (s::b)).map (·.2)=b.map (λt=>(bQ t).1)++ [a]
 |s,[]=>rfl
 |s,t::l=>by rw[iJ,dJ,yy a t l];rfl
theorem yx{w:W}:∀{c:List (List Dt)}{x:Dt},rO w x c.flatten d->(∀s∈c,s≠ [])->∀p∈iJ d.1 c,∃y,rO w (bQ p.1) p.1 y/\p.2=y.1/\(y=d\/∃t∈c,y=bQ t)
 | [],_,_,_,p,b=>nomatch b
 | [s],x,h,ne,p,b=>by
  rw[iJ,cR] at b;subst b;have h:rO w x (s++ []) d:=h;rw[jH] at h;cases s with
  |nil=>exact absurd rfl (ne [] (bP ..))
  |cons a s=>exact#[d,#[rfl,h.2],rfl, .inl rfl]
 |s::t::l,x,h,ne,p,b=>by
  rw[i4] at h;obtain⟨y,j,g⟩:=tO.mp h;have k:=ne t (by simp)
  have i:y=bQ t:=by
   cases t with
   |nil=>exact absurd rfl k
   |cons a t=>exact g.1
  rw[iJ,bH] at b
  rcases b with rfl|b
  .refine#[y,?_,by rw[i], .inr #[t,by simp,i]]
   cases s with
   |nil=>exact absurd rfl (ne [] (bP ..))
   |cons a s=>exact#[rfl,j.2]
  .obtain⟨u,m,n,o⟩:=yx g (λs q=>ne s (cI _ q)) p b
   exact#[u,m,n,o.imp id λ#[r,v,e]=>#[r,cI _ v,e]]
theorem vR(z:Nat):∀l:List (List Dt×Nat),(l.map (ring z)).flatten.Perm ((l.map (·.1)).flatten++((l.map λp=>(z,(bQ p.1).1))++l.map λp=>(p.2,z)))
 | []=> .refl _
 |p::l=>by
  have b:=vR z l;rw[dJ,i4,dJ,i4,dJ,dJ];refine(aap _ b).trans ?_;rw[List.perm_iff_count];intro a;simp only[ring,uh,List.count_cons,acC];lia
theorem HX{w v:W}:∀{s:List Dt}{x y c:Dt},s≠ []->rO w x s y->(∀e∈s,fh w e=y->fh v e=c)->(∀e∈s,fh w e∈s.tail->fh v e=fh w e)->rO v x s c
 | [],_,_,_,ne,_,_,_=>absurd rfl ne
 | [a],x,y,c,_,#[e,h],d,g=>#[e,(d a (cR.mpr rfl) h)]
 |a::b::s,x,y,c,_,#[e,h],d,g=>by
  exists e;have j:fh w a=b:=h.1;rw[g a (bP ..) (by rw[j];simp)]
  exact HX (by simp) h (λe i=>d e (cI _ i)) (λe i z=>g e (cI _ i) (cI _ z))
def wY(h:s≠ []):bQ s∈s:=by
 cases s with
 |nil=>exact absurd rfl h
 |cons a s=>exact bP ..
def Oe{d:List (List Dt)}(l:d.flatten.Nodup)(ne:∀s∈d,s≠ []){s t:List Dt}(g:s∈d)(m:t∈d):bQ s∉t.tail:=λh=>by
 obtain⟨n,i⟩:=abk.mp l
 by_cases e:s=t
 .subst e
  have:=n s g
  cases s with
  |nil=>exact ne [] g rfl
  |cons a s=>exact(cX.mp this).1 h
 .have j:=wY (ne s g)
  have k:bQ s∈t:=List.mem_of_mem_tail h;obtain⟨a,b,rfl⟩:=CP g;rw[abq,zt] at i
  rcases b6.mp m with c|c
  .exact i.2.2 t c s (bP ..) _ k _ j rfl
  .rcases bH.mp c with c|c
   .exact e c.symm
   .exact i.2.1.1 t c _ j _ k rfl
theorem Lh{w v:W}(g:Good w)(gv:Good v)(hz:z=w.length) 
  (R:fA w d (j::i).flatten) (C:aU w d) (n:∀s∈j::i,s≠ [])
  (J:((j::i).map λs=>(bQ s).1).Nodup)
  (M:∀e,aU w e->(∀s∈j::i,fh w e≠bQ s)->fh v e=fh w e)
  (k1:∀s∈j::i,∀e,aU w e->fh w e=bQ s->fh v e=((bQ s).1,z))
  (N:∀p∈iJ d.1 (j::i),fh v (p.2,z)=(z,(bQ p.1).1))
  (k3:∀s∈j::i,fh v (z,(bQ s).1)=bQ s)
  (dv:∀e,aU v e↔aU w e\/∃s∈j::i,e=((bQ s).1,z)\/e=(z,(bQ s).1))
  (h:Fc w c):Fc v (c+i.length)/\(br v).length=(br w).length+2*(i.length+1):=by
 obtain⟨rs,hA,E,hl⟩:=h;obtain⟨r1,l,R1,_,O,F,l1⟩:=GD g hA (E.mem_iff.mpr (bg.mpr C));obtain rfl:=R1.uniq R;have nd:=R.nodup g C
 have P:d=bQ j:=by
  have:=R.Pc
  cases j with
  |nil=>exact absurd rfl (n [] (bP ..))
  |cons a s=>exact this.1
 have G:∀e∈(j::i).flatten,aU w e:=R.br g C;have IZ:∀s∈j::i,aU w (bQ s):=λs k=>G _ (jZ.mpr #[s,k,wY (n s k)]);generalize H:iJ d.1 (j::i)=L at N;have A:L.map (·.1)=j::i:=by rw[<-H];exact yv _ _
 have f2:L.map (·.2)=i.map (λt=>(bQ t).1)++ [d.1]:=by rw[<-H];exact yy _ _ _
 have f3:(L.map (·.2)).Perm ((j::i).map λs=>(bQ s).1):=by
  rw[f2,dJ,P];exact lO
 have f4:(L.map λp=>(z,(bQ p.1).1))=(j::i).map λs=>(z,(bQ s).1):=by rw[<-A,b7];rfl
 have f5:(L.map λp=>(p.2,z)).Perm ((j::i).map λs=>((bQ s).1,z)):=by
  have:=f3.map λa:Nat=>(a,z)
  rw[b7,b7] at this;exact this
 have lt:∀s∈j::i,(bQ s).1<z:=λs k=>by rw[hz];exact bO (IZ s k)
 have Q:=vR z L;rw[A,f4] at Q
 have pv:((L.map (ring z)).flatten++l.flatten).Perm (br w++(((j::i).map λs=>(z,(bQ s).1))++(j::i).map λs=>((bQ s).1,z))):=by
  refine(aa9 _ (Q.trans (aap _ (aap _ f5)))).trans ?_;rw[i5];refine(aap _ lO).trans ?_;rw[<-i5];exact aa9 _ (O.trans E)
 have T:(br w++(((j::i).map λs=>(z,(bQ s).1))++(j::i).map λs=>((bQ s).1,z))).Nodup:=by
  refine eE.mpr #[cB g,eE.mpr #[?_,?_,?_],?_]
  .have:=List.Pairwise.map (S:=λa b=>a≠b) (λa:Nat=>(z,a)) (λa b h e=>h (aao e).2) J
   rw[b7] at this;exact this
  .have:=List.Pairwise.map (S:=λa b=>a≠b) (λa:Nat=>(a,z)) (λa b h e=>h (aao e).1) J
   rw[b7] at this;exact this
  .intro a I b o e
   obtain⟨s,k,rfl⟩:=bT.mp I;obtain⟨t,U,rfl⟩:=bT.mp o
   have:=lt s k
   have:=(aao e).2
   lia
  .intro a I b o e
   have X:=bg.mp I;have Y:=bO X;have Z:=g.rng _ _ X
   rcases b6.mp o with o|o<;>obtain⟨s,k,rfl⟩:=bT.mp o<;>rw[e] at Y Z
   .have:z<w.length:=Y
    lia
   .have:z<w.length:=Z
    lia
 have pe:=(vY T (cB gv)).mpr λe=>by
  rw[bg (w:=v),dv e,b6,bg,b6,bT,bT];refine or_congr aaX #[λh=>h.elim (λ#[s,k,e]=>#[s,k, .inr e.symm]) λ#[s,k,e]=>#[s,k, .inl e.symm],λ#[s,k,e]=>e.elim (λe=> .inr #[s,k,e.symm]) λe=> .inl #[s,k,e.symm]]
 refine#[#[L.map (ring z)++l,?_,?_,?_],?_]
 .intro r u
  rcases b6.mp u with u|u
  .obtain⟨p,B,rfl⟩:=bT.mp u
   have q:p.1∈j::i:=by rw[<-A];exact bT.mpr #[p,B,rfl]
   obtain⟨y,y1,y2,y3⟩:=yx R.Pc n p (by rw[H];exact B)
   obtain⟨t,U,ey⟩:∃t∈j::i,y=bQ t:=y3.elim (λe=>#[j,bP ..,e.trans P]) id
   have q1:rO v (bQ p.1) p.1 (p.2,z):=by
    refine HX (n _ q) y1 (λe m x=>?_) λe m x=>?_
    .rw[y2,ey]
     exact k1 t U e (G e (jZ.mpr #[_,q,m])) (by rw[x,ey])
    .exact M e (G e (jZ.mpr #[_,q,m])) λs k z=>Oe nd n k q (z▸x)
   have nr:(ring z p).Nodup:=(abk.mp (eE.mp (pv.nodup_iff.mpr T)).1).1 _ (bT.mpr #[p,B,rfl]);refine#[(z,(bQ p.1).1),Cm #[rfl,?_] (by unfold ring;simp) nr,(dv _).mpr (.inr #[_,q, .inr rfl])]
   rw[k3 _ q];exact tO.mpr #[(p.2,z),q1,rfl,N p B]
  .refine js.keep g F (λe m=>?_) (λe m=>(dv e).mpr (.inl m)) r u
   have de:=js.dart g F e m;refine M e de λs k x=>?_
   have R3:fh w e∈l.flatten:=by
    obtain⟨r2,Vz,R5⟩:=jZ.mp m;obtain⟨d2,R2,sQ⟩:=F r2 Vz;exact jZ.mpr #[r2,Vz,R2.iter R5 1]
   have hh:bQ s∈(j::i).flatten:=jZ.mpr #[s,k,wY (n s k)];exact(eE.mp ((O.trans E).nodup_iff.mpr (cB g))).2.2 _ hh _ R3 x.symm
 .rw[wb]
  exact pv.trans pe
 .rw[cD,aI,<-aI (f:=(·.1)) (as:=L),A,cv]
  lia
 .have:=pe.length_eq
  rw[cD,cD,aI,aI,cv] at this;lia
theorem yw:∀{l:List (List Dt)},p∈iJ b l->(∃A t B,l=A++p.1::t::B/\p.2=(bQ t).1)\/(∃A,l=A++ [p.1]/\p.2=b)
 | [],h=>nomatch h
 | [s],h=>by
  rw[iJ,cR] at h;subst h;exact .inr #[[],rfl,rfl]
 |s::t::l,h=>by
  rw[iJ,bH] at h
  rcases h with rfl|h
  .exact .inl #[[],t,l,rfl,rfl]
  .rcases yw h with ⟨A,c,B,e,a⟩ | ⟨A,e,a⟩
   .exact .inl #[s::A,c,B,by rw[e];rfl,a]
   .exact .inr #[s::A,by rw[e];rfl,a]
def Em(i:((a::d).map λs=>(bQ s).1).Nodup)(j:p∈iJ (bQ a).1 (a::d)):aW ((a::d).map λs=>(bQ s).1).reverse p.2=(bQ p.1).1:=by
 have c:((a::d).map λs=>(bQ s).1).reverse.Nodup:=(aa3 _).nodup_iff.mpr i
 rcases yw j with ⟨A,t,B,e,g⟩ | ⟨A,e,g⟩
 .rw[e] at c ⊢
  have h:((A++p.1::t::B).map λs=>(bQ s).1).reverse=(B.map λs=>(bQ s).1).reverse++(bQ t).1::(bQ p.1).1::(A.map λs=>(bQ s).1).reverse:=by simp
  rw[h] at c ⊢;rw[g];exact eW c
 .rw[e] at c ⊢
  have h:((A++ [p.1]).map λs=>(bQ s).1).reverse=(bQ p.1).1::(A.map λs=>(bQ s).1).reverse:=by simp
  rw[h] at c ⊢;rw[g];cases A with
  |nil=>
   have:p.1=a:=by have:=(Wp e).1;exact this.symm
   rw[this];unfold aW;simp
  |cons b A=>
   have k:a=b:=(Wp e).1;have l:((b::A).map λs=>(bQ s).1).reverse=(A.map λs=>(bQ s).1).reverse++ [(bQ b).1]:=by simp
   rw[l] at c ⊢;rw[k];exact iq c
structure Kd (w v:W) (hs:List Dt):Prop where
 len:v.length=w.length+1
 out:∀p,p<w.length->(∀h∈hs,h.1≠p)->row v p=row w p
 put:∀h∈hs,Ff (row w h.1) (row v h.1) h.2 w.length
 last:row v w.length=(hs.map (·.1)).reverse
theorem Li{w v:W}(g:Good w)(E:Good v)(R:fA w d (l::j).flatten)(A:aU w d)(t:∀s∈l::j,s≠ [])
  (B:((l::j).map λs=>(bQ s).1).Nodup) (h:Kd w v ((l::j).map bQ)) (F:Fc w c):Fc v (c+j.length)/\(br v).length=(br w).length+2*(j.length+1):=by
 have G:∀e∈(l::j).flatten,aU w e:=R.br g A;have L:∀s∈l::j,aU w (bQ s):=λs b=>G _ (jZ.mpr #[s,b,wY (t s b)]);have H:∀p,w.length∉row w p:=λp z=>by have:=g.rng p _ z;lia
 have n:∀s∈l::j,aW (row v (bQ s).1) w.length=(bQ s).2/\(∀x∈row w (bQ s).1,aW (row v (bQ s).1) x=if aW (row w (bQ s).1) x=(bQ s).2 then w.length else aW (row w (bQ s).1) x)/\∀x,x∈row v (bQ s).1↔x=w.length\/x∈row w (bQ s).1:=λs b=>by
  have:=(h.put _ (bT.mpr #[s,b,rfl])).succ (g.nod _) (H _)
  exact#[this.1,this.2.1,this.2.2.2.1]
 have I:d=bQ l:=by
  have:=R.Pc
  cases l with
  |nil=>exact absurd rfl (t [] (bP ..))
  |cons a s=>exact this.1
 have u:row v w.length=((l::j).map λs=>(bQ s).1).reverse:=by rw[h.last,b7];rfl
 refine Lh g E rfl R A t B (λe i k=>?_) (λs b e i k=>?_) (λp C=>?_) (λs b=>?_) (λe=>?_) F
 .have r:=g.sym _ _ i
  have le:=bO r;unfold fh
  by_cases c:∃s∈l::j,(bQ s).1=e.2
  .obtain⟨s,b,m⟩:=c
   have:=(n s b).2.1 e.1 (by rw[m];exact r)
   rw[m] at this;rw[this,mo];intro z;exact k s b (aal m.symm z)
  .rw[h.out e.2 le λx o z=>?_]
   obtain⟨s,b,rfl⟩:=bT.mp o;exact c #[s,b,z]
 .have r:=g.sym _ _ i
  have y:e.2=(bQ s).1:=GM Prod.fst k;have J:aW (row w e.2) e.1=(bQ s).2:=GM Prod.snd k
  have:=(n s b).2.1 e.1 (by rw[<-y];exact r)
  rw[<-y] at this;unfold fh;rw[this,ir J,y]
 .unfold fh
  show(w.length,aW (row v w.length) p.2)=_;rw[u];rw[I] at C;rw[Em B C]
 .exact aal rfl (n s b).1
 .constructor
  .intro i
   have le:=bO i;rw[h.len] at le
   by_cases c:e.1=w.length
   .right
    have i:e.2∈row v e.1:=i;rw[c,u,zy] at i;obtain⟨s,b,m⟩:=bT.mp i;exact#[s,b, .inr (aal c m.symm)]
   .by_cases q:∃s∈l::j,(bQ s).1=e.1
    .obtain⟨s,b,m⟩:=q
     have i:e.2∈row v e.1:=i;rw[<-m] at i
     rcases((n s b).2.2 _).mp i with x|x
     .exact .inr #[s,b, .inl (aal m.symm x)]
     .left;rw[m] at x;exact x
    .left
     have i:e.2∈row v e.1:=i;rw[h.out e.1 () λx o z=>by obtain⟨s,b,rfl⟩:=bT.mp o;exact q #[s,b,z]] at i
     exact i
  .rintro(i| ⟨s,b,rfl|rfl⟩)
   .show e.2∈row v e.1
    by_cases q:∃s∈l::j,(bQ s).1=e.1
    .obtain⟨s,b,m⟩:=q
     rw[<-m];exact((n s b).2.2 _).mpr (.inr (by rw[m];exact i))
    .rw[h.out e.1 (bO i) λx o z=>by obtain⟨s,b,rfl⟩:=bT.mp o;exact q #[s,b,z]]
     exact i
   .exact((n s b).2.2 _).mpr (.inl rfl)
   .show(bQ s).1∈row v w.length
    rw[u,zy];exact bT.mpr #[s,b,rfl]
def lh(a tail:List Dt):List Nat->List (List Dt)
 | []=> []
 | [k]=> [a.drop k++tail]
 |k::b::l=>(a.drop k).take (b-k)::lh a tail (b::l)
theorem xF(a tail:List Dt):∀(k:Nat)(l:List Nat),(k::l).Pairwise (·<·)->(lh a tail (k::l)).flatten=a.drop k++tail
 |k,[],_=>by simp[lh]
 |k,b::l,h=>by
  have c:=zt.mp h;have d:=c.1 b (bP ..);rw[lh,i4,xF a tail b l c.2,<-i5]
  congr 1
  rw[show a.drop b=(a.drop k).drop (b-k) by rw[acz];congr 1;lia,jE]
def K2{a:List Dt}(h:k<a.length)(t:List Dt):bQ (a.drop k++t)=a.getD k (0,0)/\a.drop k++t≠ []:=by
 rw[qv h,bS,cM h];exact#[rfl,λz=>by rw[ve] at z;cases z]
theorem De(a tail:List Dt):∀(b:List Nat),b.Pairwise (·<·)->(∀k∈b,k<a.length)->(lh a tail b).map bQ=(b.map λk=>a.getD k (0,0))/\∀s∈lh a tail b,s≠ []
 | [],_,_=>#[rfl,λs h=>nomatch h]
 | [k],_,lt=>by
  have:=K2 (lt k (by simp)) tail
  exact#[by simp only[lh,dJ,qu];rw[this.1],λs h=>by rw[lh,cR] at h;rw[h];exact this.2]
 |k::c::l,h,lt=>by
  have g:=zt.mp h;have q:=g.1 c (bP ..);have i:=De a tail (c::l) g.2 λx n=>lt x (cI _ n);have j:=lt k (by simp)
  obtain⟨m,o⟩:∃m,c-k=m+1:=#[c-k-1,()]
  have e:(a.drop k).take (c-k)=a[k]::(a.drop (k+1)).take m:=by rw[qv j,o,List.take_succ_cons]
  refine#[?_,λs d=>?_]
  .have p:a.getD k (0,0)=a[k]:=by rw[bS,cM j];rfl
   rw[lh,dJ,i.1,e];show a[k]::_=a.getD k (0,0)::_;rw[p]
  .rw[lh,bH] at d
   rcases d with rfl|d
   .rw[e];simp
   .exact i.2 s d
def lQ(w:W):Prop:=∃c,Fc w c/\2*(w.length+c)=j7 w+4
theorem JH{w v:W}(g:Good w)(m:Good v)(R:fA w d a)(j:aU w d)(inc:(k::b).Pairwise (·<·))(lt:∀x∈k::b,x<a.length)
  (n:((k::b).map λx=>(a.getD x (0,0)).1).Nodup) (h:Kd w v ((k::b).map λx=>a.getD x (0,0))) (P:lQ w):lQ v:=by
 obtain⟨c,F,e⟩:=P;have i:=lt k (bP ..);have R2:=R.Te g j i;have ch:=De a (a.take k) (k::b) inc lt;have o:=xF a (a.take k) k b inc;have p:aU w (a.getD k (0,0)):=R.br g j _ (by rw[bS,cM i];exact jY i)
 have l:(lh a (a.take k) (k::b)).length=b.length+1:=by have:=GM bV ch.1;rwa [aI,aI] at this
 rw[<-o] at R2;rw[<-ch.1] at h
 have q:((lh a (a.take k) (k::b)).map λs=>(bQ s).1).Nodup:=by
  have:((lh a (a.take k) (k::b)).map λs=>(bQ s).1)=(k::b).map λx=>(a.getD x (0,0)).1:=by
   have:=GM (List.map (·.1)) ch.1
   rw[b7,b7] at this;exact this
  rw[this];exact n
 generalize lh a (a.take k) (k::b)=S at*;cases S with
 |nil=>cases l
 |cons t u=>
  obtain⟨r,dl⟩:=Li g m R2 p ch.2 q h F;exists _,r;have y:=fZ w;have z:=fZ v;have A:=h.len;rw[cv] at l;lia
def tR(m:l.Nodup){u:Nat}(o:u∈l)(P:Nat->Prop)(t:P (aW l u))(h:∀x∈l,x≠u->P x->P (aW l x)):∀x∈l,P x:=by
 have v:0<l.length:=rG o
 have at_:∀i,i<l.length->l.getD i 0∈l/\l[i]?\(l.getD i 0):=λi g=>by
  have e:l[i]?\(l.getD i 0):=by rw[bS,cM g];rfl
  exact#[dH e,e]
 have p:∀i,i<l.length->aW l (l.getD i 0)=l.getD ((i+1)%l.length) 0:=λi g=>by
  by_cases c:i+1<l.length
  .rw[uW m c,iu c]
  .rw[GL m (),show i+1=l.length by lia,sH]
 obtain⟨d,n,y⟩:=List.getElem_of_mem o;have r:l.getD d 0=u:=by rw[bS,cM n];exact y
 have all:∀j,j<l.length->P (l.getD ((d+1+j)%l.length) 0):=by
  intro j
  induction j with
  |zero=>intro _;rw[<-p d n,r];exact t
  |succ j A=>
   intro E;have k:=qB (d+1+j) v
   have q:=h _ (at_ _ k).1 (λz=>by
    have a:=(at_ _ k).2;have b:=(at_ _ n).2;rw[r] at b;rw[z] at a
    have:=(abW k m).mp (a.trans b.symm)
    by_cases c:d+1+j<l.length
    .rw[iu c] at this;lia
    .rw[Nat.mod_eq_sub_mod (),iu ()] at this;lia) (A ())
   rw[p _ k] at q;rw[show(d+1+(j+1))%l.length=((d+1+j)%l.length+1)%l.length by rw[Nat.mod_add_mod];rfl]
   exact q
 intro x B;obtain⟨i,g,C⟩:=List.getElem_of_mem B;have s:l.getD i 0=x:=by rw[bS,cM g];exact C
 by_cases c:d<i
 .have:=all (i-d-1) ()
  rw[show d+1+(i-d-1)=i by lia,iu g,s] at this;exact this
 .have:=all (i+l.length-d-1) ()
  rw[show d+1+(i+l.length-d-1)=i+l.length by lia,aa4,iu g,s] at this;exact this
def eB(d:Dt):Dt:=(d.2,d.1)
def sg(w:W)(d:Dt):Dt:=(d.1,aW (row w d.1) d.2)
def Rl(L:List Dt)(d:Dt):Prop:=d∈L\/eB d∈L
instance Yk (L:List Dt) (d:Dt):Decidable (Rl L d):=inferInstanceAs (Decidable (_\/_))
def ph(w:W)(L:List Dt)(d:Dt):Dt:=if Rl L d then sg w (eB d) else sg w d
def E9(w:W)(L:List Dt)(f:Dt->Nat):Prop:=∀d,aU w d->f (ph w L d)=f d
def NH(w:W)(f:Dt->Nat)(n:Nat):Prop:=∃a:List Nat,a.Nodup/\a.length=n/\∀v∈a,∃d,aU w d/\f d=v
def CQ(w:W)(L:List Dt)(n:Nat):Prop:=∃f,E9 w L f/\NH w f n
def mH{w:W}(g:Good w)(h:aU w d):aU w (eB d):=g.sym _ _ h
def N9{w:W}(g:Good w)(h:aU w d):eB d≠d:=λz=>by
 have:d.2=d.1:=GM Prod.fst z
 exact g.irr _ (by have h:d.2∈row w d.1:=h;rw[this] at h;exact h)
def DJ(d:Dt):eB (eB d)=d:=rfl
def EG(a:d≠t)(b:d≠eB t):Rl (t::L) d↔Rl L d:=by
 unfold Rl;rw[bH,bH]
 constructor
 .rintro((z|z) | (z|z))
  .exact absurd z a
  .exact .inl z
  .exact absurd (by rw[<-z];rfl) b
  .exact .inr z
 .rintro(z|z)
  .exact .inl (.inr z)
  .exact .inr (.inr z)
def lJ:Rl L (eB d)↔Rl L d:=#[λh=>h.symm,λh=>h.symm]
def yS{w:W}(a:d≠t)(b:d≠eB t):ph w (t::L) d=ph w L d:=by
 unfold ph
 by_cases c:Rl L d
 .rw[ir c,ir ((EG a b).mpr c)]
 .rw[mo c,mo (λz=>c ((EG a b).mp z))]
def QN{w:W}{t:Dt}{L:List Dt}:ph w (t::L) t=sg w (eB t)/\ph w (t::L) (eB t)=sg w t:=by
 unfold ph;exact#[ir (.inl (bP ..)),ir (.inr (bP ..))]
def HU{w:W}{t:Dt}{L:List Dt}(h:¬Rl L t):ph w L t=sg w t/\ph w L (eB t)=sg w (eB t):=by
 unfold ph;exact#[mo h,mo λz=>h (lJ.mp z)]
def Iv{w:W}(g:Good w){t:Dt}{L:List Dt}(l:aU w t)(h:¬Rl L t)(c:CQ w (t::L) (n+1)):CQ w L n:=by
 obtain⟨f,j,s,o,C,u⟩:=c;obtain⟨x,y⟩:=QN (w:=w) (t:=t) (L:=L);obtain⟨A,B⟩:=HU (w:=w) h;have p:=j t l;have r:=j _ (mH g l);rw[x] at p;rw[y] at r;refine#[λd=>if f d=f (eB t) then f t else f d,λd k=>?_,(s.erase (f (eB t))).take n,(zu _ _).nodup (o.erase _),?_,λv i=>?_]
 .by_cases a:d=t
  .subst a
   show(if f (ph w L d)=f (eB d) then f d else f (ph w L d))=if f d=f (eB d) then f d else f d;rw[A,r,ir rfl];split<;>rfl
  .by_cases b:d=eB t
   .subst b
    show(if f (ph w L (eB t))=f (eB t) then f t else f (ph w L (eB t)))=if f (eB t)=f (eB t) then f t else f (eB t);rw[B,p,ir rfl];split<;>rfl
   .have q:=j d k
    rw[yS a b] at q;show(if f (ph w L d)=f (eB t) then f t else f (ph w L d))=_;rw[q]
 .rw[i6,List.length_erase]
  split<;>lia
 .have i:=CM i
  have m:=List.mem_of_mem_erase i;obtain⟨d,k,e⟩:=u v m;have ne:v≠f (eB t):=λz=>by rw[z] at i;exact(List.Nodup.not_mem_erase o) i
  exact#[d,k,by show(if f d=f (eB t) then f t else f d)=v;rw[e,mo ne]]
def above(l:List Nat):∃n,∀x∈l,x<n:=by
 induction l with
 |nil=>exact#[0,λx h=>by cases h]
 |cons a l b=>
  obtain⟨n,c⟩:=b
  exact#[n+a+1,λx d=>by
   rcases bH.mp d with rfl|z
   .lia
   .have:=c x z;lia]
def Iy{w:W}(g:Good w)(i:aU w t)(h:∀d∈L,d.1≠t.1/\d.2≠t.1)(c:CQ w (t::L) n):CQ w L (n+1):=by
 obtain⟨f,k,o,y,A,B⟩:=c
 have l:∀d,d.1=t.1\/d.2=t.1->¬Rl L d:=λd j z=>by
  rcases z with z|z
  .have:=h _ z;rcases j with e|e
   .exact this.1 e
   .exact this.2 e
  .have:=h _ z;rcases j with e|e
   .exact this.2 e
   .exact this.1 e
 obtain⟨C,E⟩:=QN (w:=w) (t:=t) (L:=L);obtain⟨O,F⟩:=HU (w:=w) (l t (.inl rfl));have p:=k t i;have r:=k _ (mH g i);rw[C] at p;rw[E] at r;have s:t.2≠t.1:=λz=>by have i:t.2∈row w t.1:=i;rw[z] at i;exact g.irr _ i
 have all:∀x∈row w t.1,f (t.1,x)=f (eB t):=tR (g.nod _) (u:=t.2) i (λx=>f (t.1,x)=f (eB t)) r λx G ne e=>by
  have q:=k (t.1,x) G;have a:(t.1,x)≠t:=λz=>ne (GM Prod.snd z);have b:(t.1,x)≠eB t:=λz=>s (GM Prod.fst z).symm;rw[yS a b,(HU (w:=w) (l (t.1,x) (.inl rfl))).1] at q;exact q.trans e
 obtain⟨m,H⟩:=above (o++ [f (eB t)]);have I:f t=f (eB t):=all t.2 i;refine#[λd=>if d.1=t.1 then m else f d,λd j=>?_,m::o,cX.mpr #[λz=>by have:=H m (fi _ z);lia,y],by rw[cv,A],λv J=>?_]
 .by_cases a:d.1=t.1
  .show(if (ph w L d).1=t.1 then m else f (ph w L d))=if d.1=t.1 then m else f d
   rw[(HU (w:=w) (l d (.inl a))).1,ir a,ir (show(sg w d).1=t.1 from a)]
  .by_cases b:d=eB t
   .subst b
    show(if (ph w L (eB t)).1=t.1 then m else f (ph w L (eB t)))=if (eB t).1=t.1 then m else f (eB t);rw[F,mo a,mo (show ¬(sg w (eB t)).1=t.1 from a),p,I]
   .have M:d≠t:=λz=>a (by rw[z])
    have q:=k d j;rw[yS M b] at q
    have ne:(ph w L d).1≠t.1:=by
     unfold ph
     split
     .rename_i N
      intro z;have z:d.2=t.1:=z;exact l d (.inr z) N
     .exact a
    show(if (ph w L d).1=t.1 then m else f (ph w L d))=if d.1=t.1 then m else f d;rw[mo ne,mo a,q]
 .rcases bH.mp J with rfl|z
  .exact#[t,i,ir rfl]
  .obtain⟨d,j,e⟩:=B v z
   by_cases a:d.1=t.1
   .refine#[eB t,mH g i,?_]
    have:f d=f (eB t):=by
     have:=all d.2 (by rw[<-a];exact j)
     rw[<-a] at this;exact this
    show(if t.2=t.1 then m else f (eB t))=v;rw[mo s,<-this,e]
   .exact#[d,j,by show(if d.1=t.1 then m else f d)=v;rw[mo a,e]]
structure pj (w:W) (L:List Dt):Prop where
 dart:∀d∈L,aU w d
 nd:L.Nodup
 nf:∀d∈L,eB d∉L
def pj.cons{w:W}(g:Good w){L:List Dt}(h:pj w L){t:Dt}(b:aU w t)(n:¬Rl L t):pj w (t::L):=by
 refine#[λd a=>?_,cX.mpr #[λz=>n (.inl z),h.nd],λd a z=>?_]
 .rcases bH.mp a with rfl|z
  .exact b
  .exact h.dart _ z
 .rcases bH.mp a with rfl|y
  .rcases bH.mp z with z|z
   .exact N9 g b z
   .exact n (.inr z)
  .rcases bH.mp z with z|z
   .exact n (.inr (by rw[<-z];exact y))
   .exact h.nf _ y z
def both(L:List Dt):List Dt:=L++L.map eB
def uw(L:List Dt):(both L).length=2*L.length:=by unfold both;rw[cD,aI];lia
def uL:d∈both L↔Rl L d:=by
 unfold both Rl;rw[b6,bT]
 constructor
 .rintro(z| ⟨e,z,rfl⟩)
  .exact .inl z
  .exact .inr z
 .rintro(z|z)
  .exact .inl z
  .exact .inr #[_,z,rfl]
theorem pj.both{w:W}(h:pj w L):(both L).Nodup:=by
 unfold Wb.both;refine eE.mpr #[h.nd,?_,λa c b d z=>?_]
 .refine(jG).mpr (h.nd.imp λ {a b} ne z=>ne ?_)
  exact GM eB z
 .subst z
  obtain⟨e,g,rfl⟩:=bT.mp d;exact h.nf _ g c
def pj.sub{w:W}(g:Good w)(h:pj w L):∀d∈Wb.both L,d∈br w:=λd a=>by
 rcases uL.mp a with z|z
 .exact bg.mpr (h.dart _ z)
 .exact bg.mpr (mH g (h.dart _ z))
def Iw{w:W}(g:Good w){f:Dt->Nat}(b:∀d,aU w d->f (fh w d)=f d)(c:NH w f n)(all:∀d,aU w d->Rl L d):CQ w L n:=
 #[f,λd a=>by unfold ph;rw[ir (all d a)];exact b d a,c]
theorem fill{w:W}(g:Good w){f:Dt->Nat}(c:∀d,aU w d->f (fh w d)=f d):∀(m:Nat)(L:List Dt)(n:Nat),pj w L->2*(L.length+m)=j7 w->NH w f (n+m)->CQ w L n
 |0,L,n,h,e,a=>by
  refine Iw g c a λd k=>?_;apply FM;intro z;have l:(d::both L).Nodup:=cX.mpr #[λy=>z (uL.mp y),h.both]
  have:=aF l (m:=br w) λx b=>by
   rcases bH.mp b with rfl|y
   .exact bg.mpr k
   .exact h.sub g _ y
  rw[cv,uw,fZ] at this;lia
 |m+1,L,n,h,e,a=>by
  have:∃t,aU w t/\¬Rl L t:=by
   apply FM;intro z
   have:=aF (cB g) (m:=both L) λx b=>uL.mpr (FM λy=>z #[x,bg.mp b,y])
   rw[uw,fZ] at this;lia
  obtain⟨t,i,j⟩:=this;refine Iv g i j (fill g c m (t::L) (n+1) (h.cons g i j) (by rw[cv];lia) ?_)
  rw[show n+1+m=n+(m+1) by lia];exact a
def OW{w:W}(g:Good w){T:List Nat}(ne:∃p∈T,p<w.length)(h:∃q,q<w.length/\q∉T):∃v u,aU w (v,u)/\v∉T/\u∈T:=by
 obtain⟨p,i,lp⟩:=ne;obtain⟨q,d,e⟩:=h;have r:Reach w p q:=(Reach.symm g.sym (g.con p lp)).trans (g.con q d);clear d
 induction r with
 |refl=>exact absurd i e
 | @step a b r j k=>
  by_cases c:a∈T
  .exact#[b,a,g.sym _ _ j,e,c]
  .exact k c
theorem grow{w:W}(g:Good w):∀(k:Nat)(T:List Nat)(L:List Dt),T.Nodup->(∀p∈T,p<w.length)->T≠ []->T.length+k=w.length->pj w L->(∀d∈L,d.1∈T/\d.2∈T)->∃i,i.length=L.length+k/\pj w i/\∀n,CQ w i n->CQ w L (n+k)
 |0,T,L,_,_,_,_,h,_=>#[L,rfl,h,λn c=>c]
 |k+1,T,L,r,lt,ne,G,h,b=>by
  have:∃q,q<w.length/\q∉T:=by
   apply FM;intro z
   have:=aF vc (m:=T) λx s=>FM λy=>z #[x,cE.mp s,y]
   rw[fw] at this;lia
  rfl';obtain⟨a,A,rfl⟩:=List.exists_cons_of_ne_nil ne;obtain⟨v,u,o,j,B⟩:=OW g #[a,bP ..,lt _ (bP ..)] this;ac_rfl
  have C:¬Rl L (v,u):=λz=>by
   rcases z with z|z
   .exact j (b _ z).1
   .exact j (b _ z).2
  obtain⟨i,e,E,c⟩:=grow g k (v::a::A) ((v,u)::L) (cX.mpr #[j,r]) (λp F=>by
   rcases bH.mp F with rfl|z
   .exact bO o
   .exact lt _ z) (by simp) (by rw[cv];lia) (h.cons g o C) (λd l=>by
   rcases bH.mp l with rfl|z
   .exact#[bP ..,cI _ B]
   .exact#[cI _ (b _ z).1,cI _ (b _ z).2])
  refine#[i,by rw[e,cv];lia,E,λn cn=>?_]
  rw[show n+(k+1)=n+k+1 by lia]
  exact Iy g o (λd l=>#[λz=>j (by have:=(b _ l).1;rw[z] at this;exact this),λz=>j (by have:=(b _ l).2;rw[z] at this;exact this)]) (c n cn)
theorem yO(p:b->Bool):∀R:List b,R.length=(R.filter p).length+(R.filter λd=>!p d).length
 | []=>rfl
 |a::R=>by
  have c:=yO p R;rw[vd,vd];cases e:p a<;>simp<;>lia
def Gj{w:W}(g:Good w){f:Dt->Nat}(a:E9 w L f)(b:aU w (p,q))(h:Rl L (p,q))(i:∃r,r≠p/\r∈row w q/\Rl L (q,r)):∃r,r≠p/\r∈row w q/\Rl L (q,r)/\f (q,r)=f (p,q):=by
 apply FM;intro z
 have all:∀x∈row w q,f (q,x)=f (p,q):=tR (g.nod _) (u:=p) (g.sym _ _ b) (λx=>f (q,x)=f (p,q)) (by
   have:=a _ b
   unfold ph at this;rw[ir h] at this;exact this) λx c ne e=>by
  have j:¬Rl L (q,x):=λy=>z #[x,ne,c,y,e]
  have:=a (q,x) c
  unfold ph at this;rw[mo j] at this;exact this.trans e
 obtain⟨r,k,d,l⟩:=i;exact z #[r,k,d,l,all r d]
def Oh{w:W}(g:Good w)(F:Fc w c):∃f:Dt->Nat,(∀d,aU w d->f (fh w d)=f d)/\NH w f c:=by
 obtain⟨h,s,t,rfl⟩:=F;have C:h.flatten.Nodup:=t.nodup_iff.mpr (cB g)
 have E:∀(i j:Nat)(d:Dt)(a b:List Dt),h[i]?\a->h[j]?\b->d∈a->d∈b->i=j:=by
  intro i j d a b e G k u;have x:=(abk.mp C).2;obtain⟨m,n⟩:=eC.mp e;obtain⟨y,A⟩:=eC.mp G
  rcases abV i j with z|z|z
  .have:=(Ha.mp x) i j m y z
   rw[n,A] at this;exact absurd rfl (this d k d u)
  .exact z
  .have:=(Ha.mp x) j i y m z
   rw[n,A] at this;exact absurd rfl (this d u d k)
 have H:∀d,aU w d->∃i a,h[i]?\a/\d∈a:=λd l=>by
  rfl';obtain⟨a,e,l⟩:=jZ.mp (t.mem_iff.mpr (bg.mpr l));obtain⟨i,J⟩:=zx e;ac_rfl;exact#[i,a,J,l]
 let f:Dt->Nat:=λd=>h.findIdx λr=>decide (d∈r)
 have o:∀i a d,h[i]?\a->d∈a->f d=i:=λi a d e k=>by
  obtain⟨m,n⟩:=eC.mp e;have lt:f d<h.length:=List.findIdx_lt_length_of_exists #[a,dH e,GT k]
  have:=List.findIdx_getElem (w:=lt)
  exact E _ _ d _ a (cM lt) e (KF this) k
 refine#[f,λd l=>?_,ac h.length,vc,fw,λv L=>?_]
 .obtain⟨i,a,e,k⟩:=H d l
  obtain⟨p,q,_⟩:=s a (dH e);rw[o i a d e k,o i a _ e (q.next k)]
 .have B:=cE.mp L
  obtain⟨p,q,M⟩:=s h[v] (jY B);exact#[p,M,o v _ p (cM B) q.first]
def MA:lQ [[1],[0]]:=by
 refine#[1,#[[[(0,1),(1,0)]],λr a=>?_,?_,rfl],rfl]
 .rw[cR] at a
  subst a;exact#[(0,1),Cm #[rfl,rfl,rfl] (by simp) ∅,(by decide:(1:Nat)∈([1]:List Nat))]
 .exact .refl _
def EF(h:x∈l):Ff l (ins l (l.idxOf x+1) z) (aW l x) z:=by
 have a:=vZ.mpr h;have sg:=kS h
 by_cases c:l.idxOf x+1<l.length
 .rw[iu c] at sg
  exact MM sg
 .have e:l.idxOf x+1=l.length:=()
  rw[e,sH] at sg;rw[e];exact ML sg
def JS{w:W}(h:fA w d r)(a:k<r.length):r.getD k (0,0)=fh w (r.getD ((k+(r.length-1))%r.length) (0,0)):=by
 have b:(k+(r.length-1))%r.length<r.length:=qB _ ()
 have:=MV h b
 rw[<-this]
 congr 1
 by_cases c:k=0
 .subst c
  rw[uj,iu (show r.length-1<r.length by lia),show r.length-1+1=r.length by lia,sH]
 .rw[show k+(r.length-1)=(k-1)+r.length by lia,aa4,iu (show k-1<r.length by lia),show k-1+1=k by lia,iu a]
end Wb
set_option maxHeartbeats 4000000
namespace oW
open PySem L2 Wb
variable {P:Program} {w:World} {mg:Str->Option Value} {base:Heap} {Z:DC} (T:Txt Z mg)
open Wy
def jd(a b:Int)(h:0<b):0<=a%b/\a%b<b:=#[acg _ (),abJ _ h]
def Dx{P:D->Prop}{ρ:DN}(h:P (.bl (decide (i=j)))):dC (.int j) ρ (λb=>sO (.int i) b P):=sP h
def Ka(w:W)(i:Nat)(r:List Nat):(w.map az).set i (az r)=(w.set i r).map az:=by rw[qA]
def nj(l:List a)(k:Nat)(h:k<=l.length):cutD l (some (k:Int)) none=l.drop k:=by
 unfold cutD
 have b:HT.cj l.length 0 (some (k:Int))=k:=by
  simp only[HT.cj]
  split<;>lia
 have c:HT.cj l.length l.length none=l.length:=rfl;rw[b,c];exact E5 (by simp)
def dh{w:W}(h:p<w.length):eG (w.map az) (p:Int)\(az (row w p)):=gr (zo h)
def iI{a:List Nat}(h:p<a.length):eG (a.map ao) (p:Int)\(ao (a.getD p 0)):=gr (by rw[cG,bS,cM h];rfl)
def fP(I:Nat->DN->Prop)(c:I 0 a)(d:∀(j:Nat)(a:DN),j<n->I j a->∀A:DN->Prop,(∀a,I (j+1) a->A a)->g (ao j) a λe=>b {nx:=A,ct:=A,bk:=E.nx,rt:=E.rt,xc:=E.xc} e)
  (f:∀a,I n a->E.nx a):lE g b E (e8 0 n) a:=Lo I c (λj a i h A k=>by
 have:=d j a i h A k
 unfold ao at this;rw[Int.zero_add];exact this) f
def xi(n:Nat)(a:List Nat):Prop:=a.length=n/\a.Nodup/\∀x∈a,x<n
def cZ(N:xi n a)(h:x<n):x∈a:=by
 apply FM;intro c
 have:(x::a).length<=(ac n).length:=aF (cX.mpr #[c,N.2.1]) λy b=>by
  rcases bH.mp b with rfl|b
  .exact cE.mpr h
  .exact cE.mpr (N.2.2 y b)
 rw[fw,cv,N.1] at this;lia
theorem BU:∀(b:List Nat)(m:Nat),m<b.idxOf x->b[m]? ≠some x
 | [],m,h=>by simp at h
 |a::b,m,h=>by
  rw[aci] at h
  by_cases e:(a==x)=true
  .rw[e] at h;simp at h
  .rw[rK.mpr e] at h
   cases m with
   |zero=>intro z;simp at z;exact e (by simp[z])
   |succ m=>rw[ud];exact BU b m (~~~h)
def FZ{a:List Nat}{x:Nat}{P:D->Prop}(h:x∈a)(q:P (ao (a.idxOf x))):dO (ao x)=true/\(a.map ao).all dO=true/\∃(j:Nat)(z:D),(a.map ao)[j]?\z/\iD z (ao x)=true/\(∀(m:Nat) z,m<j->(a.map ao)[m]?\z->iD z (ao x)=false)/\P (.int (j:Nat)):=by
 have b:=vZ.mpr h;have e:a[a.idxOf x]?\x:=by rw[cM b];exact GM some (A7 b)
 refine#[rfl,cY _,a.idxOf x,ao x,by rw[cG,e];rfl,by simp[iD,ao],λm z c d=>?_,q]
 obtain⟨y,f,rfl⟩:=cg d
 have:y≠x:=by
  rintro rfl;exact BU _ _ c f
 have:¬((y:Int)=(x:Int)):=()
 simpa [iD,ao] using this
def gy{a:List Nat}{x:Nat}(h:x∈a):(a.map ao)[a.idxOf x]?\(ao x)/\iD (ao x) (ao x)=true/\∀(m:Nat) z,m<a.idxOf x->(a.map ao)[m]?\z->iD z (ao x)=false:=by
 have:=FZ (P:=λd=>d=ao (a.idxOf x)) h rfl
 obtain⟨_,_,j,z,i,k,l,n⟩:=this;have b:=vZ.mpr h;have e:a[a.idxOf x]?\x:=by rw[cM b];exact GM some (A7 b)
 refine#[by rw[cG,e];rfl,by simp[iD,ao],λm z c f=>?_]
 obtain⟨y,g,rfl⟩:=cg f
 have:y≠x:=by
  rintro rfl;exact BU _ _ c g
 have:¬((y:Int)=(x:Int)):=()
 simpa [iD,ao] using this
def kJ(n:Nat):e8 0 n=(ac n).map λ(x:Nat)=>ao x:=by unfold e8 ao;simp
theorem jg{g:b->PyData}(h:∀a,(f a).py\(g a)):∀l:List b,gf (l.map f)\(l.map g)
 | []=>rfl
 |a::l=>by
  have:=jg h l
  rw[dJ,gf,h a,this];rfl
def tQ(r:List Nat):(az r).py\(oq r):=by
 unfold az oq;rw[D.py,jg (g:=nD) (λn=>rfl)];rfl
def w9(w:W):(aL w).py\(qq w):=by
 unfold aL qq;rw[D.py,jg (g:=oq) tQ];rfl
def KG{v w:W}{P:D->Prop}(h:P (.bl (decide (v=w)))):sO (aL v) (aL w) P:=by
 refine#[_,_,w9 v,w9 w,by have:=vA v;lia,?_]
 have:PyData.eqv (qq v) (qq w)=decide (v=w):=by
  by_cases e:v=w
  .rw[GT e];exact(qH v w).mpr e
  .rw[GE e]
   apply rK.mpr;exact λz=>e ((qH v w).mp z)
 rw[mo dA,this];exact h
def Dz(a b:List Nat):PyData.eqv (oq a) (oq b)=decide (a=b):=by
 by_cases e:a=b
 .rw[GT e];exact(uA a b).mpr e
 .rw[GE e]
  apply rK.mpr;exact λz=>e ((uA a b).mp z)
def KD{v w:List Nat}{P:D->Prop}(h:P (.bl (decide (v=w)))):sO (az v) (az w) P:=by
 refine#[_,_,tQ v,tQ w,by have:=pE v;lia,?_]
 rw[mo dA,Dz];exact h
def Di{v w:List Nat}{P:D->Prop}(h:P (.bl (!decide (v=w)))):rR (az v) (az w) P:=by
 refine#[_,_,tQ v,tQ w,by have:=pE v;lia,?_]
 rw[ir rfl,Dz];exact h
variable {P:Program} {w:World} {mg:Str->Option Value} {base:Heap} {Z:DC} (T:Txt Z mg)
def sj(k:Nat×Nat):PyData:= .tuple [nD k.1,nD k.2]
def MP(k:Nat×Nat):(pairD k).py\(sj k):=by
 unfold pairD;rw[D.py,gf,gf,gf];rfl
def An(a b:Nat×Nat):PyData.eqv (sj a) (sj b)=true↔a=b:=by
 unfold sj nD;simp[PyData.eqv,PyData.eqvAll]
 constructor
 .rintro⟨c,d⟩;exact aal () ()
 .rintro rfl;exact#[rfl,rfl]
end oW
namespace TP
open PySem PyProof.Rows TS
def iV(S:Keyed->Prop)(a:SortKind)(M:Model)(A:Around)(E:Value->Shared->Prop)(s:Shared):Prop:=
 ∀(x y:Keyed)(st:SortSt)(Q:Option Bool->SortSt->Prop),S x->S y->kindOf st=a->(∀b,Q (some b) st)->wpS M A E s (lt' x y) Q st
section
variable {S:Keyed->Prop} {k0:SortKind} {M:Model} {A:Around} {E:Value->Shared->Prop} {s:Shared} {st ck:SortSt}
theorem Kq(C:iV S k0 M A E s)(e:arr[base+i]?\x)(a:S k)(c:S x)(d:kindOf st=k0)
  (q:∀b,Q (some b) st):wpS M A E s (jv left k arr base i) Q st:=by
 unfold jv;refine Da (bJ e ?_);cases left with
 |true=>exact C _ _ _ _ c a d q
 |false=>exact Da (C _ _ _ _ a c d λb=>FB (q _))
theorem mK(C:iV S k0 M A E s)(G:∀i,i<n->∃x,arr[base+i]?\x/\S x)(w:S k)(y:kindOf st=k0)(z:g<n)
  (q:∀p,p<=n->Q (some p) st):wpS M A E s (fJ left k arr base n g) Q st:=by
 have t:∀{i:Nat}{u:Option Bool->SortSt->Prop},i<n->(∀b,u (some b) st)->wpS M A E s (jv left k arr base i) u st:=λ {i u} d B=>by
  obtain⟨x,e,F⟩:=G i d;exact Kq C e w F y B
 rw[DK];refine Da (t z λr=>?_)
 have fin:∀lo d,d<=n->
   wpS M A E s (do
    let mut lo:=lo
    let mut d:=d
    for _ in [0:n] do
     if lo>=d then break
     let m:=lo+(d-lo) / 2
     let some more <-jv left k arr base m|return none
     if more then lo:=m+1 else d:=m
    return some d) Q st:=by
  intro lo d H;dsimp only;refine Da (Pi (PP (I:=λ_ c f=>f=st/\∃lo d,c=(none,lo,d)/\d<=n) (Q:=λc f=>f=st/\∃lo d,c=(none,lo,d)/\d<=n) ?_ (λ_ _ h=>h) #[rfl,lo,d,rfl,H]) ?_)
  .rintro x c f _ v ⟨rfl,lo,d,rfl,a⟩
   dsimp only
   by_cases l:lo>=d
   .rw[ir l];exact FB #[rfl,lo,d,rfl,a]
   .rw[mo l]
    refine Da (t () λb=>?_)
    cases b<;>exact FB #[rfl,_,_,rfl,()]
  .rintro c f ⟨rfl,lo,d,rfl,a⟩
   exact FB (q _ a)
 dsimp only;cases r with
 |true=>
  rw[ir rfl];refine Da (Pi (PP (I:=λ_ c f=>f=st/\∃j o:Nat,c=(none,j,o)) (Q:=λc f=>f=st/\∃j o:Nat,c=(none,j,o)) ?_ (λ_ _ h=>h) #[rfl,0,1,rfl]) ?_)
  .rintro x c f _ v ⟨rfl,j,o,rfl⟩
   dsimp only
   by_cases l:o>=n-g
   .rw[ir l];exact FB #[rfl,j,o,rfl]
   .rw[mo l]
    refine Da (t () λb=>?_)
    cases b<;>exact FB #[rfl,_,_,rfl]
  .rintro c f ⟨rfl,j,o,rfl⟩
   exact fin _ _ ()
 |false=>
  rw[mo ∅]
  refine Da (Pi (PP (I:=λ_ c f=>f=st/\∃j o:Nat,c=(none,j,o)) (Q:=λc f=>f=st/\∃j o:Nat,c=(none,j,o)) ?_ (λ_ _ h=>h) #[rfl,0,1,rfl]) ?_)
  .rintro x c f _ v ⟨rfl,j,o,rfl⟩
   dsimp only
   by_cases l:o>=g+1
   .rw[ir l];exact FB #[rfl,j,o,rfl]
   .rw[mo l]
    refine Da (t () λb=>?_)
    cases b<;>exact FB #[rfl,_,_,rfl]
  .rintro c f ⟨rfl,j,o,rfl⟩
   exact fin _ _ ()
def Ec(C:iV S k0 M A E s)(o:Ok S k0 st)(a:i<(arrOf st).size)(c:j<(arrOf st).size)(q:∀b,Q (some b) st):wpS M A E s (ltAt' i j) Q st:=by
 rw[ltAt'_eq];obtain⟨d,e⟩:=o.at a;obtain⟨f,g⟩:=o.at c;exact Da (aaK (Da (bJ d (Da (bJ f (C _ _ _ _ e g o.kind q))))))
def Ks(C:iV S k0 M A E s){lo n ok:Nat}{Q:Bool->SortSt->Prop}(o:Ok S k0 st)(p:lo+n<=(arrOf st).size)
  (h:∀a,g7 st a lo (lo+n)->Q true a):wpS M A E s (binarySort' lo n ok) Q st:=by
 rw[binarySort'_eq];refine Da (Pi (PP (I:=λ_ c a=>c=(none,⟨⟩)/\g7 st a lo (lo+n)) (Q:=λc a=>c=(none,⟨⟩)/\g7 st a lo (lo+n)) ?_ (λ_ _ h=>h) #[rfl, .refl _ _ _]) ?_)
 .rintro k c a _ j ⟨rfl,d⟩
  have m:=o.step d;have q:=d.size;refine Da (Pi (PP (I:=λ_ c e=>e=a/\∃l r,c=(none,l,r)/\l<=k/\r<=k) (Q:=λc e=>e=a/\∃l r,c=(none,l,r)/\l<=k/\r<=k) ?_ (λ_ _ h=>h) #[rfl,0,k,rfl,(),()]) ?_)
  .rintro x c e _ _ ⟨rfl,l,r,rfl,f,g⟩
   dsimp only
   by_cases i:l>=r
   .rw[ir i];exact FB #[rfl,l,r,rfl,f,g]
   .rw[mo i]
    refine Da (Ec C m () () λb=>?_)
    cases b
    .exact FB #[rfl,_,_,rfl,(),()]
    .exact FB #[rfl,_,_,rfl,(),()]
  .rintro c e ⟨rfl,l,r,rfl,f,g⟩
   show wpS _ _ _ _ (do moveDown' (lo+k) (lo+l);pure (ForInStep.yield (none,Unit.unit))) _ _
   rw[moveDown'_eq];exact Da (aaU (FB #[rfl,d.trans (g7.bubble () () () ())]))
 .rintro c a ⟨rfl,d⟩
  exact FB (h a d)
end
section
variable {S:Keyed->Prop} {k0:SortKind} {prog:Program} {w:World} {A:Around} {E:Value->Shared->Prop} {s:Shared} {st ck:SortSt}
def P7(C:iV S k0 (model prog w) A E s){lo a d:Nat}{Q:AscSt->SortSt->Prop}(o:Ok S k0 st)(j:lo+d<=(arrOf st).size)(k:1<=a)(f:a<=d)(h:∀n,a<=n->n<=d->Q (none,n) st):wpS (model prog w) A E s (C0 lo a d) Q st:=by
 unfold C0;refine PP (I:=λx c e=>e=st/\c=(none,x)/\a<=x) ?_ ?_ #[rfl,rfl,bo _]
 .rintro x c e g l ⟨rfl,rfl,_⟩
  dsimp only;refine Da (Ec C o () () λb=>?_)
  cases b
  .exact FB #[rfl,rfl,()]
  .exact FB (h x g ())
 .rintro c e ⟨rfl,rfl,i⟩
  exact h _ i ()
def Nu(C:iV S k0 (model prog w) A E s){lo n c:Nat}{Q:Option Nat->SortSt->Prop}(o:Ok S k0 st)(f:lo+c<=(arrOf st).size)(g:1<=n)(i:n<=c)
  (h:∀m e,g7 st e lo (lo+c)->1<=m->m<=c->Q (some m) e):wpS (model prog w) A E s (tailL lo n c) Q st:=by
 unfold tailL;have d:g7 st (setArr st (mirror (arrOf st) lo (lo+n) ((lo+n-lo) / 2))) lo (lo+c):=g7.mirror (bo _) () ()
 exact Da (ub (Da (P7 C (o.step d) (by rw[d.size];exact f) g i λm a b=>FB (h m _ d () b))))
def KY(C:iV S k0 (model prog w) A E s){lo n f:Nat}{Q:Option Nat->SortSt->Prop}(o:Ok S k0 st)(z:lo+f<=(arrOf st).size)(B:n+1<=f)
  (h:∀m d,g7 st d lo (lo+f)->1<=m->m<=f->Q (some m) d):wpS (model prog w) A E s (descP lo n f) Q st:=by
 unfold descP;refine Da (abh (aay #[rfl,?_]));unfold Fw
 have fin:∀m a d,g7 st d lo (lo+f)->1<=m->m<=f->a+1<=m->wpS (model prog w) A E s (if a>0 then do
   reverseSlice' (lo+m-(a+1)) (lo+m)
   tailL lo m f else tailL lo m f) Q d:=λm a d e p q g=>by
  have u:=e.size
  split
  .have i:g7 d (setArr d (mirror (arrOf d) (lo+m-(a+1)) (lo+m) ((lo+m-(lo+m-(a+1))) / 2))) lo (lo+f):=g7.mirror () () ()
   exact Da (ub (Nu C (o.step (e.trans i)) (by rw[i.size];lia) p q λj k l=>h j k ((e.trans i).trans l)))
  .exact Nu C (o.step e) () p q λj k l=>h j k (e.trans l)
 refine Da (Pi (PP (I:=λx c d=>∃a,c=(none,x,a)/\g7 st d lo (lo+f)/\a+1<=x/\n+1<=x) (Q:=λc d=>∃m a,c=(none,m,a)/\g7 st d lo (lo+f)/\a+1<=m/\m<=f) ?_ ?_ #[0,rfl, .refl _ _ _,(),()]) ?_)
 .rintro x c d F G ⟨a,rfl,e,g,v⟩
  dsimp only;have r:=o.step e;have u:=e.size;refine Da (Ec C r () () λb=>?_)
  cases b
  .refine Da (Ec C r () () λb=>?_)
   cases b
   .exact FB #[a+1,rfl,e,(),()]
   .exact FB #[x,a,rfl,e,g,()]
  .by_cases t:a>0
   .simp only[aaw,ir t]
    exact Da (ub (FB #[0,rfl,e.trans (g7.mirror () () ()),(),()]))
   .simp only[aaw,mo t]
    exact FB #[0,rfl,e,(),()]
 .rintro c d ⟨a,rfl,e,g,v⟩
  exact#[_,a,rfl,e,g,()]
 .rintro c d ⟨m,a,rfl,e,g,y⟩
  exact fin m a d e () y g
def NQ(C:iV S k0 (model prog w) A E s){lo a:Nat}{Q:Option Nat->SortSt->Prop}(o:Ok S k0 st)(d:lo+a<=(arrOf st).size)(k:1<=a)
  (h:∀m e,g7 st e lo (lo+a)->1<=m->m<=a->Q (some m) e):wpS (model prog w) A E s (countRun' lo a) Q st:=by
 rw[zI];refine Da (P7 C o d (bo 1) k λn f g=>?_);dsimp only
 by_cases i:n=a
 .rw[ir (~~~i)]
  exact FB (h n st (.refl _ _ _) f g)
 .rw[mo (~~~i)]
  by_cases j:n>1
  .rw[ir j]
   refine Da (Ec C o () () λb=>?_)
   cases b
   .have c:g7 st (setArr st (mirror (arrOf st) lo (lo+n) ((lo+n-lo) / 2))) lo (lo+a):=g7.mirror (bo _) () ()
    exact Da (ub (KY C (o.step c) (by rw[c.size];lia) () λl p q=>h l p (c.trans q)))
   .exact FB (h n st (.refl _ _ _) f g)
  .rw[mo j]
   exact KY C o d () h
end
def PI(l o a b:List Keyed):Prop:=(o++(a++b)).Perm l
def PI.swap(v:PI l o a b):PI l o b a:=((lO).append_left o).trans v
def PI.many{l o xs a b:List Keyed}(v:PI l o (xs++a) b):PI l (o++xs) a b:=by
 unfold PI at*;simpa [i5] using v
def PI.yV{out a:Array Keyed}(v:PI l out.toList (a.toList.drop b) c)(h:a[b]?\x):PI l (out.push x).toList (a.toList.drop (b+1)) c:=by
 rw[drop_cons h] at v;rw[u6];exact PI.many (xs:= [x]) v
def PI.L5{out a:Array Keyed}{b k:Nat}(v:PI l out.toList (a.toList.drop b) c):PI l (out++a.extract b (b+k)).toList (a.toList.drop (b+k)) c:=by
 rw[vB _ b k] at v;rw[A5,TS.ext_toList,show b+k-b=k by lia];exact v.many
def PI.done{out a b:Array Keyed}(v:PI l out.toList (a.toList.drop c) (b.toList.drop d)):(out++a.extract c a.size++b.extract d b.size).toList.Perm l:=by
 rw[A5,A5,DD,DD,i5];exact v
section
variable {S:Keyed->Prop} {k0:SortKind} {M:Model} {A:Around} {E:Value->Shared->Prop} {s:Shared} {st ck:SortSt} {a b:Array Keyed}
def Inv(a b:Array Keyed)(n:Nat)(out:Array Keyed)(c d:Nat):Prop:=PI (a.toList++b.toList) out.toList (a.toList.drop c) (b.toList.drop d)/\c+1<a.size/\d<b.size/\n<=c+d
def Fin{d:Type}(a b:Array Keyed)(n:Nat)(c:Option (Array Keyed)×Array Keyed×Nat×Nat×d):Prop:=
 (∃r,c.1\r/\r.toList.Perm (a.toList++b.toList))\/(c.1=none/\Inv a b n c.2.1 c.2.2.1 c.2.2.2.1)
def Out{d:Type}(a b:Array Keyed)(n:Nat)(r:ForInStep (Option (Array Keyed)×Array Keyed×Nat×Nat×d)):Prop:=match r with
 | .done c=>Fin a b n c
 | .yield c=>c.1=none/\Inv a b n c.2.1 c.2.2.1 c.2.2.2.1
def AY{xs:Array Keyed}(m:∀x∈xs.toList,S x){i n:Nat}(h:i+n<=xs.size):∀j,j<n->∃x,xs[i+j]?\x/\S x:=λj d=>by
 obtain⟨x,e,c,_⟩:=eN (xs:=xs) (i:=i+j) ()
 exact#[x,e,m x c]
def V8(g:GS ck st)(v:PI (a.toList++b.toList) out.toList (a.toList.drop c) (b.toList.drop d))(q:c+1<a.size)(o:d<b.size)(t:n<=c+d):
  wpS M A E s (BQ a b k l m c out d) (λr p=>GS ck p/\Out a b n r) st:=by
 unfold BQ;obtain⟨x,e,u,_⟩:=eN (xs:=a) (i:=c) ()
 refine Da (bJ e ?_);have f:=v.yV e;dsimp only
 by_cases h:c+1+1=a.size
 .rw[ir (~~~h)]
  exact FB #[g, .inl #[_,rfl,f.swap.done]]
 .rw[mo (~~~h)]
  have j:Inv a b n (out.push x) (c+1) d:=#[f,(),o,()]
  split
  .exact FB #[g, .inr #[rfl,j]]
  .exact FB #[g,rfl,j]
def V7(C:iV S k0 M A E s)(q:∀x∈a.toList,S x)(t:∀x∈b.toList,S x)(u:kindOf st=k0)(g:GS ck st)(v:PI (a.toList++b.toList) out.toList (a.toList.drop d) (b.toList.drop c))(f:d+1<a.size)(F:c<b.size)(J:n<=d+c):
  wpS M A E s (uK a b w z B c out d) (λr G=>GS ck G/\Out a b n r) st:=by
 unfold uK;obtain⟨y,h,L,_⟩:=eN (xs:=b) (i:=c) F;refine Da (bJ h ?_);have e:=(v.swap.yV h).swap;dsimp only
 by_cases j:c+1=b.size
 .rw[ir (~~~j)]
  exact FB #[g, .inl #[_,rfl,e.done]]
 .rw[mo (~~~j)]
  obtain⟨x,H,I,N⟩:=eN (xs:=a) (i:=d) ()
  refine Da (bJ H (Da (mK C (AY t ()) (q x I) u () λp O=>?_)))
  dsimp only
  by_cases l:p>0
  .rw[ir l]
   have m:=(e.swap.L5 (k:=p)).swap
   by_cases o:c+1+p=b.size
   .rw[ir (~~~o)]
    exact FB #[g, .inl #[_,rfl,m.done]]
   .rw[mo (~~~o)]
    exact V8 g m f () ()
  .rw[mo l]
   exact V8 g e f () ()
def lo1(C:iV S k0 M A E s)(e:∀x∈a.toList,S x)(f:∀x∈b.toList,S x)(w:kindOf st=k0)(g:GS ck st)(G:Inv a b n out c h):wpS M A E s (r8 a b F B c h out z) (λr H=>GS ck H/\Out a b n r) st:=by
 obtain⟨v,I,j,J⟩:=G;unfold r8;refine Da (qP λL o=>?_);have l:kindOf L=k0:=o.kind.trans w;have d:=g.trans o;obtain⟨y,N,O,P⟩:=eN (xs:=b) (i:=h) j;refine Da (bJ N (Da (mK C (AY e ()) (f y O) l () λp Q=>?_)))
 dsimp only
 by_cases q:p>0
 .rw[ir q]
  have m:=v.L5 (k:=p)
  by_cases t:c+p+1=a.size
  .rw[ir (~~~t)]
   exact FB #[d, .inl #[_,rfl,m.swap.done]]
  .rw[mo (~~~t)]
   by_cases u:c+p=a.size
   .rw[ir (~~~u)]
    exact FB #[d, .inl #[_,rfl,m.done]]
   .rw[mo (~~~u)]
    exact V7 C e f l d m () j ()
 .rw[mo q]
  exact V7 C e f l d v I j J
def loT(C:iV S k0 M A E s)(d:∀x∈a.toList,S x)(e:∀x∈b.toList,S x)(f:kindOf st=k0)(g:GS ck st)(c:Option (Array Keyed)×Array Keyed×Nat×Nat×Nat×Nat×Nat)(h:Inv a b n c.2.1 c.2.2.1 c.2.2.2.1):
  wpS M A E s (BS a b c) (λr i=>GS ck i/\Out a b n r) st:=by
 unfold BS
 split<;>exact lo1 C d e f g h
theorem loO(C:iV S k0 M A E s)(p:∀x∈a.toList,S x)(q:∀x∈b.toList,S x)(t:kindOf st=k0)(g:GS ck st)(c:Option (Array Keyed)×Array Keyed×Nat×Nat×Nat×Nat)(d:Inv a b n c.2.1 c.2.2.1 c.2.2.2.1):
  wpS M A E s (BR a b u c) (λr w=>GS ck w/\Out a b (n+1) r) st:=by
 obtain⟨H,out,j,k,I,J⟩:=c;obtain⟨v,z,o,B⟩:=d;dsimp only at v z o B;unfold BR;dsimp only;obtain⟨y,l,F,L⟩:=eN (xs:=b) (i:=k) o;obtain⟨x,m,G,N⟩:=eN (xs:=a) (i:=j) ()
 refine Da (bJ l (Da (bJ m (Da (C _ _ _ _ (q y F) (p x G) t λe=>?_)))));cases e with
 |true=>
  dsimp only;rw[ir rfl];refine Da (bJ l ?_);have f:=(v.swap.yV l).swap
  by_cases h:k+1=b.size
  .rw[ir (~~~h)]
   exact FB #[g, .inl #[_,rfl,f.done]]
  .rw[mo (~~~h)]
   have d:Inv a b (n+1) (out.push y) j (k+1):=#[f,(),(),()]
   split
   .exact FB #[g, .inr #[rfl,d]]
   .exact FB #[g,rfl,d]
 |false=>
  dsimp only;rw[mo ∅]
  refine Da (bJ m ?_);have f:=v.yV m
  by_cases h:j+1+1=a.size
  .rw[ir (~~~h)]
   exact FB #[g, .inl #[_,rfl,f.swap.done]]
  .rw[mo (~~~h)]
   have d:Inv a b (n+1) (out.push x) (j+1) k:=#[f,(),(),()]
   split
   .exact FB #[g, .inr #[rfl,d]]
   .exact FB #[g,rfl,d]
def Inv.le(h:Inv a b n out c d)(e:m<=n):Inv a b m out c d:=#[h.1,h.2.1,h.2.2.1,m8 e h.2.2.2]
theorem loU(C:iV S k0 M A E s)(q:∀x∈a.toList,S x)(t:∀x∈b.toList,S x)(g:GS ck st)(u:kindOf ck=k0)(c:Option (Array Keyed)×Array Keyed×Nat×Nat×Nat)(v:Inv a b n c.2.1 c.2.2.1 c.2.2.2.1):
  wpS M A E s (tE a b c) (λr i=>GS ck i/\match r with
   | .done c=>∃r,c.1\r/\r.toList.Perm (a.toList++b.toList)
   | .yield c=>c.1=none/\Inv a b (n+1) c.2.1 c.2.2.1 c.2.2.2.1) st:=by
 have H:0<a.size+b.size:=by have:=v.2.1;lia
 unfold tE;refine Da (Pi (PP (I:=λ(x:Nat)(f:Option (Array Keyed)×Array Keyed×Nat×Nat×Nat×Nat)(i:SortSt)=>GS ck i/\f.1=none/\Inv a b (n+min x 1) f.2.1 f.2.2.1 f.2.2.2.1) (Q:=λf i=>GS ck i/\Fin a b (n+1) f) ?_ ?_ #[g,rfl,v.le ()]) ?_)
 .rintro x f i _ _ ⟨j,p,l⟩
  refine Pi (loO C q t (j.kind.trans u) j f l) λr w #[m,o]=>?_;cases r with
  |done d=>
   exists m
   rcases o with o| ⟨y,z⟩
   .exact .inl o
   .exact .inr #[y,z.le ()]
  |yield d=>exact#[m,o.1,o.2.le ()]
 .rintro f i ⟨j,p,l⟩
  exact#[j, .inr #[p,l.le ()]]
 .rintro⟨J,L⟩ i ⟨j,o⟩
  rcases o with ⟨r,e,k⟩ | ⟨e,B⟩
  .dsimp only at e
   subst e;exact FB #[j,r,rfl,k]
  .dsimp only at e
   subst e;dsimp only;refine Da (abh (aay #[rfl,?_]));refine Da (Pi (PP (I:=λ(x:Nat)(f:Option (Array Keyed)×Array Keyed×Nat×Nat×Nat×Nat×Nat)(i:SortSt)=>GS ck i/\f.1=none/\Inv a b (n+1) f.2.1 f.2.2.1 f.2.2.2.1) (Q:=λf i=>GS ck i/\Fin a b (n+1) f) ?_ (λf i h=>#[h.1, .inr h.2]) #[j,rfl,B]) ?_)
   .rintro x f i _ _ ⟨j,p,l⟩
    refine Pi (loT C q t (j.kind.trans u) j f l) λr w #[m,o]=>?_;cases r with
    |done d=>exact#[m,o]
    |yield d=>exact#[m,o]
   .rintro⟨N,O⟩ i ⟨j,o⟩
    rcases o with ⟨r,e,k⟩ | ⟨e,F⟩
    .dsimp only at e
     subst e;exact FB #[j,r,rfl,k]
    .dsimp only at e
     subst e;exact Da (qP λP G=>FB #[j.trans G,rfl,F])
def Jq(C:iV S k0 M A E s)(p:∀x∈a.toList,S x)(t:∀x∈b.toList,S x)(u:kindOf st=k0)(B:0<a.size)(v:0<b.size)(q:∀r c,GS st c->r.toList.Perm (a.toList++b.toList)->Q r c):wpS M A E s (qM a b) Q st:=by
 rw[BX];refine Da (abh (aay #[rfl,?_]));obtain⟨y,m,F,G⟩:=eN (xs:=b) (i:=0) v;refine Da (bJ m ?_);have w:PI (a.toList++b.toList) (#[]:Array Keyed).toList (a.toList.drop 0) (b.toList.drop 0):= .refl _;have h:=(w.swap.yV m).swap;have z:(#[]:Array Keyed).push y= [y].toArray:=rfl;rw[z] at h
 by_cases j:1=b.size
 .rw[ir (~~~j)]
  exact FB (q _ _ (GS.refl _) h.done)
 .rw[mo (~~~j)]
  by_cases g:0+1=a.size
  .rw[ir (~~~g)]
   exact FB (q _ _ (GS.refl _) h.swap.done)
  .rw[mo (~~~g)]
   refine Da (aaK ?_);refine Da (Pi (PP (I:=λ(x:Nat)(f:Option (Array Keyed)×Array Keyed×Nat×Nat×Nat)(c:SortSt)=>GS st c/\f.1=none/\Inv a b (x+1) f.2.1 f.2.2.1 f.2.2.2.1) (Q:=λf c=>GS st c/\∃r,f.1\r/\r.toList.Perm (a.toList++b.toList)) ?_ ?_ #[GS.refl _,rfl,h,by show 0+1<a.size;lia,by show 1<b.size;lia,by show 0+1<=0+1;lia]) ?_)
   .rintro x f c _ _ ⟨k,j,g⟩
    refine Pi (loU C p t k u f g) λr H #[n,o]=>?_;cases r with
    |done d=>exact#[n,o]
    |yield d=>exact#[n,o]
   .rintro f c ⟨k,j,g⟩
    have:=g.2.2.2
    have:=g.2.1
    have:=g.2.2.1
    lia
   .rintro⟨J,L⟩ c ⟨k,r,e,l⟩
    dsimp only at e;subst e;exact FB (q r c k l)
end
def PI.tail(v:PI l o (a++xs) b)(p:c.Perm xs):PI l (o++c) a b:=
 PI.many ((((lO.trans (p.append_left a)).append_right b).append_left o).trans v)
def PI.EC{out a:Array Keyed}(v:PI l out.toList (a.toList.take b) c)(f:1<=b)(h:a[b-1]?\x):PI l (out.push x).toList (a.toList.take (b-1)) c:=by
 obtain⟨d,e⟩:=eC.mp (L3 h)
 have:=List.take_succ_eq_append_getElem d
 rw[show b-1+1=b by lia,e] at this
 rw[this] at v;rw[u6];exact v.tail (.refl _)
def PI.Qc{out a:Array Keyed}(v:PI l out.toList (a.toList.take b) c)(d:p<=b):PI l (out++(a.extract p b).reverse).toList (a.toList.take p) c:=by
 rw[vX a.toList d] at v;rw[A5,Array.toList_reverse,TS.ext_toList];exact v.tail (aa3 _)
def PI.told(v:PI l out.toList (a.toList.take c) (b.toList.take d)):(lS a b out c d).toList.Perm l:=by
 unfold lS;rw[A5,A5,Qr,Qr,Array.toList_reverse];exact((aa3 _).append_left _).trans (lO.trans v)
section
variable {S:Keyed->Prop} {k0:SortKind} {M:Model} {A:Around} {E:Value->Shared->Prop} {s:Shared} {st ck:SortSt} {a b:Array Keyed}
def oM(a b:Array Keyed)(n:Nat)(c d:Nat)(out:Array Keyed):Prop:=PI (a.toList++b.toList) out.toList (a.toList.take c) (b.toList.take d)/\1<=c/\c<=a.size/\2<=d/\d<=b.size/\n+c+d<=a.size+b.size
def Q0{d:Type}(a b:Array Keyed)(n:Nat)(c:Option (Array Keyed)×Nat×Nat×Array Keyed×d):Prop:=
 (∃r,c.1\r/\r.toList.Perm (a.toList++b.toList))\/(c.1=none/\oM a b n c.2.1 c.2.2.1 c.2.2.2.1)
def Kf{d:Type}(a b:Array Keyed)(n:Nat)(r:ForInStep (Option (Array Keyed)×Nat×Nat×Array Keyed×d)):Prop:=match r with
 | .done c=>Q0 a b n c
 | .yield c=>c.1=none/\oM a b n c.2.1 c.2.2.1 c.2.2.2.1
def Vo(g:GS ck st)(d:oM a b n c f out):wpS M A E s (Bx a b k l m c out f) (λr o=>GS ck o/\Kf a b n r) st:=by
 obtain⟨v,p,u,q,t,w⟩:=d;unfold Bx;obtain⟨x,h,y,_⟩:=eN (xs:=a) (i:=c-1) ()
 refine Da (bJ h ?_);have j:=v.EC p h
 by_cases e:c-1=0
 .rw[ir (~~~e)]
  exact FB #[g, .inl #[_,rfl,j.told]]
 .rw[mo (~~~e)]
  have d:oM a b n (c-1) f (out.push x):=#[j,(),(),q,t,()]
  split
  .exact FB #[g, .inr #[rfl,d]]
  .exact FB #[g,rfl,d]
def zL(C:iV S k0 M A E s)(t:∀x∈a.toList,S x)(u:∀x∈b.toList,S x)(w:kindOf st=k0)(g:GS ck st)(G:oM a b n d c out):wpS M A E s (uC a b z B F c out d) (λr H=>GS ck H/\Kf a b n r) st:=by
 obtain⟨v,j,k,N,O,P⟩:=G;unfold uC;obtain⟨y,l,Q,_⟩:=eN (xs:=b) (i:=c-1) ()
 refine Da (bJ l ?_);have f:=(v.swap.EC () l).swap
 by_cases e:c-1=1
 .rw[ir (~~~e)]
  exact FB #[g, .inl #[_,rfl,f.swap.told]]
 .rw[mo (~~~e)]
  obtain⟨x,I,J,R⟩:=eN (xs:=a) (i:=d-1) ()
  refine Da (bJ I (Da (mK C (AY u ()) (t x J) w () λp L=>?_)))
  dsimp only
  by_cases m:c-1-p>0
  .rw[ir m]
   have h:=(f.swap.Qc L).swap
   by_cases o:p=1
   .rw[ir (~~~o)]
    exact FB #[g, .inl #[_,rfl,h.swap.told]]
   .rw[mo (~~~o)]
    by_cases q:p=0
    .rw[ir (~~~q)]
     exact FB #[g, .inl #[_,rfl,h.told]]
    .rw[mo (~~~q)]
     exact Vo g #[h,j,k,(),(),()]
  .rw[mo m]
   exact Vo g #[f,j,k,(),(),()]
def qS(C:iV S k0 M A E s)(c:∀x∈a.toList,S x)(d:∀x∈b.toList,S x)(u:kindOf st=k0)(g:GS ck st)(F:oM a b n e f out):wpS M A E s (xV a b B z e f out w) (λr G=>GS ck G/\Kf a b n r) st:=by
 obtain⟨v,H,I,k,l,J⟩:=F;unfold xV;refine Da (qP λL m=>?_);have h:kindOf L=k0:=m.kind.trans u;have j:=g.trans m;obtain⟨y,N,O,Q⟩:=eN (xs:=b) (i:=f-1) ()
 refine Da (bJ N (Da (mK C (AY c ()) (d y O) h () λp P=>?_)))
 dsimp only
 by_cases o:e-p>0
 .rw[ir o]
  have q:=v.Qc P
  by_cases t:p=0
  .rw[ir (~~~t)]
   exact FB #[j, .inl #[_,rfl,q.told]]
  .rw[mo (~~~t)]
   exact zL C c d h j #[q,(),(),k,l,()]
 .rw[mo o]
  exact zL C c d h j #[v,H,I,k,l,J]
def Zh(C:iV S k0 M A E s)(d:∀x∈a.toList,S x)(e:∀x∈b.toList,S x)(f:kindOf st=k0)(g:GS ck st)(c:S7)(h:oM a b n c.2.1 c.2.2.1 c.2.2.2.1):
  wpS M A E s (Bz a b c) (λr i=>GS ck i/\Kf a b n r) st:=by
 unfold Bz
 split<;>exact qS C d e f g h
theorem Zg(C:iV S k0 M A E s)(t:∀x∈a.toList,S x)(u:∀x∈b.toList,S x)(w:kindOf st=k0)(g:GS ck st)(c:S6)(d:oM a b n c.2.1 c.2.2.1 c.2.2.2.1):
  wpS M A E s (By a b z c) (λr B=>GS ck B/\Kf a b (n+1) r) st:=by
 obtain⟨J,j,k,out,L,N⟩:=c;obtain⟨v,o,F,p,q,G⟩:=d;dsimp only at v o F p q G;unfold By;dsimp only;obtain⟨y,l,H,O⟩:=eN (xs:=b) (i:=k-1) ()
 obtain⟨x,m,I,P⟩:=eN (xs:=a) (i:=j-1) ()
 refine Da (bJ l (Da (bJ m (Da (C _ _ _ _ (u y H) (t x I) w λe=>?_)))));cases e with
 |true=>
  dsimp only;rw[ir rfl];refine Da (bJ m ?_);have f:=v.EC o m
  by_cases h:j-1=0
  .rw[ir (~~~h)]
   exact FB #[g, .inl #[_,rfl,f.told]]
  .rw[mo (~~~h)]
   have d:oM a b (n+1) (j-1) k (out.push x):=#[f,(),(),p,q,()]
   split
   .exact FB #[g, .inr #[rfl,d]]
   .exact FB #[g,rfl,d]
 |false=>
  dsimp only;rw[mo ∅]
  refine Da (bJ l ?_);have f:=(v.swap.EC () l).swap
  by_cases h:k-1=1
  .rw[ir (~~~h)]
   exact FB #[g, .inl #[_,rfl,f.swap.told]]
  .rw[mo (~~~h)]
   have d:oM a b (n+1) j (k-1) (out.push y):=#[f,(),(),(),(),()]
   split
   .exact FB #[g, .inr #[rfl,d]]
   .exact FB #[g,rfl,d]
def oM.le(h:oM a b n c d out)(e:m<=n):oM a b m c d out:=#[h.1,h.2.1,h.2.2.1,h.2.2.2.1,h.2.2.2.2.1,by have:=h.2.2.2.2.2;lia]
theorem Zi(C:iV S k0 M A E s)(t:∀x∈a.toList,S x)(u:∀x∈b.toList,S x)(g:GS ck st)(v:kindOf ck=k0)(c:S5)(p:oM a b n c.2.1 c.2.2.1 c.2.2.2.1):
  wpS M A E s (sY a b c) (λr i=>GS ck i/\match r with
   | .done c=>∃r,c.1\r/\r.toList.Perm (a.toList++b.toList)
   | .yield c=>c.1=none/\oM a b (n+1) c.2.1 c.2.2.1 c.2.2.2.1) st:=by
 have H:0<a.size+b.size:=by have:=p.2.1;have:=p.2.2.1;lia
 unfold sY;refine Da (Pi (PP (I:=λ(x:Nat)(f:S6)(i:SortSt)=>GS ck i/\f.1=none/\oM a b (n+min x 1) f.2.1 f.2.2.1 f.2.2.2.1) (Q:=λf i=>GS ck i/\Q0 a b (n+1) f) ?_ ?_ #[g,rfl,p.le ()]) ?_)
 .rintro x f i _ _ ⟨j,q,l⟩
  refine Pi (Zg C t u (j.kind.trans v) j f l) λr w #[m,o]=>?_;cases r with
  |done d=>
   exists m
   rcases o with o| ⟨y,z⟩
   .exact .inl o
   .exact .inr #[y,z.le ()]
  |yield d=>exact#[m,o.1,o.2.le ()]
 .rintro f i ⟨j,q,l⟩
  exact#[j, .inr #[q,l.le ()]]
 .rintro⟨J,L⟩ i ⟨j,o⟩
  rcases o with ⟨r,e,k⟩ | ⟨e,B⟩
  .dsimp only at e
   subst e;exact FB #[j,r,rfl,k]
  .dsimp only at e
   subst e;dsimp only;refine Da (abh (aay #[rfl,?_]));refine Da (Pi (PP (I:=λ(x:Nat)(f:S7)(i:SortSt)=>GS ck i/\f.1=none/\oM a b (n+1) f.2.1 f.2.2.1 f.2.2.2.1) (Q:=λf i=>GS ck i/\Q0 a b (n+1) f) ?_ (λf i h=>#[h.1, .inr h.2]) #[j,rfl,B]) ?_)
   .rintro x f i _ _ ⟨j,q,l⟩
    refine Pi (Zh C t u (j.kind.trans v) j f l) λr w #[m,o]=>?_;cases r with
    |done d=>exact#[m,o]
    |yield d=>exact#[m,o]
   .rintro⟨N,O⟩ i ⟨j,o⟩
    rcases o with ⟨r,e,k⟩ | ⟨e,F⟩
    .dsimp only at e
     subst e;exact FB #[j,r,rfl,k]
    .dsimp only at e
     subst e;exact Da (qP λP G=>FB #[j.trans G,rfl,F])
def Jp(C:iV S k0 M A E s)(p:∀x∈a.toList,S x)(t:∀x∈b.toList,S x)(u:kindOf st=k0)(v:0<a.size)(z:0<b.size)(q:∀r c,GS st c->r.toList.Perm (a.toList++b.toList)->Q r c):wpS M A E s (qL a b) Q st:=by
 rw[BW];refine Da (abh (aay #[rfl,?_]));obtain⟨x,m,B,F⟩:=eN (xs:=a) (i:=a.size-1) ()
 refine Da (bJ m ?_)
 have w:PI (a.toList++b.toList) (#[]:Array Keyed).toList (a.toList.take a.size) (b.toList.take b.size):=by
  rw[E5 (by simp),E5 (by simp)];exact .refl _
 have h:=w.EC v m;have y:(#[]:Array Keyed).push x= [x].toArray:=rfl;rw[y] at h
 by_cases j:a.size-1=0
 .rw[ir (~~~j)]
  exact FB (q _ _ (GS.refl _) h.told)
 .rw[mo (~~~j)]
  by_cases g:b.size=1
  .rw[ir (~~~g)]
   exact FB (q _ _ (GS.refl _) h.swap.told)
  .rw[mo (~~~g)]
   refine Da (aaK ?_);refine Da (Pi (PP (I:=λ(x:Nat)(f:S5)(c:SortSt)=>GS st c/\f.1=none/\oM a b (x+1) f.2.1 f.2.2.1 f.2.2.2.1) (Q:=λf c=>GS st c/\∃r,f.1\r/\r.toList.Perm (a.toList++b.toList)) ?_ ?_ #[GS.refl _,rfl,h,by show 1<=a.size-1;lia,by show a.size-1<=a.size;lia,by show 2<=b.size;lia,bo _,by show 0+1+(a.size-1)+b.size<=a.size+b.size;lia]) ?_)
   .rintro x f c _ _ ⟨k,j,g⟩
    refine Pi (Zi C p t k u f g) λr G #[n,o]=>?_;cases r with
    |done d=>exact#[n,o]
    |yield d=>exact#[n,o]
   .rintro f c ⟨k,j,g⟩
    have:=g.2.2.2.2.2
    have:=g.2.1
    lia
   .rintro⟨H,J⟩ c ⟨k,r,e,l⟩
    dsimp only at e;subst e;exact FB (q r c k l)
end
section
variable {S:Keyed->Prop} {k0:SortKind} {prog:Program} {w:World} {A:Around} {E:Value->Shared->Prop} {s:Shared} {st ck:SortSt}
def HI{a:Array Keyed}(m:∀x∈a.toList,S x)(i j:Nat):∀x∈(a.extract i j).toList,S x:=λx b=>by
 rw[TS.ext_toList] at b;exact m x (List.mem_of_mem_drop (CM b))
def Jo(C:iV S k0 (model prog w) A E s)(o:Ok S k0 st)(t:failedOf st=none)(J:(pendingOf st)[i]?\(d,b,n))(L:(pendingOf st)[i+1]?\(d+b,h,I))(M:1<=b)(X:1<=h)(Y:d+b+h<=(arrOf st).size)
  (q:∀e,(arrOf e).Perm (arrOf st)->kindOf e=kindOf st->failedOf e=none->pendingOf e=((pendingOf st).setIfInBounds i (d,b+h,n)).eraseIdxIfInBounds (i+1)->Q true e):
  wpS (model prog w) A E s (mergeAt' i) Q st:=by
 rw[BV];refine Da (aaK ?_);rw[J,L];dsimp only;refine Da (Nx ?_);generalize ((pendingOf st).setIfInBounds i (d,b+h,n)).eraseIdxIfInBounds (i+1)=z at q;have l:kindOf (setPending st z)=k0:=o.kind;obtain⟨N,O,u,_⟩:=eN (xs:=arrOf st) (i:=d+b) ()
 refine Da (bJ O (Da (mK C (AY o.mem ()) (o.mem N u) l () λk Z=>?_)))
 dsimp only
 by_cases B:b-k=0
 .rw[ir (~~~B)]
  exact FB (q _ (.refl _) rfl t rfl)
 rw[mo (~~~B)]
 obtain⟨P,R,v,_⟩:=eN (xs:=arrOf st) (i:=d+k+(b-k)-1) ()
 refine Da (bJ R (Da (mK C (AY o.mem ()) (o.mem P v) l () λm hm=>?_)))
 dsimp only
 by_cases F:m=0
 .rw[ir (~~~F)]
  exact FB (q _ (.refl _) rfl t rfl)
 rw[mo (~~~F)]
 have x:((arrOf st).extract (d+k) (d+b)).size=b-k:=by rw[Array.size_extract];lia
 have y:((arrOf st).extract (d+b) (d+b+m)).size=m:=by rw[Array.size_extract];lia
 have fin:∀(r:Array Keyed)(e:SortSt),GS (setPending st z) e->r.toList.Perm (((arrOf st).extract (d+k) (d+b)).toList++((arrOf st).extract (d+b) (d+b+m)).toList)->
   wpS (model prog w) A E s (do
    modify λs=>setArr s (r.toList.zipIdx.foldl (λa (p,j)=>a.setIfInBounds (d+k+j) p) (arrOf s))
    return (failedOf (<-get)).isNone) Q e:=by
  intro r e g f;refine Da (aaU (Da (aaK ?_)));have G:failedOf e=none:=g.failed.trans t
  have T:r.size=b-k+m:=by
   have:=f.length_eq
   rw[cD,eD,eD,eD,x,y] at this;exact this
  have H:d+k+r.size<=(arrOf e).size:=by rw[g.arr];show _<=(arrOf st).size;lia
  show wpS _ _ _ _ (pure (failedOf e).isNone) Q (setArr e (putAt (arrOf e) r (d+k)));rw[G];have U:arrOf e=arrOf st:=g.arr;rw[U] at H ⊢;refine FB (q _ (EE H ?_) g.kind G g.pend);rw[T];refine f.trans ?_;rw[TS.ext_toList,TS.ext_toList,show d+b-(d+k)=b-k by lia,show d+b+m-(d+b)=m by lia,vX _ (show b-k<=b-k+m by lia),acz,show d+k+(b-k)=d+b by lia,show b-k+m-(b-k)=m by lia]
 by_cases c:b-k<=m
 .rw[ir c]
  exact Da (Jq C (HI o.mem _ _) (HI o.mem _ _) l (by rw[x];lia) (by rw[y];lia) λr e g f=>fin r e g f)
 .rw[mo c]
  exact Da (Jp C (HI o.mem _ _) (HI o.mem _ _) l (by rw[x];lia) (by rw[y];lia) λr e g f=>fin r e g f)
def oU:Nat->List (Nat×Nat)->Nat->Prop
 |a,[],b=>a=b
 |a,e::r,b=>e.1=a/\1<=e.2/\oU (a+e.2) r b
theorem oU.app:∀{i g:List (Nat×Nat)}{a b:Nat},oU a (i++g) b↔∃c,oU a i c/\oU c g b
 | [],g,a,b=>#[λh=>#[a,rfl,h],λ#[c,d,f]=>by cases d;exact f]
 |e::i,g,a,b=>#[λ#[d,f,l]=>let #[c,j,k]:=oU.app.mp l;#[c,#[d,f,j],k],λ#[c,#[d,f,j],k]=>#[d,f,oU.app.mpr #[c,j,k]]]
theorem oU.le:∀{l:List (Nat×Nat)}{a b:Nat},oU a l b->a+l.length<=b
 | [],a,b,h=>by cases h;simp
 |e::l,a,b,#[_,d,c]=>by
  have:=oU.le c
  rw[cv];lia
structure SI (S:Keyed->Prop) (k0:SortKind) (a0:Array Keyed) (st:SortSt) (lo:Nat):Prop where
 ok:Ok S k0 st
 failed:failedOf st=none
 perm:(arrOf st).Perm a0
 cov:oU 0 ((pendingOf st).toList.map λe=>(e.1,e.2.1)) lo
 le:lo<=a0.size
theorem SI.size{a:Array Keyed}{lo:Nat}(h:SI S k0 a st lo):(arrOf st).size=a.size:=h.perm.size_eq
def QL(C:iV S k0 (model prog w) A E s){j:Array Keyed}{lo i:Nat}{Q:Bool->SortSt->Prop}(h:SI S k0 j st lo)(v:i+1<(pendingOf st).size)
  (q:∀a,SI S k0 j a lo->(pendingOf a).size=(pendingOf st).size-1->Q true a):wpS (model prog w) A E s (mergeAt' i) Q st:=by
 have z:(pendingOf st)[i]? =some (pendingOf st)[i]:=abt _ i ()
 have B:(pendingOf st)[i+1]? =some (pendingOf st)[i+1]:=abt _ (i+1) v
 have k:(pendingOf st).toList=(pendingOf st).toList.take i++((pendingOf st)[i]::(pendingOf st)[i+1]::(pendingOf st).toList.drop (i+2)):=by
  conv=>lhs;rw[<-jE i (pendingOf st).toList]
  congr 1
  rw[qv (by rw[eD];lia),qv (by rw[eD];lia)]
  rfl
 generalize O:(pendingOf st)[i]=x at*;generalize P:(pendingOf st)[i+1]=y at*;obtain⟨d,e,F⟩:=x;obtain⟨R,f,T⟩:=y;have l:=h.cov;rw[k,cW,dJ,dJ] at l;obtain⟨c,G,H⟩:=oU.app.mp l;obtain⟨m,n,o,r,g⟩:=H;dsimp only at m n o r g;subst m;subst o;have I:=g.le;have U:=h.size;have X:=h.le;refine Jo C h.ok h.failed z B n r () λa t J L M=>?_
 have u:(pendingOf a).toList=(pendingOf st).toList.take i++((d,e+f,F)::(pendingOf st).toList.drop (i+2)):=by
  rw[M,Array.toList_eraseIdxIfInBounds,Array.toList_setIfInBounds]
  conv=>lhs;rw[k]
  have b:((pendingOf st).toList.take i).length=i:=by rw[i6,eD];lia
  rw[List.set_append_right _ _ (),List.eraseIdx_append_of_length_le (),b,uk,show i+1-i=1 by lia]
  rfl
 refine q a #[#[λp N=>h.ok.mem p ((CI.mp t).mem_iff.mp N),J.trans h.ok.kind],L,t.trans h.perm,?_,h.le] ?_
 .rw[u,cW,dJ]
  refine oU.app.mpr #[d,G,rfl,?_,?_]
  .show 1<=e+f;lia
  .show oU (d+(e+f)) _ lo
   rw[<-Nat.add_assoc];exact g
 .rw[<-eD,u,cD,cv,i6,u9,eD];lia
def ZW(C:iV S k0 (model prog w) A E s){a:Array Keyed}{lo f:Nat}(h:SI S k0 a st lo):wpS (model prog w) A E s (Ib f) (λr b=>match r with| .done c=>c=(none,⟨⟩)/\SI S k0 a b lo| .yield c=>c=(none,⟨⟩)/\SI S k0 a b lo) st:=by
 unfold Ib;refine Da (aaK ?_)
 by_cases d:(pendingOf st).size>1
 .rw[ir d]
  cases e:(pendingOf st)[(pendingOf st).size-2]? with
  |none=>exact FB #[rfl,h]
  |some x=>
   dsimp only
   split
   .exact FB #[rfl,h]
   .exact Da (QL C h () λb g _=>FB #[rfl,g])
 .rw[mo d]
  exact FB #[rfl,h]
def SI.HY{a:Array Keyed}{lo n:Nat}(h:SI S k0 a st lo)(b:1<=n)(c:lo+n<=a.size):SI S k0 a (setPending st ((pendingOf st).push (lo,n,0))) (lo+n):=by
 refine#[#[h.ok.mem,h.ok.kind],h.failed,h.perm,?_,c];show oU 0 (((pendingOf st).push (lo,n,0)).toList.map _) _;rw[u6,cW];exact oU.app.mpr #[lo,h.cov,rfl,b,rfl]
theorem MK(C:iV S k0 (model prog w) A E s){b:Array Keyed}{lo n:Nat}(h:SI S k0 b st lo)(i:1<=n)(k:lo+n<=b.size):
  wpS (model prog w) A E s (n5 b.size lo n) (λr a=>match r with| .done c=>False| .yield c=>c=(none,lo+n)/\SI S k0 b a (lo+n)) st:=by
 unfold n5;refine Da (aaK ?_);cases(pendingOf st).back? with
 |none=>exact Da (aaU (FB #[rfl,h.HY i k]))
 |some e=>
  dsimp only;refine Da (Pi (PP (I:=λ(x:Nat)(c:U1)(a:SortSt)=>c=(none,⟨⟩)/\SI S k0 b a lo) (Q:=λc a=>c=(none,⟨⟩)/\SI S k0 b a lo) (λx c a _ _ g=>?_) (λc a g=>g) #[rfl,h]) ?_)
  .refine Pi (ZW C g.2) λr m o=>?_
   cases r with
   |done d=>exact o
   |yield d=>exact o
  .rintro c a ⟨rfl,f⟩
   dsimp only;refine Da (aaU (Da (aaU (FB #[rfl,SI.HY #[#[f.ok.mem,f.ok.kind],f.failed,f.perm,?_,f.le] i k]))));refine Eq.mp (GM (λl=>oU 0 l lo) ?_) f.cov;apply rJ;intro j;show _=(((pendingOf a).modify _ _).toList.map _)[j]?;rw[cG,cG,gk,gk,Array.getElem?_modify]
   split
   .cases(pendingOf a)[j]? <;>rfl
   .rfl
def SI.WL{a:Array Keyed}{lo c:Nat}{b:SortSt}(h:SI S k0 a st lo)(t:g7 st b lo c):SI S k0 a b lo:=
 #[h.ok.step t,t.failed.trans h.failed,t.perm.trans h.perm,by rw[t.pend];exact h.cov,h.le]
theorem Th(C:iV S k0 (model prog w) A E s){a:Array Keyed}{lo:Nat}(h:SI S k0 a st lo):
  wpS (model prog w) A E s (Cy a.size lo) (λr b=>match r with| .done c=>c=(none,lo)/\a.size<=lo/\SI S k0 a b lo| .yield c=>∃n,1<=n/\c=(none,lo+n)/\SI S k0 a b (lo+n)) st:=by
 unfold Cy;have q:=h.size;have j:=h.le
 by_cases f:lo>=a.size
 .rw[ir f];exact FB #[rfl,f,h]
 .rw[mo f]
  refine Da (NQ C h.ok () () λm t k g u=>?_)
  dsimp only;have e:=h.WL k;have l:=e.size
  by_cases i:m<minRun' a.size a.size 0
  .rw[ir i]
   refine Da (abh (aay #[rfl,?_]));refine Da (Ks C e.ok () λv p=>?_)
   rw[mo ∅]
   refine Pi (MK C (e.WL p) () ()) λr b o=>?_
   cases r with
   |done d=>exact o.elim
   |yield d=>exact#[_,(),o.1,o.2]
  .rw[mo i]
   refine Pi (MK C e g ()) λr b o=>?_
   cases r with
   |done d=>exact o.elim
   |yield d=>exact#[_,g,o.1,o.2]
def ite_le [Decidable c]:(if c then p-1 else p)<=p:=by split<;>lia
theorem Tf(C:iV S k0 (model prog w) A E s){Q:Unit->SortSt->Prop}(o:Ok S k0 st)(j:failedOf st=none)(k:pendingOf st= #[])
  (q:∀a,(arrOf a).Perm (arrOf st)->failedOf a=none->Q ⟨⟩ a):wpS (model prog w) A E s sortRuns' Q st:=by
 rw[y8];refine Da (aaK ?_);have l:SI S k0 (arrOf st) st 0:=#[o,j, .refl _,by rw[k];rfl,fk _]
 refine Da (Pi (PP (I:=λ(x:Nat)(c:Option Unit×Nat)(a:SortSt)=>∃lo,c=(none,lo)/\SI S k0 (arrOf st) a lo) (Q:=λc a=>∃lo,c=(none,lo)/\SI S k0 (arrOf st) a lo) (λx c a _ _ b=>?_) (λc a b=>b) #[0,rfl,l]) ?_)
 .obtain⟨lo,rfl,f⟩:=b
  refine Pi (Th C f) λr g o=>?_;cases r with
  |done d=>exact#[_,o.1,o.2.2]
  |yield d=>
   obtain⟨n,t,e,m⟩:=o;exact#[lo+n,e,m]
 .rintro c a ⟨lo,rfl,f⟩
  dsimp only;refine Da (Pi (PP (I:=λ(x:Nat)(c:U1)(a:SortSt)=>c=(none,⟨⟩)/\SI S k0 (arrOf st) a lo) (Q:=λc a=>c=(none,⟨⟩)/\SI S k0 (arrOf st) a lo) (λx c a _ _ b=>?_) (λc a b=>b) #[rfl,f]) ?_)
  .unfold Nj
   refine Da (aaK ?_)
   by_cases h:(pendingOf a).size<=1
   .rw[ir h];exact FB #[rfl,b.2]
   .rw[mo h]
    exact Da (QL C b.2 (Nat.lt_of_le_of_lt (Nat.succ_le_succ ite_le) ()) λa p _=>FB #[rfl,p])
  .rintro c g ⟨rfl,i⟩
   exact FB (q g i.perm i.failed)
end
section
variable {S:Keyed->Prop} {k0:SortKind} {prog:Program} {w:World} {A:Around} {E:Value->Shared->Prop} {s:Shared}
def Keeps(s a:Shared):Prop:=∀b o,s.heap.get? b\o->a.heap.get? b\o
def uZ(a:List Value):(a.toArray.zip a.toArray).toList=a.map λv=>(v,v):=by
 rw[Array.toList_zip];show List.zip a a=_
 induction a with
 |nil=>rfl
 |cons v r b=>rw[abK,dJ,b]
def vN(i:s.heap.get? a\(seqObj "list" c.toArray n))(M:2<=c.length)(N:c.length<=1000)
  {s0:Shared} (k:∀b o,s0.heap.get? b\o->b≠a/\s.heap.get? b\o)
  (z:∀(E:Value->Shared->Prop)(d:Shared)(m:SortKind->Shared->Prop),Keeps s0 d->m k0 d->wpAny (model prog w) A (keyKind' c.toArray) m E d)
  (C:∀(E:Value->Shared->Prop)(d:Shared),Keeps s0 d->iV S k0 (model prog w) A E d) (mem:∀v∈c,S (v,v))
  (h:∀out:Array Keyed,out.toList.Perm (c.map λv=>(v,v))->P (.done (.ret .none)) {s with heap:=sortedHeap s.heap a c (out.map (·.2))}):
  wpAny (model prog w) A (Builtin.«list.sort» #[[.ref a],[]]) P E s:=by
 rw[list_sort_plain];have q:a<s.heap.objs.size:=Fk i;have O:1000<sizeLine:=∅
 refine wpAny_bind (listItems_at i rfl ?_);refine wpAny_bind (abM i rfl ?_ (by rw[cH];lia) (fk _))
 obtain⟨l,r⟩:∃l,(s.heap.update a (Obj.mapSeq λ_=> #[])).get? a\(seqObj "list" #[] l):=#[_,abr i (λ_=> #[])];refine wpAny_bind (acp r rfl ?_);refine wpAny_bind (wpAny_newTuple ?_ (by show c.length<=_;lia))
 refine wpAny_bind (aaI ?_ (fk _));refine KB ?_
 have t:(((s.heap.update a (Obj.mapSeq λ_=> #[])).push (seqObj "tuple" c.toArray 0)).push (seqObj "list" #[] 0)).get? a\(seqObj "list" #[] l):=by
  rw[aa5 _ _ _ (by rw[aaS,aaD];exact bY (rL q)),aa5 _ _ _ (by rw[aaD];exact bY q)]
  exact r
 show wpAny (model prog w) A _ P E {s with heap:=((s.heap.update a (Obj.mapSeq λ_=> #[])).push (seqObj "tuple" c.toArray 0)).push (seqObj "list" #[] 0)}
 have u:Keeps s0 {s with heap:=((s.heap.update a (Obj.mapSeq λ_=> #[])).push (seqObj "tuple" c.toArray 0)).push (seqObj "list" #[] 0)}:=λb o e=>by
  obtain⟨B,F⟩:=k b o e;refine AC _ (AC _ ?_);rw[aaE _ _ _ _ B];exact F
 dsimp only;have R:c.toArray.size=c.length:=by simp
 have x:¬c.toArray.size<2:=()
 rw[mo x,mo x];refine wpAny_bind (z _ _ _ u ?_);have g:(c.toArray.zip c.toArray).size=c.length:=by rw[<-eD,uZ,aI]
 refine wpAny_bind (wpAny_mono (Tf (C _ _ u) (st:=SortSt.mk' k0 (c.toArray.zip c.toArray) #[] 7 none)
   (Q:=λ_ f=>(arrOf f).Perm (c.toArray.zip c.toArray)/\failedOf f=none)
   #[λp j=>?_,rfl] rfl rfl λf G H=>#[G,H]) ?_ λ_ _ e=>e)
 .have y:p∈(c.toArray.zip c.toArray).toList:=j
  rw[uZ] at y;obtain⟨v,I,rfl⟩:=bT.mp y;exact mem v I
 rintro⟨⟨⟩,f⟩ d ⟨rfl,j,J⟩;dsimp only;have L:(arrOf f).size=c.length:=by rw[j.size_eq,g]
 refine wpAny_bind (acp t rfl ?_);refine wpAny_bind (abM t rfl ?_ (fk _) (by rw[Array.size_map];lia))
 rw[J];simp only[abT,gW,SC];refine be (h (arrOf f) ?_);rw[<-uZ];exact CI.mp j
end
end TP
namespace L2
open PySem PySem.Spec PyProof.Rows
theorem lZ [DecidableEq a] (f:a->b):∀(l:List b)(L:List a),l.Perm (L.map f)->∃M:List a,M.Perm L/\l=M.map f
 | [],L,h=>by
  have:=h.length_eq
  rw[aI] at this
  have:L= []:=aaZ.mp this.symm
  subst this;exact#[[], .refl _,rfl]
 |x::r,L,h=>by
  obtain⟨e,d,rfl⟩:=bT.mp (h.mem_iff.mp bP);have c:=List.perm_cons_erase d;have g:(f e::r).Perm (f e::(L.erase e).map f):=h.trans (c.map f);obtain⟨M,i,rfl⟩:=lZ f r (L.erase e) ((List.perm_cons _).mp g);exact#[e::M,(i.cons e).trans c.symm,rfl]
section
variable {X:Cx}
theorem Cu(I:Inv X d F H s)(hL:Fe H L)(hz:L.length<=1000)
  (G:∀(C:List Value->Shared->Prop),(∀J tk,s.heap.objs.size<=J.objs.size->(∀b o,s.heap.get? b\o->J.get? b\o)->C (L.map λe=>Value.ref e.1) {s with heap:=J,toks:=tk})->wpAny (model X.prog X.w) X.A.in1 (collect v) C X.xe s)
  (q:∀(q:Addr)(M:List (Addr×(Nat×Nat))),H q=none->M.Perm L->Q (.ref q) (upd H q (.lst (M.map λe=>V.ref e.1)))):
  wpAny (model X.prog X.w) X.A (call (.builtin "sorted") [v]) (EP X d F Q) X.xe s:=by
 have cu:1000<sizeLine:=∅
 refine aaA acq ab3 ab4 (ab5 _) ?_;unfold Builtin.«sorted»;refine wpAny_bind (m:=checkCount "sorted" 1 1 _) (be (wpAny_bind (G _ λg Y Z N=>wpAny_bind (aaI ?_ (by rw[aI];lia)))))
 have l:(g.push (seqObj "list" (L.map λe=>Value.ref e.1).toArray 0)).get? g.objs.size\(seqObj "list" (L.map λe=>Value.ref e.1).toArray 0):=Gc _ rfl;have O:∀b o,s.heap.get? b\o->b<g.objs.size:=λb o e=>Fk (N b o e)
 have fin:∀(M:List (Addr×(Nat×Nat)))(out:Array Value),M.Perm L->out.toList=M.map (λe=>Value.ref e.1)->EP X d F Q (.ref g.objs.size) {s with heap:=sortedHeap (g.push (seqObj "list" (L.map λe=>Value.ref e.1).toArray 0)) g.objs.size (L.map λe=>Value.ref e.1) out,toks:=Y}:=λM out E r=>by
  obtain⟨c,B⟩:=sortedHeap_at (out:=out) l;refine#[.ref g.objs.size,_,I.laid (t':=Y) (λb o e=>?_) Z (o:= .lst (M.map λe=>V.ref e.1)) #[by rw[aI,E.length_eq];lia,out.toList,c,?_,by rw[Array.toArray_toList];exact B],rfl,q _ M (I.hok.fresh Z) E]
  .rw[sortedHeap_old (bY (O b o e)) (by rw[aaS];exact rL (O b o e))]
   exact AC _ (N b o e)
  .rw[r,show(λe:Addr×(Nat×Nat)=>V.ref e.1)=V.ref∘(·.1) from rfl,show(λe:Addr×(Nat×Nat)=>Value.ref e.1)=Value.ref∘(·.1) from rfl,<-b7,<-b7]
   exact sq _
 by_cases h2:L.length<2
 .refine wpAny_bind (KB (On slot_list_sort #[_,l,rfl] entry_list_sort (KS.vV l (by rw[aI];exact h2) #[_,rfl,be #[_,rfl,fin L _ (.refl _) rfl]]) (aaT _)))
 .have tup:∀e∈L,∀f:Shared,TP.Keeps s f->∃t u,IsTup f.heap e.1 [.int (e.2.1:Nat) t, .int (e.2.2:Nat) u].toArray:=λe P f k=>by
   refine au λG0 k0=>?_;obtain⟨t,u,o,r,B,n,R⟩:=JA I (hL e P);refine k0 ?_;exact#[t,u,o,k _ _ r,B,n,R]
  refine wpAny_bind (KB (On slot_list_sort #[_,l,rfl] entry_list_sort (TP.vN (s0:=s) (S:=λp=>∃e∈L,p=(Value.ref e.1,Value.ref e.1)) (k0:=tuples' true) l (by rw[aI];lia) (by rw[aI];lia) (λb o e=>#[bY (O b o e),AC _ (N b o e)]) (λE' f C k U=>?_) (λE' f k x y st C sx sy hk U=>?_) (λv j=>?_) λout pJ=>#[_,rfl,be #[_,rfl,?_]]) (aaT _)))
  .have go:∀(M:List (Addr×(Nat×Nat))),(∀e∈M,e∈L)->∃fs:List Value,PySem.W.KatTups f.heap (M.map λe=>Value.ref e.1) fs/\fs.length=M.length/\∀v∈fs,∃i t,v= .int i t:=by
    intro M
    induction M with
    |nil=>exact λ_=>#[[],PySem.W.KatTups.nil,rfl,λv j=>by cases j]
    |cons e M ih=>
     intro hM;refine au λG0 k0=>?_;obtain⟨fs,a,b,c⟩:=ih λx hx=>hM x (cI _ hx);obtain⟨t,u,o,r,B,n,R⟩:=tup e (hM e bP) f k;refine k0 ?_;refine#[.int (e.2.1:Nat) t::fs,PySem.W.KatTups.cons r B R rfl a,by simp[b],λv j=>?_]
     rcases bH.mp j with z|z
     .exact#[_,_,z]
     .exact c v z
   obtain⟨fs,kt,kl,ki⟩:=go L λ_ h=>h;refine PySem.W.kat_kind (T:= .type "int") kt () (λv j=>by obtain⟨i,t,rfl⟩:=ki v j;exact .now) ∅ ?_
   have hb:(Value.type "int" !=Value.type "tuple")=true:=∅
   rw[hb];exact U
  .obtain⟨e1,m1,rfl⟩:=sx
   obtain⟨e2,m2,rfl⟩:=sy;rw[lt'_eq];refine Da (aaK ?_);rw[hk];refine au λG0 k0=>?_;obtain⟨t1,t2,k1⟩:=tup e1 m1 f k;obtain⟨u1,u2,k2⟩:=tup e2 m2 f k;refine k0 ?_;refine Da (abh (abO (Ow k1 k2 #[rfl,?_])));exact FB (U _)
  .obtain⟨e,P,rfl⟩:=bT.mp j
   exact#[e,P,rfl]
  .rw[b7] at pJ
   obtain⟨M,E,em⟩:=lZ (λe:Addr×(Nat×Nat)=>((Value.ref e.1,Value.ref e.1):Keyed)) out.toList L pJ;exact fin M _ E (by rw[Array.toList_map,em,b7];rfl)
def xC:cw X (.builtin "sorted") (λc H Q=>∃(p:Addr)(L:List (Addr×(Nat×Nat))),c= [.ref p]/\cJ X.K H p (L.map λe=>V.ref e.1)/\Fe H L/\L.length<=1000/\
  ∀(q:Addr)(M:List (Addr×(Nat×Nat))),H q=none->M.Perm L->Q (.ref q) (upd H q (.lst (M.map λe=>V.ref e.1)))):=by
 intro d s t H c us Q I f h;rfl';obtain⟨p,L,rfl,i,j,k,q⟩:=h;obtain⟨u,rfl,l⟩:=f.one;subst l;obtain⟨a,r,m,_⟩:=I.list i
 have n:a=L.map λe=>Value.ref e.1:=by
  have:=sA (as:=L.map (·.1)) (us:=a) (by rw[b7];exact r)
  rw[this,b7];rfl
 have w:1000<sizeLine:=∅
 ac_rfl;subst n;refine Cu I j k (λx h=>acH m.isList (h _ _ ?_ λb o e=>?_) (by rw[aI];lia)) q
 .rw[aaD,aaS];exact rN _
 .rw[aaE _ _ _ _ (bY (Fk e))];exact AC _ e
end
end L2
namespace TP
open PySem PyProof.Rows TS
section
variable {S:Keyed->Prop} {k0:SortKind} {prog:Program} {w:World} {A:Around} {E:Value->Shared->Prop} {s:Shared}
def Ct(j:s.heap.IsList l a.toArray)(k:2<=a.length)(n:a.length<=1000)
  (p:∀(E:Value->Shared->Prop)(c:Shared)(g:SortKind->Shared->Prop),Keeps s c->g k0 c->wpAny (model prog w) A.in1.in1 (keyKind' a.toArray) g E c)
  (C:∀(E:Value->Shared->Prop)(c:Shared),Keeps s c->iV S k0 (model prog w) A.in1.in1 E c) (mem:∀v∈a,S (v,v))
  (h:∀out:Array Keyed,out.toList.Perm (a.map λv=>(v,v))->Q (.ref (s.heap.objs.size+1)) {s with heap:=sortedAll s.heap a (out.map (·.2))}):
  wpAny (model prog w) A (call (.builtin "sorted") [.ref l]) Q E s:=by
 have t:1000<sizeLine:=∅
 refine aaA acq ab3 ab4 (ab5 _) ?_;unfold Builtin.«sorted»;refine wpAny_bind (m:=checkCount "sorted" 1 1 _) (be ?_);refine wpAny_bind (acH j ?_ ())
 refine wpAny_bind (aaI ?_ (by show a.length<=_;lia))
 have d:((s.heap.push (seqObj "list" #[] 0)).update s.heap.objs.size (Obj.mapSeq (·++a.toArray))).objs.size=s.heap.objs.size+1:=by
  rw[aaD,aaS]
 have i:(((s.heap.push (seqObj "list" #[] 0)).update s.heap.objs.size (Obj.mapSeq (·++a.toArray))).push (seqObj "list" a.toArray 0)).get? (s.heap.objs.size+1)\(seqObj "list" a.toArray 0):=by
  rw[<-d];exact Gc _ rfl
 have keep:∀b o,s.heap.get? b\o->(((s.heap.push (seqObj "list" #[] 0)).update s.heap.objs.size (Obj.mapSeq (·++a.toArray))).push (seqObj "list" a.toArray 0)).get? b\o:=λb o q=>by
  have f:b<s.heap.objs.size:=Fk q;rw[aa5 _ _ _ (by rw[d];exact bY (rL f)),aaE _ _ _ _ (bY f),aa5 _ _ _ (bY f)]
  exact q
 show wpAny _ _ _ _ _ {s with heap:=((s.heap.push (seqObj "list" #[] 0)).update s.heap.objs.size (Obj.mapSeq (·++a.toArray))).push (seqObj "list" a.toArray 0)}
 rw[d];refine wpAny_bind (KB (On slot_list_sort #[_,i,rfl] entry_list_sort (vN (s0:=s) i k n (λb o e=>#[bY (rL (Fk e)),keep b o e]) p C mem λout r=>#[_,rfl,?_]) (aaT _)));exact be #[_,rfl,h out r]
end
end TP
namespace L2
open PySem PySem.Spec PyProof.Rows
section
variable {X:Cx}
def wo(hu:X.A.units+64<cLine):cw X (.builtin "sorted") (λB H Q=>∃(p:Addr)(L:List (Addr×List Nat)),B= [.ref p]/\cJ X.K H p (L.map λe=>V.ref e.1)/\Ii H L/\L.length<=1000/\
  ∀(q:Addr)(M:List (Addr×List Nat)),H q=none->M.Perm L->Q (.ref q) (upd H q (.lst (M.map λe=>V.ref e.1)))):=by
 intro C s σ H B us Q I N h;refine au λE k0=>?_;obtain⟨p,L,rfl,O,P,hz,q⟩:=h;obtain⟨u,rfl,R⟩:=N.one;subst R;obtain⟨d,r,F,_⟩:=I.list O;have U:=r.length;rw[aI] at U;have cu:1000<sizeLine:=∅
 refine k0 ?_
 have l:d=L.map λe=>Value.ref e.1:=by
  have:=sA (as:=L.map (·.1)) (us:=d) (by rw[b7];exact r)
  rw[this,b7];rfl
 by_cases h2:L.length<2
 .refine KS.zX F.isList () ?_
  obtain⟨e,g⟩:=acG s.heap d d.toArray;have m:H (s.heap.objs.size+1)=none:=I.hok.fresh (rN _);refine#[.ref (s.heap.objs.size+1),_,I.laid (t':=s.toks) (λb o t=>acD t) (rN _) (o:= .lst (L.map λe=>V.ref e.1)) #[by rw[aI];lia,d,e,r,g],rfl,q _ L m (.refl _)]
 .have lst:∀e∈L,∀f:Shared,TP.Keeps s f->∃a:Array Value,f.heap.IsList e.1 a/\IntsAre a.toList (CD e.2):=λe g f i=>by
   refine au λE k0=>?_;obtain⟨Y,Z,p2,_⟩:=I.list (cJ.of (P e g));obtain⟨o,w,j,n,hd⟩:=p2.isList;refine k0 ?_;exact#[Y.toArray,#[o,i _ _ w,j,n,hd],by simpa using intsAre_of Z]
  refine TP.Ct (S:=λp=>∃e∈L,p=(Value.ref e.1,Value.ref e.1)) (k0:=oneType') F.isList () () (λE' f Q' i z=>?_) (λE' f i x y st Q' sx sy hk z=>?_) (λv k=>?_) λout G=>?_
  .refine PySem.W.kas_kind (T:= .type "list") () (λv k=>?_) ∅ ∅ z
   rw[l] at k;obtain⟨e,g,rfl⟩:=bT.mp k;obtain⟨a,⟨o,w,j,_⟩,_⟩:=lst e g f i;rw[<-j];exact(PySem.W.Looks.ld w).andThen .now
  .obtain⟨e1,m1,rfl⟩:=sx
   obtain⟨e2,m2,rfl⟩:=sy;rw[lt'_eq];refine Da (aaK ?_);rw[hk,keyLt'_oneType];refine au λE k0=>?_;obtain⟨i1,l1,n1⟩:=lst e1 m1 f i;obtain⟨i2,l2,n2⟩:=lst e2 m2 f i;refine k0 ?_;refine Da (abh (abO (Er l1 l2 n1 n2 ?_ #[rfl,?_])))
   .rw[ab9,ab9];lia
   .exact FB (z _)
  .rw[l] at k
   obtain⟨e,g,rfl⟩:=bT.mp k;exact#[e,g,rfl]
  .rw[l,b7] at G
   obtain⟨M,J,em⟩:=lZ (λe:Addr×List Nat=>((Value.ref e.1,Value.ref e.1):Keyed)) out.toList L G
   have Vy:(out.map (·.2)).toList=M.map λe=>Value.ref e.1:=by
    rw[Array.toList_map,em,b7];rfl
   obtain⟨c,j⟩:=acG s.heap d (out.map (·.2));have m:H (s.heap.objs.size+1)=none:=I.hok.fresh (rN _);have Vt:=J.length_eq;refine#[.ref (s.heap.objs.size+1),_,I.laid (t':=s.toks) (λb o t=>acD t) (rN _) (o:= .lst (M.map λe=>V.ref e.1)) #[by rw[aI];lia,(out.map (·.2)).toList,c,?_,by rw[Array.toArray_toList];exact j],rfl,q _ M m J]
   rw[Vy,show(λe:Addr×List Nat=>V.ref e.1)=V.ref∘(·.1) from rfl,show(λe:Addr×List Nat=>Value.ref e.1)=Value.ref∘(·.1) from rfl,<-b7,<-b7];exact sq _
end
section
variable {Z:DC} {X:Cx}
def Kp:bZ:=λc P=>∃a:List (Nat×Nat),c= [.lst (a.map pairD)]/\a.length<=1000/\∀b:List (Nat×Nat),b.Perm a->P (.lst (b.map pairD))
def xD:cw X (.builtin "sorted") (hU Z Kp):=by
 refine xC.imp ?_;rintro o H Q ⟨G,j,P,s,dv,⟨c,rfl,r,b⟩,q⟩;cases dv with
 |cons a k=>
  cases k;cases a with
  | @lst p t j h e=>
   obtain⟨L,rfl,d,f⟩:=Ag e;have u:L.length=c.length:=by rw[<-d];simp
   refine#[_,L,rfl,cJ.of (s _ _ h),λp b=>s _ _ (f p b),(),λp M g i=>?_]
   have l:(M.map (·.2)).Perm c:=by rw[<-d];exact i.map _
   have m:Fe (upd G p (.lst (M.map λe=>V.ref e.1))) M:=λx n=>bq (s.free g) _ _ _ (f x (i.mem_iff.mp n));exact q _ (b _ l) _ _ _ (.new s g) (.lst aK m.dv)
def Io:bZ:=λa P=>∃L:List (List Nat),a= [.lst (L.map az)]/\L.length<=1000/\∀M:List (List Nat),M.Perm L->P (.lst (M.map az))
def C9(j:X.A.units+64<cLine):cw X (.builtin "sorted") (hU Z Io):=by
 refine(wo j).imp ?_;rintro r H Q ⟨G,k,P,s,dv,⟨c,rfl,t,b⟩,q⟩;cases dv with
 |cons a l=>
  cases l;cases a with
  | @lst p u k h e=>
   obtain⟨L,rfl,d,f⟩:=Af e;have v:L.length=c.length:=by rw[<-d];simp
   refine#[_,L,rfl,cJ.of (s _ _ h),λp b=>s _ _ (f p b),(),λp M g i=>?_]
   have m:(M.map (·.2)).Perm c:=by rw[<-d];exact i.map _
   have n:Ii (upd G p (.lst (M.map λe=>V.ref e.1))) M:=λx o=>bq (s.free g) _ _ _ (f x (i.mem_iff.mp o));exact q _ (b _ m) _ _ _ (.new s g) (.lst aK n.dv)
end
end L2
namespace oW
open PySem L2 Wb
variable {P:Program} {w:World} {mg:Str->Option Value} {base:Heap} {Z:DC} (T:Txt Z mg)
open Wy
def zz(d:Nat×Nat):Int×Int:=(d.1,d.2)
def P0(h:zz a=zz b):a=b:=aal (by have:=(aao h).1;lia) (by have:=(aao h).2;lia)
def xf{d:Nat×Nat}{l:List (Nat×Nat)}:zz d∈l.map zz↔d∈l:=by
 rw[bT];exact#[λ#[a,b,e]=>by rw[<-P0 e];exact b,λh=>#[d,h,rfl]]
def PB:bZ:=λb P=>∃(w:W),b= [.fM w]/\Good w/\w.length<=14/\∀a:List (Nat×Nat),a.Perm (kg (row w) w.length)->P (.lst (a.map pairD))
theorem Qx(I:DN->Prop)(J:o->DN->Prop)(m:o->D)(f:o->List u)(v:u->D)(p:o->u->Bool)(k:o->u->B)(i:B->D)(E:∀y F,J y F->I F):∀(l:List o)(j:DN)(a:List B)(P:List D->Prop),
  (∀y∈l,∀j,I j->∀(Y:DN->List D->Prop),(∀d,J y d->Y d ((f y).map v))->g (m y) j λd=>A d (Y d))->
  (∀y∈l,∀b∈f y,∀j,J y j->∀(Y:DN->D->Prop)(x:DN->Prop),(∀d,J y d->p y b=true->Y d (i (k y b)))->(∀d,J y d->p y b=false->x d)->r (v b) j λd=>s d λc=>if c=true then t d (Y d) else x d)->
  I j->a.length+(l.flatMap λy=>((f y).filter (p y)).map (k y)).length<=sizeLine->(∀y∈l,a.length+(l.flatMap λy=>((f y).filter (p y)).map (k y)).length+(f y).length<=sizeLine)->P ((a++l.flatMap λy=>((f y).filter (p y)).map (k y)).map i)->qY g xH A r s t (l.map m) j (a.map i) P
 | [],j,a,P,_,_,G,_,_,h=>by
  show P (a.map i);simpa using h
 |y::l,j,a,P,H,L,G,n,M,h=>by
  have N:=M y (bP ..);rw[u5,cD] at n N;refine H y (bP ..) j G (λd O=>lcW r s t O d (a.map i) λq Q=>qY g xH A r s t (l.map m) q Q P) λd R=>?_;refine qJ (J y) v (p y) (λb=>i (k y b)) (f y) d (a.map i) _ (λb S q C Y x U X=>?_) R (by rw[aI];lia) λq C=>?_
  .exact L y (bP ..) b S q C Y x U X
  .have e:a.map i++((f y).filter (p y)).map (λb=>i (k y b))=(a++((f y).filter (p y)).map (k y)).map i:=by rw[cW,b7];rfl
   rw[e];refine Qx I J m f v p k i E l q (a++((f y).filter (p y)).map (k y)) P (λz n=>H z (cI _ n)) (λz n=>L z (cI _ n)) (E y q C) (by rw[cD];lia) (λz n=>?_) ?_
   .have:=M z (cI _ n)
    rw[u5,cD] at this;rw[cD];lia
   .rw[u5] at h
    rw[i5];exact h
def nP:FnOk P w Z.K mg base b9 1 T.m_ties.f T.m_ties.fd ["self"] (aX Z PB):=by
 have J:=tT.nd;refine ba T.m_ties.F tT [0] ∅ (λu R h=>by obtain⟨_,rfl,_⟩:=h;rfl) (λL A outer s H E u R v h=>?_)
 have M:=v.units;refine#[_,(aq (aJ (aE xD rfl T.B.sorted kz (ae (NV (NC:= ["p","row","q"]) (src:= [none,none,none]) rfl (kA (aw lK)) trivial (jw rfl T.B.enumerate (ae (sR T.W (aa 0)) ah)) (λ_ _ _=>(Bk 2 rfl (kh (bI 0 (show(["p","row","q"]:List Str).Nodup from by decide+kernel)) (kh (bI 1 (show(["p","row","q"]:List Str).Nodup from by decide+kernel)) xI)))) (λ_ _ _=>dF) (λ_ _ _=>(bA (aa 1))) (λ_ _ _=>(bI 2 (show(["p","row","q"]:List Str).Nodup from by decide+kernel))) (λ_ _ _=>(jx (aG nN (aa 0) (aa 2) (aP _)))) (λ_ _ _=>(cK (ae (aa 0) (ae (aa 2) ah))))) ah)))),?_]
 obtain⟨a,rfl,g,N,q⟩:=h
 have x:iC (a.map az)=(ac a.length).map λ(j:Nat)=>D.tup [.int (j:Int),az (row a j)]:=by
  refine rJ λj=>?_;rw[cG]
  by_cases lt:j<a.length
  .rw[qx lt]
   cases e:(iC (a.map az))[j]? with
   |none=>
    have:=List.getElem?_eq_none_iff.mp e
    rw[xM,aI] at this;lia
   |some d=>rw[(EZ e).2];rfl
  .rw[gK (by rw[xM,aI];lia),gK (by rw[fw];lia)];rfl
 have k:((ac a.length).flatMap λp=>((row a p).filter λq=>decide (p<q)).map λq=>(p,q))=kg (row a) a.length:=rfl
 have z:∀n,n<=a.length->(kg (row a) n).length<=n*14:=λn=>by
  induction n with
  |zero=>intro _;exact bo _
  |succ n C=>
   intro h
   have:=C ()
   have O:=dG g n;have Q:=A4 (λq=>decide (n<q)) (row a n);unfold kg at this ⊢;rw[List.range_succ,List.flatMap_append,cD];simp only[u5,List.flatMap_nil,jH,aI];lia
 have S:=z a.length (bo _);exists _,rfl,a,rfl;refine(?_:qY _ _ _ _ _ _ (iC (a.map az)) _ _ _);rw[x];refine Qx (λi=>∃o r c,i= [o,r,c]) (λp i=>∃c,i= [some (ao p),some (az (row a p)),c]) _ (λp=>row a p) ao (λp q=>decide (p<q)) (λp q=>(p,q)) pairD (λy i #[c,e]=>#[_,_,_,e]) (ac a.length) _ [] _ (λp t G l Y m=>?_) (λp t b U G l Y X m I=>?_) #[none,none,none,rfl] ?_ (λp t=>?_) ?_
 .obtain⟨o,r,c,rfl⟩:=l
  exact#[rfl,rfl,_,rfl,m _ #[_,rfl]]
 .obtain⟨c,rfl⟩:=l
  exists _,rfl,_,rfl,_,rfl;refine(?_:if decide ((p:Int)<(b:Int))=true then _ else _);rw[show decide ((p:Int)<(b:Int))=decide (p<b) from aaH.mpr ()]
  exact bw (λe=>#[_,rfl,_,rfl,by show 2<=sizeLine;decide,m _ #[_,rfl] e]) (λe=>I _ #[_,rfl] e)
 .rw[k,j3,uj];exact small ()
 .have:=dG g p
  rw[k,j3,uj];exact small ()
 .rw[k,oK]
  exact#[_,rfl,(),q]
def JV:bZ:=λa P=>∃(w:W)(p q:Nat),a= [.fM w,ao p,ao q]/\Good w/\q∈row w p/\P (ao (aW (row w p) q))
def pP:FnOk P w Z.K mg base b9 1 T.m_behind.f T.m_behind.fd ["self","p","q"] (aX Z JV):=by
 have k:=p7.nd;refine ba T.m_behind.F p7 [0,0,0,0] ∅ (λl R h=>by obtain⟨_,_,_,rfl,_⟩:=h;rfl) (λt A outer s H E l R m h=>?_)
 have u:=m.units
 refine#[_,(ag (aO false 3 k (aB (sR T.W (aa 0)) (aa 1)))
   (aq (aJ (aB (aa 3) (aH bW (aH bL (qF (aa 3) (aa 2)) av) (aE aZ rfl T.B.len aY (ae (aa 3) ah))))))),?_]
 obtain⟨a,p,b,rfl,g,c,q⟩:=h;have n:=bO c;have v:=dG g p;have e:((row a p).map ao).length=(row a p).length:=aI _;have d:0<(row a p).length:=rG c;have o:(0:Int)<(((row a p).map ao).length:Int):=by rw[e];lia
 exists _,rfl,a,rfl,_,rfl,_,dh n,trivial;exists _,rfl,_,rfl,_,rfl,_,rfl,rfl,cY _,_,_,(gy c).1,(gy c).2.1,(gy c).2.2;exists _,rfl,o;have em:(((row a p).idxOf b:Nat):Int)+1=(((row a p).idxOf b+1:Nat):Int):=()
 have r:((((row a p).idxOf b:Nat):Int)+1)%(((row a p).map ao).length:Int)=((((row a p).idxOf b+1)%(row a p).length:Nat):Int):=by rw[e,em,Int.natCast_emod]
 refine#[ao (aW (row a p) b),?_,q];show eG ((row a p).map ao) ((λi j=>i%j) _ _)=_;dsimp only;rw[r];exact iI (qB _ d)
def IC{P:D->Prop}(h:P (.bl (!decide (a=b)))):rR (pairD a) (pairD b) P:=by
 refine#[_,_,MP a,MP b,by unfold sj nD;simp[PyData.depth,PyData.depthAll],?_]
 have:PyData.eqv (sj a) (sj b)=decide (a=b):=by
  by_cases e:a=b
  .rw[GT e];exact(An a b).mpr e
  .rw[GE e]
   apply rK.mpr;exact λz=>e ((An a b).mp z)
 rw[ir rfl,this];exact h
def Ng:bZ:=λa P=>∃(w:W)(d:Nat×Nat),a= [.fM w,pairD d]/\Good w/\w.length<=14/\aU w d/\∀r,fA w d r->P (.lst (r.map pairD))
def yK:FnOk P w Z.K mg base b9 2 T.d_round_from.f T.d_round_from.fd ["web","side"] (aX Z Ng):=by
 have i:=qh.nd;refine ba T.d_round_from.F qh [0,0,1,0,0] ∅ (λu R h=>by obtain⟨_,_,rfl,_⟩:=h;rfl) (λB A outer s H E u R n h=>?_)
 have v:=n.units
 refine#[_,(ag (cU 2 i (gX (ae (aa 1) ah)))
   (ag (wU (aa 1) (iB 2 rfl (bF (aR 3 i) (bF (aR 4 i) e9))))
   (ag (Ht 3 4 rfl i (ae (aa 4) (ae (Dq T.W (aa 0) T.m_behind.m (pP T) (n.mono ∅) T.m_behind.b (ae (aa 4) (ae (aa 3) ah))) ah)))
   (ag (mF FS (aG (f9 v) (cK (ae (aa 3) (ae (aa 4) ah))) (aa 1) (aP _)) (ag (gY false 2 (cK (ae (aa 3) (ae (aa 4) ah))))
   (aq (Ht 3 4 rfl i (ae (aa 4) (ae (Dq T.W (aa 0) T.m_behind.m (pP T) (n.mono ∅) T.m_behind.b (ae (aa 4) (ae (aa 3) ah))) ah))))))
   (aq (aJ (aa 2))))))),?_]
 obtain⟨a,d,rfl,g,r,o,q⟩:=h;have C:=kB g;have G:a.length*a.length<=14*14:=zv r r;refine#[_,rfl,by show 1<=sizeLine;decide,?_]
 exists _,rfl,rfl,rfl;exists _,rfl,_,rfl,a,rfl,_,rfl,_,rfl,a,d.2,d.1,rfl,g,g.sym _ _ o,_,_,rfl;refine kU (λm x=>∃k,0<k/\m+k=(br a).length+1/\(∀j,0<j->j<k->bu a j d≠d)/\x= [some (.fM a),some (pairD d),some (.lst ((walk a d k).map pairD)),some (ao (bu a k d).1),some (ao (bu a k d).2)]) (br a).length #[1,(),rfl,λj l t=>by lia,rfl] ?_
 rintro m _ ⟨k,y,I,p,rfl⟩;have z:=cN g o k;refine#[_,rfl,_,rfl,by show 2<=sizeLine;decide,_,rfl,?_]
 refine(?_:rR (pairD (bu a k d)) (pairD d) _);refine IC #[_,rfl,bw (λe=>?_) (λe=>?_)]
 .have ne:bu a k d≠d:=by simpa using e
  have lt:k<(br a).length:=by
   have:=zk g o (k:=k+1) λj l t=>by
    by_cases c:j=k
    .subst c;exact ne
    .exact p j l ()
   lia
  refine#[_,rfl,_,rfl,_,rfl,by show 2<=sizeLine;decide,trivial,cL (by rw[aI,dU];lia),?_]
  exists _,rfl,_,rfl,a,rfl,_,rfl,_,rfl,a,(bu a k d).2,(bu a k d).1,rfl,g,g.sym _ _ z,_,_,rfl;refine#[m-1,(),k+1,(),(),λj l t=>?_,?_]
  .by_cases c:j=k
   .subst c;exact ne
   .exact p j l ()
  .rw[sD,cW];rfl
 .have e:bu a k d=d:=by simpa using e
  exact#[_,rfl,q _ #[k,y,e,p,rfl]]
structure zD (w:W) (ds:List (Nat×Nat)) (i:Nat) (rs:List (List (Nat×Nat))):Prop where
 rnd:js w rs
 nod:rs.flatten.Nodup
 met:∀j e,j<i->ds[j]?\e->e∈rs.flatten
def zD.skip{w:W}(h:zD w a i b)(g:a[i]?\d)(k:d∈b.flatten):zD w a (i+1) b:=
 #[h.rnd,h.nod,λj e l f=>by
  by_cases c:j=i
  .subst c;rw[g] at f;cases f;exact k
  .exact h.met j e () f]
def zD.take{w:W}(g:Good w){l:List (Nat×Nat)}{i:Nat}{m:List (List (Nat×Nat))}(h:zD w l i m)(s:l[i]?\d)(p:aU w d)(t:d∉m.flatten)(f:fA w d r):zD w l (i+1) (m++ [r]):=by
 refine#[λk u=>?_,?_,λj e C o=>?_]
 .rcases b6.mp u with z|z
  .exact h.rnd k z
  .rw[cR.mp z];exact#[d,f,p]
 .rw[wb,eE]
  refine#[h.nod,by simpa using f.nodup g p,λa v b x e=>?_]
  subst e;obtain⟨k,q,y⟩:=jZ.mp v;obtain⟨E,A,_⟩:=h.rnd k q;obtain⟨n,B⟩:=f.back (~~~x)
  exact t (jZ.mpr #[k,q,by rw[<-B];exact A.iter y n])
 .rw[wb,b6]
  by_cases c:j=i
  .subst c;rw[s] at o;cases o
   exact .inr (~~~f.first)
  .exact .inl (h.met j e () o)
def zD.fin{w:W}(g:Good w)(all:∀e,aU w e->e∈a)(h:zD w a a.length c):c.flatten.Perm (br w):=
 (vY h.nod (cB g)).mpr λe=>#[λb=>bg.mpr (h.rnd.dart g e b),λb=>by
  obtain⟨j,d⟩:=zx (all e (bg.mp b));exact h.met j e (eC.mp d).1 d]
def Kg(w:W)(n:Nat):Prop:=(w.length=1/\n=1)\/(2<=w.length/\Fc w n)
def wZ(a:List (List (Nat×Nat))):D:= .lst ((a.map λr=>r.map (·.1)).map az)
def Nb:bZ:=λa P=>∃(w:W),a= [.fM w]/\Good w/\1<=w.length/\w.length<=14/\∀l:List D,Kg w l.length->P (.lst l)
def Jg(h:d∉l):D3 (l.map zz) (zz d)=(l++ [d]).map zz:=by
 unfold D3;rw[mo (λz=>h (xf.mp z)),cW];rfl
def Jy:FnOk P w Z.K mg base b9 3 T.d_lands.f T.d_lands.fd ["web"] (aX Z Nb):=by
 have L:=AX.nd;refine ba T.d_lands.F AX [0,98,1,0,0,0] ∅ (λC R h=>by obtain⟨_,rfl,_⟩:=h;rfl) (λbE A outer s H E C R p h=>?_)
 have U:=p.units
 refine#[_,(ag (bp (aG (fD U) (h7 T.W (aa 0) T.m_many.m (tH T) (p.mono ∅) T.m_many.b) av (aP _)) (aq (aJ (c7 (ae (c7 (ae av ah)) ah)))) aM)
   (ag (II 1 L rfl T.x_set)
   (ag (cU 2 L (gX ah))
   (ag (cT rfl FS (bA (aE xD rfl T.B.sorted kz (ae (aH bL (h7 T.W (aa 0) T.m_ties.m (nP T) (p.mono ∅) T.m_ties.b) (jL (NC:= ["a","b"]) (src:= [none,none]) rfl (kA (aw p5)) trivial (bA (h7 T.W (aa 0) T.m_ties.m (nP T) (p.mono ∅) T.m_ties.b)) (λ_ _ _=>(Bk 2 rfl (kh (bI 0 (show(["a","b"]:List Str).Nodup from by decide+kernel)) (kh (bI 1 (show(["a","b"]:List Str).Nodup from by decide+kernel)) xI)))) (λ_ _ _=>dF) (λ_ _ _=>(cK (ae (aa 1) (ae (aa 0) ah)))))) ah))) (aR 3 L) (aq (bp (aG (Gn U) (aa 3) (aa 1) (by with_unfolding_all rfl)) (ag (aO false 4 L (aD T.d_round_from (yK T) p (ae (aa 0) (ae (aa 3) ah))))
   (ag (cT rfl FS (bA (aa 4)) (aR 5 L) (aq (K4 false 1 U (aa 5))))
   (aq (gY false 2 (jL (NC:= ["p","q"]) (src:= [none,none]) rfl (kA (aw p5)) trivial (bA (aa 4)) (λ_ _ _=>(Bk 2 rfl (kh (bI 0 (show(["p","q"]:List Str).Nodup from by decide+kernel)) (kh (bI 1 (show(["p","q"]:List Str).Nodup from by decide+kernel)) xI)))) (λ_ _ _=>dF) (λ_ _ _=>(aa 0))))))) aM)))
   (aq (aJ (aE (C9 U) rfl T.B.sorted kz (ae (aa 2) ah)))))))),?_]
 obtain⟨o,rfl,g,h1,N,q⟩:=h;have c1:=kB g;have c2:o.length*o.length<=14*14:=zv N N;have lw:(o.map az).length=o.length:=aI _;exists _,rfl,o,rfl,o,rfl;refine Dx #[_,rfl,bw (λe=>?_) (λe=>?_)]
 .have e:o.length=1:=by have:=KF e;lia
  exact#[by show 1<=sizeLine;decide,by show 1<=sizeLine;decide,q _ (.inl #[e,rfl])]
 have n2:2<=o.length:=by have:=M2 e;lia
 refine#[by show 0<=sizeLine;decide,?_]
 refine#[_,rfl,o,rfl,o,rfl,g,N,λX I=>?_];have tl:=GU g;rw[<-fZ] at tl;have tl2:=I.length_eq;refine#[_,rfl,o,rfl,o,rfl,g,N,λJ JJ=>?_];have tl3:=JJ.length_eq;refine qJ (λG=>∃O Q,G= [O,Q]) pairD (λ_=>true) (λt=>pairD (t.2,t.1)) J _ [] _ (λt ht aT S Y Nn hY hN=>?_) #[none,none,rfl] (by rw[j3,uj];exact small ()) λaT S=>?_
 .obtain⟨O,Q,rfl⟩:=S
  exact#[rfl,rfl,QV #[_,rfl,_,rfl,by show 2<=sizeLine;decide,hY _ #[_,_,rfl] rfl]]
 have pd:(X++J.map λt=>(t.2,t.1)).Perm (br o):=(((JJ.trans I.symm).map _).append_left X).trans (xy g I);have pl:=pd.length_eq;rw[cD,aI] at pl;have ef:J.filter (λ_=>true)=J:=by simp
 rw[oK,ef];refine#[by rw[aI,aI];exact small (),?_]
 have ej:(.lst (X.map pairD++J.map λt=>pairD (t.2,t.1)):D)= .lst ((X++J.map λt=>(t.2,t.1)).map pairD):=by rw[cW,b7];rfl
 dsimp only[lu];rw[ej];refine#[_,rfl,by rw[cD,aI];lia,λC O8=>?_]
 have O8:=O8.trans pd;have all:∀e,aU o e->e∈C:=λe h=>O8.mem_iff.mpr (bg.mpr h);have dart:∀e∈C,aU o e:=λe h=>bg.mp (O8.mem_iff.mp h);clear I JJ ej pd ef;refine bU (λi G=>∃(n:List (List (Nat×Nat)))(o3 o4 v:Option D),G= [some (.fM o),some (.x (.tN (cP w) (n.flatten.map zz))),some (wZ n),o3,o4,v]/\zD o C i n) #[[],none,none,none,rfl,(λr h=>nomatch h),iU,(λj e h=>by lia)] ?_ ?_
 .rintro i d _ hd ⟨n,o3,o4,v,rfl,hw⟩ A hA
  obtain⟨e,he,rfl⟩:=cg hd;have de:=dart e (dH he);exists _,rfl,_,rfl,zz e,n.flatten.map zz,rfl,rfl,_,rfl;refine(?_:if (if true=true then !decide (zz e∈n.flatten.map zz) else _)=true then _ else _);rw[ir rfl,show decide (zz e∈n.flatten.map zz)=decide (e∈n.flatten) from aaH.mpr xf]
  have sub:∀x∈n.flatten,x∈br o:=λx y=>by
   obtain⟨r,p,ZP⟩:=jZ.mp y;obtain⟨d,R,dd⟩:=hw.rnd r p;exact bg.mpr (R.br g dd x ZP)
  have fl:=aF hw.nod sub;refine bw (λc=>?_) (λc=>?_)
  .have c:e∉n.flatten:=by simpa using c
   refine#[_,rfl,_,rfl,o,e,rfl,g,N,de,λr R=>#[trivial,?_]];have VI:=hw.take g he de c R;have rd:∀x∈r,x∈br o:=λx y=>bg.mpr (R.br g de x y);have rl:=aF (R.nodup g de) rd;have SF:(n.flatten++r).Nodup:=by have:=VI.nod;rw[wb] at this;simpa using this
   have YB:(n.flatten++r).length<=(br o).length:=aF SF λx y=>(b6.mp y).elim (sub x) (rd x);rw[cD] at YB;exists _,rfl;refine bU (λk G=>∃v,G= [some (.fM o),some (.x (.tN (cP w) ((n.flatten++r.take k).map zz))),some (wZ n),some (pairD e),some (.lst (r.map pairD)),v]) #[v,by rw[List.take_zero,jH];rfl] ?_ ?_
   .rintro k d _ hd ⟨v,rfl⟩ A hA
    obtain⟨x,y,rfl⟩:=cg hd;have hk:=(eC.mp y).1;have tk:r.take (k+1)=r.take k++ [x]:=by rw[qy,y];rfl
    have nx:x∉n.flatten++r.take k:=λz=>by
     have sp:n.flatten++r=(n.flatten++r.take k)++(x::r.drop (k+1)):=by
      rw[i5,<-eC.mp y|>.2,List.getElem_cons_drop,jE]
     rw[sp] at SF;exact(eE.mp SF).2.2 x z x (bP ..) rfl
    refine#[_,rfl,_,rfl,zz x,rfl,by rw[aI,cD,i6];lia,?_]
    rw[Jg nx,i5,<-tk];exact hA _ #[_,rfl]
   .rintro _ ⟨v,rfl⟩
    rw[aI,oJ]
    have dl:n.length<=300:=by
     have h:∀u:List (List (Nat×Nat)),(∀r∈u,r≠ [])->u.length<=u.flatten.length:=λu=>by
      induction u with
      |nil=>intro _;exact bo _
      |cons a l ih=>
       intro h;have h1:=wa.mpr (h a (bP ..));have h2:=ih λr p=>h r (cI _ p);rw[i4,cD,cv];lia
     have:=h n λr p z=>by
      obtain⟨d,R,_⟩:=hw.rnd r p
      have:=R.first
      rw[z] at this;cases this
     lia
    exists _,rfl,_,rfl;refine qJ (λG=>∃O Q,G= [O,Q]) pairD (λ_=>true) (λt=>ao t.1) r _ [] _ (λt ht aT S Y Nn hY hN=>?_) #[none,none,rfl] (by rw[j3,uj];exact small ()) λaT S=>?_
    .obtain⟨O,Q,rfl⟩:=S
     exact#[rfl,rfl,QV #[_,rfl,hY _ #[_,_,rfl] rfl]]
    rw[oK,show r.filter (λ_=>true)=r by simp]
    refine#[trivial,cL (by rw[aI,aI];lia),?_]
    refine hA _ #[n++ [r],some (pairD e),some (.lst (r.map pairD)),v,?_,VI]
    have e1:wZ (n++ [r])= .lst ((n.map λr=>r.map (·.1)).map az++ [.lst (r.map λt=>ao t.1)]):=by
     unfold wZ az;rw[cW,cW];simp only[dJ,qu,b7];rfl
    rw[e1,wb,show[r].flatten=r by simp];rfl
  .have c:e∈n.flatten:=by simpa using c
   exact hA _ #[n,_,_,_,rfl,hw.skip he c]
 .rintro _ ⟨n,o3,o4,v,rfl,hw⟩
  have hw:zD o C C.length n:=by rw[aI] at hw;exact hw
  have fin:=hw.fin g all
  have dl:n.length<=300:=by
   have h:∀u:List (List (Nat×Nat)),(∀r∈u,r≠ [])->u.length<=u.flatten.length:=λu=>by
    induction u with
    |nil=>intro _;exact bo _
    |cons a l ih=>
     intro h;have h1:=wa.mpr (h a (bP ..));have h2:=ih λr p=>h r (cI _ p);rw[i4,cD,cv];lia
   have:=h n λr p z=>by
    obtain⟨d,R,_⟩:=hw.rnd r p
    have:=R.first
    rw[z] at this;cases this
   have:=fin.length_eq
   lia
  refine#[_,rfl,n.map (λr=>r.map (·.1)),rfl,by rw[aI];lia,λM I=>q _ (.inr #[n2,n,hw.rnd,fin,by rw[aI,I.length_eq,aI]])]
variable {P:Program} {w:World} {mg:Str->Option Value} {base:Heap} {Z:DC} (T:Txt Z mg)
def Pp(I:DN->Prop)(h:∀b:eO,(∀a,I a->b.nx a)->vy c t pD b a)(k:∀a,I a->u E a):dSeq (vy c t pD) u E a:=h _ k
def j6(ρ:DN)(e:a=ρ)(h:dSeq t u E ρ):dSeq t u E a:=by rw[e];exact h
def lF(h:p<n):iw n (p:Int)\p:=by
 unfold iw;rw[ir (),ir ()]
 exact GM some ()
def KJ{v w:W}{P:D->Prop}(h:P (.bl (!decide (v=w)))):rR (aL v) (aL w) P:=by
 refine#[_,_,w9 v,w9 w,by have:=vA v;lia,?_]
 have:PyData.eqv (qq v) (qq w)=decide (v=w):=by
  by_cases e:v=w
  .rw[GT e];exact(qH v w).mpr e
  .rw[GE e]
   apply rK.mpr;exact λz=>e ((qH v w).mp z)
 rw[ir rfl,this];exact h
variable {P:Program} {w:World} {mg:Str->Option Value} {base:Heap} {Z:DC} (T:Txt Z mg)
def Rs(w:W)(a:List (List (Nat×Nat))):Prop:=(w.length=1/\a= [[(0,0)]])\/(2<=w.length/\j5 w a)
def tc(w:W):Nat:=(kg (row w) w.length).length
def PM{w:W}(g:Good w):2*tc w=(br w).length:=by
 have:=(xy g (.refl _)).length_eq
 rw[cD,aI] at this;unfold tc;lia
def M7:bZ:=λa P=>∃(w:W),a= [.fM w]/\Good w/\1<=w.length/\w.length<=14/\∀n,Kg w n->P (.tup [.int (w.length:Int), .int (tc w:Int), .int (n:Int)])
def Jx:FnOk P w Z.K mg base b9 4 T.d_count.f T.d_count.fd ["web"] (aX Z M7):=by
 have p:=AW.nd;refine ba T.d_count.F AW [0] ∅ (λe R h=>by obtain⟨_,rfl,_⟩:=h;rfl) (λr A outer s H E e R c h=>?_)
 have t:=c.units;refine#[_,(aq (aJ (cK (ae (h7 T.W (aa 0) T.m_many.m (tH T) (c.mono ∅) T.m_many.b) (ae (aE aZ rfl T.B.len aY (ae (h7 T.W (aa 0) T.m_ties.m (nP T) (c.mono ∅) T.m_ties.b) ah)) (ae (aE aZ rfl T.B.len aY (ae (aD T.d_lands (Jy T) c (ae (aa 0) ah)) ah)) ah)))))),?_]
 obtain⟨a,rfl,g,i,d,q⟩:=h;refine#[_,rfl,a,rfl,a,rfl,_,rfl,a,rfl,a,rfl,g,d,λj k=>?_];refine#[_,rfl,a,rfl,g,i,d,λl n=>#[by show 3<=sizeLine;decide,?_]]
 have:=q _ n
 have o:(j.map pairD).length=tc a:=by rw[aI,k.length_eq];rfl
 rw[o];exact this
def Nf:bZ:=λa P=>∃(w:W),a= [.fM w]/\Good w/\1<=w.length/\w.length<=14/\∀n,Kg w n->P (.bl (decide ((w.length:Int)+(n:Int)=(tc w:Int)+2)))
def B6:FnOk P w Z.K mg base b9 5 T.d_is_plane.f T.d_is_plane.fd ["web"] (aX Z Nf):=by
 have a:=tY.nd;refine ba T.d_is_plane.F tY [0,0,0,0] ∅ (λc R h=>by obtain⟨_,rfl,_⟩:=h;rfl) (λl A outer s H E c R b h=>?_)
 have d:=b.units
 refine#[_,(ag (wU (aD T.d_count (Jx T) b (ae (aa 0) ah)) (iB 3 rfl (bF (aR 1 a) (bF (aR 2 a) (bF (aR 3 a) e9)))))
   (aq (aJ (lA (fD d) (aH bL (aa 1) (aa 3)) (aH bL (aa 2) av) (aP _))))),?_]
 obtain⟨e,rfl,g,i,j,q⟩:=h;refine#[_,rfl,e,rfl,g,i,j,λn k=>?_];exists rfl,rfl;exists _,rfl,_,rfl,_,rfl;exact sP (q n k)
variable {P:Program} {w:World} {mg:Str->Option Value} {base:Heap} {Z:DC} (T:Txt Z mg)
def Rs.len{w:W}(g:Good w)(h:Rs w b)(d:Rs w c):b.length=c.length:=by
 rcases h with ⟨e,rfl⟩ | ⟨e,R⟩
 .rcases d with ⟨_,rfl⟩ | ⟨f,_⟩
  .rfl
  .lia
 .rcases d with ⟨f,_⟩ | ⟨_,a⟩
  .lia
  .exact((vY (R.nodup g) (a.nodup g)).mpr λr=>#[R.sub a r,a.sub R r]).length_eq
def js.rounds{w:W}(g:Good w)(h:js w a)(b:a.flatten.Perm (br w)):j5 w (a.map xp):=by
 refine#[λm c=>?_,(qW xq a).trans b];obtain⟨r,f,rfl⟩:=bT.mp c;obtain⟨d,R,i⟩:=h r f;obtain⟨e,j,k,l⟩:=Iq g R i;exact#[e,j,k,l]
variable {P:Program} {w:World} {mg:Str->Option Value} {base:Heap} {Z:DC} (T:Txt Z mg)
def JW:bZ:=λa P=>∃(b:List Int)(k:Nat),a= [.gN b,ao k]/\∀v:Int,P (.int v)
def dS:FnOk P w Z.K mg base b9 1 T.d__law_cell_at.f T.d__law_cell_at.fd ["_law_script","_law_k"] (aX Z JW):=by
 have g:=mS.nd;refine ba T.d__law_cell_at.F mS [0,0] ∅ (λa R h=>by obtain⟨_,_,rfl,_⟩:=h;rfl) (λi A outer s H E a R b h=>?_)
 have j:=b.units
 refine#[_,(ag (bp (aG nN (aa 1) (aE aZ rfl T.B.len aY (ae (aa 0) ah)) (aP _)) (aq (aJ (aB (aa 0) (aa 1)))) aM)
   (aq (aJ av))),?_]
 obtain⟨c,k,rfl,q⟩:=h;exists _,rfl,_,rfl;refine#[_,rfl,bw (λe=>?_) (λe=>?_)]
 .have d:k<c.length:=by
   have:=KF e
   lia
  exact#[_,rfl,_,rfl,_,pz (cM d),q _]
 .exact q 0
def Ni:bZ:=λa P=>∃(i:Int),a= [.int i]/\P (.bl true)
def pS:FnOk P w Z.K mg base b9 1 T.d__law_whole.f T.d__law_whole.fd ["_law_found"] (aX Z Ni):=by
 have c:=qd.nd;refine ba T.d__law_whole.F qd [0] ∅ (λa R h=>by obtain⟨_,rfl,_⟩:=h;rfl) (λd A outer s H E a R b h=>?_)
 have e:=b.units;exists _,(aq (aJ (qE (lB "int" (aa 0) rfl T.B.isinstance rfl T.B.int Hh) (wQ (Hn (lB "bool" (aa 0) rfl T.B.isinstance rfl T.B.bool C4))))));obtain⟨i,rfl,q⟩:=h;exact#[_,rfl,rfl,true,rfl,c9 #[_,rfl,rfl,false,rfl,q]]
def GI:bZ:=λa P=>∃(c k:Int),a= [.int c, .int k]/\(0<=k/\k<1000)/\∀v:Int,P (.int v)
def mod_lt(x:Int):0<=x%2147483629/\x%2147483629<2147483629:=#[acg _ ∅,abJ _ ∅]
def uP:FnOk P w Z.K mg base b9 1 T.d__law_reserve.f T.d__law_reserve.fd ["_law_cell","_law_k"] (aX Z GI):=by
 have a:=mV.nd;refine ba T.d__law_reserve.F mV [0,0,0] ∅ (λb R h=>by obtain⟨_,_,rfl,_⟩:=h;rfl) (λe A outer s H E b R d h=>?_)
 have g:=d.units
 refine#[_,(ag (aO false 2 a (aH bW (aH bL (aH bW (aa 0) av) (aH lI av (aH bL (aa 1) av))) av))
   (aq (aJ (aH bL av (aH bW (aH bL (aH bL (aH lI (aa 2) (aa 2)) (aH lI av (aa 2))) (aH lI av (aa 1))) av))))),?_]
 obtain⟨c,k,rfl,i,q⟩:=h;refine#[_,rfl,(by show(0:Int)<2147483629;decide),_,rfl, .inl #[∅,∅],(by show(0:Int)<2147483629;decide),trivial,?_]
 have:=mod_lt (c%2147483629+48271*(k+1))
 refine#[_,rfl,_,rfl, .inl #[by dsimp only;lia,by dsimp only;lia],_,rfl, .inl #[∅,∅],_,rfl, .inl #[∅,∅],(by show(0:Int)<2147483629;decide),q _]
def Dj(h:t {E with nx:=u E} a):dSeq t u E a:=h
def LR(Ok:Int->Prop)(j:a[i]?\(some (.int d)))(k:Ok d)(l:∀Q:Bool->Prop,(∀b,Q b)->c a Q)(n:∀Q:D->Prop,(∀x:Int,Ok x->Q (.int x))->g (zi f m a) Q)
  (h:∀x:Int,Ok x->E.nx (a.set i (some (.int x)))):vy c (Dk f m i g) pD E a:=by
 refine l _ λb=>bw (λ_=>n _ λx o=>#[?_,h x o]) (λ_=>?_)
 .cases m
  .trivial
  .rfl
 .have:=h d k
  obtain⟨p,e⟩:=eC.mp j;rw[<-e,abj] at this;exact this
def aS(l:List Int):List D:=l.map D.int
def rX(l:List Int):(aS l).length=l.length:=aI _
def vJ(l:List Int)(x:Int):aS (l++ [x])=aS l++ [.int x]:=cW ..
def pL{l:List Int}{p:Nat}(h:p<l.length):eG (aS l) (p:Int)\(.int (l.getD p 0)):=gr (by unfold aS;rw[cG,bS,cM h];rfl)
def M8:bZ:=λb P=>∃(c:List Int)(k n:Nat),b= [.gN c,ao k,ao n]/\k<=10/\n<=14/\∀a:List Int,a.length=n->P (.lst (aS a))
def kG:FnOk P w Z.K mg base b9 2 T.d__law_draws.f T.d__law_draws.fd ["_law_script","_law_at","_law_many"] (aX Z M8):=by
 have b:=p9.nd;refine ba T.d__law_draws.F p9 [0,0,0,0,1,0,0,0] ∅ (λp R h=>by obtain⟨_,_,_,rfl,_⟩:=h;rfl) (λx A outer s H E p R g h=>?_)
 have r:=g.units
 refine#[_,(ag (aO false 3 b (aD T.d__law_cell_at (dS T) g (ae (aa 0) (ae (aa 1) ah))))
   (ag (cU 4 b (gX ah))
   (ag (bp (aG (fD r) (aH bW (aD T.d__law_cell_at (dS T) g (ae (aa 0) (ae av ah))) av) av (aP _)) (ag (aO false 5 b (aa 3))
   (ag (gP rfl FS (eQ rfl T.B.range (ae (aa 2) ah)) (aR 6 b) (ag (bp (aG nN (aa 3) av (aP _)) (aq (aO false 3 b (aD T.d__law_reserve (uP T) g (ae (aa 5) (ae (aH bL (aH lI av (aa 1)) (aa 6)) ah))))) aM)
   (ag (gY false 4 (aH bW (aa 3) (aH HK av av)))
   (aq (aO false 3 b (aH gB (aa 3) (aH HK av av)))))))
   (aq (aJ (aa 4))))) aM)
   (ag (aO false 7 b (aH bW (aa 3) av))
   (ag (gP rfl FS (eQ rfl T.B.range (ae (aa 2) ah)) (aR 6 b) (ag (aO false 7 b (aH bW (aH bL (aH bL (aH bL (aH lI (aa 7) (aa 7)) (aH lI av (aa 7))) (aH lI av (aa 6))) av) av))
   (aq (gY false 4 (aH gB (aa 7) av)))))
   (aq (aJ (aa 4)))))))),?_]
 obtain⟨i,k,n,rfl,z,C,q⟩:=h;refine#[_,rfl,_,rfl,i,k,rfl,λc=>#[trivial,?_]];refine#[by show 0<=sizeLine;decide,?_]
 refine#[_,rfl,i,0,rfl,λG=>#[(by show(0:Int)<2;decide),Dx #[_,rfl,bw (λ_=>?_) (λ_=>?_)]]]
 .refine#[_,rfl,trivial,?_]
  refine#[_,rfl,#[by show-(2^62)<=(n:Int);lia,by show(n:Int)<2^62;lia],?_]
  rw[show((n:Int)).toNat=n by lia]
  refine fP (λj l=>∃(y:Int)(a:List Int)(d:Option D),l= [some (.gN i),some (ao k),some (ao n),some (.int y),some (.lst (aS a)),some (.int c),d,none]/\a.length=j) #[c,[],_,rfl,rfl] ?_ ?_
  .rintro j _ t ⟨y,a,d,rfl,e⟩ A m
   refine Dj ?_;refine LR (λ_=>True) rfl trivial (λQ o=>#[_,rfl,_,rfl,o _]) (λQ o=>?_) λI _=>?_
   .exact#[_,rfl,_,rfl, .inl #[∅,∅],_,rfl,_,_,rfl,#[(),()],λv=>o _ trivial]
   refine#[_,rfl,_,rfl,#[∅,∅],(by show(0:Int)<10^9;decide),trivial,cL (by rw[rX];lia),?_]
   refine#[_,rfl,#[∅,∅],#[∅,∅],trivial,?_]
   exact m _ #[_,a++ [_],some (ao j),by rw[vJ];rfl,by rw[cD,e];rfl]
  .rintro _ ⟨y,a,d,rfl,e⟩
   exact#[_,rfl,q a e]
 .refine#[_,rfl,(by show(0:Int)<2147483629;decide),trivial,?_]
  refine#[_,rfl,#[by show-(2^62)<=(n:Int);lia,by show(n:Int)<2^62;lia],?_]
  rw[show((n:Int)).toNat=n by lia]
  refine fP (λj l=>∃(y:Int)(a:List Int)(d:Option D),l= [some (.gN i),some (ao k),some (ao n),some (.int c),some (.lst (aS a)),none,d,some (.int y)]/\a.length=j/\0<=y/\y<2147483629) #[_,[],_,rfl,rfl,mod_lt c] ?_ ?_
  .rintro j _ t ⟨y,a,d,rfl,e,u⟩ A m
   refine#[_,rfl,_,rfl, .inl #[(),()],_,rfl, .inl #[∅,∅],_,rfl, .inl #[∅,∅],(by show(0:Int)<2147483629;decide),trivial,?_]
   refine#[_,rfl,_,rfl,#[∅,∅],trivial,cL (by rw[rX];lia),?_]
   exact m _ #[_,a++ [_],some (ao j),by rw[vJ];rfl,by rw[cD,e];rfl,mod_lt _]
  .rintro _ ⟨y,a,d,rfl,e,u⟩
   exact#[_,rfl,q a e]
variable {P:Program} {w:World} {mg:Str->Option Value} {base:Heap} {Z:DC} (T:Txt Z mg)
structure k8 (w:W) (r:List Nat):Prop where
 ne:0<r.length
 sz:r.length<=196
 lt:∀k,k<r.length->r.getD k 0<w.length
 tie:2<=w.length->∀k,k<r.length->r.getD ((k+(r.length-1))%r.length) 0∈row w (r.getD k 0)
structure Cl (w:W) (ds:List (Nat×Nat)):Prop where
 nd:ds.Nodup
 dart:∀e∈ds,aU w e
 step:∀e,aU w e->(e∈ds↔fh w e∈ds)
theorem Cl.bu{w:W}(c:Cl w a)(g:Good w){d:Nat×Nat}(b:aU w d):∀k,Wb.bu w k d∈a↔d∈a
 |0=>aaX
 |k+1=>(c.step _ (cN g b k)).symm.trans (c.bu g b k)
def cO{w:W}:e∈walk w d k↔∃i,i<k/\bu w i d=e:=by
 unfold walk;rw[bT];exact#[λ#[i,a,e]=>#[i,cE.mp a,e],λ#[i,a,e]=>#[i,cE.mpr a,e]]
def Cl.len{w:W}(c:Cl w a)(g:Good w)(b:w.length<=14):a.length<=196:=by
 have f:=kB g;have h:w.length*w.length<=14*14:=zv b b
 have:=aF c.nd λe d=>bg.mpr (c.dart e d)
 lia
def Cl.nodup{w:W}(c:Cl w e)(g:Good w)(f:aU w d)(l:0<k->d∉e)(m:∀j,0<j->j<k->Wb.bu w j d≠d):(e++walk w d k).Nodup:=by
 rw[eE];refine#[c.nd,qp g f m,λa h b n z=>?_];obtain⟨i,o,rfl⟩:=cO.mp n;rw[z] at h;exact l () ((c.bu g f i).mp h)
def Cl.back{w:W}(c:Cl w a)(g:Good w)(b:aU w d)(o:0<k)(l:d∉a)(m:∀j,0<j->j<k->Wb.bu w j d≠d)(h:Wb.bu w k d∈a++walk w d k):Wb.bu w k d=d:=by
 rcases b6.mp h with h|h
 .exact absurd ((c.bu g b k).mp h) l
 .obtain⟨i,p,e⟩:=cO.mp h
  have n:Wb.bu w i d=Wb.bu w i (Wb.bu w (k-i) d):=by rw[<-fb (k-i) i,show i+(k-i)=k by lia];exact e
  have f:=(tx g b (cN g b _) i n).symm
  by_cases z:i=0
  .subst z;exact f
  .exact absurd f (m (k-i) () ())
def Cl.grow{w:W}{f:List (Nat×Nat)}(c:Cl w f)(g:Good w)(b:aU w d)(l:0<k)(n:d∉f)(o:∀j,0<j->j<k->Wb.bu w j d≠d)(e:Wb.bu w k d=d):Cl w (f++walk w d k):=by
 refine#[c.nodup g b (λ_=>n) o,λx a=>?_,λx a=>?_]
 .rcases b6.mp a with h|h
  .exact c.dart x h
  .exact oh g b x h
 .rw[b6,b6,<-c.step x a]
  refine or_congr aaX #[λh=>?_,λh=>?_]
  .obtain⟨i,p,rfl⟩:=cO.mp h
   by_cases z:i+1=k
   .exact cO.mpr #[0,l,by show d=Wb.bu w (i+1) d;rw[z,e]]
   .exact cO.mpr #[i+1,(),rfl]
  .obtain⟨i,p,z⟩:=cO.mp h
   cases i with
   |zero=>
    obtain⟨m,rfl⟩:∃m,k=m+1:=#[k-1,()]
    refine cO.mpr #[m,(),yB g (cN g b m) a ?_]
    exact e.trans z
   |succ i=>exact cO.mpr #[i,(),yB g (cN g b i) a z]
def uX{w:W}(h:i<k):((walk w d k).map (·.1)).getD i 0=(bu w i d).1:=by
 unfold walk;rw[b7,bS,cG,qx h];rfl
def LY{w:W}(g:Good w)(c:w.length<=14)(b:aU w d)(f:0<k)(h:∀j,0<j->j<k->Wb.bu w j d≠d)(e:Wb.bu w k d=d):k8 w ((walk w d k).map (·.1)):=by
 have n:=kB g;have o:w.length*w.length<=14*14:=zv c c;have p:=zk g b h;have l:((walk w d k).map (·.1)).length=k:=by rw[aI,dU]
 have st:∀i,(bu w i d).1∈row w (bu w (i+1) d).1:=λi=>g.sym _ _ (cN g b i);refine#[(),(),λi a=>?_,λ_ i a=>?_]
 .rw[l] at a
  rw[uX a];exact bO (cN g b i)
 .rw[l] at a ⊢
  rw[uX a,uX (qB _ f)];cases i with
  |zero=>
   obtain⟨m,rfl⟩:∃m,k=m+1:=#[k-1,()]
   have:=st m
   rw[e] at this;rw[uj,iu ()];exact this
  |succ i=>
   rw[show i+1+(k-1)=i+k by lia,aa4,iu ()];exact st i
def yM{w:W}(g:Good w)(h:w.length=1):w= [[]]:=by
 match w,h with
 | [r],_=>
  cases r with
  |nil=>rfl
  |cons a r=>
   have m:a∈row [a::r] 0:=bP
   have:=g.rng 0 a m
   have e:a=0:=by simpa using this
   subst e;exact absurd m (g.irr 0)
def Fz{w:W}(g:Good w)(h:2<=w.length):0<(row w 0).length:=by
 apply Nat.pos_of_ne_zero;intro z;have z:row w 0= []:=aaZ.mp z
 have:=vt g (S:=λp=>p=0) rfl (λp q b a=>by subst b;rw[z] at a;cases a) 1 ()
 lia
def Rl(w:W)(b:List (Nat×Nat))(e:List (List Nat))(c:Nat×Nat->Prop):Prop:=∃a:List (List (Nat×Nat)),b=a.flatten/\e=Ls a/\js w a/\(∀r∈e,k8 w r)/\∀d,c d->d∈b
theorem Rl.imp{w:W}{b:List (List Nat)}(h:Rl w a b c)(k:∀d,e d->c d\/d∈a):Rl w a b e:=by
 obtain⟨f,g,i,j,l,m⟩:=h;exact#[f,g,i,j,l,λd n=>(k d n).elim (m d) id]
def JT{w:W}(a:0<k)(e:bu w k d=d)(b:∀j,0<j->j<k->bu w j d≠d):fA w d (walk w d k):=#[k,a,e,b,rfl]
def Cn(w:W)(c:Nat):Prop:=∃a,Rs w a/\a.length=c
def Rl.cn{w:W}(g:Good w)(f:2<=w.length)(C:Cl w b)(h:Rl w b c (aU w)):Cn w c.length:=by
 obtain⟨e,rfl,rfl,i,_,all⟩:=h;have j:e.flatten.Perm (br w):=(vY C.nd (cB g)).mpr λd=>#[λa=>bg.mpr (C.dart d a),λa=>all d (bg.mp a)];exact#[e.map xp, .inr #[f,js.rounds g i j],by unfold Ls;rw[aI,aI]]
def ES:bZ:=λc P=>∃(w:W),c= [aL w]/\Good w/\1<=w.length/\w.length<=14/\∀a:List (List Nat),0<a.length->a.length<=196->(∀r∈a,k8 w r)->Cn w a.length->(2<=w.length->∀r∈a,∃d b,fA w d b/\aU w d/\r=b.map (·.1))->P (.lst (a.map az))
theorem pR:FnOk P w Z.K mg base b9 1 T.d__law_lands.f T.d__law_lands.fd ["_law_turns"] (aX Z ES):=by
 have u:=qb.nd;refine ba T.d__law_lands.F qb [0,98,1,0,0,1,0,0] ∅ (λl R h=>by obtain⟨_,rfl,_⟩:=h;rfl) (λbE A outer s H E l R v h=>?_)
 have hu:=v.units
 refine#[_,(ag (bp (aG (fD hu) (aa 0) (c7 (ae (c7 ah) ah)) (aP _)) (aq (aJ (c7 (ae (c7 (ae av ah)) ah)))) aM)
   (ag (K7 1 u)
   (ag (cU 2 u (gX ah))
   (ag (gP rfl FS (eQ rfl T.B.range (ae (aE aZ rfl T.B.len aY (ae (aa 0) ah)) ah)) (aR 3 u) (aq (cT rfl FS (bA (aB (aa 0) (aa 3))) (aR 4 u) (ag (cU 5 u (gX ah))
   (ag (aO false 6 u (cK (ae (aa 3) (ae (aa 4) ah))))
   (ag (mF FS (aG (Gm hu) (aa 6) (aa 1) (by with_unfolding_all rfl)) (ag (Ld 1 hu (aa 6) jb)
   (ag (gY false 5 (aB (aa 6) av))
   (ag (aO false 7 u (aB (aa 0) (aB (aa 6) av)))
   (aq (aO false 6 u (cK (ae (aB (aa 6) av) (ae (aB (aa 7) (aH bW (aH bL (qF (aa 7) (aB (aa 6) av)) av) (aE aZ rfl T.B.len aY (ae (aa 7) ah)))) ah)))))))))
   (aq (bp (aG (f9 hu) (aa 5) (c7 ah) (aP _)) (aq (K6 2 5)) aM))))))))
   (aq (aJ (aa 2))))))),?_]
 obtain⟨a,rfl,g,h1,X,q⟩:=h;have lw:(a.map az).length=a.length:=aI _;refine#[_,rfl,by show 0<=sizeLine;decide,by show 1<=sizeLine;decide,?_]
 refine(?_:sO (aL a) (aL [[]]) _);refine KG #[_,rfl,bw (λe=>?_) (λe=>?_)]
 .obtain rfl:a= [[]]:=KF e
  refine#[by show 1<=sizeLine;decide,by show 1<=sizeLine;decide,?_]
  refine q [[0]] ∅ ∅ (λr v=>?_) #[[[(0,0)]], .inl #[rfl,rfl],rfl] (λz=>absurd z ∅)
  rw[cR] at v;subst v;refine#[∅,∅,λk G=>?_,λh=>absurd h ∅]
  have:k=0:=by simpa using G
  subst this;decide
 have n2:2<=a.length:=FM λz=>M2 e (yM g ())
 have r0:=Fz g n2;refine#[by show 0<=sizeLine;decide,?_]
 refine#[_,rfl,#[(),by show((a.map az).length:Int)<2^62;lia],?_]
 rw[show(((a.map az).length:Int)).toNat=a.length by lia]
 refine fP (λj Y=>∃(l:List (Nat×Nat))(o:List FV)(n:List (List Nat))(o3 N O Q y:Option D),Y= [some (aL a),some (.x (.tL (l.map zz) o)),some (.lst (n.map az)),o3,N,O,Q,y]/\Cl a l/\(0<j->0<l.length)/\(0<l.length->0<n.length)/\n.length<=l.length/\Rl a l n λd=>aU a d/\d.1<j)
  #[[],[],[],_,_,_,_,_,rfl,#[iU,(λe h=>nomatch h),λe _=>#[(λh=>nomatch h),λh=>nomatch h]],(λh=>by lia),id,bo _,[],rfl,rfl,(λr h=>nomatch h),(λr h=>nomatch h),λd h=>absurd h.2 ()] ?_ ?_
 .rintro p _ hp ⟨l,o,n,o3,N,O,Q,y,rfl,C,S,J,U,ok⟩ A hA
  exists _,rfl,_,rfl,_,dh hp
  refine bU (λm Y=>∃(l:List (Nat×Nat))(o:List FV)(n:List (List Nat))(N O Q y:Option D),Y= [some (aL a),some (.x (.tL (l.map zz) o)),some (.lst (n.map az)),some (ao p),N,O,Q,y]/\Cl a l/\(0<p\/0<m->0<l.length)/\(0<l.length->0<n.length)/\n.length<=l.length/\Rl a l n λd=>aU a d/\(d.1<p\/(d.1=p/\d.2∈(row a p).take m)))
   #[l,o,n,_,_,_,_,rfl,C,(λh=>h.elim S λh=>by lia),J,U,ok.imp λd h=> .inl #[h.1,h.2.elim id λz=>by simp at z]] ?_ ?_
  .clear S J U ok C
   rintro m _ _ t ⟨l,o,n,N,O,Q,y,rfl,C,S,J,U,ok⟩ A hA;obtain⟨b,hq,rfl⟩:=cg t;have M:aU a (p,b):=dH hq;have W7:(row a p).take (m+1)=(row a p).take m++ [b]:=by rw[qy,hq];rfl
   have c1:=kB g;have c2:a.length*a.length<=14*14:=zv X X;have cl:=C.len g X;refine#[by show 0<=sizeLine;decide,?_]
   refine#[_,rfl,_,rfl,by show 2<=sizeLine;decide,trivial,?_]
   refine kU (λm Y=>∃(k:Nat)(o:List FV)(y:Option D),Y= [some (aL a),some (.x (.tL ((l++walk a (p,b) k).map zz) o)),some (.lst (n.map az)),some (ao p),some (ao b),some (az ((walk a (p,b) k).map (·.1))),some (pairD (bu a k (p,b))),y]/\m+k=200/\(0<k->(p,b)∉l)/\(∀j,0<j->j<k->bu a j (p,b)≠(p,b))) 200 #[0,o,_,by rw[show walk a (p,b) 0= [] from rfl,jH];rfl,rfl,(λh=>by lia),λj h1 h2=>by lia] ?_
   rintro m _ ⟨k,o,y,rfl,mk,u,G⟩;have kl:=zk g M G;have nn:=C.nodup g M u G
   have nl:(l++walk a (p,b) k).length<=196:=by
    have:=aF nn λe he=>bg.mpr ((b6.mp he).elim (C.dart e) (oh g M e))
    lia
   have dk:=cN g M k;have hs:=g.sym _ _ dk;exists _,rfl,_,rfl,zz (bu a k (p,b)),_,_,rfl,rfl,_,rfl;refine(?_:if (if true=true then !decide (zz (bu a k (p,b))∈(l++walk a (p,b) k).map zz) else _)=true then _ else _);rw[ir rfl,show decide (zz (bu a k (p,b))∈(l++walk a (p,b) k).map zz)=decide (bu a k (p,b)∈l++walk a (p,b) k) from aaH.mpr xf];refine bw (λc=>?_) (λc=>?_)
   .have c:bu a k (p,b)∉l++walk a (p,b) k:=by simpa using c
    have eS:=bO hs;have rln:=dG g (bu a k (p,b)).2;have lr:((row a (bu a k (p,b)).2).map ao).length=(row a (bu a k (p,b)).2).length:=aI _;have pos:0<(row a (bu a k (p,b)).2).length:=rG hs;have e0:(0:Int)<(((row a (bu a k (p,b)).2).map ao).length:Int):=by rw[lr];lia
    refine#[.bl true,_,_,rfl,rfl,_,rfl,zz _,rfl,(λz=>c (xf.mp z)),by rw[aI];lia,?_]
    refine#[_,rfl,_,rfl,_,rfl,trivial,cL (by rw[aI,aI,dU];lia),?_]
    exists _,rfl,_,rfl,_,rfl,_,dh eS,trivial;have fx:=gy hs;exists _,rfl,_,rfl,_,rfl,_,rfl,_,rfl,_,rfl,_,rfl,rfl,cY _,_,_,fx.1,fx.2.1,fx.2.2;exists _,rfl,e0;have em:(((row a (bu a k (p,b)).2).idxOf (bu a k (p,b)).1:Nat):Int)+1=(((row a (bu a k (p,b)).2).idxOf (bu a k (p,b)).1+1:Nat):Int):=()
    have et:((((row a (bu a k (p,b)).2).idxOf (bu a k (p,b)).1:Nat):Int)+1)%(((row a (bu a k (p,b)).2).map ao).length:Int)=((((row a (bu a k (p,b)).2).idxOf (bu a k (p,b)).1+1)%(row a (bu a k (p,b)).2).length:Nat):Int):=by rw[lr,em,Int.natCast_emod]
    refine#[ao (aW (row a (bu a k (p,b)).2) (bu a k (p,b)).1),?_,by show 2<=sizeLine;decide,trivial,m-1,(),k+1,o++ [.bl true],some (az (row a (bu a k (p,b)).2)),?_,(),λ_=>?_,λj h1 h2=>?_]
    .show eG ((row a (bu a k (p,b)).2).map ao) ((λi j=>i%j) _ _)=_
     dsimp only;rw[et];exact iI (qB _ pos)
    .have e1:(l++walk a (p,b) (k+1)).map zz=(l++walk a (p,b) k).map zz++ [zz (bu a k (p,b))]:=by rw[sD,<-i5,cW];rfl
     have e2:az ((walk a (p,b) (k+1)).map (·.1))= .lst (((walk a (p,b) k).map (·.1)).map ao++ [ao (bu a k (p,b)).1]):=by unfold az;rw[sD,cW,cW];rfl
     rw[e1,e2];rfl
    .by_cases z:0<k
     .exact u z
     .obtain rfl:k=0:=()
      exact λh=>c (fi _ h)
    .by_cases z:j=k
     .subst z
      exact λh=>c (di _ (cO.mpr #[0,h1,h.symm]))
     .exact G j h1 ()
   .have c:bu a k (p,b)∈l++walk a (p,b) k:=KF (by simpa only[Bool.not_eq_false'] using c)
    refine#[_,rfl,by show 0<=sizeLine;decide,?_]
    refine(?_:rR (az _) (az []) _);refine Di #[_,rfl,bw (λe=>?_) (λe=>?_)]
    .have I:0<k:=Nat.pos_of_ne_zero λz=>by subst z;exact absurd e (by simp[walk])
     have bk:=C.back g M I (u I) G c;have C2:=C.grow g M I (u I) G bk;have L:=LY g X M I G bk;refine#[_,_,rfl,rfl,cL (by rw[aI];lia),?_]
     refine hA _ #[l++walk a (p,b) k,o,n++ [(walk a (p,b) k).map (·.1)],some (ao b),none,some (pairD (bu a k (p,b))),y,?_,C2,λ_=>?_,λ_=>?_,?_,?_]
     .rw[cW (f:=az)];rfl
     .rw[cD,dU];lia
     .rw[cD];exact Nat.succ_pos _
     .rw[cD,cD,dU];simp only[ue];lia
     .obtain⟨wI,d1,d2,d3,d4,d5⟩:=ok
      refine#[wI++ [walk a (p,b) k],?_,?_,λr v=>?_,λr v=>?_,λd t=>?_]
      .rw[d1,wb];simp
      .rw[d2];unfold Ls;rw[cW];rfl
      .rcases b6.mp v with h|h
       .exact d3 r h
       .rw[cR] at h;rw[h]
        exact#[(p,b),JT I bk G,M]
      .rcases b6.mp v with h|h
       .exact d4 r h
       .rw[cR] at h;rw[h];exact L
      .rw[W7] at t
       by_cases z:d=(p,b)
       .rw[z];exact di _ (cO.mpr #[0,I,rfl])
       .refine fi _ (d5 d #[t.1,t.2.imp id λh=>#[h.1,(b6.mp h.2).elim id λh2=>absurd (aal h.1 (cR.mp h2)) z]])
    .have I:k=0:=by
      have e:(walk a (p,b) k).map (·.1)= []:=KF (by simpa only[Bool.not_eq_false'] using e)
      have:=GM bV e
      rwa [aI,dU] at this
     subst I;have e0:l++walk a (p,b) 0=l:=jH _;rw[e0] at c;refine hA _ #[l,o,n,_,_,_,_,by rw[e0],C,λ_=>rG c,J,U,ok.imp λd t=>?_]
     rw[W7] at t
     by_cases z:d=(p,b)
     .rw[z];exact .inr c
     .exact .inl #[t.1,t.2.imp id λh=>#[h.1,(b6.mp h.2).elim id λh2=>absurd (aal h.1 (cR.mp h2)) z]]
  .rintro _ ⟨l,o,n,N,O,Q,y,rfl,C,S,J,U,ok⟩
   refine hA _ #[l,o,n,_,_,_,_,_,rfl,C,λ_=>S ?_,J,U,ok.imp λd t=> .inl #[t.1,?_]]
   rotate_left
   .rw[aI,oJ]
    have:=t.2
    by_cases z:d.1=p
    .exact .inr #[z,z▸t.1]
    .left;lia
   by_cases z:p=0
   .subst z;right;rw[aI];exact r0
   .left;lia
 .rintro _ ⟨l,o,n,o3,N,O,Q,y,rfl,C,S,J,U,ok⟩
  have:=C.len g X
  obtain⟨wI,d1,d2,d3,d4,d5⟩:=ok
  exact#[_,rfl,q n (J (S ())) () d4 (Rl.cn g n2 C #[wI,d1,d2,d3,d4,λd t=>d5 d #[t,bO t]]) λ_ r v=>by
   rw[d2] at v;obtain⟨rd,VA,rfl⟩:=bT.mp v;obtain⟨d,Rd,dd⟩:=d3 rd VA;exact#[d,rd,Rd,dd,rfl]]
variable {P:Program} {w:World} {mg:Str->Option Value} {base:Heap} {Z:DC} (T:Txt Z mg)
structure vj (r ks:List Nat):Prop where
 ne:0<ks.length
 lt:∀k∈ks,k<r.length
 nd:(ks.map λk=>r.getD k 0).Nodup
 inc:ks.Pairwise (·<·)
def J3:bZ:=λb P=>∃(r:List Nat)(n:Int),b= [az r, .int n]/\0<r.length/\r.length<=196/\∀a,vj r a->P (az a)
def wD:FnOk P w Z.K mg base b9 1 T.d__law_places.f T.d__law_places.fd ["_law_land","_law_number"] (aX Z J3):=by
 have p:=oz.nd;refine ba T.d__law_places.F oz [0,0,0,1,0] ∅ (λI R h=>by obtain⟨_,_,rfl,_⟩:=h;rfl) (λQ A outer s H E I R J h=>?_)
 have C:=J.units
 refine#[_,(ag (aO false 2 p (aa 1))
   (ag (cU 3 p (gX ah))
   (ag (gP rfl FS (eQ rfl T.B.range (ae (aE aZ rfl T.B.len aY (ae (aa 0) ah)) ah)) (aR 4 p) (ag (bp (DW.dt (lC (aG (fD C) (aH bW (aa 1) av) av (aP _)) (jy (aG fQ (aB (aa 0) (aa 4)) (jL (NC:= ["_law_at","_law_land"]) (src:= [none,some 0]) rfl (kA (aw iR)) #[rfl,rfl,trivial] (bA (aa 3)) (λ_ _ _=>(bI 0 (show(["_law_at","_law_land"]:List Str).Nodup from by decide+kernel))) (λ_ _ _=>dF) (λ_ _ _=>(aB (aa 1) (aa 0)))) (by with_unfolding_all rfl))))) (aq (gY false 3 (aa 4))) aM)
   (aq (aO false 1 p (aH gB (aa 1) av)))))
   (ag (bp (aG (fD C) (aa 3) (c7 ah) (aP _)) (aq (aJ (c7 (ae (aH bW (aa 2) (aE aZ rfl T.B.len aY (ae (aa 0) ah))) ah)))) aM)
   (aq (aJ (aa 3))))))),?_]
 obtain⟨r,n,rfl,S,L,q⟩:=h;have U:(r.map ao).length=r.length:=aI _;exists _,rfl,trivial;refine#[by show 0<=sizeLine;decide,?_]
 refine#[_,rfl,#[(),by show((r.map ao).length:Int)<2^62;lia],?_]
 rw[show(((r.map ao).length:Int)).toNat=r.length by lia]
 refine fP (λj ρ=>∃(y:Int)(d:List Nat)(u:Option D),ρ= [some (az r),some (.int y),some (.int n),some (az d),u]/\d.length<=j/\(∀k∈d,k<r.length)/\(d.map λk=>r.getD k 0).Nodup/\d.Pairwise (·<·)/\∀k∈d,k<j) #[n,[],_,rfl,bo _,(λk h=>nomatch h),iU, .nil,λk h=>nomatch h] ?_ ?_
 .rintro j _ G ⟨y,d,u,rfl,M,lt,i,l,t⟩ A v
  refine#[_,rfl,(by show(0:Int)<2;decide),Dx #[_,rfl,bw (λ_=>?_) (λ_=>bK #[_,rfl,#[∅,∅],trivial,v _ #[_,d,some (ao j),rfl,(),lt,i,l,λk g=>by have:=t k g;lia]])]]
  exists _,rfl,_,rfl,_,iI G,_,rfl;refine gz (ρ:= [none,some (az r)]) ao (λk=>ao (r.getD k 0)) d _ (λk g Y N=>?_) rfl (small ()) λX=>?_
  .exact#[_,rfl,_,rfl,_,iI (lt k g),N]
  have e:(d.map λk=>ao (r.getD k 0))=(d.map λk=>r.getD k 0).map ao:=by rw[b7];rfl
  rw[e];exists rfl,cY _,_,rfl;refine(?_:if (if true=true then !inD (ao (r.getD j 0)) ((d.map λk=>r.getD k 0).map ao) else _)=true then _ else _);rw[ir rfl,jz];refine bw (λc=>?_) (λc=>#[_,rfl,#[∅,∅],trivial,v _ #[_,d,some (ao j),rfl,(),lt,i,l,λk g=>by have:=t k g;lia]])
  have c:r.getD j 0∉d.map λk=>r.getD k 0:=M2 (by simpa only[abU] using c)
  refine#[_,rfl,_,rfl,trivial,cL (by rw[aI];lia),?_]
  refine#[_,rfl,#[∅,∅],trivial,v _ #[y / 2,d++ [j],some (ao j),?_,?_,λk g=>?_,?_,abq.mpr #[l,acb ..,λa x b o=>by rw[cR.mp o];exact t a x],λk g=>?_]]
  .unfold az;rw[cW];rfl
  .rw[cD];simp only[ue];lia
  .rcases b6.mp g with h|h
   .exact lt k h
   .rw[cR] at h;rw[h];exact G
  .rw[cW,eE]
   refine#[i,by simp,λa x b o z=>c ?_]
   have o:b=r.getD j 0:=by simpa using o
   rw[<-o,<-z];exact x
  .rcases b6.mp g with h|h
   .have:=t k h;lia
   .rw[cR.mp h];lia
 .rintro _ ⟨y,d,u,rfl,M,lt,i,l,_⟩
  refine#[_,rfl,by show 0<=sizeLine;decide,?_]
  refine(?_:sO (az d) (az []) _);refine KD #[_,rfl,bw (λe=>?_) (λe=>?_)]
  .have m:=jd n ((r.map ao).length:Int) ()
   refine#[_,rfl,_,rfl,(by show(0:Int)<((r.map ao).length:Int);lia),by show 1<=sizeLine;decide,?_]
   have:=q [(n%((r.map ao).length:Int)).toNat] #[Nat.succ_pos _,λk g=>by rw[cR] at g;lia,by simp,acb ..]
   have O:az [(n%((r.map ao).length:Int)).toNat]= .lst [.int (n%((r.map ao).length:Int))]:=by
    show D.lst [.int (((n%((r.map ao).length:Int)).toNat:Nat):Int)]=_;rw[show(((n%((r.map ao).length:Int)).toNat:Nat):Int)=n%((r.map ao).length:Int) by lia]
   rw[O] at this;exact this
  .have e:d≠ []:=M2 e
   exact#[_,rfl,q d #[wa.mpr e,lt,i,l]]
variable {P:Program} {w:World} {mg:Str->Option Value} {base:Heap} {Z:DC} (T:Txt Z mg)
def FF{w v:W}(g:Good w){c:List Nat}(ne:0<c.length)(lt:∀p∈c,p<w.length)(len:v.length=w.length+1)(l:(row v w.length).Nodup)(last:∀x,x∈row v w.length↔x∈c)(nod:∀p,p<w.length->(row v p).Nodup)(mem:∀p,p<w.length->∀q,q∈row v p↔q∈row w p\/(q=w.length/\p∈c)):Good v:=by
 have m:w.length∉c:=λh=>qz _ (lt _ h)
 have f:∀{p q},q∈row v p->(p<w.length/\(q∈row w p\/(q=w.length/\p∈c)))\/(p=w.length/\q∈c):=λ {p q} h=>by
  have:=bO h
  by_cases z:p=w.length
  .subst z;exact .inr #[rfl,(last q).mp h]
  .have:p<w.length:=()
   exact .inl #[this,(mem p this q).mp h]
 have j:∀{a b},Reach w a b->Reach v a b:=λ {a b} h=>by
  induction h with
  |refl=>exact .refl _
  |step _ k n=>exact .step n ((mem _ (bO k) _).mpr (.inl k))
 refine#[λp q h=>?_,λp h=>?_,λp=>?_,λp q h=>?_,λp o=>?_]
 .rcases f h with ⟨_,h| ⟨h,_⟩⟩ | ⟨_,h⟩
  .have:=g.rng p q h;lia
  .lia
  .have:=lt q h;lia
 .rcases f h with ⟨_,h| ⟨_,h⟩⟩ | ⟨e,h⟩
  .exact g.irr p h
  .have:=lt p h;lia
  .subst e;exact m h
 .by_cases z:p<w.length
  .exact nod p z
  .by_cases e:p=w.length
   .subst e;exact l
   .have:row v p= []:=abw.mpr λq h=>by have:=bO h;lia
    rw[this];exact iU
 .rcases f h with ⟨o,d| ⟨e,d⟩⟩ | ⟨e,d⟩
  .have s:=g.sym p q d
   exact(mem q (bO s) p).mpr (.inl s)
  .subst e;exact(last p).mpr d
  .subst e;exact(mem q (lt q d) _).mpr (.inr #[rfl,d])
 .by_cases z:p<w.length
  .exact j (g.con p z)
  .obtain rfl:p=w.length:=()
   obtain⟨x,i⟩:=List.exists_mem_of_length_pos ne;exact .step (j (g.con x (lt x i))) ((mem x (lt x i) _).mpr (.inr #[rfl,i]))
def LQ{x0:Int}(B:Prop)(Ok:Int->Prop)(h:a[i]?\(some (.int x0)))(j:¬B->Ok x0)(k:∀Q:Bool->Prop,(B->Q true)->(¬B->Q false)->c a Q)(l:B->∀Q:D->Prop,(∀x:Int,Ok x->Q (.int x))->f (zi d m a) Q)
  (g:∀x:Int,Ok x->E.nx (a.set i (some (.int x)))):vy c (Dk d m i f) pD E a:=by
 refine k _ (λb=>c9 (l b _ λx n=>#[?_,g x n])) (λb=>bK ?_)
 .cases m
  .trivial
  .rfl
 .have:=g x0 (j b)
  obtain⟨o,e⟩:=eC.mp h;rw[<-e,abj] at this;exact this
def JK{r:List Nat}(h:k<r.length):eG (r.map ao) ((k:Int)-1)\(ao (r.getD ((k+(r.length-1))%r.length) 0)):=by
 cases k with
 |zero=>
  rw[uj,iu ()]
  refine Hg (j:=r.length-1) (n:=r.length) (aI _) ?_ ?_
  .unfold iw
   rw[mo (),ir ()]
   exact GM some ()
  .rw[cG,bS,cM (by lia:r.length-1<r.length)];rfl
 |succ k=>
  rw[show k+1+(r.length-1)=k+r.length by lia,aa4,iu (),show((k+1:Nat):Int)-1=(k:Int) by lia]
  exact iI ()
def LJ(w:W)(r:List Nat)(k:Nat):Nat:=if row w (r.getD k 0)= [] then 0 else(row w (r.getD k 0)).idxOf (r.getD ((k+(r.length-1))%r.length) 0)+1
structure Ba (w v:W) (r ks:List Nat):Prop where
 len:v.length=w.length+1
 out:∀p,p<w.length->p∉(ks.map λk=>r.getD k 0)->row v p=row w p
 at_:∀k∈ks,row v (r.getD k 0)=ins (row w (r.getD k 0)) (LJ w r k) w.length
 last:row v w.length=(ks.map λk=>r.getD k 0).reverse
def EN:bZ:=λb P=>∃(w:W)(r a:List Nat),b= [aL w,az r,az a]/\Good w/\1<=w.length/\w.length<=13/\k8 w r/\vj r a/\∀v,Good v->v.length=w.length+1->Ba w v r a->P (aL v)
theorem pQ:FnOk P w Z.K mg base b9 1 T.d__law_grown.f T.d__law_grown.fd ["_law_turns","_law_land","_law_places_here"] (aX Z EN):=by
 have G:=qa.nd;refine ba T.d__law_grown.F qa [0,0,0,1,1,0,0,0] ∅ (λds R h=>by obtain⟨_,_,_,rfl,_⟩:=h;rfl) (λbE A outer s H E ds R hr h=>?_)
 have hu:=hr.units
 refine#[_,(ag (Ac 3 (NC:= ["_law_turn"]) (src:= [none]) rfl G (kA (aw jq)) trivial (bA (aa 0)) (λ_ _ _=>(bI 0 (show(["_law_turn"]:List Str).Nodup from by decide+kernel))) (λ_ _ _=>dF) (λ_ _ _=>(g8 pB rfl T.B.list dX (ae (aa 0) ah))))
   (ag (cU 4 G (gX ah))
   (ag (cT rfl FS (NX rfl T.B.reversed (ae (aa 2) ah)) (aR 5 G) (ag (La 6 3 G (aB (aa 1) (aa 5)))
   (ag (aO false 7 G av)
   (ag (bp (aG (f9 hu) (aa 6) (c7 ah) (aP _)) (aq (aO false 7 G (aH bL (qF (aa 6) (aB (aa 1) (aH nO (aa 5) av))) av))) aM)
   (ag (Fx 3 (aB (aa 1) (aa 5)) (Ho (aH bL (eI (aa 6) fH (fI (aa 7))) (c7 (ae (aE aZ rfl T.B.len aY (ae (aa 0) ah)) ah))) (eI (aa 6) (fI (aa 7)) fH)))
   (aq (gY false 4 (aB (aa 1) (aa 5)))))))))
   (aq (aJ (aH bL (aa 3) (c7 (ae (aa 4) ah)))))))),?_]
 obtain⟨b,r,c,rfl,g,M,YM,L,K,q⟩:=h;have lw:(b.map az).length=b.length:=aI _;exists _,rfl;refine gz (ρ:= [none]) az az b _ (λx d Y hY=>#[_,rfl,hY]) rfl (small ()) λaT=>?_
 refine#[by show 0<=sizeLine;decide,?_]
 exists _,rfl;refine(?_:lE _ _ _ (c.map ao).reverse _);rw[<-abi];have nr:(c.reverse.map λk=>r.getD k 0).Nodup:=by rw[abi];exact(aa3 _).nodup_iff.mpr K.nd
 refine bU (λj ρ=>∃(v:W)(o5 o6 o7:Option D),ρ= [some (aL b),some (az r),some (az c),some (aL v),some (az ((c.reverse.take j).map λk=>r.getD k 0)),o5,o6,o7]/\v.length=b.length/\(∀p,p<b.length->p∉((c.reverse.take j).map λk=>r.getD k 0)->row v p=row b p)/\(∀p,p<b.length->(row v p).Nodup)/\(∀p,p<b.length->∀x,x∈row v p↔x∈row b p\/(x=b.length/\p∈(c.reverse.take j).map λk=>r.getD k 0))/\∀x∈c.reverse.take j,row v (r.getD x 0)=ins (row b (r.getD x 0)) (LJ b r x) b.length)
  #[b,_,_,_,rfl,rfl,(λp _ _=>rfl),(λp _=>g.nod p),(λp _ x=>#[.inl,λh=>h.elim id λh=>nomatch h.2]),λx h=>by simp at h] ?_ ?_
 .rintro j _ _ hd ⟨v,o5,o6,o7,rfl,t,same,vn,J,N⟩ A hA
  obtain⟨k,u,rfl⟩:=cg hd;have kk:k∈c:=zy.mp (dH u);have O:=K.lt k kk;have al:=L.lt k O;have tk:c.reverse.take (j+1)=c.reverse.take j++ [k]:=by rw[qy,u];rfl
  generalize S:((c.reverse.take j).map λk=>r.getD k 0)=C at same J ⊢;have U:((c.reverse.take (j+1)).map λk=>r.getD k 0)=C++ [r.getD k 0]:=by rw[tk,cW,S];rfl
  have na:r.getD k 0∉C:=λz=>by
   have:=nr
   rw[<-jE (j+1) c.reverse,cW,U] at this
   have:=(eE.mp (eE.mp this).1).2.2 _ z _ (cR.mpr rfl)
   exact this rfl
  have dl:C.length<=196:=by
   have M:=aF (m:=ac b.length) (l:=C) (by rw[<-S,rM];exact nr.sublist (zu ..)) λx d=>by
    rw[<-S] at d;obtain⟨y,hy,rfl⟩:=bT.mp d;exact cE.mpr (L.lt y (K.lt y (zy.mp (CM hy))))
   rw[fw] at M;lia
  generalize X:r.getD k 0=a at*;have rl:=dG g a;have ra:row v a=row b a:=same a al na;have Q1:eG (r.map ao) (k:Int)\(ao a):=by rw[iI O,X]
  have lr:((row b a).map ao).length=(row b a).length:=aI _;refine#[_,rfl,_,rfl,_,rfl,_,Q1,_,_,rfl,dh (by rw[t];exact al),?_]
  exists trivial;rw[ra];dsimp only;refine Dj ?_;refine(?_:vy _ (Dk [0,0,0,1,1,0,0,0] false 7 _) pD _ [some (aL b),some (az r),some (az c),some (aL v),some (az C),some (ao k),some (az (row b a)),some (.int 0)]);refine LQ (row b a≠ []) (λz=>∃i:Nat,z=(i:Int)/\i<=(row b a).length/\i=if row b a= [] then 0 else(row b a).idxOf (r.getD ((k+(r.length-1))%r.length) 0)+1) (x0:=0) (by rfl) (λnb=>#[0,rfl,fk _,by rw[ir (Classical.not_not.mp nb)]]) (λQ M h2=>?_) (λne Q hQ=>?_) λz hz=>?_
  .refine#[_,rfl,by show 0<=sizeLine;decide,?_]
   refine(?_:rR (az (row b a)) (az []) _);refine Di #[_,rfl,?_]
   by_cases e:row b a= []
   .rw[GT e];exact h2 (λz=>z e)
   .rw[GE e];exact M e
  .obtain⟨x,d⟩:=List.exists_mem_of_ne_nil _ ne
   have n2:2<=b.length:=by
    have:=g.rng a x d
    have:x≠a:=λe=>g.irr a (by rw[e] at d;exact d)
    lia
   have hb:=L.tie n2 k O;rw[X] at hb;have fx:=gy hb;have il:=vZ.mpr hb;exact#[_,rfl,_,rfl,_,rfl,_,rfl,_,JK O,rfl,cY _,_,_,fx.1,fx.2.1,fx.2.2,hQ _ #[(row b a).idxOf (r.getD ((k+(r.length-1))%r.length) 0)+1,by rw[Int.natCast_add];rfl,(),by rw[mo ne]]]
  obtain⟨i,rfl,il,ii⟩:=hz;have ca:cutD ((row b a).map ao) none (some (i:Int))=((row b a).take i).map ao:=by rw[ja _ _ (by rw[lr];lia),rM]
  have cb:cutD ((row b a).map ao) (some (i:Int)) none=((row b a).drop i).map ao:=by rw[nj _ _ (by rw[lr];lia),abd]
  have s1:(cutD ((row b a).map ao) none (some (i:Int))).length+1<=sizeLine:=by rw[ca,aI,i6];exact small ()
  have ei:(cutD ((row b a).map ao) none (some (i:Int))++ [ao (b.map az).length])++cutD ((row b a).map ao) (some (i:Int)) none=(ins (row b a) i b.length).map ao:=by
   rw[ca,cb,lw];unfold ins;rw[cW,i5];rfl
  have s2:(cutD ((row b a).map ao) none (some (i:Int))++ [ao (b.map az).length]).length+(cutD ((row b a).map ao) (some (i:Int)) none).length<=sizeLine:=by
   rw[<-cD,ei,aI,yd];exact small ()
  refine#[_,rfl,_,rfl,_,rfl,by show 1<=sizeLine;decide,s1,_,rfl,_,rfl,_,rfl,_,rfl,s2,?_]
  have fl:((cutD ((row b a).map ao) none (some (i:Int))++ [ao (b.map az).length])++cutD ((row b a).map ao) (some (i:Int)) none).all dO=true:=by rw[ei];exact cY _
  have ix:iw (v.map az).length (a:Int)\a:=by
   unfold iw;rw[ir (),ir (by rw[aI,t];lia)]
   exact GM some ()
  exists fl,_,rfl,_,rfl,_,rfl,_,Q1,_,a,rfl,ix;refine#[_,rfl,_,rfl,_,rfl,_,Q1,trivial,cL (by rw[aI];lia),?_]
  have nin:b.length∉row b a:=λz=>qz _ (g.rng _ _ z);have o:∀p,row (v.set a (ins (row b a) i b.length)) p=if a=p then ins (row b a) i b.length else row v p:=λp=>Wb.MX (by rw[t];exact al)
  refine hA _ #[v.set a (ins (row b a) i b.length),some (ao k),some (az (row b a)),some (ao i),?_,by rw[fj,t],λp n I=>?_,λp n=>?_,λp n x=>?_,λx d=>?_]
  .have e3:aL (v.set a (ins (row b a) i b.length))= .lst ((v.map az).set a (.lst ((cutD ((row b a).map ao) none (some (i:Int))++ [ao (b.map az).length])++cutD ((row b a).map ao) (some (i:Int)) none))):=by
    rw[ei];exact GM D.lst (Ka ..).symm
   have e4:az (C++ [a])= .lst (C.map ao++ [ao a]):=by unfold az;rw[cW];rfl
   rw[U,e3,e4];rfl
  .rw[U] at I
   rw[b6] at I;rw[o,mo (λe=>I (.inr (cR.mpr e.symm)))];exact same p n λz=>I (.inl z)
  .rw[o]
   split
   .exact yA (g.nod a) nin
   .exact vn p n
  .rw[o,U,b6,cR]
   split
   .next e=>
    subst e;rw[Eg];exact#[λh=>h.elim (λh=> .inr #[h, .inr rfl]) .inl,λh=>h.elim .inr λh=> .inl h.1]
   .next e=>
    rw[J p n x];exact or_congr aaX (and_congr aaX #[.inl,λh=>h.elim id λh=>absurd h.symm e])
  .rw[tk] at d
   rw[o]
   rcases b6.mp d with d|d
   .rw[mo (λe=>na (by rw[e,<-S];exact bT.mpr #[x,d,rfl]))]
    exact N x d
   .rw[cR] at d
    subst d;rw[X,ir rfl,LJ,X,<-ii]
 .rintro _ ⟨v,o5,o6,o7,rfl,t,same,vn,J,N⟩
  rw[aI,oJ] at same J N ⊢;have ps0:0<(c.reverse.map λk=>r.getD k 0).length:=by rw[aI,List.length_reverse];exact K.ne
  have plt:∀p∈c.reverse.map (λk=>r.getD k 0),p<b.length:=λp n=>by
   obtain⟨k,u,rfl⟩:=bT.mp n;exact L.lt k (K.lt k (zy.mp u))
  have o:∀p,row (v++ [c.reverse.map λk=>r.getD k 0]) p=if p=b.length then c.reverse.map (λk=>r.getD k 0) else row v p:=λp=>by
   unfold row;rw[bS,bS]
   by_cases e:p=b.length
   .rw[ir e,kW (),show p-v.length=0 by lia];rfl
   .rw[mo e]
    by_cases z:p<v.length
    .rw[kX z]
    .rw[gK (by rw[cD];simp only[ue];lia),gK ()]
  have G2:Good (v++ [c.reverse.map λk=>r.getD k 0]):=by
   refine FF g ps0 plt (by rw[cD,t];rfl) ?_ (λx=>?_) (λp n=>?_) λp n x=>?_
   .rw[o,ir rfl];exact nr
   .rw[o,ir rfl]
   .rw[o,mo ()];exact vn p n
   .rw[o,mo ()];exact J p n x
  have em:∀p,p∈(c.reverse.map λk=>r.getD k 0)↔p∈c.map λk=>r.getD k 0:=λp=>by rw[abi,zy]
  have HR:Ba b (v++ [c.reverse.map λk=>r.getD k 0]) r c:=#[by rw[cD,t];rfl,λp n I=>by rw[o,mo ()];exact same p n λz=>I ((em p).mp z),λk u=>by
   have:=L.lt k (K.lt k u)
   rw[o,mo ()]
   exact N k (zy.mpr u),by rw[o,ir rfl,abi]]
  have:=q _ G2 (by rw[cD,t];rfl) HR
  have ew:aL (v++ [c.reverse.map λk=>r.getD k 0])= .lst (v.map az++ [az (c.reverse.map λk=>r.getD k 0)]):=by unfold aL;rw[cW];rfl
  rw[ew] at this;exact#[_,rfl,_,rfl,by show 1<=sizeLine;decide,by rw[aI];exact small (by simp only[ue];lia),this]
variable {P:Program} {w:World} {mg:Str->Option Value} {base:Heap} {Z:DC} (T:Txt Z mg)
def LP{w v:W}(g:Good w)(j:2<=w.length)(R:fA w d a)(L:k8 w (a.map (·.1)))(K:vj (a.map (·.1)) c)(h:Ba w v (a.map (·.1)) c):Kd w v (c.map λx=>a.getD x (0,0)):=by
 have i:(a.map (·.1)).length=a.length:=aI _;refine#[h.len,λp l m=>h.out p l λz=>?_,λx n=>?_,?_]
 .obtain⟨k,b,e⟩:=bT.mp z
  exact m _ (bT.mpr #[k,b,rfl]) (by rw[<-e,mJ])
 .obtain⟨k,b,rfl⟩:=bT.mp n
  have f:=K.lt k b;have tie:=L.tie j k f;have at_:=h.at_ k b;have ne:row w ((a.map (·.1)).getD k 0)≠ []:=List.ne_nil_of_mem tie;rw[LJ,mo ne] at at_;rw[i] at f;have pv:=JS R f;rw[mJ,i,mJ] at tie at_;have o:(a.getD k (0,0)).1=(a.getD ((k+(a.length-1))%a.length) (0,0)).2:=by rw[pv];rfl
  have q:(a.getD k (0,0)).2=aW (row w (a.getD k (0,0)).1) (a.getD ((k+(a.length-1))%a.length) (0,0)).1:=by
   rw[o]
   conv=>lhs;rw[pv]
   rfl
  show Ff (row w (a.getD k (0,0)).1) (row v (a.getD k (0,0)).1) (a.getD k (0,0)).2 w.length;rw[at_,q];exact EF tie
 .rw[h.last,b7]
  congr 1
  exact v9 λk _=>mJ _ _
def AN{w v:W}(g:Good w)(l:Good v)(L:k8 w r)(K:vj r a)(h:Ba w v r a)(m:2<=w.length->∃d e,fA w d e/\aU w d/\r=e.map (·.1))(z:1<=w.length)(P:2<=w.length->lQ w):lQ v:=by
 by_cases i:2<=w.length
 .obtain⟨d,e,R,n,rfl⟩:=m i
  have H:=LP g i R L K h;cases a with
  |nil=>exact absurd K.ne (by simp)
  |cons k a=>
   refine JH g l R n K.inc (λx o=>?_) ?_ H (P i)
   .have:=K.lt x o;rwa [aI] at this
   .have:=K.nd
    rwa [show((k::a).map λx=>(e.map (·.1)).getD x 0)=(k::a).map λx=>(e.getD x (0,0)).1 from v9 λx _=>mJ _ _] at this
 .have p:w.length=1:=()
  obtain rfl:=yM g p;have j:∀k∈a,r.getD k 0=0:=λk q=>by have:=L.lt k (K.lt k q);exact Nat.lt_one_iff.mp this
  cases a with
  |nil=>exact absurd K.ne (by simp)
  |cons k a=>
   have f:=j k (bP ..)
   have s:a= []:=by
    cases a with
    |nil=>rfl
    |cons t a=>
     have:=K.nd
     rw[dJ,dJ,f,j t (by simp)] at this
     simp at this
   subst s;have b:=h.at_ k (bP ..);rw[f,LJ,f,ir (show row ([[]]:W) 0= [] from rfl)] at b;have c:=h.last;rw[dJ,f] at c;have u:=h.len
   have:v= [[1],[0]]:=by
    match v,u,b,c with
    | [x,y],_,b,c=>
     have b:x= [1]:=b;have c:y= [0]:=c;rw[b,c]
   rw[this];exact MA
def PC:bZ:=λb P=>∃(a:List Int),b= [.lst (aS a)]/\a.length<=13/\∀w,Good w->w.length=a.length+1->(2<=w.length->lQ w)->P (aL w)
def IS:Good [[]]:=#[λp q h=>by have:=bO h;cases p<;>simp[row] at h,λp h=>by have:=bO h;cases p<;>simp[row] at h,λp=>by cases p<;>simp[row],λp q h=>by have:=bO h;cases p<;>simp[row] at h,λp a=>by
 obtain rfl:p=0:=by simpa using a
 exact .refl _]
def B4:FnOk P w Z.K mg base b9 2 T.d__law_web.f T.d__law_web.fd ["_law_draws_here"] (aX Z PC):=by
 have b:=tW.nd;refine ba T.d__law_web.F tW [0,0,0,0,0] ∅ (λy R h=>by obtain⟨_,rfl,_⟩:=h;rfl) (λbE A outer s H E y R c h=>?_)
 have hu:=c.units
 refine#[_,(ag (aO false 1 b (c7 (ae (c7 ah) ah)))
   (ag (cT rfl FS (bA (aa 0)) (aR 2 b) (ag (aO false 3 b (aD T.d__law_lands (pR T) c (ae (aa 1) ah)))
   (ag (aO false 4 b (aB (aa 3) (aH bW (aa 2) (aE aZ rfl T.B.len aY (ae (aa 3) ah)))))
   (aq (aO false 1 b (aD T.d__law_grown (pQ T) c (ae (aa 1) (ae (aa 4) (ae (aD T.d__law_places (wD T) c (ae (aa 4) (ae (aH gB (aa 2) (aE aZ rfl T.B.len aY (ae (aa 3) ah))) ah))) ah)))))))))
   (aq (aJ (aa 1))))),?_]
 obtain⟨C,rfl,YM,q⟩:=h;refine#[by show 0<=sizeLine;decide,by show 1<=sizeLine;decide,trivial,?_]
 exists _,rfl;refine bU (λj G=>∃(w:W)(d e k:Option D),G= [some (.lst (aS C)),some (aL w),d,e,k]/\Good w/\w.length=j+1/\(2<=w.length->lQ w)) #[[[]],_,_,_,rfl,IS,rfl,λz=>absurd z ∅] ?_ ?_
 .rintro j _ _ I ⟨v,d,e,k,rfl,g,p,l⟩ A J
  obtain⟨x,M,rfl⟩:=cg I;have jl:=(eC.mp M).1;refine#[_,rfl,v,rfl,g,(),(),λa r0 rl ok _ N=>#[trivial,?_]]
  have r:(a.map az).length=a.length:=aI _;have n:(0:Int)<((a.map az).length:Int):=by rw[r];lia
  have m:=jd x ((a.map az).length:Int) n;obtain⟨i,O⟩:∃i:Nat,x%((a.map az).length:Int)=(i:Int):=#[(x%((a.map az).length:Int)).toNat,()]
  have o:i<a.length:=()
  have Q:eG (a.map az) (x%((a.map az).length:Int))\(az (a.getD i [])):=by
   rw[O];exact gr (by rw[cG,bS,cM o];rfl)
  have t:a.getD i []∈a:=by rw[bS,cM o];exact jY o
  have L:k8 v (a.getD i []):=ok _ t;exists _,rfl,_,rfl,_,rfl,n,_,Q,trivial;refine#[_,rfl,_,rfl,_,rfl,_,rfl,_,rfl,#[n,by show((a.map az).length:Int)<1073741824;rw[r];lia],?_]
  refine#[a.getD i [],_,rfl,L.ne,L.sz,λS K=>#[v,a.getD i [],S,rfl,g,(),(),L,K,λU u l2 X=>#[trivial,?_]]]
  exact J _ #[U,_,_,_,rfl,u,(),λ_=>AN g u L K X (λY=>N Y _ t) () l]
 .rintro _ ⟨v,d,e,k,rfl,g,p,l⟩
  exact#[_,rfl,q v g (by rw[p];unfold aS;rw[aI]) l]
variable {P:Program} {w:World} {mg:Str->Option Value} {base:Heap} {Z:DC} (T:Txt Z mg)
def FG{w v:W}(g:Good w)(len:v.length=w.length)(nod:∀p,p<w.length->(row v p).Nodup)(mem:∀p,p<w.length->∀q,q∈row v p↔q∈row w p):Good v:=by
 have all:∀{p q},q∈row v p↔q∈row w p:=λ {p q}=>by
  by_cases h:p<w.length
  .exact mem p h q
  .exact#[λz=>absurd (bO z) (),λz=>absurd (bO z) h]
 refine#[λp q h=>by rw[len];exact g.rng p q (all.mp h),λp h=>g.irr p (all.mp h),λp=>?_,λp q h=>all.mpr (g.sym p q (all.mp h)),λp f=>?_]
 .by_cases z:p<w.length
  .exact nod p z
  .have:row v p= []:=abw.mpr λq h=>by have:=bO h;lia
   rw[this];exact iU
 .have c:∀{a b},Reach w a b->Reach v a b:=λ {a b} h=>by
   induction h with
   |refl=>exact .refl _
   |step _ d e=>exact .step e (all.mpr d)
  exact c (g.con p ())
def named(w:W)(a:List Nat):W:=(ac w.length).map λp=>(row w (a.getD p 0)).map λq=>a.idxOf q
def f6{a:List Nat}{x:Nat}(h:x∈a):a.getD (a.idxOf x) 0=x/\a.idxOf x<a.length:=by
 have b:=vZ.mpr h;refine#[?_,b];rw[bS,cM b];exact A7 b
def DL{a:List Nat}(b:a.Nodup)(h:i<a.length):a.idxOf (a.getD i 0)=i:=by
 rw[bS,cM h];exact b.idxOf_getElem i h
def jh{w:W}(h:p<w.length):row (named w a) p=(row w (a.getD p 0)).map λq=>a.idxOf q:=by
 unfold named row;rw[bS,cG,qx h];rfl
def DP{w:W}(g:Good w)(N:xi w.length a):Good (named w a):=by
 have lt:∀p,p<w.length->a.idxOf p<w.length:=λp b=>by have:=(f6 (cZ N b)).2;rw[N.1] at this;exact this
 refine IT (ord:=λp=>a.idxOf p) g (by unfold named;simp) lt (λp q b c e=>?_) (λy f=>?_) (λp b=>?_)
 .have:=(f6 (cZ N b)).1
  have:=(f6 (cZ N c)).1
  have e:a.idxOf p=a.idxOf q:=e;exact(f6 (cZ N b)).1.symm.trans (by rw[e];exact(f6 (cZ N c)).1)
 .have d:y<a.length:=by rw[N.1];exact f
  exact#[a.getD y 0,N.2.2 _ (getD_mem d),DL N.2.1 d]
 .rw[jh (lt p b),(f6 (cZ N b)).1]
def J6{l m:List Nat}(h:l.Perm m):l.sum=m.sum:=by
 induction h with
 |nil=>rfl
 |cons x _ c=>rw[acE,acE,c]
 |swap x y l=>simp only[acE];lia
 |trans _ _ a b=>exact a.trans b
def nA(w:W):j7 w=((ac w.length).map λp=>(row w p).length).sum:=by
 unfold j7
 congr 1
 refine rJ λi=>?_;rw[cG,cG]
 by_cases h:i<w.length
 .rw[qx h,cM h]
  unfold row;rw[Option.map_some,Option.map_some,bS,cM h];rfl
 .rw[gK (),gK (by rw[fw];lia)];rfl
def uy{w v:W}(a:v.length=w.length)(h:∀p,p<w.length->(row v p).length=(row w p).length):j7 v=j7 w:=by
 rw[nA,nA,a]
 congr 1
 exact v9 λp b=>h p (cE.mp b)
def Fv{w:W}(N:xi w.length a):j7 (named w a)=j7 w:=by
 have b:(named w a).length=w.length:=by unfold named;simp
 have c:(ac w.length).map (λp=>a.getD p 0)=a:=by
  refine rJ λi=>?_;rw[cG]
  by_cases h:i<w.length
  .rw[qx h,cM (by rw[N.1];exact h),Option.map_some,bS,cM (by rw[N.1];exact h)];rfl
  .rw[gK (by rw[fw];lia),gK (by rw[N.1];lia)];rfl
 have d:a.Perm (ac w.length):=(vY N.2.1 vc).mpr λx=>#[λh=>cE.mpr (N.2.2 x h),λh=>cZ N (cE.mp h)];rw[nA,b,nA w,<-J6 (d.map λx=>(row w x).length)]
 conv=>rhs;rw[<-c,b7]
 congr 1
 refine v9 λp e=>?_;rw[jh (cE.mp e),aI];rfl
def Gh{w v:W}(N:xi w.length a)(d:v.length=w.length)(f:∀p,p<w.length->∃i,row v p=(row (named w a) p).drop i++(row (named w a) p).take i):Bc w v λp=>a.idxOf p:=by
 have lt:∀p,p<w.length->a.idxOf p<w.length:=λp b=>by have:=(f6 (cZ N b)).2;rw[N.1] at this;exact this
 refine#[d,lt,λp q b g e=>?_,λy h=>?_,λp b=>?_]
 .have e:a.idxOf p=a.idxOf q:=e
  exact(f6 (cZ N b)).1.symm.trans (by rw[e];exact(f6 (cZ N g)).1)
 .have c:y<a.length:=by rw[N.1];exact h
  exact#[a.getD y 0,N.2.2 _ (getD_mem c),DL N.2.1 c]
 .obtain⟨i,e⟩:=f _ (lt p b)
  rw[jh (lt p b),(f6 (cZ N b)).1] at e;exact#[i,e]
def Mz{w v:W}(g:Good w)(b:Good v)(d:2<=w.length)(P:lQ w)(N:Bc w v a)(f:j7 v=j7 w):lQ v:=by
 obtain⟨c,F,e⟩:=P;have E:Eu true w:=λ_=>#[c,F,(),λ_=>e]
 obtain⟨h,i,_,j⟩:=E.nam g b N f (by rw[N.len];exact d)
 exact#[h,i,j rfl]
def Nc:bZ:=λb P=>∃(w:W)(a:List Int),b= [aL w, .lst (aS a)]/\Good w/\1<=w.length/\w.length<=14/\a.length=w.length/\∀v,Good v->v.length=w.length->j7 v=j7 w->(2<=w.length->lQ w->lQ v)->(∀p,p<w.length->∃q,q<w.length/\(row v q).length=(row w p).length)->P (aL v)
def yG:FnOk P w Z.K mg base b9 1 T.d__law_named.f T.d__law_named.fd ["_law_turns","_law_draws_here"] (aX Z Nc):=by
 have k:=qc.nd;refine ba T.d__law_named.F qc [0,0,0,0,0,1,0,0] ∅ (λds R h=>by obtain⟨_,_,rfl,_⟩:=h;rfl) (λbE A outer s H E ds R hr h=>?_)
 have hu:=hr.units
 refine#[_,(ag (aO false 2 k (c7 ah))
   (ag (gP rfl FS (eQ rfl T.B.range (ae (aE aZ rfl T.B.len aY (ae (aa 0) ah)) ah)) (aR 3 k) (ag (aO false 4 k (aH bW (aB (aa 1) (aa 3)) (aH bL (aa 3) av)))
   (aq (aO false 2 k (aH bL (aH bL (eI (aa 2) fH (fI (aa 4))) (c7 (ae (aa 3) ah))) (eI (aa 2) (fI (aa 4)) fH))))))
   (ag (cU 5 k (gX ah))
   (ag (gP rfl FS (eQ rfl T.B.range (ae (aE aZ rfl T.B.len aY (ae (aa 0) ah)) ah)) (aR 6 k) (ag (mE 7 (NC:= ["_law_q","_law_names"]) (src:= [none,some 2]) rfl k (kA (aw jr)) #[rfl,rfl,trivial] (bA (aB (aa 0) (aB (aa 2) (aa 6)))) (λ_ _ _=>(bI 0 (show(["_law_q","_law_names"]:List Str).Nodup from by decide+kernel))) (λ_ _ _=>dF) (λ_ _ _=>(qF (aa 1) (aa 0))))
   (ag (aO false 4 k (aH bW (aH gB (aB (aa 1) (aa 6)) av) (aE (C8 rfl) rfl T.B.max wO (ae av (ae (aE aZ rfl T.B.len aY (ae (aa 7) ah)) ah)))))
   (aq (gY false 5 (aH bL (eI (aa 7) (fI (aa 4)) fH) (eI (aa 7) fH (fI (aa 4)))))))))
   (aq (aJ (aa 5))))))),?_]
 obtain⟨b,c,rfl,g,h1,dZ,xl,q⟩:=h;have lw:(b.map az).length=b.length:=aI _;refine#[by show 0<=sizeLine;decide,trivial,?_]
 refine#[_,rfl,#[(),by show((b.map az).length:Int)<2^62;lia],?_]
 rw[show(((b.map az).length:Int)).toNat=b.length by lia]
 refine fP (λj ρ=>∃(a:List Nat)(o m:Option D),ρ= [some (aL b),some (.lst (aS c)),some (az a),o,m,none,none,none]/\xi j a) #[[],_,_,rfl,rfl,iU,λx h=>by cases h] ?_ ?_
 .rintro j _ hj ⟨a,o,m,rfl,X,k,lt⟩ A L
  have M:=jd (c.getD j 0) ((j:Int)+1) ()
  have lr:(a.map ao).length=j:=by rw[aI,X]
  obtain⟨i,r⟩:∃i:Nat,c.getD j 0%((j:Int)+1)=(i:Int):=#[(c.getD j 0%((j:Int)+1)).toNat,()]
  have u:i<=j:=()
  have y:cutD (a.map ao) none (some (c.getD j 0%((j:Int)+1)))=(a.take i).map ao:=by rw[r,ja _ _ (by rw[lr];lia),rM]
  have G:cutD (a.map ao) (some (c.getD j 0%((j:Int)+1))) none=(a.drop i).map ao:=by rw[r,nj _ _ (by rw[lr];lia),abd]
  have ei:(cutD (a.map ao) none (some (c.getD j 0%((j:Int)+1)))++ [ao j])++cutD (a.map ao) (some (c.getD j 0%((j:Int)+1))) none=(ins a i j).map ao:=by
   rw[y,G];unfold ins;rw[cW,i5];rfl
  have s1:(cutD (a.map ao) none (some (c.getD j 0%((j:Int)+1)))).length+1<=sizeLine:=by rw[y,aI,i6];exact small ()
  have O:(cutD (a.map ao) none (some (c.getD j 0%((j:Int)+1)))++ [ao j]).length+(cutD (a.map ao) (some (c.getD j 0%((j:Int)+1))) none).length<=sizeLine:=by
   rw[<-cD,ei,aI,yd];exact small ()
  refine#[_,rfl,_,rfl,_,pL (),_,rfl,(by show(0:Int)<(j:Int)+1;lia),trivial,?_]
  refine#[_,rfl,_,rfl,_,rfl,by show 1<=sizeLine;decide,s1,_,rfl,_,rfl,O,trivial,?_]
  refine L _ #[ins a i j,some (ao j),some (.int (c.getD j 0%((j:Int)+1))),?_,by rw[yd,X],yA k (λz=>by have:=lt j z;lia),λx l=>?_]
  .have e:az (ins a i j)= .lst ((cutD (a.map ao) none (some (c.getD j 0%((j:Int)+1)))++ [ao j])++cutD (a.map ao) (some (c.getD j 0%((j:Int)+1))) none):=by rw[ei];rfl
   rw[e];rfl
  .rcases Eg.mp l with rfl|l
   .lia
   .have:=lt x l;lia
 .rintro _ ⟨a,o,m,rfl,N⟩
  have all:∀x,x<b.length->x∈a:=λx l=>cZ N l;refine#[by show 0<=sizeLine;decide,?_]
  refine#[_,rfl,#[(),by show((b.map az).length:Int)<2^62;lia],?_]
  rw[show(((b.map az).length:Int)).toNat=b.length by lia]
  refine fP (λj ρ=>∃(v:W)(m Q S:Option D),ρ= [some (aL b),some (.lst (aS c)),some (az a),o,m,some (aL v),Q,S]/\v.length=j/\∀p,p<j->∃i,row v p=(row (named b a) p).drop i++(row (named b a) p).take i) #[[],_,_,_,rfl,rfl,λp h=>by lia] ?_ ?_
  .rintro p _ d ⟨v,m,Q,S,rfl,n,I⟩ A L
   have np:a.getD p 0<b.length:=N.2.2 _ (by rw[bS,cM (by rw[N.1];exact d)];exact jY _)
   have rl:=dG g (a.getD p 0);refine#[_,rfl,_,rfl,_,rfl,_,iI (by rw[N.1];exact d),_,dh np,?_]
   refine gz (ρ:= [none,some (az a)]) ao (λx=>ao (a.idxOf x)) (row b (a.getD p 0)) _ (λx l Y hY=>?_) rfl (small ()) λaT=>?_
   .have U:=gy (all x (g.rng _ _ l))
    exact#[_,rfl,_,rfl,_,rfl,rfl,cY _,_,_,U.1,U.2.1,U.2.2,hY]
   exists trivial;have eT:(.lst ((row b (a.getD p 0)).map λx=>ao (a.idxOf x)):D)=az (row (named b a) p):=by rw[jh d];unfold az;rw[b7];rfl
   have tl:(row (named b a) p).length<=14:=by rw[jh d,aI];lia
   rw[eT];generalize hT:row (named b a) p=t at tl ⊢;have lt:(t.map ao).length=t.length:=aI _;have C:(0:Int)<(if ((t.map ao).length:Int)>1 then((t.map ao).length:Int) else 1):=by split<;>lia
   have M:=jd (c.getD p 0 / 14) (if ((t.map ao).length:Int)>1 then((t.map ao).length:Int) else 1) C;refine#[_,rfl,_,rfl,_,pL (),#[∅,∅],_,rfl,_,_,rfl,C,trivial,?_]
   obtain⟨i,r⟩:∃i:Nat,c.getD p 0 / 14%(if ((t.map ao).length:Int)>1 then((t.map ao).length:Int) else 1)=(i:Int):=#[(c.getD p 0 / 14%(if ((t.map ao).length:Int)>1 then((t.map ao).length:Int) else 1)).toNat,()]
   have u:i<=t.length:=by
    rw[r] at M;have h2:=M.2
    split at h2<;>lia
   have y:cutD (t.map ao) none (some (i:Int))=(t.take i).map ao:=by rw[ja _ _ (by rw[lt];lia),rM]
   have G:cutD (t.map ao) (some (i:Int)) none=(t.drop i).map ao:=by rw[nj _ _ (by rw[lt];lia),abd]
   have O:(cutD (t.map ao) (some (i:Int)) none).length+(cutD (t.map ao) none (some (i:Int))).length<=sizeLine:=by
    rw[y,G,aI,aI,u9,i6];exact small ()
   refine(?_:KC _ _ _ _ _ [some (aL b),some (.lst (aS c)),some (az a),o,some (.int (c.getD p 0 / 14%(if ((t.map ao).length:Int)>1 then((t.map ao).length:Int) else 1))),some (aL v),some (ao p),some (az t)]);rw[r];refine#[_,rfl,_,rfl,_,rfl,_,rfl,_,rfl,O,trivial,cL (by rw[aI];lia),?_]
   refine L _ #[v++ [t.drop i++t.take i],some (.int (i:Int)),some (ao p),some (az t),?_,by rw[cD,n];rfl,λx l=>?_]
   .have e:aL (v++ [t.drop i++t.take i])= .lst (v.map az++ [.lst (cutD (t.map ao) (some (i:Int)) none++cutD (t.map ao) none (some (i:Int)))]):=by
     rw[y,G,<-cW];unfold aL;rw[cW];rfl
    rw[e];rfl
   .by_cases z:x=p
    .subst z
     have:row (v++ [t.drop i++t.take i]) x=t.drop i++t.take i:=by
      unfold row;rw[bS,kW (),show x-v.length=0 by lia];rfl
     rw[this,hT];exact#[i,rfl]
    .have:row (v++ [t.drop i++t.take i]) x=row v x:=by
      unfold row;rw[bS,bS,kX ()]
     rw[this];exact I x ()
  .rintro _ ⟨v,m,Q,S,rfl,n,I⟩
   have gn:=DP g N;have nl:(named b a).length=b.length:=by unfold named;simp
   have J:∀p,p<b.length->(row v p).Perm (row (named b a) p):=λp d=>by
    obtain⟨i,e⟩:=I p d;rw[e]
    have:=lO (l₁:=(row (named b a) p).drop i) (l₂:=(row (named b a) p).take i)
    rwa [jE] at this
   have gv:Good v:=FG gn (by rw[n,nl]) (λp d=>(J p ()).nodup_iff.mpr (gn.nod p)) λp d x=>(J p ()).mem_iff
   have dv:j7 v=j7 b:=(uy (by rw[n,nl]) λp d=>(J p ()).length_eq).trans (Fv N)
   refine#[_,rfl,q v gv n dv (λl2 P=>Mz g gv l2 P (Gh N n I) dv) λp d=>?_];have ig:=f6 (cZ N d);have u:a.idxOf p<b.length:=by have:=ig.2;rw[N.1] at this;exact this
   exists a.idxOf p,u;rw[(J _ u).length_eq,jh u,ig.1,aI]
end oW
namespace Wb
def pt:List Nat->List Dt
 |a::b::l=>(a,b)::pt (b::l)
 |_=> []
theorem HV:∀(l:List Nat)(a:Nat),(pt (a::l)).length=l.length
 | [],_=>rfl
 |b::l,a=>GM (·+1) (HV l b)
def iL{x y:Nat}:∀{l:List Nat},(x,y)∈pt l↔∃A B,l=A++x::y::B:=by
 intro l
 induction l with
 |nil=>exact#[λh=>(by cases h),λ#[A,B,e]=>(by cases A<;>cases e)]
 |cons a l c=>
  cases l with
  |nil=>
   refine#[λh=>(by cases h),λ#[A,B,e]=>?_]
   have:=GM bV e
   simp at this;lia
  |cons b l=>
   rw[show pt (a::b::l)=(a,b)::pt (b::l) from rfl,bH,c]
   constructor
   .rintro(h| ⟨A,B,h⟩)
    .cases h;exact#[[],l,rfl]
    .exact#[a::A,B,by rw[h];rfl]
   .rintro⟨A,B,e⟩
    cases A with
    |nil=>cases e;exact .inl rfl
    |cons _ A=>exact .inr #[A,B,(Wp e).2]
theorem qk:∀{A A' B B':List Nat},x∉A->x∉A'->A++x::B=A'++x::B'->A=A'/\B=B'
 | [],[],_,_,_,_,e=>by cases e;exact#[rfl,rfl]
 | [],a::A',_,_,_,h,e=>by cases e;exact absurd (bP ..) h
 |a::A,[],_,_,h,_,e=>by cases e;exact absurd (bP ..) h
 |a::A,b::A',_,_,h,c,e=>by
  obtain⟨d,f⟩:=qk (λz=>h (cI _ z)) (λz=>c (cI _ z)) (Wp e).2;rw[(Wp e).1,d];exact#[rfl,f]
theorem Ai:∀{P X B:List Nat},p∉P->X++p::B=P++ [p]->X=P/\B= []
 | [],[],_,_,e=>by cases e;exact#[rfl,rfl]
 | [],x::X,B,_,e=>by have:=GM bV e;simp at this
 |y::P,[],_,h,e=>by cases e;exact absurd (bP ..) h
 |y::P,x::X,_,h,e=>by
  obtain⟨a,b⟩:=Ai (λz=>h (cI _ z)) (Wp e).2;rw[(Wp e).1,a];exact#[rfl,b]
def uM{A B C D:List Nat}(e:l=A++u::x::y::B)(c:l.count x=1):(l=C++x::r::D->r=y)/\(l=C++r::x::D->r=u):=by
 have d:x∉A++ [u]:=λz=>by
  have z:=u0.mpr z;rw[e,show A++u::x::y::B=(A++ [u])++x::(y::B) by simp,uh,rH] at c;lia
 refine#[λa=>?_,λa=>?_]
 .have b:x∉C:=λz=>by
   have z:=u0.mpr z;rw[a,uh,rH] at c;lia
  have:=(qk (A:=A++ [u]) (A':=C) (B:=y::B) (B':=r::D) d b (by rw[<-a,e];simp)).2
  exact(Wp this).1.symm
 .have b:x∉C++ [r]:=λz=>by
   have z:=u0.mpr z;rw[a,show C++r::x::D=(C++ [r])++x::D by simp,uh,rH] at c;lia
  have:=(qk (A:=A++ [u]) (A':=C++ [r]) (B:=y::B) (B':=D) d b (by rw[show(C++ [r])++x::D=C++r::x::D by simp,<-a,e];simp)).1
  have:=GM (λl=>l.getLast?) this
  simpa using this.symm
theorem EW(b:l.Nodup)(Y:List Nat)(P:Nat->Prop):∀(M X:List Nat)(u:Nat),l=X++u::(M++v::Y)->P (aW l u)->(∀x∈M,P x->P (aW l x))->P v
 | [],X,u,e,a,_=>by
  subst e;rw[show X++u::([]++v::Y)=X++u::v::Y from rfl] at a b;rw[eW b] at a;exact a
 |m::M,X,u,e,a,h=>by
  have c:aW l u=m:=by subst e;exact eW b
  rw[c] at a;exact EW b Y P M (X++ [u]) m (by rw[e];simp) (h m (bP ..) a) λx d=>h x (cI _ d)
def along{w:W}(g:Good w){L:List Dt}{f:Dt->Nat}(iv:E9 w L f):∀{Z:List Nat}{a b:Nat},(∀d∈pt (a::b::Z),aU w d/\Rl L d)->(∀A u x y B,a::b::Z=A++u::x::y::B->y≠u/\∀r,Rl L (x,r)->r=u\/r=y)->∀d∈pt (a::b::Z),f d=f (a,b):=by
 intro Z
 induction Z with
 |nil=>intro a b _ _ d hd;cases hd with|head=>rfl|tail _ h=>cases h
 |cons c Z ih=>
  intro a b hr hu d hd;cases hd with
  |head=>rfl
  |tail _ hd=>
   have e:f (b,c)=f (a,b):=by
    obtain⟨ne,only⟩:=hu [] a b c Z rfl;have h1:=hr (a,b) (bP ..);have h2:=hr (b,c) (cI _ (bP ..));obtain⟨r,r1,r2,r3,r4⟩:=Gj g iv h1.1 h1.2 #[c,ne,h2.1,h2.2]
    rcases only r r3 with z|z
    .exact absurd z r1
    .rw[<-z];exact r4
   rw[<-e];exact ih (λd hd=>hr d (cI _ hd)) (λA u x y B e=>hu (a::A) u x y B (by rw[e];rfl)) d hd
def HW{x y:Nat}{l:List Nat}:(x,y)∈pt l.reverse↔(y,x)∈pt l:=by
 rw[iL,iL]
 constructor
 .rintro⟨A,B,e⟩
  have:=GM List.reverse e
  rw[List.reverse_reverse] at this;exact#[B.reverse,A.reverse,by rw[this];simp]
 .rintro⟨A,B,e⟩
  exact#[B.reverse,A.reverse,by rw[e];simp]
theorem yU(c p:Nat):∀l:List Nat,pt (l++ [c,p])=pt (l++ [c])++ [(c,p)]
 | []=>rfl
 | [a]=>rfl
 |a::b::l=>GM (List.cons (a,b)) (yU c p (b::l))
theorem Cf:∀(l:List Nat),(pt l).map (·.1)=l.dropLast
 | []=>rfl
 | [a]=>rfl
 |a::b::l=>GM (List.cons a) (Cf (b::l))
def hZ{x y:Nat}(h:(x,y)∈pt l):x∈l/\y∈l:=by
 obtain⟨A,B,e⟩:=iL.mp h;rw[e];simp
structure Lp (w:W) (L:List Dt) (Z:List Nat):Prop where
 dart:∀d∈pt Z,aU w d/\Rl L d
 tri:∀A u x y B,Z=A++u::x::y::B->y≠u/\∀r,Rl L (x,r)->r=u\/r=y
def Lp.rev(g:Good w)(h:Lp w L Z):Lp w L Z.reverse:=by
 refine#[λd a=>?_,λA u x y B e=>?_]
 .have:=h.dart (d.2,d.1) (HW.mp a)
  exact#[mH g this.1,lJ.mp this.2]
 .have e:=GM List.reverse e
  rw[List.reverse_reverse] at e;obtain⟨b,c⟩:=h.tri B.reverse y x u A.reverse (by rw[e];simp)
  exact#[b.symm,λr f=>(c r f).symm]
structure Loop (w:W) (p a c:Nat) (M:List Nat):Prop where
 nd:(p::a::(M++ [c])).Nodup
 pa:a∈row w p
 pc:c∈row w p
 ti:∀d∈pt (a::(M++ [c])),aU w d
def lz(p a c:Nat)(M:List Nat):List Nat:=p::a::(M++ [c,p])
def r9(p a c:Nat)(M:List Nat):pt (lz p a c M)=(p,a)::(pt (a::(M++ [c]))++ [(c,p)]):=GM (List.cons (p,a)) (yU c p (a::M))
def pN(p a c:Nat)(M:List Nat):lz p a c M=(p::a::(M++ [c]))++ [p]:=by simp[lz]
def HG(p a c:Nat)(M:List Nat):(pt (lz p a c M)).length=(a::(M++ [c])).length+1:=by rw[r9,cv,cD,HV];simp
section
variable {w:W} {p a c:Nat} {M:List Nat}
def Loop.dart(g:Good w)(h:Loop w p a c M):∀d∈pt (lz p a c M),aU w d:=by
 rw[r9];intro d b
 rcases bH.mp b with rfl|b
 .exact h.pa
 rcases b6.mp b with b|b
 .exact h.ti d b
 .rw[cR.mp b];exact g.sym _ _ h.pc
def Loop.cnt(h:Loop w p a c M)(b:x∈a::(M++ [c])):(lz p a c M).count x=1/\x≠p:=by
 have n:=cX.mp h.nd;have ne:x≠p:=λz=>n.1 (z▸b);refine#[?_,ne];rw[pN,uh,abl (Ne.symm ne),abl (Ne.symm ne),acC];rw[n.2.count,ir b]
def Loop.Ug(h:Loop w p a c M):(lz p a c M).count p=2:=by
 have n:=cX.mp h.nd;rw[pN,uh,rH,rH,acC,List.count_eq_zero.mpr n.1]
def Loop.mem(h:Loop w p a c M){x y:Nat}(b:(x,y)∈pt (lz p a c M)):(x=p/\y=a)\/(x=c/\y=p)\/(x,y)∈pt (a::(M++ [c])):=by
 rw[r9] at b
 rcases bH.mp b with e|b
 .cases e;exact .inl #[rfl,rfl]
 rcases b6.mp b with b|b
 .exact .inr (.inr b)
 .cases cR.mp b;exact .inr (.inl #[rfl,rfl])
def Loop.tri(h:Loop w p a c M){u x y:Nat}(e:lz p a c M=A++u::x::y::B):x∈a::(M++ [c])/\y≠u:=by
 have b:=h.Ug
 have g:x∈a::(M++ [c]):=by
  rcases h.mem (iL.mpr #[A,y::B,e]) with ⟨_,rfl⟩ | ⟨_,rfl⟩ |z
  .exact bP ..
  .rcases h.mem (x:=x) (y:=y) (iL.mpr #[A++ [u],B,by rw[e];simp]) with ⟨_,rfl⟩ | ⟨z,_⟩ |z
   .exfalso
    have n:=cX.mp h.nd;rw[pN] at e
    have:=(Ai (X:=(A++ [u]).tail) (B:=y::B) n.1 ?_).2
    .cases this
    .cases A with
     |nil=>simp at e ⊢;exact#[e.2.1.symm,e.2.2.symm]
     |cons _ A=>simp at e ⊢;exact e.2.symm
   .exact absurd (z▸(by simp:c∈a::(M++ [c]))) (cX.mp h.nd).1
   .exact absurd (hZ z).1 (cX.mp h.nd).1
  .exact(hZ z).2
 refine#[g,λz=>?_];subst z
 by_cases d:y=p
 .subst d
  have i:=GM bV e;rw[e,uh,rH] at b;have f:(x::y::B).count y=B.count y+1:=by rw[abl (λz=>(h.cnt g).2 z),rH]
  rw[f] at b
  have k:A= []:=by
   cases A with
   |nil=>rfl
   |cons z A=>exfalso;rw[<-(Wp e).1,rH] at b;lia
  have l:B= []:=by
   apply FM;intro m;obtain⟨j,z,rfl⟩:=r6 m;rw[pN] at e
   have:=GM List.getLast? e
   rw[v8,show A++y::x::y::(j++ [z])=(A++y::x::y::j)++ [z] by simp,v8] at this
   cases this;rw[uh,rH] at b;lia
  rw[k,l] at i;simp[lz] at i
 .have o:y∈a::(M++ [c]):=by
   have:y∈lz p a c M:=by rw[e];simp
   rw[pN] at this
   rcases b6.mp this with z|z
   .rcases bH.mp z with z|z
    .exact absurd z d
    .exact z
   .exact absurd (cR.mp z) d
  have f:=(h.cnt o).1;rw[e,uh,rH] at f
  have:0<(x::y::B).count y:=u0.mpr (by simp)
  lia
end
section
variable {w:W} {p a b c d:Nat} {M N:List Nat}
structure uu (w:W) (p a c:Nat) (M:List Nat) (b d:Nat) (N:List Nat):Prop where
 l1:Loop w p a c M
 l2:Loop w p b d N
 dj:∀x∈a::(M++ [c]),x∉b::(N++ [d])
def uu.swap(h:uu w p a c M b d N):uu w p b d N a c M:=#[h.l2,h.l1,λx e z=>h.dj x z e]
def Ea(p a c:Nat)(M:List Nat)(b d:Nat)(N:List Nat):List Dt:=pt (lz p a c M)++pt (lz p b d N)
def Loop.Cg(h:Loop w p a c M)(e:(x,y)∈pt (lz p a c M)):(x=p\/x∈a::(M++ [c]))/\(y=p\/y∈a::(M++ [c])):=by
 rcases h.mem e with ⟨rfl,rfl⟩ | ⟨rfl,rfl⟩ |z
 .exact#[.inl rfl, .inr (bP ..)]
 .exact#[.inr (by simp), .inl rfl]
 .exact#[.inr (hZ z).1, .inr (hZ z).2]
def Loop.Km(h:Loop w p a c M)(f:Rl (pt (lz p a c M)) (p,r)):r=a\/r=c:=by
 have e:=(cX.mp h.nd).1
 rcases f with z|z
 .rcases h.mem z with ⟨_,rfl⟩ | ⟨rfl,_⟩ |z
  .exact .inl rfl
  .exact absurd (by simp) e
  .exact absurd (hZ z).1 e
 .rcases h.mem (x:=r) (y:=p) z with ⟨_,rfl⟩ | ⟨rfl,_⟩ |z
  .exact absurd (by simp) e
  .exact .inr rfl
  .exact absurd (hZ z).2 e
def uu.lp(g:Good w)(h:uu w p a c M b d N):Lp w (Ea p a c M b d N) (lz p a c M):=by
 refine#[λd k=>#[h.l1.dart g d k, .inl (fi _ k)],λA u x y B e=>?_];obtain⟨i,ne⟩:=h.l1.tri e;have f:=h.l1.cnt i;refine#[ne,λr m=>?_]
 have l:∀{y:Nat},¬(x,y)∈pt (lz p b d N)/\¬(y,x)∈pt (lz p b d N):=λ {y}=>#[λz=>by
  rcases(h.l2.Cg z).1 with z|z
  .exact f.2 z
  .exact h.dj x i z,λz=>by
  rcases(h.l2.Cg z).2 with z|z
  .exact f.2 z
  .exact h.dj x i z]
 rcases m with z|z
 .rcases b6.mp z with z|z
  .obtain⟨C,D,j⟩:=iL.mp z
   exact .inr ((uM (C:=C) (D:=D) e f.1).1 j)
  .exact absurd z l.1
 .rcases b6.mp z with z|z
  .obtain⟨C,D,j⟩:=iL.mp (show(r,x)∈_ from z)
   exact .inl ((uM (C:=C) (D:=D) e f.1).2 j)
  .exact absurd z l.2
def Jl:Rl (Ea p a c M b d N) e↔Rl (Ea p b d N a c M) e:=by
 unfold Rl Ea;simp only[b6]
 constructor<;>(rintro((z|z) | (z|z))<;>simp[z])
def Lp.of{Z:List Nat}(h:Lp w L Z)(e:∀d,Rl L d↔Rl f d):Lp w f Z:=#[λd g=>#[(h.dart d g).1,(e d).mp (h.dart d g).2],λA u x y B q=>#[(h.tri A u x y B q).1,λr i=>(h.tri A u x y B q).2 r ((e _).mpr i)]]
def HH(p a c:Nat)(M:List Nat):(lz p a c M).reverse=lz p c a M.reverse:=by simp[lz]
def uu.W5(g:Good w)(h:uu w p a c M b d N):pj w (Ea p a c M b d N):=by
 have f:=cX.mp h.l1.nd;have r:=cX.mp h.l2.nd;have J:a≠c:=λz=>(cX.mp f.2).1 (by rw[z];simp)
 have L:b≠d:=λz=>(cX.mp r.2).1 (by rw[z];simp)
 have s:∀{a c:Nat}{M:List Nat},(p::a::(M++ [c])).Nodup->(pt (lz p a c M)).Nodup:=λ {a c M} n=>by
  have:((pt (lz p a c M)).map (·.1)).Nodup:=by
   rw[Cf,pN,List.dropLast_concat];exact n
  exact List.Pairwise.of_map _ (λa b z e=>z (by rw[e])) this
 refine#[λd i=>?_,?_,λd i z=>?_]
 .rcases b6.mp i with i|i
  .exact h.l1.dart g d i
  .exact h.l2.dart g d i
 .refine eE.mpr #[s h.l1.nd,s h.l2.nd,?_]
  rintro⟨x,y⟩ l _ j rfl
  rcases h.l1.mem l with ⟨rfl,rfl⟩ | ⟨rfl,rfl⟩ |z
  .rcases h.l2.Km (.inl j) with z|z
   .exact h.dj y (bP ..) (by rw[z];simp)
   .exact h.dj y (bP ..) (by rw[z];simp)
  .rcases(h.l2.Cg j).1 with z|z
   .exact f.1 (by rw[<-z];simp)
   .exact h.dj x (by simp) z
  .rcases(h.l2.Cg j).1 with q|q
   .exact f.1 (by rw[<-q];exact(hZ z).1)
   .exact h.dj x (hZ z).1 q
 .obtain⟨x,y⟩:=d
  have E:∀{a c b d:Nat}{M N:List Nat},uu w p a c M b d N->(x,y)∈pt (lz p a c M)->(y,x)∈Ea p a c M b d N->False:=λ {a c b d M N} h l j=>by
   have f:=cX.mp h.l1.nd;have r:=cX.mp h.l2.nd
   rcases b6.mp j with j|j
   .rcases h.l1.mem l with ⟨rfl,rfl⟩ | ⟨rfl,rfl⟩ |z
    .rcases h.l1.mem j with ⟨rfl,_⟩ | ⟨rfl,_⟩ |z
     .exact f.1 (bP ..)
     .exact(cX.mp f.2).1 (by simp)
     .exact f.1 (hZ z).2
    .rcases h.l1.mem j with ⟨_,rfl⟩ | ⟨rfl,_⟩ |z
     .exact(cX.mp f.2).1 (by simp)
     .exact f.1 (by simp)
     .exact f.1 (hZ z).1
    .obtain⟨A,B,e⟩:=iL.mp j
     obtain⟨C,D,o⟩:=iL.mp l;have F:=(hZ z).1;have O:=h.l1.cnt F
     have:∃u G,A=G++ [u]\/True:=#[0,[], .inr trivial]
     cases D with
     |nil=>
      have:=GM List.getLast? o
      rw[pN,v8,show C++x::y:: []=(C++ [x])++ [y] by simp,v8] at this
      cases this;exact f.1 (hZ z).2
     |cons v D=>
      have H:=(hZ z).2;have I:=h.l1.cnt H;have t:=h.l1.tri o;exact t.2 ((uM (C:=A) (D:=B) o I.1).1 e).symm
   .rcases(h.l2.Cg j) with ⟨k,m⟩
    rcases h.l1.mem l with ⟨rfl,rfl⟩ | ⟨rfl,rfl⟩ |z
    .rcases k with k|k
     .exact f.1 (by rw[<-k];simp)
     .exact h.dj _ (by simp) k
    .rcases m with m|m
     .exact f.1 (by rw[<-m];simp)
     .exact h.dj _ (by simp) m
    .rcases k with k|k
     .exact f.1 (by rw[<-k];exact(hZ z).2)
     .exact h.dj _ (hZ z).2 k
  rcases b6.mp i with i|i
  .exact E h i z
  .refine E h.swap i ?_
   rcases b6.mp (show(y,x)∈_ from z) with z|z
   .exact di _ z
   .exact fi _ z
end
section
variable {w:W} {p a b c d:Nat} {M N:List Nat}
def Lp.all(g:Good w){f:Dt->Nat}(j:E9 w L f)(h:Lp w L (lz p a c M)):(∀e∈pt (lz p a c M),f e=f (p,a)/\f (eB e)=f (p,c)):=by
 have m:=along g j h.dart h.tri;have i:=h.rev g;rw[HH] at i;have n:=along g j i.dart i.tri;intro e k;refine#[m e k,n (eB e) ?_]
 have:=HW (x:=e.2) (y:=e.1) (l:=lz p a c M)
 rw[HH] at this;exact this.mpr k
def y0(e:E9 w L f)(g:Good w)(h:Rl L (x,r))(i:r∈row w x):f (x,aW (row w x) r)=f (r,x):=by
 have:=e (r,x) (g.sym _ _ i)
 unfold ph at this;rw[ir (lJ.mp h)] at this;exact this
def Cq(e:E9 w L f)(g:¬Rl L (x,r))(h:r∈row w x):f (x,aW (row w x) r)=f (x,r):=by
 have:=e (x,r) h
 unfold ph at this;rw[mo g] at this;exact this
theorem Ra(g:Good w)(P:lQ w)(q:row w p=X++a::(A++b::(B++c::(C++d::D))))(h:uu w p a c M b d N):False:=by
 obtain⟨k0,F,eu⟩:=P;have hL:=h.W5 g;have nr:=g.nod p;have Wi:=cX.mp h.l1.nd;have Wj:=cX.mp h.l2.nd;generalize Q:Ea p a c M b d N=L at hL;have Z1:Lp w L (lz p a c M):=Q▸h.lp g;have Z2:Lp w L (lz p b d N):=(h.swap.lp g).of λe=>by rw[<-Q];exact Jl.symm
 have R:∀e∈pt (lz p a c M),Rl L e:=λe j=>(Z1.dart e j).2;have Td:∀e∈pt (lz p b d N),Rl L e:=λe j=>(Z2.dart e j).2
 have Ss:∀{e:Dt},Rl L e->Rl (pt (lz p a c M)) e\/Rl (pt (lz p b d N)) e:=λ {e} j=>by
  rw[<-Q] at j
  rcases j with z|z
  .rcases b6.mp z with z|z
   .exact .inl (.inl z)
   .exact .inr (.inl z)
  .rcases b6.mp z with z|z
   .exact .inl (.inr z)
   .exact .inr (.inr z)
 have Ya:∀r,Rl L (p,r)->r=a\/r=b\/r=c\/r=d:=λr s=>by
  rcases Ss s with z|z
  .rcases h.l1.Km z with z|z
   .exact .inl z
   .exact .inr (.inr (.inl z))
  .rcases h.l2.Km z with z|z
   .exact .inr (.inl z)
   .exact .inr (.inr (.inr z))
 have SE:(p,a)∈pt (lz p a c M):=by rw[r9];exact bP ..
 have Wa:(c,p)∈pt (lz p a c M):=by rw[r9];simp
 have Wc:(p,b)∈pt (lz p b d N):=by rw[r9];exact bP ..
 have Wd:(d,p)∈pt (lz p b d N):=by rw[r9];simp
 have one:∀f:Dt->Nat,E9 w L f->∀e,Rl L e->f e=f (p,a):=λf o=>by
  have S:=Z1.all g o;have U:=Z2.all g o;have ra:=R _ SE;have rc:Rl L (p,c):=lJ.mp (R _ Wa);have rb:=Td _ Wc;have rd:Rl L (p,d):=lJ.mp (Td _ Wd)
  have step:∀{u v:Nat}(Y X' Y':List Nat),Rl L (p,u)->u∈row w p->(∃E n,E++n=row w p/\n++E=X'++u::(Y++v::Y'))->(∀x∈Y,x≠a/\x≠b/\x≠c/\x≠d)->f (p,v)=f (u,p):=λ {u v} Y X' Y' ru I #[E,n,J,e2] hn=>by
   have jP:(E++n).Nodup:=by rw[J];exact nr
   have Ej:(n++E).Nodup:=lO.nodup_iff.mp jP
   have sr:∀x∈row w p,aW (n++E) x=aW (row w p) x:=λx i=>by
    rw[n9 jP (by rw[J];exact i),J]
   refine EW Ej Y' (λr=>f (p,r)=f (u,p)) Y X' u e2 ?_ λx i ih=>?_
   .rw[sr u I];exact y0 o g ru I
   .have zO:x∈row w p:=by
     rw[<-J]
     have:x∈n++E:=by rw[e2];simp[i]
     exact lO.mem_iff.mp this
    rw[sr x zO];obtain⟨n1,n2,n3,n4⟩:=hn x i;exact(Cq o (λz=>by rcases Ya x z with z|z|z|z<;>contradiction) zO).trans ih
  have Wk:=nr;rw[q] at Wk;simp only[eE,cX,b6,bH,not_or] at Wk;have hA:∀x∈A,x≠a/\x≠b/\x≠c/\x≠d:=λx i=>by grind
  have hB:∀x∈B,x≠a/\x≠b/\x≠c/\x≠d:=λx i=>by grind
  have hC:∀x∈C,x≠a/\x≠b/\x≠c/\x≠d:=λx i=>by grind
  have hD:∀x∈D++X,x≠a/\x≠b/\x≠c/\x≠d:=λx i=>by
   rcases b6.mp i with i|i<;>grind
  have ma:a∈row w p:=h.l1.pa;have mc:c∈row w p:=h.l1.pc;have mb:b∈row w p:=h.l2.pa;have md:d∈row w p:=h.l2.pc;have s1:f (p,b)=f (a,p):=step A X (B++c::(C++d::D)) ra ma #[[],row w p,rfl,by rw[q];simp] hA
  have s2:f (p,c)=f (b,p):=step B (X++a::A) (C++d::D) rb mb #[[],row w p,rfl,by rw[q];simp] hB
  have s3:f (p,d)=f (c,p):=step C (X++a::(A++b::B)) D rc mc #[[],row w p,rfl,by rw[q];simp] hC
  have s4:f (p,a)=f (d,p):=step (D++X) [] (A++b::(B++c::C)) rd md #[X++a::(A++b::(B++c::C)),d::D,by rw[q];simp,by simp] hD
  have t1:=(S _ Wa).1;have t2:f (a,p)=f (p,c):=(S _ SE).2;have t3:=(U _ Wd).1;have t4:f (b,p)=f (p,d):=(U _ Wc).2;have ec:f (p,c)=f (p,a):=()
  have eb:f (p,b)=f (p,a):=()
  have ed:f (p,d)=f (p,a):=()
  intro e j
  rcases Ss j with z|z
  .rcases z with z|z
   .exact(S e z).1
   .have:=(S _ z).2;rw[DJ] at this;exact this.trans ec
  .rcases z with z|z
   .exact((U e z).1).trans eb
   .have:=(U _ z).2;rw[DJ] at this;exact this.trans ed
 have Z:(p::((a::(M++ [c]))++(b::(N++ [d])))).Nodup:=by
  refine cX.mpr #[λz=>?_,eE.mpr #[Wi.2,Wj.2,λx i y G e=>h.dj x i (e▸G)]]
  rcases b6.mp z with z|z
  .exact Wi.1 z
  .exact Wj.1 z
 generalize O:p::((a::(M++ [c]))++(b::(N++ [d])))=T at Z
 have Su:∀{x y:Nat},Rl L (x,y)->x∈T:=λ {x y} s=>by
  have i1:∀{x:Nat},x=p\/x∈a::(M++ [c])->x∈T:=λ {x} h=>by
   rw[<-O];exact bH.mpr (h.imp id λh=>fi _ h)
  have i2:∀{x:Nat},x=p\/x∈b::(N++ [d])->x∈T:=λ {x} h=>by
   rw[<-O];exact bH.mpr (h.imp id λh=>di _ h)
  rcases Ss s with z|z<;>rcases z with z|z
  .exact i1 (h.l1.Cg z).1
  .exact i1 (h.l1.Cg (show(y,x)∈_ from z)).2
  .exact i2 (h.l2.Cg z).1
  .exact i2 (h.l2.Cg (show(y,x)∈_ from z)).2
 have H:∀x∈T,∃r∈row w x,Rl L (x,r):=λx i=>by
  have go:∀{a c:Nat}{M:List Nat},Loop w p a c M->(∀e∈pt (lz p a c M),Rl L e)->∀x∈a::(M++ [c]),∃r∈row w x,Rl L (x,r):=λ {a c M} l hl x i=>by
   have:x∈(pt (lz p a c M)).map (·.1):=by rw[Cf,pN,List.dropLast_concat];exact cI _ i
   obtain⟨⟨x',r⟩,j,rfl⟩:=bT.mp this;exact#[r,l.dart g _ j,hl _ j]
  rw[<-O] at i
  rcases bH.mp i with rfl|i
  .exact#[a,h.l1.pa,R _ SE]
  rcases b6.mp i with i|i
  .exact go h.l1 R x i
  .exact go h.l2 Td x i
 have lt:∀x∈T,x<w.length:=λx i=>by
  obtain⟨r,s,_⟩:=H x i;exact bO s
 have lT:T.length=L.length-1/\1<=L.length:=by
  have J:L.length=(a::(M++ [c])).length+1+((b::(N++ [d])).length+1):=by rw[<-Q,Ea,cD,HG,HG]
  have e2:T.length=(a::(M++ [c])).length+(b::(N++ [d])).length+1:=by rw[<-O,cv,cD]
  lia
 have tw:=aF Z (m:=ac w.length) λx i=>cE.mpr (lt x i);rw[fw] at tw;obtain⟨k,hk⟩:∃k,T.length+k=w.length:=#[w.length-T.length,()]
 have VS:∀e∈L,e.1∈T/\e.2∈T:=λe j=>#[Su (x:=e.1) (y:=e.2) (.inl j),Su (x:=e.2) (y:=e.1) (lJ.mpr (.inl j))];obtain⟨L',E,n,l3⟩:=grow g k T L Z lt (by rw[<-O];simp) hk hL VS
 obtain⟨f0,ZZ,Zc⟩:=Oh g F;have lb:=aF n.both (n.sub g);rw[uw,fZ] at lb;obtain⟨m,hm⟩:∃m,2*(L'.length+m)=j7 w:=#[j7 w / 2-L'.length,()]
 have hn:3+m=k0:=()
 obtain⟨f,o,vs,vn,vl,hv⟩:=l3 3 (fill g ZZ m L' 3 n hm (by rw[hn];exact Zc))
 have Qs:=one f o
 have fT:∀x∈T,∀y∈row w x,f (x,y)=f (p,a):=λx i=>by
  obtain⟨r,s,rr⟩:=H x i;refine tR (g.nod x) s (λy=>f (x,y)=f (p,a)) ((y0 o g rr s).trans (Qs _ (lJ.mpr rr))) λy G _ e=>?_
  by_cases z:Rl L (x,y)
  .exact(y0 o g z G).trans (Qs _ (lJ.mpr z))
  .exact(Cq o z G).trans e
 have fN:∀x,x∉T->∀y∈row w x,f (x,y)=f (x,(row w x).headD 0):=λx i y G=>by
  have nz:∀z∈row w x,f (x,aW (row w x) z)=f (x,z):=λz hz=>Cq o (λr=>i (Su r)) hz;cases q:row w x with
  |nil=>rw[q] at G;cases G
  |cons u t=>
   have I:u∈row w x:=by rw[q];exact bP ..
   exact tR (g.nod x) I (λy=>f (x,y)=f (x,u)) (nz u I) (λz hz _ e=>(nz z hz).trans e) y G
 have:=aF vn (m:=f (p,a)::((ac w.length).filter λx=>!decide (x∈T)).map λx=>f (x,(row w x).headD 0)) λv lW=>by
  obtain⟨⟨x,y⟩,hd,rfl⟩:=hv v lW
  by_cases z:x∈T
  .rw[fT x z y hd];exact bP ..
  .rw[fN x z y hd]
   exact cI _ (bT.mpr #[x,jI.mpr #[cE.mpr (bO hd),by simp[z]],rfl])
 rw[cv,aI,vl] at this;have pl:=yO (λx=>decide (x∈T)) (ac w.length);rw[fw] at pl
 have:=aF Z (m:=(ac w.length).filter λx=>decide (x∈T)) λx i=>jI.mpr #[cE.mpr (lt x i),by simp[i]]
 lia
end
inductive Cr (w:W) (ok:Nat->Prop) (p:Nat):Nat->Prop
 |base:Cr w ok p p
 |step {a b:Nat}:Cr w ok p a->b∈row w a->ok b->Cr w ok p b
def Cr.lt{w:W}{p x:Nat}(g:Good w)(a:p<w.length)(h:Cr w ok p x):x<w.length:=by
 cases h with
 |base=>exact a
 |step _ h _=>exact g.rng _ _ h
def Cr.all{w:W}{p:Nat}{M:Nat->Prop}(c:M p)(d:∀a b,M a->b∈row w a->ok b->M b)(h:Cr w ok p x):M x:=by
 induction h with
 |base=>exact c
 |step _ e f g=>exact d _ _ g e f
def Cr.way(s:ok p)(h:Cr w ok p x):∃l,(p::l).Nodup/\(p::l).getLast?\x/\(∀d∈pt (p::l),aU w d)/\∀y∈p::l,ok y:=by
 induction h with
 |base=>exact#[[],by simp,rfl,(λd g=>nomatch g),λy f=>by rw[cR.mp f];exact s]
 | @step a b _ t u v=>
  obtain⟨l,j,m,n,o⟩:=v
  by_cases z:b∈p::l
  .obtain⟨A,B,e⟩:=CP z
   obtain⟨i,r⟩:∃i,A++ [b]=p::i:=by
    cases A with
    |nil=>cases e;exact#[[],rfl]
    |cons y A=>rw[(Wp e).1];exact#[A++ [b],rfl]
   have k:p::l=p::i++B:=by rw[<-r,e];simp
   refine#[i,?_,by rw[<-r,v8],λd g=>n d ?_,λy f=>o y (by rw[k];exact fi _ f)]
   .rw[k] at j;exact(eE.mp j).1
   .obtain⟨C,D,E⟩:=iL.mp (show(d.1,d.2)∈_ from g)
    exact iL.mpr #[C,D++B,by rw[k,E];simp]
  .refine#[l++ [b],?_,by rw[<-ve,v8],λd g=>?_,λy f=>?_]
   .rw[<-ve]
    exact eE.mpr #[j,by simp,λx F y f e=>z (by rw[cR.mp f] at e;exact e▸F)]
   .obtain⟨q,c,e⟩:=r6 (l:=p::l) (by simp)
    have:c=a:=by rw[e,v8] at m;exact Do m
    subst this;rw[<-ve,e,i5] at g;rw[show[c]++ [b]= [c,b] from rfl,yU,<-e] at g
    rcases b6.mp g with g|g
    .exact n d g
    .rw[cR.mp g];exact t
   .rw[<-ve] at f
    rcases b6.mp f with f|f
    .exact o y f
    .rw[cR.mp f];exact u
def Cr.loop(f:a∈row w p)(g:c∈row w p)(i:a≠c)(j:ok a)(k:¬ok p)(h:Cr w ok a c):∃M,Loop w p a c M/\∀y∈a::(M++ [c]),ok y:=by
 obtain⟨l,m,b,n,d⟩:=h.way j
 obtain⟨M,e⟩:∃M,l=M++ [c]:=by
  rcases CL l with rfl| ⟨M,y,rfl⟩
  .cases b;exact absurd rfl i
  .rw[zp] at b ⊢
   rw[<-ve,v8] at b;cases b;exact#[M,rfl]
 subst e;exact#[M,#[cX.mpr #[λz=>k (d p z),m],f,g,n],d]
def Sx(g:Good w)(P:lQ w)(e:row w p=X++a::(A++b::(B++c::(C++d::D)))){o1 o2:Nat->Prop}(h:∀x,o1 x->¬o2 x)(i:o1 a)(j:o2 b)(k:¬o1 p)(l:¬o2 p)(m:Cr w o1 a c)(n:Cr w o2 b d):False:=by
 have f:=g.nod p;have o:a∈row w p:=by rw[e];simp
 have q:b∈row w p:=by rw[e];simp
 have r:c∈row w p:=by rw[e];simp
 have s:d∈row w p:=by rw[e];simp
 have t:a≠c:=λz=>by rw[e,z] at f;simp[eE] at f
 have u:b≠d:=λz=>by rw[e,z] at f;simp[eE] at f
 obtain⟨M,v,y⟩:=m.loop o r t i k;obtain⟨N,E,F⟩:=n.loop q s u j l;exact Ra g P e #[v,E,λx G z=>h x (y x G) (F x z)]
end Wb
namespace L2
open PySem PySem.Spec PyProof.Rows
section
variable {Z:DC} {X:Cx} {md:List Nat}
def KP(i:Nat)(t:cz):cz:=λE a=>(∃d,a[i]?\(some d))/\t {nx:=λ_=>False,rt:=E.rt} a
def Dw(i:Nat)(h:ng Z X (md.set i 0) 0 f t):ng Z X md 0 f (KP i t):=by
 refine mz.imp h ?_;intro r s H k;rfl';obtain⟨B,m,E,⟨G,x,S⟩,⟨⟨d,g⟩,n⟩,M⟩:=k;obtain⟨v,o,dv,a⟩:=S.Ck g;ac_rfl;refine#[B,m,_,#[_,_,#[a.ex,a.fl,S.len,λj c b=>?_,a.nd,a.ap,a.nw]],n,#[λ_ z=>z.elim,M.rt,λ_ z=>z.elim,λ_ z=>z.elim,λ_ _ z=>z.elim]]
 by_cases e:j=i
 .subst e
  rw[g] at b;cases Do b;exists v,o
  have:(md.set j 0).getD j 0=0:=by
   rw[bS,mZ]
   split<;>first| (split<;>rfl) |exact absurd rfl ‹_›
  rw[this,ir rfl];exact#[dv,rfl]
 .obtain⟨u,p,q⟩:=a.at_ j c (by rw[jF (Ne.symm e)];exact b)
  exists u,p
  have:(md.set i 0).getD j 0=md.getD j 0:=by rw[bS,bS,jF (Ne.symm e)]
  rw[this];exact q
end
end L2
namespace oW
open PySem L2 Wb
variable {P:Program} {w:World} {mg:Str->Option Value} {base:Heap} {Z:DC} (T:Txt Z mg)
open Wy
def oD:Option Int->D
 |none=> .bC
 |some i=> .int i
def aA(f:List (Option Int)):D:= .lst (f.map oD)
def yC(o:Option Int):dO (oD o)=true:=by cases o<;>rfl
def BY(o:Option Int):oR (oD o)=true:=by cases o<;>rfl
def gb(f:List (Option Int)):(f.map oD).all dO=true:=ab2.mpr λd h=>by
 obtain⟨o,_,rfl⟩:=bT.mp h;exact yC o
def N4(a b:Option Int):iD (oD a) (oD b)=decide (a=b):=by
 cases a<;>cases b<;>simp[oD,iD]
 rename_i a b
 rw[acj];simp
theorem tq(a:Option Int):∀l:List (Option Int),inD (oD a) (l.map oD)=decide (a∈l)
 | []=>rfl
 |b::l=>by
  have:=tq a l
  unfold inD at this ⊢;rw[dJ,abb,this,N4,acj];simp only[abv,aa0,bH];exact or_congr #[Eq.symm,Eq.symm] aaX
def cC{f:List (Option Int)}{p:Nat}(h:p<f.length):eG (f.map oD) (p:Int)\(oD (f.getD p none)):=gr (by rw[cG,bS,cM h];rfl)
def oP:Option Int->PyData
 |none=> .none
 |some i=> .int i
def Bq(a b:Option Int):PyData.eqv (oP a) (oP b)=true↔a=b:=by
 cases a<;>cases b<;>simp[oP,PyData.eqv]
def Am(a b:List (Option Int)):PyData.eqv (.list (a.map oP)) (.list (b.map oP))=true↔a=b:=by
 rw[PyData.eqv];exact lD Bq a b
def Al(a b:List (Option Int)):PyData.eqv (.list (a.map oP)) (.list (b.map oP))=decide (a=b):=by
 by_cases e:a=b
 .rw[GT e];exact(Am a b).mpr e
 .rw[GE e]
  exact rK.mpr λz=>e ((Am a b).mp z)
def vz(a:List (Option Int)):(PyData.list (a.map oP)).depth<=2:=by
 have:=fO (f:=oP) (k:=1) (λo=>by cases o<;>simp[oP,PyData.depth]) a
 simp[PyData.depth];lia
def GB(o:Option Int):(oD o).py\(oP o):=by cases o<;>rfl
def tP(f:List (Option Int)):(aA f).py\(.list (f.map oP)):=by
 unfold aA;rw[D.py,jg (g:=oP) GB];rfl
def qD{P:D->Prop}(h:P (.bl (!decide (f=g)))):rR (aA f) (aA g) P:=by
 refine#[_,_,tP f,tP g,by have:=vz f;lia,?_]
 rw[ir rfl,Al];exact h
def ux{P:D->Prop}(h:P (.bl (decide (f=g)))):sO (aA f) (aA g) P:=by
 refine#[_,_,tP f,tP g,by have:=vz f;lia,?_]
 rw[mo dA,Al];exact h
def Pr(w:W)(f:List (Option Int)):Prop:=∀p q d,q∈row w p->f.getD p none\d->f.getD q none≠some d
def cF{f:List (Option Int)}(h:i<f.length)(p:Nat):(f.set i c).getD p none=if p=i then c else f.getD p none:=by
 rw[bS,bS]
 by_cases e:p=i
 .subst e
  rw[kY h,ir rfl];rfl
 .rw[jF (Ne.symm e),mo e]
theorem Pr.set{w:W}(g:Good w)(P:Pr w f)(i:j<f.length)(h:∀d,c\d->∀q∈row w j,f.getD q none≠some d):Pr w (f.set j c):=λp q d b a=>by
 rw[cF i] at a ⊢
 by_cases e:p=j
 .subst e
  rw[ir rfl] at a;rw[mo (λe=>g.irr p (by rw[e] at b;exact b))]
  exact h d a q b
 .rw[mo e] at a
  split
  .next k=>
   subst k;intro z;exact h d z p (g.sym _ _ b) a
  .exact P p q d b a
def gS(f:List (Option Int))(p:Nat)(d:Int)(q:Nat):Prop:=f.getD q none=f.getD p none\/f.getD q none\d
def w4(f:List (Option Int))(p:Nat)(d:Int)(q:Nat):inD (oD (f.getD q none)) [oD (f.getD p none), .int d]=true↔gS f p d q:=by
 have:=tq (f.getD q none) [f.getD p none,some d]
 rw[show[oD (f.getD p none),D.int d]= [f.getD p none,some d].map oD from rfl,this,decide_eq_true_iff,bH,cR];exact aaX
theorem A0:∀{a b:List Nat},a.Pairwise (·<·)->b.Pairwise (·<·)->(∀x,x∈a↔x∈b)->a=b
 | [],[],_,_,_=>rfl
 | [],y::b,_,_,h=>absurd ((h y).mpr (bP ..)) (by simp)
 |x::a,[],_,_,h=>absurd ((h x).mp (bP ..)) (by simp)
 |x::a,y::b,d,f,h=>by
  rw[zt] at d f;have g:=(h x).mp (bP ..);have i:=(h y).mpr (bP ..)
  have e:x=y:=by
   rcases bH.mp g with e|g
   .exact e
   .rcases bH.mp i with e|i
    .exact e.symm
    .have:=d.1 y i;have:=f.1 x g;lia
  subst e;rw[A0 d.2 f.2 λz=>#[λc=>?_,λc=>?_]]
  .rcases bH.mp ((h z).mp (cI _ c)) with e|h
   .have:=d.1 z c;lia
   .exact h
  .rcases bH.mp ((h z).mpr (cI _ c)) with e|h
   .have:=f.1 z c;lia
   .exact h
def M6:bZ:=λa P=>∃(w:W)(f:List (Option Int))(p:Nat)(d:Int),a= [.fM w,aA f,ao p, .int d]/\Good w/\w.length<=14/\p<w.length/\f.length=w.length/\∀L:List Nat,L.Pairwise (·<·)->(∀x,x∈L↔Cr w (gS f p d) p x)->P (az L)
theorem Ax{c:List Int}(g:c.Perm (d.map λ(n:Nat)=>(n:Int)))(j:c.Pairwise (·<=·))(k:d.Nodup):∃L:List Nat,c.map D.int=L.map ao/\L.Pairwise (·<·)/\L.Perm d:=by
 have e:∀m∈c,((m.toNat:Nat):Int)=m:=λm f=>by
  obtain⟨n,_,rfl⟩:=bT.mp (g.mem_iff.mp f);simp
 have h:(c.map Int.toNat).Perm d:=by
  have:=g.map Int.toNat
  rw[b7] at this;rw[show(Int.toNat∘λ(n:Nat)=>(n:Int))=id from by funext n;simp] at this
  simpa using this
 refine#[c.map Int.toNat,?_,?_,h]
 .rw[b7]
  exact v9 λm f=>by show D.int m=ao m.toNat;unfold ao;rw[e m f]
 .have i:=h.nodup_iff.mpr k
  rw[oI,jG] at i;rw[jG]
  exact(j.and i).imp λ {a b} #[l,o]=>by
   have:a.toNat<=b.toNat:=Int.toNat_le_toNat l
   lia
theorem yE:FnOk P w Z.K mg base b9 2 T.d_chain.f T.d_chain.fd ["web","dyeing","p","dye"] (fg Z 1 M6):=by
 have C:=AV.nd;refine jc 1 T.d_chain.F AV [0,0,0,0,0,0,99,1,0] ∅ (λds R h=>by obtain⟨_,_,_,_,rfl,_⟩:=h;rfl) (λbE A outer s H E ds R U h=>?_)
 have hu:=U.units
 refine#[_,(ag (aO false 4 C (h7 T.W (aa 0) T.m_turns.m (lY T) (U.mono ∅) T.m_turns.b))
   (ag (aO false 5 C (cK (ae (aB (aa 1) (aa 2)) (ae (aa 3) ah))))
   (ag (Lc 6 C rfl T.x_set)
   (ag (cU 7 C (gX (ae (aa 2) ah)))
   (ag (mF FS (dr (aa 7)) (ag (Hu 8 7 C)
   (aq (bp (DW.dt (lC (aG Gp (aa 8) (aa 6) (by with_unfolding_all rfl)) (jy (aG yD (aB (aa 1) (aa 8)) (aa 5) (by with_unfolding_all rfl))))) (ag (K5 false 6 (aa 8))
   (aq (NZ 7 (aB (aa 4) (aa 8))))) aM))))
   (aq (Ds (IG rfl rfl T.B.sorted (aa 6))))))))),?_]
 obtain⟨j,f,p,d,rfl,g,dZ,t,fl,q⟩:=h;exists _,rfl,j,rfl,j,rfl,dZ,trivial;refine#[_,rfl,_,rfl,_,cC (),_,rfl,by show 2<=sizeLine;decide,trivial,?_]
 refine#[_,rfl,by show 1<=sizeLine;decide,?_]
 refine kU (λm u=>∃(l c:List Nat)(G:Option D),u= [some (.fM j),some (aA f),some (ao p),some (.int d),some (aL j),some (.tup [oD (f.getD p none), .int d]),some (.set (cP w) (c.map λ(n:Nat)=>(n:Int))),some (.lst (l.map ao)),G]/\c.Nodup/\(∀x∈c,Cr j (gS f p d) p x)/\(∀z∈l,z<j.length/\(gS f p d z->Cr j (gS f p d) p z))/\
  (p∈c\/p∈l)/\(∀x∈c,∀y∈row j x,gS f p d y->y∈c\/y∈l)/\m=l.length+20*(20-c.length)/\l.length<=20+20*c.length) 401 ?_ ?_
 .exact#[[p],[],_,rfl,iU,(λx i=>nomatch i),λz k=>by
   rw[cR] at k;subst k;exact#[t,λ_=> .base], .inr (by simp),(λx i=>nomatch i),rfl,by show 1<=20+0;lia]
 rintro m _ ⟨l,c,G,rfl,I,J,hw,N,O,em,k⟩;have Q:gS f p d p:= .inl rfl
 have ml:c.length<=14:=by
  have:=aF (m:=ac j.length) I λx i=>cE.mpr ((J x i).lt g t)
  rw[fw] at this;lia
 exists _,rfl,rfl
 rcases CL l with rfl| ⟨o,y,e⟩
 .refine bK ?_
  refine#[_,rfl,_,rfl,by rw[aI];lia,λks pm GJ=>?_]
  obtain⟨L,S,e2,e3⟩:=Ax pm GJ I;rw[S];refine q L e2 λx=>?_;rw[e3.mem_iff];refine#[J x,λi=>?_];refine i.all (M:=λx=>x∈c) (N.elim id λh=>nomatch h) λa b ha hb hk=>?_;exact(O a ha b hb hk).elim id λh=>nomatch h
 .rw[zp] at e
  subst e;rw[show zg (.lst ((o++ [y]).map ao))=true by simp[zg]]
  refine c9 ?_;rw[cD] at em k;simp only[ue] at em k;refine#[o.map ao,ao y,by rw[cW];rfl,?_]
  have r:=hw y (by simp)
  have X:∀x:Nat,decide ((x:Int)∈c.map λ(n:Nat)=>(n:Int))=decide (x∈c):=λx=>by
   refine aaH.mpr ?_;rw[bT];exact#[λ#[y,r,e]=>by(have:y=x:=();rw[<-this];exact r),λh=>#[x,h,rfl]]
  have keep:∀(F:DN->Prop),(y∈c\/¬gS f p d y)->(∀u,(∃(l c:List Nat)(G:Option D),u= [some (.fM j),some (aA f),some (ao p),some (.int d),some (aL j),some (.tup [oD (f.getD p none), .int d]),some (.set (cP w) (c.map λ(n:Nat)=>(n:Int))),some (.lst (l.map ao)),G]/\c.Nodup/\(∀x∈c,Cr j (gS f p d) p x)/\(∀z∈l,z<j.length/\(gS f p d z->Cr j (gS f p d) p z))/\
    (p∈c\/p∈l)/\(∀x∈c,∀y∈row j x,gS f p d y->y∈c\/y∈l)/\m-1=l.length+20*(20-c.length)/\l.length<=20+20*c.length)->F u)->
    F [some (.fM j),some (aA f),some (ao p),some (.int d),some (aL j),some (.tup [oD (f.getD p none), .int d]),some (.set (cP w) (c.map λ(n:Nat)=>(n:Int))),some (.lst (o.map ao)),some (ao y)]:=λF t hF=>by
   have drop:∀z,gS f p d z->(z∈c\/z∈o++ [y])->(z∈c\/z∈o):=λz n h=>by
    rcases h with h|h
    .exact .inl h
    .rcases b6.mp h with h|h
     .exact .inr h
     .rw[cR] at h
      subst h;exact t.elim .inl λt=>absurd n t
   exact hF _ #[o,c,_,rfl,I,J,λz k=>hw z (fi _ k),drop p Q N,λx i y r n=>drop y n (O x i y r n),(),()]
  exists _,rfl,_,rfl,_,_,_,rfl,rfl,_,rfl;refine(?_:if (if true=true then !decide ((y:Int)∈c.map λ(n:Nat)=>(n:Int)) else _)=true then _ else _);rw[ir rfl,X];refine bw (λv=>?_) (λv=>?_)
  .have v:y∉c:=by simpa using v
   refine#[_,rfl,_,rfl,_,cC (),_,rfl,yC _,gb [f.getD p none,some d],_,rfl,?_]
   refine(?_:if (if false=true then _ else inD (oD (f.getD y none)) [oD (f.getD p none), .int d])=true then _ else _);rw[mo dA];refine bw (λok=>?_) (λok=>?_)
   .have ok:=(w4 f p d y).mp ok
    have Y:=r.2 ok;have rl:=dG g y;refine#[_,rfl,_,rfl,y,rfl,by rw[aI];lia,?_]
    refine#[_,rfl,_,rfl,_,rfl,_,dh r.1,_,rfl,(by rw[aI,aI];exact small ()),?_]
    have S:Au (c.map λ(n:Nat)=>(n:Int)) (y:Int)=(c++ [y]).map λ(n:Nat)=>(n:Int):=by
     unfold Au;rw[mo (by have:=X y;rw[GE v] at this;exact M2 this),cW];rfl
    refine#[(o++row j y).length+20*(20-(c++ [y]).length),by rw[cD,cD,ue];lia,o++row j y,c++ [y],some (ao y),?_,?_,?_,?_,?_,?_,rfl,?_]
    .rw[<-S,show(o++row j y).map ao=o.map ao++(row j y).map ao from cW ..];rfl
    .rw[eE]
     refine#[I,by simp,λx i y r z=>v ?_]
     rw[cR] at r;rw[<-r,<-z];exact i
    .intro x i
     rcases b6.mp i with i|i
     .exact J x i
     .rw[cR] at i;rw[i];exact Y
    .intro z k
     rcases b6.mp k with k|k
     .exact hw z (fi _ k)
     .exact#[g.rng _ _ k,λh=> .step Y k h]
    .rcases N with h|h
     .exact .inl (fi _ h)
     .rcases b6.mp h with h|h
      .exact .inr (fi _ h)
      .exact .inl (di _ h)
    .intro x i z k n
     rcases b6.mp i with i|i
     .rcases O x i z k n with h|h
      .exact .inl (fi _ h)
      .rcases b6.mp h with h|h
       .exact .inr (fi _ h)
       .exact .inl (di _ h)
     .rw[cR] at i
      subst i;exact .inr (di _ k)
    .rw[cD,cD,ue];lia
   .exact keep _ (.inr λz=>by rw[(w4 f p d y).mpr z] at ok;cases ok) λu h=>#[m-1,(),h]
  .exact bK (keep _ (.inl (~~~v)) λu h=>#[m-1,(),h])
def Fs{P:D->Prop}(h:P (.bl (decide (a=b)))):sO (oD a) (oD b) P:=by
 refine#[_,_,GB a,GB b,by cases a<;>simp[oP,PyData.depth],?_]
 rw[mo dA,show PyData.eqv (oP a) (oP b)=decide (a=b) by
  by_cases e:a=b
  .rw[GT e];exact(Bq a b).mpr e
  .rw[GE e];exact rK.mpr λz=>e ((Bq a b).mp z)]
 exact h
def sw(a b:Int)(o:Option Int):Option Int:=if o\a then some b else if o\b then some a else o
def hJ(f:List (Option Int))(l:List Nat)(a b:Int):List (Option Int):=(ac f.length).map λp=>if p∈l then sw a b (f.getD p none) else f.getD p none
def eM(f:List (Option Int))(l:List Nat)(a b:Int):(hJ f l a b).length=f.length:=by unfold hJ;simp
def j8(h:p<f.length):(hJ f l a b).getD p none=if p∈l then sw a b (f.getD p none) else f.getD p none:=by
 unfold hJ;rw[bS,cG,qx h];rfl
def tJ{f g:List (Option Int)}(b:f.length=g.length)(h:∀p,p<f.length->f.getD p none=g.getD p none):f=g:=by
 refine List.ext_getElem b λi a c=>?_
 have:=h i a
 rw[bS,bS,cM a,cM c] at this;exact this
def Le(f:List (Option Int))(a b:Int):hJ f [] a b=f:=tJ (eM ..) λp c=>by
 rw[j8 (by rw[eM] at c;exact c),mo (by simp)]
def Ao(h:p<f.length):hJ f (l++ [p]) a b=(hJ f l a b).set p (sw a b (f.getD p none)):=by
 refine tJ (by rw[eM,fj,eM]) λx c=>?_
 rw[eM] at c;rw[j8 c,cF (by rw[eM];exact h),j8 c]
 by_cases e:x=p
 .subst e;rw[ir (by simp),ir rfl]
 .rw[mo e]
  by_cases z:x∈l
  .rw[ir (fi _ z),ir z]
  .rw[mo z,mo]
   intro y
   rcases b6.mp y with y|y
   .exact z y
   .exact e (~~~y)
def IL(h:p<f.length)(d:f.getD p none≠some a)(g:f.getD p none≠some b):hJ f (l++ [p]) a b=hJ f l a b:=by
 rw[Ao h];refine tJ (by rw[fj]) λx c=>?_
 rw[fj,eM] at c;rw[cF (by rw[eM];exact h)]
 have:sw a b (f.getD p none)=f.getD p none:=by unfold sw;rw[mo d,mo g]
 by_cases e:x=p
 .subst e
  rw[ir rfl,j8 c,this];split<;>rfl
 .rw[mo e]
def Np(o:Option Int):sw b a (sw a b o)=o:=by
 unfold sw
 by_cases c:o\a
 .subst c
  rw[ir rfl,ir rfl]
 .rw[mo c]
  by_cases d:o\b
  .subst d
   rw[ir rfl]
   split
   .next e=>exact e
   .rw[ir rfl]
  .rw[mo d,mo d,mo c]
def Nm(a b:Int)(o:Option Int):sw a b o=none↔o=none:=by
 unfold sw
 split
 .next e=>subst e;simp
 .split
  .next e=>subst e;simp
  .exact aaX
def Cv:bZ:=λc P=>∃(f:List (Option Int))(l:List Nat)(a b:Int),c= [aA f,az l, .int a, .int b]/\f.length<=14/\l.length<=14/\(∀p∈l,p<f.length)/\P (aA (hJ f l a b))
def yF:FnOk P w Z.K mg base b9 1 T.d_exchanged.f T.d_exchanged.fd ["dyeing","points","one","other"] (fg Z 1 Cv):=by
 have g:=rB.nd;refine jc 1 T.d_exchanged.F rB [0,0,0,0,1,0] ∅ (λu R h=>by obtain⟨_,_,_,_,rfl,_⟩:=h;rfl) (λG A outer s H E u R v h=>?_)
 have i:=v.units
 refine#[_,(ag (cU 4 g (kC rfl rfl T.B.list dX (aa 0)))
   (ag (cT rfl FS (bA (aa 1)) (aR 5 g) (aq (bp (aG (fD i) (aB (aa 0) (aa 5)) (aa 2) (aP _)) (aq (dR false 4 (aa 5) (aa 3))) (aq (bp (aG (fD i) (aB (aa 0) (aa 5)) (aa 3) (aP _)) (aq (dR false 4 (aa 5) (aa 2))) aM)))))
   (aq (xK 4)))),?_]
 obtain⟨f,l,a,b,rfl,I,J,x,q⟩:=h;exists _,rfl;exists _,rfl;refine bU (λj y=>∃o,y= [some (aA f),some (az l),some (.int a),some (.int b),some (aA (hJ f (l.take j) a b)),o]) #[none,?_] ?_ ?_
 .rw[List.take_zero,Le];rfl
 .rintro j _ _ z ⟨o,rfl⟩ A k
  obtain⟨p,m,rfl⟩:=cg z;have e:=x p (dH m);have n:l.take (j+1)=l.take j++ [p]:=by rw[qy,m];rfl
  have r:iw ((hJ f (l.take j) a b).map oD).length (p:Int)\p:=by rw[aI,eM];exact lF e
  have t:∀c:Int,sw a b (f.getD p none)\c->A [some (aA f),some (az l),some (.int a),some (.int b),some (.lst (((hJ f (l.take j) a b).map oD).set p (.int c))),some (ao p)]:=λc C=>by
   refine k _ #[some (ao p),?_];rw[n,Ao e,C];unfold aA;rw[qA];rfl
  exists _,rfl,_,rfl,_,cC e,_,rfl;refine(?_:sO (oD (f.getD p none)) (oD (some a)) _);refine Fs #[_,rfl,bw (λh=>?_) λh=>?_]
  .have h:=KF h
   exact#[_,rfl,trivial,_,rfl,_,rfl,_,p,rfl,r,t b (by unfold sw;rw[ir h])]
  .have h:=M2 h
   exists _,rfl,_,rfl,_,cC e,_,rfl;refine(?_:sO (oD (f.getD p none)) (oD (some b)) _);refine Fs #[_,rfl,bw (λd=>?_) λd=>?_]
   .have d:=KF d
    exact#[_,rfl,trivial,_,rfl,_,rfl,_,p,rfl,r,t a (by unfold sw;rw[mo h,ir d])]
   .have d:=M2 d
    refine k _ #[some (ao p),?_];rw[n,IL e h d];rfl
 .rintro _ ⟨o,rfl⟩
  rw[aI,oJ];exact#[_,rfl,q]
theorem Pr.hJ{w:W}(g:Good w)(n:Pr w f)(E:f.length=w.length)(o:f.getD p none\a)(m:∀x,x∈l↔Cr w (gS f p b) p x):Pr w (hJ f l a b):=λx y d j c=>by
 have F:=bO j;have G:=g.rng _ _ j;rw[j8 ()] at c ⊢
 have two:∀z,z∈l->f.getD z none\a\/f.getD z none\b:=λz q=>by
  cases(m z).mp q with
  |base=>exact .inl o
  |step _ _ ok=>rw[<-o];exact ok
 have out:∀u v,u∈l->v∉l->v∈row w u->f.getD v none≠some a/\f.getD v none≠some b:=λu v t A B=>by
  refine#[λz=>A ?_,λz=>A ?_]
  .exact(m v).mpr (.step ((m u).mp t) B (.inl (z.trans o.symm)))
  .exact(m v).mpr (.step ((m u).mp t) B (.inr z))
 have C:∀z,z∈l->sw a b (f.getD z none)\a\/sw a b (f.getD z none)\b:=λz q=>by
  unfold sw
  rcases two z q with h|h
  .rw[ir h];exact .inr rfl
  .by_cases e:f.getD z none\a
   .rw[ir e];exact .inr rfl
   .rw[mo e,ir h];exact .inl rfl
 by_cases k:x∈l
 .rw[ir k] at c
  by_cases i:y∈l
  .rw[ir i]
   intro z
   have:=GM (sw b a) (c.trans z.symm)
   rw[Np,Np] at this
   rcases two x k with h|h
   .exact n x y a j h (by rw[<-this];exact h)
   .exact n x y b j h (by rw[<-this];exact h)
  .rw[mo i]
   intro z;obtain⟨r,s⟩:=out x y k i j
   rcases C x k with h|h
   .rw[h] at c;cases c;exact r z
   .rw[h] at c;cases c;exact s z
 .rw[mo k] at c
  by_cases i:y∈l
  .rw[ir i]
   intro z;obtain⟨r,s⟩:=out y x i k (g.sym _ _ j)
   rcases C y i with h|h
   .rw[h] at z;cases z;exact r c
   .rw[h] at z;cases z;exact s c
  .rw[mo i]
   exact n x y d j c
end oW
namespace L2
open PySem PySem.Spec PyProof.Rows
section
variable {Z:DC} {X:Cx} {md:List Nat} {rn:Nat} {e:Expr} {es:List Expr} {pos p2:Pos} {t:iW}
def Mm(j:H p=none)(l:G p=none)(s:bx G H)(g:h.all BL=true)(o:fF (Own Z G H 1) c h f)(i:∀b∈f,H b≠none):Own Z (upd G p (.tup c)) (upd H p (.tup c)) 2 (.ref p) (.tup h) f:=by
 refine .inr (.inl #[∅,p,c,h,rfl,rfl,aK,?_])
 have k:∀b∈f,upd H p (.tup c) b=H b:=λb d=>bf λz=>i b d (z▸j)
 revert k g
 generalize upd H p (.tup c)=n;have sg:bx G (upd G p (.tup c)):=bq l _
 revert sg
 generalize upd G p (.tup c)=q;intro sg g k
 induction o with
 |nil=>exact .nil
 |cons a r m=>
  rw[vf,wc] at g;exact .cons (.inl #[g.1,a.keep sg λb d=>k b (fi _ d)]) (m (λb d=>i b (di _ d)) g.2 λb d=>k b (di _ d))
def Hj(i j:Nat):cz:=λE a=>∃l m,a[i]?\(some (.lst l))/\a[j]?\(some (.lst m))/\E.rt (.tup [.lst l, .lst m])
def Ae(i j:Nat){x1}{px py}(w:i≠j:=by decide)(A:md.getD i 0=1:=by rfl)(C:md.getD j 0=1:=by rfl)(F:X.N[i]?\x:=by rfl)(k:kZ X.env.scope x:=by subst_eqs)(I:(x==("__debug__":Str))=false:=by decide)(J:(x==("__classdict__":Str))=false:=by decide)
  (L:X.N[j]?\y:=by rfl) (hw:kZ X.env.scope y:=by subst_eqs) (O:(y==("__debug__":Str))=false:=by decide) (P:(y==("__classdict__":Str))=false:=by decide)
  (Q:starEach [.Name x px, .Name y py] X.env=(false,eval (.Name x px) X.env)::starEach [.Name y py] X.env:=by rfl) (R:starEach [.Name y py] X.env=(false,eval (.Name y py) X.env)::starEach [] X.env:=by rfl):
  DSt Z X md 2 (.Return (some (.Tuple [.Name x px, .Name y py] x1 p2)) pos) (Hj i j):=(w6 (HP (d6 (pv i F k I J) (d6 (pv j L hw O P) gD R) Q))).imp λD σ H #[B,ρ,E,#[G,f,S],#[l,m,T,U,h],M]=>by
 obtain⟨u,Y,o⟩:=S.at_ i _ T;rw[A] at o;obtain⟨v,k,q⟩:=S.at_ j _ U;rw[C] at q;refine#[u,Y,v,k,by show 2<=sizeLine;decide,λp g=>?_]
 have e:G p=none:=S.ex.sub.free g;have r:Ext G H (upd G p (.tup [u,v])) (upd H p (.tup [u,v])):= .new S.ex.sub g
 have s:∀b∈f i++(f j++ []),B.H₀ b=none/\H b≠none/\G b=none:=λb d=>by
  rw[jH] at d;exact(b6.mp d).elim (S.nw i b) (S.nw j b)
 refine M.rt _ h _ (f i++(f j++ [])) _ _ (S.ex.trans r) (Mm g e S.ex.sub rfl (.cons o (.cons q .nil)) λb d=>(s b d).2.1) ?_ λc t=>?_
 .rw[jH]
  exact eE.mpr #[S.nd i,S.nd j,λa ha b d z=>S.ap i j a w ha (z▸d)]
 .obtain⟨q1,n,q3⟩:=s c t
  have cp:c≠p:=λz=>n (by rw[z];exact g)
  exact#[q1,by rw[bf cp];exact n,r.off c n q3]
end
end L2
namespace oW
open PySem L2 Wb
variable {P:Program} {w:World} {mg:Str->Option Value} {base:Heap} {Z:DC} (T:Txt Z mg)
open Wy
def Dy(m:Int)(f:List (Option Int)):Prop:=∀q d,f.getD q none\d->0<=d/\d<m
def JG{w:W}(g:Good w)(i:1<=w.length)(P:2<=w.length->lQ w)(R:Rs w a):(w.length:Int)+(a.length:Int)=(tc w:Int)+2:=by
 have j:=PM g;have k:=fZ w
 by_cases h:2<=w.length
 .obtain⟨c,⟨l,b,d,rfl⟩,e⟩:=P h
  have:=Rs.len g R (.inr #[h,js.rounds g b d])
  rw[aI] at this;lia
 .have f:w.length=1:=()
  rcases R with ⟨_,rfl⟩ | ⟨m,_⟩
  .obtain rfl:=yM g f
   have:(br ([[]]:W)).length=0:=rfl
   show((1:Nat):Int)+((1:Nat):Int)=_;lia
  .lia
def Kg.cn{w:W}(g:Good w)(h:Kg w n):Cn w n:=by
 rcases h with ⟨a,rfl⟩ | ⟨b,c,d,e,rfl⟩
 .exact#[_, .inl #[a,rfl],rfl]
 .exact#[c.map xp, .inr #[b,js.rounds g d e],aI _]
def Nd:bZ:=λa P=>∃(w:W),a= [.fM w]/\Good w/\1<=w.length/\w.length<=14/\(2<=w.length->lQ w)/\P .bC
def yJ:FnOk P w Z.K mg base b9 6 T.d_need_plane.f T.d_need_plane.fd ["web"] (aX Z Nd):=by
 have l:=qg.nd;refine ba T.d_need_plane.F qg [0] ∅ (λc R h=>by obtain⟨_,rfl,_⟩:=h;rfl) (λm A outer s H E c R a h=>?_)
 have o:=a.units;exists _,(aq (bp (eJ (dr (aD T.d_is_plane (B6 T) a (ae (aa 0) ah)))) (aq qG) aM));obtain⟨d,rfl,g,b,i,j,q⟩:=h;refine#[_,rfl,d,rfl,g,b,i,λn k=>?_];obtain⟨p,R,rfl⟩:=k.cn g
 have:=JG g b j R
 refine#[rfl,bw (λe=>absurd this (by simpa [zg] using e)) (λe=>#[rfl,q])]
def FX:inD (.int d) (aS l)=decide (d∈l):=by
 unfold inD aS;rw[List.any_map]
 have:((λy=>iD y (.int d))∘D.int)=λo:Int=>decide (o=d):=by
  funext o
  simp[iD,Function.comp]
  by_cases h:o=d<;>simp[h]
 rw[this,acj];simp
def DH(l:List Int):(aS l).all dO=true:=by simp[aS,dO]
def Px:bZ:=λa P=>∃(l:List Int)(m:Int),a= [.lst (aS l), .int m]/\0<=m/\m<1000/\l.length<=100/\(∀d,0<=d->d<m->d<=l.length->d∉l->P (.int d))/\((∀d,0<=d->d<m->d<=l.length->d∈l)->P .bC)
def yH:FnOk P w Z.K mg base b9 1 T.d_least_free.f T.d_least_free.fd ["taken","many"] (aX Z Px):=by
 have g:=qe.nd;refine ba T.d_least_free.F qe [0,0,0] ∅ (λk R h=>by obtain⟨_,_,rfl,_⟩:=h;rfl) (λu A outer s H E k R o h=>?_)
 have v:=o.units
 refine#[_,(ag (gP rfl FS (eQ rfl T.B.range (ae (aE (sM rfl) rfl T.B.min sI (ae (aa 1) (ae (aH bL (aE aZ rfl T.B.len aY (ae (aa 0) ah)) av) ah))) ah)) (aR 2 g) (aq (bp (aG fQ (aa 2) (aa 0) (by with_unfolding_all rfl)) (aq (aJ (aa 2))) aM)))
   (aq (aJ bB))),?_]
 obtain⟨l,m,rfl,x,y,C,p,q⟩:=h;have lt:((aS l).length:Int)=(l.length:Int):=by unfold aS;rw[aI]
 refine#[_,rfl,_,rfl,_,_,rfl,#[by split<;>lia,by split<;>lia],?_]
 obtain⟨n,c⟩:∃n:Nat,n=(if ((aS l).length:Int)+1<m then((aS l).length:Int)+1 else m).toNat:=#[_,rfl];refine(?_:lE _ _ _ (e8 0 (if ((aS l).length:Int)+1<m then((aS l).length:Int)+1 else m).toNat) _);rw[<-c]
 have G:(n:Int)<=m/\((n:Int)=m\/(n:Int)=(l.length:Int)+1):=by
  split at c<;>lia
 refine fP (λj r=>∃a,r= [some (.lst (aS l)),some (.int m),a]/\∀i:Nat,i<j->(i:Int)∈l) #[_,rfl,λi h=>by lia] ?_ ?_
 .rintro j _ I ⟨a,rfl,b⟩ A t
  exists _,rfl,_,rfl,rfl,DH l,_,rfl;rw[ir rfl,show inD (ao j) (aS l)=decide ((j:Int)∈l) from FX];refine bw (λe=>?_) (λe=>t _ #[_,rfl,λi J=>?_])
  .exact#[_,rfl,p _ () () () (~~~e)]
  .by_cases z:i=j
   .subst z;simpa using e
   .exact b i ()
 .rintro _ ⟨a,rfl,b⟩
  refine q λd L M dl=>?_
  have:=b d.toNat ()
  rwa [show((d.toNat:Nat):Int)=d by lia] at this
def GG:bZ:=λb P=>∃(w:W)(f:List (Option Int))(a:List Nat),b= [.fM w,aA f,az a]/\Good w/\w.length<=14/\f.length=w.length/\a.length<=14/\(∀q∈a,q<w.length/\∃d,f.getD q none\d)/\(∀q∈a,∀r∈a,∀d,f.getD r none\d->¬Cr w (gS f q d) q r->P (.tup [ao q, .int d]))/\((∀q∈a,∀r∈a,∀d,f.getD r none\d->Cr w (gS f q d) q r)->P .bC)
def pT:FnOk P w Z.K mg base b9 3 T.d_freeing_exchange.f T.d_freeing_exchange.fd ["web","dyeing","around"] (aX Z GG):=by
 have C:=jC.nd;refine ba T.d_freeing_exchange.F jC [0,0,0,0,0] ∅ (λS R h=>by obtain⟨_,_,_,rfl,_⟩:=h;rfl) (λbE A outer s H E S R a h=>?_)
 have hu:=a.units
 refine#[_,(ag (cT rfl FS (bA (aa 2)) (aR 3 C) (aq (cT rfl FS (bA (aa 2)) (aR 4 C) (aq (bp (aG fQ (aa 4) (aD T.d_chain ((yE T).imp zY) a (ae (aa 0) (ae (aa 1) (ae (aa 3) (ae (aB (aa 1) (aa 4)) ah))))) (by with_unfolding_all rfl)) (aq (aJ (cK (ae (aa 3) (ae (aB (aa 1) (aa 4)) ah))))) aM)))))
   (aq (aJ bB))),?_]
 obtain⟨l,f,c,rfl,g,U,X,al,ad,Y,q2⟩:=h;exists _,rfl;refine bU (λj p=>∃t k,p= [some (.fM l),some (aA f),some (az c),t,k]/\∀q∈c.take j,∀r∈c,∀d,f.getD r none\d->Cr l (gS f q d) q r) #[_,_,rfl,λq b=>nomatch b] ?_ ?_
 .rintro j _ _ m ⟨t,k,rfl,n⟩ A hA
  obtain⟨x,G,rfl⟩:=cg m;have I:=dH G;have tk:c.take (j+1)=c.take j++ [x]:=by rw[qy,G];rfl
  exists _,rfl;refine bU (λi p=>∃k,p= [some (.fM l),some (aA f),some (az c),some (ao x),k]/\∀r∈c.take i,∀d,f.getD r none\d->Cr l (gS f x d) x r) #[_,rfl,λq b=>nomatch b] ?_ ?_
  .rintro i _ _ u ⟨k,rfl,o⟩ A2 RP
   obtain⟨y,J,rfl⟩:=cg u;have M:=dH J;have W6:c.take (i+1)=c.take i++ [y]:=by rw[qy,J];rfl
   obtain⟨xl,dx,Vf⟩:=ad x I;obtain⟨yl,v,B⟩:=ad y M;have N:eG (f.map oD) (y:Int)\(.int v):=by rw[cC (),B];rfl
   refine#[_,rfl,_,rfl,_,rfl,_,rfl,_,rfl,_,rfl,_,N,l,f,x,v,rfl,g,U,xl,X,λL L1 O=>?_];exists rfl,cY _,_,rfl;rw[ir rfl,jz];refine bw (λe=>?_) (λe=>RP _ #[_,rfl,λr a d m=>?_])
   .have e:y∉L:=by simpa using e
    exact#[_,rfl,_,rfl,_,rfl,_,N,by show 2<=sizeLine;decide,Y x I y M v B λz=>e ((O y).mpr z)]
   .have e:y∈L:=by simpa using e
    rw[W6] at a
    rcases b6.mp a with a|a
    .exact o r a d m
    .rw[cR] at a;subst a
     rw[B] at m;cases m;exact(O r).mp e
  .rintro _ ⟨k,rfl,o⟩
   refine hA _ #[_,_,rfl,λq b r a d Q=>?_];rw[tk] at b
   rcases b6.mp b with b|b
   .exact n q b r a d Q
   .rw[cR] at b;subst b
    rw[aI,oJ] at o;exact o r a d Q
 .rintro _ ⟨t,k,rfl,n⟩
  rw[aI,oJ] at n;exact q2 n
def cQ(w:W)(f:List (Option Int))(p:Nat):List Nat:=(row w p).filter λq=>!decide (f.getD q none=none)
def eZ{w:W}:q∈cQ w f p↔q∈row w p/\∃d,f.getD q none\d:=by
 unfold cQ;rw[jI];cases h:f.getD q none<;>simp
structure Given (w:W) (f:List (Option Int)) (p m:Nat) (f':List (Option Int)):Prop where
 len:f'.length=f.length
 pr:Pr w f'
 dy:Dy m f'
 at_:∃d,f'.getD p none\d
 out:∀q,q≠p->(f'.getD q none=none↔f.getD q none=none)
def Pr.free{w:W}{f:List (Option Int)}(g:Good w)(a:Pr w f)(b:p<f.length)(h:∀q∈row w p,f.getD q none≠some d):Pr w (f.set p (some d)):=a.set g b λe c q i=>by cases c;exact h q i
def vI{w:W}{f c:List (Option Int)}{p m:Nat}(g:Good w)(j:Pr w f)(a:p<f.length)(k:Dy m f){d:Int}(l:0<=d/\d<m)(h:∀q∈row w p,f.getD q none≠some d)(n:f.length=c.length)(o:∀q,q≠p->(f.getD q none=none↔c.getD q none=none)):Given w c p m (f.set p (some d)):=by
 refine#[by rw[fj,n],j.free g a h,λq e b=>?_,#[d,by rw[cF a,ir rfl]],λq i=>by rw[cF a,mo i];exact o q i]
 rw[cF a] at b
 split at b
 .cases b;exact l
 .exact k q e b
def Bv(p:Nat)(d:Int):D:= .tup [.str "give",ao p, .int d]
def IK(q:Nat)(d:Int):D:= .tup [.str "exchange",ao q, .int d]
inductive Ih (w:W) (f:List (Option Int)) (p m:Nat):List (Option Int)->List D->Prop
 |free (d:Int):0<=d->d<m->d<=((row w p).length:Int)->(∀q∈row w p,f.getD q none≠some d)->Ih w f p m (f.set p (some d)) [Bv p d]
 |hJ (x:Nat) (a d:Int) (L:List Nat):(∀e:Int,0<=e->e<m->∃q∈row w p,f.getD q none\e)->x<w.length->f.getD x none\a->a≠d->0<=d->d<m->0<=a->a<m->L.Pairwise (·<·)->(∀y,y∈L↔Cr w (gS f x d) x y)->(∀q∈row w p,(hJ f L a d).getD q none≠some a)->Ih w f p m ((hJ f L a d).set p (some a)) [IK x d,Bv p a]
def CZ{w:W}(A:(cQ w f p).length<=m)(all:∀d:Int,0<=d->d<m->d<=((cQ w f p).length:Int)->d∈(cQ w f p).map λq=>(f.getD q none).getD 0):
  (cQ w f p).length=m/\∀q∈cQ w f p,∀r∈cQ w f p,f.getD q none=f.getD r none->q=r:=by
 have o:∀n:Nat,(∀d:Nat,d<n->(d:Int)∈(cQ w f p).map λq=>(f.getD q none).getD 0)->n<=(cQ w f p).length:=λn h=>by
  have:=aF (l:=(ac n).map λ(k:Nat)=>(k:Int)) (m:=(cQ w f p).map λq=>(f.getD q none).getD 0) (by rw[oI,jG];exact A6.imp λ {a b} h=>by lia) λx g=>by
   obtain⟨k,i,rfl⟩:=bT.mp g;exact h k (cE.mp i)
  rwa [aI,aI,fw] at this
 have s:(cQ w f p).length=m:=by
  by_cases c:(cQ w f p).length<m
  .have:=o ((cQ w f p).length+1) λd B=>all d () () ()
   lia
  .lia
 refine#[s,λq t r u e=>FM λne=>?_];have lt:=List.length_filter_lt_length_iff_exists.mpr (#[q,t,by simp]:∃x∈cQ w f p,¬(!decide (x=q))=true)
 have:=aF (l:=(ac m).map λ(k:Nat)=>(k:Int)) (m:=((cQ w f p).filter λx=>!decide (x=q)).map λq=>(f.getD q none).getD 0) (by rw[oI,jG];exact A6.imp λ {a b} h=>by lia) λx g=>by
  obtain⟨k,i,rfl⟩:=bT.mp g
  have:=cE.mp i
  obtain⟨y,v,j⟩:=bT.mp (all k () () ())
  by_cases z:y=q
  .subst z
   exact bT.mpr #[r,jI.mpr #[u,by simp[Ne.symm ne]],by rw[<-e];exact j]
  .exact bT.mpr #[y,jI.mpr #[v,by simp[z]],j]
 rw[aI,aI,fw] at this;lia
theorem Ju{w:W}(g:Good w)(P:lQ w)(s:f.getD p none=none)(N:4<=(cQ w f p).length)(un:∀q∈cQ w f p,∀r∈cQ w f p,f.getD q none=f.getD r none->q=r)
  (h:∀q∈cQ w f p,∀r∈cQ w f p,∀d,f.getD r none\d->Cr w (gS f q d) q r):False:=by
 obtain⟨a,b,c,d,e,n⟩:∃a b c d e,cQ w f p=a::b::c::d::e:=by
  match cQ w f p,N with
  |a::b::c::d::e,_=>exact#[a,b,c,d,e,rfl]
 have o:(cQ w f p).Nodup:=(g.nod p).filter _
 have O:∃X A B C D,row w p=X++a::(A++b::(B++c::(C++d::D))):=by
  have i:∀{l:List Nat}{x:Nat}{m:List Nat},(l.filter λq=>!decide (f.getD q none=none))=x::m->∃X Y,l=X++x::Y/\(Y.filter λq=>!decide (f.getD q none=none))=m:=λ {l x m} h=>by
   obtain⟨X,Y,E,I,J,F⟩:=List.filter_eq_cons_iff.mp h;exact#[X,Y,E,F]
  obtain⟨X,Y1,E,Q⟩:=i n;obtain⟨A,Y2,I,R⟩:=i Q;obtain⟨B,Y3,J,S⟩:=i R;obtain⟨C,U,F,r4⟩:=i S;exact#[X,A,B,C,U,by rw[E,I,J,F]]
 obtain⟨X,A,B,C,D,T⟩:=O;have t:a∈cQ w f p:=by rw[n];simp
 have u:b∈cQ w f p:=by rw[n];simp
 have v:c∈cQ w f p:=by rw[n];simp
 have y:d∈cQ w f p:=by rw[n];simp
 obtain⟨_,da,Z⟩:=eZ.mp t;obtain⟨_,db,hb⟩:=eZ.mp u;obtain⟨_,L,G⟩:=eZ.mp v;obtain⟨_,M,H⟩:=eZ.mp y;rw[n] at o;simp only[cX,bH,not_or] at o;have n1:f.getD a none≠f.getD b none:=λz=>o.1.1 (un a t b u z);have n2:f.getD a none≠f.getD d none:=λz=>o.1.2.2.1 (un a t d y z);have n3:f.getD b none≠f.getD c none:=λz=>o.2.1.1 (un b u c v z);have n4:f.getD c none≠f.getD d none:=λz=>o.2.2.1.1 (un c v d y z);refine Sx g P T (o1:=gS f a L) (o2:=gS f b M) (λx j k=>?_) (.inl rfl) (.inl rfl) (λz=>?_) (λz=>?_) (h a t c v L G) (h b u d y M H)
 .rcases j with j|j<;>rcases k with k|k
  .exact n1 (j.symm.trans k)
  .exact n2 (j.symm.trans (k.trans H.symm))
  .exact n3 (k.symm.trans (j.trans G.symm))
  .exact n4 (G.trans (j.symm.trans (k.trans H.symm)))
 .rcases z with z|z
  .rw[s,Z] at z;cases z
  .rw[s] at z;cases z
 .rcases z with z|z
  .rw[s,hb] at z;cases z
  .rw[s] at z;cases z
def FD{w:W}{f:List (Option Int)}{p q r m:Nat}{a b:Int}{L:List Nat}(g:Good w)(B:Pr w f)(C:f.length=w.length)(H:p<w.length)(e:Dy m f)(I:f.getD p none=none)(s:q∈cQ w f p)(t:r∈cQ w f p)(un:∀q∈cQ w f p,∀r∈cQ w f p,f.getD q none=f.getD r none->q=r)
  (i:f.getD q none\a) (j:f.getD r none\b) (k:∀x,x∈L↔Cr w (gS f q b) q x) (u:¬Cr w (gS f q b) q r):Given w f p m ((hJ f L a b).set p (some a))/\a≠b/\∀x∈row w p,(hJ f L a b).getD x none≠some a:=by
 have E:Pr w (hJ f L a b):=B.hJ g C i k;have l:=eM f L a b;have F:q∈L:=(k q).mpr .base;have G:q≠r:=λz=>u (z▸ .base);have v:a≠b:=λz=>G (un q s r t (by rw[i,j,z]))
 have inr:∀{x:Nat}{d:Int},(hJ f L a b).getD x none\d->x<f.length:=λ {x d} h=>by
  apply FM;intro z;rw[bS,gK (by rw[l];lia)] at h
  cases h
 have y:∀x∈row w p,(hJ f L a b).getD x none≠some a:=λx c z=>by
  have n:=inr z;rw[j8 n] at z
  split at z
  .next o=>
   unfold sw at z
   split at z
   .cases z;exact v rfl
   .split at z
    .next A=>
     have:x=r:=un x (eZ.mpr #[c,_,A]) r t (A.trans j.symm)
     subst this;exact u ((k x).mp o)
    .contradiction
  .next o=>
   have:x=q:=un x (eZ.mpr #[c,_,z]) q s (z.trans i.symm)
   exact o (this▸F)
 refine#[vI g E () (λx d c=>?_) (e q a i) y l λx c=>?_,v,y]
 .rw[j8 (inr c)] at c
  split at c
  .unfold sw at c
   split at c
   .cases c;exact e r _ j
   .split at c
    .cases c;exact e q _ i
    .exact e x d c
  .exact e x d c
 .by_cases n:x<f.length
  .rw[j8 n]
   split
   .exact Nm a b _
   .exact aaX
  .rw[bS,gK (by rw[l];lia),bS,gK ()]
def xS{w:W}{f f1:List (Option Int)}{l0:List D}(k:w.length<=14)(h:f1.length<=14)(n:p<w.length)(i:p<f1.length)(q:∀(b:List (Option Int))(l:List D),Given w f p m b->Ih w f p m b l->E.rt (.tup [aA b, .lst l]))(G:Given w f p m (f1.set p (some d)))(V:Ih w f p m (f1.set p (some d)) (l0++ [Bv p d]))(ll:l0.length<=1:=by decide):
  dSeq (Hk [0,0,0,0,0,1,1,0,0,0,0] false 5 (Dl 2) (Dl 7)) (dSeq (KC [0,0,0,0,0,1,1,0,0,0,0] false 6 (Qk (Bj (dC (.str "give")) (Bj (Dl 2) (Bj (Dl 7) lu))))) (Hj 5 6)) E [some (.fM w),some (aA f),some (ao p),some (.int m),c,some (aA f1),some (.lst l0),some (.int d),e,g,a]:=by
 have j:iw (f1.map oD).length (p:Int)\p:=by rw[aI];exact lF i
 exists _,rfl,trivial,_,rfl,_,rfl,_,p,rfl,j;refine#[_,rfl,_,rfl,_,rfl,by show 3<=sizeLine;decide,trivial,cL (),?_]
 exists _,_,rfl,rfl
 have:=q _ _ G V
 unfold aA at this;rw[qA] at this;exact this
def Na:bZ:=λb P=>∃(w:W)(f:List (Option Int))(p m:Nat),b= [.fM w,aA f,ao p, .int m]/\4<=m/\m<1000/\Good w/\1<=w.length/\w.length<=14/\(2<=w.length->lQ w)/\p<w.length/\f.length=w.length/\Pr w f/\Dy m f/\f.getD p none=none/\(cQ w f p).length<=m/\∀a l,Given w f p m a->Ih w f p m a l->P (.tup [aA a, .lst l])
def iK:FnOk P w Z.K mg base b9 7 T.d_dye_given.f T.d_dye_given.fd ["web","dyeing","p","many"] (fg Z 2 Na):=by
 have k:=rA.nd;refine jc 2 T.d_dye_given.F rA [0,0,0,0,0,1,1,0,0,0,0] ∅ (λds R h=>by obtain⟨_,_,_,_,rfl,_⟩:=h;rfl) (λbE A outer s H E ds R n h=>?_)
 have hu:=n.units
 refine#[_,(ag (K8 (aD T.d_need_plane (yJ T) n (ae (aa 0) ah)))
   (ag (mE 4 (NC:= ["q","dyeing"]) (src:= [none,some 1]) rfl k (kA (aw iS)) #[rfl,rfl,trivial] (bA (aB (h7 T.W (aa 0) T.m_turns.m (lY T) (n.mono ∅) T.m_turns.b) (aa 2))) (λ_ _ _=>(bI 0 (show(["q","dyeing"]:List Str).Nodup from by decide+kernel))) (λ_ _ _=>(jx (aG ko (aB (aa 1) (aa 0)) bB (aP _)))) (λ_ _ _=>(aa 0)))
   (ag (bp (DW.dt (fB (aG ko (aB (aa 1) (aa 2)) bB (aP _)) (gx (aG BZ (aE aZ rfl T.B.len aY (ae (aa 4) ah)) (aa 3) (aP _))))) (aq qG) aM)
   (ag (cU 5 k (kC rfl rfl T.B.list dX (aa 1)))
   (ag (cU 6 k (gX ah))
   (ag (aO false 7 k (aD T.d_least_free (yH T) n (ae (jL (NC:= ["q","dyeing"]) (src:= [none,some 1]) rfl (kA (aw iS)) #[rfl,rfl,trivial] (bA (aa 4)) (λ_ _ _=>(bI 0 (show(["q","dyeing"]:List Str).Nodup from by decide+kernel))) (λ_ _ _=>dF) (λ_ _ _=>(aB (aa 1) (aa 0)))) (ae (aa 3) ah))))
   (ag (bp (aG kE (aa 7) bB (aP _)) (ag (aO false 8 k (aD T.d_freeing_exchange (pT T) n (ae (aa 0) (ae (aa 1) (ae (aa 4) ah)))))
   (ag (bp (aG kE (aa 8) bB (aP _)) (aq (Ae 5 6)) aM)
   (ag (wU (aa 8) (iB 2 rfl (bF (aR 9 k) (bF (aR 10 k) e9))))
   (ag (aO false 7 k (aB (aa 1) (aa 9)))
   (ag (cU 5 k (Ab T.d_exchanged (yF T) n (ae (aa 1) (ae (aD T.d_chain ((yE T).imp zY) n (ae (aa 0) (ae (aa 1) (ae (aa 9) (ae (aa 10) ah))))) (ae (aa 7) (ae (aa 10) ah))))))
   (aq (gY false 6 (cK (ae jn (ae (aa 9) (ae (aa 10) ah))))))))))) aM)
   (ag (dR false 5 (aa 2) (aa 7))
   (ag (gY false 6 (cK (ae jn (ae (aa 2) (ae (aa 7) ah)))))
   (aq (Ae 5 6))))))))))),?_]
 obtain⟨c,f,p,m,rfl,m4,m9,g,l1,o,O,u,r,Q,v,J,a5,q⟩:=h;exists _,rfl,c,rfl,g,l1,o,O;have rl:=dG g p;have rng:∀y∈row c p,y<f.length:=λy j=>by rw[r];exact g.rng _ _ j
 exists _,rfl,c,rfl,c,rfl,o,_,rfl,_,dh u;refine iH (ρ:= [none,some (aA f)]) ao (λq=>!decide (f.getD q none=none)) ao (row c p) _ [] _ (λy j Y Nn t1 t2=>?_) #[none,rfl] (small (by rw[j3];lia)) λaT=>?_
 .refine#[_,rfl,_,rfl,_,cC (rng y j),_,rfl,?_]
  cases S:f.getD y none with
  |none=>exact bK (t2 (by rw[S];rfl))
  |some d=>exact c9 #[_,rfl,t1 (by rw[S];rfl)]
 rw[oK,show(.lst (((row c p).filter λq=>!decide (f.getD q none=none)).map ao):D)=az (cQ c f p) from rfl];exists trivial;have ap:eG (f.map oD) (p:Int)\.bC:=by rw[cC (),J];rfl
 have t:∀y∈cQ c f p,y<f.length/\∃d,f.getD y none\d:=λy j=>#[rng y (eZ.mp j).1,(eZ.mp j).2];exists _,rfl,_,rfl,_,ap,_,rfl;have la:((cQ c f p).map ao).length=(cQ c f p).length:=aI _;have al0:(cQ c f p).length<=(row c p).length:=A4 _ _;have lf:(f.map oD).length=f.length:=aI _;refine bK #[_,rfl,_,rfl,_,rfl,mL (GE ()) ?_]
 exists _,rfl;refine#[by show 0<=sizeLine;decide,?_]
 have ei:((cQ c f p).map λx=>oD (f.getD x none))=aS ((cQ c f p).map λq=>(f.getD q none).getD 0):=by
  unfold aS;rw[b7];refine v9 λx i=>?_;obtain⟨d,C⟩:=(t x i).2;rw[Function.comp,C];rfl
 exists _,rfl;refine gz (ρ:= [none,some (aA f)]) ao (λx=>oD (f.getD x none)) (cQ c f p) _ (λx i Y hY=>#[_,rfl,_,rfl,_,cC (t x i).1,hY]) rfl (small ()) λaT=>?_
 rw[ei];refine#[_,rfl,_,(m:Int),rfl,(),(),by rw[aI];lia,λd U X dl dn=>#[trivial,?_],λall=>#[trivial,?_]]
 .refine#[_,rfl,_,rfl,bK ?_]
  have fr:∀y∈row c p,f.getD y none≠some d:=λy j z=>dn (bT.mpr #[y,eZ.mpr #[j,d,z],by rw[z];rfl])
  have M:(cQ c f p).length<=(row c p).length:=A4 _ _;rw[aI] at dl;refine xS (f1:=f) (l0:= []) o () u () q (vI g Q () v #[U,X] fr rfl λ_ _=>aaX) (.free d U X () fr)
 .rw[aI] at all
  obtain⟨l5,un⟩:=CZ a5 all;have M:=A4 (λq=>!decide (f.getD q none=none)) (row c p);have M:(cQ c f p).length<=(row c p).length:=M;have P:=O ()
  refine#[_,rfl,_,rfl,c9 ?_];refine#[_,rfl,_,rfl,_,rfl,c,f,cQ c f p,rfl,g,o,r,(),λx i=>#[by have:=(t x i).1;lia,(t x i).2],λx i y j d C nc=>#[trivial,?_],λh=>(Ju g P J () un h).elim]
  obtain⟨xl,a,I⟩:=t x i;have ax:eG (f.map oD) (x:Int)\(.int a):=by rw[cC xl,I];rfl
  refine#[_,rfl,_,rfl,bK ?_];exists _,rfl;exists rfl,rfl;exists _,rfl,_,rfl,_,ax,trivial;refine#[_,rfl,_,rfl,_,rfl,_,rfl,_,rfl,c,f,x,d,rfl,g,o,(),r,λL L1 N=>?_]
  have Ll:∀x∈L,x<c.length:=λy j=>((N y).mp j).lt g ()
  have Xr:L.length<=14:=by
   have:=aF (l:=L) (m:=ac c.length) (L1.imp λh=>bY h) λx i=>cE.mpr (Ll x i)
   rw[fw] at this;lia
  have el:=eM f L a d;refine#[_,rfl,_,rfl,f,L,a,d,rfl,(),Xr,λx i=>by rw[r];exact Ll x i,?_]
  refine#[_,rfl,_,rfl,_,rfl,_,rfl,by show 3<=sizeLine;decide,trivial,cL ∅,?_]
  obtain⟨G,ad,ef⟩:=FD g Q r u v J i j un I C N nc;have dd:=v y d C;have da:=v x a I;refine xS (ll:=bo 1) (f1:=hJ f L a d) (l0:= [IK x d]) o () u () q G (.hJ x a d L (λe e0 e5=>?_) () I ad dd.1 dd.2 da.1 da.2 L1 N ef)
  obtain⟨z,hz,ez⟩:=bT.mp (all e e0 e5 ())
  obtain⟨zr,dz,Za⟩:=eZ.mp hz;exists z,zr;rw[Za] at ez ⊢;exact GM some ez
variable {P:Program} {w:World} {mg:Str->Option Value} {base:Heap} {Z:DC} (T:Txt Z mg)
def JX:bZ:=λa P=>∃(w:W)(f:List (Option Int))(p:Nat)(d:Int),a= [aL w,aA f,ao p, .int d]/\Good w/\w.length<=14/\p<w.length/\f.length=w.length/\∀L:List Nat,L.Pairwise (·<·)->(∀x,x∈L↔Cr w (gS f p d) p x)->P (az L)
theorem wC:FnOk P w Z.K mg base b9 1 T.d__law_chain.f T.d__law_chain.fd ["_law_turns","_law_dyeing_here","_law_p","_law_dye"] (fg Z 1 JX):=by
 have X:=p8.nd;refine jc 1 T.d__law_chain.F p8 [0,0,0,0,1,0,0] ∅ (λds R h=>by obtain⟨_,_,_,_,rfl,_⟩:=h;rfl) (λbE A outer s H E ds R hr h=>?_)
 have hu:=hr.units
 refine#[_,(ag (cU 4 X (gX (ae (aa 2) ah)))
   (ag (aO false 5 X av)
   (ag (mF FS (aG nN (aa 5) (aE aZ rfl T.B.len aY (ae (aa 4) ah)) (aP _)) (ag (K9 0 rfl FS (aB (aa 4) (aa 5)) (aR 6 X) (aq (bp (DW.dt (lC (aG fQ (aa 6) (aa 4) (by with_unfolding_all rfl)) (jy (aG yD (aB (aa 1) (aa 6)) (cK (ae (aB (aa 1) (aa 2)) (ae (aa 3) ah))) (by with_unfolding_all rfl))))) (aq (gY false 4 (aa 6))) aM)))
   (aq (aO false 5 X (aH bL (aa 5) av)))))
   (aq (Ds (IF rfl T.B.sorted (aa 4))))))),?_]
 obtain⟨u,f,p,d,rfl,g,dZ,hp,fl,q⟩:=h;refine#[_,rfl,by show 1<=sizeLine;decide,?_]
 exists trivial
 have few:∀fs:List Nat,fs.Nodup->(∀x∈fs,Cr u (gS f p d) p x)->fs.length<=14:=λfs J C=>by
  have:=aF (m:=ac u.length) J λx l=>cE.mpr ((C x l).lt g hp)
  rw[fw] at this;lia
 refine kU (λm ρ=>∃(fs:List Nat)(k:Nat)(o:Option D),ρ= [some (aL u),some (aA f),some (ao p),some (.int d),some (az fs),some (ao k),o]/\fs.Nodup/\(∀x∈fs,Cr u (gS f p d) p x)/\p∈fs/\k<=fs.length/\(∀i,i<k->∀y∈row u (fs.getD i 0),gS f p d y->y∈fs)/\m=20-k) 20 ?_ ?_
 .exact#[[p],0,none,rfl,by simp,λx l=>by rw[cR] at l;subst l;exact .base,by simp,fk _,(λi G=>absurd G ()),rfl]
 rintro m _ ⟨fs,k,o,rfl,J,C,pf,Y,cl,rfl⟩;have f14:=few fs J C;have lf:(fs.map ao).length=fs.length:=aI _;refine#[_,rfl,_,rfl,_,rfl,bw (λN=>?_) λN=>?_]
 .have Y:k<fs.length:=by
   have:=KF N
   lia
  have af:fs.getD k 0∈fs:=getD_mem Y;have al:=(C _ af).lt g hp;have rl:=dG g (fs.getD k 0);exists _,rfl,_,rfl,_,rfl,_,iI Y,_,_,rfl,dh al;refine bU (λj ρ=>∃(c:List Nat)(o:Option D),ρ= [some (aL u),some (aA f),some (ao p),some (.int d),some (az c),some (ao k),o]/\c.Nodup/\(∀x∈c,Cr u (gS f p d) p x)/\(∃t,c=fs++t)/\∀y∈(row u (fs.getD k 0)).take j,gS f p d y->y∈c) #[fs,_,rfl,J,C,#[[],by simp],λy v=>by simp at v] ?_ ?_
  .rintro j _ _ hd ⟨c,o,rfl,O,Q,⟨t,I⟩,S⟩ A hA
   obtain⟨y,v,rfl⟩:=cg hd;have ym:y∈row u (fs.getD k 0):=dH v
   have tk:(row u (fs.getD k 0)).take (j+1)=(row u (fs.getD k 0)).take j++ [y]:=by
    rw[qy,v];rfl
   have f2:=few c O Q
   have keep:(y∈c\/¬gS f p d y)->A [some (aL u),some (aA f),some (ao p),some (.int d),some (az c),some (ao k),some (ao y)]:=λhk=>by
    refine hA _ #[c,some (ao y),rfl,O,Q,#[t,I],λz r ok=>?_];rw[tk] at r
    rcases b6.mp r with r|r
    .exact S z r ok
    .rw[cR] at r
     subst r;exact hk.elim id λh=>absurd ok h
   exists _,rfl,_,rfl,rfl,cY _,_,rfl;refine(?_:if (if true=true then !inD (ao y) (c.map ao) else _)=true then _ else _);rw[ir rfl,jz];refine bw (λU=>?_) (λU=>?_)
   .have U:y∉c:=by simpa using U
    refine#[_,rfl,_,rfl,_,cC (by have:=g.rng _ _ ym;lia),_,rfl,_,rfl,_,cC (),_,rfl,by show 2<=sizeLine;decide,yC _,gb [f.getD p none,some d],_,rfl,?_]
    refine(?_:if (if false=true then _ else inD (oD (f.getD y none)) [oD (f.getD p none), .int d])=true then _ else _);rw[mo dA];refine bw (λok=>?_) (λok=>?_)
    .have ok:=(w4 f p d y).mp ok
     refine#[_,rfl,_,rfl,trivial,cL (by rw[aI];lia),?_]
     refine hA _ #[c++ [y],some (ao y),?_,?_,?_,#[t++ [y],by rw[I,i5]],λz r ok=>?_]
     .have:az (c++ [y])= .lst (c.map ao++ [ao y]):=by unfold az;rw[cW];rfl
      rw[this];rfl
     .rw[eE]
      refine#[O,by simp,λx l z r e=>U ?_]
      rw[cR] at r;rw[<-r,<-e];exact l
     .intro x l
      rcases b6.mp l with l|l
      .exact Q x l
      .rw[cR] at l
       subst l;exact .step (C _ af) ym ok
     .rw[tk] at r
      rcases b6.mp r with r|r
      .exact fi _ (S z r ok)
      .exact di _ r
    .exact keep (.inr λz=>by rw[(w4 f p d y).mpr z] at ok;cases ok)
   .exact bK (keep (.inl (~~~U)))
  .rintro _ ⟨c,o,rfl,O,Q,⟨t,I⟩,S⟩
   rw[aI,oJ] at S;exists _,rfl,trivial
   have g2:∀i,i<fs.length->c.getD i 0=fs.getD i 0:=λi G=>by
    rw[I,bS,bS,kX G]
   have l2:fs.length<=c.length:=by rw[I,cD];lia
   have s2:∀x∈fs,x∈c:=λx l=>by rw[I];exact fi _ l
   refine#[20-(k+1),(),c,k+1,o,rfl,O,Q,s2 p pf,(),λi G y v ok=>?_,rfl]
   rw[g2 i ()] at v
   by_cases e:i=k
   .subst e;exact S y v ok
   .exact s2 y (cl i () y v ok)
 .have Y:¬(k<fs.length):=λh=>by
   have:=M2 N
   lia
  refine#[_,rfl,fs.map λ(n:Nat)=>(n:Int),?_,by rw[aI];lia,λks pm GJ=>?_]
  .rw[b7];rfl
  obtain⟨L,e1,e2,e3⟩:=Ax pm GJ J;rw[e1];refine q L e2 λx=>?_;rw[e3.mem_iff];refine#[C x,λl=>?_];refine l.all (M:=λx=>x∈fs) pf λa b ha N hk=>?_;obtain⟨i,G,e⟩:=zq.mp ha;refine cl i () b ?_ hk
  rw[bS,cM G];show b∈row u fs[i];rw[e];exact N
end oW
namespace L2
open PySem PySem.Spec PyProof.Rows PyProof
section
variable {Z:DC} {X:Cx}
theorem xo{f:Nat->Int}(g:Int->Int->Bool)(e:∀a b,g a b=decide (a<b)):∀k,argBest (λi j=>g (f i) (f j)) k<=k/\∀i,i<=k->f (argBest (λi j=>g (f i) (f j)) k)<=f i
 |0=>#[bo _,λi h=>by(obtain rfl:i=0:=();exact acs _)]
 |k+1=>by
  obtain⟨l,d⟩:=xo (f:=f) g e k;unfold argBest;simp only[e] at l d ⊢
  by_cases c:f (k+1)<f (argBest (λi j=>decide (f i<f j)) k)
  .rw[ir (GT c)]
   refine#[bo _,λi m=>?_]
   by_cases z:i=k+1
   .subst z;exact acs _
   .have:=d i ();lia
  .rw[mo (~~~c)]
   refine#[(),λi m=>?_]
   by_cases z:i=k+1
   .subst z;lia
   .exact d i ()
def Fo(P:X.calm=true):cw X (.builtin "min") (λL H Q=>∃(p:Addr)(c:List Int),L= [.ref p]/\H p\(.tup (c.map V.int))/\c≠ []/\∀n∈c,(∀m∈c,n<=m)->Q (.int n) H):=by
 intro M s σ H L us Q I R h;obtain⟨p,c,rfl,S,T,q⟩:=h;obtain⟨u,rfl,U⟩:=R.one;subst U;obtain⟨d,r,z,hz⟩:=I.tuple (fY.of S);have Y:=r.length;rw[aI] at Y;have HA:0<c.length:=wa.mpr T
 have C:∀i:Nat,(g:i<c.length)->∃t,d[i]?\(.int c[i] t):=λi g=>by
  obtain⟨w,hw,Z⟩:=r.get (i:=i) (x:= .int c[i]) (by rw[cG,cM g];rfl)
  obtain⟨t,rfl⟩:=Z;exact#[t,hw]
 refine call_min_walk (wpAny_pyIter_tuple z ?_)
 have nI:p≠s.heap.objs.size:=by
  obtain⟨o,E,_⟩:=z;exact bY (Fk E)
 let f:Nat->Int:=λi=>c.getD i 0
 have B:∀k,(y:k<c.length)->f k=c[k]:=λk y=>by
  show c.getD k 0=_;rw[bS,cM y];rfl
 refine#[_,_,_,d.toArray.size,_,_,λi j=>(λa b=>decide (a<b)) (f i) (f j),rfl,Walks.tuple (show X.A.in1.handled=none from I.ok.hd P) s.heap.objs.size p nI d.toArray,#[#[_,Gc _ rfl,rfl,rfl],z.push _],?_,?_,?_,?_]
 .intro b hb
  have:b=s.heap.objs.size\/b=p:=by simpa using hb
  obtain⟨o,E,_⟩:=z;have lt:=Fk E;have e:(s.heap.push {cls:= .type "tuple_iterator",data:= .fields [.ref p, .int 0 0].toArray}).objs.size=s.heap.objs.size+1:=by simp[Heap.push]
  rcases this with rfl|rfl
  .exact u4 (u7 _) e.symm
  .exact u4 (rL lt) e.symm
 .rw[cH];lia
 .intro i j u v s' Q' E' BJ lW hq
  have F:d[i]?\u:=by simpa using BJ
  have l:d[j]?\v:=by simpa using lW
  have g:i<c.length:=by have:=(eC.mp F).1;lia
  have N:j<c.length:=by have:=(eC.mp l).1;lia
  obtain⟨t1,h1⟩:=C i g;obtain⟨t2,h2⟩:=C j N;rw[h1] at F;rw[h2] at l;obtain rfl:=Do F;cases Do l;have xZ:Q' (.bool (decide (c[i]<c[j]))) s':=by rw[<-B i g,<-B j N];exact hq
  exact HT.AR _ _ _ _ _ _ _ _ _ _ xZ
 .intro v h' tk O kk
  have kept:∀b o,s.heap.get? b\o->h'.get? b\o:=λb o e=>kk b o (by simp;exact bY (Fk e)) (AC _ e)
  obtain⟨y,G⟩:=xo (f:=f) (λa b=>decide (a<b)) (λ_ _=>rfl) (d.toArray.size-1);generalize argBest (λi j=>(λa b=>decide (a<b)) (f i) (f j)) (d.toArray.size-1)=k at O y G;rw[cH] at y G;have J:k<c.length:=()
  have l:d[k]?\v:=by simpa using O
  obtain⟨t,ht⟩:=C k J;rw[ht] at l;cases Do l;refine#[.int c[k],H,I.kept kept,#[t,rfl],q _ (jY J) λm xW=>?_];obtain⟨i,g,rfl⟩:=zq.mp xW
  have:=G i ()
  rw[B i g,B k J] at this;exact this
def Q6:bZ:=λb P=>∃a:List Int,b= [.tup (a.map D.int)]/\a≠ []/\∀n∈a,(∀m∈a,n<=m)->P (.int n)
def Ky(b:X.calm=true):cw X (.builtin "min") (hU Z Q6):=by
 refine(Fo b).imp ?_;intro l H Q c;rfl';obtain⟨G,o,P,s,dv,⟨f,rfl,g,i⟩,q⟩:=c;obtain⟨v,rfl,a⟩:=dv.ofOne;obtain⟨p,r,rfl,h,e⟩:=a.pO;ac_rfl;rw[mG e] at h;exact#[p,f,rfl,s _ _ h,g,λn j k=>q _ (i n j k) _ G H (.refl s) (.int n)]
end
end L2
namespace oW
open PySem L2 Wb
variable {P:Program} {w:World} {mg:Str->Option Value} {base:Heap} {Z:DC} (T:Txt Z mg)
open Wy
def PD:bZ:=λa P=>∃(f:List (Option Int))(p:Nat)(d:Option Int),a= [aA f,ao p,oD d]/\p<f.length/\P (aA (f.set p d))
def kF:FnOk P w Z.K mg base b9 1 T.d__law_with.f T.d__law_with.fd ["_law_dyeing_here","_law_p","_law_dye"] (fg Z 1 PD):=by
 have a:=rz.nd;refine jc 1 T.d__law_with.F rz [0,0,0,1] ∅ (λb R h=>by obtain⟨_,_,_,rfl,_⟩:=h;rfl) (λi A outer s H E b R c h=>?_)
 have j:=c.units
 refine#[_,(ag (cU 3 a (kC rfl rfl T.B.list dX (aa 0)))
   (ag (dR false 3 (aa 1) (aa 2))
   (aq (xK 3)))),?_]
 obtain⟨f,p,d,rfl,e,q⟩:=h;have ld:(f.map oD).length=f.length:=aI _;exists _,rfl;have g:(f.map oD).set p (oD d)=(f.set p d).map oD:=by rw[qA]
 refine#[_,rfl,trivial,_,rfl,_,rfl,_,_,rfl,uF (by rw[ld];exact e),?_]
 have:=q
 unfold aA at this;rw[<-g] at this;exact#[_,rfl,this]
def KI{P:D->Prop}(h:P (.bl (!decide (a=b)))):rR (.str a) (.str b) P:=#[.str a, .str b,rfl,rfl,by simp[PyData.depth],by
 have:PyData.eqv (.str a) (.str b)=decide (a=b):=by
  rw[PyData.eqv]
  by_cases z:a=b<;>simp[z]
 rw[ir rfl,this];exact h]
def J0:bZ:=λa P=>∃(s:Str)(x n m:Nat)(d:Int),a= [.tup [.str s,ao x, .int d], .str s,ao n, .int m]/\x<n/\0<=d/\d<m/\P (.bl true)
def je:FnOk P w Z.K mg base b9 2 T.d__law_is_deed.f T.d__law_is_deed.fd ["_law_deed","_law_word","_law_points","_law_many"] (aX Z J0):=by
 have j:=mT.nd;refine ba T.d__law_is_deed.F mT [0,0,0,0] ∅ (λg R h=>by obtain⟨_,_,_,_,_,rfl,_⟩:=h;rfl) (λl A outer s H E g R a h=>?_)
 have b:=a.units
 refine#[_,(ag (bp (DW.dt (fB (eJ (dr (lB "tuple" (aa 0) rfl T.B.isinstance rfl T.B.tuple z8))) (fB (aG (f9 b) (aE aZ rfl T.B.len aY (ae (aa 0) ah)) av (aP _)) (gx (aG (f9 b) (aB (aa 0) av) (aa 1) (aP _)))))) (aq (aJ jb)) aM)
   (ag (bp (DW.dt (fB (eJ (dr (aD T.d__law_whole (pS T) a (ae (aB (aa 0) av) ah)))) (fB (eJ (dr (aD T.d__law_whole (pS T) a (ae (aB (aa 0) av) ah)))) (gx (aG nN (aE (Ky rfl) rfl T.B.min sI (ae (eI (aa 0) (fI av) fH) ah)) av (aP _)))))) (aq (aJ jb)) aM)
   (aq (aJ (qE (lA nN (aB (aa 0) av) (aa 2) (aP _)) (wQ (lA nN (aB (aa 0) av) (aa 3) (aP _)))))))),?_]
 obtain⟨s,x,n,m,d,rfl,o,p,i,q⟩:=h;refine#[_,rfl,rfl,rfl,bK ?_];exists _,rfl;dsimp only[lu,vo,dC];refine(?_:rR (.int 3) (.int 3) _);refine mD #[_,rfl,bK ?_];refine#[_,rfl,_,rfl,_,rfl,KI #[_,rfl,mL (by simp) ?_]]
 refine#[_,rfl,_,rfl,_,rfl,rfl,bK ?_];refine#[_,rfl,_,rfl,_,rfl,rfl,bK ?_];refine#[_,rfl,λz=>absurd z.1 (show ¬HT.cj 3 0 (some 1)=0 by decide),[(x:Int),d],rfl,by simp,λk c _=>?_]
 have r:0<=k:=by
  simp only[bH,List.not_mem_nil,or_false] at c
  rcases c with rfl|rfl<;>lia
 refine#[_,rfl,mL (GE ()) ?_]
 refine#[_,rfl,_,rfl,_,rfl,_,rfl,bw (λ_=>?_) (λe=>absurd (show(x:Int)<(n:Int) by lia) (M2 e))]
 exists _,rfl,_,rfl,_,rfl;refine(?_:R (.bl (decide (d<(m:Int)))));rw[GT i];exact q
def M9:bZ:=λb P=>∃(w:W)(f:List (Option Int))(p m:Nat),b= [aL w,aA f,ao p, .int m]/\Good w/\w.length<=14/\p<w.length/\f.length=w.length/\m<1000/\∀a:List Int,a.length<=15->(∀d,d∈a↔0<=d/\d<m/\d<=((row w p).length:Int)/\∀q∈row w p,f.getD q none≠some d)->P (.lst (aS a))
def qZ:FnOk P w Z.K mg base b9 1 T.d__law_free.f T.d__law_free.fd ["_law_turns","_law_dyeing_here","_law_p","_law_many"] (aX Z M9):=by
 have C:=rm.nd;refine ba T.d__law_free.F rm [0,0,0,0,0] ∅ (λG R h=>by obtain⟨_,_,_,_,rfl,_⟩:=h;rfl) (λbE A outer s H E G R I h=>?_)
 have hu:=I.units
 refine#[_,(ag (aO false 4 C (jL (NC:= ["_law_q","_law_dyeing_here"]) (src:= [none,some 1]) rfl (kA (aw iP)) #[rfl,rfl,trivial] (bA (aB (aa 0) (aa 2))) (λ_ _ _=>(bI 0 (show(["_law_q","_law_dyeing_here"]:List Str).Nodup from by decide+kernel))) (λ_ _ _=>dF) (λ_ _ _=>(aB (aa 1) (aa 0)))))
   (aq (aJ (jL (NC:= ["_law_dye","_law_taken"]) (src:= [none,some 4]) rfl (kA (aw iP)) #[rfl,rfl,trivial] (nE rfl T.B.range (ae (aE (sM rfl) rfl T.B.min sI (ae (aa 3) (ae (aH bL (aE aZ rfl T.B.len aY (ae (aa 4) ah)) av) ah))) ah)) (λ_ _ _=>(bI 0 (show(["_law_dye","_law_taken"]:List Str).Nodup from by decide+kernel))) (λ_ _ _=>(jx (aG fQ (aa 0) (aa 1) (by with_unfolding_all rfl)))) (λ_ _ _=>(aa 0)))))),?_]
 obtain⟨b,f,p,m,rfl,g,fo,J,fl,m9,q⟩:=h;have rl:=dG g p;exists _,rfl,_,rfl,_,dh J;refine gz (ρ:= [none,some (aA f)]) ao (λx=>oD (f.getD x none)) (row b p) _ (λx i Y L=>#[_,rfl,_,rfl,_,cC (by have:=g.rng _ _ i;lia),L]) rfl (small ()) λM=>?_
 have N:((row b p).map λx=>oD (f.getD x none))=((row b p).map λx=>f.getD x none).map oD:=by rw[b7];rfl
 rw[N];have j:∀c:Option Int,c∈((row b p).map λx=>f.getD x none)↔∃x∈row b p,f.getD x none=c:=λc=>bT;have O:((row b p).map λx=>f.getD x none).length=(row b p).length:=aI _;generalize ((row b p).map λx=>f.getD x none)=a at j O;have Q:(a.map oD).length=a.length:=aI _;exists trivial;refine#[_,rfl,_,rfl,_,_,rfl,#[by split<;>lia,by split<;>lia],?_]
 obtain⟨n,l⟩:∃n:Nat,n=(if ((a.map oD).length:Int)+1<m then((a.map oD).length:Int)+1 else m).toNat:=#[_,rfl]
 have u:∀k:Int,(0<=k/\k<(n:Int))↔(0<=k/\k<m/\k<=((row b p).length:Int)):=λk=>by
  split at l<;>lia
 have S:n<=15:=by split at l<;>lia
 rw[<-l,kJ];refine iH (ρ:= [none,some (aA a)]) ao (λ(k:Nat)=>!decide (some (k:Int)∈a)) ao (ac n) _ [] _ (λk v Y Nn U X=>?_) #[none,rfl] (small (by rw[j3,fw];lia)) λM=>?_
 .have e:inD (ao k) (a.map oD)=decide (some (k:Int)∈a):=tq (some (k:Int)) a
  exists _,rfl,_,rfl,rfl,gb _,_,rfl;rw[ir rfl,e];exact bw (λe=>#[_,rfl,U e]) (λe=>X e)
 .have e2:((ac n).filter λ(k:Nat)=>!decide (some (k:Int)∈a)).map ao=aS (((ac n).filter λ(k:Nat)=>!decide (some (k:Int)∈a)).map λ(k:Nat)=>(k:Int)):=by unfold aS;rw[b7];rfl
  rw[oK,e2];have lf:=A4 (λ(k:Nat)=>!decide (some (k:Int)∈a)) (ac n);rw[fw] at lf;refine q _ (by rw[aI];lia) λd=>?_
  rw[bT]
  constructor
  .rintro⟨k,v,rfl⟩
   obtain⟨y,h2⟩:=jI.mp v;have y:=cE.mp y;obtain⟨o,r,t⟩:=(u k).mp #[(),()]
   refine#[o,r,t,λx i z=>?_]
   have:some (k:Int)∉a:=by simpa using h2
   exact this ((j _).mpr #[x,i,z])
  .rintro⟨o,r,t,a4⟩
   have:=(u d).mpr #[o,r,t]
   refine#[d.toNat,jI.mpr #[cE.mpr (),?_],()]
   rw[show((d.toNat:Nat):Int)=d by lia]
   simp only[abU,decide_eq_false_iff_not];intro z;obtain⟨x,i,e⟩:=(j _).mp z;exact a4 x i e
def J2:bZ:=λa P=>∃(w:W)(f:List (Option Int))(p:Nat)(d:Int),a= [aL w,aA f,ao p, .int d]/\Good w/\w.length<=14/\p<w.length/\f.length=w.length/\(∀q∈row w p,f.getD q none≠some d)/\P (.bl true)
def mP:FnOk P w Z.K mg base b9 1 T.d__law_is_free.f T.d__law_is_free.fd ["_law_turns","_law_dyeing_here","_law_p","_law_dye"] (aX Z J2):=by
 have o:=mU.nd;refine ba T.d__law_is_free.F mU [0,0,0,0] ∅ (λc R h=>by obtain⟨_,_,_,_,rfl,_⟩:=h;rfl) (λr A outer s H E c R i h=>?_)
 have t:=i.units;refine#[_,(aq (aJ (lA fQ (aa 3) (jL (NC:= ["_law_q","_law_dyeing_here"]) (src:= [none,some 1]) rfl (kA (aw g5)) #[rfl,rfl,trivial] (bA (aB (aa 0) (aa 2))) (λ_ _ _=>(bI 0 (show(["_law_q","_law_dyeing_here"]:List Str).Nodup from by decide+kernel))) (λ_ _ _=>dF) (λ_ _ _=>(aB (aa 1) (aa 0)))) (by with_unfolding_all rfl)))),?_]
 obtain⟨a,f,p,d,rfl,g,u,j,v,k,q⟩:=h;have y:=dG g p;exists _,rfl,_,rfl,_,rfl,_,dh j;refine gz (ρ:= [none,some (aA f)]) ao (λx=>oD (f.getD x none)) (row a p) _ (λx b Y l=>#[_,rfl,_,rfl,_,cC (by have:=g.rng _ _ b;lia),l]) rfl (small ()) λB=>?_
 have m:((row a p).map λx=>oD (f.getD x none))=((row a p).map λx=>f.getD x none).map oD:=by rw[b7];rfl
 rw[m];exists rfl,gb _;have n:inD (.int d) (((row a p).map λx=>f.getD x none).map oD)=decide (some d∈(row a p).map λx=>f.getD x none):=tq (some d) _;rw[ir rfl,n,GE λz=>?_]
 .exact q
 .obtain⟨x,b,e⟩:=bT.mp z
  exact k x b e
def Tj:bZ:=λb P=>∃(w:W)(f:List (Option Int))(x:Nat)(a d:Int)(L:List Nat),b= [aL w,aA f,ao x, .int d]/\Good w/\w.length<=14/\x<w.length/\f.length=w.length/\f.getD x none\a/\L.Pairwise (·<·)/\(∀y,y∈L↔Cr w (gS f x d) x y)/\P (aA (hJ f L a d))
theorem se:FnOk P w Z.K mg base b9 2 T.d__law_exchanged.f T.d__law_exchanged.fd ["_law_turns","_law_dyeing_here","_law_q","_law_dye"] (aX Z Tj):=by
 have r:=kO.nd;refine ba T.d__law_exchanged.F kO [0,0,0,0,1,0] ∅ (λN R h=>by obtain⟨_,_,_,_,_,_,rfl,_⟩:=h;rfl) (λbE A outer s H E N R t h=>?_)
 have O:=t.units
 refine#[_,(ag (cU 4 r (kC rfl rfl T.B.list dX (aa 1)))
   (ag (cT rfl FS (bA (aD T.d__law_chain ((wC T).imp zY) t (ae (aa 0) (ae (aa 1) (ae (aa 2) (ae (aa 3) ah)))))) (aR 5 r) (aq (dR false 4 (aa 5) (aH nO (aH bL (aB (aa 1) (aa 2)) (aa 3)) (aB (aa 1) (aa 5))))))
   (aq (aJ (aa 4))))),?_]
 obtain⟨m,f,x,a,d,L,rfl,g,Q,G,S,n,U,I,q⟩:=h
 have X:∀y∈L,y<m.length/\(f.getD y none\a\/f.getD y none\d):=λy i=>by
  have C:=(I y).mp i;exists C.lt g G;exact C.all (M:=λy=>f.getD y none\a\/f.getD y none\d) (.inl n) λu v O hv Y=>Y.imp (λz=>z.trans n) id
 exists _,rfl;refine#[_,rfl,_,rfl,_,rfl,_,rfl,m,f,x,d,rfl,g,Q,G,S,λb Xq Xt=>?_];obtain rfl:b=L:=A0 Xq U λy=>(Xt y).trans (I y).symm;refine bU (λj ρ=>∃(h:List (Option Int))(o:Option D),ρ= [some (aL m),some (aA f),some (ao x),some (.int d),some (aA h),o]/\h.length=f.length/\∀y,y<f.length->h.getD y none=if y∈b.take j then sw a d (f.getD y none) else f.getD y none) #[f,_,rfl,rfl,λy i=>by rw[mo (by simp)]] ?_ ?_
 .rintro j _ _ hd ⟨h,o,rfl,p,k⟩ A hA
  obtain⟨y,i,rfl⟩:=cg hd;have ym:=dH i;obtain⟨yl,yc⟩:=X y ym;have tk:b.take (j+1)=b.take j++ [y]:=by rw[qy,i];rfl
  obtain⟨c,J,hs⟩:∃c,f.getD y none\c/\sw a d (some c)\(a+d-c):=by
   rcases yc with e|e
   .refine#[a,e,?_]
    unfold sw;rw[ir rfl];congr 1;lia
   .refine#[d,e,?_]
    unfold sw
    split
    .next z=>cases z;congr 1;lia
    .rw[ir rfl];congr 1;lia
  have ax:eG (f.map oD) (x:Int)\(.int a):=by rw[cC (),n];rfl
  have Yb:eG (f.map oD) (y:Int)\(.int c):=by rw[cC (),J];rfl
  have ix:iw (h.map oD).length (y:Int)\y:=by rw[aI];exact lF ()
  exists _,rfl,_,rfl,_,ax,_,rfl,_,rfl,_,rfl,_,Yb,trivial,_,rfl,_,rfl,_,y,rfl,ix;refine hA _ #[h.set y (some (a+d-c)),some (ao y),?_,by rw[fj,p],λz hz=>?_]
  .have e:aA (h.set y (some (a+d-c)))= .lst ((h.map oD).set y (.int (a+d-c))):=by unfold aA;rw[qA];rfl
   rw[e];rfl
  .rw[cF (),tk]
   by_cases e:z=y
   .subst e
    rw[ir rfl,ir (by simp),J,hs]
   .rw[mo e,k z hz]
    have:z∈b.take j++ [y]↔z∈b.take j:=by simp[e]
    by_cases l:z∈b.take j
    .rw[ir l,ir (this.mpr l)]
    .rw[mo l,mo λq3=>l (this.mp q3)]
 .rintro _ ⟨h,o,rfl,p,k⟩
  rw[aI,oJ] at k
  have:h=hJ f b a d:=tJ (by rw[eM,p]) λy i=>by rw[j8 (),k y ()]
  rw[this];exact#[_,rfl,q]
def dD(t:Str×Nat×Int):D:= .tup [.str t.1,ao t.2.1, .int t.2.2]
def El{P:D->Prop}(h:gf l\c)(f:(PyData.list c).depth<=64)(q:P (.bl (!l.isEmpty))):rR (.lst l) (.lst []) P:=by
 refine#[.list c, .list [],by rw[D.py,h];rfl,rfl,f,?_]
 have:PyData.eqv (.list c) (.list [])=l.isEmpty:=by
  cases l with
  |nil=>
   have:c= []:=(Do h).symm
   rw[this];decide
  |cons a l=>
   cases c with
   |nil=>
    rw[gf] at h;cases e:a.py with
    |none=>rw[e] at h;cases h
    |some x=>
     rw[e] at h;cases d:gf l with
     |none=>rw[d] at h;cases h
     |some y=>rw[d] at h;cases h
   |cons b c=>rw[PyData.eqv];rfl
 rw[ir rfl,this];exact q
def Ek{P:D->Prop}(q:P (.bl (!l.isEmpty))):rR (.lst (aS l)) (.lst []) P:=by
 refine El (jg (g:=λi=>PyData.int i) (λi=>rfl) l) ?_ (by unfold aS;rw[List.isEmpty_map];exact q)
 rw[PyData.depth]
 have:=fO (f:=λi:Int=>PyData.int i) (k:=1) (λt=>by simp[PyData.depth]) l
 lia
def AH{l:List (Str×Nat×Int)}{P:D->Prop}(q:P (.bl (!l.isEmpty))):rR (.lst (l.map dD)) (.lst []) P:=by
 refine El (jg (g:=λt:Str×Nat×Int=>PyData.tuple [.str t.1, .int t.2.1, .int t.2.2]) (λi=>rfl) l) ?_ (by rw[List.isEmpty_map];exact q)
 rw[PyData.depth]
 have:=fO (f:=λt:Str×Nat×Int=>PyData.tuple [.str t.1, .int t.2.1, .int t.2.2]) (k:=3) (λt=>by simp[PyData.depth,PyData.depthAll]) l
 lia
def Pw:bZ:=λc P=>∃(w:W)(f a:List (Option Int))(p m:Nat)(l:List D)(b:List (Str×Nat×Int)),c= [aL w,aA f,ao p, .int m, .lst (l++b.map dD)]/\Good w/\w.length<=14/\p<w.length/\f.length=w.length/\b.length<=30/\m<1000/\Ih w f p m a l/\P (.tup [aA a,ao l.length])
def jo:FnOk P w Z.K mg base b9 3 T.d__law_done.f T.d__law_done.fd ["_law_turns","_law_dyeing_here","_law_p","_law_many","_law_deeds"] (aX Z Pw):=by
 have I:=rj.nd;refine ba T.d__law_done.F rj [0,0,0,0,0,0,0] ∅ (λO R h=>by obtain⟨_,_,_,_,_,_,_,rfl,_⟩:=h;rfl) (λbE A outer s H E O R c h=>?_)
 have o:=c.units
 refine#[_,(ag (aO false 5 I (aD T.d__law_free (qZ T) c (ae (aa 0) (ae (aa 1) (ae (aa 2) (ae (aa 3) ah))))))
   (ag (bp (DW.dt (lC (aG (f9 o) (aa 4) (c7 ah) (aP _)) (jy (aG (f9 o) (aa 5) (c7 ah) (aP _))))) (ag (bp (DW.dt (fB (eJ (dr (aD T.d__law_is_deed (je T) c (ae (aB (aa 4) av) (ae jn (ae (aE aZ rfl T.B.len aY (ae (aa 0) ah)) (ae (aa 3) ah))))))) (gx (aG (f9 o) (aB (aB (aa 4) av) av) (aa 2) (aP _))))) (aq (aJ bB)) aM)
   (ag (bp (eJ (dr (aD T.d__law_is_free (mP T) c (ae (aa 0) (ae (aa 1) (ae (aa 2) (ae (aB (aB (aa 4) av) av) ah))))))) (aq (aJ bB)) aM)
   (aq (aJ (cK (ae (aD T.d__law_with ((kF T).imp zY) c (ae (aa 1) (ae (aa 2) (ae (aB (aB (aa 4) av) av) ah)))) (ae av ah))))))) aM)
   (ag (bp (DW.dt (fB (aG nN (aE aZ rfl T.B.len aY (ae (aa 4) ah)) av (aP _)) (gx (eJ (dr (aD T.d__law_is_deed (je T) c (ae (aB (aa 4) av) (ae jn (ae (aE aZ rfl T.B.len aY (ae (aa 0) ah)) (ae (aa 3) ah)))))))))) (aq (aJ bB)) aM)
   (ag (bp (DW.dt (fB (eJ (dr (aD T.d__law_is_deed (je T) c (ae (aB (aa 4) av) (ae jn (ae (aE aZ rfl T.B.len aY (ae (aa 0) ah)) (ae (aa 3) ah))))))) (gx (aG yD (aB (aa 1) (aB (aB (aa 4) av) av)) (cK (ae bB (ae (aB (aB (aa 4) av) av) ah))) (by with_unfolding_all rfl))))) (aq (aJ bB)) aM)
   (ag (aO false 6 I (aD T.d__law_exchanged (se T) c (ae (aa 0) (ae (aa 1) (ae (aB (aB (aa 4) av) av) (ae (aB (aB (aa 4) av) av) ah))))))
   (ag (bp (DW.dt (fB (aG (f9 o) (aB (aB (aa 4) av) av) (aa 2) (aP _)) (gx (eJ (dr (aD T.d__law_is_free (mP T) c (ae (aa 0) (ae (aa 6) (ae (aa 2) (ae (aB (aB (aa 4) av) av) ah)))))))))) (aq (aJ bB)) aM)
   (aq (aJ (cK (ae (aD T.d__law_with ((kF T).imp zY) c (ae (aa 6) (ae (aa 2) (ae (aB (aB (aa 4) av) av) ah)))) (ae av ah))))))))))),?_]
 obtain⟨i,f,f',p,m,l,k,rfl,g,r,C,t,tl,Q,V,q⟩:=h;have lw:(i.map az).length=i.length:=aI _;have lt:(k.map dD).length=k.length:=aI _;refine#[_,rfl,_,rfl,_,rfl,_,rfl,i,f,p,m,rfl,g,r,C,t,Q,λn _ J=>#[trivial,?_]];cases V with
 |free d u v dl M=>
  have G:(!n.isEmpty)=true:=by
   have:=(J d).mpr #[u,v,dl,M]
   cases n with
   |nil=>cases this
   |cons _ _=>rfl
  exists _,rfl;dsimp only[Dh,lu];refine#[∅,AH (l:=("give",p,d)::k) #[_,rfl,c9 ?_]]
  exists _,rfl;dsimp only[Dh,lu];refine#[∅,Ek #[_,rfl,?_]]
  rw[G];refine c9 ?_;have e:eG ([Bv p d]++k.map dD) 0\(Bv p d):=pz (j:=0) rfl;refine#[_,rfl,_,e,_,rfl,_,rfl,_,p,(i.map az).length,m,d,rfl,(),u,v,rfl,bK ?_]
  refine#[_,rfl,_,e,_,rfl,_,rfl,mD #[_,rfl,mL (by simp) ?_]]
  refine#[_,rfl,_,rfl,_,rfl,_,rfl,_,e,_,rfl,i,f,p,d,rfl,g,r,C,t,M,rfl,bK ?_];exact#[_,rfl,_,rfl,_,rfl,_,e,_,rfl,f,p,some d,rfl,(),by show 2<=sizeLine;decide,q]
 |hJ x a d L S U N ad u v X Y L1 Lm ef=>
  have G:(!n.isEmpty)=false:=by
   cases n with
   |nil=>rfl
   |cons b n=>
    obtain⟨b0,bm,bl,bn⟩:=(J b).mp (bP ..);obtain⟨z,hz,ez⟩:=S b b0 bm;exact absurd ez (bn z hz)
  exists _,rfl;dsimp only[Dh,lu];refine#[∅,AH (l:=("exchange",x,d)::("give",p,a)::k) #[_,rfl,c9 ?_]]
  exists _,rfl;dsimp only[Dh,lu];refine#[∅,Ek #[_,rfl,?_]]
  rw[G];refine bK ?_;have e:eG ([IK x d,Bv p a]++k.map dD) 0\(IK x d):=pz (j:=0) rfl;have y:eG ([IK x d,Bv p a]++k.map dD) 1\(Bv p a):=pz (j:=1) rfl;have ll:([IK x d,Bv p a]++k.map dD).length=k.length+2:=by rw[cD,lt];simp only[cv,j3];lia
  have ax:eG (f.map oD) (x:Int)\(.int a):=by rw[cC (),N];rfl
  refine#[_,rfl,_,rfl,mL (GE ()) ?_]
  refine#[_,rfl,_,e,_,rfl,_,rfl,_,x,(i.map az).length,m,d,rfl,(),u,v,rfl,bK ?_]
  refine#[_,rfl,_,y,_,rfl,_,rfl,_,p,(i.map az).length,m,a,rfl,(),X,Y,rfl,bK ?_]
  refine#[_,rfl,_,rfl,_,e,_,rfl,_,ax,_,rfl,_,e,_,rfl,by show 2<=sizeLine;decide,rfl,rfl,_,rfl,mL ?_ ?_]
  .rw[mo dA]
   show inD (.int a) [.bC, .int d]=false;simp[inD,iD,ad,Ne.symm ad]
  exists _,rfl,_,rfl,_,rfl,_,e,_,rfl,_,rfl,_,e,_,rfl,i,f,x,a,d,L,rfl,g,r,U,t,N,L1,Lm,trivial;refine#[_,rfl,_,y,_,rfl,_,rfl,mD #[_,rfl,mL (by simp) ?_]]
  refine#[_,rfl,_,rfl,_,rfl,_,rfl,_,y,_,rfl,i,hJ f L a d,p,a,rfl,g,r,C,by rw[eM,t],ef,rfl,bK ?_]
  exact#[_,rfl,_,rfl,_,rfl,_,y,_,rfl,hJ f L a d,p,some a,rfl,by rw[eM];lia,by show 2<=sizeLine;decide,q]
variable {P:Program} {w:World} {mg:Str->Option Value} {base:Heap} {Z:DC} (T:Txt Z mg)
def Iz(l:List a)(k:Nat):cutD l (some (k:Int)) none=l.drop k:=by
 by_cases h:k<=l.length
 .exact nj l k h
 .unfold cutD
  have b:HT.cj l.length 0 (some (k:Int))=l.length:=by
   simp only[HT.cj]
   split<;>lia
  rw[b,zw (bo _),zw (),List.take_nil]
def Dd(l:List a)(k:Nat):cutD l none (some (k:Int))=l.take k:=by
 by_cases h:k<=l.length
 .exact ja l k h
 .unfold cutD
  have b:HT.cj l.length l.length (some (k:Int))=l.length:=by
   simp only[HT.cj]
   split<;>lia
  have c:HT.cj l.length 0 none=0:=rfl;rw[b,c,List.drop_zero,Nat.sub_zero,oJ,E5 ()]
theorem vj.take{r a:List Nat}(h:vj r a)(f:0<n):vj r (a.take n):=by
 obtain⟨g,b,c,d⟩:=h;refine#[by rw[i6];lia,λk e=>b k (CM e),?_,d.sublist (zu ..)]
 rw[rM];exact c.sublist (zu ..)
def Lk(h:0<r.length):vj r ((ac r.length).filter λk=>!decide (r.getD k 0∈r.take k)):=by
 have mk:∀{k:Nat},k∈(ac r.length).filter (λk=>!decide (r.getD k 0∈r.take k))↔k<r.length/\r.getD k 0∉r.take k:=λ {k}=>by
  rw[jI,cE];simp
 have inc:((ac r.length).filter λk=>!decide (r.getD k 0∈r.take k)).Pairwise (·<·):=A6.filter _;refine#[rG (mk.mpr #[h,by simp]),λk c=>(mk.mp c).1,?_,inc]
 rw[oI,jG];refine inc.imp_of_mem λ {a b} d f lt e=>(mk.mp f).2 ?_;rw[<-e];have g:=(mk.mp d).1;refine dH (i:=a) ?_;rw[E4 lt,bS,cM g];rfl
theorem AS:∀n:Nat,(aj n [D.bC]).flatten=(aj n (none:Option Int)).map oD
 |0=>rfl
 |n+1=>by rw[uf,i4,AS n];rfl
def Tn:bZ:=λa P=>∃(w:W)(x:Int),a= [aL w, .int x]/\Good w/\1<=w.length/\w.length<=13/\(2<=w.length->lQ w)/\∀v,Good v->v.length=w.length+1->lQ v->P (aL v)
def B3:FnOk P w Z.K mg base b9 2 T.d__law_hub.f T.d__law_hub.fd ["_law_turns","_law_number"] (aX Z Tn):=by
 have d:=tV.nd;refine ba T.d__law_hub.F tV [0,0,0,0,0,0] ∅ (λN R h=>by obtain⟨_,_,rfl,_⟩:=h;rfl) (λbE A outer s H E N R a h=>?_)
 have O:=a.units
 refine#[_,(ag (aO false 2 d (aD T.d__law_lands (pR T) a (ae (aa 0) ah)))
   (ag (aO false 3 d (aE (Kw rfl) rfl T.B.max wO (ae (jL (NC:= ["_law_row"]) (src:= [none]) rfl (kA (aw h8)) trivial (bA (aa 2)) (λ_ _ _=>(bI 0 (show(["_law_row"]:List Str).Nodup from by decide+kernel))) (λ_ _ _=>dF) (λ_ _ _=>(aE aZ rfl T.B.len aY (ae (aa 0) ah)))) ah)))
   (ag (aO false 4 d (aB (jL (NC:= ["_law_row","_law_longest"]) (src:= [none,some 3]) rfl (kA (aw h8)) #[rfl,rfl,trivial] (bA (aa 2)) (λ_ _ _=>(bI 0 (show(["_law_row","_law_longest"]:List Str).Nodup from by decide+kernel))) (λ_ _ _=>(jx (aG (fD O) (aE aZ rfl T.B.len aY (ae (aa 0) ah)) (aa 1) (aP _)))) (λ_ _ _=>(aa 0))) av))
   (ag (mE 5 (NC:= ["_law_k","_law_land"]) (src:= [none,some 4]) rfl d (kA (aw h8)) #[rfl,rfl,trivial] (nE rfl T.B.range (ae (aE aZ rfl T.B.len aY (ae (aa 4) ah)) ah)) (λ_ _ _=>(bI 0 (show(["_law_k","_law_land"]:List Str).Nodup from by decide+kernel))) (λ_ _ _=>(jx (aG fQ (aB (aa 1) (aa 0)) (eI (aa 1) fH (fI (aa 0))) (by with_unfolding_all rfl)))) (λ_ _ _=>(aa 0)))
   (aq (aJ (aD T.d__law_grown (pQ T) a (ae (aa 0) (ae (aa 4) (ae (eI (aa 5) fH (fI (aH bL av (aH bW (aa 1) av)))) ah)))))))))),?_]
 obtain⟨v,x,rfl,g,u,Q,S,q⟩:=h;refine#[_,rfl,v,rfl,g,(),(),λb y rl ok _ U=>#[trivial,?_]]
 have lr:(b.map az).length=b.length:=aI _;exists _,rfl;refine gz (ρ:= [none]) az (λr=> .int (r.length:Int)) b _ (λr a Y C=>#[_,rfl,by have:((r.map ao).length:Int)=(r.length:Int):=(by rw[aI]);rw[<-this] at C;exact C]) rfl (small ()) λG=>?_
 refine#[b.map λr=>(r.length:Int),by rw[b7];rfl,by intro z;rw[List.map_eq_nil_iff] at z;rw[z] at y;simp at y,λc X _=>#[trivial,?_]]
 obtain⟨r1,ZH,e1⟩:=bT.mp X;exists _,rfl;refine iH (ρ:= [none,some (.int c)]) az (λr=>decide ((r.length:Int)=c)) az b _ [] _ (λr a Y Nn l m=>?_) #[none,rfl] (small (by rw[j3];lia)) λG=>?_
 .refine#[_,rfl,_,rfl,?_]
  refine(?_:sO (.int ((r.map ao).length:Int)) (.int c) _);rw[aI];exact sP #[_,rfl,bw (λe=>#[_,rfl,l e]) (λe=>m e)]
 have I:r1∈b.filter λr=>decide ((r.length:Int)=c):=jI.mpr #[ZH,GT e1];have i:=rG I;have sub:∀r∈b.filter λr=>decide ((r.length:Int)=c),r∈b:=λr a=>(jI.mp a).1;generalize (b.filter λr=>decide ((r.length:Int)=c))=fs at I i sub;have j:fs.getD 0 []∈fs:=by rw[bS,cM i];exact jY i
 have LB:eG (fs.map az) 0\(az (fs.getD 0 [])):=gr (p:=0) (by rw[cG,bS,cM i];rfl)
 have j:=sub _ j;rw[oK];exists _,LB,trivial;have L:k8 v (fs.getD 0 []):=ok _ j;have q1:=L.ne;have q2:=L.sz;generalize a:fs.getD 0 []=r at*;have o:(r.map ao).length=r.length:=aI _;refine#[_,rfl,#[(),by show((r.map ao).length:Int)<2^62;lia],?_]
 rw[show(((r.map ao).length:Int)).toNat=r.length by lia,kJ]
 refine iH (ρ:= [none,some (az r)]) ao (λk=>!decide (r.getD k 0∈r.take k)) ao (ac r.length) _ [] _ (λk t Y Nn l m=>?_) #[none,rfl] (small (by rw[j3,fw];lia)) λG=>?_
 .have t:=cE.mp t
  exists _,rfl,_,rfl,_,iI t,_,rfl,_,rfl;have ca:cutD (r.map ao) none (some (k:Int))=(r.take k).map ao:=by rw[ja _ _ (by rw[o];lia),rM]
  refine(?_:KH true _ (.lst (cutD (r.map ao) none (some (k:Int)))) _);rw[ca];exists rfl,cY _,_,rfl;rw[ir rfl,jz];exact bw (λe=>#[_,rfl,l e]) (λe=>m e)
 obtain⟨n,hn,n0⟩:∃n:Nat,4+x%10=(n:Int)/\0<n:=by
  have:=jd x 10 ∅
  exact#[(4+x%10).toNat,(),()]
 have J:=(Lk q1).take n0;rw[oK];exists trivial;refine#[_,rfl,_,rfl,_,rfl,_,rfl,(by show(0:Int)<10;decide),?_]
 refine(?_:EN [aL v,az r, .lst (cutD (((ac r.length).filter λk=>!decide (r.getD k 0∈r.take k)).map ao) none (some (4+x%10)))] _);rw[hn,Dd,<-rM];exact#[v,r,_,rfl,g,u,Q,L,J,λv2 M l2 HR=>q v2 M l2 (AN g M L J HR (λn2=>a▸U n2 _ (a▸j)) u S)]
def Py:bZ:=λb P=>∃(n:Nat)(a:List Nat)(x:Int),b= [ao n,az a, .int x]/\n<=14/\a.Nodup/\(∀q∈a,q<n)/\0<a.length/\∀f:List (Option Int),f.length=n->(∀q,q∉a->f.getD q none=none)->Dy a.length f->P (aA f)
def tI:FnOk P w Z.K mg base b9 1 T.d__law_hub_dyes.f T.d__law_hub_dyes.fd ["_law_points","_law_around","_law_number"] (aX Z Py):=by
 have c:=lL.nd;refine ba T.d__law_hub_dyes.F lL [0,0,0,1,0,0] ∅ (λr R h=>by obtain⟨_,_,_,rfl,_⟩:=h;rfl) (λS A outer s H E r R t h=>?_)
 have U:=t.units
 refine#[_,(ag (cU 3 c (Hq (ae bB ah) (aa 0)))
   (ag (cT rfl FS (jw rfl T.B.enumerate (ae (aa 1) ah)) (iB 2 rfl (bF (aR 4 c) (bF (aR 5 c) e9))) (aq (dR false 3 (aa 5) (aH bW (aH bL (aa 4) (aa 2)) (aE aZ rfl T.B.len aY (ae (aa 1) ah))))))
   (aq (aJ (aa 3))))),?_]
 obtain⟨n,b,x,rfl,u,c,v,X,q⟩:=h;have C:(b.map ao).length=b.length:=aI _;have G:=AS n;refine#[by show 1<=sizeLine;decide,_,rfl,(),(),by show 1*_<=sizeLine;exact small (),?_]
 exists _,rfl;refine bU (λj I=>∃(h:List (Option Int))(g i:Option D),I= [some (ao n),some (az b),some (.int x),some (aA h),g,i]/\h.length=n/\(∀q,q∉b->h.getD q none=none)/\Dy b.length h) #[aj n none,none,none,?_,v5,λq _=>?_,λq d a=>?_] ?_ ?_
 .have e:aA (aj n none)= .lst (aj ((n:Int)).toNat [D.bC]).flatten:=by
   rw[ug,G];rfl
  rw[e];rfl
 .rw[bS,rF]
  split<;>rfl
 .rw[bS,rF] at a
  split at a<;>cases a
 .rintro j d _ J ⟨h,g,i,rfl,k,l,m⟩ A L
  obtain⟨Y,M,rfl⟩:=nG J;obtain⟨y,N,rfl⟩:=cg M;have o:y∈b:=dH N;have yl:=v y o;have p:=jd ((j:Int)+x) ((b.map ao).length:Int) ()
  have O:iw (h.map oD).length (y:Int)\y:=by rw[aI];exact lF ()
  exists rfl,rfl;refine#[_,rfl,_,rfl,_,rfl,(),trivial,_,rfl,_,rfl,_,y,rfl,O,?_]
  have Q:aA (h.set y (some (((j:Int)+x)%((b.map ao).length:Int))))= .lst ((h.map oD).set y (.int (((j:Int)+x)%((b.map ao).length:Int)))):=by unfold aA;rw[qA];rfl
  refine L _ #[h.set y (some (((j:Int)+x)%((b.map ao).length:Int))),some (ao j),some (ao y),by rw[Q];rfl,by rw[fj,k],λq a=>?_,λq d a=>?_]
  .rw[cF (),mo λ(z:q=y)=>a (by rw[z];exact o)]
   exact l q a
  .rw[cF ()] at a
   split at a
   .cases a
    rw[C] at p ⊢;exact p
   .exact m q d a
 .rintro _ ⟨h,g,i,rfl,k,l,m⟩
  exact#[_,rfl,q h k l m]
def Ti:bZ:=λa P=>∃(f:List (Option Int))(l k:List Nat),a= [aA f,az l,az k]/\(∀q∈l,q<f.length)/\∀h:List (Option Int),h.length=f.length->(∀q d,h.getD q none\d->f.getD q none\d)->(∀q∈l,q∉k->h.getD q none=none)->P (aA h)
def B2:FnOk P w Z.K mg base b9 1 T.d__law_but.f T.d__law_but.fd ["_law_dyeing_here","_law_some","_law_kept"] (aX Z Ti):=by
 have n:=tU.nd;refine ba T.d__law_but.F tU [0,0,0,1,0] ∅ (λt R h=>by obtain⟨_,_,_,rfl,_⟩:=h;rfl) (λI A outer s H E t R u h=>?_)
 have J:=u.units
 refine#[_,(ag (cU 3 n (kC rfl rfl T.B.list dX (aa 0)))
   (ag (cT rfl FS (bA (aa 1)) (aR 4 n) (aq (bp (aG fQ (aa 4) (aa 2) (by with_unfolding_all rfl)) (aq (dR false 3 (aa 4) bB)) aM)))
   (aq (aJ (aa 3))))),?_]
 obtain⟨f,l,k,rfl,v,q⟩:=h;exists _,rfl;exists _,rfl;refine bU (λj x=>∃(h:List (Option Int))(m:Option D),x= [some (aA f),some (az l),some (az k),some (aA h),m]/\h.length=f.length/\(∀q d,h.getD q none\d->f.getD q none\d)/\∀q∈l.take j,q∉k->h.getD q none=none) #[f,none,rfl,rfl,λ_ _ e=>e,λq a=>by simp at a] ?_ ?_
 .rintro j _ _ z ⟨h,m,rfl,c,g,b⟩ A o
  obtain⟨y,p,rfl⟩:=cg z;have L:=v y (dH p);have r:l.take (j+1)=l.take j++ [y]:=by rw[qy,p];rfl
  exists _,rfl,_,rfl,rfl,cY _,_,rfl;rw[ir rfl,jz];refine bw (λe=>?_) (λe=>o _ #[h,_,rfl,c,g,λq a i=>?_])
  .have C:iw (h.map oD).length (y:Int)\y:=by rw[aI];exact lF ()
   exists trivial,_,rfl,_,rfl,_,y,rfl,C;have G:aA (h.set y none)= .lst ((h.map oD).set y .bC):=by unfold aA;rw[qA];rfl
   refine o _ #[h.set y none,some (ao y),by rw[G];rfl,by rw[fj,c],λq d a=>?_,λq a i=>?_]
   .rw[cF ()] at a
    split at a
    .cases a
    .exact g q d a
   .rw[cF ()]
    split
    .rfl
    .next ne=>
     rw[r] at a
     rcases b6.mp a with a|a
     .exact b q a i
     .exact absurd (cR.mp a) ne
  .rw[r] at a
   rcases b6.mp a with a|a
   .exact b q a i
   .rw[cR] at a;subst a
    exact absurd (~~~e) i
 .rintro _ ⟨h,m,rfl,c,g,b⟩
  rw[aI,oJ] at b;exact#[_,rfl,q h c g b]
def JZ:bZ:=λb P=>∃(w:W)(f:List (Option Int))(p m:Nat)(a:List Int),b= [aL w,aA f,ao p, .lst (aS a), .int m]/\Good w/\w.length<=14/\p<w.length/\f.length=w.length/\m<1000/\a.length=w.length/\Pr w f/\Dy m f/\∀h:List (Option Int),h.length=f.length->Pr w h->Dy m h->h.getD p none=f.getD p none->P (aA h)
def sh:FnOk P w Z.K mg base b9 2 T.d__law_filled_up.f T.d__law_filled_up.fd ["_law_turns","_law_begun","_law_p","_law_draws_here","_law_many"] (aX Z JZ):=by
 have J:=kP.nd;refine ba T.d__law_filled_up.F kP [0,0,0,0,0,1,0,1] ∅ (λds R h=>by obtain⟨_,_,_,_,_,rfl,_⟩:=h;rfl) (λbE A outer s H E ds R O h=>?_)
 have hu:=O.units
 refine#[_,(ag (cU 5 J (kC rfl rfl T.B.list dX (aa 1)))
   (ag (gP rfl FS (eQ rfl T.B.range (ae (aE aZ rfl T.B.len aY (ae (aa 0) ah)) ah)) (aR 6 J) (ag (Dr 7 J (Ho (aD T.d__law_free (qZ T) O (ae (aa 0) (ae (aa 5) (ae (aa 6) (ae (aa 4) ah))))) (c7 (ae bB ah))))
   (aq (bp (DW.dt (lC (aG (f9 hu) (aa 6) (aa 2) (aP _)) (jy (aG kE (aB (aa 5) (aa 6)) bB (aP _))))) (ag (dR true 5 (aa 6) (aB (aa 7) (aH bW (aB (aa 3) (aa 6)) (aE aZ rfl T.B.len aY (ae (aa 7) ah)))))
   (aq (bp (aG BZ (aH bW (aH gB (aB (aa 3) (aa 6)) av) av) av (aP _)) (aq (dR true 5 (aa 6) (aB (aa 7) av))) aM))) aM))))
   (aq (aJ (aa 5))))),?_]
 obtain⟨l,f,p,m,u,rfl,g,fo,hp,fl,m9,xl,pr,dy,q⟩:=h;have lw:(l.map az).length=l.length:=aI _;exists _,rfl;refine#[_,rfl,#[(),by show((l.map az).length:Int)<2^62;lia],?_]
 rw[show(((l.map az).length:Int)).toNat=l.length by lia]
 refine fP (λj ρ=>∃(h:List (Option Int))(L M:Option D),ρ= [some (aL l),some (aA f),some (ao p),some (.lst (aS u)),some (.int m),some (aA h),L,M]/\h.length=f.length/\Pr l h/\Dy m h/\h.getD p none=f.getD p none) #[f,none,none,rfl,rfl,pr,dy,rfl] ?_ ?_
 .rintro j _ hj ⟨h,L,M,rfl,r,v,x,y⟩ A C
  refine#[_,rfl,_,rfl,_,rfl,_,rfl,l,h,j,m,rfl,g,fo,hj,(),m9,λn aac DX=>?_]
  have e5:aS n++ [D.bC]=(n.map some++ [none]).map oD:=by rw[cW,b7];rfl
  have il:(aS n).length=n.length:=rX n;refine#[_,rfl,by show 1<=sizeLine;decide,_,rfl,small (show(aS n).length+1<=1000 by lia),?_]
  rw[e5]
  have N:∀c:Option Int,c∈n.map some++ [none]->∀d:Int,c\d->0<=d/\d<m/\∀q∈row l j,h.getD q none≠some d:=λc G d e=>by
   subst e
   rcases b6.mp G with z|z
   .obtain⟨b,hb,e⟩:=bT.mp z
    cases e;obtain⟨b0,bm,_,bn⟩:=(DX _).mp hb;exact#[b0,bm,bn]
   .rw[cR] at z;cases z
  have cl:(n.map some++ [none]:List (Option Int)).length=n.length+1:=by rw[cD,aI];rfl
  generalize n.map some++ [none]=i at N cl;have lc:(i.map oD).length=i.length:=aI _
  have Q:∀c:Option Int,c∈i->j≠p->Pr l (h.set j c)/\Dy m (h.set j c)/\(h.set j c).getD p none=f.getD p none/\(h.set j c).length=f.length:=λc G ne=>by
   refine#[v.set g () λd e q t=>((N c G d e).2.2 q t),λq d t=>?_,?_,by rw[fj,r]]
   .rw[cF ()] at t
    split at t
    .obtain⟨a,b,_⟩:=N c G d t
     exact#[a,b]
    .exact x q d t
   .rw[cF (),mo (Ne.symm ne)];exact y
  have st:∀(o:List (Option Int))(c:Option Int),aA (o.set j c)= .lst ((o.map oD).set j (oD c)):=λo c=>by unfold aA;rw[qA]
  exists gb i;refine#[_,rfl,_,rfl,mD #[_,rfl,bw (λne=>?_) (λe=>C _ #[h,_,_,rfl,r,v,x,y])]];have ne:j≠p:=λz=>by subst z;simp at ne
  refine#[_,rfl,_,rfl,_,cC (),_,rfl,?_]
  cases hh:h.getD j none with
  |some d=>exact bK (C _ #[h,_,_,rfl,r,v,x,y])
  |none=>
   refine c9 ?_;have mq:=jd (u.getD j 0) ((i.map oD).length:Int) ()
   obtain⟨k,I⟩:∃k:Nat,u.getD j 0%((i.map oD).length:Int)=(k:Int):=#[(u.getD j 0%((i.map oD).length:Int)).toNat,()]
   have S:k<i.length:=()
   have U:∀o:List (Option Int),o.length=f.length->iw (o.map oD).length (j:Int)\j:=λo hl=>by rw[aI];exact lF ()
   have ak:eG (i.map oD) (u.getD j 0%((i.map oD).length:Int))\(oD (i.getD k none)):=by rw[I];exact cC S
   have a0:eG (i.map oD) 0\(oD (i.getD 0 none)):=cC (p:=0) ()
   have X:∀k,k<i.length->i.getD k none∈i:=λk I=>by rw[bS,cM I];exact jY I
   obtain⟨p1,p2,p3,Y⟩:=Q _ (X k S) ne;obtain⟨r1,r2,r3,r4⟩:=Q _ (X 0 ()) ne
   refine#[_,rfl,_,rfl,_,rfl,_,pL (),_,rfl,(),_,ak,BY _,_,rfl,_,rfl,_,j,rfl,U h r,?_]
   rw[<-st h];refine#[_,rfl,_,rfl,_,pL (),#[∅,∅],(by show(0:Int)<4;decide),_,rfl,bw (λ_=>?_) (λ_=>C _ #[h.set j (i.getD k none),_,_,rfl,Y,p1,p2,p3])]
   exists _,rfl,_,a0,BY _,_,rfl,_,rfl,_,j,rfl,U _ Y;rw[<-st (h.set j (i.getD k none)),show(h.set j (i.getD k none)).set j (i.getD 0 none)=h.set j (i.getD 0 none) from acI ..];exact C _ #[h.set j (i.getD 0 none),_,_,rfl,r4,r1,r2,r3]
 .rintro _ ⟨h,L,M,rfl,r,v,x,y⟩
  exact#[_,rfl,q h r v x y]
def Pt:bZ:=λa P=>∃(w:W)(f:List (Option Int))(p m:Nat),a= [aL w,aA f,ao p, .int m]/\Good w/\w.length<=14/\p<w.length/\f.length=w.length/\m<1000/\∀h:List (Option Int),h.length=f.length->(∀q d,h.getD q none\d->f.getD q none\d)->h.getD p none=none->(cQ w h p).length<=m->P (aA h)
def zT:FnOk P w Z.K mg base b9 2 T.d__law_bare.f T.d__law_bare.fd ["_law_turns","_law_dyeing_here","_law_p","_law_many"] (aX Z Pt):=by
 have t:=rg.nd;refine ba T.d__law_bare.F rg [0,0,0,0,1,1,0] ∅ (λL R h=>by obtain⟨_,_,_,_,rfl,_⟩:=h;rfl) (λbE A outer s H E L R C h=>?_)
 have hu:=C.units
 refine#[_,(ag (cU 4 t (Ab T.d__law_with (kF T) C (ae (aa 1) (ae (aa 2) (ae bB ah)))))
   (ag (xJ 5 (NC:= ["_law_q","_law_found"]) (src:= [none,some 4]) rfl t (kA (aw kf)) #[rfl,rfl,trivial] (bA (aB (aa 0) (aa 2))) (λ_ _ _=>(bI 0 (show(["_law_q","_law_found"]:List Str).Nodup from by decide+kernel))) (λ_ _ _=>(jx (aG ko (aB (aa 1) (aa 0)) bB (aP _)))) (λ_ _ _=>(aa 0)))
   (Dw 5
   (ag (cT rfl FS (bA (eI (aa 5) (fI (aa 3)) fH)) (aR 6 t) (aq (dR false 4 (aa 6) bB)))
   (aq (aJ (aa 4))))))),?_]
 obtain⟨c,f,p,m,rfl,g,fo,M,N,m9,q⟩:=h;have rl:=dG g p;refine#[_,rfl,_,rfl,f,p,none,rfl,(),_,rfl,?_]
 have u:∀x d,(f.set p none).getD x none\d->x≠p/\f.getD x none\d:=λx d i=>by
  rw[cF ()] at i
  split at i
  .cases i
  .next ne=>exact#[ne,i]
 have G:(f.set p none).length=f.length:=fj ..;generalize f.set p none=a at u G;exists _,rfl,_,rfl,_,dh M;refine iH (ρ:= [none,some (aA a)]) ao (λq=>!decide (a.getD q none=none)) ao (row c p) _ [] _ (λy k Y Nn O Q=>?_) #[none,rfl] (small (by rw[j3];lia)) λaT=>?_
 .refine#[_,rfl,_,rfl,_,cC (by have:=g.rng _ _ k;lia),_,rfl,?_]
  cases I:a.getD y none with
  |none=>exact bK (Q (by rw[I];rfl))
  |some d=>exact c9 #[_,rfl,O (by rw[I];rfl)]
 rw[oK];exists cY _;exists #[_,rfl],_,rfl,_,rfl;have S:∀y∈(cQ c a p).drop m,y<f.length:=λy k=>by rw[N];exact g.rng _ _ (eZ.mp (List.mem_of_mem_drop k)).1
 refine(?_:lE _ _ _ (cutD ((cQ c a p).map ao) (some (m:Int)) none) _);rw[Iz,<-abd];refine bU (λj ρ=>∃(h:List (Option Int))(v:Option D),ρ= [some (aL c),some (aA f),some (ao p),some (.int m),some (aA h),some (az (cQ c a p)),v]/\h.length=f.length/\(∀q d,h.getD q none\d->a.getD q none\d)/\∀q∈((cQ c a p).drop m).take j,h.getD q none=none) #[a,none,rfl,G,λ_ _ e=>e,λq b=>by simp at b] ?_ ?_
 .rintro j _ _ n ⟨h,v,rfl,B,o,r⟩ A U
  obtain⟨y,k,rfl⟩:=cg n;have yl:=S y (dH k);have X:((cQ c a p).drop m).take (j+1)=((cQ c a p).drop m).take j++ [y]:=by rw[qy,k];rfl
  have ix:iw (h.map oD).length (y:Int)\y:=by rw[aI];exact lF ()
  exists trivial,_,rfl,_,rfl,_,y,rfl,ix;have e2:aA (h.set y none)= .lst ((h.map oD).set y .bC):=by unfold aA;rw[qA];rfl
  refine U _ #[h.set y none,some (ao y),by rw[e2];rfl,by rw[fj,B],λq d b=>?_,λq b=>?_]
  .rw[cF ()] at b
   split at b
   .cases b
   .exact o q d b
  .rw[cF ()]
   split
   .rfl
   .next ne=>
    rw[X] at b
    rcases b6.mp b with b|b
    .exact r q b
    .exact absurd (cR.mp b) ne
 .rintro _ ⟨h,v,rfl,B,o,r⟩
  rw[aI,oJ] at r;refine#[_,rfl,q h B (λx d i=>(u x d (o x d i)).2) ?_ ?_]
  .cases e:h.getD p none with
   |none=>rfl
   |some d=>exact absurd rfl (u p d (o p d e)).1
  .have:=aF (l:=cQ c h p) (m:=(cQ c a p).take m) ((g.nod p).filter _) λx i=>by
    obtain⟨xr,d,n⟩:=eZ.mp i;have J:x∈cQ c a p:=eZ.mpr #[xr,d,o x d n];rw[<-jE m (cQ c a p)] at J
    rcases b6.mp J with z|z
    .exact z
    .rw[r x z] at n;cases n
   rw[i6] at this;lia
def M4:bZ:=λa P=>∃(o:Option Int)(m:Int),a= [oD o, .int m]/\P (oD (o.map λd=>m-1-d))
def oS:FnOk P w Z.K mg base b9 1 T.d__law_turned_about.f T.d__law_turned_about.fd ["_law_dye","_law_many"] (aX Z M4):=by
 have c:=iZ.nd;refine ba T.d__law_turned_about.F iZ [0,0] ∅ (λa R h=>by obtain⟨_,_,rfl,_⟩:=h;rfl) (λe A outer s H E a R b h=>?_)
 have g:=b.units
 refine#[_,(ag (bp (aG kE (aa 0) bB (aP _)) (aq (aJ bB)) aM)
   (aq (aJ (aH nO (aH nO (aa 1) av) (aa 0))))),?_]
 obtain⟨o,m,rfl,q⟩:=h;cases o with
 |none=>exact#[_,rfl,_,rfl,c9 q]
 |some d=>exact#[_,rfl,_,rfl,bK #[_,rfl,_,rfl,q]]
variable {P:Program} {w:World} {mg:Str->Option Value} {base:Heap} {Z:DC} (T:Txt Z mg)
def ER:bZ:=λa P=>∃(w:W)(f:List (Option Int)),a= [aL w,aA f]/\Good w/\w.length<=14/\f.length=w.length/\∀b:Bool,(b=true↔Pr w f)->P (.bl b)
def kH:FnOk P w Z.K mg base b9 1 T.d__law_is_dyeing.f T.d__law_is_dyeing.fd ["_law_turns","_law_dyeing_here"] (aX Z ER):=by
 have r:=kQ.nd;refine ba T.d__law_is_dyeing.F kQ [0,0,0,0] ∅ (λC R h=>by obtain⟨_,_,rfl,_⟩:=h;rfl) (λX A outer s H E C R G h=>?_)
 have I:=G.units
 refine#[_,(ag (gP rfl FS (eQ rfl T.B.range (ae (aE aZ rfl T.B.len aY (ae (aa 0) ah)) ah)) (aR 2 r) (aq (cT rfl FS (bA (aB (aa 0) (aa 2))) (aR 3 r) (aq (bp (DW.dt (lC (aG ko (aB (aa 1) (aa 2)) bB (aP _)) (jy (aG (fD I) (aB (aa 1) (aa 2)) (aB (aa 1) (aa 3)) (aP _))))) (aq (aJ jb)) aM)))))
   (aq (aJ jb))),?_]
 obtain⟨b,f,rfl,g,Y,fl,q⟩:=h;have lw:(b.map az).length=b.length:=aI _;refine#[_,rfl,#[(),by show((b.map az).length:Int)<2^62;lia],?_]
 rw[show(((b.map az).length:Int)).toNat=b.length by lia]
 refine fP (λj l=>∃m c,l= [some (aL b),some (aA f),m,c]/\∀i,i<j->∀q d,q∈row b i->f.getD i none\d->f.getD q none≠some d) #[_,_,rfl,λi h=>by lia] ?_ ?_
 .rintro j _ J ⟨m,c,rfl,n⟩ A L
  exists _,rfl,_,rfl,_,dh J;refine bU (λi l=>∃c,l= [some (aL b),some (aA f),some (ao j),c]/\∀q∈(row b j).take i,∀d,f.getD j none\d->f.getD q none≠some d) #[_,rfl,λq a=>by simp at a] ?_ ?_
  .rintro i _ _ M ⟨c,rfl,k⟩ N O
   obtain⟨x,t,rfl⟩:=cg M;have u:=dH t;have xl:=g.rng _ _ u;have Q:(row b j).take (i+1)=(row b j).take i++ [x]:=by rw[qy,t];rfl
   have v:(∀d,f.getD j none\d->f.getD x none≠some d)->N [some (aL b),some (aA f),some (ao j),some (ao x)]:=λS=>O _ #[_,rfl,λq a d e=>by
    rw[Q] at a
    rcases b6.mp a with a|a
    .exact k q a d e
    .rw[cR] at a;subst a
     exact S d e]
   refine#[_,rfl,_,rfl,_,cC (),_,rfl,?_]
   cases o:f.getD j none with
   |none=>exact bK (v λd e=>by rw[o] at e;cases e)
   |some d=>
    refine c9 ?_;refine#[_,rfl,_,rfl,_,cC (),_,rfl,_,rfl,_,cC (),?_]
    refine Fs #[_,rfl,bw (λz=>?_) (λz=>v λd' e=>?_)]
    .have z:=KF z
     refine q false #[λe=>(by cases e),λU=>?_]
     rw[o] at z;exact absurd z.symm (U j x d u o)
    .have z:=M2 z
     exact λy=>z (e.trans y.symm)
  .rintro _ ⟨c,rfl,k⟩
   rw[aI,oJ] at k;refine L _ #[_,_,rfl,λi hi q d a e=>?_]
   by_cases z:i=j
   .subst z;exact k q a d e
   .exact n i () q d a e
 .rintro _ ⟨m,c,rfl,n⟩
  exact q true #[λ_ p q d a e=>n p (bO a) q d a e,λ_=>rfl]
def JY:bZ:=λc P=>∃(w:W)(b a:List Int)(e:Bool),c= [aL w, .lst (aS b), .lst (aS a), .bl e]/\Good w/\w.length<=14/\b.length=w.length/\a.length<=100/\∀f:List (Option Int),f.length=w.length->Pr w f->(∀p d,f.getD p none\d->d∈a)->P (aA f)
def uN:FnOk P w Z.K mg base b9 1 T.d__law_dyeing.f T.d__law_dyeing.fd ["_law_turns","_law_draws_here","_law_dyes","_law_none"] (fg Z 1 JY):=by
 have u:=ot.nd;refine jc 1 T.d__law_dyeing.F ot [0,0,0,0,1,0,1,1] ∅ (λds R h=>by obtain⟨_,_,_,_,rfl,_⟩:=h;rfl) (λbE A outer s H E ds R hr h=>?_)
 have hu:=hr.units
 refine#[_,(ag (cU 4 u (Hq (ae bB ah) (aE aZ rfl T.B.len aY (ae (aa 0) ah))))
   (ag (gP rfl FS (eQ rfl T.B.range (ae (aE aZ rfl T.B.len aY (ae (aa 0) ah)) ah)) (aR 5 u) (ag (Dr 6 u (RA (NC:= ["_law_q","_law_found"]) (src:= [none,some 4]) rfl (kA (aw gh)) #[rfl,rfl,trivial] (bA (aB (aa 0) (aa 5))) (λ_ _ _=>(bI 0 (show(["_law_q","_law_found"]:List Str).Nodup from by decide+kernel))) (λ_ _ _=>dF) (λ_ _ _=>(aB (aa 1) (aa 0)))))
   (ag (xJ 7 (NC:= ["_law_dye","_law_taken"]) (src:= [none,some 6]) rfl u (kA (aw gh)) #[rfl,rfl,trivial] (bA (aa 2)) (λ_ _ _=>(bI 0 (show(["_law_dye","_law_taken"]:List Str).Nodup from by decide+kernel))) (λ_ _ _=>(jx (aG fQ (aa 0) (aa 1) (by with_unfolding_all rfl)))) (λ_ _ _=>(aa 0)))
   (ag (bp (DW.dt (fB (dr (aa 3)) (gx (aG (fD hu) (aa 7) (c7 ah) (aP _))))) (aq (K3 7 u (c7 (ae bB ah)))) aM)
   (aq (dR true 4 (aa 5) (aB (aa 7) (aH bW (aB (aa 1) (aa 5)) (aE aZ rfl T.B.len aY (ae (aa 7) ah))))))))))
   (aq (xK 4)))),?_]
 obtain⟨l,m,k,r,rfl,g,dZ,xl,dl,q⟩:=h;have lw:(l.map az).length=l.length:=aI _
 have rp:(aj l.length [D.bC]).flatten=(aj l.length (none:Option Int)).map oD:=by
  rw[List.map_replicate];generalize l.length=n
  induction n with
  |zero=>rfl
  |succ n ih=>rw[uf,i4,ih];rfl
 refine#[by show 1<=sizeLine;decide,_,rfl,(),(),by show 1*_<=sizeLine;exact small (),?_]
 refine#[_,rfl,#[(),by show((l.map az).length:Int)<2^62;lia],?_]
 rw[show(((l.map az).length:Int)).toNat=l.length by lia]
 have aai:(aS m).length=m.length:=by unfold aS;simp
 refine fP (λj ρ=>∃(f:List (Option Int))(L M N:Option D),ρ= [some (aL l),some (.lst (aS m)),some (.lst (aS k)),some (.bl r),some (aA f),L,M,N]/\f.length=l.length/\Pr l f/\∀p d,f.getD p none\d->d∈k)
  #[aj l.length none,none,none,none,?_,v5,λp q d _ h=>?_,λp d h=>?_] ?_ ?_
 .rw[rp];rfl
 .rw[bS,rF] at h
  split at h<;>cases h
 .rw[bS,rF] at h
  split at h<;>cases h
 .rintro j _ hj ⟨f,L,M,N,rfl,J,O,v⟩ A hA
  have rl:=dG g j;exists _,rfl,_,rfl,_,dh hj;refine gz (ρ:= [none,some (aA f)]) ao (λx=>oD (f.getD x none)) (row l j) _ (λx t Y Q=>#[_,rfl,_,rfl,_,cC (by have:=g.rng _ _ t;lia),Q]) rfl (small ()) λaT=>?_
  have e1:((row l j).map λx=>oD (f.getD x none))=((row l j).map λx=>f.getD x none).map oD:=by rw[b7];rfl
  rw[e1];have tm:∀c:Option Int,c∈((row l j).map λx=>f.getD x none)↔∃x∈row l j,f.getD x none=c:=λc=>bT;generalize ((row l j).map λx=>f.getD x none)=a at tm;exists gb _;exists _,rfl;refine qJ (λρ=>∃o,ρ= [o,some (aA a)]) D.int (λd=>!decide (some d∈a)) D.int k _ [] _ (λx t aT hI Y Nn Q hN=>?_) #[none,rfl] (by rw[j3,uj];exact small ()) λaT hI=>?_
  .obtain⟨o,rfl⟩:=hI
   exists _,rfl,_,rfl,rfl,gb _,_,rfl;have e:inD (.int x) (a.map oD)=decide (some x∈a):=tq (some x) a;rw[ir rfl,e];exact bw (λh=>#[_,rfl,Q _ #[_,rfl] h]) λh=>hN _ #[_,rfl] h
  rw[oK]
  have fm:∀d∈k.filter (λd=>!decide (some d∈a)),d∈k/\some d∉a:=λd h=>by
   obtain⟨h1,h2⟩:=jI.mp h;exact#[h1,by simpa using h2]
  have fz:(k.filter (λd=>!decide (some d∈a))).length<=k.length:=A4 ..;have e2:(k.filter (λd=>!decide (some d∈a))).map D.int=((k.filter (λd=>!decide (some d∈a))).map some).map oD:=by rw[b7];rfl
  have C:∀x:Option Int,x∈(k.filter (λd=>!decide (some d∈a))).map some++ [none]->∀d,x\d->d∈k/\some d∉a:=λx t d v=>by
   subst v
   rcases b6.mp t with h|h
   .obtain⟨y,hy,e⟩:=bT.mp h
    cases e;exact fm d hy
   .rw[cR] at h;cases h
  have e4:((k.filter (λd=>!decide (some d∈a))).map some++ [none]).length=(k.filter (λd=>!decide (some d∈a))).length+1:=by simp
  rw[e2];exists gb _;have e6:∀x:Option Int,x∈(k.filter (λd=>!decide (some d∈a))).map some->∀d,x\d->d∈k/\some d∉a:=λx t=>C x (fi _ t);have e5:(((k.filter (λd=>!decide (some d∈a))).map some).map oD)++ [D.bC]=((k.filter (λd=>!decide (some d∈a))).map some++ [none]).map oD:=by rw[cW];rfl
  have e7:((k.filter (λd=>!decide (some d∈a))).map some).length<=100:=by rw[aI];lia
  dsimp only;refine j6 [some (aL l),some (.lst (aS m)),some (.lst (aS k)),some (.bl r),some (aA f),some (ao j),some (aA a),some (aA ((k.filter (λd=>!decide (some d∈a))).map some))] rfl ?_;generalize (k.filter (λd=>!decide (some d∈a))).map some=G at C e4 e5 e6 e7;refine Pp (λρ=>∃b:List (Option Int),ρ= [some (aL l),some (.lst (aS m)),some (.lst (aS k)),some (.bl r),some (aA f),some (ao j),some (aA a),some (aA b)]/\0<b.length/\b.length<=101/\∀x∈b,∀d,x\d->d∈k/\some d∉a) (λE' S=>?_) ?_
  .have I:∀{A:DN->Prop},(∀b:List (Option Int),0<b.length->b.length<=101->(∀x∈b,∀d,x\d->d∈k/\some d∉a)->A [some (aL l),some (.lst (aS m)),some (.lst (aS k)),some (.bl r),some (aA f),some (ao j),some (aA a),some (aA b)])->A [some (aL l),some (.lst (aS m)),some (.lst (aS k)),some (.bl r),some (aA f),some (ao j),some (aA a),some (.lst (G.map oD++ [D.bC]))]:=λ {A} h=>by
    rw[e5];exact h _ () () C
   exists _,rfl,rfl;have sz:(G.map oD).length+1<=sizeLine:=small (by rw[aI];lia)
   cases r with
   |true=>
    refine c9 ?_;refine#[_,rfl,by show 1<=sizeLine;decide,_,rfl,sz,?_]
    exact I (A:=E'.nx) λb U X a3=>S _ #[b,rfl,U,X,a3]
   |false=>
    refine bK #[_,rfl,by show 0<=sizeLine;decide,?_]
    refine(?_:sO (aA G) (aA []) _);refine ux #[_,rfl,bw (λe=>?_) (λe=>?_)]
    .refine#[_,rfl,by show 1<=sizeLine;decide,_,rfl,sz,?_]
     exact I (A:=E'.nx) λb U X a3=>S _ #[b,rfl,U,X,a3]
    .have e:G≠ []:=M2 e
     exact S _ #[G,rfl,wa.mpr e,(),e6]
  rintro _ ⟨b,rfl,f1,aab,C⟩;have lf:(b.map oD).length=b.length:=aI _;have mq:=jd (m.getD j 0) ((b.map oD).length:Int) ()
  obtain⟨i,hi⟩:∃i:Nat,m.getD j 0%((b.map oD).length:Int)=(i:Int):=#[(m.getD j 0%((b.map oD).length:Int)).toNat,()]
  have il:i<b.length:=()
  have ai:eG (b.map oD) (m.getD j 0%((b.map oD).length:Int))\(oD (b.getD i none)):=by rw[hi];exact cC il
  refine#[_,rfl,_,rfl,_,rfl,_,pL (),_,rfl,(by show(0:Int)<((b.map oD).length:Int);lia),_,ai,BY _,_,rfl,_,rfl,_,j,rfl,by rw[aI,J];exact lF hj,?_]
  have gm:b.getD i none∈b:=by
   rw[bS,cM il];exact jY il
  have cc:=C _ gm;generalize b.getD i none=c at cc;refine hA _ #[f.set j c,some (ao j),some (aA a),some (aA b),?_,by rw[fj,J],O.set g () λd hc q hq z=>?_,λp d h=>?_]
  .have:aA (f.set j c)= .lst ((f.map oD).set j (oD c)):=by unfold aA;rw[qA]
   rw[this];rfl
  .exact(cc d hc).2 ((tm _).mpr #[q,hq,z])
  .rw[cF ()] at h
   split at h
   .exact(cc d h).1
   .exact v p d h
 .rintro _ ⟨f,L,M,N,rfl,J,O,v⟩
  exact#[_,rfl,q f J O v]
end oW
namespace HT
open PySem PyProof.Rows
def gL:List Int->List Int->Bool
 | [],[]=>false
 | [],_::_=>false
 |_::_,[]=>true
 |x::a,y::b=>if x=y then gL a b else decide (y<x)
def D8(x y:Int)(a b:List Int):gL (x::a) (y::b)=if x=y then gL a b else decide (y<x):=rfl
def yj:gL [] []=false:=rfl
def wz(y:Int)(a:List Int):gL [] (y::a)=false:=rfl
def wy(x:Int)(a:List Int):gL (x::a) []=true:=rfl
def JQ(A:Around)(s:Shared)(a:Int)(t:Tok)(c:Int)(u:Tok)(prog:Program)(w:World)(E:Value->Shared->Prop)(Q:Value->Shared->Prop)(h:Q (.bool (decide (c<a))) s):
  wpAny (model prog w) A (richCompare .Gt (.int a t) (.int c u)) Q E s:=
 (PyProof.Rows.gt_int h:wpAny (model prog w) A (compareOp .Gt (.int a t) (.int c u)) Q E s)
section
open PySem.SeqAt
open PySem.AutoSeq1 (wpAny_loadPart')
open PySem.MeetsSeq PySem.MeetsSeq2 PySem.MeetsSeq3
theorem zh(l b:Addr)(f o:Array Value)(n Q:Nat)(S T:Option Addr)(U X:Array (Option Value))(v z:List Int)(M:IntsAre f.toList v)(N:IntsAre o.toList z):
  Meets (Builtin.«tuple.__gt__» #[[.ref l, .ref b],[]])
   (λ_ R s=>s.heap.get? l\{cls:= .type "tuple",dict:=S,data:= .seq f n,slots:=U}/\s.heap.get? b\{cls:= .type "tuple",dict:=T,data:= .seq o Q,slots:=X}/\
    R (.ok (.ret (.bool (gL v z)))) s):=
 .of_wp λprog w A R s h=>by
  obtain⟨B,g,d,C,os⟩:=s;obtain⟨Y,Z,h⟩:=h;have f2:=AutoSeq1.sub_tuple_tuple;have z1:f.size=v.length:=by rw[<-M.length];simp
  have z2:o.size=z.length:=by rw[<-N.length];simp
  wp_walk using wpAny_loadPart' Y,wpAny_loadPart' Z,abg _ (λk b H=>b.1=none/\H=#[B,g,d,C,os]/\∃(E F:List Value)(p r:List Int),k=E.zip F/\
   IntsAre E p/\IntsAre F r/\p.length+o.size=r.length+f.size/\R (.ok (.ret (.bool (gL p r)))) #[B,g,d,C,os]) _
  case turn=>
   intro I k b H jm;obtain⟨y,x⟩:=I;rfl';obtain⟨J,rfl,E,F,p,r,j,L,G,i,m⟩:=jm;ac_rfl;cases L with
   |nil=>rw[List.zip_nil_left] at j;cases j
   |cons a t VH=>
    cases G with
    |nil=>rw[List.zip_nil_right] at j;cases j
    |cons c u VJ=>
     rw[abK] at j
     injection j with ZT Sg
     injection ZT with hy hx
     subst hy hx;rw[D8] at m;simp only[cv] at i;obtain⟨e,he,O⟩:=Ak A.in1 #[B,g,d,C,os] a t c u;refine wpAny_bind (he prog w _ _ ?_);cases e with
     |true=>
      rw[ir (O.mp rfl)] at m
      wp_walk
      exact#[rfl,rfl,_,_,_,_,Sg,VH,VJ,(),m]
     |false=>
      rw[mo (λq=>absurd (O.mpr q) dA)] at m;have Sh:=JQ A.in1 #[B,g,d,C,os] a t c u prog w
      wp_walk using Sh
      exact#[_,rfl,by simpa using m]
  case fin=>
   rintro⟨b1,b2⟩ H ⟨J,rfl,E,F,p,r,j,L,G,i,m⟩;simp only at J;subst J
   have P:gL p r=decide (f.size>o.size):=by
    cases L with
    |nil=>
     cases G with
     |nil=>
      simp only[j3] at i;rw[yj];exact(GE ()).symm
     |cons c u hw=>
      simp only[j3,cv] at i;rw[wz];exact(GE ()).symm
    |cons a t P=>
     cases G with
     |nil=>
      simp only[j3,cv] at i;rw[wy];exact(GT ()).symm
     |cons c u hw=>
      rw[abK] at j;cases j
   rw[P] at m
   wp_walk
   exact#[_,rfl,by simpa [Builtin.Tuple.tupleCompareSizes] using m]
  case h=>
   exact#[rfl,rfl,f.toList,o.toList,v,z,rfl,M,N,(),h]
end
section
variable {prog:Program} {w:World} {A:Around} {E:Value->Shared->Prop} {s:Shared}
theorem DQ(p:IsTup s.heap l a)(q:IsTup s.heap b f)(r:IntsAre a.toList c)(t:IntsAre f.toList d)
  (u:A.units<cLine) (h:Q (.bool (gL c d)) s):wpAny (model prog w) A (compareOp .Gt (.ref l) (.ref b)) Q E s:=by
 rfl';obtain⟨⟨y,z,g,B⟩,i,j,n,k⟩:=id p;obtain⟨⟨J,C,data2,G⟩,m,o,H,e⟩:=id q;ac_rfl;simp only at j k o e;subst j k o e
 exact richCompare_meets_room (op:= .Gt) #[_,i,rfl] #[_,m,rfl] PySem.F.slot_tuple_gt PySem.F.entry_tuple_gt (PySem.F.args_tuple_gt_2 _ _) (zh l b a f n H z C B G c d r t)
  #[i,m,show Value.bool (gL c d)≠Value.notImplemented/\Q (.bool (gL c d)) s from#[(λx=>nomatch x),h]] u
end
end HT
namespace L2
open PySem PySem.Spec PyProof.Rows
section
variable {pr:Program} {wd:World} {A:Around} {R:Result->Shared->Prop} {CU:Addr} {gR uY:List Addr} {n:Nat} {Pv:Nat->Value->Prop} {Sv:Nat->Heap->Prop}
def A8(b:Program)(c:World)(A:Around)(T:Heap->Prop)(a:Nat->Value->Prop)(d:Nat->Nat->Bool):Prop:=
 ∀i j u v (s:Shared) (Q:Value->Shared->Prop) (E:Value->Shared->Prop),T s.heap->a i u->a j v->Q (.bool (d i j)) s->wpAny (model b c) A (richCompare .Gt u v) Q E s
theorem Ge(p:Walks pr wd A.in1 CU gR uY n Pv Sv)(k:Nat->Nat->Bool)(T:Heap->Prop)(r:A8 pr wd A.in1 T Pv k)(L:Addr)(G:L∉gR)
  (H:∀h l:Heap,T h->(∀b o,b∉uY->b≠L->h.get? b\o->l.get? b\o)->T l):
  ∀(d j:Nat)(s:Shared)(a:Value)(c:Nat),n-(j+1)=d->j+1<=n->Sv (j+1) s.heap->T s.heap->Pv (argBest k j) a->
  s.heap.get? L\{cls:= .type "list",dict:=none,data:= .seq [a,a].toArray c,slots:= #[]}->
  (∀v l t,Pv (argBest k (n-1)) v->(∀b o,b∉uY->b≠L->s.heap.get? b\o->l.get? b\o)->R (.ok (.ret v)) {s with heap:=l,toks:=t})->
  codeAny (model pr wd) A (.builtin "max.loop" #[[.ref CU, .none, .ref L],[]]) R s:=by
 have I:L∉uY:=λh=>G (p.sub _ h);have J:(toString "max"++toString ".loop":String)="max.loop":=∅
 intro d
 induction d with
 |zero=>
  intro j s a c X Y u M q m fin;have N:j+1=n:=()
  refine aam aba ?_;rw[UV W1 _];refine wpAny_bind (aaV m rfl ?_);refine wpAny_bind (aaW (p.done s _ _ (N▸u) λO P i=>?_));refine wpAny_bind ?_;refine aaL (i L _ I m) rfl (wpAny_bind (acw (be ?_)));exact fin a _ P (by rw[<-N];exact q) λb o f g e=>(KM _ _ (Ne.symm g)).trans (i b o f e)
 |succ d Q=>
  intro j s a c X Y u M q m fin;have lt:j+1<n:=()
  refine aam aba ?_;rw[UV W1 _];refine wpAny_bind (aaV m rfl ?_);refine wpAny_bind (aaW (p.item (j+1) s _ _ lt u λv O P pv S i=>?_));have w:=i L _ I m;have x:T O:=H _ _ M λb o f _ e=>i b o f e;show wpAny _ A.in1 ((tryCatch (holding [v,v] (richCompare .Gt v a>>=_)) _)>>=_) _ _ _;refine wpAny_bind (aaW (KB (wpAny_bind (r (j+1) (argBest k j) v a _ _ _ x pv q ?_))));refine wpAny_bind (KB (P3 ?_));refine wpAny_bind (acw (be ?_));cases U:k (j+1) (argBest k j) with
  |true=>
   simp only[aaw];refine wpAny_bind ?_;refine aaL w rfl (wpAny_bind (acw ?_));rw[J];refine be #[aaq W1 _,Q (j+1) _ v _ () lt (p.frame _ _ _ S λb Z o e=>?_) (H _ _ x λb o _ g e=>?_) ?_ (SL _ w rfl) λy B C E F=>?_]
   .exact(KM _ _ (λz:L=b=>G (z▸Z))).trans e
   .exact(KM _ _ (Ne.symm g)).trans e
   .simp only[argBest,U,aaw];exact pv
   .exact fin y B C E λb o f g e=>F b o f g ((KM _ _ (Ne.symm g)).trans (i b o f e))
  |false=>
   simp only[gW,SC];refine wpAny_bind (acw ?_);rw[J];refine be #[aaq W1 _,Q (j+1) _ a c () lt S x ?_ w λy B C E F=>?_]
   .simp only[argBest,U,gW,SC];exact q
   .exact fin y B C E λb o f g e=>F b o f g (i b o f e)
def Gd(d:Walks pr wd A.in1 CU gR uY n Pv Sv)(i:Nat->Nat->Bool)(T:Heap->Prop)(j:A8 pr wd A.in1 T Pv i)(L:Addr)(k:L∉gR)
  (l:∀h a:Heap,T h->(∀b o,b∉uY->b≠L->h.get? b\o->a.get? b\o)->T a) (p:0<n) (u:Sv 0 s.heap) (w:T s.heap)
  (q:s.heap.get? L\{cls:= .type "list",dict:=none,data:= .seq #[] c,slots:= #[]})
  (fin:∀v a t,Pv (argBest i (n-1)) v->(∀b o,b∉uY->b≠L->s.heap.get? b\o->a.get? b\o)->R (.ok (.ret v)) {s with heap:=a,toks:=t}):
  codeAny (model pr wd) A (.builtin "max.loop" #[[.ref CU, .none, .ref L],[]]) R s:=by
 have x:L∉uY:=λh=>k (d.sub _ h);have y:(toString "max"++toString ".loop":String)="max.loop":=∅
 refine aam aba ?_;rw[UV W1 _];refine wpAny_bind (aaV q rfl ?_);refine wpAny_bind (aaW (d.item 0 s _ _ p u λv B N pv C m=>?_));have r:=m L _ x q;have E:T B:=l _ _ w λb o f _ e=>m b o f e;show wpAny _ A.in1 (updateSeq L (λ_=> [v,v].toArray)>>=_) _ _ _;refine wpAny_bind ?_;refine aaL r rfl ?_;rw[y];refine be #[aaq W1 _,Ge d i T j L k l _ 0 _ v _ rfl p (d.frame _ _ _ C λb F o e=>?_) (l _ _ E λb o _ g e=>?_) pv (SL _ r rfl) λG H I J M=>?_]
 .exact(KM _ _ (λz:L=b=>k (z▸F))).trans e
 .exact(KM _ _ (Ne.symm g)).trans e
 .exact fin G H I J λb o f g e=>M b o f g ((KM _ _ (Ne.symm g)).trans (m b o f e))
end
section
variable {pr:Program} {wd:World} {A:Around} {E:Value->Shared->Prop} {s:Shared}
def Jn(T:Heap->Prop)
  (h:wpAny (model pr wd) A.in1 (pyIter x) (λp a=>∃j d f n g k i,p= .ref j/\Walks pr wd A.in1 j d f n g k/\k 0 a.heap/\(∀b∈d,b<a.heap.objs.size)/\0<n/\A8 pr wd A.in1 T g i/\T a.heap/\
   (∀h c:Heap,T h->(∀b o,b∉f->b≠a.heap.objs.size->h.get? b\o->c.get? b\o)->T c)/\
   ∀v c l,g (argBest i (n-1)) v->(∀b o,b∉f->a.heap.get? b\o->c.get? b\o)->Q v {a with heap:=c,toks:=l}) E s):
  wpAny (model pr wd) A (call (.builtin "max") [x]) Q E s:=by
 have t:(toString "max"++toString ".loop":String)="max.loop":=∅
 refine call_function_tree PySem.F.kind_max PySem.F.plain_max PySem.F.entry_max (PySem.F.args_max1 _) ?_;show wpAny _ A.in1 (Builtin.Builtins.bindParams "max" ["key","default"] 0 #[[],[]]>>=_) _ _ s;refine wpAny_bind (aaJ (rfl:Builtin.Builtins.bindParams "max" ["key","default"] 0 #[[],[]]=pure [none,none]) ?_);refine wpAny_bind (be ?_);refine wpAny_bind (wpAny_mono h (λp a u=>?_) λ_ _ e=>e);rfl';obtain⟨j,d,f,n,g,k,i,rfl,q,y,z,B,m,C,r,G⟩:=u;ac_rfl;refine wpAny_bind (Os ?_);have H:a.heap.objs.size∉d:=λI=>qz _ (z _ I);rw[t];refine be #[aaq W1 _,Gd q i T m a.heap.objs.size H r B (q.frame _ _ _ y λb _ o e=>AC _ e) (r _ _ C λb o _ _ e=>AC _ e) (Gc _ rfl) λv c l J L=>?_];exact G v c l J λb o M e=>L b o M (bY (Fk e)) (AC _ e)
end
section
variable {X:Cx} {Z:DC}
def Fm(P:X.calm=true)(hu:X.A.units+64<cLine):cw X (.builtin "max") (λC H Q=>∃(p:Addr)(L:List (Addr×List Int)),C= [.ref p]/\H p\(.lst (L.map λe=>V.ref e.1))/\(∀e∈L,H e.1\(.tup (e.2.map V.int)))/\L≠ []/\
  ∀e∈L,Q (.ref e.1) H):=by
 intro E s σ H C us Q I R h;rfl';obtain⟨p,L,rfl,T,F,U,q⟩:=h;obtain⟨u,rfl,Y⟩:=R.one;subst Y;obtain⟨a,r,l,hz⟩:=I.list (cJ.of T);have Z:=r.length;rw[aI] at Z;have HA:0<L.length:=wa.mpr U;ac_rfl
 have t:∀i:Nat,(d:i<L.length)->a[i]?\(.ref L[i].1):=λi d=>by
  obtain⟨w,hw,su⟩:=r.get (i:=i) (x:= .ref L[i].1) (by rw[cG,cM d];rfl)
  subst su;exact hw
 refine Jn (λh=>∀b o,s.heap.get? b\o->h.get? b\o) (abS l.isList ?_)
 have nI:p≠s.heap.objs.size:=by
  obtain⟨o,y,_⟩:=l.isList;exact bY (Fk y)
 let f:Nat->List Int:=λi=>(L.getD i (0,[])).2
 refine#[_,_,_,a.toArray.size,_,_,λi j=>HT.gL (f i) (f j),rfl,Walks.list (show X.A.in1.handled=none from I.ok.hd P) s.heap.objs.size p nI a.toArray,#[#[_,Gc _ rfl,rfl,rfl],l.isList.push _],?_,?_,?_,λb o e=>AC _ e,?_,?_]
 .intro b G
  have:b=s.heap.objs.size\/b=p:=by simpa using G
  obtain⟨o,y,_⟩:=l.isList;have lt:=Fk y;have e:(s.heap.push {cls:= .type "list_iterator",data:= .fields [.ref p, .int 0 0].toArray}).objs.size=s.heap.objs.size+1:=by simp[Heap.push]
  rcases this with rfl|rfl
  .exact u4 (u7 _) e.symm
  .exact u4 (rL lt) e.symm
 .rw[cH];lia
 .intro i j u v s' Q' E' m BJ lW hq
  have z:a[i]?\u:=by simpa using BJ
  have g:a[j]?\v:=by simpa using lW
  have d:i<L.length:=by have:=(eC.mp z).1;lia
  have B:j<L.length:=by have:=(eC.mp g).1;lia
  rw[t i d] at z;rw[t j B] at g;obtain rfl:=Do z;obtain rfl:=Do g;rfl';obtain⟨t1,r1,p1,_⟩:=I.tuple (fY.of (F L[i] (jY d)));obtain⟨t2,r2,p2,_⟩:=I.tuple (fY.of (F L[j] (jY B)));obtain⟨o1,g1,c1⟩:=p1;obtain⟨o2,g2,c2⟩:=p2;have i1:IntsAre t1.toArray.toList L[i].2:=intsAre_of r1;have i2:IntsAre t2.toArray.toList L[j].2:=intsAre_of r2;ac_rfl
  have J:∀k,(c:k<L.length)->f k=L[k].2:=λk c=>by
   show(L.getD k (0,[])).2=_;rw[bS,cM c];rfl
  have xZ:Q' (.bool (HT.gL L[i].2 L[j].2)) s':=by rw[<-J i d,<-J j B];exact hq
  exact HT.DQ (A:=X.A.in1) #[o1,m _ _ g1,c1] #[o2,m _ _ g2,c2] i1 i2 (by simp only[ab9];lia) xZ
 .intro h M m c b o e
  have lt:=Fk e;refine c b o ?_ ?_ (m b o e)
  .intro hm
   have:b=s.heap.objs.size:=by simpa using hm
   exact bY lt this
  .simp only[Heap.push,Array.size_push]
   exact bY (rL lt)
 .intro v M tk N kk
  have kept:∀b o,s.heap.get? b\o->M.get? b\o:=λb o e=>kk b o (by simp;exact bY (Fk e)) (AC _ e)
  have c:=vk (λi j=>HT.gL (f i) (f j)) (a.toArray.size-1);generalize G:argBest (λi j=>HT.gL (f i) (f j)) (a.toArray.size-1)=k at N c;rw[cH] at c;have O:k<L.length:=()
  have g:a[k]?\v:=by simpa using N
  rw[t k O] at g;obtain rfl:=Do g;exact#[.ref L[k].1,H,I.kept kept,rfl,q L[k] (jY O)]
def Q4:bZ:=λb P=>∃a:List (List Int),b= [.lst (a.map tupI)]/\a≠ []/\∀m∈a,P (tupI m)
def Kx(f:X.calm=true)(g:X.A.units+64<cLine):cw X (.builtin "max") (hU Z Q4):=by
 refine(Fm f g).imp ?_;intro m H Q i;rfl';obtain⟨G,n,P,s,dv,⟨o,rfl,k,l⟩,q⟩:=i;ac_rfl;rfl';obtain⟨v,rfl,a⟩:=dv.ofOne;obtain⟨p,r,rfl,h,e⟩:=a.hV;obtain⟨L,rfl,rfl,d⟩:=Ah e;ac_rfl;exact#[p,L,rfl,s _ _ h,λx b=>s _ _ (d x b),λz=>k (by rw[z];rfl),λx b=>q _ (l x.2 (List.mem_map_of_mem b)) _ G H (.refl s) (.tup (d x b) (.ints _))]
end
section
variable {Z:DC} {X:Cx} {B:Bs} {md:List Nat} {rn:Nat} {ρ:DN} {σ:St} {H G:Hp} {fp:Nat->List Addr} {k c e:Expr} {tk te tz:bz} {tc:dM} {pos:Pos}
theorem DvAll.erase:∀{d:List V}{f:List D}(n:Nat),DvAll Z G d f->DvAll Z G (d.eraseIdx n) (f.eraseIdx n)
 |_,_,_, .nil=> .nil
 |_,_,0, .cons a b=>b
 |_,_,n+1, .cons a b=> .cons a (DvAll.erase n b)
end
section
variable {Z:DC} {X:Cx} {md:List Nat} {rn:Nat} {e1 e2:Expr} {t1 t2:bz} {pos:Pos}
def L9(h:n<m):iw m (n:Int)\n:=by
 unfold iw;rw[ir (),ir ()]
 exact GM some ()
end
section
variable {Z:DC} {X:Cx} {md:List Nat} {rn:Nat} {e:Expr} {te:bz} {apos bh pos:Pos}
def NT(i:Nat)(c:bz):cz:=λE a=>∃b,a[i]?\(some (.lst b))/\c a λd=>∃m:Nat,d=ao m/\m<b.length/\m<1000/\E.nx (a.set i (some (.lst (b.eraseIdx m))))
def IH(i:Nat)(p:DE Z X e te)(d:md.getD i 0=1:=by rfl)(q:X.N[i]?\x:=by rfl)(r:kZ X.env.scope x:=by subst_eqs)(s:(x==("__debug__":Str))=false:=by decide)(t:(x==("__classdict__":Str))=false:=by decide)
  (u:attributeBase (.Name x a) "pop" X.env (eval (.Name x a) X.env)=eval (.Name x a) X.env:=by rfl)
  (w:((backTo bh (starEach [e] X.env)).all (λx=>!x.1)&&(backToKw bh (keywordEach [] X.env)).all (λx=>x.1.isSome)&&decide (([e]:List Expr).length+([]:List Keyword).length+(if ([]:List Keyword).isEmpty then 0 else 1)<30))=true:=by rfl)
  (y:(apos.endLine==bh.line)=true:=by rfl) (f:starEach [e] X.env=(false,eval e X.env)::starEach [] X.env:=by rfl) (z:(backTo bh (starEach [] X.env)).any (·.1)=false:=by rfl)
  (A:swapsWith (.Call (.Attribute (.Name x a) "pop" apos) [e] [] bh) none pos.line X.env=pure false:=by rfl):
  DSt Z X md rn (.Expr (.Call (.Attribute (.Name x a) "pop" apos) [e] [] bh) pos) (NT i te):=by
 refine(jB (yP UF PySem.F.slot_list_pop PySem.F.type_list_pop Jt (pv i q r s t) (d6 p gD f) u w y f z) A).imp ?_;intro D σ H C;rfl';obtain⟨B,ρ,E,⟨G,J,S⟩,⟨ds,g,h⟩,M⟩:=C;ac_rfl;rfl';obtain⟨l0,L,NY,O,j,P,_,_⟩:=S.one d g;ac_rfl;refine#[_,j,ty_list P,S.ev true h ?_];rintro _ ⟨m,rfl,Q,Vs,R⟩;refine#[rfl,λv T H' U x dv=>?_];cases dv.ofInt;obtain⟨l,c,gO,Y,k,e3,n,put⟩:=U.one d g;cases Y;rw[j] at k;cases k;have o:m<c.length:=by rw[n.length];exact Q
 obtain⟨c1,c2,c3,c4⟩:=yf (L9 o);exact#[_,c,(m:Int),m,c[m],rfl,rfl,e3,(),(),c1,cM o,M.nx _ R _ _ #[T,J,put _ _ (n.erase m)]]
end
section
variable {Z:DC} {X:Cx} {md:List Nat} {rn:Nat} {e:Expr} {pos:Pos}
def sW{a:List Nat}(h:j≠i):(a.set i n).getD j 0=a.getD j 0:=by rw[bS,bS,jF (Ne.symm h)]
def Bu{a:List Nat}(h:i<a.length):(a.set i n).getD i 0=n:=by rw[bS,kY h];rfl
end
section
variable {Z:DC} {X:Cx} {md:List Nat} {rn:Nat} {e:Expr} {pos:Pos}
def Df(c:List Nat)(i:Nat)(t:jJ)(u v:cz):cz:=λE a=>t (df c a) λf=>u {nx:=λb=>(∃d,b[i]?\(some d))/\v E b,rt:=E.rt} (a.set i (some (.lst f)))
def Du(i n:Nat){x:Str}{g:Pos}{t:jJ}{st:Stmt}{k:List Stmt}{u v:cz}(J:X.N.Nodup)(L:DF Z X n e t)(h:DSt Z X (m.set i n) w st u)(O:ng Z X m w k v)(P:m.getD i 0=0:=by rfl)(Q:i<m.length:=by decide)(R:X.N[i]?\x:=by rfl)(T:Loc X.env.scope x:=by subst_eqs)(U:swapsWith e (some (.Name x g)) r.line X.env=pure false:=by rfl)
  (Y:X.fn x=true\/X.env.scope.names.lookup x\.local:=by subst_eqs):ng Z X m w (.Assign [.Name x g] e r::st::k) (Df m i t u v):=by
 refine mz.imp (gE (gZ J R T L U Y) (gE h O)) ?_;rintro D σ H ⟨B,ρ,E,⟨G,fp,S⟩,h,M⟩;refine#[G,_,_,S.ex.sub,S.Aj,h,λds hd v f y H' x o nd s=>?_];have l:=S.grow x
 have Xu:SIx Z B (m.set i n) (ρ.set i none) σ H' y fp:=#[l.ex,l.fl,by rw[fj];exact l.len,λj d a=>by
  by_cases z:j=i
  .subst z
   rw[mZ] at a;rw[ir rfl] at a
   split at a<;>cases a
  .rw[jF (Ne.symm z)] at a
   rw[sW z];exact l.at_ j d a,l.nd,l.ap,l.nw]
 have A:=Xu.t5 (Bu Q) o nd (λb q=>#[S.ex.hh.free (s b q).1,(s b q).2]) λb q j _ a=>(S.nw j b a).2.1 (s b q).1;rw[acI] at A;refine#[B,_,_,#[y,_,A],hd,#[?_,M.rt,λ_ z=>z.elim,λ_ z=>z.elim,λ_ _ z=>z.elim]];rintro aT ⟨⟨d,C⟩,hE⟩ aQ wg ⟨G3,fp3,F⟩;obtain⟨v3,ZK,RE,p⟩:=F.Ck C;refine#[B,aT,_,#[_,_,#[p.ex,p.fl,F.len,λj c a=>?_,p.nd,p.ap,p.nw]],hE,M]
 by_cases z:j=i
 .subst z
  rw[C] at a;cases a;exists v3,ZK;rw[P,ir rfl];exact#[RE,rfl]
 .obtain⟨u',hu,I⟩:=p.at_ j c (by rw[jF (Ne.symm z)];exact a)
  rw[sW z] at I;exact#[u',hu,I]
end
end L2
namespace oW
open PySem L2 Wb
variable {P:Program} {w:World} {mg:Str->Option Value} {base:Heap} {Z:DC} (T:Txt Z mg)
open Wy
def yZ(I:DN->Prop)(h:∀A:DN->Prop,(∀a,I a->A a)->vy c t pD {E with nx:=A} a)(k:∀a,I a->u E a):dSeq (vy c t pD) u E a:=h _ k
def Uj(a:List Int)(k:Nat):cutD (aS a) none (some (k:Int))=aS (a.take k):=by
 have:=Dd (aS a) k
 unfold aS at this ⊢;rw[rM];exact this
def NN(h:0<l.length):eG l (-1)=l[l.length-1]? :=by
 unfold eG iw;rw[mo (),ir (),Option.bind_some,show(-1+(l.length:Int)).toNat=l.length-1 by lia]
def UX{P:D->Prop}(h:P (.bl (decide (j<i)))):dC (.int j) a (λb=>Up (.int i) b P):=h
def Im(I:DN->Prop)(h:∀A:DN->Prop,(∀a,I a->A a)->t (df b a) λe=>u {nx:=λc=>(∃d,c[i]?\(some d))/\A c,rt:=E.rt} (a.set i (some (.lst e))))(k:∀a,I a->v E a):Df b i t u v E a:=h _ k
theorem xO(f:b->c):∀(l:List b)(i:Nat),(l.map f).eraseIdx i=(l.eraseIdx i).map f
 | [],_=>rfl
 |_::_,0=>rfl
 |a::l,i+1=>by rw[dJ,CJ,CJ,dJ,xO f l i]
def Pu:bZ:=λa P=>∃(b:List Int),a= [.gN b]/\∀(w:W)(f:List (Option Int))(p m:Nat),Good w->1<=w.length->w.length<=14->(2<=w.length->lQ w)->p<w.length->f.length=w.length->4<=m->m<=100->Pr w f->Dy m f->f.getD p none=none->(cQ w f p).length<=m->P (.tup [aL w,aA f,ao p, .int m])
def zU:FnOk P w Z.K mg base b9 3 T.d__law_case.f T.d__law_case.fd ["_law_script"] (aX Z Pu):=by
 have g:=rh.nd;refine ba T.d__law_case.F rh [0,0,0,0,0,0,0,0,0,0,0,0,0] ∅ (λds R h=>by obtain⟨_,rfl,_⟩:=h;rfl) (λbE A outer s H E ds R i h=>?_)
 have N:=i.units
 refine#[_,(ag (aO false 1 g (aD T.d__law_draws (kG T) i (ae (aa 0) (ae av (ae (aH bW (aD T.d__law_cell_at (dS T) i (ae (aa 0) (ae av ah))) av) ah)))))
   (ag (aO false 2 g (aD T.d__law_web (B4 T) i (ae (eI (aa 1) fH (fI av)) ah)))
   (ag (aO false 3 g (aD T.d__law_cell_at (dS T) i (ae (aa 0) (ae av ah))))
   (ag (bp (aG (fD N) (aH bW (aa 3) av) av (aP _)) (aq (aO false 2 g (aD T.d__law_hub (B3 T) i (ae (aa 2) (ae (aH gB (aa 3) av) ah))))) aM)
   (ag (aO false 4 g (aD T.d__law_named (yG T) i (ae (aa 2) (ae (aD T.d__law_draws (kG T) i (ae (aa 0) (ae av (ae (aE aZ rfl T.B.len aY (ae (aa 2) ah)) ah)))) ah))))
   (ag (aO false 5 g (aD T.d__law_draws (kG T) i (ae (aa 0) (ae av (ae (aE aZ rfl T.B.len aY (ae (aa 2) ah)) ah)))))
   (ag (aO false 6 g (aH bW (aD T.d__law_cell_at (dS T) i (ae (aa 0) (ae av ah))) (aE aZ rfl T.B.len aY (ae (aa 2) ah))))
   (ag (bp (DW.dt (lC (aG (fD N) (aH bW (aa 3) av) av (aP _)) (jy (aG BZ (aE aZ rfl T.B.len aY (ae (aB (aa 2) (Hm av)) ah)) av (aP _))))) (ag (aO false 6 g (aB (aE ((Kx rfl N)) rfl T.B.max wO (ae (jL (NC:= ["_law_q","_law_named_here","_law_turns"]) (src:= [none,some 4,some 2]) rfl (kA (aw iM)) #[rfl,rfl,rfl,rfl,trivial] (nE rfl T.B.range (ae (aE aZ rfl T.B.len aY (ae (aa 2) ah)) ah)) (λ_ _ _=>(bI 0 (show(["_law_q","_law_named_here","_law_turns"]:List Str).Nodup from by decide+kernel))) (λ_ _ _=>(jx (aG (fD N) (aE aZ rfl T.B.len aY (ae (aB (aa 1) (aa 0)) ah)) (aE aZ rfl T.B.len aY (ae (aB (aa 2) (Hm av)) ah)) (aP _)))) (λ_ _ _=>(cK (ae (aE aZ rfl T.B.len aY (ae (aB (aa 1) (aa 0)) ah)) (ae (aa 0) ah))))) ah)) av))
   (Du 7 1 g (kC rfl rfl T.B.list dX (aB (aa 4) (aa 6))) (bp (DW.dt (lC (aG (fD N) (aH bW (aH gB (aa 3) av) av) av (aP _)) (jy (aG BZ (aE aZ rfl T.B.len aY (ae (aa 7) ah)) av (aP _))))) (aq (IH 7 (aH bW (aH gB (aa 3) av) (aE aZ rfl T.B.len aY (ae (aa 7) ah))))) aM)
   (ag (aO false 8 g (aD T.d__law_hub_dyes (tI T) i (ae (aE aZ rfl T.B.len aY (ae (aa 4) ah)) (ae (aa 7) (ae (aH gB (aa 3) av) ah)))))
   (aq (bp (dr (aD T.d__law_is_dyeing (kH T) i (ae (aa 4) (ae (aa 8) ah)))) (ag (aO false 9 g (aD T.d__law_filled_up (sh T) i (ae (aa 4) (ae (aa 8) (ae (aa 6) (ae (aa 5) (ae (aE aZ rfl T.B.len aY (ae (aa 7) ah)) ah)))))))
   (aq (aJ (cK (ae (aa 4) (ae (aD T.d__law_but (B2 T) i (ae (aa 9) (ae (aB (aa 4) (aa 6)) (ae (aa 7) ah)))) (ae (aa 6) (ae (aE aZ rfl T.B.len aY (ae (aa 7) ah)) ah)))))))) aM))))) aM)
   (ag (aO false 10 g (aH bL av (aH bW (aH gB (aa 3) av) av)))
   (ag (bp (aG (fD N) (aH bW (aH gB (aa 3) av) av) av (aP _)) (aq (aO false 10 g (aH bL av (aH bW (aD T.d__law_cell_at (dS T) i (ae (aa 0) (ae av ah))) av)))) aM)
   (ag (aO false 11 g (aH bL (g8 (Iu rfl) rfl T.B.list dX (ae (g8 Kz rfl T.B.range Ip (ae (aE (sM rfl) rfl T.B.min sI (ae (aa 10) (ae av ah))) ah)) ah)) (jL (NC:= ["_law_k","_law_many"]) (src:= [none,some 10]) rfl (kA (aw iM)) #[rfl,rfl,trivial] (nE rfl T.B.range (ae (aE (sM rfl) rfl T.B.min sI (ae av (ae (aE (C8 rfl) rfl T.B.max wO (ae av (ae (aH nO (aa 10) av) ah))) ah))) ah)) (λ_ _ _=>(bI 0 (show(["_law_k","_law_many"]:List Str).Nodup from by decide+kernel))) (λ_ _ _=>dF) (λ_ _ _=>(aH nO (aH nO (aa 1) av) (aa 0))))))
   (ag (aO false 12 g (aD T.d__law_dyeing ((uN T).imp zY) i (ae (aa 4) (ae (aa 5) (ae (aa 11) (ae (lA (fD N) (aH bW (aH gB (aa 3) av) av) av (aP _)) ah))))))
   (aq (aJ (cK (ae (aa 4) (ae (aD T.d__law_bare (zT T) i (ae (aa 4) (ae (aa 12) (ae (aa 6) (ae (aa 10) ah))))) (ae (aa 6) (ae (aa 10) ah))))))))))))))))))),?_]
 obtain⟨j,rfl,q⟩:=h;refine#[_,rfl,_,rfl,j,2,rfl,λQ=>#[(by show(0:Int)<14;decide),?_]]
 obtain⟨n,hn,h9⟩:∃n:Nat,Q%14=(n:Int)/\n<=13:=by
  have:=jd Q 14 ∅
  exact#[(Q%14).toNat,(),()]
 dsimp only;rw[show D.int (Q%14)=ao n by unfold ao;rw[hn]]
 refine#[j,1,n,rfl,(),(),λC xl=>#[trivial,?_]]
 have tl:(C.take 12).length<=12:=by rw[i6];lia
 refine#[_,rfl,C.take 12,GM (λl=> [D.lst l]) (Uj C 12),(),λO g0 l0 p0=>#[trivial,?_]]
 have Sz:O.length<=13:=()
 have l1:1<=O.length:=()
 refine#[_,rfl,j,4,rfl,λo=>#[trivial,?_]];dsimp only;refine j6 [some (.gN j),some (.lst (aS C)),some (aL O),some (.int o),none,none,none,none,none,none,none,none,none] rfl ?_;refine yZ (λρ=>∃w,ρ= [some (.gN j),some (.lst (aS C)),some (aL w),some (.int o),none,none,none,none,none,none,none,none,none]/\Good w/\1<=w.length/\w.length<=14/\(2<=w.length->lQ w)) (λA M=>?_) ?_
 .refine#[_,rfl,(by show(0:Int)<2;decide),Dx #[_,rfl,bw (λe=>?_) (λe=>M _ #[O,rfl,g0,l1,(),p0])]]
  exact#[_,rfl,_,rfl,#[∅,∅],O,_,rfl,g0,l1,Sz,p0,λv gv lv pv=>#[trivial,M _ #[v,rfl,gv,(),(),λ_=>pv]]]
 rintro _ ⟨t,rfl,gt,Ga,V9,pt⟩;have lw:(t.map az).length=t.length:=aI _;refine#[_,rfl,_,rfl,_,rfl,j,3,(t.map az).length,rfl,(),(),λys yl=>#[t,ys,rfl,gt,Ga,V9,(),λw u wl wd wp wr=>#[trivial,?_]]]
 refine#[_,rfl,_,rfl,j,5,(t.map az).length,rfl,(),(),λI zl=>#[trivial,?_]]
 refine#[_,rfl,j,6,rfl,λv6=>?_];refine#[_,rfl,(by show(0:Int)<((t.map az).length:Int);lia),trivial,?_]
 dsimp only;have m6:=jd v6 ((t.map az).length:Int) ()
 obtain⟨p6,ZD⟩:∃k:Nat,v6%((t.map az).length:Int)=(k:Int):=#[(v6%((t.map az).length:Int)).toNat,()]
 refine j6 [some (.gN j),some (.lst (aS C)),some (aL t),some (.int o),some (aL w),some (.lst (aS I)),some (ao p6),none,none,none,none,none,none] (by rw[ZD];rfl) ?_
 have lww:(w.map az).length=w.length:=aI _;refine yZ (λρ=>∃(p:Nat)(S U:Option D),ρ= [some (.gN j),some (.lst (aS C)),some (aL t),some (.int o),some (aL w),some (.lst (aS I)),some (ao p),S,U,none,none,none,none]/\p<w.length) (λA M=>?_) ?_
 .have skip:=M _ #[p6,none,none,rfl,()]
  have Ud:eG (t.map az) (-1)\(az (row t (t.length-1))):=by
   rw[NN (),cG,lw]
   unfold row;rw[bS,cM ()];rfl
  have aak:=dG gt (t.length-1);have lr:((row t (t.length-1)).map ao).length=(row t (t.length-1)).length:=aI _;refine#[_,rfl,(by show(0:Int)<2;decide),Dx #[_,rfl,bw (λ_=>?_) (λ_=>bK skip)]]
  exists _,rfl,_,Ud;dsimp only[lu,vo,az];refine UX #[_,rfl,bw (λe3=>?_) (λ_=>skip)];have e3:(3:Int)<(((row t (t.length-1)).map ao).length:Int):=KF e3;refine#[_,rfl,#[(),by show((t.map az).length:Int)<2^62;lia],?_]
  rw[show(((t.map az).length:Int)).toNat=t.length by lia,kJ]
  refine iH (ρ:= [none,some (aL w),some (aL t)]) ao (λk=>decide ((row w k).length=(row t (t.length-1)).length)) (λk=>tupI [((row w k).length:Int),(k:Int)]) (ac t.length) _ [] _ (λk J Y Nn t1 t2=>?_) #[none,rfl] (small (by rw[j3,fw];lia)) λaT=>?_
  .have J:=cE.mp J
   have lk:((row w k).map ao).length=(row w k).length:=aI _;refine#[_,rfl,_,rfl,_,dh (),?_]
   exists _,rfl,_,Ud;dsimp only[lu,vo,az];refine(?_:sO (.int (((row w k).map ao).length:Int)) (.int (((row t (t.length-1)).map ao).length:Int)) _);rw[lk,lr];refine sP #[_,rfl,bw (λe=>?_) (λe=>t2 (GE λz=>M2 e (by rw[z])))]
   have e:((row w k).length:Int)=((row t (t.length-1)).length:Int):=KF e;have t3:=t1 (GT ())
   rw[<-lk] at t3;exact#[_,rfl,_,rfl,_,dh (),_,rfl,by show 2<=sizeLine;decide,t3]
  obtain⟨q0,ZG,Yw⟩:=wr (t.length-1) ()
  have fm:∀k,k∈(ac t.length).filter (λk=>decide ((row w k).length=(row t (t.length-1)).length))↔k<t.length/\(row w k).length=(row t (t.length-1)).length:=λk=>by
   rw[jI,cE,decide_eq_true_iff]
  have X:=(fm q0).mpr #[ZG,Yw];have em:((ac t.length).filter (λk=>decide ((row w k).length=(row t (t.length-1)).length))).map (λk=>tupI [((row w k).length:Int),(k:Int)])=(((ac t.length).filter (λk=>decide ((row w k).length=(row t (t.length-1)).length))).map λk=> [((row w k).length:Int),(k:Int)]).map tupI:=by rw[b7];rfl
  rw[oK,em];generalize (ac t.length).filter (λk=>decide ((row w k).length=(row t (t.length-1)).length))=ks at fm X;refine#[_,rfl,List.ne_nil_of_length_pos (rG (List.mem_map_of_mem X)),λm hm=>?_];obtain⟨p,hp,rfl⟩:=bT.mp hm;obtain⟨pl,pe⟩:=(fm p).mp hp;exists _,rfl,trivial;have rlp:=dG u p;have lrp:((row w p).map ao).length=(row w p).length:=aI _;dsimp only;refine Im (λρ=>∃(r:List Nat),ρ= [some (.gN j),some (.lst (aS C)),some (aL t),some (.int o),some (aL w),some (.lst (aS I)),some (ao p),some (az r),none,none,none,none,none]/\r.Nodup/\(∀x∈r,x∈row w p)/\4<=r.length/\r.length<=14) (λB hB=>?_) ?_
  .refine#[_,rfl,_,rfl,_,dh (),?_]
   have keep:=hB _ #[row w p,rfl,u.nod p,λx a=>a,(),()]
   dsimp only[az];have stop:(∃d,([some (.gN j),some (.lst (aS C)),some (aL t),some (.int o),some (aL w),some (.lst (aS I)),some (ao p),some (az (row w p)),none,none,none,none,none]:DN)[7]?\(some d))/\B [some (.gN j),some (.lst (aS C)),some (aL t),some (.int o),some (aL w),some (.lst (aS I)),some (ao p),some (az (row w p)),none,none,none,none,none]:=#[#[_,rfl],keep];refine#[_,rfl,#[∅,∅],(by show(0:Int)<4;decide),Dx #[_,rfl,bw (λ_=>?_) (λ_=>bK stop)]]
   exists _,rfl;dsimp only[lu,vo];refine UX #[_,rfl,bw (λe5=>?_) (λ_=>stop)];have e5:(4:Int)<(((row w p).map ao).length:Int):=KF e5;have mk:=jd (o / 256) (((row w p).map ao).length:Int) ()
   obtain⟨k,J⟩:∃k:Nat,o / 256%(((row w p).map ao).length:Int)=(k:Int):=#[(o / 256%(((row w p).map ao).length:Int)).toNat,()]
   refine#[_,rfl,_,rfl,#[∅,∅],_,rfl,(by show(0:Int)<(((row w p).map ao).length:Int);lia),k,GM D.int J,(),(),#[_,rfl],?_]
   have er:D.lst (((row w p).map ao).eraseIdx k)=az ((row w p).eraseIdx k):=by
    unfold az;rw[xO]
   have el:((row w p).eraseIdx k).length+1=(row w p).length:=by rw[List.length_eraseIdx,ir ()];lia
   rw[er];exact hB _ #[(row w p).eraseIdx k,rfl,(u.nod p).sublist (List.eraseIdx_sublist ..),λx a=>(List.eraseIdx_sublist ..).subset a,(),()]
  rintro _ ⟨r,rfl,g,sub,a4,T8⟩;have la:(r.map ao).length=r.length:=aI _;have X9:∀x∈r,x<w.length:=λx a=>u.rng _ _ (sub x a);have np:p∉r:=λz=>u.irr _ (sub p z);refine#[_,rfl,_,rfl,_,rfl,#[∅,∅],(w.map az).length,r,o / 8,rfl,(),g,λx a=>by rw[lww];exact X9 x a,(),λf fl X fd=>#[trivial,?_]]
  have fp:f.getD p none=none:=X p np;refine#[_,rfl,_,rfl,w,f,rfl,u,(),(),λb hb=>#[rfl,bw (c:=b) (λe=>?_) (λ_=>M _ #[p,_,_,rfl,()])]]
  have pr:=hb.mp e;refine#[_,rfl,_,rfl,_,rfl,_,rfl,_,rfl,w,f,p,(r.map ao).length,I,rfl,u,(),(),(),(),(),pr,by rw[la];exact fd,λh1 h1l YQ YN YO=>#[trivial,?_]]
  refine#[_,rfl,_,rfl,_,rfl,_,rfl,_,dh (),_,rfl,h1,row w p,r,rfl,λx a=>by have:=u.rng _ _ a;lia,λh2 h2l Ob YR=>#[_,rfl,_,rfl,?_]]
  have qT:h2.getD p none=none:=by
   cases e:h2.getD p none with
   |none=>rfl
   |some d=>have:=Ob p d e;rw[YO,fp] at this;cases this
  refine#[by show 4<=sizeLine;decide,?_]
  refine q w h2 p (r.map ao).length u () () (λG=>wp () (pt ())) () () () () (λx y d hy a hz=>YQ x y d hy (Ob x d a) (Ob y d hz)) (λx d a=>YN x d (Ob x d a)) qT ?_
  rw[la];refine aF ((u.nod p).filter _) λx a=>?_;obtain⟨xr,d,hd⟩:=eZ.mp a;exact FM λz=>by rw[YR x xr z] at hd;cases hd
 rintro _ ⟨p,S,U,rfl,pl⟩;refine#[_,rfl,#[∅,∅],(by show(0:Int)<4;decide),trivial,?_]
 dsimp only;have mm:=jd (o / 2) 4 ∅
 obtain⟨m0,Zq,m04,m08⟩:∃m:Nat,4+o / 2%4=(m:Int)/\4<=m/\m<=100:=#[(4+o / 2%4).toNat,(),(),()]
 refine j6 [some (.gN j),some (.lst (aS C)),some (aL t),some (.int o),some (aL w),some (.lst (aS I)),some (ao p),S,U,none,some (.int (m0:Int)),none,none] (by rw[Zq];rfl) ?_
 refine yZ (λρ=>∃m:Nat,ρ= [some (.gN j),some (.lst (aS C)),some (aL t),some (.int o),some (aL w),some (.lst (aS I)),some (ao p),S,U,none,some (.int (m:Int)),none,none]/\4<=m/\m<=100) (λA M=>?_) ?_
 .refine#[_,rfl,#[∅,∅],(by show(0:Int)<8;decide),Dx #[_,rfl,bw (λ_=>?_) (λ_=>M _ #[m0,rfl,m04,m08])]]
  refine#[_,rfl,j,7,rfl,λv7=>#[(by show(0:Int)<60;decide),trivial,?_]]
  have m7:=jd v7 60 ∅
  obtain⟨m,hm,m1,m2⟩:∃m:Nat,4+v7%60=(m:Int)/\4<=m/\m<=100:=#[(4+v7%60).toNat,(),(),()]
  exact M _ #[m,by rw[hm];rfl,m1,m2]
 rintro _ ⟨m,rfl,m4,QC⟩;refine#[_,rfl,_,_,rfl,_,rfl,_,_,rfl,?_,?_]
 .refine#[∅,∅,?_,?_,?_]
  all_goals (split<;>lia)
 obtain⟨L,DZ,n1m⟩:∃L:Nat,((if (5:Int)<(m:Int) then 5 else(m:Int))-0).toNat=L/\L<=m/\L<=5:=#[_,rfl,by split<;>lia,by split<;>lia]
 refine#[_,rfl,_,_,rfl,_,_,rfl,?_,?_]
 all_goals dsimp only
 all_goals have zb:0<=(if (if (m:Int)-5>0 then(m:Int)-5 else 0)<4 then(if (m:Int)-5>0 then(m:Int)-5 else 0) else 4)/\(if (if (m:Int)-5>0 then(m:Int)-5 else 0)<4 then(if (m:Int)-5>0 then(m:Int)-5 else 0) else 4)<=4:=by split<;>split<;>lia
 all_goals generalize (if (if (m:Int)-5>0 then(m:Int)-5 else 0)<4 then(if (m:Int)-5>0 then(m:Int)-5 else 0) else 4)=z at zb ⊢
 .exact#[(),()]
 obtain⟨G,qT,n24⟩:∃G:Nat,z.toNat=G/\G<=4:=#[_,rfl,()]
 rw[DZ,qT,kJ,kJ];refine gz (ρ:= [none,some (.int (m:Int))]) ao (λk=> .int ((m:Int)-1-(k:Int))) (ac G) _ (λk J Y hY=>#[_,rfl,_,rfl,hY]) rfl (small (by rw[fw];lia)) λaT=>?_
 have ed:(ac L).map ao++(ac G).map (λ(k:Nat)=>D.int ((m:Int)-1-(k:Int)))=aS ((ac L).map (λ(k:Nat)=>(k:Int))++(ac G).map λ(k:Nat)=>(m:Int)-1-(k:Int)):=by
  unfold aS;rw[cW,b7,b7];rfl
 refine#[small (by rw[aI,aI,fw,fw];lia),trivial,?_]
 rw[ed]
 have dm:∀d∈(ac L).map (λ(k:Nat)=>(k:Int))++(ac G).map (λ(k:Nat)=>(m:Int)-1-(k:Int)),0<=d/\d<m:=λd hd=>by
  rcases b6.mp hd with z|z
  .obtain⟨k,J,rfl⟩:=bT.mp z
   have:=cE.mp J
   lia
  .obtain⟨k,J,rfl⟩:=bT.mp z
   have:=cE.mp J
   lia
 have dl:((ac L).map (λ(k:Nat)=>(k:Int))++(ac G).map (λ(k:Nat)=>(m:Int)-1-(k:Int))).length<=9:=by
  rw[cD,aI,aI,fw,fw];lia
 generalize (ac L).map (λ(k:Nat)=>(k:Int))++(ac G).map (λ(k:Nat)=>(m:Int)-1-(k:Int))=dy at dm dl;refine#[_,rfl,_,rfl,_,rfl,_,rfl,#[∅,∅],(by show(0:Int)<2;decide),Dx #[w,I,dy,_,rfl,u,(),(),(),λf fl pr fd=>#[trivial,?_]]]
 refine#[_,rfl,_,rfl,_,rfl,_,rfl,_,rfl,w,f,p,m,rfl,u,(),(),(),(),λh hl hs hn ha=>#[_,rfl,_,rfl,by show 4<=sizeLine;decide,?_]]
 exact q w h p m u () () (λG=>wp () (pt ())) () () m4 QC (λx y d hy a hz=>pr x y d hy (hs x d a) (hs y d hz)) (λx d a=>dm d (fd x d (hs x d a))) hn ha
end oW
namespace L2
open PySem PySem.Spec PyProof.Rows
section
variable {Z:DC} {X:Cx} {md:List Nat} {rn:Nat} {B:Bs} {ρ:DN} {σ:St} {H G:Hp} {fp:Nat->List Addr}
def SIx.drop(S:SIx Z B md ρ σ H G fp)(i:Nat)(o:Option V):SIx Z B md (ρ.set i none) (σ.set i o) H G fp where
 ex:=S.ex
 fl:=S.fl
 len:=by rw[fj,fj];exact S.len
 at_:=λj d a=>by
  by_cases z:j=i
  .subst z
   rw[mZ,ir rfl] at a
   split at a<;>cases a
  .rw[jF (Ne.symm z)] at a ⊢
   exact S.at_ j d a
 nd:=S.nd
 ap:=S.ap
 nw:=S.nw
def NS(i:Nat)(c:bz)(tc:dM)(t u:cz):cz:=λE a=>c a λd=>tc (a.set i (some d)) λb=>if b=true then t {E with nx:=u E} (a.set i none) else u E (a.set i none)
def Fy(i:Nat)(I:X.N.Nodup)(J:DE Z X e w)(L:DT Z X c tc)(O:ng Z X md rn a t)(P:ng Z X md rn f u)(Q:X.N[i]?\x:=by rfl)(R:Loc X.env.scope x:=by subst_eqs)(T:swapsWith e (some (.Name x g)) l.line X.env=pure false:=by rfl)
  (U:X.fn x=true\/X.env.scope.names.lookup x\.local:=by subst_eqs):ng Z X md rn (.Assign [.Name x g] e l:: .If c a [] F::f) (NS i w tc t u):=by
 refine mz.imp (gE (gZ I Q R J T U) (gE (ME L O (aM (Z:=Z) (md:=md) (rn:=rn))) P)) ?_;rintro D Y H ⟨B,o,E,⟨G,y,S⟩,h,M⟩;refine#[H,o,_, .refl _,S.vE,h,λd hd v G' m x dv=>?_];have p:=S.grow (Ext.all S.ex.sub x)
 have e1:eX Z m (Y.set i (some v)) (o.set i (some d)):=by
  obtain⟨l1,a1⟩:=p.vE;refine#[by rw[fj,fj];exact l1,λj c k=>?_]
  by_cases z:i=j
  .subst z
   by_cases n:i<o.length
   .rw[kY n] at k
    cases Do k;exact#[v,kY (by rw[<-S.len];exact n),dv.mono x.sub]
   .rw[A3 (lP n),gK (lP n)] at k;cases k
  .rw[jF z] at k ⊢
   exact a1 j c k
 refine#[m,_,_, .refl _,e1,hd,λb A G2 H2 x2=>?_];have C:=(p.grow (Ext.all p.ex.sub x2)).drop i (some v);cases b with
 |true=>exact c9 #[B,_,_,#[G,y,C],A,#[λq r aQ m s=>#[B,q,E,s,r,M],M.rt,M.bk,M.ct,M.xc]]
 |false=>exact bK #[B,_,{E with nx:=u E},#[G,y,C],A,#[λq r aQ m s=>#[B,q,E,s,r,M],M.rt,M.bk,M.ct,M.xc]]
end
def eF(K:ab)(x:Str)(st:Stmt):Prop:=∃(d:Addr)(b c:Option Addr)(e:Array (Option Value))(f kV g h a i:Value),NK K x d/\CV K x x st d b c e f kV g h a i/\bc K a x=true/\am K (.ref d)=true
def Fd(K:ab)(C:Addr)(m a:Str)(st:Stmt):Prop:=∃(d:Addr)(c e:Option Addr)(f:Array (Option Value))(g kV h i b j:Value),ar K (.ref C) m\(some (.ref d))/\bv K (.ref d)=true/\CV K m a st d c e f g kV h i b j/\bc K b a=true/\am K (.ref d)=true
abbrev qQ(K:ab)(x:Str):Prop:=b4 K mainGlobals x\none
section
variable {K:ab} {h:Heap} {mg:Str->Option Value}
def Yl{x:Str}{st:Stmt}{d:Addr}{e f:Option Addr}{g:Array (Option Value)}{i kV j m b n:Value}(a:NK K x d)(l:CV K x x st d e f g i kV j m b n)(c:bc K b x=true)(k:am K (.ref d)=true):eF K x st:=#[_,_,_,_,_,_,_,_,_,_,a,l,c,k]
def mfH{C:Addr}{m b:Str}{st:Stmt}{d:Addr}{g i:Option Addr}{j:Array (Option Value)}{n kV o p e q:Value}(a:ar K (.ref C) m\(some (.ref d)))(f:bv K (.ref d)=true)(l:CV K m b st d g i j n kV o p e q)(c:bc K e b=true)(k:am K (.ref d)=true):Fd K C m b st:=#[_,_,_,_,_,_,_,_,_,_,a,f,l,c,k]
noncomputable def dE.ch{x:Str}{st:Stmt}{d:List Str}(X:K.In h)(G:h.Ns mainGlobals mg)(e:eF K x st)
  (b:∀(kV f i:Value)(j:Option Addr)(m n:Value)(g:List Value),g.length=d.length->bindArgs (bd x x (iA st) (fG st) (aw st) .none kV f i j m n) #[g,[]]=pure (d.zip g)):dE K mg x st d:=
 Classical.choice (by
  obtain⟨_,_,_,_,_,_,_,_,_,_,a,l,c,k⟩:=e;exact#[.of X G a l c k b])
noncomputable def Bb.ch{Z:DC}{m d:Str}{st:Stmt}{g:List Str}(e:Fd Z.K Z.C m d st)
  (b:∀(kV i n:Value)(o:Option Addr)(p q:Value)(j:List Value),j.length=g.length->bindArgs (bd m d (iA st) (fG st) (aw st) .none kV i n o p q) #[j,[]]=pure (g.zip j)):Bb Z m d st g:=
 Classical.choice (by
  obtain⟨_,_,_,_,_,_,_,_,_,_,a,f,l,c,k⟩:=e;exact#[.of a f l c k b])
end
end L2
namespace oW
open PySem L2 Wb
variable {P:Program} {w:World} {mg:Str->Option Value} {base:Heap} {Z:DC} (T:Txt Z mg)
open Wy
def z6{f:List (Option Int)}:(f.map λo=>o.map λd=>m-1-d).getD q none=(f.getD q none).map λd=>m-1-d:=by
 rw[bS,bS,cG];cases f[q]? <;>rfl
def Cw:bZ:=λb P=>∃(a:List Int),b= [.gN a]/\a.length<=63/\P (.bl true)
def OM:FnOk P w Z.K mg base b9 8 T.d_law.f T.d_law.fd ["_law_script"] (aX Z Cw):=by
 have a:=H0.nd;refine ba T.d_law.F H0 [0,0,0,0,0,0,0,0,0,2,0,0,0] ∅ (λds R h=>by obtain⟨_,rfl,_⟩:=h;rfl) (λbE A outer s H E ds R i h=>?_)
 have k:=i.units
 refine#[_,(ag (wU (aD T.d__law_case (zU T) i (ae (aa 0) ah)) (iB 4 rfl (bF (aR 1 a) (bF (aR 2 a) (bF (aR 3 a) (bF (aR 4 a) e9))))))
   (ag (aO false 5 a (KW T.mkW (uO T) (i.mono ∅) rfl T.mC T.m___init__b (ae (aa 1) ah)))
   (ag (aO false 6 a (g8 pB rfl T.B.list dX (ae (aa 2) ah)))
   (ag (aO false 7 a (aD T.d_dye_given ((iK T).imp zY) i (ae (aa 5) (ae (aa 6) (ae (aa 3) (ae (aH bL (aa 4) av) ah))))))
   (ag (aO false 8 a (aD T.d__law_done (jo T) i (ae (aa 1) (ae (aa 2) (ae (aa 3) (ae (aH bL (aa 4) av) (ae (aB (aa 7) av) ah)))))))
   (ag (bp (DW.dt (fB (aG kE (aa 8) bB (aP _)) (gx (aG (f9 k) (aB (aa 7) av) (aB (aa 8) av) (aP _))))) (aq (aJ jb)) aM)
   (ag (Lb 9 a (iK T) (i.mono ∅) rfl T.d_dye_given.m T.d_dye_given.F.kp T.d_dye_given.b (ae (aa 5) (ae (aa 6) (ae (aa 3) (ae (aa 4) ah)))))
   (ag (bp (DW.dt (fB (aG (f9 k) (aa 6) (aa 2) (aP _)) (fB (aG (f9 k) (h7 T.W (aa 5) T.m_turns.m (lY T) (i.mono ∅) T.m_turns.b) (aa 1) (aP _)) (fB (eJ (dr (lB "tuple" (aa 9) rfl T.B.isinstance rfl T.B.tuple z8))) (gx (aG (f9 k) (aE aZ rfl T.B.len aY (ae (aa 9) ah)) av (aP _))))))) (aq (aJ jb)) aM)
   (ag (bp (DW.dt (fB (eJ (dr (lB "list" (aB (aa 9) av) rfl T.B.isinstance rfl T.B.list dX))) (gx (eJ (dr (lB "list" (aB (aa 9) av) rfl T.B.isinstance rfl T.B.list dX)))))) (aq (aJ jb)) aM)
   (Fy 8 a (aD T.d__law_done (jo T) i (ae (aa 1) (ae (aa 2) (ae (aa 3) (ae (aa 4) (ae (aB (aa 9) av) ah)))))) (DW.dt (fB (aG kE (aa 8) bB (aP _)) (fB (aG (f9 k) (aB (aa 9) av) (aB (aa 8) av) (aP _)) (fB (aG (f9 k) (aE aZ rfl T.B.len aY (ae (aB (aa 9) av) ah)) (aB (aa 8) av) (aP _)) (gx (eJ (dr (aD T.d__law_is_dyeing (kH T) i (ae (aa 1) (ae (aB (aa 9) av) ah)))))))))) (aq (aJ jb))
   (ag (vC 9 av)
   (ag (vC 9 av)
   (ag (mE 10 (NC:= ["_law_dye","_law_many"]) (src:= [none,some 4]) rfl a (kA (aw Cp)) #[rfl,rfl,trivial] (bA (aa 2)) (λ_ _ _=>(bI 0 (show(["_law_dye","_law_many"]:List Str).Nodup from by decide+kernel))) (λ_ _ _=>dF) (λ_ _ _=>(aD T.d__law_turned_about (oS T) i (ae (aa 0) (ae (aa 1) ah)))))
   (ag (aO false 11 a (aD T.d_dye_given ((iK T).imp zY) i (ae (aa 5) (ae (g8 pB rfl T.B.list dX (ae (aa 10) ah)) (ae (aa 3) (ae (aa 4) ah))))))
   (ag (aO false 8 a (aD T.d__law_done (jo T) i (ae (aa 1) (ae (aa 10) (ae (aa 3) (ae (aa 4) (ae (aB (aa 11) av) ah)))))))
   (ag (bp (DW.dt (fB (aG kE (aa 8) bB (aP _)) (gx (aG (f9 k) (aB (aa 11) av) (aB (aa 8) av) (aP _))))) (aq (aJ jb)) aM)
   (ag (aO false 12 a (aD T.d_dye_given ((iK T).imp zY) i (ae (aa 5) (ae (aa 6) (ae (aa 3) (ae (aa 4) ah))))))
   (ag (aO false 8 a (aD T.d__law_done (jo T) i (ae (aa 1) (ae (aa 2) (ae (aa 3) (ae (aa 4) (ae (aB (aa 12) av) ah)))))))
   (aq (aJ (qE (lA ko (aa 8) bB (aP _)) (qE (lA (fD k) (aB (aa 12) av) (aB (aa 8) av) (aP _)) (wQ (lA (fD k) (aa 6) (aa 2) (aP _))))))))))))))))))))))))),?_]
 obtain⟨u,rfl,BB,q⟩:=h;refine#[_,rfl,u,rfl,λw f p m g v j G n l N QC I J L O=>#[rfl,rfl,?_]];have Yq:Dy ((m+1:Nat):Int) f:=λx d h=>by have:=J x d h;lia
 exists _,rfl,w,rfl,g,v,j,trivial;exists _,rfl,trivial;refine#[_,rfl,_,rfl,_,rfl,_,rfl,w,f,p,m+1,rfl,(),(),g,v,j,G,n,l,I,Yq,L,(),λr t G1 V1=>#[trivial,?_]]
 refine#[_,rfl,_,rfl,_,rfl,_,rfl,_,rfl,_,rfl,w,f,r,p,m+1,t,[],by rw[qu,jH];rfl,g,j,n,l,∅,(),V1,trivial,?_]
 dsimp only;refine j6 [some (.gN u),some (aL w),some (aA f),some (ao p),some (.int (m:Int)),some (.fM w),some (aA f),some (.tup [aA r, .lst t]),some (.tup [aA r,ao t.length]),none,none,none,none] rfl ?_;refine#[_,rfl,_,rfl,bK #[_,rfl,_,rfl,_,rfl,_,rfl,qD #[_,rfl,mL (by simp) ?_]]]
 refine#[_,rfl,_,rfl,_,rfl,_,rfl,w,f,p,m,rfl,N,(),g,v,j,G,n,l,I,J,L,O,λM Q X V2=>?_]
 dsimp only;refine j6 [some (.gN u),some (aL w),some (aA f),some (ao p),some (.int (m:Int)),some (.fM w),some (aA f),some (.tup [aA r, .lst t]),some (.tup [aA r,ao t.length]),some (.tup [aA M, .lst Q]),none,none,none] rfl ?_;refine#[_,rfl,_,rfl,qD #[_,rfl,mL (by simp) ?_]]
 refine#[_,rfl,w,rfl,w,rfl,j,_,rfl,KJ #[_,rfl,mL (by simp) ?_]]
 refine#[_,rfl,rfl,rfl,bK ?_];exists _,rfl;dsimp only[lu,vo,dC];refine(?_:rR (.int 2) (.int 2) _);refine mD #[_,rfl,bK ?_];refine#[_,rfl,_,rfl,rfl,rfl,bK ?_];refine#[_,rfl,_,rfl,rfl,rfl,bK ?_];refine#[_,rfl,_,rfl,_,rfl,_,rfl,_,rfl,_,rfl,w,f,M,p,m,Q,[],by rw[qu,jH],g,j,n,l,∅,(),V2,?_]
 refine#[_,rfl,_,rfl,bK #[_,rfl,_,rfl,_,rfl,_,rfl,qD #[_,rfl,mL (by simp) ?_]]]
 exists _,rfl,_,rfl;dsimp only[lu,vo];refine#[_,rfl,_,rfl,mD #[_,rfl,mL (by simp) ?_]]
 refine#[_,rfl,_,rfl,_,rfl,w,M,rfl,g,j,X.len.trans l,λb hb=>#[rfl,?_]];obtain rfl:b=true:=hb.mpr X.pr;refine bK ?_;refine j6 [some (.gN u),some (aL w),some (aA f),some (ao p),some (.int (m:Int)),some (.fM w),some (aA f),some (.tup [aA r, .lst t]),none,some (.tup [aA M, .lst Q]),none,none,none] rfl ?_;exists _,rfl,0,0,_,rfl,rfl,rfl;exists _,rfl,1,1,_,rfl,rfl,rfl;dsimp only;refine j6 [some (.gN u),some (aL w),some (aA f),some (ao p),some (.int (m:Int)),some (.fM w),some (aA f),some (.tup [aA r, .lst t]),none,some (.tup [.lst [], .lst []]),none,none,none] rfl ?_;exists _,rfl;refine gz (ρ:= [none,some (.int (m:Int))]) oD (λo=>oD (o.map λd=>(m:Int)-1-d)) f _ (λo ho Y hY=>#[_,rfl,_,rfl,o,m,rfl,hY]) rfl (small ()) λaT=>#[trivial,?_]
 have es:(f.map λo=>oD (o.map λd=>(m:Int)-1-d))=(f.map λo=>o.map λd=>(m:Int)-1-d).map oD:=by rw[b7];rfl
 rw[es];have S:(f.map λo=>o.map λd=>(m:Int)-1-d).length=f.length:=aI _
 have z:∀x d,(f.map λo=>o.map λd=>(m:Int)-1-d).getD x none\d->f.getD x none\((m:Int)-1-d):=λx d h=>by
  rw[z6] at h;cases e:f.getD x none with
  |none=>rw[e] at h;cases h
  |some c=>
   rw[e] at h;have h:(m:Int)-1-c=d:=Do h
   congr 1;lia
 have UM:(f.map λo=>o.map λd=>(m:Int)-1-d).getD p none=none:=by rw[z6,L];rfl
 have UN:(cQ w (f.map λo=>o.map λd=>(m:Int)-1-d) p).length<=m:=by
  refine m8 (aF ((g.nod p).filter _) λx C=>?_) O;obtain⟨xr,d,hd⟩:=eZ.mp C;exact eZ.mpr #[xr,_,z x d hd]
 generalize (f.map λo=>o.map λd=>(m:Int)-1-d)=U at S z UM UN;dsimp only;refine j6 [some (.gN u),some (aL w),some (aA f),some (ao p),some (.int (m:Int)),some (.fM w),some (aA f),some (.tup [aA r, .lst t]),none,some (.tup [.lst [], .lst []]),some (aA U),none,none] rfl ?_;refine#[_,rfl,_,rfl,_,rfl,_,rfl,w,U,p,m,rfl,N,(),g,v,j,G,n,S.trans l,λx y d hy C hz=>I x y _ hy (z x d C) (z y d hz),λx d C=>(by have:=J x _ (z x d C);lia),UM,UN,λf4 d4 G4 V4=>#[trivial,?_]]
 refine#[_,rfl,_,rfl,_,rfl,_,rfl,_,rfl,_,rfl,w,U,f4,p,m,d4,[],by rw[qu,jH],g,j,n,S.trans l,∅,(),V4,trivial,?_]
 refine#[_,rfl,_,rfl,bK #[_,rfl,_,rfl,_,rfl,_,rfl,qD #[_,rfl,mL (by simp) ?_]]]
 refine#[_,rfl,_,rfl,_,rfl,_,rfl,w,f,p,m,rfl,N,(),g,v,j,G,n,l,I,J,L,O,λf5 d5 G5 V5=>#[trivial,?_]]
 refine#[_,rfl,_,rfl,_,rfl,_,rfl,_,rfl,_,rfl,w,f,f5,p,m,d5,[],by rw[qu,jH],g,j,n,l,∅,(),V5,trivial,?_]
 exists _,rfl,_,rfl,_,rfl;refine#[_,rfl,_,rfl,_,rfl,ux #[_,rfl,?_]];rw[GT rfl];refine c9 #[_,rfl,_,rfl,ux ?_];rw[GT rfl];exact q
set_option hygiene false in
local macro_rules| `(tactic|and_intros)=> `(tactic| (intro _ _ _ _ _ _ _ hl;first| (obtain⟨_,rfl⟩:=L2.Qy hl;rfl) | (obtain⟨_,_,rfl⟩:=L2.Qz hl;rfl) | (obtain⟨_,_,_,rfl⟩:=L2.QA hl;rfl) | (obtain⟨_,_,_,_,rfl⟩:=L2.QB hl;rfl) | (obtain⟨_,_,_,_,_,rfl⟩:=L2.V3 hl;rfl)))
def all_mk{l:b5}{w:World}(X:K.In h)(G:h.Ns mainGlobals a)(A:a "law"\(.ref q)) 
  
  
  (gC:b4 K mainGlobals "Web"\(some (.ref C)))
  (a0:eF K "round_from" mv)
  (a1:eF K "lands" p5)
  (a2:eF K "count" yY)
  (a3:eF K "is_plane" pZ)
  (a4:eF K "need_plane" mn)
  (a5:eF K "chain" yX)
  (a6:eF K "exchanged" nZ)
  (a7:eF K "least_free" mi)
  (a8:eF K "freeing_exchange" gM)
  (a9:eF K "dye_given" iS)
  (Xw:eF K "is_among" pY)
  (Xx:eF K "alien_fault" kK)
  (Xy:eF K "self_fault" mw)
  (Xz:eF K "twice_fault" kN)
  (T8:eF K "lone_fault" mj)
  (XA:eF K "reached_from_first" eo)
  (XB:eF K "apart_fault" kL)
  (XE:eF K "first_fault" kM)
  (XF:eF K "_law_cell_at" jR)
  (XG:eF K "_law_reserve" jT)
  (XH:eF K "_law_draws" l9)
  (XI:eF K "_law_lands" mf)
  (XJ:eF K "_law_places" iR)
  (XM:eF K "_law_grown" jq)
  (XO:eF K "_law_web" pX)
  (XQ:eF K "_law_named" jr)
  (XR:eF K "_law_dyeing" gh)
  (XS:eF K "_law_is_dyeing" iQ)
  (XT:eF K "_law_chain" l8)
  (XU:eF K "_law_with" nY)
  (XW:eF K "_law_whole" mh)
  (XX:eF K "_law_is_deed" jS)
  (XY:eF K "_law_free" iP)
  (XZ:eF K "_law_is_free" g5)
  (X0:eF K "_law_exchanged" iN)
  (X1:eF K "_law_done" nX)
  (X2:eF K "_law_hub" h8)
  (X3:eF K "_law_hub_dyes" ji)
  (X4:eF K "_law_but" pW)
  (X5:eF K "_law_filled_up" iO)
  (X6:eF K "_law_bare" kf)
  (X7:eF K "_law_turned_about" gj)
  (X8:eF K "_law_case" iM)
  (y:NK K "law" c)
  (d:CV K "law" "law" Cp c B E F H I J L u M)
  (Yc:bc K u "law"=true)
  (f:am K (.ref c)=true)
  (m0:ar K (.ref C) "__init__"\(some (.ref b)))
  (f0:bv K (.ref b)=true)
  (g:CV K "__init__" "Web.__init__" fL b N O Q R S U Y x Z9)
  (i:bc K x "Web.__init__"=true)
  (j:am K (.ref b)=true)
  (m1:Fd K C "many" "Web.many" pV)
  (m2:Fd K C "turns" "Web.turns" ke)
  (m3:Fd K C "ties" "Web.ties" lK)
  (m4:Fd K C "tied" "Web.tied" vT)
  (m5:Fd K C "behind" "Web.behind" l7)
  (k:bD K C Str.empty=true)
  (Od:b3 K C=true)
  (m:ce K C=true)
  (n:ar K (.ref C) "__setattr__"\(some (.builtin "object.__setattr__")))
  (o:cq K C=true)
  (p:am K (.ref C)=true)
  (nR:ar K (.ref C) "rows"\none)
  (Uh:b4 K mainGlobals "__name__"\(some (.str "law_mapdye_k53_whole_a_point_given_a_dye" t)))
  (Yd:b4 K mainGlobals "MOST_POINTS"\(some (.int 14 r)))
  (Xi:qQ K "len")
  (PY:qQ K "range")
  (Xj:qQ K "max")
  (Xk:qQ K "min")
  (E2:qQ K "enumerate")
  (Xn:qQ K "zip")
  (Nz:qQ K "sorted")
  (Xg:qQ K "all")
  (CH:qQ K "isinstance")
  (Xh:qQ K "int")
  (TM:qQ K "bool")
  (TN:qQ K "list")
  (PZ:qQ K "tuple")
  (Xm:qQ K "sum")
  (Hb:qQ K "reversed")
  (Xl:qQ K "set")
  :∃z:FuncData,(∀(s:Shared)(v:Value),BindsTo s z #[[v],[]] [("_law_script",v)])/\∀base:Heap,K.In base->base.Ns mainGlobals a->FnOk l.prog w K a base b9 40 q z ["_law_script"] (L2.t7 K):=by
 have e:=A.symm.trans (abe X G y);cases e;have E0:=sV (st:=fL) g i j;have e0:=E0.binds (ps:= ["self","turns"]) (by and_intros)
 let Z:DC:=#[K,C]
 let T:Txt Z a:=#[#[IR X G Xi,IR X G PY,IR X G Xj,IR X G Xk,IR X G E2,IR X G Xn,IR X G Nz,IR X G Xg,IR X G CH,IR X G Xh,IR X G TM,IR X G TN,IR X G PZ,IR X G Xm,IR X G Hb],IR X G Xl, .ch X G a0 (by and_intros), .ch X G a1 (by and_intros), .ch X G a2 (by and_intros), .ch X G a3 (by and_intros), .ch X G a4 (by and_intros), .ch X G a5 (by and_intros), .ch X G a6 (by and_intros), .ch X G a7 (by and_intros), .ch X G a8 (by and_intros), .ch X G a9 (by and_intros), .ch X G Xw (by and_intros), .ch X G Xx (by and_intros), .ch X G Xy (by and_intros), .ch X G Xz (by and_intros), .ch X G T8 (by and_intros), .ch X G XA (by and_intros), .ch X G XB (by and_intros), .ch X G XE (by and_intros), .ch X G XF (by and_intros), .ch X G XG (by and_intros), .ch X G XH (by and_intros), .ch X G XI (by and_intros), .ch X G XJ (by and_intros), .ch X G XM (by and_intros), .ch X G XO (by and_intros), .ch X G XQ (by and_intros), .ch X G XR (by and_intros), .ch X G XS (by and_intros), .ch X G XT (by and_intros), .ch X G XU (by and_intros), .ch X G XW (by and_intros), .ch X G XX (by and_intros), .ch X G XY (by and_intros), .ch X G XZ (by and_intros), .ch X G X0 (by and_intros), .ch X G X1 (by and_intros), .ch X G X2 (by and_intros), .ch X G X3 (by and_intros), .ch X G X4 (by and_intros), .ch X G X5 (by and_intros), .ch X G X6 (by and_intros), .ch X G X7 (by and_intros), .ch X G X8 (by and_intros), .of X G y d Yc f (by and_intros),#[#[k,Od,m,n],nR],abe X G gC,b,_,E0,#[o,m0,f0,p],e0, .ch m1 (by and_intros), .ch m2 (by and_intros), .ch m3 (by and_intros), .ch m4 (by and_intros), .ch m5 (by and_intros),#[t,abe X G Uh],#[r,abe X G Yd]]
 exact#[_,λs v=> .of_eq rfl,λbase _ _=>(((OM (P:=l.prog) (w:=w) (base:=base) T).mono ∅).imp (L2.OB (Z:=Z)))]
def walk{l:b5}{q:Program}{a:List Str}{i:(Str->Option Value)->Heap->Prop}{c:World->Heap->Prop}{d:DefRec}{K:Params->ab}(j:l.most\63)(k:d.params.defaults= [])
  (m:∀(w:World)(h:Heap),c w h->(K w.params).In h)
  (F:∀(w:World)(b:Str->Option Value)(e:Addr)(h:Heap),(K w.params).In h->h.Ns mainGlobals b->b d.name\(.ref e)->
   ∃g:FuncData,(∀(s:Shared)(u:Value),BindsTo s g #[[u],[]] [("_law_script",u)])/\∀base:Heap,(K w.params).In base->base.Ns mainGlobals b->FnOk l.prog w (K w.params) b base b9 40 e g ["_law_script"] (t7 (K w.params))):
  dg q a i c l.row.toRowW d [] (λf n=>cy f n):=L2.TJ 40 ∅ j k m F
end oW
namespace PySem.W.Fast
def tw12563757237073126609:=0
def tw16638146330881004639:=0
def tw12716346401679458239:=0
def tw12885510785697732301:=0
def tw5170162314783599590:=0
def tw16559293699641792088:=0
def tw12236488332645158023:=0
def tw1266416599602973972:=0
def tw16284966499101694728:=0
def tw2125967742552763907:=0
def tw17524127752823664653:=0
def tw16986286787792239389:=0
def tw8575839867937229569:=0
def tw8156571040010712114:=0
def tw6739344013722380632:=0
def tw7368063175455958080:=0
def tw12510833353870463967:=0
def tw17411891095781189699:=0
def tw16722804729692248251:=0
def tw10336110089670431113:=0
def tw9150021717845016915:=0
def tw11425287551763452622:=0
def tw14556804899246861660:=0
def tw8315042889084545031:=0
def tw14998372611859834700:=0
def tw4963976630459095954:=0
def tw8667668001155252615:=0
def tw2807410027693432935:=0
def tw5866486973751830405:=0
def tw387810609914762466:=0
def tw15693116972196203593:=0
def tw13525533406492955804:=0
def tw4276517550689791169:=0
def tw17118566506013182577:=0
def tw1081761354446010866:=0
def tw9107520859367912812:=0
def tw17537922634242371236:=0
def tw8407893018027540912:=0
def tw14924082285016876860:=0
def tw4004633068131553811:=0
def tw6949619352086438720:=0
def tw11267446627146330558:=0
def tw1340796846699820294:=0
def tw8902837942258634130:=0
def tw13942313006642933976:=0
def tw17089551023001108705:=0
def tw722247001618039329:=0
def tw9000305669058208092:=0
def tw14731814073492420714:=0
def tw16826269548318903159:=0
def tw12129184056501113245:=0
def tw9847487735607317047:=0
def tw13209277013978644525:=0
def tw3421517435015443579:=0
def tw15031958353031028030:=0
def tw16204173007286447025:=0
def tw11419572573632153374:=0
def tw239590438240856688:=0
def tw13675257830982618129:=0
def tw5588591882996479344:=0
def tw7120321667749827129:=0
def tw12146718336250307481:=0
def tw15711750983409551465:=0
def tw4810833123684942004:=0
def tw67407454511452162:=0
def tw3713378595885858279:=0
def tw10288440879360349946:=0
def tw11532937512553309098:=0
def tw17815598217253572302:=0
def tw16522425490932408539:=0
def tw17278451617709432696:=0
def tw17079124986853624539:=0
def tw10492731477794395659:=0
def tw469657999909085718:=0
def tw16393532207515751956:=0
def tw10115302748385169866:=0
def tw12316519177951228045:=0
def tw13424557549563766737:=0
def tw10272399212174981995:=0
def tw15028419410651306016:=0
def tw427659260167881004:=0
def tw15745536142015186112:=0
def tw13790329519241789185:=0
def tw4706837288756463199:=0
def tw4332714553783952190:=0
def tw13051238262781913583:=0
def tw12950445575486384289:=0
def tw9619530695371215248:=0
def tw9517725519726148960:=0
def tw10215333315722615661:=0
def tw9811834358033338428:=0
def tw2484405424176605031:=0
def tw326807957793088804:=0
def tw13490473521921497142:=0
def tw17008798315252832078:=0
def tw16073201241006659869:=0
def tw1231112075628465528:=0
def tw3902000169641583464:=0
def tw17933803274409835841:=0
def tw4444188385640266417:=0
def tw17315602841089995118:=0
def tw6650841967448128620:=0
def tw8667464381810002831:=0
def tw14994586198205174471:=0
def tw7967253142722447552:=0
def tw14507691135870046177:=0
def tw12833405420132171977:=0
def tw4676075023555739573:=0
def tw12189941396902240165:=0
def tw10761983744463171534:=0
def tw13868060264533132194:=0
def tw7245207749543701395:=0
def tw8586271044571985128:=0
def tw9664256295325194797:=0
def tw12145714315621222760:=0
def tw4095160926341048009:=0
def tw3056726470051665195:=0
def tw16707610852830343748:=0
def tw13971699513483610665:=0
def tw12196971778373435072:=0
def tw11023336363118313986:=0
def tw15989062648798931064:=0
def tw12244178818156584398:=0
def tw2061895698904604063:=0
def tw7373438186956902883:=0
def tw15854858913029154925:=0
def tw1052493974993206735:=0
def tw13327955671941159767:=0
def tw8871585605239921252:=0
def tw719913802158101940:=0
def tw11065488713441870452:=0
def tw10574082423096942111:=0
def tw11812065178698002210:=0
def tw15389372561483157772:=0
def tw6926728190527272651:=0
def tw5388726937841281358:=0
def tw17876330811263685811:=0
def tw10141128776303306617:=0
def tw3854095933783399872:=0
def tw4251186433564063811:=0
def tw15380228945713187525:=0
def tw3189913231558131482:=0
def tw7407344118922112091:=0
def tw2687574804167929996:=0
def tw6235712942264957944:=0
def tw2549588493348275907:=0
def tw2861344561929159887:=0
def tw2109445681530305839:=0
def tw12888519438711206540:=0
def tw5319893392920198872:=0
def tw6220486244810410372:=0
def tw5607230566956600664:=0
def tw102665218058116766:=0
def tw13653625667941403782:=0
def tw4208802672162148122:=0
def tw17231787094951279820:=0
def tw4470454039169188285:=0
def tw12543978387902177309:=0
def tw7303195215468744795:=0
def tw695584330519969320:=0
def tw11968322828095823161:=0
def tw14661901945566463550:=0
def tw8163937965817582962:=0
def tw18423550337828702140:=0
def tw12371638730877111708:=0
def tw16110099565747725542:=0
def tw15073814637389462152:=0
def tw15296369064745452247:=0
def tw13582894158309970268:=0
def tw12665522540143981902:=0
def tw2403445281176793265:=0
def tw5367365051636498547:=0
def tw16003926014435883164:=0
def tw13861600036125328569:=0
def tw14838289411688941035:=0
def tw16308789263531789006:=0
def tw13514601487929387704:=0
def tw15584495932499189968:=0
def tw10841029779170857347:=0
def tw6406940693259723198:=0
def tw11446341507453559408:=0
def tw14620078317270060336:=0
def tw1818590617016976812:=0
def tw5164078100152215148:=0
def tw12338993635300181392:=0
def tw5926306195271133146:=0
def tw14539804068048210989:=0
def tw3248630062199399377:=0
def tw2754607894647547760:=0
def tw387200913879399663:=0
def tw12863347689644883629:=0
def tw13179528615765200270:=0
def tw15897644611140202446:=0
def tw15000907993353494967:=0
def tw10815538614360171961:=0
def tw9985431978599207567:=0
def tw10898774831314474457:=0
def tw12408640604660142401:=0
def tw239950847875670306:=0
def tw5261007863188287255:=0
def tw14064811379074987217:=0
def tw9756463887385832183:=0
def tw2330614134776442541:=0
def tw467795017884170869:=0
def tw11251911168061959071:=0
def tw8190528911907609351:=0
def tw5273379696444417999:=0
def tw8302679997430685737:=0
def tw17870255834862392244:=0
def tw6429139621406664190:=0
def tw7667593636771376723:=0
def tw4700009356780139587:=0
def tw1747392591652805587:=0
def tw2588457520700618280:=0
def tw6734359401766425716:=0
def tw17480655758408605524:=0
def tw6687534625930720198:=0
def tw16777362491967678991:=0
def tw14137561475541969537:=0
def tw17440592070689366893:=0
def tw3594353976879524033:=0
def tw12806790942695358762:=0
def tw14468702287597535517:=0
def tw10992089216319709203:=0
def tw16152524454612078151:=0
def tw13557471058362685319:=0
def tw15935352043744513291:=0
def tw17678799592018280345:=0
def tw8684074020578727981:=0
def tw18413342844338883434:=0
def tw14153901354347277343:=0
def tw14800997078618938900:=0
def tw10051877820548227167:=0
def tw9499042389105249586:=0
def tw16489690753510568203:=0
def tw9113038582137261471:=0
def tw9855482041059655778:=0
def tw9005049455977183789:=0
def tw17835815895928859730:=0
def tw12640987013741236234:=0
def tw17687303407692008209:=0
def tw990981409741722869:=0
def tw17923705164883733670:=0
def tw17418458096492270827:=0
def tw2478020669957880131:=0
def tw12766757546918411881:=0
def tw17027482410413928322:=0
def tw1853967650780774681:=0
def tw17003386600774670081:=0
def tw17155068510222093472:=0
def tw2210130203428855187:=0
def tw8880007849541764862:=0
def tw10513444117520221824:=0
def tw1372161432652163144:=0
end PySem.W.Fast
open PySem PySem.W PyProof.Rows
set_option maxRecDepth 100000 in
set_option maxHeartbeats 0 in
theorem PySem.Challenge.cw_mapdye_k53_whole_a_point_given_a_dye_holds : PySem.Challenge.rw_mapdye_k53_whole_a_point_given_a_dye.Holds := by
 w_on;o_law;k_head;(case hw=>w_witness2)
 k_fill
 refine oW.walk (l:=PySem.Challenge.rw_mapdye_k53_whole_a_point_given_a_dye) rfl rfl (λw h Y=>PySem.W.kIn_of Y) ?F
 case F=>
  intro w mg fa h KX G xX
  refine' oW.all_mk KX G xX ?_ ?_ ?_ ?_ ?_ ?_ ?_ ?_ ?_ ?_ ?_ ?_ ?_ ?_ ?_ ?_ ?_ ?_ ?_ ?_ ?_ ?_ ?_ ?_ ?_ ?_ ?_ ?_ ?_ ?_ ?_ ?_ ?_ ?_ ?_ ?_ ?_ ?_ ?_ ?_ ?_ ?_ ?_ ?_ ?_ ?_ ?_ ?_ ?_ ?_ ?_ ?_ ?_ ?_ ?_ ?_ ?_ ?_ ?_ ?_ ?_ ?_ ?_ ?_ ?_ ?_ ?_ ?_ ?_ ?_ ?_ ?_ ?_ ?_ ?_ ?_ ?_ ?_ ?_ ?_ ?_ ?_ ?_
  all_goals (try (first| (show _=_;k_is) | (refine' L2.Yl ?_ ?_ ?_ ?_<;>(try (show _=_;k_is))) | (refine' L2.mfH ?_ ?_ ?_ ?_ ?_<;>(try (show _=_;k_is)))))


