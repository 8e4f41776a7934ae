import PyProof.Rows.All
import Wide.All
import OpenK.AllK
import Wide.FinOn
import Lean
import PyProof.EqAt
import PyProof.EqKinds
import PyProof.TupleCall
import PyProof.RaisesMany
import KE.KSortTup
import PyProof.NeKinds
import PyProof.SetKind
import PyProof.SetRoads
import PyProof.SetNew
import PyProof.WalksS
import PyProof.CollectWalk
import PyProof.TupleKey
import PyProof.IsRules
import PyProof.InstEq
import KE.KRevIter
import PyProof.FitsBits
import PyProof.P3Eq
import PyProof.ListRange
import PyProof.RulesAs
import PyProof.NsDelKeeps
import PyProof.PassesOwn
import PyProof.FString
import PyProof.MeetsSeq
import PyProof.DictRoadsH
import PyProof.DictTruth
import PyProof.MinMaxWalk
import PySem.Challenge.RW_mapdye_k85_ways_and_leading_refused
abbrev ir:=@PySem.wpAny_bind
abbrev mo:=@PySem.wpAny_pure
abbrev tz:=@if_pos
abbrev AC:=@if_neg
abbrev Da:=@PySem.Heap.get?_push_of_some
abbrev Do:=@Option.some.inj
abbrev Fk:=@PySem.Heap.lt_size
abbrev FB:=@Classical.byContradiction
abbrev FM:=@PySem.PassesOwn.never
abbrev FS:=@PySem.Heap.get?_push_size
abbrev Gc:=@decide_eq_false
abbrev GE:=@PySem.Heap.get?_update_other
abbrev GM:=@of_decide_eq_true
abbrev GT:=@PySem.W.mg_of
abbrev IR:=@PySem.W.mg_none_of
abbrev KB:=@congrArg
abbrev KF:=@of_decide_eq_false
abbrev KM:=@decide_eq_true
abbrev M2:=@PySem.wpAny_holding
abbrev On:=@PySem.wpAny_truthy_bool
abbrev Os:=@PySem.Heap.get?_update_self
abbrev Pi:=@PySem.W.kia_one
abbrev PP:=@if_false
abbrev P3:=@PySem.wpAny_Call_Name_kw
abbrev SB:=@PySem.F.plain_min_loop
abbrev SC:=@PySem.wpAny_newObj_type
abbrev SL:=@PySem.wpAny_standAt
abbrev SZ:=@PySem.F.plainAttrs_list
abbrev UF:=@Prod.ext
abbrev UV:=@PySem.wpAny_loadPart_at
abbrev Wp:=@PyProof.Rows.callWith_type1
abbrev W1:=@beq_eq_false_iff_ne
abbrev aat:=@PySem.wpAny_isSubtype_exc
abbrev adv:=@PySem.codeAny_mono
abbrev ad9:=@beq_iff_eq
abbrev aea:=@PySem.W.callWith_K
abbrev aeb:=@PySem.wpAny_call
abbrev aec:=@PySem.Around.under_plainId
abbrev aed:=@PySem.mem_of_lookup
abbrev aee:=@PySem.sizeLine_eq
abbrev aef:=@Prod.mk.inj
abbrev aeg:=@PySem.wpAny_passesOwn
abbrev aeh:=@PySem.codeAny_builtin
abbrev aei:=@List.Perm.append_left
abbrev aej:=@PySem.F.excBase_ValueError
abbrev aek:=@PySem.wpAny_setState_of
abbrev ael:=@PySem.wpAny_comprehension_free
abbrev aem:=@if_true
abbrev aen:=@PySem.plainId_quiet
abbrev aeo:=@PySem.codeAny_call_builtin
abbrev aep:=@beq_self_eq_true
abbrev aeq:=@PySem.wpAny_field
abbrev aer:=@PySem.SeqAt.EqAt.int_int
abbrev aes:=@PySem.Obj.data_mapFields
abbrev aet:=@PySem.F.slot_list_append
abbrev aeu:=@PySem.F.type_list_append
abbrev aev:=@PySem.Heap.size_push
abbrev aew:=@PySem.call_meets
abbrev aex:=@PySem.wpAny_seqItems
abbrev aey:=@PySem.wpAny_tryCatch
abbrev aez:=@List.eraseIdx_cons_succ
abbrev aeA:=@Nat.lt_succ_of_lt
abbrev aeB:=@Nat.add_mod_right
abbrev aeC:=@PySem.PassesOwn.leaving
abbrev aeD:=@PySem.W.cellsFrom_some
abbrev aeE:=@PySem.Calls.callWith_builtin
abbrev aeF:=@List.pairwise_lt_range
abbrev aeG:=@PySem.wpAny_of_eq
abbrev aeH:=@List.drop_of_length_le
abbrev aeI:=@PySem.F.entry_min_loop
abbrev aeJ:=@List.Perm.append_right
abbrev aeK:=@List.map_drop
abbrev aeL:=@List.sum_cons
abbrev aeM:=@Nat.lt_succ_self
abbrev aeN:=@PySem.wpAny_forIn_list
abbrev aeO:=@PySem.wpAny_call_entry
abbrev aeP:=@List.not_mem_nil
abbrev aeQ:=@List.mem_flatMap
abbrev aeR:=@Option.bind_some
abbrev aeS:=@decide_eq_decide
abbrev aeT:=@PySem.W.methodCall_KW
abbrev aeU:=@PySem.Obj.isFreed_of_fields
abbrev aeV:=@List.set_getElem_self
abbrev aeW:=@List.concat_eq_append
abbrev aeX:=@List.length_filter_le
abbrev aeY:=@PySem.plainObj_wpAny_Assign_Attribute
abbrev aeZ:=@PyProof.Rows.slot_tuple_getitem
abbrev ae0:=@PySem.wpAny_execs_nil
abbrev ae1:=@Nat.ne_of_gt
abbrev ae2:=@PySem.W.looks_findIn
abbrev ae3:=@List.of_mem_zip
abbrev ae4:=@PyProof.Rows.callWith_builtin1
abbrev ae5:=@List.map_nil
abbrev ae6:=@List.pairwise_append
abbrev ae7:=@PySem.codeAny_of_tree
abbrev ae8:=@List.map_set
abbrev ae9:=@List.eq_nil_iff_forall_not_mem
abbrev afa:=@List.filterMap_cons
abbrev afb:=@PySem.W.plainGet_of
abbrev afc:=@PySem.wpAny_loadPart
abbrev afd:=@List.countP_eq_length_filter
abbrev afe:=@List.count_set
abbrev aff:=@PyProof.Rows.assignInOrder_cons
abbrev afg:=@List.zip_cons_cons
abbrev afh:=@PySem.Code.quiet_builtin
abbrev afi:=@Int.emod_lt_of_pos
abbrev afj:=@List.getElem?_drop
abbrev afk:=@List.append_of_mem
abbrev afl:=@PySem.Calls.Name_function_global
abbrev afm:=@PySem.wpAny_newFunctionEnv_cells
abbrev afn:=@List.any_cons
abbrev afo:=@PySem.MeetsSeq3.plain_eq_loop
abbrev afp:=@Bool.not_true
abbrev afq:=@PySem.strLen_append
abbrev afr:=@PySem.wpAny_FormattedValue_plain
abbrev afs:=@List.cons.inj
abbrev aft:=@PySem.wpAny_assign_Name
abbrev afu:=@PySem.wpAny_pyIter_list
abbrev afv:=@List.getElem?_inj
abbrev afw:=@Nat.le_succ_of_le
abbrev afx:=@List.count_replicate_self
abbrev afy:=@PySem.wpAny_lookBehind
abbrev afz:=@PySem.pastItsLine_dict
abbrev afA:=@PySem.F.args_tuple_add_2
abbrev afB:=@Nat.add_comm
abbrev afC:=@List.Pairwise.imp_of_mem
abbrev afD:=@List.all_eq_true
abbrev afE:=@PySem.W.any_some
abbrev afF:=@PySem.SetTable.toList_insertAt
abbrev afG:=@List.set_set
abbrev afH:=@Nat.succ.inj
abbrev afI:=@PySem.Around.in1_units
abbrev afJ:=@List.Perm.eq_of_pairwise
abbrev afK:=@PySem.F.entry_tuple_add
abbrev afL:=@PySem.W.looks_specialIn
abbrev afM:=@List.length_eq_zero_iff
abbrev afN:=@List.range_succ
abbrev afO:=@Int.emod_nonneg
abbrev afP:=@Bool.or_eq_true
abbrev afQ:=@PySem.wpAny_updateSeq
abbrev afR:=@PySem.F.slot_tuple_add
abbrev afS:=@PySem.seqIndex_of
abbrev afT:=@PyProof.Rows.subscriptTail_builtinR
abbrev afU:=@PySem.wpAny_getItem_list_neg
abbrev afV:=@PySem.wpAny_Call_method_late
abbrev afW:=@PySem.codeAny_compStart_list
abbrev afX:=@PySem.SetTable.insertAt_perm
abbrev afY:=@Array.toList_filterMap
abbrev afZ:=@List.getElem_replicate
abbrev af0:=@List.getElem?_eraseIdx
abbrev af1:=@List.take_of_length_le
abbrev af2:=@PySem.wpAny_letGo
abbrev af3:=@Bool.false_and
abbrev af4:=@Bool.and_false
abbrev af5:=@PySem.wpAny_setField
abbrev af6:=@Iff.rfl
abbrev af7:=@Int.natAbs_mul
abbrev af8:=@PySem.wpAny_nsSet1
abbrev af9:=@Nat.succ_mul
abbrev aga:=@PySem.codeAny_loop
abbrev agb:=@Nat.pow_succ
theorem af{g:Prop}(h:∀G:Prop,(g->G)->G):g:=h g id
set_option hygiene false in
local macro_rules|`(tactic|rfl')=>`(tactic|refine af fun G0 k0=>?_)
set_option hygiene false in
local macro_rules|`(tactic|ac_rfl)=>`(tactic|refine k0 ?_)
set_option Elab.async false
set_option linter.all false
set_option maxRecDepth 100000
abbrev aP:= @List.length_map
abbrev b8:= @List.getD_eq_getElem?_getD
abbrev b9:= @List.getElem?_eq_getElem
abbrev bU:= @List.mem_cons_of_mem
abbrev bO:= @List.mem_cons_self
abbrev dS:= @List.getElem?_eq_some_iff
abbrev cI:= @List.length_append
abbrev bK:= @Nat.le_refl
abbrev eO:= @List.getElem?_map
abbrev eX:= @List.length_cons
abbrev cQ:= @Bool.false_ne_true
abbrev dW:= @List.mem_append_right
abbrev eM:= @List.getElem?_eq_none
abbrev bL:= @List.mem_map
abbrev bT:= @List.mem_cons
abbrev di:= @List.size_toArray
abbrev cR:= @List.map_append
abbrev dX:= @List.mem_singleton
abbrev cV:= @List.mem_append
abbrev fB:= @List.mem_of_getElem?
abbrev cp:= @Nat.ne_of_lt
abbrev iM:= @List.getElem?_append_left
abbrev iQ:= @List.getElem?_append_right
abbrev cG:= @List.map_map
abbrev fC:= @Nat.lt_of_lt_of_le
abbrev dY:= @List.mem_range
abbrev dF:= @List.map_cons
abbrev iR:= @List.getElem?_set_self
abbrev fJ:= @List.append_nil
abbrev gW:= @Bool.false_eq_true
abbrev iS:= @List.getElem?_set_ne
abbrev gj:= @Nat.le_of_not_lt
abbrev gX:= @List.nodup_append
abbrev gY:= @Nat.mod_eq_of_lt
abbrev eN:= @Nat.zero_le
abbrev gF:= @List.nodup_cons
abbrev kF:= @List.mem_append_left
abbrev jA:= @List.flatten_cons
abbrev fK:= @Nat.le_trans
abbrev gZ:= @List.nodup_nil
abbrev mM:= @Array.getElem?_toList
abbrev jP:= @List.append_assoc
abbrev hJ:= @Nat.lt_irrefl
abbrev jQ:= @List.length_take
abbrev jR:= @List.mem_flatten
abbrev jB:= @List.length_set
abbrev qK:= @List.drop_eq_getElem_cons
abbrev qL:= @List.getElem?_replicate
abbrev vZ:= @Array.getD_eq_getD_getElem?
abbrev lD:= @List.length_nil
abbrev qM:= @List.length_replicate
abbrev pU:= @Array.length_toList
abbrev pV:= @List.getElem?_range
abbrev v3:= @List.perm_ext_iff_of_nodup
abbrev t6:= @List.length_pos_of_mem
abbrev v7:= @List.idxOf_lt_length_iff
abbrev t7:= @List.take_append_drop
abbrev pW:= @List.getElem?_set
abbrev pX:= @List.pairwise_map
abbrev pY:= @List.length_range
abbrev v8:= @List.getElem?_cons_succ
abbrev zH:= @Array.getElem?_eq_some_iff
abbrev nX:= @List.nil_append
abbrev pZ:= @List.getElem_mem
abbrev qN:= @List.ext_getElem?
abbrev t8:= @List.perm_append_comm
abbrev zI:= @List.set_eq_of_length_le
abbrev t9:= @List.flatMap_cons
abbrev ua:= @Bool.eq_false_iff
abbrev v9:= @List.flatten_append
abbrev BA:= @Array.getElem?_eq_getElem
abbrev ub:= @Bool.and_eq_true
abbrev uc:= @List.lookup_cons
abbrev ud:= @List.mem_reverse
abbrev zJ:= @List.getElem?_of_mem
abbrev zK:= @List.replicate_succ
abbrev zL:= @List.map_congr_left
abbrev p6:= @Nat.le_of_lt
abbrev BB:= @List.drop_eq_nil_of_le
abbrev GU:= @List.nodup_iff_pairwise_ne
abbrev BC:= @List.length_singleton
abbrev qO:= @Nat.zero_add
abbrev GV:= @List.pairwise_singleton
abbrev wa:= @Nat.mul_le_mul
abbrev qP:= @Nat.le_succ
abbrev BD:= @Nat.lt_of_le_of_lt
abbrev BE:= @List.getElem_idxOf
abbrev zM:= @Option.map_some
abbrev qQ:= @Nat.mod_lt
abbrev GW:= @List.mem_iff_getElem
abbrev zN:= @List.take_succ
abbrev wb:= @Nat.sub_self
abbrev BF:= @List.length_drop
abbrev BG:= @List.filter_cons
abbrev BH:= @List.take_length
abbrev BI:= @List.map_reverse
abbrev K2:= @List.getElem?_take_of_lt
abbrev GX:= @List.length_pos_iff
abbrev zO:= @List.map_take
abbrev zq99:= @List.mem_filterMap
abbrev rY:= @Nat.mod_self
abbrev zE:= @List.nodup_range
abbrev zF:= @List.cons_append
abbrev Ee:= @List.length_eraseIdx
abbrev u9:= @List.all_cons
abbrev J0:= @Array.perm_iff_toList_perm
abbrev Ef:= @List.getD_cons_succ
abbrev Eg:= @List.filter_eq_self
abbrev Eh:= @List.length_reverse
abbrev zG:= @List.mem_filter
abbrev J2:= @List.pairwise_iff_getElem
abbrev Ei:= @Option.toList_some
abbrev Ej:= @List.pairwise_cons
namespace L2
open PySem PySem.Spec PyProof.Rows
abbrev Key:=Sum Int Str
def OG:Key->Value->Bool
 | .inl k,v=>Value.isInt k v
 | .inr x,v=>Value.isStrOf x v
def abj(w:World):Key->Int
 | .inl k=>hashInt k
 | .inr x=>hashStr w x
theorem dD:∀{k:Key}{v:Value},OG k v=true->(∃i t,k=Sum.inl i/\v=Value.int i t)\/(∃x t,k=Sum.inr x/\v=Value.str x t)
 | .inl i,v,h=>by
  obtain⟨t,e⟩:=Value.isInt_shape (k:=i) (v:=v) h;exact .inl ⟨i,t,rfl,e⟩
 | .inr x,v,h=>by
  obtain⟨t,e⟩:=Value.isStrOf_shape (x:=x) (v:=v) h;exact .inr ⟨x,t,rfl,e⟩
theorem RJ(a b:Int):decide ((Sum.inl a:Key)=Sum.inl b)=(a==b):=by
 by_cases e:a=b
 ·subst e;simp
 ·have h:¬(Sum.inl a:Key)=Sum.inl b:=λq=>e (Sum.inl.inj q)
  rw[Gc h];exact(W1.mpr e).symm
theorem RN(a b:Str):decide ((Sum.inr a:Key)=Sum.inr b)=decide (a=b):=by
 by_cases e:a=b
 ·subst e;simp
 ·have h:¬(Sum.inr a:Key)=Sum.inr b:=λq=>e (Sum.inr.inj q)
  rw[Gc h,Gc e]
theorem RK(a:Int)(b:Str):decide ((Sum.inl a:Key)=Sum.inr b)=false:=Gc (λq=>nomatch q)
theorem RM(a:Str)(b:Int):decide ((Sum.inr a:Key)=Sum.inl b)=false:=Gc (λq=>nomatch q)
def yM(prog:Program)(w:World):PySem.KeyKind prog w Key where
 is:=OG
 hash:=abj w
 inj:=λv a b g f=>by
  rcases dD g with ⟨i,t,rfl,rfl⟩ | ⟨x,t,rfl,rfl⟩
  ·rcases dD f with ⟨j,u,rfl,e⟩ | ⟨y,u,rfl,e⟩
   ·injection e with c _;rw[c]
   ·exact nomatch e
  ·rcases dD f with ⟨j,u,rfl,e⟩ | ⟨y,u,rfl,e⟩
   ·exact nomatch e
   ·injection e with c _;rw[c]
 byValue:=λk v h=>by
  rcases dD h with ⟨i,t,rfl,rfl⟩ | ⟨x,t,rfl,rfl⟩<;>rfl
 pyHash:=λd h=>by
  rcases dD d with ⟨i,t,rfl,rfl⟩ | ⟨x,t,rfl,rfl⟩
  ·exact wpAny_pyHash_int h
  ·exact wpAny_pyHash_str h
 eqBool:=λl d h=>by
  rcases dD l with ⟨i,t,rfl,rfl⟩ | ⟨x,t,rfl,rfl⟩
  ·rcases dD d with ⟨j,u,rfl,rfl⟩ | ⟨y,u,rfl,rfl⟩
   ·rw[RJ] at h;exact wpAny_eqBool_int h
   ·rw[RK] at h;exact SeqAt.EqAt.int_str i t y u _ _ _ _ h
  ·rcases dD d with ⟨j,u,rfl,rfl⟩ | ⟨y,u,rfl,rfl⟩
   ·rw[RM] at h;exact SeqAt.EqAt.str_int x t j u _ _ _ _ h
   ·rw[RN] at h;exact wpAny_eqBool_str h
 «strs»:=λk x t v h=>by
  rcases dD h with ⟨i,u,rfl,e⟩ | ⟨y,u,rfl,e⟩
  ·exact nomatch e
  ·injection e with c _
   subst c;cases v<;>rfl
inductive V where
 |bu|bl (b:Bool) |int (i:Int) |str (x:Str) |La (b:Array UInt8) |HJ (b:UInt64) |ref (a:Addr) |ty (n:String)
 deriving DecidableEq
def RelV:V->Value->Prop
 | .bu,u=>u=Value.none
 | .bl b,u=>u=Value.bool b
 | .int i,u=>∃t,u=Value.int i t
 | .str x,u=>∃t,u=Value.str x t
 | .La b,u=>∃t,u=Value.bytes b t
 | .HJ b,u=>∃t,u=Value.float b t
 | .ref a,u=>u=Value.ref a
 | .ty n,u=>u=Value.type n
abbrev Vals:List V->List Value->Prop:=Paired RelV
theorem Vals.length{b:List Value}(r:Vals a b):a.length=b.length:=Paired.length r
theorem Vals.get:∀{a:List V}{b:List Value}{i:Nat}{x:V},Vals a b->a[i]? =some x->∃u,b[i]? =some u/\RelV x u
 |_,_,_,_, .nil,e=>by simp at e
 |_,_,0,_, .cons r _,e=>by simp at e;subst e;exact⟨_,rfl,r⟩
 |_,_,i+1,x, .cons _ t,e=>by
  obtain⟨u,c,d⟩:=Vals.get (i:=i) (x:=x) t (by simpa using e)
  exact⟨u,by simpa using c,d⟩
theorem Vals.set{x:V}(r:RelV x u):∀{a:List V}{b:List Value}(i:Nat),Vals a b->Vals (a.set i x) (b.set i u)
 |_,_,_, .nil=> .nil
 |_,_,0, .cons _ t=> .cons r t
 |_,_,i+1, .cons q t=> .cons q (Vals.set r i t)
theorem Vals.append:∀{a b:List V}{c d:List Value},Vals a c->Vals b d->Vals (a++b) (c++d)
 |_,_,_,_, .nil,s=>s
 |_,_,_,_, .cons r t,s=> .cons r (Vals.append t s)
theorem Vals.take:∀{a:List V}{b:List Value}(n:Nat),Vals a b->Vals (a.take n) (b.take n)
 |_,_,0,_=> .nil
 |_,_,_+1, .nil=> .nil
 |_,_,n+1, .cons r t=> .cons r (Vals.take n t)
theorem Vals.drop:∀{a:List V}{b:List Value}(n:Nat),Vals a b->Vals (a.drop n) (b.drop n)
 |_,_,0,r=>r
 |_,_,_+1, .nil=> .nil
 |_,_,n+1, .cons _ t=>Vals.drop n t
def kM:Option V->Option Value->Prop
 |some v,some u=>RelV v u
 |none,none=>True
 |_,_=>False
def KV{a:Type}:List (a×V)->List (a×Value)->Prop:=Paired λ(p:a×V)(q:a×Value)=>p.1=q.1/\RelV p.2 q.2
def kV:Key->V
 | .inl i=> .int i
 | .inr x=> .str x
inductive HO where
  |lst (xs:List V)
  |tup (xs:List V)
  |dK (fi:List (Key×V)) |dT (fi:List (List Key×V))
  |set (S:Int->Bool) (n:Nat)
  |ins (C dx:Addr) (fs:List (Str×V))
  |own (x:Addr)
  |xd (fs:List (Str×V))
  |met (f x:Addr)
  |rng (lo hi:Int)
  |qs (o:Obj) (u:HO)
  |D5 (ps:Array Value)
  |ext (φ:Heap->Prop)
abbrev Hp:=Addr->Option HO
def upd(H:Hp)(a:Addr)(o:HO):Hp:=λb=>if b=a then some o else H b
theorem av{a:Addr}{o:HO}:upd H a o a=some o:=by unfold upd;rw[tz rfl]
theorem ax{a b:Addr}{o:HO}(h:b≠a):upd H a o b=H b:=by unfold upd;rw[AC h]
theorem aB{H:Hp}{a b:Addr}{o:HO}(h:H a=some o)(c:H b=none):a≠b:=by
 intro e;subst e;rw[h] at c;cases c
section
variable (P:Program) (w:World)
def cc(H:Hp)(h:Heap)(a:Addr):HO->Prop
 | .lst c=>c.length<=sizeLine/\∃(b:List Value)(n:Nat),Vals c b/\h.get? a=some {cls:= .type "list",data:= .seq b.toArray n}
 | .tup c=>c.length<=sizeLine/\∃b:List Value,Vals c b/\IsTup h a b.toArray
 | .dK e=>e.length<=sizeLine/\(a==sysModules)=false/\∃j,KV e j/\h.DictOf (yM P w) a j
 | .dT e=>e.length<=sizeLine/\(a==sysModules)=false/\∃c:List (List Key×Addr×Value),
   Paired (λ(p:List Key×V)(q:List Key×Addr×Value)=>p.1=q.1/\H q.2.1=some (.tup (p.1.map kV))/\RelV p.2 q.2.2) e c/\
   ∃o k r,h.get? a=some o/\o.ExactDict/\o.data= .dict k r/\k.toList=c.map (entryOfKey (tupleKind (yM P w)))/\(c.map (·.1)).Nodup
 | .set S n=>h.SetOf (intKind P w) a S n
 | .ins C g fs=>H g=some (.own a)/\fs.length<=1000/\g≠a/\h.get? a=some (PySem.W.instObj C g)/\
   ∃d,h.Ns1 g d/\(∀f,kM (fs.lookup f) (d f))/\PySem.Within d (fs.map (·.1))
 | .own _=>∃o,h.get? a=some o
 | .xd fs=>∃d,h.Ns1 a d/\∀f,kM (fs.lookup f) (d f)
 | .rng lo s=>∃t u v,h.get? a=some {cls:= .type "range",data:= .fields #[.int lo t, .int s u, .int 1 v]}
 | .qs o u=>h.get? a=some o/\cc H h a u
 | .D5 y=>h.get? a=some {cls:= .none,data:= .fields y}
 | .met f x=>h.get? a=some (PySem.W.methodObj (.ref f) (.ref x))
 | .ext i=>i h/\(∃o,h.get? a=some o)/\∀l m:Heap,i l->(∀o,l.get? a=some o->m.get? a=some o)->i m
def gK(H:Hp)(h:Heap):Prop:=∀a o,H a=some o->cc P w H h a o
end
section
variable {P:Program} {w:World} {H H':Hp} {h h':Heap} {a:Addr} {o:HO}
theorem cc.lt(x:cc P w H h a o):a<h.objs.size:=by
 cases o with
 |lst b=>obtain⟨_,_,_,_,e⟩:=x;exact Fk e
 |tup b=>obtain⟨_,_,_,p⟩:=x;exact p.lt
 |dK c=>obtain⟨_,_,_,_,o,_,_,e,_⟩:=x;exact Fk e
 |dT c=>obtain⟨_,_,_,_,o,_,_,e,_⟩:=x;exact Fk e
 |set S n=>obtain⟨o,_,_,_,e,_⟩:=x;exact Fk e
 |ins C d fs=>obtain⟨_,_,_,e,_⟩:=x;exact Fk e
 |own y=>obtain⟨_,e⟩:=x;exact Fk e
 |xd fs=>obtain⟨_,⟨_,_,_,e,_⟩,_⟩:=x;exact Fk e
 |rng lo g=>obtain⟨_,_,_,e⟩:=x;exact Fk e
 |qs i u=>obtain⟨e,_⟩:=x;exact Fk e
 |D5 j=>exact Fk (show h.get? a=some _ from x)
 |met f y=>exact Fk (show h.get? a=some _ from x)
 |ext k=>obtain⟨_,⟨_,e⟩,_⟩:=x;exact Fk e
theorem Paired.UM:∀{c:List e}{d:List g},Paired F c d->(∀a b,F a b->G a b)->Paired G c d
 |_,_, .nil,_=> .nil
 |_,_, .cons r t,f=> .cons (f _ _ r) (Paired.UM t f)
theorem cc.nV(x:cc P w H h a o)(k:∀b u,(b=a\/H b=some (.own a))->h.get? b=some u->h'.get? b=some u)
  (E:∀b,H b=some (.own a)->H' b=some (.own a)) (F:∀b m,H b=some (.tup m)->H' b=some (.tup m)):cc P w H' h' a o:=by
 induction o with
 |lst m=>obtain⟨z,l,n,r,e⟩:=x;exact⟨z,l,n,r,k _ _ (.inl rfl) e⟩
 |tup m=>obtain⟨z,l,r,g,e,c⟩:=x;exact⟨z,l,r,g,k _ _ (.inl rfl) e,c⟩
 |dK G=>obtain⟨z,y,I,r,g,i,j,e,c⟩:=x;exact⟨z,y,I,r,g,i,j,k _ _ (.inl rfl) e,c⟩
 |dT G=>
  obtain⟨z,y,m,r,g,i,j,e,c⟩:=x;exact⟨z,y,m,Paired.UM r λp q z=>⟨z.1,F _ _ z.2.1,z.2.2⟩,g,i,j,k _ _ (.inl rfl) e,c⟩
 |set S n=>obtain⟨g,i,j,t,e,c⟩:=x;exact⟨g,i,j,t,k _ _ (.inl rfl) e,c⟩
 |ins C N fs=>
  rfl';obtain⟨d,z,ne,e,s,⟨A,i,j,L,c⟩,r⟩:=x;ac_rfl;exact⟨E _ d,z,ne,k _ _ (.inl rfl) e,s,⟨A,i,j,k _ _ (.inr d) L,c⟩,r⟩
 |own y=>obtain⟨g,e⟩:=x;exact⟨g,k _ _ (.inl rfl) e⟩
 |xd fs=>obtain⟨s,⟨A,i,j,e,c⟩,r⟩:=x;exact⟨s,⟨A,i,j,k _ _ (.inl rfl) e,c⟩,r⟩
 |rng lo Q=>obtain⟨t,u,v,e⟩:=x;exact⟨t,u,v,k _ _ (.inl rfl) e⟩
 |qs g u M=>obtain⟨e,q⟩:=x;exact⟨k _ _ (.inl rfl) e,M q⟩
 |D5 B=>
  have e:h.get? a=some {cls:= .none,data:= .fields B}:=x;show h'.get? a=some {cls:= .none,data:= .fields B};exact k a _ (.inl rfl) e
 |met f y=>
  have e:h.get? a=some (PySem.W.methodObj (.ref f) (.ref y)):=x;show h'.get? a=some (PySem.W.methodObj (.ref f) (.ref y));exact k a _ (.inl rfl) e
 |ext R=>obtain⟨p,⟨o,e⟩,st⟩:=x;exact⟨st _ _ p λo q=>k _ _ (.inl rfl) q,⟨o,k _ _ (.inl rfl) e⟩,st⟩
theorem gK.lt(x:gK P w H h)(e:H a=some o):a<h.objs.size:=(x a o e).lt
theorem gK.fresh(x:gK P w H h)(e:h.objs.size<=a):H a=none:=by
 cases q:H a with
 |none=>rfl
 |some u=>exact absurd (fC (x.lt q) e) (hJ _)
theorem gK.kept(x:gK P w H h)(k:∀b u,h.get? b=some u->h'.get? b=some u):gK P w H h':=λa o e=>
 (x a o e).nV (λb u _ q=>k b u q) (λ_ q=>q) λ_ _ q=>q
theorem gK.laid(x:gK P w H h)(k:∀b u,h.get? b=some u->h'.get? b=some u)(g:h.objs.size<=a)(new:cc P w (upd H a o) h' a o):gK P w (upd H a o) h':=λb u e=>by
 have d:=x.fresh g
 by_cases f:b=a
 ·subst f;rw[av] at e;cases e;exact new
 ·rw[ax f] at e
  exact(x b u e).nV (λc v _ q=>k c v q) (λc q=>by rw[ax (aB q d)];exact q) λc i q=>by rw[ax (aB q d)];exact q
end
def Rd(H:Hp)(a:Addr)(u:HO):Prop:=H a=some u\/∃o,H a=some (.qs o u)
theorem Rd.ok{P:Program}{w:World}{H:Hp}{a:Addr}(r:Rd H a u)(x:gK P w H h):cc P w H h a u:=by
 rcases r with r| ⟨o,r⟩
 ·exact x a u r
 ·obtain⟨_,q⟩:=x a _ r
  exact q
def MM:Option HO->Prop
 |some (.lst _)=>True
 |some (.dK _)=>True
 |some (.dT _)=>True
 |some (.set _ _)=>True
 |some (.ins _ _ _)=>True
 |some (.ext _)=>True
 |_=>False
section
variable {P:Program} {w:World} {H:Hp} {h h':Heap} {x e:Addr} {o':HO}
theorem gK.write(ok:gK P w H h)(a:MM (H x))(j:e=x\/H e=some (.own x))(k:∀b u,b≠e->h.get? b=some u->h'.get? b=some u)(n:∃u,h'.get? e=some u)
  (new:cc P w (upd H x o') h' x o'):gK P w (upd H x o') h':=λb u q=>by
 have l:∀c y,H c=some (.own y)->c≠x:=λc y r z=>by subst z;rw[r] at a;exact a
 have o:∀c d,H c=some (.tup d)->c≠x:=λc d r z=>by subst z;rw[r] at a;exact a
 by_cases f:b=x
 ·subst f;rw[av] at q;cases q;exact new
 ·rw[ax f] at q
  by_cases g:b=e
  ·have m:H b=some (.own x):=by
    rcases j with z|z
    ·exact absurd (g.trans z) f
    ·rw[g];exact z
   obtain⟨v,p⟩:=n;rw[q] at m;cases m;exact⟨v,by rw[g];exact p⟩
  ·refine(ok b u q).nV (λc v i r=>k c v ?_ r) (λc r=>by rw[ax (l c b r)];exact r) λc d r=>by rw[ax (o c d r)];exact r
   rcases i with rfl|i
   ·exact g
   ·rintro rfl
    rcases j with z|z
    ·exact l c b i z
    ·rw[i] at z;cases z;exact f rfl
end
structure Un (fs ex:List Addr) (H H':Hp) (h h':Heap):Prop where
 keep:∀b o,h.get? b=some o->H b=none->b∉fs->b∉ex->h'.get? b=some o
 slot:∀b o,h.get? b=some o->H b=none->b∈fs->b∉ex->∃sl,h'.get? b=some {o with slots:=sl}
 free:∀b o,h.get? b=some o->H b=none->b∉ex->H' b=none
 there:∀b o,h.get? b=some o->b∉ex->∃o',h'.get? b=some o'
 tups:∀b xs,H b=some (.tup xs)->H' b=some (.tup xs)
 frzs:∀b o u,H b=some (.qs o u)->H' b=some (.qs o u)
 tbls:∀b ps,H b=some (.D5 ps)->∃more,H' b=some (.D5 (ps++more))
section
variable {fs fs' ex ex':List Addr} {H H1 H2:Hp} {h h1 h2 h':Heap} {a x e:Addr} {o:HO}
theorem Un.any(u:Un fs ex H H1 h h1)(q:h.get? b=some c)(n:H b=none)(d:b∉ex):∃g,h1.get? b=some {c with slots:=g}:=by
 by_cases f:b∈fs
 ·exact u.slot b c q n f d
 ·exact⟨c.slots,u.keep b c q n f d⟩
theorem Un.kept(k:∀b u,h.get? b=some u->h'.get? b=some u):Un fs ex H H h h':=
 ⟨λb c q _ _ _=>k b c q,λb c q _ _ _=>⟨c.slots,k b c q⟩,λ_ _ _ n _=>n,λb c q _=>⟨c,k b c q⟩,λ_ _ q=>q,λ_ _ _ q=>q,λ_ d q=>⟨#[],by rw[q];simp⟩⟩
theorem Un.refl:Un fs ex H H h h:=Un.kept λ_ _ q=>q
theorem Un.laid(k:∀b u,h.get? b=some u->h'.get? b=some u)(d:h.objs.size<=a)(c:H a=none):Un fs ex H (upd H a o) h h' where
 keep:=λb u q _ _ _=>k b u q
 slot:=λb u q _ _ _=>⟨u.slots,k b u q⟩
 free:=λb u q n _=>by rw[ax (cp (fC (Fk q) d))];exact n
 there:=λb u q _=>⟨u,k b u q⟩
 tups:=λb f q=>by rw[ax (aB q c)];exact q
 frzs:=λb u f q=>by rw[ax (aB q c)];exact q
 tbls:=λb g q=>⟨#[],by rw[ax (aB q c),q];simp⟩
theorem Un.write(c:MM (H x))(j:e=x\/H e=some (.own x))(k:∀b u,b≠e->h.get? b=some u->h'.get? b=some u)(l:∃u,h'.get? e=some u):Un fs ex H (upd H x o) h h':=by
 have f:∀b,H b=none->b≠x:=λb n z=>by subst z;rw[n] at c;exact c
 have g:∀b,H b=none->b≠e:=λb n z=>by
  subst z
  rcases j with r|r
  ·exact f b n r
  ·rw[n] at r;cases r
 have d:∀b u,H b=some u->¬MM (some u)->b≠x:=λb u q m z=>by subst z;rw[q] at c;exact m c
 refine⟨λb u q n _ _=>k b u (g b n) q,λb u q n _ _=>⟨u.slots,k b u (g b n) q⟩,λb u q n _=>by rw[ax (f b n)];exact n,λb u q _=>?_,
  λb p q=>by rw[ax (d b _ q λz=>z)];exact q,λb u p q=>by rw[ax (d b _ q λz=>z)];exact q,λb s q=>⟨#[],by rw[ax (d b _ q λz=>z),q];simp⟩⟩
 by_cases i:b=e
 ·subst i;exact l
 ·exact⟨u,k b u i q⟩
end
def To(h:Heap)(H:Hp):List Addr:=(List.range h.objs.size).filter λa=>(H a).isSome
def sT(h:Heap)(H:Hp):Heap:=PySem.W.hideAll h (To h H)
theorem Ib(h:Heap)(H:Hp):(sT h H).objs.size=h.objs.size:=PySem.W.hideAll_size _ _
theorem LG(e:h.get? b=some o)(n:H b=none):(sT h H).get? b=some o:=
 PySem.W.hideAll_get _ e λa=>by
  have q:(H b).isSome=true:=(zG.mp a).2;rw[n] at q;simp at q
theorem O1(e:(sT h H).get? b=some o):h.get? b=some o/\H b=none:=by
 have a:h.get? b=some o:=PySem.W.of_hideAll (To h H) e;refine⟨a,?_⟩;cases q:H b with
 |none=>rfl
 |some x=>
  have c:b∈To h H:=zG.mpr ⟨dY.mpr (Fk a),by simp[q]⟩
  have z:(sT h H).get? b=none:=PySem.W.hideAll_none (To h H) c;rw[z] at e;cases e
def xD(g h:Heap)(L:Addr):List (Addr×Obj):=(List.range h.objs.size).filterMap λa=>if a=L\/(g.get? a).isSome=true then none else(h.get? a).map λo=>(a,o)
theorem fz(c:a≠L)(d:g.get? a=none)(b:h.get? a=some o):(a,o)∈xD g h L:=
 zq99.mpr ⟨a,dY.mpr (Fk b),by simp[c,d,b]⟩
theorem wA(c:p∈xD g h L):p.1≠L/\g.get? p.1=none/\h.get? p.1=some p.2:=by
 obtain⟨b,_,e⟩:=zq99.mp c
 split at e
 ·cases e
 ·rename_i a
  cases q:h.get? b with
  |none=>rw[q] at e;simp at e
  |some u=>
   rw[q] at e;simp only[zM,Option.some.injEq] at e;subst e;refine⟨λz=>a (.inl z),?_,q⟩;show g.get? b=none;cases r:g.get? b with
   |none=>rfl
   |some v=>exact(a (.inr (by simp[r]))).elim
theorem A6{g h:Heap}{L:Addr}:News g L h (xD g h L):=λp d=>let ⟨a,b,c⟩:=wA d;⟨c,a,b⟩
structure Mod (K:PySem.W.Frag) (mg:Str->Option Value) (base:Heap):Prop where
 kin:K.In base
 glob:base.Ns mainGlobals mg
 blt:∃mb,base.Ns builtinsNs mb/\∀x:Str,x≠"__name__"->mb x=bootBuiltins x
 nolimit:base.NoLimit
structure Cx where
 prog:Program
 w:World
 K:PySem.W.Frag
 mg:Str->Option Value
 base:Heap
 A:Around
 N:List Str
 s₀:Shared
 H₀:Hp
 env:Env
 outer:List Env
 stack:List Env
 ex:List Addr
 fn:Str->Bool
 calm:Bool
 pn:List (Addr×Obj)
 xe:Value->Shared->Prop
def sM(l:List Env):List Addr:=l.filterMap (·.frame)
abbrev Cx.fs(X:Cx):List Addr:=sM X.outer
def mh(a:Scope)(x:Str):Prop:=a.names.lookup x=some .local\/a.names.lookup x=some .cell\/a.names.lookup x=some .free
def Loc(a:Scope)(x:Str):Prop:=a.names.lookup x=some .local\/a.names.lookup x=some .cell
def Look(env:Env)(h:Heap)(m:Str->Option Value)(x:Str)(u:Value):Prop:=
 (env.kindOf x=some .local/\m x=some u)\/((env.kindOf x=some .cell\/env.kindOf x=some .free)/\∃c,env.cells.lookup x=some c/\h.IsCell c (some u))
structure Cx.Ok (X:Cx):Prop where
 mod:Mod X.K X.mg X.base
 kind:X.env.scope.kind= .function
 glob:X.env.globals=mainGlobals
 blt:X.env.builtins=builtinsNs
 above:X.s₀.heap.objs.size<=X.env.locals
 inj:∀x y c,X.env.cells.lookup x=some c->X.env.cells.lookup y=some c->x=y
 has:∀x,(X.env.kindOf x=some .cell\/X.env.kindOf x=some .free)->∃c,X.env.cells.lookup x=some c
 cab:∀x c,X.fn x=true->X.env.cells.lookup x=some c->X.s₀.heap.objs.size<=c
 hd:X.calm=true->X.A.handled=none
 frames:X.A.frames=some X.stack
 stk:X.stack=X.outer\/(X.stack=X.env::X.outer/\X.env.frame=some X.env.locals)
 exf:∀b∈X.ex,b≠X.env.locals/\∀x c,X.env.cells.lookup x=some c->c≠b
 bs:∀b o,X.base.get? b=some o->X.s₀.heap.get? b=some o/\X.H₀ b=none
 bsz:X.base.objs.size<=X.s₀.heap.objs.size
 noex:∀b o,X.base.get? b=some o->b∉X.ex
 exfs:∀b∈X.ex,b∉X.fs
 funs:X.s₀.heap.FunFrames X.base X.outer
 frf:∀b∈X.fs,X.H₀ b=none
structure Inv (X:Cx) (pins:List (Addr×Obj)) (σ:List (Option V)) (H:Hp) (s:Shared):Prop where
 ok:X.Ok
 os:s.os=X.s₀.os
 bare:AllBare s.gens
 base:Un X.fs X.ex X.H₀ H X.s₀.heap s.heap
 loc:∃m,s.heap.Ns X.env.locals m/\∀(i:Nat)(x:Str)(v:V),X.N[i]? =some x->σ[i]? =some (some v)->mh X.env.scope x->∃u,RelV v u/\Look X.env s.heap m x u
 cell:∀x c,X.env.cells.lookup x=some c->∃v,s.heap.IsCell c v
 free:H X.env.locals=none
 freeC:∀x c,X.env.cells.lookup x=some c->H c=none
 pin:∀p∈X.pn++pins,s.heap.get? p.1=some p.2/\H p.1=none/\p.1≠X.env.locals/\p.1∉X.fs/\∀v,p.2.data≠ .cell v
 hok:gK X.prog X.w H s.heap
 len:σ.length=X.N.length
section
variable {X:Cx} {pins:List (Addr×Obj)} {σ:List (Option V)} {H H':Hp} {s:Shared} {h':Heap}
theorem Cx.Ok.abq(ok:X.Ok)(e:X.base.get? b=some o):b∉X.fs:=λa=>by
 have:=(ok.funs.mem a).1
 rw[e] at this;cases this
theorem Inv.bs(I:Inv X pins σ H s):∀b o,X.base.get? b=some o->s.heap.get? b=some o/\H b=none:=λb o e=>
 ⟨I.base.keep b o (I.ok.bs b o e).1 (I.ok.bs b o e).2 (I.ok.abq e) (I.ok.noex b o e),I.base.free b o (I.ok.bs b o e).1 (I.ok.bs b o e).2 (I.ok.noex b o e)⟩
theorem Inv.bk(I:Inv X pins σ H s):∀b o,X.base.get? b=some o->s.heap.get? b=some o:=λb o e=>(I.bs b o e).1
theorem Inv.mod(I:Inv X pins σ H s):Mod X.K X.mg X.base:=I.ok.mod
theorem Inv.cW(I:Inv X pins σ H s):X.K.In s.heap:=I.ok.mod.kin.keeps I.bk
theorem Inv.fr(I:Inv X pins σ H s):∃m,Fr X.base X.env.locals s.heap m:=
 let ⟨m,a,_⟩:=I.loc
 ⟨m,a,I.bk,fK I.ok.bsz I.ok.above⟩
theorem Inv.lt(I:Inv X pins σ H s):X.env.locals<s.heap.objs.size:=let ⟨_,a,_⟩:=I.loc;a.lt
theorem Inv.sz(I:Inv X pins σ H s):X.s₀.heap.objs.size<=s.heap.objs.size:=fK I.ok.above (p6 I.lt)
theorem Inv.OY(I:Inv X pins σ H s)(h:s.heap.objs.size<=a):a∉X.fs:=λb=>by
 obtain⟨_,o,c,_⟩:=I.ok.funs.mem b;exact absurd (fC (Fk c) (fK I.sz h)) (hJ _)
theorem Inv.xV(I:Inv X pins σ H s):∀x c,X.env.cells.lookup x=some c->c≠X.env.locals:=λx c e z=>by
 obtain⟨v,o,a,b⟩:=I.cell x c e;obtain⟨m,⟨g,h,i,d,f,_⟩,_⟩:=I.loc;rw[z,d] at a;cases a;rw[f] at b;cases b
theorem Inv.funs(I:Inv X pins σ H s):s.heap.FunFrames X.base X.outer:=by
 have all:∀(l:List Env),(∀b∈sM l,b∈X.fs)->X.s₀.heap.FunFrames X.base l->s.heap.FunFrames X.base l:=by
  intro l
  induction l with
  |nil=>intro _ _;trivial
  |cons env r g=>
   intro f h;rfl';obtain⟨j,⟨L,o,a,k,m,n⟩,p⟩:=h;have c:L∈X.fs:=f L (by unfold sM;rw[afa,a];exact bO)
   obtain⟨t,e⟩:=I.base.slot L o m (I.ok.frf L c) c λz=>I.ok.exfs L z c;ac_rfl;exact⟨j,⟨L,_,a,k,e,n⟩,g (λb d=>f b (by unfold sM;rw[afa,a];exact bU _ d)) p⟩
 exact all X.outer (λ_ d=>d) I.ok.funs
theorem Inv.stack(I:Inv X pins σ H s):s.heap.FunFrames X.base X.stack:=by
 rcases I.ok.stk with e| ⟨e,a⟩
 ·rw[e];exact I.funs
 ·rw[e]
  obtain⟨m,b,_⟩:=I.loc;refine .cons (by rw[I.ok.kind];decide) a b ?_ I.funs
  exact Heap.get?_none_of_le (fK I.ok.bsz I.ok.above)
theorem Inv.D0(I:Inv X pins σ H s):∀b∈sM X.stack,b∈X.env.locals::X.fs:=λb a=>by
 rcases I.ok.stk with e| ⟨e,c⟩
 ·rw[e] at a;exact bU _ a
 ·rw[e] at a
  unfold sM at a;rw[afa,c] at a;exact a
theorem Inv.zp(I:Inv X pins σ H s):∀b∈sM X.stack,H b=none:=λb a=>by
 rcases bT.mp (I.D0 b a) with e|a
 ·rw[e];exact I.free
 ·obtain⟨_,o,c,_⟩:=I.ok.funs.mem a
  exact I.base.free b o c (I.ok.frf b a) λz=>I.ok.exfs b z a
theorem Inv.step{g':Array GenState}{d':Drawn}{ch:List Addr}(I:Inv X pins σ H s)
  (y:∀b∈ch,(b∈X.ex\/X.s₀.heap.objs.size<=b)/\b≠X.env.locals/\(∀x c,X.env.cells.lookup x=some c->c≠b)/\∀p∈X.pn++pins,p.1≠b)
  (keep:∀b o,b≠X.env.locals->b∉X.fs->b∉ch->s.heap.get? b=some o->H b=none->h'.get? b=some o)
  (slot:∀b o,b≠X.env.locals->b∈X.fs->b∉ch->s.heap.get? b=some o->H b=none->∃J,h'.get? b=some {o with slots:=J}) (free:∀b o,b∉ch->s.heap.get? b=some o->H b=none->H' b=none)
  (there:∀b o,b∉ch->s.heap.get? b=some o->∃A,h'.get? b=some A)
  (tups:∀b h,H b=some (.tup h)->H' b=some (.tup h)) (frzs:∀b o u,H b=some (.qs o u)->H' b=some (.qs o u)) (tbls:∀b F,H b=some (.D5 F)->∃more,H' b=some (.D5 (F++more)))
  (Q:∀m,s.heap.Ns X.env.locals m->h'.Ns X.env.locals m) (hok:gK X.prog X.w H' h') (R:AllBare g'):
  Inv X pins σ H' {s with heap:=h',gens:=g',drawn:=d',toks:=t'}:=by
 have B:∀b o,X.s₀.heap.get? b=some o->b≠X.env.locals:=λb o e=>cp (fC (Fk e) I.ok.above)
 have G:∀b o,X.s₀.heap.get? b=some o->b∉X.ex->b∉ch:=λb o e a j=>by
  rcases(y b j).1 with z|z
  ·exact a z
  ·exact absurd (fC (Fk e) z) (hJ _)
 have f:∀x c,X.env.cells.lookup x=some c->∀v,s.heap.IsCell c v->h'.IsCell c v:=λx c e v ⟨o,t,L⟩=>by
  have C:c∉ch:=λz=>(y c z).2.2.1 x c e rfl
  by_cases M:c∈X.fs
  ·obtain⟨J,q⟩:=slot c o (I.xV x c e) M C t (I.freeC x c e)
   exact⟨_,q,L⟩
  ·exact⟨o,keep c o (I.xV x c e) M C t (I.freeC x c e),L⟩
 refine⟨I.ok,I.os,R,⟨λb o e n j a=>?_,λb o e n j a=>?_,λb o e n a=>?_,λb o e a=>?_,λb h e=>tups b h (I.base.tups b h e),λb o h e=>frzs b o h (I.base.frzs b o h e),λb F e=>?_⟩,?_,λx c e=>?_,?_,λx c e=>?_,λp N=>?_,hok,I.len⟩
 ·exact keep b o (B b o e) j (G b o e a) (I.base.keep b o e n j a) (I.base.free b o e n a)
 ·obtain⟨J,g⟩:=I.base.slot b o e n j a
  obtain⟨T,E⟩:=slot b _ (B b o e) j (G b o e a) g (I.base.free b o e n a);exact⟨T,E⟩
 ·obtain⟨A,g⟩:=I.base.there b o e a
  exact free b A (G b o e a) g (I.base.free b o e n a)
 ·obtain⟨A,g⟩:=I.base.there b o e a
  exact there b A (G b o e a) g
 ·obtain⟨U,g⟩:=I.base.tbls b F e
  obtain⟨Y,E⟩:=tbls b _ g;exact⟨U++Y,by rw[E,Array.append_assoc]⟩
 ·obtain⟨m,Z,hl⟩:=I.loc
  refine⟨m,Q m Z,λi x v g E e3=>?_⟩;obtain⟨u,r,l⟩:=hl i x v g E e3;refine⟨u,r,?_⟩
  rcases l with l| ⟨k,c,e,z⟩
  ·exact .inl l
  ·exact .inr ⟨k,c,e,f x c e _ z⟩
 ·obtain⟨v,z⟩:=I.cell x c e
  exact⟨v,f x c e v z⟩
 ·obtain⟨m,⟨o,_,_,t,_⟩,_⟩:=I.loc
  exact free _ o (λz=>(y _ z).2.1 rfl) t I.free
 ·obtain⟨v,o,t,L⟩:=I.cell x c e
  exact free c o (λz=>(y c z).2.2.1 x c e rfl) t (I.freeC x c e)
 ·obtain⟨e,n,ne,O,d⟩:=I.pin p N
  have C:p.1∉ch:=λz=>(y p.1 z).2.2.2 p N rfl;exact⟨keep p.1 p.2 ne O C e n,free p.1 p.2 C e n,ne,O,d⟩
theorem Inv.un{t':Nat}(I:Inv X pins σ H s)(u:Un X.fs [] H H' s.heap h')(hok:gK X.prog X.w H' h'):Inv X pins σ H' {s with heap:=h',toks:=t'}:=by
 rfl';obtain⟨m,⟨o,p,q,d,r⟩,_⟩:=id I.loc;obtain⟨t,h⟩:=u.any d I.free (by simp)
 ac_rfl
 exact I.step (g':=s.gens) (d':=s.drawn) (ch:= []) (λ_ z=>nomatch z) (λb o _ c _ e n=>u.keep b o e n c (by simp)) (λb o _ c _ e n=>u.slot b o e n c (by simp)) (λb o _ e n=>u.free b o e n (by simp)) (λb o _ e=>u.there b o e (by simp)) u.tups u.frzs u.tbls (λv i=>by
  rfl';obtain⟨x,j,k,f,l⟩:=i;ac_rfl;rw[d] at f;cases f;exact⟨_,j,k,h,l⟩) hok I.bare
theorem Inv.call{g':Array GenState}{t':Nat}{d':Drawn}{ch:List Addr}(I:Inv X pins σ H s)(u:Un (sM X.stack) ch H H' s.heap h')(hok:gK X.prog X.w H' h')(j:AllBare g')
  (g:∀b∈ch,(b∈X.ex\/X.s₀.heap.objs.size<=b)/\b≠X.env.locals/\(∀x c,X.env.cells.lookup x=some c->c≠b)/\∀p∈X.pn++pins,p.1≠b):
  Inv X pins σ H' {s with heap:=h',gens:=g',drawn:=d',toks:=t'}:=by
 rfl';obtain⟨m,⟨o,A,B,h,r⟩,_⟩:=id I.loc;obtain⟨C,f⟩:=u.any h I.free λz=>(g _ z).2.1 rfl;ac_rfl
 exact I.step (ch:=ch) g (λb o f l a e n=>u.keep b o e n (λz=>(bT.mp (I.D0 b z)).elim f l) a) (λb o _ _ a e n=>u.any e n a) (λb o a e n=>u.free b o e n a) (λb o a e=>u.there b o e a) u.tups u.frzs u.tbls (λE q=>by
  rfl';obtain⟨F,t,v,i,y⟩:=q;ac_rfl;rw[h] at i;cases i;exact⟨_,t,v,f,y⟩) hok j
theorem Inv.turned{t':Nat}{it:Addr}(I:Inv X pins σ H s)(k:∀b o,b≠it->s.heap.get? b=some o->h'.get? b=some o)(g:H it=none)(f:it≠X.env.locals)
  (h:it∈X.ex\/X.s₀.heap.objs.size<=it) (i:∀x c,X.env.cells.lookup x=some c->c≠it) (j:∀p∈X.pn++pins,p.1≠it):Inv X pins σ H {s with heap:=h',toks:=t'}:=by
 have d:∀b u,H b=some u->b≠it:=λb u e z=>by rw[z,g] at e;cases e
 refine I.step (g':=s.gens) (d':=s.drawn) (ch:= [it]) (λb l=>?_) (λb o _ _ a e _=>k b o (λz=>a (by simp[z])) e) (λb o _ _ a e _=>⟨o.slots,k b o (λz=>a (by simp[z])) e⟩) (λ_ _ _ _ n=>n)
  (λb o a e=>⟨o,k b o (λz=>a (by simp[z])) e⟩) (λ_ _ e=>e) (λ_ _ _ e=>e) (λb B e=>⟨#[],by rw[e];simp⟩) (λm t=>?_) (λb u e=>?_) I.bare
 ·have e:b=it:=by simpa using l
  subst e;exact⟨h,f,i,j⟩
 ·obtain⟨o,w,y,A,r⟩:=t
  exact⟨o,w,y,k _ o (Ne.symm f) A,r⟩
 ·refine(I.hok b u e).nV (λc v a q=>k c v ?_ q) (λ_ q=>q) λ_ _ q=>q
  rcases a with z|z
  ·rw[z];exact d b u e
  ·exact d c _ z
theorem Inv.tok(I:Inv X pins σ H s)(t:Nat):Inv X pins σ H {s with toks:=t}:=I.un (h':=s.heap) (t':=t) Un.refl I.hok
theorem Inv.kept{t':Nat}(I:Inv X pins σ H s)(k:∀b u,s.heap.get? b=some u->h'.get? b=some u):Inv X pins σ H {s with heap:=h',toks:=t'}:=I.un (Un.kept k) (I.hok.kept k)
theorem Inv.laid{a:Addr}{o:HO}{t':Nat}(I:Inv X pins σ H s)(k:∀b u,s.heap.get? b=some u->h'.get? b=some u)(c:s.heap.objs.size<=a)(new:cc X.prog X.w (upd H a o) h' a o):
  Inv X pins σ (upd H a o) {s with heap:=h',toks:=t'}:=I.un (Un.laid k c (I.hok.fresh c)) (I.hok.laid k c new)
theorem Inv.write{x e:Addr}{o:HO}{t':Nat}(I:Inv X pins σ H s)(a:MM (H x))(c:e=x\/H e=some (.own x))(k:∀b u,b≠e->s.heap.get? b=some u->h'.get? b=some u)(d:∃u,h'.get? e=some u)
  (new:cc X.prog X.w (upd H x o) h' x o):Inv X pins σ (upd H x o) {s with heap:=h',toks:=t'}:=I.un (Un.write a c k d) (I.hok.write a c k d new)
theorem Inv.mF(I:Inv X pins σ H s)(h:∀p∈a,s.heap.get? p.1=some p.2/\H p.1=none/\p.1≠X.env.locals/\p.1∉X.fs/\∀v,p.2.data≠ .cell v):Inv X a σ H s:=
 ⟨I.ok,I.os,I.bare,I.base,I.loc,I.cell,I.free,I.freeC,λp b=>(cV.mp b).elim (λz=>I.pin p (kF _ z)) (h p),I.hok,I.len⟩
theorem uJ{N:List Str}(c:N.Nodup){i j:Nat}{x:Str}(a:N[i]? =some x)(b:N[j]? =some x):i=j:=by
 obtain⟨f,d⟩:=dS.mp a;obtain⟨g,e⟩:=dS.mp b;exact(List.getElem_inj c).mp (d.trans e.symm)
theorem store_ok2(I:Inv X pins σ H s)(hN:X.N.Nodup)(O:X.N[i]? =some x)(B:Loc X.env.scope x)(r:RelV v u)
  (h:∀Z,Inv X pins (σ.set i (some v)) H Z->(∃a,Heap.SameBut a s.heap Z.heap/\(a=X.env.locals\/X.env.cells.lookup x=some a))->Q () Z) (hf:X.fn x=true\/X.env.scope.names.lookup x=some .local:=by first|exact .inl rfl|exact .inr rfl|assumption):wpAny M A (storeName X.env x u) Q E s:=by
 obtain⟨m,hn,hl⟩:=id I.loc;have Fm:(X.env.scope.kind== .class|| (X.env.scope.kind== .module&&X.env.locals !=X.env.globals))=false:=by rw[I.ok.kind];rfl
 have Kr:i<σ.length:=by rw[I.len];exact(dS.mp O).1
 have xV:=I.xV
 have g:∀{a:Addr}{L:Heap},(∃o,s.heap.get? a=some o/\H a=none)->Heap.SameBut a s.heap L->gK X.prog X.w H L:=λ {a L} ha f b ob e=>by
  obtain⟨_,_,CA⟩:=ha;refine(I.hok b ob e).nV (λc U t q=>(f.2 c ?_).trans q) (λ_ q=>q) λ_ _ q=>q;rintro rfl
  rcases t with rfl|t
  ·rw[CA] at e;cases e
  ·rw[CA] at t;cases t
 rcases B with F|F
 ·refine wpAny_storeName_local F hn (λL CD f=>?_) Fm
  obtain⟨oL,_,_,hoL,_⟩:=id hn;refine h _ ⟨I.ok,I.os,I.bare,⟨λb o e n G B=>?_,λb o e n G B=>?_,I.base.free,λb o e B=>?_,I.base.tups,I.base.frzs,I.base.tbls⟩,⟨_,CD,λj y v' l C e3=>?_⟩,λy c e=>?_,I.free,I.freeC,λp hp=>?_,g ⟨oL,hoL,I.free⟩ f,by simpa using I.len⟩ ⟨_,f, .inl rfl⟩
  ·exact(f.2 b (cp (fC (Fk e) I.ok.above))).trans (I.base.keep b o e n G B)
  ·obtain⟨sl,l⟩:=I.base.slot b o e n G B
   exact⟨sl,(f.2 b (cp (fC (Fk e) I.ok.above))).trans l⟩
  ·obtain⟨o',l⟩:=I.base.there b o e B
   exact⟨o',(f.2 b (cp (fC (Fk e) I.ok.above))).trans l⟩
  ·by_cases J:j=i
   ·subst J
    rw[O] at l;cases l;rw[iR Kr] at C;cases C;exact⟨u,r, .inl ⟨F,by simp⟩⟩
   ·rw[iS (Ne.symm J)] at C
    obtain⟨u',r',q⟩:=hl j y v' l C e3;refine⟨u',r',?_⟩
    rcases q with ⟨k,e⟩ | ⟨k,c,e,z⟩
    ·refine .inl ⟨k,?_⟩
     have:y≠x:=λe=>J (uJ hN l (e▸O))
     simp[this,e]
    ·exact .inr ⟨k,c,e,z.sameBut f (xV y c e)⟩
  ·obtain⟨U,z⟩:=I.cell y c e
   exact⟨U,z.sameBut f (xV y c e)⟩
  ·obtain⟨e,n,ne,nf,d⟩:=I.pin p hp
   exact⟨(f.2 p.1 ne).trans e,n,ne,nf,d⟩
 ·have WE:X.fn x=true:=by
   rcases hf with z|z
   ·exact z
   ·rw[z] at F;cases F
  obtain⟨c,t⟩:=I.ok.has x (.inl F);obtain⟨U,z⟩:=I.cell x c t;refine wpAny_storeName_cell I.ok.kind F t z (λL sR f=>?_);obtain⟨oc,R,aaH⟩:=id z;refine h {s with heap:=L} ⟨I.ok,I.os,I.bare,⟨λb o e n G B=>?_,λb o e n G B=>?_,I.base.free,λb o e B=>?_,I.base.tups,I.base.frzs,I.base.tbls⟩,⟨m,hn.sameBut f (Ne.symm (xV x c t)),λj y v' l C e3=>?_⟩,λy Y e=>?_,I.free,I.freeC,λp hp=>?_,g ⟨oc,R,I.freeC x c t⟩ f,by simpa using I.len⟩ ⟨c,f, .inr t⟩
  ·exact(f.2 b (cp (fC (Fk e) (I.ok.cab x c WE t)))).trans (I.base.keep b o e n G B)
  ·obtain⟨sl,l⟩:=I.base.slot b o e n G B
   exact⟨sl,(f.2 b (cp (fC (Fk e) (I.ok.cab x c WE t)))).trans l⟩
  ·obtain⟨o',l⟩:=I.base.there b o e B
   exact⟨o',(f.2 b (cp (fC (Fk e) (I.ok.cab x c WE t)))).trans l⟩
  ·by_cases J:j=i
   ·subst J
    rw[O] at l;cases l;rw[iR Kr] at C;cases C;exact⟨u,r, .inr ⟨.inl F,c,t,sR⟩⟩
   ·rw[iS (Ne.symm J)] at C
    obtain⟨u',r',q⟩:=hl j y v' l C e3;refine⟨u',r',?_⟩
    rcases q with q| ⟨k,Y,e,z'⟩
    ·exact .inl q
    ·refine .inr ⟨k,Y,e,z'.sameBut f ?_⟩
     rintro rfl;exact J (uJ hN l (I.ok.inj _ _ _ e t▸O))
  ·by_cases T:Y=c
   ·subst T;exact⟨_,sR⟩
   ·obtain⟨w2,z2⟩:=I.cell y Y e
    exact⟨w2,z2.sameBut f T⟩
  ·obtain⟨e,n,ne,nf,d⟩:=I.pin p hp
   refine⟨(f.2 p.1 ?_).trans e,n,ne,nf,d⟩;intro q;rw[q,R] at e;have q':oc=p.2:=Do e;exact d U (by rw[<-q'];exact aaH)
theorem jc{x:Str}{v:V}(I:Inv X pins σ H s)(b:X.N.Nodup)(c:X.N[i]? =some x)(d:Loc X.env.scope x)(r:RelV v u)
  (h:∀a,Inv X pins (σ.set i (some v)) H a->Q () a) (e:X.fn x=true\/X.env.scope.names.lookup x=some .local:=by first|exact .inl rfl|exact .inr rfl|assumption):wpAny M A (storeName X.env x u) Q E s:=
 store_ok2 I b c d r (λa f _=>h a f) e
theorem Inv.Hl{s':Shared}{ch:List Addr}(I:Inv X pins σ H s)(a:s'.os=s.os)(u:Un (sM X.stack) ch H H' s.heap s'.heap)(hok:gK X.prog X.w H' s'.heap)(d:AllBare s'.gens)
  (f:∀b∈ch,(b∈X.ex\/X.s₀.heap.objs.size<=b)/\b≠X.env.locals/\(∀x c,X.env.cells.lookup x=some c->c≠b)/\∀p∈X.pn++pins,p.1≠b):Inv X pins σ H' s':=by
 obtain⟨h,g',d',t',g⟩:=s';have e:g=s.os:=a;subst e;exact I.call (g':=g') (t':=t') (d':=d') u hok d f
end
abbrev XK:=Value->Option Addr->Hp->Prop
abbrev St:=List (Option V)
abbrev VK:=V->Hp->Prop
abbrev TE:=St->Hp->VK->Prop
abbrev TT:=St->Hp->(Bool->Hp->Prop)->Prop
abbrev TA:=St->Hp->(List V->Hp->Prop)->Prop
structure Ends where
 nx:St->Hp->Prop
 rt:VK
 bk:St->Hp->Prop:=λ_ _=>False
 ct:St->Hp->Prop:=λ_ _=>False
abbrev TS:=Ends->St->Hp->Prop
def EP(X:Cx)(a:List (Addr×Obj))(c:St)(Q:VK)(u:Value)(d:Shared):Prop:=∃v b,Inv X a c b d/\RelV v u/\Q v b
def TP(X:Cx)(a:List (Addr×Obj))(d:St)(Q:Bool->Hp->Prop)(b:Bool)(e:Shared):Prop:=∃c,Inv X a d c e/\Q b c
def AP(X:Cx)(a:List (Addr×Obj))(d:St)(Q:List V->Hp->Prop)(e:List Value)(f:Shared):Prop:=∃b c,Inv X a d c f/\Vals b e/\Q b c
def SP(X:Cx)(a:List (Addr×Obj))(D:Ends)(f:Flow)(d:Shared):Prop:=
 match f with
 | .next=>∃c b,Inv X a c b d/\D.nx c b
 | .brk=>∃c b,Inv X a c b d/\D.bk c b
 | .cont=>∃c b,Inv X a c b d/\D.ct c b
 | .ret u=>∃v c b,Inv X a c b d/\RelV v u/\D.rt v b
def PE(X:Cx)(e:Expr)(t:TE):Prop:=
 ∀(a:List (Addr×Obj))(s:Shared)(b:St)(H:Hp)(Q:VK),Inv X a b H s->t b H Q->wpAny (model X.prog X.w) X.A (eval e X.env) (EP X a b Q) X.xe s
def PT(X:Cx)(e:Expr)(t:TT):Prop:=
 ∀(a:List (Addr×Obj))(s:Shared)(b:St)(H:Hp)(Q:Bool->Hp->Prop),Inv X a b H s->t b H Q->wpAny (model X.prog X.w) X.A (isTrue e X.env (eval e X.env)) (TP X a b Q) X.xe s
def PW(X:Cx)(e:Expr)(t:TT):Prop:=
 ∀(b:Sem Value)(a:List (Addr×Obj))(s:Shared)(c:St)(H:Hp)(Q:Bool->Hp->Prop),Inv X a c H s->t c H Q->wpAny (model X.prog X.w) X.A (isTrue e X.env b) (TP X a c Q) X.xe s
theorem PW.pt(h:PW X e t):PT X e t:=h _
def PA(X:Cx)(d:List Expr)(t:TA):Prop:=
 ∀(b:Pos)(a:List (Addr×Obj))(s:Shared)(c:St)(H:Hp)(Q:List V->Hp->Prop),Inv X a c H s->t c H Q->wpAny (model X.prog X.w) X.A (spliced (backTo b (starEach d X.env))) (AP X a c Q) X.xe s
def PS(X:Cx)(st:Stmt)(t:TS):Prop:=
 ∀(a:List (Addr×Obj))(s:Shared)(b:St)(H:Hp)(D:Ends),Inv X a b H s->t D b H->wpAny (model X.prog X.w) X.A (exec st X.env) (SP X a D) X.xe s
def kH(X:Cx)(st:List Stmt)(t:TS):Prop:=
 ∀(a:List (Addr×Obj))(s:Shared)(b:St)(H:Hp)(D:Ends),Inv X a b H s->t D b H->wpAny (model X.prog X.w) X.A (execs st X.env) (SP X a D) X.xe s
theorem thn{Q c:b->Shared->Prop}(h:wpAny M A t Q E s)(d:∀a s,Q a s->c a s):wpAny M A t c E s:=wpAny_mono h d λ_ _ x=>x
section
variable {X:Cx}
def UX(i:Nat):TE:=λa H Q=>∃v,a[i]? =some (some v)/\Q v H
def tC(v:V):TE:=λ_ H Q=>Q v H
theorem DH(k:X.N[i]? =some x)(n:mh X.env.scope x)(f:(x==("__debug__":Str))=false:=by decide)(o:(x==("__classdict__":Str))=false:=by decide):PE X (.Name x d) (UX i):=by
 intro b s p H Q I h;rfl';obtain⟨v,e,h⟩:=h;obtain⟨m,t,w⟩:=I.loc;obtain⟨u,r,l⟩:=w i x v k e n;have fin:EP X b p Q u s:=⟨v,H,I,r,h⟩;ac_rfl
 rcases l with ⟨a,y⟩ | ⟨a,c,g,j⟩
 ·exact wpAny_Name (wpAny_loadName_local I.ok.kind a t y fin) f
 ·rcases a with a|a
  ·exact wpAny_Name (wpAny_loadName_cell I.ok.kind a g j fin) f
  ·exact wpAny_Name (wpAny_loadName_free I.ok.kind a g j fin o) f
theorem Sm{i j pos}:PE X (.Constant (.int i) j pos) (tC (.int i)):=λ_ _ _ H _ I h=>wpAny_Constant_int ⟨.int i,H,I.tok _,⟨_,rfl⟩,h⟩
theorem Xr{b j pos}:PE X (.Constant (.bool b) j pos) (tC (.bl b)):=λ_ _ _ H _ I h=>Constant_bool ⟨.bl b,H,I,rfl,h⟩
theorem So{j pos}:PE X (.Constant .none j pos) (tC .bu):=λ_ _ _ H _ I h=>Constant_none ⟨.bu,H,I,rfl,h⟩
theorem tF{x j pos}:PE X (.Constant (.str x) j pos) (tC (.str x)):=λ_ _ _ H _ I h=>Calls.Constant_str ⟨.str x,H,I.tok _,⟨_,rfl⟩,h⟩
def Gl(X:Cx)(x:Str):Prop:=X.env.kindOf x=some .globalImplicit
theorem iF(I:Inv X a c H s)(d:Gl X x)(e:X.mg x=some u)(h:Q u s)
  (f:(x==("__debug__":Str))=false:=by decide):wpAny (model X.prog X.w) X.A (eval (.Name x b) X.env) Q E s:=
 afl I.ok.kind d (Calls.loadGlobal_global (by rw[I.ok.glob];exact I.mod.glob.keeps I.bk) e h) f
theorem lb{u:Value}(I:Inv X a c H s)(d:Gl X x)(e:X.mg x=none)(f:bootBuiltins x=some u)(h:Q u s)
  (g:x≠"__name__":=by decide) (i:(x==("__debug__":Str))=false:=by decide):wpAny (model X.prog X.w) X.A (eval (.Name x b) X.env) Q E s:=by
 obtain⟨l,j,k⟩:=I.mod.blt;exact afl I.ok.kind d (Calls.loadGlobal_builtin (by rw[I.ok.glob];exact I.mod.glob.keeps I.bk) e (by rw[I.ok.blt];exact j.keeps I.bk) ((k x g).trans f) h) i
theorem Ga{v:V}(b:Gl X x)(c:X.mg x=some u)(r:RelV v u)(d:(x==("__debug__":Str))=false:=by decide):PE X (.Name x a) (tC v):=
 λ_ _ _ H _ I h=>iF I b c ⟨v,H,I,r,h⟩ d
theorem F8(b:Gl X x)(c:X.mg x=none)(d:bootBuiltins x=some u)(r:RelV v u)(e:x≠"__name__":=by decide)(f:(x==("__debug__":Str))=false:=by decide):PE X (.Name x a) (tC v):=
 λ_ _ _ H _ I h=>lb I b c d ⟨v,H,I,r,h⟩ e f
variable {a b:Expr} {ta tb:TE} {pos:Pos}
variable {tA D2:TT} {rest:List Expr}
def adx(t u:TT):TT:=λd H Q=>t d H λc e=>if c=true then u d e Q else Q false e
def tOr(t u:TT):TT:=λd H Q=>t d H λc e=>if c=true then Q true e else u d e Q
def adE(t:TT):TT:=λd H Q=>t d H λc e=>Q (!c) e
theorem PK(f:PT X a tA):PW X (.BoolOp .And [a] pos) tA:=by
 intro i d s g H Q I h;refine isTrue_and (thn (f d s g H Q I h) λc j e=>?_);cases c with
 |true=>exact isTrue_and_nil e
 |false=>exact e
theorem SH(f:PT X a tA):PW X (.BoolOp .Or [a] pos) tA:=by
 intro i d s g H Q I h;refine isTrue_or (thn (f d s g H Q I h) λc j e=>?_);cases c with
 |false=>exact isTrue_or_nil e
 |true=>exact e
theorem SG(j:PT X a tA)(k:PW X (.BoolOp .And (b::rest) pos) D2):PW X (.BoolOp .And (a::b::rest) pos) (adx tA D2):=by
 intro l d s e H Q I h;refine isTrue_and (thn (j d s e H _ I h) λc m ⟨f,g,i⟩=>?_);cases c with
 |true=>exact k l d m e f Q g i
 |false=>exact⟨f,g,i⟩
theorem Xw(j:PT X a tA)(k:PW X (.BoolOp .Or (b::rest) pos) D2):PW X (.BoolOp .Or (a::b::rest) pos) (tOr tA D2):=by
 intro l d s e H Q I h;refine isTrue_or (thn (j d s e H _ I h) λc m ⟨f,g,i⟩=>?_);cases c with
 |true=>exact⟨f,g,i⟩
 |false=>exact k l d m e f Q g i
theorem SD(e:PT X a tA):PT X (.UnaryOp .Not a pos) (adE tA):=by
 intro d s f H Q I h;exact isTrue_not (e d s f H (λc g=>Q (!c) g) I h)
def XR(f g:TE):TE:=λd H Q=>f d H λx e=>∃c,x= .bl c/\if c=true then g d e Q else Q (.bl false) e
def adF(f g:TE):TE:=λd H Q=>f d H λx e=>∃c,x= .bl c/\if c=true then Q (.bl true) e else g d e Q
def X0(d:TE):TE:=λe H Q=>d e H λx f=>∃c,x= .bl c/\Q (.bl (!c)) f
theorem Sr{op}(h:PE X a t):PE X (.BoolOp op [a] pos) t:=λc s d H Q I hw=>BoolOp_one (h c s d H Q I hw)
theorem Si(j:PE X a ta)(k:PE X (.BoolOp .And (b::rest) pos) tb):PE X (.BoolOp .And (a::b::rest) pos) (XR ta tb):=by
 intro d s f H Q I h;refine BoolOp_and (thn (j d s f H _ I h) λv l m=>?_);rfl';obtain⟨x,g,i,o,e⟩:=m;obtain⟨c,rfl,e⟩:=e;ac_rfl;subst o;refine On ?_;cases c with
 |true=>exact k d l f g Q i e
 |false=>exact⟨.bl false,g,i,rfl,e⟩
theorem Xt(j:PE X a ta)(k:PE X (.BoolOp .Or (b::rest) pos) tb):PE X (.BoolOp .Or (a::b::rest) pos) (adF ta tb):=by
 intro d s f H Q I h;refine BoolOp_or (thn (j d s f H _ I h) λv l m=>?_);rfl';obtain⟨x,g,i,o,e⟩:=m;obtain⟨c,rfl,e⟩:=e;ac_rfl;subst o;refine On ?_;cases c with
 |false=>exact k d l f g Q i e
 |true=>exact⟨.bl true,g,i,rfl,e⟩
theorem Sq(f:PE X a ta):PE X (.UnaryOp .Not a pos) (X0 ta):=by
 intro d s g H Q I h;refine UnaryOp_ (thn (f d s g H _ I h) λv n i=>?_);rfl';obtain⟨x,k,l,m,e⟩:=i;obtain⟨c,rfl,e⟩:=e;ac_rfl;subst m;exact not_of (On ⟨.bl (!c),k,l,rfl,e⟩)
end
def b0(K:PySem.W.Frag)(H:Hp)(a:Addr)(c:List V):Prop:=
 Rd H a (.lst c)\/
  ∃(o:Obj)(b:Array Value)(n:Nat),K.lookup a=some o/\o.cls= .type "list"/\o.dict=none/\o.data= .seq b n/\b.size<=sizeLine/\Vals c b.toList
def fX(K:PySem.W.Frag)(H:Hp)(a:Addr)(c:List V):Prop:=
 Rd H a (.tup c)\/
  ∃(o:Obj)(b:Array Value)(n:Nat),K.lookup a=some o/\o.cls= .type "tuple"/\o.data= .seq b n/\b.size<=sizeLine/\Vals c b.toList
def Yr:Value->Option V
 | .none=>some .bu
 | .bool b=>some (.bl b)
 | .int i _=>some (.int i)
 | .str x _=>some (.str x)
 | .bytes b _=>some (.La b)
 | .float b _=>some (.HJ b)
 | .ref a=>some (.ref a)
 | .type n=>some (.ty n)
 |_=>none
theorem RelV.abs{x:V}{u:Value}(r:RelV x u):Yr u=some x:=by
 cases x with
 |bu=>cases r;rfl
 |bl _=>cases r;rfl
 |int _=>obtain⟨t,rfl⟩:=r;rfl
 |str _=>obtain⟨t,rfl⟩:=r;rfl
 |La _=>obtain⟨t,rfl⟩:=r;rfl
 |HJ _=>obtain⟨t,rfl⟩:=r;rfl
 |ref _=>cases r;rfl
 |ty _=>cases r;rfl
theorem RelV.inj(r:RelV x u)(q:RelV y u):x=y:=Do (r.abs.symm.trans q.abs)
theorem Vals.inj:∀{a b:List V}{c:List Value},Vals a c->Vals b c->a=b
 |_,_,_, .nil, .nil=>rfl
 |_,_,_, .cons r t, .cons d e=>by rw[r.inj d,Vals.inj t e]
section
variable {X:Cx} {pins:List (Addr×Obj)} {σ:St} {H:Hp} {s:Shared} {a:Addr} {xs ys:List V}
theorem b0.of{K:PySem.W.Frag}(h:H a=some (.lst xs)):b0 K H a xs:= .inl (.inl h)
theorem fX.of{K:PySem.W.Frag}(h:H a=some (.tup xs)):fX K H a xs:= .inl (.inl h)
theorem Inv.list(I:Inv X pins σ H s)(h:b0 X.K H a xs):∃its:List Value,Vals xs its/\PlainL s.heap a its.toArray/\xs.length<=sizeLine:=by
 rcases h with h| ⟨o,its,n,b,c,d,f,g,r⟩
 ·obtain⟨z,its,n,r,e⟩:=h.ok I.hok
  exact⟨its,r,⟨_,n,e,rfl,rfl,rfl⟩,z⟩
 ·refine⟨its.toList,r,⟨o,n,I.cW a o b,c,d,by simpa using f⟩,?_⟩
  have e:=r.length;simp only[pU] at e;omega
theorem Inv.tuple(I:Inv X pins σ H s)(h:fX X.K H a xs):∃its:List Value,Vals xs its/\IsTup s.heap a its.toArray/\xs.length<=sizeLine:=by
 rcases h with h| ⟨o,its,n,b,c,d,f,r⟩
 ·obtain⟨z,its,r,p⟩:=h.ok I.hok
  exact⟨its,r,p,z⟩
 ·refine⟨its.toList,r,⟨o,I.cW a o b,c,n,by simpa using d⟩,?_⟩
  have e:=r.length;simp only[pU] at e;omega
theorem Inv.uH(I:Inv X pins σ H s)(h:b0 X.K H a xs)(h':b0 X.K H a ys):xs=ys:=by
 rfl';obtain⟨c,r,⟨o,n,e,_,_,d⟩,_⟩:=I.list h;obtain⟨b,j,⟨m,p,f,_,_,g⟩,_⟩:=I.list h';ac_rfl;rw[e] at f;cases f;rw[d] at g
 injection g with k _
 have:c=b:=by simpa using KB Array.toList k
 subst this;exact r.inj j
end
abbrev Cx.qI(X:Cx)(E:Value->Shared->Prop):Cx:={X with xe:=E}
abbrev Cx.lK(X:Cx):Cx:=X.qI λ_ _=>False
theorem Cx.Ok.qI{X:Cx}(ok:X.Ok)(E:Value->Shared->Prop):(X.qI E).Ok:=
 ⟨ok.mod,ok.kind,ok.glob,ok.blt,ok.above,ok.inj,ok.has,ok.cab,ok.hd,ok.frames,ok.stk,ok.exf,ok.bs,ok.bsz,ok.noex,ok.exfs,ok.funs,ok.frf⟩
theorem Cx.Ok.lC{X:Cx}{E:Value->Shared->Prop}(ok:(X.qI E).Ok):X.Ok:=
 ⟨ok.mod,ok.kind,ok.glob,ok.blt,ok.above,ok.inj,ok.has,ok.cab,ok.hd,ok.frames,ok.stk,ok.exf,ok.bs,ok.bsz,ok.noex,ok.exfs,ok.funs,ok.frf⟩
section
variable {X:Cx} {pins:List (Addr×Obj)} {σ:St} {H:Hp} {s:Shared} {E:Value->Shared->Prop}
theorem Inv.qI(I:Inv X pins σ H s)(E:Value->Shared->Prop):Inv (X.qI E) pins σ H s:=⟨I.ok.qI E,I.os,I.bare,I.base,I.loc,I.cell,I.free,I.freeC,I.pin,I.hok,I.len⟩
theorem Inv.lC(I:Inv (X.qI E) pins σ H s):Inv X pins σ H s:=⟨I.ok.lC,I.os,I.bare,I.base,I.loc,I.cell,I.free,I.freeC,I.pin,I.hok,I.len⟩
theorem SP.lC{D:Ends}{f:Flow}{s':Shared}(h:SP (X.qI E) pins D f s'):SP X pins D f s':=by
 cases f with
 |next=>obtain⟨ay,H',I,q⟩:=h;exact⟨ay,H',I.lC,q⟩
 |brk=>obtain⟨ay,H',I,q⟩:=h;exact⟨ay,H',I.lC,q⟩
 |cont=>obtain⟨ay,H',I,q⟩:=h;exact⟨ay,H',I.lC,q⟩
 |ret u=>obtain⟨v,ay,H',I,r,q⟩:=h;exact⟨v,ay,H',I.lC,r,q⟩
theorem kH.lK{st:List Stmt}{t:TS}(h:kH X.lK st t):kH X st t:=λa s b H D I hw=>
 wpAny_mono (h a s b H D (I.qI _) hw) (λ_ _ q=>q.lC) λ_ _ z=>False.elim z
end
section
variable {X:Cx} {st:Stmt} {rest:List Stmt} {t u:TS} {e:Expr} {te:TE} {pos:Pos}
def XZ:TS:=λD a H=>D.nx a H
def adI(t u:TS):TS:=λD a H=>t {D with nx:=u D} a H
theorem Gg:kH X [] XZ:=λ_ _ a H _ I h=>ae0 ⟨a,H,I,h⟩
theorem fF(h1:PS X st t)(h2:kH X rest u):kH X (st::rest) (adI t u):=by
 intro pins s σ H D I h;refine wpAny_execs_cons (thn (h1 pins s σ H {D with nx:=u D} I h) λf s1 q=>?_)
 cases f with
 |next=>
  obtain⟨ay,H',I',q⟩:=q;exact h2 pins s1 ay H' D I' q
 |ret v=>exact q
 |brk=>exact q
 |cont=>exact q
theorem oZ(h1:PS X st t):kH X [st] t:=by
 intro pins s σ H D I h;refine wpAny_execs_cons (thn (h1 pins s σ H D I h) λf s1 q=>?_);cases f with
 |next=>exact wpAny_execs_nil q
 |ret v=>exact q
 |brk=>exact q
 |cont=>exact q
theorem Inv.quiet(I:Inv X a b H s):interactive X.env=false:=by simp[interactive,I.ok.kind]
def XW(b:TE):TS:=λD a H=>b a H λ_ c=>D.nx a c
theorem iH(c:PE X e te)(d:swapsWith e none pos.line X.env=pure false:=by rfl):PS X (.Expr e pos) (XW te):=by
 intro a s b H D I h;exact wpAny_Expr_any (thn (c a s b H _ I h) λv j ⟨x,f,g,k,i⟩=>⟨b,f,g,i⟩) I.quiet d
def adH(a:TE):TS:=λD b H=>a b H D.rt
theorem xg(c:PE X e te):PS X (.Return (some e) pos) (adH te):=by
 intro a s b H D I h;exact wpAny_Return_some (thn (c a s b H _ I h) λv j ⟨x,d,f,g,i⟩=>⟨x,b,d,f,g,i⟩)
def adC(c:TT)(t u:TS):TS:=λD a H=>c a H λb d=>if b=true then t D a d else u D a d
theorem Py(m:PT X c tc)(n:kH X a t)(o:kH X b u):PS X (.If c a b pos) (adC tc t u):=by
 intro f s g H D I h;refine wpAny_If (thn (m f s g H _ I h) λd i ⟨j,k,l⟩=>?_);cases d with
 |true=>exact n f i g j D k l
 |false=>exact o f i g j D k l
def Te:TS:=λ_ _ _=>False
theorem Mg:PS X st Te:=λ_ _ _ _ _ _ h=>h.elim
end
abbrev TG:=V->St->Hp->(St->Hp->Prop)->Prop
abbrev zQ:=List V->St->Hp->(St->Hp->Prop)->Prop
def PG(X:Cx)(a:Expr)(t:TG):Prop:=
 ∀(b:List (Addr×Obj))(s:Shared)(c:St)(H:Hp)(v:V)(u:Value)(Q:St->Hp->Prop),Inv X b c H s->RelV v u->t v c H Q->
  wpAny (model X.prog X.w) X.A (assign a X.env u) (λ_ f=>∃d e,Inv X b d e f/\Q d e) X.xe s
def BM(X:Cx)(g:List Expr)(t:zQ):Prop:=
 ∀(a:List (Addr×Obj))(s:Shared)(b:St)(H:Hp)(c:List V)(d:List Value)(Q:St->Hp->Prop),Inv X a b H s->Vals c d->t c b H Q->
  wpAny (model X.prog X.w) X.A (assignInOrder ((assignEach g X.env).map (·.2)) d) (λ_ h=>∃e f,Inv X a e f h/\Q e f) X.xe s
abbrev Er:=V->V->V->Hp->(Hp->Prop)->Prop
def MP(X:Cx)(t:Er):Prop:=
 ∀(a:List (Addr×Obj))(s:Shared)(b:St)(H:Hp)(o i v:V)(c d u:Value)(Q:Hp->Prop),Inv X a b H s->RelV o c->RelV i d->RelV v u->t o i v H Q->
  wpAny (model X.prog X.w) X.A (setItem c d u) (λ_ f=>∃e,Inv X a b e f/\Q e) X.xe s
abbrev QL:=V->V->Hp->VK->Prop
def U5(X:Cx)(c:Operator)(t:QL):Prop:=
 ∀(a:List (Addr×Obj))(s:Shared)(b:St)(H:Hp)(x y:V)(v u:Value)(Q:VK),Inv X a b H s->RelV x v->RelV y u->t x y H Q->
  wpAny (model X.prog X.w) X.A (inplaceOp c v u) (EP X a b Q) X.xe s
section
variable {X:Cx} {pos:Pos}
def NO(i:Nat):TG:=λv a H Q=>Q (a.set i (some v)) H
theorem Gb(b:X.N.Nodup)(c:X.N[i]? =some x)(d:Loc X.env.scope x)(e:X.fn x=true\/X.env.scope.names.lookup x=some .local:=by first|exact .inl rfl|exact .inr rfl|assumption):PG X (.Name x f) (NO i):=by
 intro a s j H v u Q I r h;exact aft (jc I b c d r (λk g=>⟨_,H,g,h⟩) e)
def aap:zQ:=λa b H Q=>a= []/\Q b H
def Wm(t:TG)(u:zQ):zQ:=λa b H Q=>∃v r,a=v::r/\t v b H λc d=>u r c d Q
theorem y8:BM X [] aap:=by
 intro a s b H c d Q I r h;obtain⟨e,h⟩:=h;subst e;cases r;exact assignInOrder_nil ⟨b,H,I,h⟩
theorem qk(c:PG X e t)(d:BM X b u)
  (f:(assignEach (e::b) X.env).map (·.2)=assign e X.env::(assignEach b X.env).map (·.2):=by rfl):BM X (e::b) (Wm t u):=by
 intro a s g H w x Q I r h;obtain⟨v,y,i,h⟩:=h;subst i;cases r with
 |cons r j=>
  rw[f];refine aff (thn (c a s g H _ _ _ I r h) λ_ k l=>?_);rfl';obtain⟨n,o,p,q⟩:=l;ac_rfl;exact d a k n o _ _ Q p j q
def aar(K:PySem.W.Frag)(n:Nat)(t:zQ):TG:=λv c H Q=>∃a b,v= .ref a/\fX K H a b/\b.length=n/\t b c H Q
theorem DJ{d:List Expr}(i:X.calm=true)(h:BM X d t)
  (j:(assignEach d X.env).length=n:=by rfl) (l:(assignEach d X.env).findIdx? (·.1)=none:=by rfl):PG X (.Tuple d k pos) (aar X.K n t):=by
 intro c s f H v u Q I r hw;rfl';obtain⟨a,p,q,w,x,hw⟩:=hw;subst q;subst r;obtain⟨y,g,z,F⟩:=I.tuple w;ac_rfl;refine assign_Tuple_tuple (I.ok.hd i) z (by simp[j,<-x,g.length]) l λA B=>?_
 have C:Inv X c f H {s with heap:=A}:=I.kept (t':=s.toks) λb o e=>B b o (cp (Fk e)) e
 exact h c _ f H p _ Q C (g) hw
def aaq(b c:TE)(t:Er):TG:=λv a H Q=>b a H λo d=>c a d λi e=>t o i v e λf=>Q a f
theorem w9{o i:Expr}(l:PE X o g)(m:PE X i j)(n:MP X t)
  (p:∀v,assign (.Subscript o i pos) X.env v=(do
   let b <-holding [v] (eval o X.env)
   let c <-holding [v,b] (eval i X.env)
   standAt pos
   holding [v,b,c] (setItem b c v)
   release [v,b,c] []):=by intro _;rfl):PG X (.Subscript o i pos) (aaq g j t):=by
 intro a s f H v u Q I r h;rw[p];refine ir (M2 (thn (l a s f H _ I h) λb q d=>?_));rfl';obtain⟨x,w,z,A,B⟩:=d;ac_rfl;refine ir (M2 (thn (m a q f w _ z B) λc C d=>?_));rfl';obtain⟨y,E,F,G,J⟩:=d;ac_rfl;refine ir (SL (ir (M2 (thn (n a C f E x y v b c u _ F A G r J) λ_ O d=>?_))));rfl';obtain⟨L,M,N⟩:=d;ac_rfl;exact wpAny_release ⟨f,L,M,N⟩
def UT(b:TE)(g:TG):TS:=λD a H=>b a H λx c=>g x a c D.nx
theorem xf(f:PE X e c)(i:PG X b g)(j:swapsWithSole [b] e pos.line X.env=pure false:=by rfl)(hw:swappedStores [b] e X.env=pure none:=by rfl)
  (k:(assignEach [b] X.env).map (·.2)= [assign b X.env]:=by rfl):PS X (.Assign [b] e pos) (UT c g):=by
 intro a s d H D I h;refine wpAny_Assign_stores (thn (f a s d H _ I h) λv l ⟨x,m,n,o,p⟩=>?_) j hw;rw[k];exact thn (i a l d m x v _ n o p) λ_ r q=>q
theorem jj{i:Nat}(d:X.N.Nodup)(f:X.N[i]? =some x)(g:Loc X.env.scope x)(j:PE X e c)(k:swapsWith e (some (.Name x a)) pos.line X.env=pure false:=by rfl)(l:X.fn x=true\/X.env.scope.names.lookup x=some .local:=by first|exact .inl rfl|exact .inr rfl|assumption):
  PS X (.Assign [.Name x a] e pos) (UT c (NO i)):=by
 intro b s m H D I h;refine wpAny_Assign_Name (thn (j b s m H _ I h) λv t ⟨y,n,o,p,q⟩=>?_) k;exact jc o d f g p (λu r=>⟨_,n,r,q⟩) l
def adG(i j:Nat)(b:TA):TS:=λD a H=>b a H λc d=>∃v w,c= [v,w]/\D.nx ((a.set i (some v)).set j (some w)) d
theorem Sz{kt k2 Js}(C:X.calm=true)(n:X.N.Nodup)(E:X.N[i]? =some x)(F:X.N[j]? =some y)(G:i≠j)
  (r:X.env.scope.names.lookup x=some .local) (t:X.env.scope.names.lookup y=some .local) (J:PA X [a,b] m)
  (hw:swappedStores [.Tuple [.Name x k, .Name y py] kt pt] (.Tuple [a,b] k2 Js) X.env=pure (some [x,y]))
  (L:swapsWithSole [.Tuple [.Name x k, .Name y py] kt pt] (.Tuple [a,b] k2 Js) pos.line X.env=pure false:=by rfl):
  PS X (.Assign [.Tuple [.Name x k, .Name y py] kt pt] (.Tuple [a,b] k2 Js) pos) (adG i j m):=by
 intro c s u H D I h;rw[exec_Assign_arm];refine ir (SL ?_);rw[L];refine ir (mo ?_);rw[AC (by decide)]
 refine ir (Tuple_ (thn (J _ c s u H _ I h) λM d O=>?_));obtain⟨vs,z,Q,R,l⟩:=O;obtain⟨v,w,T,l⟩:=l;subst T
 obtain⟨f,g,rfl,U,Y⟩:∃f g,M= [f,g]/\RelV v f/\RelV w g:=by
  cases R with
  |cons p q=>
   cases q with
   |cons Z q'=>
    cases q';exact⟨_,_,rfl,p,Z⟩
 refine SC ?_ (by show 2<=sizeLine;decide)
 have I2:Inv X c u z {d with heap:=d.heap.push {cls:= .type "tuple",data:= .seq [f,g].toArray}}:=Q.kept (t':=d.toks) λb o e=>Da _ e
 rw[hw];refine ir (mo ?_);show wpAny (model X.prog X.w) X.A (do rule "assign.swapped-stores";let items <-unpackItems (.ref d.heap.objs.size) 2 none;assignInOrder [λv=>bindName X.env y v,λv=>bindName X.env x v] items.reverse;pure Flow.next) _ _ _
 refine ir (wpAny_rule (ir (unpackItems_tuple (items:= #[f,g]) (I.ok.hd C) (IsTup.new d.heap _) λh' Ik=>?_)));have I3:=I2.kept (h':=h') (t':=d.toks) λb o e=>Ik b o (cp (Fk e)) e;show wpAny _ _ (assignInOrder [λv=>bindName X.env y v,λv=>bindName X.env x v] [g,f]>>=λ_=>pure Flow.next) _ _ _;refine ir (aff (wpAny_bindName (jc I3 n F (.inl t) Y (λs2 I4=>?_) (.inr t))));refine aff (wpAny_bindName (jc I4 n E (.inl r) U (λs3 B=>assignInOrder_nil (mo ?_)) (.inr r)));rw[List.set_comm _ _ (Ne.symm G)] at B;exact⟨_,z,B,l⟩
def XS(b c d:TE)(e:V->V->Hp->VK->Prop)(f:QL)(g:Er):TS:=λD a H=>b a H λo h=>c a h λi j=>e o i j λx k=>d a k λy l=>f x y l λz m=>g o i z m λn=>D.nx a n
def TH(X:Cx)(t:V->V->Hp->VK->Prop):Prop:=
 ∀(a:List (Addr×Obj))(s:Shared)(b:St)(H:Hp)(o i:V)(c d:Value)(Q:VK),Inv X a b H s->RelV o c->RelV i d->t o i H Q->
  wpAny (model X.prog X.w) X.A (getItem c d) (EP X a b Q) X.xe s
theorem Px(A:PE X o l)(B:PE X i m)(C:TH X p)(E:PE X e n)(F:U5 X t q)(G:MP X r)
  (J:∀b c new,augStore i b c new=(do holding [new,b,c] (setItem b c new);release [new,b,c] [];pure .next):=by intros;rfl):PS X (.AugAssign (.Subscript o i z) t e pos) (XS l m n p q r):=by
 intro a s d H D I h;refine wpAny_AugAssign_SubscriptAny (thn (A a s d H _ I h) λb L ⟨u,M,N,w,O⟩=>?_) J;refine thn (B a L d M _ N O) λc Q f=>?_;rfl';obtain⟨x,R,T,y,U⟩:=f;ac_rfl;refine thn (C a Q d R u x b c _ T w y U) λk Y f=>?_;rfl';obtain⟨Z,H3,I3,r3,q3⟩:=f;ac_rfl;refine thn (E a Y d H3 _ I3 q3) λv s4 f=>?_;rfl';obtain⟨x4,H4,I4,r4,q4⟩:=f;ac_rfl;refine thn (F a s4 d H4 Z x4 k v _ I4 r3 r4 q4) λnew s5 f=>?_;rfl';obtain⟨x5,H5,I5,r5,q5⟩:=f;ac_rfl;exact thn (G a s5 d H5 u x x5 b c new _ I5 w y r5 q5) λ_ s6 ⟨H6,I6,q6⟩=>⟨d,H6,I6,q6⟩
def ipI(f:Int->Int->Int):QL:=λx y H Q=>∃i j,x= .int i/\y= .int j/\Q (.int (f i j)) H
theorem CN:U5 X .Add (ipI λi j=>i+j):=by
 intro a s f H x y v u Q I b c h;obtain⟨i,j,d,e,q⟩:=h;subst d;subst e;obtain⟨t,rfl⟩:=b;obtain⟨g,rfl⟩:=c;exact iadd_int ⟨.int _,H,I.tok _,⟨_,rfl⟩,q⟩
end
section
variable {X:Cx} {pos:Pos}
def Tg(c:TT)(h:TS):TS:=λD a H=>∃W:Nat->St->Hp->Prop,(∃m,W m a H)/\∀m a H,W m a H->
 c a H λb d=>if b=true then ∃N:St->Hp->Prop,(∀e f,N e f->∃g,g<m/\W g e f)/\h {D with nx:=N,ct:=N,bk:=D.nx} a d else D.nx a d
theorem Mh{c:Expr}{body:List Stmt}{tc:TT}{tb:TS}(hp:PassesOwn (model X.prog X.w) X.A X.env X.xe)(hc:PT X c tc)(hb:kH X body tb):PS X (.While c body [] pos) (Tg tc tb):=by
 intro pins s σ H D I h;obtain⟨W,⟨m0,w0⟩,turn⟩:=h;refine wpAny_While (codeAny_whileLoop (λn s'=>∃ay H',Inv X pins ay H' s'/\W n ay H') ?_ m0 ⟨σ,H,I,w0⟩);intro n s1 Yb;rfl';obtain⟨J4,H1,I1,w1⟩:=Yb;ac_rfl;refine wpAny_passesOwn hp (thn (hc pins s1 J4 H1 _ I1 (turn n J4 H1 w1)) λb s2 bo=>?_);rfl';obtain⟨H2,I2,q2⟩:=bo;ac_rfl;cases b with
 |true=>
  rfl';obtain⟨N,hN,q2⟩:=q2;ac_rfl;rw[if_pos rfl];refine wpAny_passesOwn hp (thn (hb pins s2 J4 H2 _ I2 q2) λf s3 q3=>?_);cases f with
  |next=>
   obtain⟨wM,H3,I3,n3⟩:=q3;obtain⟨m',hm,w3⟩:=hN wM H3 n3;exact⟨m',hm,wM,H3,I3,w3⟩
  |cont=>
   obtain⟨wM,H3,I3,n3⟩:=q3;obtain⟨m',hm,w3⟩:=hN wM H3 n3;exact⟨m',hm,wM,H3,I3,w3⟩
  |brk=>exact q3
  |ret v=>exact q3
 |false=>
  rw[if_neg cQ];exact wpAny_execs_nil ⟨J4,H2,I2,q2⟩
end
structure It where
 go:Nat->Hp->Prop
 yld:Nat->Hp->V->Hp->Prop
 stop:Nat->Hp->Prop
def fL(X:Cx)(a:List (Addr×Obj))(H:Hp)(b:Addr):Prop:=
 H b=none/\b≠X.env.locals/\b∉X.fs/\(b∈X.ex\/X.s₀.heap.objs.size<=b)/\(∀x c,X.env.cells.lookup x=some c->c≠b)/\∀p∈X.pn++a,p.1≠b
theorem Inv.Fd(I:Inv X a g H s)(d:s.heap.objs.size<=b)(h:f b=none):fL X a f b:=by
 refine⟨h,ae1 (fC I.lt d),I.OY d, .inr (fK I.sz d),λx c e z=>?_,λp i z=>?_⟩
 ·obtain⟨v,q⟩:=I.cell x c e
  exact absurd (fC q.lt (by rw[z];exact d)) (hJ _)
 ·exact absurd (fC (Fk (I.pin p i).1) (by rw[z];exact d)) (hJ _)
structure Turn (P:Program) (w:World) (K:PySem.W.Frag) (tg:Expr) (J:It) (fp:List Addr) (it:Addr) (tn:Nat->Heap->Prop):Prop where
 mem:it∈fp
 obj:∀i h,tn i h->∀b∈fp,∃o,h.get? b=some o/\∀v,o.data≠ .cell v
 keep:∀i h h',tn i h->(∀b∈fp,∀o,h.get? b=some o->h'.get? b=some o)->tn i h'
 item:∀(X:Cx),X.prog=P->X.w=w->X.K=K->X.calm=true->∀(i:Nat)(pins:List (Addr×Obj))(s:Shared)(σ:St)(H:Hp)(E:Value->Shared->Prop),Inv X pins σ H s->(∀b∈fp,fL X pins H b)->tn i s.heap->J.go i H->
  wpAny (model P w) X.A (pyNext (.ref it)) (λr s1=>∃u,r=some u/\
   wpAny (model P w) X.A (letOwnedTupleGo tg (.ref it) u) (λ_ s2=>∃x H',Inv X pins σ H' s2/\RelV x u/\J.yld i H x H'/\tn (i+1) s2.heap/\∀b∈fp,H' b=none) E s1) E s
 done:∀(X:Cx),X.prog=P->X.w=w->X.K=K->X.calm=true->∀(i:Nat)(pins:List (Addr×Obj))(s:Shared)(σ:St)(H:Hp)(E:Value->Shared->Prop),Inv X pins σ H s->(∀b∈fp,fL X pins H b)->tn i s.heap->J.stop i H->
  wpAny (model P w) X.A (pyNext (.ref it)) (λr s1=>r=none/\Inv X pins σ H s1) E s
 self:∀(A:Around)(i:Nat)(s:Shared)(Q:Value->Shared->Prop)(E:Value->Shared->Prop),tn i s.heap->Q (.ref it) s->wpAny (model P w) A (pyIter (.ref it)) Q E s
abbrev TI:=St->Hp->(It->Hp->Prop)->Prop
def Yn(X:Cx)(a:List (Addr×Obj))(h:St)(i:Expr)(R:It->Hp->Prop)(j:Value)(d:Shared):Prop:=
 ∃(e:Addr)(f:List Addr)(g:Nat->Heap->Prop)(J:It)(c:Hp),j= .ref e/\Inv X a h c d/\Turn X.prog X.w X.K i J f e g/\g 0 d.heap/\(∀b∈f,fL X a c b)/\R J c
def PI(X:Cx)(c iter:Expr)(d:TI):Prop:=
 ∀(a:List (Addr×Obj))(s:Shared)(b:St)(H:Hp)(R:It->Hp->Prop),Inv X a b H s->d b H R->
  wpAny (model X.prog X.w) X.A (eval iter X.env) (λv e=>wpAny (model X.prog X.w) X.A (pyIter v) (Yn X a b c R) X.xe e) X.xe s
theorem HV{M:Model}{A:Around}{E:Value->Shared->Prop}{s:Shared}{b:Expr}{c:Addr}{u:Value}{o:Obj}{n:String}{d:Array Value}{Q:Unit->Shared->Prop}(e:s.heap.get? c=some o)(f:o.cls= .type n)(g:o.data= .fields d)
  (i: ["enumerate","zip","dict_itemiterator","dict_reverseitemiterator","odict_iterator","itertools.zip_longest","itertools.pairwise"].contains n=false) (a:Q () s):wpAny M A (letOwnedTupleGo b (.ref c) u) Q E s:=by
 unfold letOwnedTupleGo
 cases b<;>first
  |exact wpAny_pure a
  | (cases u<;>first
    |exact wpAny_pure a
    | (refine wpAny_bind (wpAny_load e ?_)
       rw[f,g];show wpAny M A (if (["enumerate","zip","dict_itemiterator","dict_reverseitemiterator","odict_iterator","itertools.zip_longest","itertools.pairwise"].contains n&&d[0]? ==some (rawInt _))=true then _ else _) Q E s;rw[if_neg (by intro h;rw[i,Bool.false_and] at h;cases h)]
       exact wpAny_pure a))
def U1(K:PySem.W.Frag)(a:Addr):It:=
 ⟨λi H=>∃b x,b0 K H a b/\b[i]? =some x,λi H x c=>c=H/\∀b,b0 K H a b->b[i]? =some x,λi H=>∃b,b0 K H a b/\b.length<=i⟩
def QI(lo:Int)(n:Nat):It:=⟨λi _=>i<n,λi H x a=>a=H/\x= .int (lo+i),λi _=>n<=i⟩
theorem JT{P:Program}{w:World}{K:PySem.W.Frag}{R:Expr}(a g:Addr):Turn P w K R (U1 K a) [g] g (λi h=>h.IsListIter g a i) where
 mem:=by simp
 obj:=λi h st b j=>by
  have e:b=g:=by simpa using j
  subst e;obtain⟨o,e,c,d⟩:=st;exact⟨o,e,λv z=>by rw[d] at z;cases z⟩
 keep:=λi h l st k=>st.at λo e=>k g (by simp) o e
 item:=by
  intro X q hw r N i f s O H E I m st t;rfl';subst q hw r;obtain⟨U,x,n,A⟩:=t;obtain⟨B,C,p,Y⟩:=I.list n;obtain⟨u,Z,ru⟩:=C.get A;obtain⟨F,G,f2,J,L,M⟩:=m g (by simp)
  ac_rfl;refine wpAny_pyNext_list_item st p.isList (x:=u) (by simpa using Z) λl Q sb=>?_
  have I1:Inv X f O H {s with heap:=l}:=I.turned (t':=s.toks) (λb o j e=>(sb.2 b j).trans e) F G J L M
  obtain⟨o,e,c,d⟩:=id Q;exact⟨u,rfl,HV (s:={s with heap:=l}) e c d (by decide) ⟨x,H,I1,ru,⟨rfl,λys hy=>by rw[I.uH hy n];exact A⟩,Q,λb j=>(m b j).1⟩⟩
 done:=by
  intro X q hw r N i f s O H E I m st t;rfl';subst q hw r;obtain⟨U,n,A⟩:=t;obtain⟨B,C,p,Y⟩:=I.list n;obtain⟨F,G,f2,J,L,M⟩:=m g (by simp)
  have hl:=C.length;ac_rfl;exact wpAny_pyNext_list_end (I.ok.hd N) st p.isList (by simp;omega) λl eb=>⟨rfl,I.turned (t':=s.toks) (λb o j e=>eb b o j e) F G J L M⟩
 self:=λ_ _ _ _ _ st h=>wpAny_pyIter_listiter st h
theorem GK{P:Program}{w:World}{K:PySem.W.Frag}{G:Expr}(a:Addr)(lo:Int)(n:Nat):Turn P w K G (QI lo n) [a] a (λi h=>IsRangeIter h a (lo+(i:Nat)*1) ((n:Int)-(i:Nat)) 1) where
 mem:=by simp
 obj:=λi h st b d=>by
  have e:b=a:=by simpa using d
  subst e
  exact⟨_,st,λv z=>by
   have J:Data.fields _=Data.cell v:=z;cases J⟩
 keep:=λi h f st k=>k a (by simp) _ st
 item:=by
  intro X j hw l m i c s B H E I g st p;subst j hw l;rfl';obtain⟨r,u,M,x,y,A⟩:=g a (by simp)
  ac_rfl;have W:=Walks.range (prog:=X.prog) (w:=X.w) (I.ok.hd m) a lo 1 n;refine W.item i s _ _ p st λv f C N F O=>?_;obtain⟨t,rfl⟩:=N;have Q:Inv X c B H {s with heap:=f,toks:=C}:=I.turned (λb o d e=>O b o (by simpa using d) e) r u x y A
  refine⟨_,rfl,HV (s:={s with heap:=f,toks:=C}) (n:="range_iterator") F rfl rfl (by decide) ⟨.int (lo+i),H,Q,⟨t,?_⟩,⟨rfl,rfl⟩,F,λb d=>(g b d).1⟩⟩
  rw[Int.mul_one]
 done:=by
  intro X j hw l m i c s B H E I g st p;subst j hw l;rfl';obtain⟨r,u,M,x,y,A⟩:=g a (by simp)
  ac_rfl;exact wpAny_pyNext_range_end (I.ok.hd m) st (by have:n<=i:=p;omega) λf R=>⟨rfl,I.turned (t':=s.toks) (λb o d e=>R b o d e) r u x y A⟩
 self:=λ_ _ _ _ _ st h=>wpAny_pyIter_rangeiter st h
section
variable {X:Cx} {tg:Expr}
def W3(K:PySem.W.Frag)(c:TE):TI:=λd H R=>c d H λx b=>∃a,x= .ref a/\(∃e,b0 K b a e)/\R (U1 K a) b
theorem Po(j:PE X l i):PI X tg l (W3 X.K i):=by
 intro c s k H R I h;refine thn (j c s k H _ I h) λv d m=>?_;rfl';obtain⟨x,r,f,t,u⟩:=m;ac_rfl;rfl';obtain⟨a,e,⟨A,w⟩,q⟩:=u;subst e;subst t;obtain⟨y,B,p,C⟩:=f.list w;ac_rfl;refine afu p.isList ?_;refine⟨d.heap.objs.size,[d.heap.objs.size],_,_,r,rfl,f.kept (t':=d.toks) λb o e=>Da _ e,JT a _,⟨_,FS _ rfl,rfl,rfl⟩,λb z=>?_,q⟩;have e:b=d.heap.objs.size:=by simpa using z
 subst e;exact f.Fd (bK _) (f.hok.fresh (bK _))
theorem Ml{c:List (Addr×Obj)}{d:St}{H:Hp}{s:Shared}{R:It->Hp->Prop}{E:Value->Shared->Prop}{lo a:Int}{t u v:Tok}{f:Nat}(I:Inv X c d H s)(h: -(2^62)<=lo)(i:lo<2^62)(j: -(2^62)<=a)(k:a<2^62)
  (q:R (QI lo (a-lo).toNat) H):wpAny (model X.prog X.w) X.A (pyIter (.ref s.heap.objs.size)) (Yn X c d tg R) E {s with heap:=s.heap.push {cls:= .type "range",data:= .fields #[.int lo t, .int a u, .int 1 v]},toks:=f}:=by
 refine wpAny_pyIter_range (IsRange.new ..) (small_one h i j k) ?_;have g:Inv X c d H {s with heap:=s.heap.push {cls:= .type "range",data:= .fields #[.int lo t, .int a u, .int 1 v]},toks:=f}:=I.kept λb o e=>Da _ e
 refine⟨(s.heap.push {cls:= .type "range",data:= .fields #[.int lo t, .int a u, .int 1 v]}).objs.size,[(s.heap.push {cls:= .type "range",data:= .fields #[.int lo t, .int a u, .int 1 v]}).objs.size],_,_,H,rfl,
  g.kept (t':=f) λb o e=>Da _ e,GK _ lo (a-lo).toNat,?_,λb l=>?_,q⟩
 ·have m:lo+((0:Nat):Int)*1=lo:=by simp
  have n:(((a-lo).toNat:Nat):Int)-((0:Nat):Int)=Builtin.Range.rangeSize lo a 1:=by rw[rangeSize_one];split<;>omega
  show IsRangeIter _ _ (lo+((0:Nat):Int)*1) ((((a-lo).toNat:Nat):Int)-((0:Nat):Int)) 1;rw[m,n];exact FS _ rfl
 ·have e:b=(s.heap.push {cls:= .type "range",data:= .fields #[.int lo t, .int a u, .int 1 v]}).objs.size:=by simpa using l
  subst e;exact g.Fd (bK _) (g.hok.fresh (bK _))
def W4(a:TA):TI:=λb H R=>a b H λc d=>∃j:Int,c= [.int j]/\-(2^62)<=j/\j<2^62/\R (QI 0 j.toNat) d
theorem y9(g:Gl X "range")(i:X.mg "range"=none)(k:PA X [a] f)(l:starEach [a] X.env= [(false,eval a X.env)]:=by rfl):PI X tg (.Call (.Name "range" p) [a] [] b) (W4 f):=by
 intro c s m H R I h;refine Call_ (lb I g i boot_range (Wp (thn (k b c s m H _ I h) λw x ⟨y,z,n,o,d⟩=>?_) l rfl));obtain⟨j,e,d,u,q⟩:=d;subst e;cases o with
 |cons r v=>
  cases v;obtain⟨t,rfl⟩:=r;exact call_range_1 (Ml n (by omega) (by omega) d u (by simpa using q))
def adB(e:TI)(g:TG)(f:TS):TS:=λD a H=>e a H λJ h=>∃W:Nat->Nat->St->Hp->Prop,(∃m,W 0 m a h)/\∀i m a H,W i m a H->
 (J.stop i H/\D.nx a H)\/(J.go i H/\∃N:St->Hp->Prop,(∀c b,N c b->∃d,d<m/\W (i+1) d c b)/\∀x b,J.yld i H x b->g x a b λj k=>f {D with nx:=N,ct:=N,bk:=D.nx} j k)
def m8(a:List Addr)(h:Heap):List (Addr×Obj):=a.filterMap λb=>(h.get? b).map λo=>(b,o)
theorem fj(c:b∈a)(e:h.get? b=some o):(b,o)∈m8 a h:=zq99.mpr ⟨b,c,by rw[e];rfl⟩
theorem Jj(c:p∈m8 a h):p.1∈a/\h.get? p.1=some p.2:=by
 obtain⟨b,d,e⟩:=zq99.mp c;cases q:h.get? b with
 |none=>rw[q] at e;cases e
 |some o=>
  rw[q] at e;have f:(b,o)=p:=Do e;subst f;exact⟨d,q⟩
theorem Inv.pinned(I:Inv X a f H s)(i:∀b∈c,fL X a H b)(j:∀b∈c,∃o,s.heap.get? b=some o/\∀v,o.data≠ .cell v):Inv X (a++m8 c s.heap) f H s:=
 I.mF λp k=>(cV.mp k).elim (λz=>I.pin p (dW _ z)) λz=>by
  rfl';obtain⟨g,e⟩:=Jj z;obtain⟨m,n,q,_⟩:=i p.1 g;obtain⟨o,h,d⟩:=j p.1 g;ac_rfl;rw[e] at h;cases h;exact⟨e,m,n,q,d⟩
theorem Inv.j6(I:Inv X (a++c) b H s):Inv X a b H s:=I.mF λp d=>I.pin p (dW _ (kF _ d))
theorem DL(C:PassesOwn (model X.prog X.w) X.A X.env X.xe)(hc:X.calm=true)(hi:PI X tg iter wi)(hg:PG X tg g)(c:kH X t tb)
  (hs:∀x,foldedSetIterable iter X.env x=pure x:=by intro _;rfl):PS X (.For tg iter t [] Q) (adB wi g tb):=by
 intro a s σ H D I h;refine wpAny_For (thn (hi a s σ H _ I h) λv s1 h1=>thn h1 λqv s2 h2=>?_) hs;rfl';obtain⟨it,E,tn,J,H2,e,I2,T,pO,f2,W,⟨m0,w0⟩,turn⟩:=h2;subst e;ac_rfl;have j:∀{q:Hp},(∀b∈E,q b=none)->∀b∈E,fL X a q b:=λhn b c=>⟨hn b c,(f2 b c).2⟩;refine codeAny_forLoop_any (λn s'=>∃i F q,Inv X a F q s'/\tn i s'.heap/\(∀b∈E,q b=none)/\W i n F q) ?_ m0 ⟨0,σ,H2,I2,pO,λb c=>(f2 b c).1,w0⟩;intro n s3 Yb;rfl';obtain⟨i,G,O,I3,GB,L,w3⟩:=Yb;ac_rfl
 rcases turn i n G O w3 with ⟨stop,qn⟩ | ⟨go,N,hN,step⟩
 ·refine aeg C (thn (T.done X rfl rfl rfl hc i a s3 G O X.xe I3 (j L) GB stop) λr s4 B=>?_)
  obtain⟨U,I4⟩:=B;subst U;exact ae0 ⟨G,O,I4,qn⟩
 ·refine aeg C (thn (T.item X rfl rfl rfl hc i a s3 G O X.xe I3 (j L) GB go) λr s4 B=>?_)
  obtain⟨u,U,h4⟩:=B;subst U;refine aeg C (thn h4 λ_ s5 B=>?_);rfl';obtain⟨x,H5,I5,r5,y5,Y,zY⟩:=B;ac_rfl;have MK:=I5.pinned (j zY) (T.obj _ _ Y);refine aeg C (thn (hg _ s5 G H5 x u _ MK r5 (step x H5 y5)) λ_ s6 B=>?_);rfl';obtain⟨Z,H6,I6,q6⟩:=B;ac_rfl;refine aeg C (thn (c _ s6 Z H6 _ I6 q6) λf s7 y=>?_)
  have again:∀{k:St}{l:Hp},Inv X (a++m8 E s5.heap) k l s7->N k l->∃m,m<n/\∃i F q,Inv X a F q s7/\tn i s7.heap/\(∀b∈E,q b=none)/\W i m F q:=λ {k l} p M=>by
   obtain⟨m',hm,w7⟩:=hN k l M;refine⟨m',hm,i+1,k,l,p.j6,T.keep _ _ _ Y λb c o e=>(p.pin (b,o) (dW _ (dW _ (fj c e)))).1,λb c=>?_,w7⟩;obtain⟨o,e,d⟩:=T.obj _ _ Y b c;exact(p.pin (b,o) (dW _ (dW _ (fj c e)))).2.1
  cases f with
  |next=>obtain⟨k,l,p,M⟩:=y;exact again p M
  |cont=>obtain⟨k,l,p,M⟩:=y;exact again p M
  |brk=>obtain⟨k,l,p,y⟩:=y;exact⟨k,l,p.j6,y⟩
  |ret v=>obtain⟨x7,k,l,p,r7,y⟩:=y;exact⟨x7,k,l,p.j6,r7,y⟩
end
abbrev R2:=V->V->Hp->VK->Prop
def OpR(X:Cx)(f:Value->Value->Sem Value)(r:R2):Prop:=
 ∀(a:List (Addr×Obj))(s:Shared)(b:St)(H:Hp)(x y:V)(v u:Value)(Q:VK),Inv X a b H s->RelV x v->RelV y u->r x y H Q->
  wpAny (model X.prog X.w) X.A (f v u) (EP X a b Q) X.xe s
def UnR(X:Cx)(f:Value->Sem Value)(r:V->Hp->VK->Prop):Prop:=
 ∀(a:List (Addr×Obj))(s:Shared)(b:St)(H:Hp)(x:V)(v:Value)(Q:VK),Inv X a b H s->RelV x v->r x H Q->
  wpAny (model X.prog X.w) X.A (f v) (EP X a b Q) X.xe s
def CallR(X:Cx)(f:Value)(r:List V->Hp->VK->Prop):Prop:=
 ∀(a:List (Addr×Obj))(s:Shared)(b:St)(H:Hp)(c:List V)(d:List Value)(Q:VK),Inv X a b H s->Vals c d->r c H Q->
  wpAny (model X.prog X.w) X.A (call f d) (EP X a b Q) X.xe s
def Yp(X:Cx)(r:V->Hp->(Bool->Hp->Prop)->Prop):Prop:=
 ∀(a:List (Addr×Obj))(s:Shared)(b:St)(H:Hp)(x:V)(v:Value)(Q:Bool->Hp->Prop),Inv X a b H s->RelV x v->r x H Q->
  wpAny (model X.prog X.w) X.A (truthy v) (TP X a b Q) X.xe s
def Qr(r:R2)(b c:TE):TE:=λa H Q=>b a H λx d=>c a d λy e=>r x y e Q
def tUn(r:V->Hp->VK->Prop)(a:TE):TE:=λb H Q=>a b H λx c=>r x c Q
def rI(C:Int->Int->Prop)(g:Int->Int->V):R2:=λx y H Q=>∃i j,x= .int i/\y= .int j/\C i j/\Q (g i j) H
def Ak(g:Int->Int->V):R2:=λx y H Q=>∃i j,x= .int i/\y= .int j/\Q (g i j) H
def rU(g:Int->V):V->Hp->VK->Prop:=λx H Q=>∃i,x= .int i/\Q (g i) H
section
variable {X:Cx} {a b c:Expr} {ta tb tc:TE} {pos:Pos}
theorem MW(l:PE X a ta)(m:PE X b tb){d:List (Addr×Obj)}{s:Shared}{e:St}{H:Hp}{R:V->V->Hp->Prop}(I:Inv X d e H s)
  (h:ta e H λx k=>tb e k λy g=>R x y g) {Q:Value->Shared->Prop} {f:Value->Value->Sem Value}
  (n:∀v u j x y g,Inv X d e g j->RelV x v->RelV y u->R x y g->wpAny (model X.prog X.w) X.A (f v u) Q X.xe j):
  wpAny (model X.prog X.w) X.A (eval a X.env) (λv i=>wpAny (model X.prog X.w) X.A (eval b X.env) (λu o=>wpAny (model X.prog X.w) X.A (f v u) Q X.xe o) X.xe i) X.xe s:=by
 refine thn (l d s e H _ I h) λv p ⟨x,k,q,r,t⟩=>?_;refine thn (m d p e k _ q t) λu j ⟨y,g,z,B,C⟩=>?_;exact n v u j x y g z r B C
theorem Pl(f:OpR X (binaryOp e) r)(g:PE X a ta)(i:PE X b tb):PE X (.BinOp a e b pos) (Qr r ta tb):=by
 intro d s j H Q I h;exact wpAny_BinOp (MW g i I h λv u k x y l m n o q=>f d k j l x y v u Q m n o q)
theorem Xu(g:UnR X (unaryOp e) r)(i:PE X a ta):PE X (.UnaryOp e a pos) (tUn r ta):=by
 intro d s f H Q I h;exact UnaryOp_ (thn (i d s f H _ I h) λv j ⟨x,k,l,m,n⟩=>g d j f k x v Q l m n)
theorem O6{f:Value->Value->Sem Value}{C:Int->Int->Prop}{g:Int->Int->Int}
  (rule:∀(i j:Int)(t u:Tok)(s:Shared)(Q:Value->Shared->Prop)(E:Value->Shared->Prop),C i j->Q (.int (g i j) s.toks) {s with toks:=s.toks+1}->wpAny (model X.prog X.w) X.A (f (.int i t) (.int j u)) Q E s):
  OpR X f (rI C λi j=> .int (g i j)):=by
 intro d s n H x y v u Q I e k h;obtain⟨i,j,rfl,rfl,l,q⟩:=h;obtain⟨t,rfl⟩:=e;obtain⟨m,rfl⟩:=k;exact rule i j t m s _ _ l ⟨.int (g i j),H,I.tok _,⟨_,rfl⟩,q⟩
theorem UP{f:Value->Value->Sem Value}{g:Int->Int->Int}
  (rule:∀(i j:Int)(t u:Tok)(s:Shared)(Q:Value->Shared->Prop)(E:Value->Shared->Prop),Q (.int (g i j) s.toks) {s with toks:=s.toks+1}->wpAny (model X.prog X.w) X.A (f (.int i t) (.int j u)) Q E s):
  OpR X f (Ak λi j=> .int (g i j)):=by
 intro d s m H x y v u Q I e k h;obtain⟨i,j,rfl,rfl,q⟩:=h;obtain⟨t,rfl⟩:=e;obtain⟨l,rfl⟩:=k;exact rule i j t l s _ _ ⟨.int (g i j),H,I.tok _,⟨_,rfl⟩,q⟩
theorem KD{f:Value->Value->Sem Value}{g:Int->Int->Bool}
  (rule:∀(i j:Int)(t u:Tok)(s:Shared)(Q:Value->Shared->Prop)(E:Value->Shared->Prop),Q (.bool (g i j)) s->wpAny (model X.prog X.w) X.A (f (.int i t) (.int j u)) Q E s):
  OpR X f (Ak λi j=> .bl (g i j)):=by
 intro d s m H x y v u Q I e k h;obtain⟨i,j,rfl,rfl,q⟩:=h;obtain⟨t,rfl⟩:=e;obtain⟨l,rfl⟩:=k;exact rule i j t l s _ _ ⟨.bl (g i j),H,I,rfl,q⟩
def TC(i j:Int):Prop:=0<j/\j<1073741824
def TF(i j:Int):Prop:=0<=j/\j<=1000000/\i.natAbs<2^64
def J5(i j:Int):Prop:=(-(2^64)<i/\i<2^64)\/(-(2^64)<j/\j<2^64)
theorem J5.ok(h:J5 i j):IntMulOk i j:=by
 rcases h with ⟨d,e⟩ | ⟨d,e⟩
 ·exact .of_left (intBits_le_64 d e)
 ·exact .of_right (intBits_le_64 d e)
theorem R8:OpR X (binaryOp .Add) (Ak λi j=> .int (i+j)):=UP λ_ _ _ _ _ _ _ q=>add_int q
theorem Sh:OpR X (binaryOp .Sub) (Ak λi j=> .int (i-j)):=UP λ_ _ _ _ _ _ _ q=>sub_int q
theorem Sd:OpR X (binaryOp .Mult) (rI J5 λi j=> .int (i*j)):=O6 λ_ _ _ _ _ _ _ d q=>mul_int q d.ok
theorem O8:OpR X (binaryOp .FloorDiv) (rI TC λi j=> .int (i / j)):=O6 λi j _ _ _ _ _ d q=>by
 have e:(0:Int)<j:=d.1;have f:j<1073741824:=d.2;exact floordiv_int (by omega) (by rw[Int.fdiv_eq_ediv_of_nonneg i (by omega)];exact q) (.inl (PyProof.noPylong_small (by omega)))
theorem Sb:OpR X (binaryOp .Mod) (rI (λ_ j=>0<j) λi j=> .int (i%j)):=O6 λi j _ _ _ _ _ d q=>by
 have e:(0:Int)<j:=d;exact mod_int' (by omega) (by rw[Int.fmod_eq_emod_of_nonneg i (by omega)];exact q)
theorem Sf:OpR X (binaryOp .Pow) (rI TF λi j=> .int (i^j.toNat)):=O6 λ_ _ _ _ _ _ _ d q=>pow_int_small d.1 d.2.1 d.2.2 q
theorem unI{f:Value->Sem Value}{g:Int->Int}
  (rule:∀(i:Int)(t:Tok)(s:Shared)(Q:Value->Shared->Prop)(E:Value->Shared->Prop),Q (.int (g i) s.toks) {s with toks:=s.toks+1}->wpAny (model X.prog X.w) X.A (f (.int i t)) Q E s):
  UnR X f (rU λi=> .int (g i)):=by
 intro d s j H x v Q I e h;obtain⟨i,rfl,q⟩:=h;obtain⟨t,rfl⟩:=e;exact rule i t s _ _ ⟨.int (g i),H,I.tok _,⟨_,rfl⟩,q⟩
theorem Tr:UnR X (unaryOp .USub) (rU λi=> .int (-i)):=unI λ_ _ _ _ _ q=>neg_int q
end
section
variable {X:Cx} {a b c:Expr} {ta tb tc:TE} {pos:Pos}
theorem Kp(I:Inv X d f H s)(q:Q (.bl k) H)(e:k=g):EP X d f Q (.bool g) s:=by
 subst e;exact⟨.bl k,H,I,rfl,q⟩
theorem Xn:OpR X (compareOp .Lt) (Ak λi j=> .bl (decide (i<j))):=KD λ_ _ _ _ _ _ _ q=>lt_int q
theorem Xm:OpR X (compareOp .LtE) (Ak λi j=> .bl (decide (i<=j))):=KD λ_ _ _ _ _ _ _ q=>le_int q
theorem Xl:OpR X (compareOp .Gt) (Ak λi j=> .bl (decide (j<i))):=KD λ_ _ _ _ _ _ _ q=>gt_int q
theorem Xk:OpR X (compareOp .GtE) (Ak λi j=> .bl (decide (j<=i))):=KD λ_ _ _ _ _ _ _ q=>ge_int q
theorem Sa:OpR X (compareOp .Is) (λx y H Q=>y= .bu/\Q (.bl (decide (x= .bu))) H):=by
 intro d s g H x y v u Q I e f h;obtain⟨rfl,q⟩:=h;subst f;refine is_none_gen (Kp I q ?_)
 cases x<;>first
  | (cases e;rfl)
  | (obtain⟨t,rfl⟩:=e;rfl)
theorem Pa:OpR X (compareOp .IsNot) (λx y H Q=>y= .bu/\Q (.bl (!decide (x= .bu))) H):=by
 intro d s g H x y v u Q I e f h;obtain⟨rfl,q⟩:=h;subst f;refine isnot_none_gen (Kp I q ?_)
 cases x<;>first
  | (cases e;rfl)
  | (obtain⟨t,rfl⟩:=e;rfl)
theorem OpR.or(h:OpR X f r)(k:OpR X f e):OpR X f (λx y H Q=>r x y H Q\/e x y H Q):=by
 intro d s g H x y v u Q I i j q
 rcases q with q|q
 ·exact h d s g H x y v u Q I i j q
 ·exact k d s g H x y v u Q I i j q
theorem bq(b:Expr)(h:d≠ .In:=by decide)(e:d≠ .NotIn:=by decide):behindInMarks d b=false:=by
 have f:(d==CmpOp.In)=false:=by cases d<;>first|rfl|exact absurd rfl h
 have g:(d==CmpOp.NotIn)=false:=by cases d<;>first|rfl|exact absurd rfl e
 cases b<;>simp[behindInMarks,f,g]
theorem Pe(f:OpR X (compareOp e) r)(g:PE X a ta)(i:PE X b tb)(j:behindInMarks e b=false):PE X (.Compare a [e] [b] pos) (Qr r ta tb):=by
 intro d s k H Q I h;exact wpAny_Compare1 (MW g i I h λv u l x y m n o p q=>f d l k m x y v u Q n o p q) j
def JO(t:TE):TT:=λd H Q=>t d H λx e=>∃k,x= .bl k/\Q k e
theorem PB(i:OpR X (compareOp f) r)(j:PE X a ta)(l:PE X b tb)(m:behindInMarks f b=false):PT X (.Compare a [f] [b] pos) (JO (Qr r ta tb)):=by
 intro d s g H Q I h
 refine wpAny_isTrue_Compare1 (thn (j d s g H _ I h) λv n ⟨x,o,p,q,t⟩=>thn (l d n g o _ p t) λu w ⟨y,A,B,C,E⟩=>
  thn (i d w g A x y v u _ B q C E) λc M ⟨z,F,G,J,k,e,L⟩=>?_) m
 subst e;subst J;exact On ⟨F,G,L⟩
def D3(r f:R2)(g h tc:TE):TE:=λd H Q=>g d H λx i=>h d i λy j=>r x y j λz e=>∃k,z= .bl k/\
 (if k=true then tc d e λl m=>f y l m Q else Q (.bl false) e)
theorem L7(q:OpR X (compareOp i) r)(t:OpR X (compareOp j) l)(w:PE X a ta)(A:PE X b tb)(B:PE X c tc)
  (C:lastMarks [i,j] [b,c]=false:=by with_unfolding_all rfl):PE X (.Compare a [i,j] [b,c] pos) (D3 r l ta tb tc):=by
 intro f s g H Q I h
 refine Compare_chain (thn (w f s g H _ I h) λv E ⟨x,F,G,J,L⟩=>chain_link (thn (A f E g F _ G L) λu M ⟨y,N,O,m,R⟩=>
  thn (q f M g N x y v u _ O J m R) λd T ⟨z,n,o,U,k,e,p⟩=>?_)) C
 subst e;subst U;refine On ?_;cases k with
 |false=>exact ite_ff ⟨.bl false,n,o,rfl,p⟩
 |true=>exact ite_tt (chain_last (thn (B f T g n _ o p) λY Z ⟨z',H4,I4,r4,q4⟩=>t f Z g H4 y z' u Y Q I4 m r4 q4))
theorem Mi(q:OpR X (compareOp i) r)(t:OpR X (compareOp j) l)(w:PE X a ta)(A:PE X b tb)(B:PE X c tc)
  (C:lastMarks [i,j] [b,c]=false:=by with_unfolding_all rfl):PT X (.Compare a [i,j] [b,c] pos) (JO (D3 r l ta tb tc)):=by
 intro f s g H Q I h
 refine isTrue_chain (thn (w f s g H _ I h) λv E ⟨x,F,G,J,L⟩=>test_link (thn (A f E g F _ G L) λu M ⟨y,N,O,m,R⟩=>
  thn (q f M g N x y v u _ O J m R) λd T ⟨z,n,o,U,k,e,p⟩=>?_)) C
 subst e;subst U;refine On ?_;cases k with
 |false=>
  rfl';obtain⟨k',Z,q'⟩:=p;cases Z;ac_rfl;exact ite_ff ⟨n,o,q'⟩
 |true=>
  refine ite_tt (test_last (thn (B f T g n _ o p) λw' s4 ⟨z',H4,I4,r4,q4⟩=>thn (t f s4 g H4 y z' u w' _ I4 m r4 q4) λd' s5 ⟨z2,H5,I5,r5,k2,e2,q5⟩=>?_));subst e2;subst r5;exact On ⟨H5,I5,q5⟩
def TK(K:PySem.W.Frag)(x:V)(H:Hp)(k:Bool):Prop:=
 match x with
 | .bu=>k=false
 | .bl b=>k=b
 | .int i=>k=(i !=0)
 | .str y=>y.length<=sizeLine/\k=((y.length:Int) !=0)
 | .La y=>y.size<=sizeLine/\k=((y.size:Int) !=0)
 | .ref p=>(∃d,b0 K H p d/\k= !d.isEmpty)\/(∃d,fX K H p d/\k= !d.isEmpty)\/∃e,H p=some (.dK e)/\k= !e.isEmpty
 |_=>False
theorem FA(r:KV e f):(!f.isEmpty)= !e.isEmpty:=by
 cases r<;>rfl
theorem vK(r:Vals e d):(!d.toArray.isEmpty)= !e.isEmpty:=by
 cases r<;>simp
theorem mW:(sizeLine:Nat)<2^63:=by rw[aee];decide
theorem Tp:Yp X (λx H Q=>∃k,TK X.K x H k/\Q k H):=by
 intro pins s σ H x v Q I rx h;obtain⟨k,e,q⟩:=h;have hl:=mW;have hs:sizeLine=16777216:=sizeLine_eq;cases x with
 |bu=>
  cases rx;have e':k=false:=e;subst e';exact truthy_none ⟨H,I,q⟩
 |bl b=>
  cases rx;have e':k=b:=e;subst e';exact wpAny_truthy_bool ⟨H,I,q⟩
 |int i=>
  obtain⟨t,rfl⟩:=rx;have e':k=(i !=0):=e;subst e';exact PySem.P.truthy_int ⟨H,I,q⟩
 |str y=>
  obtain⟨t,rfl⟩:=rx;obtain⟨hy,e'⟩:y.length<=sizeLine/\k=((y.length:Int) !=0):=e;subst e';exact PySem.P.truthy_str (by omega) ⟨H,I.tok _,q⟩
 |La y=>
  obtain⟨t,rfl⟩:=rx;obtain⟨hy,e'⟩:y.size<=sizeLine/\k=((y.size:Int) !=0):=e;subst e';exact PySem.W.truthy_bytes (by omega) ⟨H,I.tok _,q⟩
 |ref p=>
  subst rx;have e':(∃xs,b0 X.K H p xs/\k= !xs.isEmpty)\/(∃xs,fX X.K H p xs/\k= !xs.isEmpty)\/∃fi,H p=some (.dK fi)/\k= !fi.isEmpty:=e
  rcases e' with ⟨xs,hx,e'⟩ | ⟨xs,hx,e'⟩ | ⟨fi,hx,e'⟩
  ·subst e'
   obtain⟨its,r,pl,hz⟩:=I.list hx;have hlen:=r.length;exact wpAny_truthy_list pl.isList (by simp only[di];omega) ⟨H,I.tok _,by rw[vK r];exact q⟩
  ·subst e'
   obtain⟨its,r,pl,hz⟩:=I.tuple hx;have hlen:=r.length;exact truthy_tuple pl (by simp only[di];omega) ⟨H,I.tok _,by rw[vK r];exact q⟩
  ·subst e'
   obtain⟨hz,hS,vs,r,m⟩:fi.length<=sizeLine/\(p==sysModules)=false/\∃vs,KV fi vs/\s.heap.DictOf (yM X.prog X.w) p vs:=I.hok p _ hx;have hlen:fi.length=vs.length:=Paired.length r;exact wpAny_truthy_dict hS m (by omega) ⟨H,I.tok _,by rw[FA r];exact q⟩
 |_=>exact(show False from e).elim
theorem Mj(i:PE X a ta)(j:∀d,isTrue a X.env d=(do let v <-d;standAt a.pos;holding [v] (truthy v))):
  PT X a (λf H Q=>ta f H λx g=>∃k,TK X.K x g k/\Q k g):=by
 intro e s f H Q I h;exact isTrue_plain (thn (i e s f H _ I h) λv l ⟨x,m,n,o,p⟩=>Tp e l f m x v Q n o p) (j _)
theorem vals1(r:Vals [x] d):∃u,d= [u]/\RelV x u:=by
 cases r with
 |cons e f=>cases f;exact⟨_,rfl,e⟩
theorem vals2(r:Vals [x,y] d):∃u e,d= [u,e]/\RelV x u/\RelV y e:=by
 cases r with
 |cons f g=>
  cases g with
  |cons h i=>cases i;exact⟨_,_,rfl,f,h⟩
theorem Hm(g:X.calm=true):CallR X (.builtin "max") (λe H Q=>∃i j,e= [.int i, .int j]/\Q (.int (if j>i then j else i)) H):=by
 intro f s m H e n Q I r h;rfl';obtain⟨i,j,rfl,q⟩:=h;obtain⟨u,p,rfl,⟨t,rfl⟩,⟨v,rfl⟩⟩:=vals2 r;ac_rfl;refine max_two_ints (I.ok.hd g) λw x k=>⟨_,H,I.kept k,?_,q⟩
 by_cases d:j>i
 ·rw[tz d,tz d];exact⟨_,rfl⟩
 ·rw[AC d,AC d];exact⟨_,rfl⟩
theorem Ho(g:X.calm=true):CallR X (.builtin "min") (λe H Q=>∃i j,e= [.int i, .int j]/\Q (.int (if j<i then j else i)) H):=by
 intro f s m H e n Q I r h;rfl';obtain⟨i,j,rfl,q⟩:=h;obtain⟨u,p,rfl,⟨t,rfl⟩,⟨v,rfl⟩⟩:=vals2 r;ac_rfl;refine min_two_ints (I.ok.hd g) λw x k=>⟨_,H,I.kept k,?_,q⟩
 by_cases d:j<i
 ·rw[tz d,tz d];exact⟨_,rfl⟩
 ·rw[AC d,AC d];exact⟨_,rfl⟩
end
structure xy (h:Heap) (x dx C:Addr) (mA:Str->Option Value):Prop where
 obj:h.get? x=some (PySem.W.instObj C dx)
 ns:h.Ns1 dx mA
 ne:dx≠x
theorem rB{h:Heap}{d:Addr}{f:Str->Option Value}(n:h.Ns1 d f):∃od,h.get? d=some od/\∀b,PySem.W.lookIn b od=some (f b):=by
 rfl';obtain⟨o,g,u,j,k,l,_,m⟩:=n;ac_rfl;refine⟨o,j,λb=>?_⟩;have e:=m b;unfold nsFind findBy at e;rw[<-Array.find?_toList] at e;unfold PySem.W.lookIn;rw[k];dsimp only
 split
 ·rename_i y q
  rw[q] at e;exact KB some e
 ·rename_i q
  rw[q] at e
  have a:g.toList.any (·.refKey)=false:=by
   rw[List.any_eq_false];intro y p;obtain⟨z,t,c⟩:=l y (Array.mem_toList_iff.mp p);simp[DictEntry.refKey,c]
  have r:¬g.toList.any (·.refKey)=true:=by rw[a];exact cQ
  rw[AC r];exact KB some e
theorem xy.look(I:xy h x c C d):∃b,PySem.W.InstAt h x (PySem.W.instObj C c) C (some b)/\∀a,PySem.W.lookIn a b=some (d a):=
 let ⟨b,e,f⟩:=rB I.ns
 ⟨b,⟨I.obj,rfl,rfl,e⟩,f⟩
section
variable {prog:Program} {w:World} {A:Around} {E:Value->Shared->Prop} {s:Shared} {K:PySem.W.Frag} {x dx C f:Addr} {mA:Str->Option Value} {name:Str} {v:Value}
theorem get_map(X:K.In s.heap)(I:xy s.heap x dx C mA)(b:PySem.W.plainGet K C name=true)(c:PySem.W.hasDictIn K C=true)
  (d:PySem.W.findIn K (.ref C) name=some none) (e:mA name=some v) (g:PySem.W.handedIn v=true) (h:Q v {s with toks:=s.toks+1}):
  wpAny (model prog w) A (getAttr (.ref x) name a) Q E s:=by
 obtain⟨j,J,i⟩:=I.look;exact PySem.W.get_value X J (afb b).1 (PySem.W.findObj_own c d rfl (by rw[i,e])) g h
theorem Lw(X:K.In s.heap)(I:xy s.heap x dx C mA)(a:PySem.W.plainGet K C name=true)
  (c:PySem.W.findIn K (.ref C) name=some (some (.ref f))) (d:PySem.W.isFn K (.ref f)=true) (e:mA name=none) (h:Q (.ref f,[.ref x]) s):
  wpAny (model prog w) A (getMethod (.ref x) name b) Q E s:=by
 obtain⟨g,J,i⟩:=I.look;exact PySem.W.method_fn X J (afb a).1 (afb a).2 c (ad9.mp d) (by show(PySem.W.lookIn name g).map (·.isSome)=some false;rw[i,e];rfl) h
theorem P2{e:List Str}(X:K.In s.heap)(I:xy s.heap x dx C mA)
  (j:PySem.W.findIn K (.ref C) "__setattr__"=some (some (.builtin "object.__setattr__"))) (k:PySem.W.plainOver K C=true) (l:PySem.W.takerIn K C name=some none) (m:PySem.W.hasDictIn K C=true)
  (hw:PySem.Within mA e) (F:e.length<=sizeLine)
  (h:∀c,xy c x dx C (λy=>if y=name then some v else mA y)->Heap.SameBut dx s.heap c->Q () {s with heap:=c,toks:=s.toks+2}):
  wpAny (model prog w) A (setAttr (.ref x) name v) Q E s:=by
 rfl';obtain⟨G,J,H⟩:=I.look;obtain⟨L,o,p⟩:=PySem.W.any_some m;ac_rfl;refine PySem.W.set_plain X J j (PySem.W.osa_open (s:={s with toks:=s.toks+1}) (r:=none) X J k l λb=>?_)
 have q:s.heap.get? x=some ⟨.ref C,some dx, .plain, #[]⟩:=I.obj;refine ir (mo (ir (ir (afc q (ir (PySem.W.Looks.here (s:={s with toks:=s.toks+1}) (PySem.W.looks_clsIn X o) ?_))))))
 rw[p];refine mo (a:=some dx) (ir (mo (ir ?_)));refine af8 (s:={s with toks:=s.toks+1}) I.ns λc g i=>?_
 rfl';obtain⟨M,t,u,z,bJ,B⟩:=g.count (PySem.Within.cons name v hw);ac_rfl;refine ir (afy z (by rw[bJ];exact afz (fK B (by rw[eX];omega))) ?_)
 exact mo (h _ ⟨(i.2 _ (Ne.symm I.ne)).trans I.obj,g,I.ne⟩ i)
theorem LR(X:K.In s.heap)(c:PySem.W.makesIn K C=true)
  (e:PySem.W.findIn K (.ref C) "__init__"=some (some (.ref f))) (i:PySem.W.typeIn K (.ref f)=some (.type "function"))
  (h:codeAny (model prog w) (A.under (.builtin "type.__call__" ⟨.ref C::a,b⟩)) (.call (.ref f) ⟨.ref (s.heap.objs.size+1)::a,b⟩) (PySem.W.InitBack (s.heap.objs.size+1) R)
   {s with heap:=(s.heap.push PySem.W.emptyDict).push (PySem.W.instObj C s.heap.objs.size)}):
  codeAny (model prog w) A (.call (.ref C) ⟨a,b⟩) R s:=by
 obtain⟨j,g,d,t,os⟩:=s;exact PySem.W.make_core (PySem.W.makes_of X c) (ae2 X e) (λself=>PySem.W.bind_fn X self i) (.inl rfl) h
end
def jy(f:Str)(v:V):List (Str×V)->List (Str×V)
 | []=> [(f,v)]
 | (g,x)::r=>if g=f then(g,v)::r else(g,x)::jy f v r
theorem mX(f g:Str)(v:V):∀fs:List (Str×V),(jy f v fs).lookup g=if g=f then some v else fs.lookup g
 | []=>by
  show List.lookup g [(f,v)]=_
  by_cases h:g=f
  ·have a:(g==f)=true:=ad9.mpr h
   simp only[List.lookup,a,tz h]
  ·have a:(g==f)=false:=W1.mpr h
   simp only[List.lookup,a,AC h]
 | (k,x)::r=>by
  have c:=mX f g v r;rw[show jy f v ((k,x)::r)=(if k=f then(k,v)::r else(k,x)::jy f v r) from rfl]
  by_cases b:k=f
  ·rw[tz b]
   by_cases h:g=k
   ·have a:(g==k)=true:=ad9.mpr h
    simp only[List.lookup,a,tz (h.trans b)]
   ·have a:(g==k)=false:=W1.mpr h
    simp only[List.lookup,a,AC (λe:g=f=>h (e.trans b.symm))]
  ·rw[AC b]
   by_cases h:g=k
   ·have a:(g==k)=true:=ad9.mpr h
    simp only[List.lookup,a,AC (λe:g=f=>b (h.symm.trans e))]
   ·have a:(g==k)=false:=W1.mpr h
    simp only[List.lookup,a];exact c
theorem kj(f:Str)(v:V):∀fs:List (Str×V),f∈(jy f v fs).map (·.1)/\∀g,g∈fs.map (·.1)->g∈(jy f v fs).map (·.1)
 | []=>⟨by simp[jy],λg h=>by simp at h⟩
 | (k,x)::r=>by
  obtain⟨b,c⟩:=kj f v r;rw[show jy f v ((k,x)::r)=(if k=f then(k,v)::r else(k,x)::jy f v r) from rfl]
  by_cases a:k=f
  ·rw[tz a]
   subst a;exact⟨by simp,λg h=>h⟩
  ·rw[AC a]
   refine⟨?_,λg h=>?_⟩
   ·rw[dF]
    exact bU _ b
   ·rw[dF] at h ⊢
    rcases bT.mp h with e|e
    ·exact bT.mpr (.inl e)
    ·exact bU _ (c g e)
theorem mT(f:Str)(v:V):∀fs:List (Str×V),(jy f v fs).length<=fs.length+1
 | []=>by simp[jy]
 | (k,x)::r=>by
  have b:=mT f v r;rw[show jy f v ((k,x)::r)=(if k=f then(k,v)::r else(k,x)::jy f v r) from rfl]
  by_cases a:k=f
  ·rw[tz a,eX,eX];omega
  ·rw[AC a,eX,eX];omega
theorem kM.some_of{v:V}{o:Option Value}(r:kM (some v) o):∃u,o=some u/\RelV v u:=by
 cases o with
 |none=>exact(show False from r).elim
 |some u=>exact⟨u,rfl,r⟩
theorem kM.none_of(r:kM none o):o=none:=by
 cases o with
 |none=>rfl
 |some u=>exact(show False from r).elim
theorem yq{v:V}{u:Value}(r:RelV v u):PySem.W.handedIn u=true:=by
 cases v with
 |bu=>cases(show u=Value.none from r);rfl
 |bl b=>cases(show u=Value.bool b from r);rfl
 |int i=>obtain⟨t,e⟩:=(show ∃t,u=Value.int i t from r);cases e;rfl
 |str x=>obtain⟨t,e⟩:=(show ∃t,u=Value.str x t from r);cases e;rfl
 |La b=>obtain⟨t,e⟩:=(show ∃t,u=Value.bytes b t from r);cases e;rfl
 |HJ b=>obtain⟨t,e⟩:=(show ∃t,u=Value.float b t from r);cases e;rfl
 |ref a=>cases(show u=Value.ref a from r);rfl
 |ty n=>cases(show u=Value.type n from r);rfl
section
variable {P:Program} {w:World} {H H':Hp} {h h':Heap} {a C dx:Addr} {fs fs':List (Str×V)}
theorem sW(hok:gK P w H h)(e:H a=some (.ins C dx fs)):∃b,xy h a dx C b/\(∀f,kM (fs.lookup f) (b f))/\PySem.Within b (fs.map (·.1))/\fs.length<=1000/\H dx=some (.own a):=by
 obtain⟨d,z,ne,c,b,n,r,q⟩:=(show cc P w H h a (.ins C dx fs) from hok a _ e);exact⟨b,⟨c,n,ne⟩,r,q,z,d⟩
end
structure xk (K:PySem.W.Frag) (C:Addr):Prop where
 pg:PySem.W.plainGet K C Str.empty=true
 hd:PySem.W.hasDictIn K C=true
 po:PySem.W.plainOver K C=true
 sa:PySem.W.findIn K (.ref C) "__setattr__"=some (some (.builtin "object.__setattr__"))
theorem xk.get{K:PySem.W.Frag}{C:Addr}(c:xk K C)(f:Str):PySem.W.plainGet K C f=true:=c.pg
def fW(K:PySem.W.Frag)(C:Addr)(f:Str):Prop:=PySem.W.findIn K (.ref C) f=some none
theorem fW.JP{K:PySem.W.Frag}{C:Addr}{f:Str}(n:fW K C f):PySem.W.takerIn K C f=some none:=by
 unfold PySem.W.takerIn;rw[show PySem.W.findIn K (.ref C) f=some none from n];rfl
structure Meth (K:PySem.W.Frag) (C:Addr) (m:Str) (f:Addr):Prop where
 at_:PySem.W.findIn K (.ref C) m=some (some (.ref f))
 fn:PySem.W.isFn K (.ref f)=true
 kp:PySem.W.keepIn K (.ref f)=true
section
variable {X:Cx} {pins:List (Addr×Obj)} {σ:St} {H:Hp} {s:Shared} {a C dx:Addr} {fs:List (Str×V)} {f:Str} {v:V} {A:Around} {E:Value->Shared->Prop}
theorem Fg(I:Inv X pins σ H s)(e:H a=some (.ins C dx fs))(c:xk X.K C)(n:fW X.K C f)(l:fs.lookup f=some v)
  (h:∀u d,Inv X pins σ H d->RelV v u->Q u d):wpAny (model X.prog X.w) A (getAttr (.ref a) f b) Q E s:=by
 obtain⟨i,O,r,_,_,_⟩:=sW I.hok e;obtain⟨u,j,g⟩:=kM.some_of (v:=v) (o:=i f) (by rw[<-l];exact r f)
 exact get_map I.cW O (c.get f) c.hd n j (yq g) (h u _ (I.tok _) g)
theorem vE{pl:Sem Bool}(I:Inv X pins σ H s)(e:H a=some (.ins C dx fs))(c:xk X.K C)(k:Meth X.K C m g)(l:fs.lookup m=none)
  (h:Q (.ref g,[.ref a]) s):wpAny (model X.prog X.w) A (getMethod (.ref a) m pl) Q E s:=by
 obtain⟨b,O,r,_,_,_⟩:=sW I.hok e;have d:b m=none:=kM.none_of (by rw[<-l];exact r m)
 exact Lw I.cW O (c.get m) k.at_ k.fn d h
theorem Gq(I:Inv X pins σ H s)(e:H a=some (.ins C dx fs))(c:xk X.K C)(n:fW X.K C f)(N:fs.length<1000)(m:RelV y u)
  (h:∀i,Inv X pins σ (upd H a (.ins C dx (jy f y fs))) i->Q () i):wpAny (model X.prog X.w) A (setAttr (.ref a) f u) Q E s:=by
 rfl';obtain⟨j,O,r,k,_,l⟩:=sW I.hok e;have t:(fs.map (·.1)).length<=sizeLine:=by rw[aP,aee];omega
 ac_rfl;refine P2 I.cW O c.sa c.po n.JP c.hd k t λB d F=>h _ ?_;have G:∃o,B.get? dx=some o:=let ⟨o,_,_,J,_⟩:=d.ns;⟨o,J⟩;refine I.write (x:=a) (e:=dx) (by rw[e];exact True.intro) (.inr l) (λb q L z=>(F.2 b L).trans z) G ?_
 refine⟨by rw[ax O.ne];exact l,?_,O.ne,d.obj,_,d.ns,λg=>?_,λg M=>?_⟩
 ·have:=mT f y fs;omega
 ·show kM ((jy f y fs).lookup g) (if g=f then some u else j g)
  rw[mX]
  by_cases q:g=f
  ·rw[tz q,tz q];exact m
  ·rw[AC q,AC q];exact r g
 ·by_cases q:g=f
  ·rw[q];exact(kj f y fs).1
  ·refine(kj f y fs).2 g (k g λz=>M ?_)
   show(if g=f then some u else j g)=none;rw[AC q];exact z
theorem Inv.made(I:Inv X pins σ H s):Inv X pins σ (upd (upd H s.heap.objs.size (.own (s.heap.objs.size+1))) (s.heap.objs.size+1) (.ins C s.heap.objs.size []))
  {s with heap:=(s.heap.push PySem.W.emptyDict).push (PySem.W.instObj C s.heap.objs.size)}:=by
 have c:(s.heap.push PySem.W.emptyDict).get? s.heap.objs.size=some PySem.W.emptyDict:=FS s.heap rfl
 have d:((s.heap.push PySem.W.emptyDict).push (PySem.W.instObj C s.heap.objs.size)).get? (s.heap.objs.size+1)=some (PySem.W.instObj C s.heap.objs.size):=by
  have:=FS (s.heap.push PySem.W.emptyDict) (o:=PySem.W.instObj C s.heap.objs.size) rfl
  rwa [aev] at this
 have g:(s.heap.push PySem.W.emptyDict).Ns s.heap.objs.size (λ_=>none):=⟨PySem.W.emptyDict, #[],_,c,rfl,(λe h=>absurd h (by simp)),λ_=>rfl⟩
 have i:=I.laid (a:=s.heap.objs.size) (o:= .own (s.heap.objs.size+1)) (h':=s.heap.push PySem.W.emptyDict) (t':=s.toks) (λb u q=>Da _ q) (bK _) ⟨_,c⟩;refine i.laid (a:=s.heap.objs.size+1) (o:= .ins C s.heap.objs.size []) (t':=s.toks) (λb u q=>Da _ q) (Nat.le_of_eq (aev _ _)) ?_;have ne:s.heap.objs.size≠s.heap.objs.size+1:=cp (aeM _);refine⟨by rw[ax ne,av],eN _,ne,d,λ_=>none,(Heap.Ns1.of_empty g).at λo q=>Da _ q,λ_=>True.intro,λy j=>absurd rfl j⟩
theorem Ez{f:Str}{s:Shared}(d:attributeBase e f env (eval e env)=eval e env)
  (h:wpAny (model prog w) A (eval e env) (λo b=>wpAny (model prog w) A (getAttr o f true) Q E b) E s):wpAny (model prog w) A (eval (.Attribute e f c) env) Q E s:=
 Attribute_any_ h (by rw[arm_eval_Attribute,d])
end
def adA(K:PySem.W.Frag)(c:TE)(f:Str):TE:=λd H Q=>c d H λx b=>∃a C e fs v,x= .ref a/\b a=some (.ins C e fs)/\xk K C/\fW K C f/\fs.lookup f=some v/\Q v b
def acY(K:PySem.W.Frag)(e g:TE)(f:Str):TS:=λD b H=>g b H λy h=>e b h λx c=>∃a C d fs,x= .ref a/\c a=some (.ins C d fs)/\xk K C/\fW K C f/\fs.length<1000/\
 D.nx b (upd c a (.ins C d (jy f y fs)))
section
variable {X:Cx} {o e value:Expr} {f:Str} {pos pos' Qw:Pos} {ta tv:TE}
theorem Sl(d:PE X e ta)(g:attributeBase e f X.env (eval e X.env)=eval e X.env):PE X (.Attribute e f pos) (adA X.K ta f):=by
 intro b s i H Q I h;refine Ez g (thn (d b s i H _ I h) λu A j=>?_);rfl';obtain⟨x,m,p,r,a,C,E,fs,v,t,w,c,n,l,q⟩:=j;ac_rfl;subst t;obtain rfl:u=Value.ref a:=r;exact Fg p w c n l λF G y z=>⟨v,m,y,z,q⟩
theorem Sy(g:PE X o ta)(i:PE X value tv)(j:swapsWith value (some (.Attribute o f pos')) pos.line X.env=pure false):PS X (.Assign [.Attribute o f pos'] value pos) (acY X.K ta tv f):=by
 intro b s d H D I h;refine aeY (thn (i b s d H _ I h) λu k ⟨y,m,p,r,q⟩=>thn (g b k d m _ p q) λt F ⟨x,G,v,w,a,C,J,fs,z,A,c,n,l,B⟩=>?_) j;subst z;obtain rfl:t=Value.ref a:=w;exact Gq v A c n l r λL E=>⟨d,_,E,B⟩
end
section
variable {X:Cx} {pins:List (Addr×Obj)} {σ:St} {H:Hp} {s:Shared} {A:Around} {E:Value->Shared->Prop} {Q:Value->Shared->Prop} {c:Value} {b:Bool}
inductive kN (K:PySem.W.Frag) (H:Hp):V->Value->Prop where
 |bu:kN K H .bu (.type "NoneType")
 |bl (x:Bool):kN K H (.bl x) (.type "bool")
 |int (i:Int):kN K H (.int i) (.type "int")
 |str (x:Str):kN K H (.str x) (.type "str")
 |HJ (x:UInt64):kN K H (.HJ x) (.type "float")
 |lst {a:Addr} {xs:List V} (e:H a=some (.lst xs)):kN K H (.ref a) (.type "list")
 |qs {a:Addr} {o:Obj} {xs:List V} (e:H a=some (.qs o (.lst xs))):kN K H (.ref a) (.type "list")
 |tup {a:Addr} {xs:List V} (e:H a=some (.tup xs)):kN K H (.ref a) (.type "tuple")
 |dK {a:Addr} {fi:List (Key×V)} (e:H a=some (.dK fi)):kN K H (.ref a) (.type "dict")
 |dT {a:Addr} {fi:List (List Key×V)} (e:H a=some (.dT fi)):kN K H (.ref a) (.type "dict")
 |ins {a C dx:Addr} {fs:List (Str×V)} (e:H a=some (.ins C dx fs)) (cl:xk K C) (ha:PySem.W.findIn K (.ref C) "__class__"=some (some (.builtin "object.__class__")))
   (hn:PySem.W.specialIn K (.builtin "object.__class__") "__get__"=some (some (.builtin "getset_descriptor.__get__"))) (htk:PySem.W.takesIn K (.builtin "object.__class__")=some true)
   (hm:PySem.W.mroIn K C (.type "object")=some true):kN K H (.ref a) (.ref C)
theorem Ir{x:V}{u t:Value}(I:Inv X pins σ H s)(rx:RelV x u)(ty:kN X.K H x t)(e:PySem.W.kitOne X.K t c=some b)(h:∀tk,Q (.bool b) {s with toks:=tk}):
  wpAny (model X.prog X.w) A (call (.builtin "isinstance") [u,c]) Q E s:=by
 cases ty with
 |bu=>cases(show u=Value.none from rx);exact PySem.W.kia_one PySem.W.kitx_none I.cW True.intro e (λz=>nomatch z) h
 |bl y=>cases(show u=Value.bool y from rx);exact PySem.W.kia_one PySem.W.kitx_bool I.cW True.intro e (λz=>nomatch z) h
 |int i=>obtain⟨t,q⟩:=(show ∃t,u=Value.int i t from rx);cases q;exact PySem.W.kia_one PySem.W.kitx_int I.cW True.intro e (λz=>nomatch z) h
 |str y=>obtain⟨t,q⟩:=(show ∃t,u=Value.str y t from rx);cases q;exact PySem.W.kia_one PySem.W.kitx_str I.cW True.intro e (λz=>nomatch z) h
 |HJ y=>obtain⟨t,q⟩:=(show ∃t,u=Value.float y t from rx);cases q;exact PySem.W.kia_one PySem.W.kitx_float I.cW True.intro e (λz=>nomatch z) h
 | @lst a xs ea=>
  cases(show u=Value.ref a from rx);obtain⟨_,_,n,_,h1⟩:=(show cc X.prog X.w H s.heap a (.lst xs) from I.hok a _ ea);exact PySem.W.kia_one PySem.W.kitx_list I.cW ⟨_,h1,rfl⟩ e (λz=>nomatch z) h
 | @qs a ob xs ea=>
  cases(show u=Value.ref a from rx);obtain⟨_,_,_,n,_,h1⟩:=(show cc X.prog X.w H s.heap a (.qs ob (.lst xs)) from I.hok a _ ea);exact PySem.W.kia_one PySem.W.kitx_list I.cW ⟨_,h1,rfl⟩ e (λz=>nomatch z) h
 | @tup a xs ea=>
  cases(show u=Value.ref a from rx);obtain⟨_,_,_,p⟩:=(show cc X.prog X.w H s.heap a (.tup xs) from I.hok a _ ea);obtain⟨o,h1,h2,_⟩:=p;exact PySem.W.kia_one PySem.W.kitx_tuple I.cW ⟨o,h1,h2⟩ e (λz=>nomatch z) h
 | @dK a fi ea=>
  cases(show u=Value.ref a from rx);obtain⟨_,_,vs,_,p⟩:=(show cc X.prog X.w H s.heap a (.dK fi) from I.hok a _ ea);obtain⟨o,es,ep,h1,h2,_⟩:=p;exact PySem.W.kia_one PySem.W.kitx_dict I.cW ⟨o,h1,h2.1⟩ e (λz=>nomatch z) h
 | @dT a fi ea=>
  cases(show u=Value.ref a from rx);obtain⟨_,_,xs,_,o,es,ep,h1,h2,_⟩:=(show cc X.prog X.w H s.heap a (.dT fi) from I.hok a _ ea);exact PySem.W.kia_one PySem.W.kitx_dict I.cW ⟨o,h1,h2.1⟩ e (λz=>nomatch z) h
 | @ins a C dx fs ea cl ha hn htk hm=>
  rfl';cases(show u=Value.ref a from rx);obtain⟨mA,O,_⟩:=sW I.hok ea;obtain⟨od,J,_⟩:=O.look;ac_rfl;exact PySem.W.kia_one (PySem.W.kitx_own (cl.get _) cl.hd ha hn htk hm) I.cW J e (λz=>nomatch z) h
end
structure bW (k:Nat) (A:Around):Prop where
 hd:A.handled=none
 dp:A.depth+3*k+5<recursionLimit
 un:A.units+16*k+200<cLine
theorem bW.mono(r:bW k A)(h:j<=k):bW j A:=⟨r.hd,by have:=r.dp;omega,by have:=r.un;omega⟩
theorem bW.deeper(r:bW (k+1) A)(env:Env):bW k (A.deeper env):=
 ⟨r.hd,by have:=r.dp;show A.depth+1+3*k+5<_;omega,by have:=r.un;show A.units+3+16*k+200<_;omega⟩
theorem FO{A:Around}{C:Addr}{a:List Value}{b:List (Str×Value)}:(A.under (.builtin "type.__call__" ⟨.ref C::a,b⟩)).depth=A.depth+1:=by
 first|rfl|simp[Around.under,Code.weight,Code.isCreation,Code.isGuard,Code.isCaller,Code.frames,Code.isFrame,guardIds]
theorem FP{A:Around}{C:Addr}{a:List Value}{b:List (Str×Value)}:(A.under (.builtin "type.__call__" ⟨.ref C::a,b⟩)).units=A.units+1:=by
 first|rfl|simp[Around.under,Code.cUnits,Code.frames,Code.isFrame]
theorem bW.make(r:bW (k+1) A)(C:Addr)(a:List Value)(b:List (Str×Value)):bW k (A.under (.builtin "type.__call__" ⟨.ref C::a,b⟩)):=
 ⟨r.hd,by have:=r.dp;rw[FO];omega,by have:=r.un;rw[FP];omega⟩
theorem bW.depth{k:Nat}(r:bW k A):A.depth<recursionLimit:=by have:=r.dp;omega
theorem bW.units{k:Nat}(r:bW k A):A.units+64<cLine:=by have:=r.un;omega
def UU:TA:=λ_ H Q=>Q [] H
def XU(b:TE)(tr:TA):TA:=λa H Q=>b a H λx c=>tr a c λd e=>Q (x::d) e
section
variable {X:Cx} {e:Expr} {es:List Expr} {te:TE} {t:TA} {pos:Pos}
theorem df:PA X [] UU:=λ_ _ _ _ H Q I h=>Calls.spliced_nil ⟨[],H,I, .nil,h⟩
theorem bM(d:PE X e te)(f:PA X es t)(g:starEach (e::es) X.env=(false,eval e X.env)::starEach es X.env:=by rfl):PA X (e::es) (XU te t):=by
 intro b a s c H Q I h;rw[g];show wpAny _ _ (spliced ((false,eval e X.env)::backTo b (starEach es X.env))) _ _ s;refine Calls.spliced_cons (thn (d a s c H _ I h) λu i j=>?_);rfl';obtain⟨x,l,m,n,o⟩:=j;ac_rfl;exact thn (f b a i c l _ m o) λz A ⟨p,q,r,v,w⟩=>⟨x::p,q,r, .cons n v,w⟩
def adK(t:TA):TE:=λc H Q=>t c H λa b=>a.length<=sizeLine/\∀p,b p=none->Q (.ref p) (upd b p (.tup a))
def adD(t:TA):TE:=λc H Q=>t c H λa b=>a.length<=sizeLine/\∀p,b p=none->Q (.ref p) (upd b p (.lst a))
theorem KH{x1}(h:PA X es t):PE X (.Tuple es x1 pos) (adK t):=by
 intro a s g H Q I i;refine wpAny_Tuple_spliced (thn (h pos a s g H _ I i) λj c ⟨k,d,f,r,z,q⟩=>⟨r.length▸z,?_⟩);have l:d c.heap.objs.size=none:=f.hok.fresh (bK _);refine⟨.ref c.heap.objs.size,upd d c.heap.objs.size (.tup k),f.laid (t':=c.toks) (λb u e=>Da _ e) (bK _) ?_,rfl,q _ l⟩;exact⟨z,j,r,⟨_,FS _ rfl,rfl,_,rfl⟩⟩
theorem w6(h:PA X es t):PE X (.List es pos) (adD t):=by
 intro a s g H Q I i;refine wpAny_List_spliced (thn (h pos a s g H _ I i) λj c ⟨k,d,f,r,z,q⟩=>⟨r.length▸z,?_⟩);have l:d c.heap.objs.size=none:=f.hok.fresh (bK _);refine⟨.ref c.heap.objs.size,upd d c.heap.objs.size (.lst k),f.laid (t':=c.toks) (λb u e=>Da _ e) (bK _) ?_,rfl,q _ l⟩;exact⟨z,j,0,r,FS _ rfl⟩
end
abbrev Sp:=List V->Hp->VK->XK->Prop
abbrev n5:=List Env->Hp->Shared->XK->Value->Shared->Prop
structure Env0 (P:Program) (w:World) (K:PySem.W.Frag) (mg:Str->Option Value) (base:Heap) (A:Around) (outer:List Env) (s:Shared) (H:Hp):Prop where
 frames:A.frames=some outer
 mod:Mod K mg base
 bs:∀b o,base.get? b=some o->s.heap.get? b=some o/\H b=none
 bsz:base.objs.size<=s.heap.objs.size
 funs:s.heap.FunFrames base outer
 frf:∀b∈sM outer,H b=none
 hok:gK P w H s.heap
 bare:AllBare s.gens
def CE(outer:List Env)(P:Program)(w:World)(H:Hp)(s:Shared)(Q:VK)(u:Value)(a:Shared):Prop:=
 ∃v b,a.os=s.os/\AllBare a.gens/\Un (sM outer) [] H b s.heap a.heap/\gK P w b a.heap/\RelV v u/\Q v b
def CR(b:n5)(outer:List Env)(P:Program)(w:World)(H:Hp)(s:Shared)(Q:VK)(E:XK)(r:Result)(a:Shared):Prop:=
 match r with
 | .ok (.ret u)=>CE outer P w H s Q u a
 | .ok _=>False
 | .error e=>b outer H s E e a
structure FnOk (P:Program) (w:World) (K:PySem.W.Frag) (mg:Str->Option Value) (base:Heap) (CX:n5) (k:Nat) (f:Addr) (fd:FuncData) (ps:List Str) (sp:Sp):Prop where
 len:∀vs H Q E,sp vs H Q E->vs.length=ps.length
 run:∀(A:Around)(outer:List Env)(s:Shared)(H:Hp)(args:Args)(us:List Value)(vs:List V)(Q:VK)(E:XK),bW k A->Env0 P w K mg base A outer s H->BindsTo s fd args (ps.zip us)->Vals vs us->sp vs H Q E->
  codeAny (model P w) A (.call (.ref f) args) (CR CX outer P w H s Q E) s
theorem FnOk.mono{P:Program}{w:World}{K:PySem.W.Frag}{b:Str->Option Value}{base:Heap}{d:FuncData}(F:FnOk P w K b base c j f d e g)(h:j<=k):
  FnOk P w K b base c k f d e g:=⟨F.len,λA outer s H a i l Q E m=>F.run A outer s H a i l Q E (m.mono h)⟩
theorem FnOk.imp{P:Program}{w:World}{K:PySem.W.Frag}{c:Str->Option Value}{base:Heap}{d:n5}{k:Nat}{f:Addr}{e:FuncData}{g:List Str}{i j:Sp}(F:FnOk P w K c base d k f e g i)
  (h:∀a H Q E,j a H Q E->i a H Q E):FnOk P w K c base d k f e g j:=
 ⟨λa H Q E q=>F.len a H Q E (h _ _ _ _ q),λA outer s H b l a Q E m n o p r=>F.run A outer s H b l a Q E m n o p (h _ _ _ _ r)⟩
theorem Env0.make{P:Program}{w:World}{K:PySem.W.Frag}{a:Str->Option Value}{base:Heap}{A:Around}{outer:List Env}{s:Shared}{H:Hp}(e:Env0 P w K a base A outer s H)(C:Addr)(b:List Value)(c:List (Str×Value)):
  Env0 P w K a base (A.under (.builtin "type.__call__" ⟨.ref C::b,c⟩)) outer s H:=⟨by first|exact e.frames| (simpa [Around.under,Code.envs,Code.isFrame,pushEnvs] using e.frames),e.mod,e.bs,e.bsz,e.funs,e.frf,e.hok,e.bare⟩
section
variable {X:Cx} {pins:List (Addr×Obj)} {σ:St} {H:Hp} {s s':Shared}
theorem Inv.E4(I:Inv X pins σ H s):Env0 X.prog X.w X.K X.mg X.base X.A X.stack s H:=
 ⟨I.ok.frames,I.ok.mod,I.bs,fK I.ok.bsz I.sz,I.stack,I.zp,I.hok,I.bare⟩
theorem Inv.after(I:Inv X pins σ H s)(h:CE X.stack X.prog X.w H s Q u s'):EP X pins σ Q u s':=by
 obtain⟨v,c,os,bare,un,hok,r,q⟩:=h;obtain⟨e,g,d,t,a⟩:=s';obtain rfl:a=s.os:=os;exact⟨v,c,I.call (h':=e) (g':=g) (d':=d) (t':=t) (ch:= []) un hok bare (λb z=>absurd z (by simp)),r,q⟩
end
def XT(a:Sp)(b:List V)(E:XK)(t:TA):TE:=λc H Q=>t c H λd e=>a (d++b) e Q E
def JN(C:Addr)(m:Str)(d:Sp)(e:List V)(E:XK)(f:TE)(t:TA):TE:=λb H Q=>f b H λx c=>∃a g fs,x= .ref a/\c a=some (.ins C g fs)/\fs.lookup m=none/\
 t b c λh i=>d (x::(h++e)) i Q E
def XY(C:Addr)(c:Sp)(d:List V)(E:XK)(t:TA):TE:=λe H Q=>t e H λf b=>∀x a,b x=none->b a=none->a≠x->
 c (.ref x::(f++d)) (upd (upd b a (.own x)) x (.ins C a [])) (λv g=>v= .bu/\Q (.ref x) g) E
def Binds(K:PySem.W.Frag)(d:FuncData)(b:List Str)(c:List Value):Prop:=
 ∀(s:Shared)(a:List Value),K.In s.heap->(a++c).length=b.length->BindsTo s d ⟨a,[]⟩ (b.zip (a++c))
theorem Binds.all{K:PySem.W.Frag}{c:FuncData}{b:List Str}(h:∀a:List Value,a.length=b.length->bindArgs c ⟨a,[]⟩=pure (b.zip a)):Binds K c b []:=λs a _ d=>by
 rw[fJ] at d ⊢;exact .of_eq (h a d)
def Passes(c:n5)(X:Cx)(E:XK):Prop:=∀(a:List (Addr×Obj))(d:St)(H:Hp)(s:Shared)(e:Value)(b:Shared),Inv X a d H s->c X.stack H s E e b->X.xe e b
section
variable {X:Cx} {CX:n5} {k:Nat} {f C:Addr} {fd:FuncData} {ps:List Str} {sp:Sp} {bB:List V} {ds:List Value} {E:XK} {x m:Str} {p pos apos:Pos} {e o:Expr} {es:List Expr} {ta:TE} {t:TA}
theorem DP{pins:List (Addr×Obj)}{σ:St}{H:Hp}{s:Shared}{Q:VK}{us:List Value}{vs:List V}(F:FnOk X.prog X.w X.K X.mg X.base CX k f fd ps sp)(hr:bW k X.A)(hb:Binds X.K fd ps ds)(hd:Vals bB ds)(hx:Passes CX X E)
  (I:Inv X pins σ H s) (r:Vals vs us) (h:sp (vs++bB) H Q E):wpAny (model X.prog X.w) X.A (call (.ref f) us) (EP X pins σ Q) X.xe s:=by
 have r2:Vals (vs++bB) (us++ds):=r.append hd;have hl:(us++ds).length=ps.length:=by rw[<-r2.length];exact F.len _ _ _ _ h
 refine wpAny_call (codeAny_mono (F.run X.A X.stack s H ⟨us,[]⟩ (us++ds) (vs++bB) Q E hr I.E4 (hb s us I.cW hl) r2 h) λr s' hq=>?_);cases r with
 |error e=>exact hx pins σ H s e s' I hq
 |ok fl=>
  cases fl with
  |ret u=>exact I.after hq
  |next=>exact False.elim hq
  |brk=>exact False.elim hq
  |cont=>exact False.elim hq
theorem F9(F:FnOk X.prog X.w X.K X.mg X.base CX k f fd ps sp)(c:bW k X.A)(d:Gl X x)(g:X.mg x=some (.ref f))(i:PySem.W.keepIn X.K (.ref f)=true)(j:Binds X.K fd ps ds)(l:Vals bB ds)(n:Passes CX X E)
  (u:PA X (e::es) t) (v:(x==("__debug__":Str))=false:=by decide) (y:starEach (e::es) X.env=(false,eval e X.env)::starEach es X.env:=by rfl) (z:(backTo pos (starEach es X.env)).any (·.1)=false:=by rfl):
  PE X (.Call (.Name x p) (e::es) [] pos) (XT sp bB E t):=by
 intro a s B H Q I h;refine P3 (iF I d g ?_ v);refine aea (h₀:=X.base) I.ok.mod.kin i (thn (u pos a s B H _ I h) λG J ⟨L,M,b,r,q⟩=>⟨b.cW,?_⟩) y z;exact DP F c j l n b r q
theorem Pk{pl:Sem Bool}(v:PE X o ta)(c:xk X.K C)(d:Meth X.K C m f)(F:FnOk X.prog X.w X.K X.mg X.base CX k f fd ps sp)(y:bW k X.A)(z:Binds X.K fd ps ds)(B:Vals bB ds)(G:Passes CX X E)(J:PA X (e::es) t)
  (L:starEach (e::es) X.env=(false,eval e X.env)::starEach es X.env:=by rfl) (M:(backTo pos (starEach es X.env)).any (·.1)=false:=by rfl)
  (N:eval (.Call (.Attribute o m apos) (e::es) [] pos) X.env=(do
   let g <-eval o X.env
   standAt apos.atName
   let (f,first) <-holding [g] (getMethod g m pl)
   callWith pos f first (backTo pos (starEach (e::es) X.env)) (backToKw pos (keywordEach [] X.env))):=by rfl):
  PE X (.Call (.Attribute o m apos) (e::es) [] pos) (JN C m sp bB E ta t):=by
 intro b s i H Q I h;refine aeT (pl:=pl) (thn (v b s i H _ I h) λu O ⟨x,R,j,T,a,p,fs,U,Y,l,q⟩=>?_) N;subst U;obtain rfl:u=Value.ref a:=T;refine vE j Y c d l ?_;refine aea (first:= [.ref a]) (h₀:=X.base) I.ok.mod.kin d.kp (thn (J pos b O i R _ j q) λus s2 ⟨vs,H2,n,r,Z⟩=>⟨n.cW,?_⟩) L M;exact DP (us:= .ref a::us) (vs:= .ref a::vs) F y z B G n (.cons rfl r) Z
theorem L8{pl:Sem Bool}(j:PE X o ta)(c:xk X.K C)(g:Meth X.K C m f)(F:FnOk X.prog X.w X.K X.mg X.base CX k f fd ps sp)(n:bW k X.A)(r:Binds X.K fd ps ds)(v:Vals bB ds)(y:Passes CX X E)
  (z:eval (.Call (.Attribute o m apos) [] [] pos) X.env=(do
   let i <-eval o X.env
   standAt apos.atName
   let (f,first) <-holding [i] (getMethod i m pl)
   callWith pos f first (backTo pos (starEach [] X.env)) (backToKw pos (keywordEach [] X.env))):=by rfl):
  PE X (.Call (.Attribute o m apos) [] [] pos) (JN C m sp bB E ta UU):=by
 intro b s B H Q I h;refine aeT (pl:=pl) (thn (j b s B H _ I h) λu M ⟨x,N,d,G,a,O,fs,J,L,l,q⟩=>?_) z;subst J;obtain rfl:u=Value.ref a:=G;refine vE d L c g l ?_;exact PySem.W.callWith_K0 (first:= [.ref a]) d.cW g.kp (DP (us:= [.ref a]) (vs:= [.ref a]) F n r v y d (.cons rfl .nil) q)
structure Mk (K:PySem.W.Frag) (C f:Addr):Prop where
 makes:PySem.W.makesIn K C=true
 init:PySem.W.findIn K (.ref C) "__init__"=some (some (.ref f))
 fn:PySem.W.isFn K (.ref f)=true
 kp:PySem.W.keepIn K (.ref C)=true
theorem Mp{pins:List (Addr×Obj)}{σ:St}{H:Hp}{s:Shared}{Q:VK}{us:List Value}{vs:List V}(M:Mk X.K C f)(F:FnOk X.prog X.w X.K X.mg X.base CX k f fd ps sp)(hr:bW (k+1) X.A)(hb:Binds X.K fd ps ds)(hd:Vals bB ds)
  (hx:Passes CX X E) (I:Inv X pins σ H s) (r:Vals vs us)
  (h:∀x dx,H x=none->H dx=none->dx≠x->sp (.ref x::(vs++bB)) (upd (upd H dx (.own x)) x (.ins C dx [])) (λv H2=>v= .bu/\Q (.ref x) H2) E):
  wpAny (model X.prog X.w) X.A (call (.ref C) us) (EP X pins σ Q) X.xe s:=by
 have hq:=h (s.heap.objs.size+1) s.heap.objs.size (I.hok.fresh (qP _)) (I.hok.fresh (bK _)) (cp (Nat.lt_succ_self _));have I2:=Inv.made (C:=C) I;have r2:Vals (V.ref (s.heap.objs.size+1)::(vs++bB)) (Value.ref (s.heap.objs.size+1)::(us++ds)):= .cons rfl (r.append hd)
 have hl:(Value.ref (s.heap.objs.size+1)::us++ds).length=ps.length:=by
  have e:=r2.length;rw[F.len _ _ _ _ hq] at e;exact e.symm
 refine wpAny_call (LR (f:=f) I.cW M.makes M.init (beq_iff_eq.mp M.fn) (codeAny_mono (F.run _ X.stack _ _ ⟨Value.ref (s.heap.objs.size+1)::us,[]⟩ (Value.ref (s.heap.objs.size+1)::(us++ds)) _ _ E (hr.make C us [])
  (I2.E4.make C us []) (hb _ (Value.ref (s.heap.objs.size+1)::us) I2.cW hl) r2 hq) λr s' uy=>?_))
 cases r with
 |error e=>exact hx pins σ _ _ e s' I2 uy
 |ok fl=>
  cases fl with
  |ret u=>
   rfl';obtain⟨v,H',I3,rv,ev,q3⟩:=I2.after uy;subst ev;ac_rfl;exact⟨rv,⟨V.ref (s.heap.objs.size+1),H',I3,rfl,q3⟩⟩
  |next=>exact False.elim uy
  |brk=>exact False.elim uy
  |cont=>exact False.elim uy
theorem Pj(M:Mk X.K C f)(F:FnOk X.prog X.w X.K X.mg X.base CX k f fd ps sp)(c:bW (k+1) X.A)(d:Gl X x)(g:X.mg x=some (.ref C))(i:Binds X.K fd ps ds)(j:Vals bB ds)(l:Passes CX X E)
  (n:PA X (e::es) t) (u:(x==("__debug__":Str))=false:=by decide) (v:starEach (e::es) X.env=(false,eval e X.env)::starEach es X.env:=by rfl) (y:(backTo pos (starEach es X.env)).any (·.1)=false:=by rfl):
  PE X (.Call (.Name x p) (e::es) [] pos) (XY C sp bB E t):=by
 intro a s z H Q I h;refine P3 (iF I d g ?_ u);refine aea (h₀:=X.base) I.ok.mod.kin M.kp (thn (n pos a s z H _ I h) λB G ⟨J,L,b,r,q⟩=>⟨b.cW,?_⟩) v y;exact Mp M F c i j l b r q
end
section
variable {X:Cx} {CX:n5} {k:Nat} {f C:Addr} {fd:FuncData} {ps ks:List Str} {sp:Sp} {E:XK} {x m:Str} {p pos apos ad6:Pos} {e o:Expr} {es:List Expr} {kws:List Keyword} {te ta:TE} {t tk:TA} {nm:Option Str}
variable {g:List Value->List Value->List Value} {gV:List V->List V->List V}
end
structure aD (N P:List Str) (sc:Scope):Prop where
 kind:sc.kind= .function
 co:sc.isCoroutine=false
 gen:sc.isGenerator=false
 nd:N.Nodup
 pre:N.take P.length=P
 par:∀x∈P,sc.names.lookup x=some .local\/sc.names.lookup x=some .cell
 nofree:∀y∈sc.names,y.2≠ .free
theorem xK{kindOf:Str->Option NameKind}{x:Str}:∀{binds:List (Str×Value)}{m:Str->Option Value},(∀v,(x,v)∉binds)->bindL kindOf binds m x=m x
 | [],_,_=>rfl
 | (n,v)::r,m,h=>by
  unfold bindL;rw[xK λw hw=>h w (bU _ hw)]
  split
  ·have:x≠n:=by rintro rfl;exact h v bO
   simp[this]
  ·rfl
theorem xI{kindOf:Str->Option NameKind}{x:Str}:∀{binds:List (Str×Value)}{m:Str->Option Value},(∀v,(x,v)∉binds)->bindC kindOf binds m x=m x
 | [],_,_=>rfl
 | (n,v)::r,m,h=>by
  unfold bindC;rw[xI λw hw=>h w (bU _ hw)]
  split
  ·rfl
  ·have:x≠n:=by rintro rfl;exact h v bO
   simp[this]
theorem xJ{kindOf:Str->Option NameKind}{x:Str}{v:Value}:∀{P:List Str}{a:List Value}{i:Nat}{m:Str->Option Value},P.Nodup->P[i]? =some x->a[i]? =some v->kindOf x=some .local->
  bindL kindOf (P.zip a) m x=some v
 | [],_,_,_,_,h,_,_=>by simp at h
 |_::_,[],_,_,_,_,h,_=>by simp at h
 |p::P,w::a,0,m,d,b,c,e=>by
  simp at b c;subst b;subst c;show bindL kindOf ((p,w)::P.zip a) m p=_;unfold bindL;rw[xK λv f=>(gF.mp d).1 (ae3 f).1,tz e];simp
 |p::P,w::a,i+1,m,d,b,c,e=>by
  show bindL kindOf ((p,w)::P.zip a) m x=_;unfold bindL;exact xJ (i:=i) (gF.mp d).2 (by simpa using b) (by simpa using c) e
theorem xH{kindOf:Str->Option NameKind}{x:Str}{v:Value}:∀{P:List Str}{a:List Value}{i:Nat}{m:Str->Option Value},P.Nodup->P[i]? =some x->a[i]? =some v->kindOf x≠some .local->
  bindC kindOf (P.zip a) m x=some v
 | [],_,_,_,_,h,_,_=>by simp at h
 |_::_,[],_,_,_,_,h,_=>by simp at h
 |p::P,w::a,0,m,d,b,c,e=>by
  simp at b c;subst b;subst c;show bindC kindOf ((p,w)::P.zip a) m p=_;unfold bindC;rw[xI λv f=>(gF.mp d).1 (ae3 f).1,AC e];simp
 |p::P,w::a,i+1,m,d,b,c,e=>by
  show bindC kindOf ((p,w)::P.zip a) m x=_;unfold bindC;exact xH (i:=i) (gF.mp d).2 (by simpa using b) (by simpa using c) e
def start(N:List Str)(a:List V):St:=a.map some++List.replicate (N.length-a.length) none
def j9(g:n5)(P:Program)(w:World)(K:PySem.W.Frag)(mg:Str->Option Value)(base:Heap)(N:List Str)(b:Str)(a:Scope)(f:Addr)(c:Value)(A:Around)(outer:List Env)(s:Shared)(H:Hp)(E:XK):Cx where
 prog:=P
 w:=w
 K:=K
 mg:=mg
 base:=base
 A:=A.deeper (envOfC b a s.heap.objs.size f c)
 N:=N
 s₀:=s
 H₀:=H
 env:=envOfC b a s.heap.objs.size f c
 outer:=outer
 stack:=envOfC b a s.heap.objs.size f c::outer
 ex:= []
 calm:=true
 fn:=λ_=>true
 pn:= []
 xe:=λe h=>wpAny (model P w) (A.deeper (envOfC b a s.heap.objs.size f c)) (leaving (envOfC b a s.heap.objs.size f c) e) (λ_ d=>g outer H s E e d) (λi d=>g outer H s E i d) h
theorem Ax{a:Scope}{n:Nat}{x:Str}(h:a.names.lookup x=some .cell):∃c,(cellsFrom n a.names []).lookup x=some c:=by
 have q:=aeD a.names n [] (.inl h);exact Option.isSome_iff_exists.mp q
theorem yB{CX:n5}{P:Program}{w:World}{K:PySem.W.Frag}{G:Str->Option Value}{base:Heap}{N l:List Str}{qual:Str}{d:Scope}{f:Addr}{cd:Value}{A:Around}{outer:List Env}{s L:Shared}{H:Hp}{E:XK}{I:List Value}{m:List V}
  (S:aD N l d) (Q:A.handled=none) (j:Env0 P w K G base A outer s H) (U:m.length=l.length) (r:Vals m I)
  (x:InCallC s s.heap.objs.size (bindL (envOfC qual d s.heap.objs.size f cd).kindOf (l.zip I) λ_=>none) (cellsFrom (s.heap.objs.size+1) d.names []) (bindC (envOfC qual d s.heap.objs.size f cd).kindOf (l.zip I) λ_=>none) L):
  Inv (j9 CX P w K G base N qual d f cd A outer s H E) [] (start N m) H L:=by
 have X:l.length<=N.length:=by have:=KB List.length S.pre;rw[jQ] at this;omega
 obtain⟨C,Y,rfl,M⟩:=x.done;have J:∀b:Addr,b∉(j9 CX P w K G base N qual d f cd A outer s H E).ex:=λb z=>absurd (show b∈([]:List Addr) from z) (by simp)
 refine⟨⟨j.mod,S.kind,rfl,rfl,bK _,λy z c C g=>?_,λy o=>?_,λy c _ h=>?_,λ_=>Q,Around.frames_deeper j.frames, .inr ⟨rfl,rfl⟩,λb z=>absurd z (J b),j.bs,j.bsz,λb _ _=>J b,λb z=>absurd z (J b),j.funs,j.frf⟩,
  rfl,j.bare,Un.kept M,⟨_,x.toInCall.ns,λi y v C g Z=>?_⟩,λy c h=>⟨_,x.cell y c h⟩,j.hok.fresh (bK _),λy c h=>?_,λp t=>absurd (show p∈([]:List (Addr×Obj)) from t) (by simp),j.hok.kept M,?_⟩
 ·exact name_of_addr x.apart (aed C) (aed g)
 ·have o:d.names.lookup y=some .cell\/d.names.lookup y=some .free:=o
  rcases o with o|o
  ·exact Ax o
  ·exact absurd rfl (S.nofree _ (aed o))
 ·exact p6 (x.above y c (aed h))
 ·have F:i<m.length:=by
   unfold start at g
   by_cases F:i<m.length
   ·exact F
   ·rw[iQ (by simpa using F)] at g
    rw[qL] at g
    split at g<;>cases g
  have R:m[i]? =some v:=by
   unfold start at g;rw[iM (by simpa using F),eO] at g
   cases e:m[i]? with
   |none=>rw[e] at g;cases g
   |some a=>rw[e] at g;cases g;rfl
  obtain⟨u,O,T⟩:=r.get R
  have t:l[i]? =some y:=by
   rw[<-S.pre,K2 (by omega)];exact C
  have B:l.Nodup:=by rw[<-S.pre];exact S.nd.sublist (List.take_sublist _ _)
  refine⟨u,T,?_⟩
  rcases S.par y (fB t) with k|k
  ·exact .inl ⟨k,xJ B t O k⟩
  ·obtain⟨c,e⟩:=Ax (n:=s.heap.objs.size+1) k
   refine .inr ⟨.inl k,c,e,?_⟩;have q:=x.cell y c e;rw[xH B t O (by show d.names.lookup y≠_;rw[k];decide)] at q
   exact q
 ·exact j.hok.fresh (p6 (x.above y c (aed h)))
 ·unfold start
  show _=N.length;rw[cI,aP,qM];omega
theorem NL{B:n5}{P:Program}{w:World}{K:PySem.W.Frag}{C:Str->Option Value}{base:Heap}{k:Nat}{f:Addr}{i c:Str}{d:Arguments}{g:List Stmt}{a:Scope}{U kV p X l Y oc:Value}{Z od:Option Addr}
  {Aj:Array (Option Value)} {N F:List Str} {L:Sp} (lk:K.lookup f=some ⟨oc,od, .func (PySem.W.fnOf i c d g a U kV p X Z l Y),Aj⟩) (eS:PySem.W.codeIn K l c=true) (S:aD N F a)
  (len:∀h H Q E,L h H Q E->h.length=F.length)
  (gO:∀(A:Around)(outer:List Env)(s:Shared)(H:Hp)(h:List V)(Q:VK)(E:XK),bW k (A.deeper (envOfC c a s.heap.objs.size f l))->L h H Q E->
   ∃t,kH (j9 B P w K C base N c a f l A outer s H E) g t/\t {nx:=λ_ j=>Q .bu j,rt:=Q} (start N h) H):
  FnOk P w K C base B (k+1) f (PySem.W.fnOf i c d g a U kV p X Z l Y) F L:=by
 refine⟨len,λA outer s H args us h Q E M z hb r uz=>?_⟩;have hl:=len _ _ _ _ uz;have KX:K.In s.heap:=z.mod.kin.keeps λb o e=>(z.bs b o e).1;have O:s.heap.NoLimit:=z.mod.nolimit.keeps λb o e=>(z.bs b o e).1
 have Ie:∀y∈F.zip us,a.names.lookup y.1=some .local\/(a.names.lookup y.1=some .cell/\((cellsFrom (s.heap.objs.size+1) a.names []).lookup y.1).isSome=true):=λ⟨n,v⟩ hy=>by
  rcases S.par n (ae3 hy).1 with q|q
  ·exact .inl q
  ·exact .inr ⟨q,aeD _ _ _ (.inl q)⟩
 refine codeAny_call_function M.depth (KX _ _ lk) rfl S.co S.gen rfl (PySem.W.codeRec_of KX eS) (hb _ _ _ _ ?_);refine afm S.kind Ie λenv he s1 x=>?_;subst he;obtain⟨t,ht,hq⟩:=gO A outer s H h Q E (M.deeper _) uz;refine⟨O.keeps x.toInCall.keep,codeAny_func ?_⟩;have I:Inv (j9 B P w K C base N c a f l A outer s H E) [] (start N h) H s1:=yB S M.hd z hl r x;refine wpAny_mono (ht [] s1 (start N h) H _ I hq) (λfl R m=>?_) λe R m=>m
 have fin:∀{G:St}{j:Hp}{v:V}{u:Value},Inv (j9 B P w K C base N c a f l A outer s H E) [] G j R->RelV v u->Q v j->CE outer P w H s Q u R:=
  λ {G j v u} J T q=>⟨v,j,J.os,J.bare,J.base,J.hok,T,q⟩
 cases fl with
 |ret u=>
  obtain⟨v,G,j,J,T,q⟩:=m;exact fin J T q
 |next=>
  obtain⟨G,j,J,q⟩:=m;exact fin (v:=V.bu) (u:=Value.none) J rfl q
 |brk=>
  obtain⟨_,_,_,q⟩:=m;exact False.elim q
 |cont=>
  obtain⟨_,_,_,q⟩:=m;exact False.elim q
section
variable {X:Cx} {x:Str} {p pos:Pos} {e:Expr} {es:List Expr} {t:TA} {id T:String} {r:List V->Hp->VK->Prop}
def tCB(r:List V->Hp->VK->Prop)(t:TA):TE:=λa H Q=>t a H λb c=>r b c Q
theorem mE(c:CallR X (.builtin id) r)(d:Gl X x)(f:X.mg x=none)(g:bootBuiltins x=some (.builtin id))(i:PA X (e::es) t)(j:x≠"__name__":=by decide)(k:(x==("__debug__":Str))=false:=by decide)
  (l:starEach (e::es) X.env=(false,eval e X.env)::starEach es X.env:=by rfl) (m:(backTo pos (starEach es X.env)).any (·.1)=false:=by rfl):PE X (.Call (.Name x p) (e::es) [] pos) (tCB r t):=by
 intro a s b H Q I h;refine P3 (lb I d f g ?_ j k);exact ae4 (thn (i pos a s b H _ I h) λn o ⟨q,u,v,w,y⟩=>c a o b u q n Q v w y) l m
theorem rG(c:CallR X (.type T) r)(d:Gl X x)(f:X.mg x=none)(g:bootBuiltins x=some (.type T))(i:PA X (e::es) t)(j:x≠"__name__":=by decide)(k:(x==("__debug__":Str))=false:=by decide)
  (l:starEach (e::es) X.env=(false,eval e X.env)::starEach es X.env:=by rfl) (m:(backTo pos (starEach es X.env)).any (·.1)=false:=by rfl):PE X (.Call (.Name x p) (e::es) [] pos) (tCB r t):=by
 intro a s b H Q I h;refine P3 (lb I d f g ?_ j k);exact Wp (thn (i pos a s b H _ I h) λn o ⟨q,u,v,w,y⟩=>c a o b u q n Q v w y) l m
end
end L2
namespace HT
open PySem PyProof.Rows
def lexLt:List Int->List Int->Bool
 | [],[]=>false
 | [],_::_=>true
 |_::_,[]=>false
 |x::a,y::b=>if x=y then lexLt a b else decide (x<y)
theorem jw(x y:Int)(a b:List Int):lexLt (x::a) (y::b)=if x=y then lexLt a b else decide (x<y):=rfl
theorem oP:lexLt [] []=false:=rfl
theorem nJ(y:Int)(a:List Int):lexLt [] (y::a)=true:=rfl
theorem nI(x:Int)(a:List Int):lexLt (x::a) []=false:=rfl
theorem AG(A:Around)(s:Shared)(a:Int)(t:Tok)(c:Int)(u:Tok):∃e,SeqAt.EqAt A s (.int a t) (.int c u) e/\(e=true↔a=c):=
 ⟨(a==c),aer a t c u,by simp⟩
theorem Bl(A:Around)(s:Shared)(a:Int)(t:Tok)(c:Int)(u:Tok)(prog:Program)(w:World)(E:Value->Shared->Prop)(Q:Value->Shared->Prop)(h:Q (.bool (decide (a<c))) s):
  wpAny (model prog w) A (richCompare .Lt (.int a t) (.int c u)) Q E s:=
 (PyProof.Rows.lt_int h:wpAny (model prog w) A (compareOp .Lt (.int a t) (.int c u)) Q E s)
section
open PySem.SeqAt
open PySem.AutoSeq1 (wpAny_loadPart')
open PySem.MeetsSeq PySem.MeetsSeq2 PySem.MeetsSeq3
theorem zy(l b:Addr)(f o:Array Value)(n Y:Nat)(Z sA:Option Addr)(sl rO:Array (Option Value))(v z:List Int)(Q:IntsAre f.toList v)(T:IntsAre o.toList z):
  Meets (Builtin.«tuple.__lt__» ⟨[.ref l, .ref b],[]⟩)
   (λ_ R s=>s.heap.get? l=some {cls:= .type "tuple",dict:=Z,data:= .seq f n,slots:=sl}/\s.heap.get? b=some {cls:= .type "tuple",dict:=sA,data:= .seq o Y,slots:=rO}/\
    R (.ok (.ret (.bool (lexLt v z)))) s):=
 .of_wp λprog w A R s h=>by
  obtain⟨B,g,d,C,os⟩:=s;obtain⟨hl,hb,h⟩:=h;have f2:=AutoSeq1.sub_tuple_tuple;have z1:f.size=v.length:=by rw[<-Q.length];simp
  have z2:o.size=z.length:=by rw[<-T.length];simp
  wp_walk using wpAny_loadPart' hl,wpAny_loadPart' hb,aeN _ (λk b H=>b.1=none/\H=⟨B,g,d,C,os⟩/\∃(E F:List Value)(p r:List Int),k=E.zip F/\
   IntsAre E p/\IntsAre F r/\p.length+o.size=r.length+f.size/\R (.ok (.ret (.bool (lexLt p r)))) ⟨B,g,d,C,os⟩) _
  case turn=>
   intro I k b H iL;obtain⟨y,x⟩:=I;rfl';obtain⟨J,rfl,E,F,p,r,j,L,G,i,m⟩:=iL;ac_rfl;cases L with
   |nil=>rw[List.zip_nil_left] at j;cases j
   |cons a t M=>
    cases G with
    |nil=>rw[List.zip_nil_right] at j;cases j
    |cons c u N=>
     rw[afg] at j
     injection j with O yx
     injection O with hy hx
     subst hy hx;rw[jw] at m;simp only[eX] at i;obtain⟨e,he,U⟩:=AG A.in1 ⟨B,g,d,C,os⟩ a t c u;refine ir (he prog w _ _ ?_);cases e with
     |true=>
      rw[tz (U.mp rfl)] at m
      wp_walk
      exact⟨rfl,rfl,_,_,_,_,yx,M,N,by omega,m⟩
     |false=>
      rw[AC (λq=>absurd (U.mpr q) cQ)] at m;have WV:=Bl A.in1 ⟨B,g,d,C,os⟩ a t c u prog w
      wp_walk using WV
      exact⟨_,rfl,by simpa using m⟩
  case fin=>
   rintro⟨b1,b2⟩ H ⟨J,rfl,E,F,p,r,j,L,G,i,m⟩;simp only at J;subst J
   have X:lexLt p r=decide (f.size<o.size):=by
    cases L with
    |nil=>
     cases G with
     |nil=>
      simp only[lD] at i;rw[oP];exact(Gc (by omega)).symm
     |cons c u hw=>
      simp only[lD,eX] at i;rw[nJ];exact(KM (by omega)).symm
    |cons a t X=>
     cases G with
     |nil=>
      simp only[lD,eX] at i;rw[nI];exact(Gc (by omega)).symm
     |cons c u hw=>
      rw[afg] at j;cases j
   rw[X] at m
   wp_walk
   exact⟨_,rfl,by simpa [Builtin.Tuple.tupleCompareSizes] using m⟩
  case h=>
   exact⟨rfl,rfl,f.toList,o.toList,v,z,rfl,Q,T,by omega,h⟩
end
section
variable {prog:Program} {w:World} {A:Around} {E:Value->Shared->Prop} {s:Shared}
theorem FN(p:IsTup s.heap l a)(q:IsTup s.heap b f)(r:IntsAre a.toList c)(t:IntsAre f.toList d)
  (u:A.units<cLine) (h:Q (.bool (lexLt c d)) s):wpAny (model prog w) A (compareOp .Lt (.ref l) (.ref b)) Q E s:=by
 rfl';obtain⟨⟨cls,y,g,z⟩,i,j,n,k⟩:=id p;obtain⟨⟨I,B,data2,C⟩,m,o,G,e⟩:=id q;ac_rfl;simp only at j k o e;subst j k o e
 exact richCompare_meets_room (op:= .Lt) ⟨_,i,rfl⟩ ⟨_,m,rfl⟩ PySem.F.slot_tuple_lt PySem.F.entry_tuple_lt (PySem.F.args_tuple_lt_2 _ _) (zy l b a f n G y B z C c d r t)
  ⟨i,m,show Value.bool (lexLt c d)≠Value.notImplemented/\Q (.bool (lexLt c d)) s from⟨(λx=>nomatch x),h⟩⟩ u
theorem MZ(r:IsTup s.heap t c.toArray)(u:IsTup s.heap b a.toArray)(h:c≠ [])
  (v:a= []->Q (.ref t) s) (x:a≠ []->Q (.ref s.heap.objs.size) {s with heap:=s.heap.push {cls:= .type "tuple",data:= .seq (c++a).toArray}})
  (y:c.length+a.length<=sizeLine):wpAny (model prog w) A (binaryOp .Add (.ref t) (.ref b)) Q E s:=by
 rfl';obtain⟨⟨cls,i,data,j⟩,f,k,n,l⟩:=id r;obtain⟨⟨C,m,data2,o⟩,g,p,q,d⟩:=id u;ac_rfl;simp only at k l p d;subst k l p d;have e:c.toArray++a.toArray=(c++a).toArray:=by simp
 by_cases hw:a= []
 ·exact concat_meets ⟨_,f,rfl⟩ ⟨_,g,rfl⟩ noFill_tuple_add seq_tuple_add afR afK (afA _ _)
   (tuple_addW1 t b c.toArray a.toArray n q i m j o (by simpa using h) (by simp[hw])) ⟨f,g,v hw⟩
 ·refine concat_meets ⟨_,f,rfl⟩ ⟨_,g,rfl⟩ noFill_tuple_add seq_tuple_add afR afK (afA _ _)
   (tuple_addW2 t b c.toArray a.toArray n q i m j o (by simpa using h) (by simpa using hw) (by rw[di,di];exact y)) ⟨f,g,?_⟩
  rw[e];exact x hw
def ck(n d:Nat):Option Int->Nat
 |none=>d
 |some v=>if v<0 then(v+(n:Int)).toNat else min v.toNat n
theorem SU(n d:Nat)(b:d<=n)(o:Option Int):ck n d o<=n:=by
 cases o with
 |none=>exact b
 |some v=>
  show(if v<0 then(v+(n:Int)).toNat else min v.toNat n)<=n
  by_cases a:v<0
  ·rw[tz a];omega
  ·rw[AC a];exact Nat.min_le_right _ _
theorem EJ(v:Int)(n d:Nat):(if v<0 then max (v+(n:Int)) 0 else min v (n:Int))=((ck n d (some v):Nat):Int):=by
 show(if v<0 then max (v+(n:Int)) 0 else min v (n:Int))=(((if v<0 then(v+(n:Int)).toNat else min v.toNat n):Nat):Int)
 by_cases a:v<0
 ·simp only[tz a];omega
 ·simp only[AC a];omega
theorem Ex(lo a:Option Int)(n:Nat):Builtin.Slice.sliceAdjust lo a 1 (n:Int)=(((ck n 0 lo:Nat):Int),((ck n n a:Nat):Int)):=by
 have b:¬((1:Int)<0):=by omega
 unfold Builtin.Slice.sliceAdjust;simp only[b,PP];refine UF ?_ ?_
 ·cases lo with
  |none=>rfl
  |some v=>exact EJ v n 0
 ·cases a with
  |none=>rfl
  |some v=>exact EJ v n n
theorem Gd(i j:Nat):Builtin.Slice.slicePlaces (i:Int) (j:Int) 1=j-i:=by
 unfold Builtin.Slice.slicePlaces;have a:(1:Int)>0:=by omega
 simp only[a,aem,Int.ediv_one]
 split<;>omega
theorem vV(p:IsPart v o)(h:Q o s):wpAny (model prog w) A (Builtin.Slice.slicePartIndex v) Q E s:=by
 cases p with
 |none=>exact slicePart_none h
 |int i t=>exact slicePart_int h
theorem tV{f:Addr}{b c:Value}{lo a:Option Int}{n:Nat}{Q:Int×Int×Nat->Shared->Prop}(g:s.heap.IsSliceOf f b c .none)(i:IsPart b lo)(j:IsPart c a)
  (h:Q (((ck n 0 lo:Nat):Int),1,ck n n a-ck n 0 lo) s):wpAny (model prog w) A (Builtin.Slice.sliceApplied (.ref f) (pure (n:Int))) Q E s:=by
 rfl';obtain⟨os,d,m,e⟩:=id g;ac_rfl;unfold Builtin.Slice.sliceApplied Builtin.Slice.sliceFields;refine ir (ir (aeq d e (x:=b) rfl (ir (aeq d e (x:=c) rfl (ir (aeq d e (x:= .none) rfl (mo ?_)))))));refine ir (slicePart_none ?_);rw[AC (by decide)]
 refine ir (vV i (ir (vV j (ir (mo ?_)))));show wpAny _ _ (match Builtin.Slice.sliceAdjust lo a 1 (n:Int) with| (lo,a)=>pure (lo,(1:Int),Builtin.Slice.slicePlaces lo a 1)) _ _ s
 rw[Ex lo a n];show wpAny _ _ (pure (((ck n 0 lo:Nat):Int),(1:Int),Builtin.Slice.slicePlaces ((ck n 0 lo:Nat):Int) ((ck n n a:Nat):Int) 1)) _ _ s;rw[Gd];exact mo h
theorem Mc(a:Array Value)(i k:Nat):((List.range k).filterMap λ(m:Nat)=>a[((i:Int)+(m:Int)*1).toNat]?).toArray=((a.toList.drop i).take k).toArray:=by
 have e:(λ(m:Nat)=>a[((i:Int)+(m:Int)*1).toNat]?)=λm=>a[i+m]? :=by
  funext m
  have:((i:Int)+(m:Int)*1).toNat=i+m:=by omega
  rw[this]
 rw[e]
 have:=pick_run a i k
 rw[List.filterMap_map] at this;have b:((λx=>a[x]?)∘λx=>i+x)=λm=>a[i+m]? :=rfl;rw[b] at this;rw[this]
theorem rb{t e:Addr}{a:Array Value}{g i:Value}{lo b:Option Int}{Q:Value->Shared->Prop}(c:IsTup s.heap t a)(j:s.heap.IsSliceOf e g i .none)(k:IsPart g lo)(l:IsPart i b)
  (hw:¬(ck a.size 0 lo=0/\ck a.size a.size b=a.size))
  (h:Q (.ref s.heap.objs.size) {s with heap:=s.heap.push {cls:= .type "tuple",data:= .seq ((a.toList.drop (ck a.size 0 lo)).take (ck a.size a.size b-ck a.size 0 lo)).toArray}})
  (r:a.size<=sizeLine):wpAny (model prog w) A (getItem (.ref t) (.ref e)) Q E s:=by
 have d:sizeOk (.seq ((a.toList.drop (ck a.size 0 lo)).take (ck a.size a.size b-ck a.size 0 lo)).toArray):=by
  show((a.toList.drop (ck a.size 0 lo)).take (ck a.size a.size b-ck a.size 0 lo)).toArray.size<=sizeLine;rw[di,jQ,BF,pU];omega
 have u:ck a.size a.size b<=a.size:=SU _ _ (bK _) b;obtain⟨os,n,o,v⟩:=id j;have f:s.TypeIs (.ref e) "slice":=⟨os,n,o⟩;unfold getItem
 try with_reducible refine wpAny_holding ?_
 first|refine wpAny_bind (wpAny_pure ?_) |skip
 refine wpAny_bind (wpAny_sequenceKey c.typeIs (by decide) ?_)
 refine wpAny_bind (wpAny_callSpecial?_slot (name:=Str.ofString "__getitem__") c.typeIs PyProof.Rows.slot_tuple_getitem
  (wpAny_call_entry PyProof.Rows.slot_tuple_getitem c.typeIs entry_tuple_getitem ?_ (args_tuple_getitem _ _)))
 show wpAny _ _ (Builtin.Tuple.tupleItemsOf (.ref t)>>=_) _ _ s;refine wpAny_bind (tupleItemsOf_ c ?_);refine wpAny_bind (wpAny_typeOf f ?_);rw[if_pos (by decide)]
 refine wpAny_bind (tV j k l ?_)
 have p:¬((((ck a.size 0 lo:Nat):Int)==0&&(1:Int)==1&&(ck a.size a.size b-ck a.size 0 lo)==a.size)=true):=by
  intro q;rw[ub,ub] at q;have x:((ck a.size 0 lo:Nat):Int)=0:=eq_of_beq q.1.1;have y:ck a.size a.size b-ck a.size 0 lo=a.size:=eq_of_beq q.2;exact hw ⟨by omega,by omega⟩
 show wpAny _ _ (if (((ck a.size 0 lo:Nat):Int)==0&&(1:Int)==1&&(ck a.size a.size b-ck a.size 0 lo)==a.size)=true then _ else _) _ _ s;rw[if_neg p,Mc]
 first
  |exact wpAny_bind (m:=Builtin.Tuple.tupleExact _) (wpAny_newObj_type (wpAny_pure ⟨_,rfl,wpAny_pure h⟩) d)
  |exact wpAny_bind (m:=Builtin.Tuple.tupleExact _) (wpAny_newObj_type (wpAny_bind (wpAny_pure (wpAny_pure ⟨_,rfl,wpAny_pure h⟩))) d)
  |exact wpAny_bind (wpAny_bind (m:=Builtin.Tuple.tupleExact _) (wpAny_newObj_type (wpAny_pure (wpAny_pure ⟨_,rfl,wpAny_pure h⟩)) d))
  |exact wpAny_bind (wpAny_bind (m:=Builtin.Tuple.tupleExact _) (wpAny_newObj_type (wpAny_pure ⟨_,rfl,wpAny_pure h⟩) d))
end
end HT
namespace L2
open PySem PySem.Spec PyProof.Rows
abbrev TO:=St->Hp->(Option Int->Hp->Prop)->Prop
def PO(X:Cx)(e:Option Expr)(t:TO):Prop:=
 ∀(a:List (Addr×Obj))(s:Shared)(b:St)(H:Hp)(Q:Option Int->Hp->Prop),Inv X a b H s->t b H Q->
  wpAny (model X.prog X.w) X.A (evalPart e X.env) (λu d=>∃o c,Inv X a b c d/\IsPart u o/\Q o c) X.xe s
def Qq:TO:=λ_ H Q=>Q none H
def X1(t:TE):TO:=λa H Q=>t a H λx b=>∃i,x= .int i/\Q (some i) b
theorem intsAre_of:∀{b:List Value},Vals (a.map V.int) b->IntsAre b a:=by
 induction a with
 |nil=>intro b r;rw[ae5] at r;cases r;exact .nil
 |cons n a c=>
  intro b r;rw[dF] at r;cases r with
  |cons d f=>
   obtain⟨t,e⟩:=d;subst e;exact .cons n t (c f)
section
variable {X:Cx} {e:Expr} {te:TE} {lo hi:Option Expr} {tl th:TO} {pos p2:Pos}
theorem Pt:PO X none Qq:=by
 intro a s b H Q I h;rw[evalPart_none];exact mo ⟨none,H,I, .none,h⟩
theorem Pu(h:PE X e te):PO X (some e) (X1 te):=by
 intro a s b H Q I hw;rw[evalPart_some];refine thn (h a s b H _ I hw) λu l c=>?_;rfl';obtain⟨x,f,g,j,k⟩:=c;obtain⟨i,rfl,q⟩:=k;obtain⟨t,rfl⟩:=j;ac_rfl;exact⟨some i,f,g, .int i t,q⟩
def Hg(X:Cx)(r:V->Option Int->Option Int->Hp->VK->Prop):Prop:=
 ∀(a:List (Addr×Obj))(s:Shared)(b:St)(H:Hp)(x:V)(v c d:Value)(lo f:Option Int)(g:Addr)(Q:VK),Inv X a b H s->RelV x v->s.heap.IsSliceOf g c d .none->IsPart c lo->IsPart d f->r x lo f H Q->
  ∃T id,typeLookup (.type T) "__getitem__"=pure (some (.builtin id))/\s.TypeIs v T/\wpAny (model X.prog X.w) X.A (getItem v (.ref g)) (EP X a b Q) X.xe s
theorem Hg.or(h:Hg X r)(n:Hg X c):Hg X (λx lo b H Q=>r x lo b H Q\/c x lo b H Q):=by
 intro a s d H x v f g lo b i Q I j k l m q
 rcases q with q|q
 ·exact h a s d H x v f g lo b i Q I j k l m q
 ·exact n a s d H x v f g lo b i Q I j k l m q
def tSl(r:V->Option Int->Option Int->Hp->VK->Prop)(b:TE)(c d:TO):TE:=λa H Q=>b a H λx f=>c a f λl g=>d a g λu h=>r x l u h Q
theorem Ma(m:Hg X r)(n:PE X e te)(o:PO X lo tl)(p:PO X hi th):PE X (.Subscript e (.Slice lo hi none p2) pos) (tSl r te tl th):=by
 intro a s d H Q I h;refine Subscript_ (thn (n a s d H _ I h) λv t f=>?_);rfl';obtain⟨x,y,z,A,B⟩:=f;ac_rfl;refine wpAny_Slice (thn (o a t d y _ z B) λi C ⟨l,E,F,G,J⟩=>thn (p a C d E _ F J) λj c f=>?_);rfl';obtain⟨u,k,L,M,N⟩:=f;ac_rfl;rw[evalPart_none];refine mo ?_;have O:Inv X a d k {c with heap:=c.heap.push {cls:= .type "slice",data:= .fields #[i,j, .none]}}:=L.kept (t':=c.toks) λb Z q=>Da _ q
 obtain⟨T,id,R,U,Y⟩:=m a {c with heap:=c.heap.push {cls:= .type "slice",data:= .fields #[i,j, .none]}} d k x v i j l u c.heap.objs.size Q O A (Heap.IsSliceOf.new ..) G M N
 exact tail_any (ops:= [.ref c.heap.objs.size,v]) U R Y (by with_unfolding_all rfl)
def vx(a:List V)(lo b:Option Int):List V:=(a.drop (HT.ck a.length 0 lo)).take (HT.ck a.length a.length b-HT.ck a.length 0 lo)
theorem sv(a:List V)(lo b:Option Int):(vx a lo b).length<=a.length:=by
 unfold vx;rw[jQ,BF];omega
def acV(K:PySem.W.Frag):V->Option Int->Option Int->Hp->VK->Prop:=λx lo c H Q=>∃a b,x= .ref a/\fX K H a b/\
 ¬(HT.ck b.length 0 lo=0/\HT.ck b.length b.length c=b.length)/\∀p,H p=none->Q (.ref p) (upd H p (.tup (vx b lo c)))
theorem SV:Hg X (acV X.K):=by
 intro i s w H x v y z lo f A Q I l m n p h;rfl';obtain⟨a,d,rfl,u,hw,q⟩:=h;subst l;obtain⟨g,r,j,k⟩:=I.tuple u;have c:g.toArray.size=d.length:=by rw[di];exact r.length.symm
 ac_rfl;refine⟨"tuple",_,aeZ.lookup,j.typeIs,?_⟩;refine HT.rb j m n p (by rw[c];exact hw) ?_ (by rw[c];exact k)
 rw[c];refine⟨.ref s.heap.objs.size,_,I.laid (t':=s.toks) (o:= .tup (vx d lo f)) (λb C q=>Da _ q) (bK _) ?_,rfl,q _ (I.hok.fresh (bK _))⟩;exact⟨fK (sv d lo f) k,_,(r.drop (HT.ck d.length 0 lo)).take (HT.ck d.length d.length f-HT.ck d.length 0 lo),IsTup.new _ _⟩
def XA(K:PySem.W.Frag):R2:=λx y H Q=>∃a b d c,x= .ref a/\y= .ref b/\fX K H a d/\fX K H b c/\d≠ []/\d.length+c.length<=sizeLine/\
 (c= []->Q (.ref a) H)/\(c≠ []->∀p,H p=none->Q (.ref p) (upd H p (.tup (d++c))))
theorem Vals.yS(r:Vals a b):b= []↔a= []:=by
 cases r with
 |nil=>simp
 |cons _ _=>simp
theorem O7:OpR X (binaryOp .Add) (XA X.K):=by
 intro f s F H x y v u Q I i j h;rfl';obtain⟨a,b,l,m,rfl,rfl,n,p,r,g,t,A⟩:=h;subst i;subst j;obtain⟨B,d,C,_⟩:=I.tuple n;obtain⟨J,c,E,_⟩:=I.tuple p;ac_rfl;refine HT.MZ C E (λz=>r (d.yS.mp z)) (λz=>⟨.ref a,H,I,rfl,t (c.yS.mp z)⟩) (λz=>?_) (by rw[<-d.length,<-c.length];exact g)
 refine⟨.ref s.heap.objs.size,_,I.laid (t':=s.toks) (o:= .tup (l++m)) (λb L q=>Da _ q) (bK _) ?_,rfl,A (λw=>z (c.yS.mpr w)) _ (I.hok.fresh (bK _))⟩;exact⟨by rw[cI];exact g,_,d.append c,IsTup.new _ _⟩
end
def i9(n:Nat)(i:Int):Option Nat:=if 0<=i then(if i<n then some i.toNat else none) else if-(n:Int)<=i then some (i+n).toNat else none
def gL{a:Type}(b:List a)(i:Int):Option a:=(i9 b.length i).bind λj=>b[j]?
theorem FC(h:i9 n i=some j):seqIndex? i n=some j/\j<n/\-(n:Int)<=i/\i<n:=by
 unfold i9 at h
 by_cases b:0<=i
 ·rw[tz b] at h
  by_cases a:i<n
  ·rw[tz a] at h
   have e:i.toNat=j:=Do h;exact⟨by rw[afS b a,e],by omega,by omega,a⟩
  ·rw[AC a] at h;cases h
 ·rw[AC b] at h
  by_cases a: -(n:Int)<=i
  ·rw[tz a] at h
   have e:(i+n).toNat=j:=Do h;exact⟨by rw[seqIndex_neg (by omega) a,e],by omega,a,by omega⟩
  ·rw[AC a] at h;cases h
theorem xF(h:gL a i=some v):∃j,seqIndex? i a.length=some j/\a[j]? =some v/\j<a.length/\-(a.length:Int)<=i/\i<a.length:=by
 unfold gL at h;cases e:i9 a.length i with
 |none=>rw[e] at h;cases h
 |some j=>
  rw[e] at h;obtain⟨c,d,f,g⟩:=FC e;exact⟨j,c,h,d,f,g⟩
theorem Ey{b:Type}{a:List b}{j:Nat}{v:b}(h:a[j]? =some v):gL a (j:Int)=some v:=by
 have c:j<a.length:=(dS.mp h).1
 have e:i9 a.length (j:Int)=some j:=by
  unfold i9;rw[tz (by omega),tz (by omega)];simp
 unfold gL;rw[e];exact h
def rZ(b:Expr):Prop:=∀o i,subscripted b false o i=operate [o,i] (getItem o i)
def Hb(X:Cx)(r:R2):Prop:=
 ∀(c a:Expr)(b:List (Addr×Obj))(s:Shared)(d:St)(H:Hp)(x y:V)(v u:Value)(Q:VK),Inv X b d H s->RelV x v->RelV y u->r x y H Q->
  subscripted a false v u=operate [v,u] (getItem v u)->wpAny (model X.prog X.w) X.A (subscriptTail c a v u) (EP X b d Q) X.xe s
def QK(X:Cx)(id:String)(r:V->List V->Hp->VK->Prop):Prop:=
 ∀(a:List (Addr×Obj))(s:Shared)(b:St)(H:Hp)(x:V)(c:List V)(v:Value)(d:List Value)(Q:VK),Inv X a b H s->RelV x v->Vals c d->r x c H Q->
  wpAny (model X.prog X.w) X.A (call (.builtin id) (v::d)) (EP X a b Q) X.xe s
section
variable {X:Cx} {a b:Expr} {ta tb:TE} {pos:Pos}
theorem Hb.or(h:Hb X r)(l:Hb X f):Hb X (λx y H Q=>r x y H Q\/f x y H Q):=by
 intro c d e s g H x y v u Q I i j q k
 rcases q with q|q
 ·exact h c d e s g H x y v u Q I i j q k
 ·exact l c d e s g H x y v u Q I i j q k
theorem Jo(d:Hb X r)(e:PE X a ta)(f:PE X b tb)(g:rZ b):PE X (.Subscript a b pos) (Qr r ta tb):=by
 intro c s i H Q I h;exact Subscript_ (MW e f I h λv u j x y k l m n q=>d a b c j i k x y v u Q l m n q (g _ _))
def UQ(K:PySem.W.Frag):R2:=λx y H Q=>∃p c i v,x= .ref p/\y= .int i/\b0 K H p c/\gL c i=some v/\Q v H
def acQ(K:PySem.W.Frag):R2:=λx y H Q=>∃p c i v,x= .ref p/\y= .int i/\fX K H p c/\gL c i=some v/\Q v H
theorem yD:Hb X (UQ X.K):=by
 intro e f c s m H x y v u Q I B C h n;rfl';obtain⟨p,U,i,z,rfl,rfl,F,G,q⟩:=h;subst B;obtain⟨t,rfl⟩:=C;obtain⟨g,r,k,Y⟩:=I.list F;obtain⟨j,d,J,Z,L,M⟩:=xF G;obtain⟨w,o,N⟩:=r.get J;have O:=r.length;have a:=mW;have fin:EP X c m Q w s:=⟨z,H,I,N,q⟩;ac_rfl
 by_cases A:0<=i
 ·have l:i.toNat=j:=by
   rw[afS A M] at d;exact Do d
  exact item_listR k.isList A (by omega) (by rw[l];simpa using o) fin n
 ·have l:(i+(g.toArray.size:Int)).toNat=j:=by
   rw[seqIndex_neg (by omega) L] at d
   rw[di,<-O];exact Do d
  exact afT (x:=w) k.isList.typeIs slot_list_getitem.lookup
   (afU (Q:=λr R=>r=w/\EP X c m Q r R) k.isList (by omega) (by rw[di]<;>omega) (by omega) (by rw[l];simpa using o) ⟨rfl,fin⟩) n
theorem RG:Hb X (acQ X.K):=by
 intro d e c s f H x y v u Q I k l h m;rfl';obtain⟨p,N,i,z,rfl,rfl,o,A,q⟩:=h;subst k;obtain⟨t,rfl⟩:=l;obtain⟨B,r,g,O⟩:=I.tuple o;obtain⟨j,C,E,R,T,U⟩:=xF A;obtain⟨w,F,G⟩:=r.get E;have J:=r.length;have Y:=mW;have fin:EP X c f Q w s:=⟨z,H,I,G,q⟩;ac_rfl
 exact afT (x:=w) g.typeIs slot_tuple_getitem.lookup
  (getItem_tuple (j:=j) (Q:=λr L=>r=w/\EP X c f Q r L) g (by omega) (by omega) (by rw[di,<-J];exact C) (by simpa using F) ⟨rfl,fin⟩) m
theorem FQ(c:List Value)(n j:Nat)(u:Value):Obj.mapSeq (·.setIfInBounds j u) {cls:= .type "list",data:= .seq c.toArray n}={cls:= .type "list",data:= .seq (c.set j u).toArray n}:=by
 simp[Obj.mapSeq]
theorem Inv.lst{c:List (Addr×Obj)}{f:St}{H:Hp}{s:Shared}{p:Addr}{d:List V}(I:Inv X c f H s)(h:H p=some (.lst d)):
  ∃(its:List Value)(n:Nat),Vals d its/\s.heap.get? p=some {cls:= .type "list",data:= .seq its.toArray n}/\d.length<=sizeLine:=by
 obtain⟨z,its,n,r,e⟩:=I.hok p _ h;exact⟨its,n,r,e,z⟩
theorem Inv.RW{d:List (Addr×Obj)}{j:St}{H:Hp}{s:Shared}{p:Addr}{l g:List V}{its c:List Value}{n i:Nat}{f:Obj->Obj}(I:Inv X d j H s)(h:H p=some (.lst l))
  (m:s.heap.get? p=some {cls:= .type "list",data:= .seq its.toArray n}) (k:f {cls:= .type "list",data:= .seq its.toArray n}={cls:= .type "list",data:= .seq c.toArray i}) (r:Vals g c) (o:g.length<=sizeLine) (t:Nat):
  Inv X d j (upd H p (.lst g)) {s with heap:=s.heap.update p f,toks:=t}:=by
 have e:(s.heap.update p f).get? p=some {cls:= .type "list",data:= .seq c.toArray i}:=by
  rw[Os f m (by rw[k]<;>rfl),k]
 refine I.write (x:=p) (e:=p) (by rw[h];trivial) (.inl rfl) (λb u v q=>(GE _ _ (Ne.symm v)).trans q) ⟨_,e⟩ ?_
 exact⟨o,c,i,r,e⟩
def XF:V->V->V->Hp->(Hp->Prop)->Prop:=λo i v H Q=>∃p c k j,o= .ref p/\i= .int k/\H p=some (.lst c)/\i9 c.length k=some j/\Q (upd H p (.lst (c.set j v)))
theorem set_list:MP X XF:=by
 intro c s A H o i v M N u Q I B C E h;rfl';obtain⟨p,G,k,j,rfl,rfl,m,J,q⟩:=h;subst B;obtain⟨t,rfl⟩:=C;obtain⟨d,n,r,f,L⟩:=I.lst m;obtain⟨e,R,w,x⟩:=FC J;have g:=r.length;have T:=mW;ac_rfl
 have y:Inv X c A (upd H p (.lst (G.set j v))) {s with heap:=s.heap.update p (Obj.mapSeq (·.setIfInBounds j u))}:=
  I.RW m f (FQ d n j u) (r.set E j) (by rw[jB];exact L) s.toks
 by_cases z:0<=k
 ·have l:k.toNat=j:=by
   rw[afS z x] at e;exact Do e
  exact PySem.W.ki_setAt f z (by omega) (by rw[di,<-g];exact x) (by rw[l];exact⟨_,y,q⟩)
 ·have l:(k+(d.toArray.size:Int)).toNat=j:=by
   rw[seqIndex_neg (by omega) w] at e
   rw[di,<-g];exact Do e
  exact PySem.W.ki_setBack f (by omega) (by rw[di,<-g];exact w) (by omega) (by rw[l];exact⟨_,y,q⟩)
theorem Al(lo c:Option Int)(n:Nat):(sliceBounds lo c none n).1=((HT.ck n 0 lo:Nat):Int)/\(sliceBounds lo c none n).2.1=((HT.ck n n c:Nat):Int)/\(sliceBounds lo c none n).2.2=1:=by
 refine⟨?_,?_,rfl⟩
 ·cases lo with
  |none=>simp[sliceBounds,HT.ck]
  |some i=>
   simp only[sliceBounds,HT.ck,Option.getD_none,show(1:Int)>0 by decide,aem]
   by_cases h:i<0
   ·simp only[h,aem]<;>omega
   ·simp only[h,PP]<;>omega
 ·cases c with
  |none=>simp[sliceBounds,HT.ck]
  |some i=>
   simp only[sliceBounds,HT.ck,Option.getD_none,show(1:Int)>0 by decide,aem]
   by_cases h:i<0
   ·simp only[h,aem]<;>omega
   ·simp only[h,PP]<;>omega
theorem zg(c:List Value)(lo d:Option Int):slicePick c.toArray lo d none=((c.drop (HT.ck c.length 0 lo)).take (HT.ck c.length c.length d-HT.ck c.length 0 lo)).toArray:=by
 obtain⟨e,f,g⟩:=Al lo d c.toArray.size;unfold slicePick;rw[e,f,g];simp only[sliceRange_one,pick_run,di]<;>rfl
def acU(K:PySem.W.Frag):V->Option Int->Option Int->Hp->VK->Prop:=λx lo d H Q=>∃a c,x= .ref a/\b0 K H a c/\∀p,H p=none->Q (.ref p) (upd H p (.lst (vx c lo d)))
theorem P4:Hg X (acU X.K):=by
 intro f s u H x v w y lo e z Q I i j k l h;rfl';obtain⟨a,c,rfl,n,q⟩:=h;subst i;obtain⟨p,r,g,t⟩:=I.list n;have d:=r.length;ac_rfl;refine⟨"list",_,slot_list_getitem.lookup,g.isList.typeIs,?_⟩;refine wpAny_getItem_list_slice g.isList j k l .none (by simp) ?_ (by rw[di]<;>omega)
 rw[zg,<-d];refine⟨.ref s.heap.objs.size,_,I.laid (t':=s.toks) (o:= .lst (vx c lo e)) (λb B q=>Da _ q) (bK _) ?_,rfl,q _ (I.hok.fresh (bK _))⟩;exact⟨fK (sv c lo e) t,_,0,(r.drop (HT.ck c.length 0 lo)).take (HT.ck c.length c.length e-HT.ck c.length 0 lo),FS _ rfl⟩
def iz:V->Bool
 | .bu=>true
 | .bl _=>true
 | .int _=>true
 | .str _=>true
 |_=>false
def yf:V->V->Bool
 | .bu, .bu=>true
 | .bl a, .bl b=>a==b
 | .bl a, .int b=>(if a then 1 else 0)==b
 | .int a, .bl b=>a==(if b then 1 else 0)
 | .int a, .int b=>a==b
 | .str a, .str b=>a==b
 |_,_=>false
theorem Rc{A:Around}{s:Shared}{y x:V}{u v:Value}(ry:RelV y u)(rx:RelV x v)(fy:iz y=true)(fx:iz x=true):SeqAt.EqAt A s u v (yf y x):=by
 cases y with
 |bu=>
  cases ry;cases x with
  |bu=>cases rx;exact SeqAt.EqAt.same _
  |bl b=>cases rx;exact SeqAt.EqAt.none_bool b
  |int b=>obtain⟨t,rfl⟩:=rx;exact SeqAt.EqAt.none_int b t
  |str b=>obtain⟨t,rfl⟩:=rx;exact SeqAt.EqAt.none_str b t
  |_=>exact absurd (show false=true from fx) cQ
 |bl a=>
  subst ry;cases x with
  |bu=>cases rx;exact SeqAt.EqAt.bool_none a
  |bl b=>cases rx;exact SeqAt.EqAt.bool_bool a b
  |int b=>obtain⟨t,rfl⟩:=rx;exact SeqAt.EqAt.bool_int a b t
  |str b=>obtain⟨t,rfl⟩:=rx;exact SeqAt.EqAt.bool_str a b t
  |_=>exact absurd (show false=true from fx) cQ
 |int a=>
  obtain⟨t',rfl⟩:=ry;cases x with
  |bu=>cases rx;exact SeqAt.EqAt.int_none a t'
  |bl b=>cases rx;exact SeqAt.EqAt.int_bool a t' b
  |int b=>obtain⟨t,rfl⟩:=rx;exact SeqAt.EqAt.int_int a t' b t
  |str b=>obtain⟨t,rfl⟩:=rx;exact SeqAt.EqAt.int_str a t' b t
  |_=>exact absurd (show false=true from fx) cQ
 |str a=>
  obtain⟨t',rfl⟩:=ry;cases x with
  |bu=>cases rx;exact SeqAt.EqAt.str_none a t'
  |bl b=>cases rx;exact SeqAt.EqAt.str_bool a t' b
  |int b=>obtain⟨t,rfl⟩:=rx;exact SeqAt.EqAt.str_int a t' b t
  |str b=>obtain⟨t,rfl⟩:=rx;exact SeqAt.EqAt.str_str a t' b t
  |_=>exact absurd (show false=true from fx) cQ
 |_=>exact absurd (show false=true from fy) cQ
def qr(x:V)(u:Value):Bool:=match u with
 | .none=>yf .bu x
 | .bool b=>yf (.bl b) x
 | .int i _=>yf (.int i) x
 | .str z _=>yf (.str z) x
 |_=>false
theorem wO{x y:V}{u:Value}(r:RelV y u)(f:iz y=true):qr x u=yf y x:=by
 cases y with
 |bu=>cases r;rfl
 |bl b=>cases r;rfl
 |int i=>obtain⟨t,rfl⟩:=r;rfl
 |str z=>obtain⟨t,rfl⟩:=r;rfl
 |_=>exact absurd (show false=true from f) cQ
theorem oj:∀{c:List V}{d:List Value},Vals c d->c.all iz=true->d.any (qr x)=c.any λy=>yf y x
 |_,_, .nil,_=>rfl
 |y::c,u::d, .cons r t,f=>by
  rw[u9,ub] at f;rw[afn,afn,wO r f.1,oj t f.2]
theorem j4(g:RelV x v)(h:iz x=true):∀{d:List V}{e:List Value},Vals d e->d.all iz=true->∀u∈e,SeqAt.EqAt A s u v (qr x u)
 |_,_, .nil,_=>λu c=>by cases c
 |y::d,u::e, .cons r t,f=>λi c=>by
  rw[u9,ub] at f
  rcases bT.mp c with rfl|c
  ·rw[wO r f.1];exact Rc r g f.1 h
  ·exact j4 g h t f.2 i c
def RE(x:V)(c:List V):Bool:=c.any λy=>yf y x
def XB(K:PySem.W.Frag)(neg:Bool):R2:=λx y H Q=>∃p c,y= .ref p/\(b0 K H p c\/fX K H p c)/\iz x=true/\c.all iz=true/\Q (.bl (if neg then !RE x c else RE x c)) H
theorem Jl:OpR X (compareOp .In) (XB X.K false):=by
 intro f s m H x y v u Q I g j h;rfl';obtain⟨p,o,rfl,d,i,fs,q⟩:=h;subst j;ac_rfl
 rcases d with d|d
 ·obtain⟨c,r,e,l⟩:=I.list d
  refine SeqAt.in_listAt (qr x) e.isList (λw hw=>j4 g i r fs w (by simpa using hw)) ⟨.bl _,H,I,rfl,?_⟩
  rw[show c.toArray.any (qr x)=c.any (qr x) by simp,oj r fs]
  exact q
 ·obtain⟨c,r,e,l⟩:=I.tuple d
  refine SeqAt.in_tupleAt (qr x) e (λw hw=>j4 g i r fs w (by simpa using hw)) ⟨.bl _,H,I,rfl,?_⟩
  rw[show c.toArray.any (qr x)=c.any (qr x) by simp,oj r fs]
  exact q
theorem Ai:OpR X (compareOp .NotIn) (XB X.K true):=by
 intro f s m H x y v u Q I g j h;rfl';obtain⟨p,o,rfl,d,i,fs,q⟩:=h;subst j;ac_rfl
 rcases d with d|d
 ·obtain⟨c,r,e,l⟩:=I.list d
  refine SeqAt.notIn_listAt (qr x) e.isList (λw hw=>j4 g i r fs w (by simpa using hw)) ⟨.bl _,H,I,rfl,?_⟩
  rw[show c.toArray.any (qr x)=c.any (qr x) by simp,oj r fs]
  exact q
 ·obtain⟨c,r,e,l⟩:=I.tuple d
  refine SeqAt.notIn_tupleAt (qr x) e (λw hw=>j4 g i r fs w (by simpa using hw)) ⟨.bl _,H,I,rfl,?_⟩
  rw[show c.toArray.any (qr x)=c.any (qr x) by simp,oj r fs]
  exact q
theorem zT:CallR X (.builtin "len") (λj H Q=>∃p d,j= [.ref p]/\(b0 X.K H p d\/fX X.K H p d)/\Q (.int d.length) H):=by
 intro k s o H j t Q I r h;rfl';obtain⟨p,d,rfl,e,q⟩:=h;obtain⟨u,rfl,m⟩:=vals1 r;subst m;have w:=mW;ac_rfl
 rcases e with e|e
 ·obtain⟨f,g,i,n⟩:=I.list e
  have c:=g.length;exact Calls.call_len_list i.isList (by simp only[di]<;>omega) ⟨.int d.length,H,I.tok _,⟨s.toks+1,by rw[di,c]⟩,q⟩
 ·obtain⟨f,g,i,n⟩:=I.tuple e
  have c:=g.length;exact len_tuple i (by simp only[di]<;>omega) ⟨.int d.length,H,I.tok _,⟨s.toks+1,by rw[di,c]⟩,q⟩
theorem qy:CallR X (.type "list") (λB H Q=>∃p f,B= [.ref p]/\(b0 X.K H p f\/fX X.K H p f)/\∀l,H l=none->Q (.ref l) (upd H l (.lst f))):=by
 intro j s E H B G Q I r h;obtain⟨p,f,rfl,k,q⟩:=h;obtain⟨u,rfl,F⟩:=vals1 r;subst F
 have fin:∀(c:List Value),Vals f c->f.length<=sizeLine->∀(d:Heap)(g:Nat),(∀b C,s.heap.get? b=some C->d.get? b=some C)->
   d.get? s.heap.objs.size=some {cls:= .type "list",dict:=none,data:= .seq c.toArray g,slots:= #[]}->EP X j E Q (.ref s.heap.objs.size) {s with heap:=d}:=λc i m d g t e=>
  ⟨.ref s.heap.objs.size,_,I.laid (t':=s.toks) t (bK _) (show cc X.prog X.w _ d _ (.lst f) from⟨m,c,g,i,e⟩),rfl,q _ (I.hok.fresh (bK _))⟩
 rcases k with k|k
 ·obtain⟨c,i,x,m⟩:=I.list k
  have v:=i.length;obtain⟨o,y,z,n,A⟩:=x.isList;exact call_list_seq p (.inl rfl) y z A (λd g t e=>fin c i m d g t e) (by simp only[di]<;>omega)
 ·obtain⟨c,i,x,m⟩:=I.tuple k
  have v:=i.length;obtain⟨o,y,z,n,A⟩:=x;exact call_list_seq p (.inr rfl) y z A (λd g t e=>fin c i m d g t e) (by simp only[di]<;>omega)
def Tq(K:PySem.W.Frag)(T:String)(x:V)(H:Hp):Prop:=match x with
 | .str _=>T="str"
 | .int _=>T="int"
 | .ref p=>(T="list"/\∃d,b0 K H p d)\/(T="tuple"/\∃o,K.lookup p=some o/\o.cls= .type "tuple"/\o.dict=none)\/
   (T="dict"/\((∃c,H p=some (.dK c))\/∃c,H p=some (.dT c)))\/(T="set"/\∃S n,H p=some (.set S n))
 |_=>False
theorem K0(I:Inv X g q H s)(r:RelV x v)(h:Tq X.K T x H):
  s.TypeIs v T/\∀a,v= .ref a->∃l,s.heap.get? a=some l/\l.dict=none:=by
 cases x with
 |str z=>
  obtain⟨t,rfl⟩:=r;cases(show T="str" from h);exact⟨typeIs_str s z t,λ_ e=>nomatch e⟩
 |int i=>
  obtain⟨t,rfl⟩:=r;cases(show T="int" from h);exact⟨typeIs_int s i t,λ_ e=>nomatch e⟩
 |ref p=>
  subst r
  rcases h with ⟨rfl,B,u⟩ | ⟨rfl,o,d,w,j⟩ | ⟨rfl,d⟩ | ⟨rfl,S,n,d⟩
  ·obtain⟨y,_,m,_⟩:=I.list u
   refine⟨m.isList.typeIs,λa e=>?_⟩;cases e;obtain⟨o,n,e,c,j,_⟩:=m;exact⟨o,e,j⟩
  ·refine⟨⟨o,I.cW p o d,w⟩,λa e=>?_⟩
   cases e;exact⟨o,I.cW _ o d,j⟩
  ·have z:∃o,s.heap.get? p=some o/\o.ExactDict:=by
    rcases d with ⟨A,d⟩ | ⟨A,d⟩
    ·obtain⟨_,_,_,_,o,_,_,e,f,_⟩:=I.hok p _ d
     exact⟨o,e,f⟩
    ·obtain⟨_,_,_,_,o,_,_,e,f,_⟩:=I.hok p _ d
     exact⟨o,e,f⟩
   obtain⟨o,e,f⟩:=z;refine⟨⟨o,e,f.1⟩,λa k=>?_⟩;cases k;exact⟨o,e,f.2.1⟩
  ·obtain⟨o,_,_,_,e,f,_⟩:=I.hok p _ d
   refine⟨⟨o,e,f.1⟩,λa k=>?_⟩;cases k;exact⟨o,e,f.2.1⟩
 |_=>exact False.elim h
def ady(K:PySem.W.Frag)(T:String)(r:V->List V->Hp->VK->Prop)(d:TE):TE:=λe H Q=>d e H λx c=>Tq K T x c/\r x [] c Q
def tBM(K:PySem.W.Frag)(T:String)(r:V->List V->Hp->VK->Prop)(e:TE)(t:TA):TE:=λc H Q=>e c H λx d=>Tq K T x d/\t c d λf g=>r x f g Q
variable {o e:Expr} {es:List Expr} {to:TE} {t:TA} {name:Str} {apos aN:Pos} {T id:String} {r:V->List V->Hp->VK->Prop}
theorem Sj(i:PlainAttrs T)(slot:Slot T name id)(j:typeOf (.builtin id)=pure (.type "method_descriptor"))(k:QK X id r)(l:PE X o to)
  (m:attributeBase o name X.env (eval o X.env)=eval o X.env:=by rfl) (n:(apos.endLine==aN.line)=true:=by rfl):PE X (.Call (.Attribute o name apos) [] [] aN) (ady X.K T r to):=by
 intro c s d H Q I h;refine wpAny_Call_method0_late m n (thn (l c s d H _ I h) λv p q=>?_);rfl';obtain⟨x,w,f,g,y,z⟩:=q;obtain⟨A,B⟩:=K0 f g y;ac_rfl;exact⟨T,id,i,slot,j,A,B,aeE rfl (PySem.evalArgs_none (k c p d w x [] v [] Q f g .nil z))⟩
theorem y6(l:PlainAttrs T)(slot:Slot T name id)(m:typeOf (.builtin id)=pure (.type "method_descriptor"))(n:QK X id r)(p:PE X o to)(q:PA X (e::d) t)
  (u:attributeBase o name X.env (eval o X.env)=eval o X.env:=by rfl)
  (w:((backTo f (starEach (e::d) X.env)).all (λx=>!x.1)&&(backToKw f (keywordEach [] X.env)).all (λx=>x.1.isSome)
   &&decide ((e::d).length+([]:List Keyword).length+(if ([]:List Keyword).isEmpty then 0 else 1)<30))=true:=by rfl)
  (y:(apos.endLine==f.line)=true:=by rfl) (z:starEach (e::d) X.env=(false,eval e X.env)::starEach d X.env:=by rfl) (A:(backTo f (starEach d X.env)).any (·.1)=false:=by rfl):
  PE X (.Call (.Attribute o name apos) (e::d) [] f) (tBM X.K T r to t):=by
 intro c s g H Q I h;refine afV u w y rfl (thn (p c s g H _ I h) λv B C=>?_);rfl';obtain⟨x,F,i,j,G,J⟩:=C;obtain⟨L,M⟩:=K0 i j G;ac_rfl;refine⟨T,id,l,slot,m,L,M,?_⟩;have k:=q f c B g F _ i J;rw[z] at k ⊢;refine aeE (by show(false|| (backTo f (starEach d X.env)).any (·.1))=false;rw[A]<;>rfl) (Calls.evalArgs_plain ?_)
 exact thn k λN O ⟨R,U,Y,Z,a⟩=>n c O g U x R v N Q Y j Z a
end
def QJ(X:Cx)(id:String)(r:V->List V->Hp->VK->Prop):Prop:=
 ∀(a:List (Addr×Obj))(s:Shared)(b:St)(H:Hp)(x:V)(c:List V)(v:Value)(d:List Value)(Q:VK),Inv X a b H s->RelV x v->Vals c d->r x c H Q->
  wpAny (model X.prog X.w) X.A (call (.builtin id) (v::d)) (EP X a b Q) X.xe s
theorem Vals.one(h:Vals [x] a):∃u,a= [u]/\RelV x u:=by
 cases h with|cons r t=>cases t;exact⟨_,rfl,r⟩
theorem Vals.two(h:Vals [x,y] a):∃u v,a= [u,v]/\RelV x u/\RelV y v:=by
 cases h with
 |cons r t=>
  obtain⟨v,rfl,q⟩:=Vals.one t;exact⟨_,v,rfl,r,q⟩
theorem Vals.zero:∀{a:List Value},Vals [] a->a= []
 |_, .nil=>rfl
theorem Vals.dropLast(h:Vals a b):Vals a.dropLast b.dropLast:=by
 induction h with
 |nil=>exact .nil
 |cons r t c=>
  cases t with
  |nil=>exact .nil
  |cons q d=>exact .cons r c
theorem Vals.rep(h:Vals a b):∀k:Nat,Vals (List.replicate k a).flatten (List.replicate k b).flatten
 |0=> .nil
 |k+1=>by
  rw[zK,zK,jA,jA];exact Vals.append h (Vals.rep h k)
theorem E9(l:List c):l.eraseIdx (l.length-1)=l.dropLast:=by
 induction l with
 |nil=>rfl
 |cons a r d=>
  cases r with
  |nil=>rfl
  |cons b r=>
   have e:(a::b::r).length-1=((b::r).length-1)+1:=by
    have f:(a::b::r).length=r.length+2:=rfl;have g:(b::r).length=r.length+1:=rfl;omega
   rw[e,aez,d]
   all_goals rfl
theorem foldl_rep(a:List Value):∀(k:Nat)(b:List Value),
  List.foldl (λc d=>c++d) b.toArray (List.replicate k a.toArray)=(b++(List.replicate k a).flatten).toArray
 |0,b=>by simp
 |k+1,b=>by
  have e:b.toArray++a.toArray=(b++a).toArray:=by simp
  have f:(b++a)++(List.replicate k a).flatten=b++(List.replicate (k+1) a).flatten:=by
   rw[zK,jA,jP]
  rw[<-f,<-foldl_rep a k (b++a),<-e,zK,List.foldl_cons]
section
variable {X:Cx} {pins:List (Addr×Obj)} {σ:St} {H:Hp} {s:Shared} {l b:Addr} {xs ys zs:List V}
theorem Inv.OQ{its its':List Value}{f:Array Value->Array Value}(I:Inv X pins σ H s)(a:H l=some (.lst xs))
  (e:s.heap.get? l=some {cls:= .type "list",data:= .seq its.toArray n}) (c:f its.toArray=its'.toArray) (d:Vals ys its') (g:ys.length<=sizeLine):
  Inv X pins σ (upd H l (.lst ys)) {s with heap:=s.heap.update l (Obj.mapSeq f),toks:=t'}:=by
 have q:=PySem.IsL.update e f;rw[c] at q;refine I.write (x:=l) (e:=l) (by rw[a];exact trivial) (.inl rfl) (λj u h i=>(GE s.heap (Obj.mapSeq f) (Ne.symm h)).trans i) ⟨_,q⟩ ?_
 exact⟨g,its',_,d,q⟩
theorem Inv.Ky{its:List Value}{t':Nat}(I:Inv X pins σ H s)(a:Vals ys its)(c:ys.length<=sizeLine):
  Inv X pins σ (upd H s.heap.objs.size (.lst ys)) {s with heap:=s.heap.push {cls:= .type "list",data:= .seq its.toArray},toks:=t'}:=
 I.laid (λ_ _ q=>Da _ q) (bK _) ⟨c,its,0,a,FS _ rfl⟩
theorem Inv.fresh(I:Inv X pins σ H s):H s.heap.objs.size=none:=I.hok.fresh (bK _)
theorem Inv.vN(I:Inv X pins σ H s)(a:H l=some (.lst xs)):xs.length<=sizeLine/\∃(its:List Value)(n:Nat),Vals xs its/\xs.length=its.length/\s.heap.get? l=some {cls:= .type "list",data:= .seq its.toArray n}:=by
 obtain⟨z,its,n,r,e⟩:=I.hok l _ a;exact⟨z,its,n,r,r.length,e⟩
theorem LX(h:n<=sizeLine):Builtin.List.listTooLong n=false:=by
 unfold Builtin.List.listTooLong;exact Gc (by omega)
end
section
variable {X:Cx}
def PM:V->List V->Hp->VK->Prop:=λx b H Q=>∃l a y,x= .ref l/\b= [y]/\H l=some (.lst a)/\a.length<sizeLine/\Q .bu (upd H l (.lst (a++ [y])))
theorem kq:QJ X "list.append" PM:=by
 intro b s j H x k v m Q I d f h;rfl';obtain⟨l,p,y,rfl,rfl,c,t,q⟩:=h;subst d;obtain⟨u,rfl,i⟩:=f.one;obtain⟨z,a,n,r,w,e⟩:=I.vN c;ac_rfl;refine aew F.slot_list_append ⟨_,e,rfl⟩ F.entry_list_append (F.args_list_append_2 _ _) (PySem.list_append l a.toArray n u (by rw[di];omega)) ⟨e,?_⟩
 refine⟨.bu,_,I.OQ (its':=a++ [u]) c e (by simp) (r.append (.cons i .nil)) ?_,rfl,q⟩
 rw[cI,BC];omega
def acS:V->List V->Hp->VK->Prop:=λx b H Q=>∃l a y,x= .ref l/\b= []/\H l=some (.lst a)/\a[a.length-1]? =some y/\Q y (upd H l (.lst a.dropLast))
theorem RY:QJ X "list.pop" acS:=by
 intro c s t H x w v A Q I f g h;rfl';obtain⟨l,C,y,rfl,rfl,d,j,q⟩:=h;subst f;have b:=g.zero;subst b;obtain⟨z,a,n,r,k,e⟩:=I.vN d;obtain⟨u,m,o⟩:=r.get j;ac_rfl
 have p:a.toArray[a.toArray.size-1]? =some u:=by
  show a.toArray[a.length-1]? =some u;rw[<-mM,<-k];exact m
 refine aew F.slot_list_pop ⟨_,e,rfl⟩ F.entry_list_pop (F.args_list_pop_1 _) (MeetsSeq.list_pop_last l a.toArray n u p (by rw[di];omega)) ⟨e,?_⟩
 refine⟨y,_,I.OQ (its':=a.dropLast) d e ?_ r.dropLast ?_,o,q⟩
 ·show a.toArray.eraseIdxIfInBounds (a.toArray.size-1)=a.dropLast.toArray
  rw[di,List.eraseIdxIfInBounds_toArray,E9]
 ·rw[List.length_dropLast]
  omega
def acO:R2:=λx y H Q=>∃l b a c,x= .ref l/\y= .ref b/\H l=some (.lst a)/\H b=some (.lst c)/\a.length+c.length<=sizeLine/\∀p,H p=none->Q (.ref p) (upd H p (.lst (a++c)))
theorem KG:OpR X (binaryOp .Add) acO:=by
 intro c s t H x y v u Q I f g h;rfl';obtain⟨l,b,A,B,rfl,rfl,j,k,C,q⟩:=h;subst f;subst g;obtain⟨z,a,n,r,E,e⟩:=I.vN j;obtain⟨F,d,G,m,J,o⟩:=I.vN k;ac_rfl;refine PySem.P.add_list e o ?_ (by rw[di,di];omega)
 have p:a.toArray++d.toArray=(a++d).toArray:=by simp
 rw[p];exact⟨.ref _,_,I.Ky (t':=s.toks) (r.append m) (by rw[cI];omega),rfl,q _ I.fresh⟩
def acT:R2:=λx y H Q=>∃l k a,x= .ref l/\y= .int k/\H l=some (.lst a)/\-(2^63)<=k/\k<2^63/\a.length*k.toNat<=sizeLine/\
 ∀p,H p=none->Q (.ref p) (upd H p (.lst (List.replicate k.toNat a).flatten))
theorem len_rep(a:List b)(k:Nat):(List.replicate k a).flatten.length=k*a.length:=by
 induction k with
 |zero=>simp
 |succ k c=>rw[zK,jA,cI,c,af9,afB]
theorem Sg:OpR X (binaryOp .Mult) acT:=by
 intro o s O H x y v u Q I w A h;rfl';obtain⟨l,k,Y,rfl,rfl,C,E,G,p,q⟩:=h;subst w;obtain⟨t,rfl⟩:=A;obtain⟨z,b,n,r,J,e⟩:=I.vN C;have c:b.toArray.size*k.toNat<=sizeLine:=by rw[di,<-J];exact p
 ac_rfl
 have d:¬b.toArray.size*k.toNat>(2^63-1) / 8:=by
  have:(sizeLine:Nat)<=(2^63-1) / 8:=by decide
  omega
 have f:¬(!Builtin.List.listFitsIndex k)=true:=by
  rw[fitsIndex_both E G];exact cQ
 have L:¬Builtin.List.listTooLong (b.toArray.size*k.toNat)=true:=by
  rw[LX c];exact cQ
 have g:List.foldl (λi j=>i++j) #[] (List.replicate (if b.toArray.isEmpty=true then 0 else k.toNat) b.toArray)=(List.replicate k.toNat b).flatten.toArray:=by
  have M:∀m:Nat,List.foldl (λi j=>i++j) #[] (List.replicate m b.toArray)=(List.replicate m b).flatten.toArray:=λm=>by
   have:=foldl_rep b m []
   rw[nX] at this;exact this
  rw[M];cases b with
  |nil=>simp
  |cons a Z=>rw[AC (by simp)]
 refine wpAny_binaryOp_repeat_ref (T:="list") (U:="int") (by decide) ⟨_,e,rfl⟩ (λN=>typeIs_int N k t) noFill_list_mul F.fills_int_mul F.slot_int_rmul repeat_list F.slot_int_index.lookup
  (aew F.slot_int_rmul (typeIs_int s k t) F.entry_int_rmul (F.args_int_rmul_2 _ _) (int___rmul___int_list k t l b.toArray n)
   ⟨e,rfl,⟨_,e,rfl⟩,aew F.slot_list_mul ⟨_,e,rfl⟩ F.entry_list_mul (F.args_list_mul_2 _ _) (AutoListH.list___mul___list_int_3 l b.toArray n k t f d L) ⟨e,?_⟩⟩)
 rw[g];exact⟨.ref _,_,I.Ky (t':=s.toks) (r.rep k.toNat) (by rw[len_rep,Nat.mul_comm];exact p),rfl,q _ I.fresh⟩
end
section
variable {prog:Program} {w:World} {A:Around} {E:Value->Shared->Prop} {s:Shared}
end
section
variable {X:Cx}
end
end L2
namespace Yf
open PySem PySem.W PySem.Calls PyProof.Rows
theorem uC:∀(c:List Int)(d:List Value),WellAll P h d (c.map WData.int)->IntsAre d c:=by
 intro c
 induction c with
 |nil=>
  intro d w;rw[ae5] at w;cases w;exact .nil
 |cons n c e=>
  intro d w;rw[dF] at w;cases w with
  |cons a b=>
   cases a;exact .cons _ _ (e _ b)
theorem JC{l:OpenLaw}{n:Nat}(m:l.most=some n){P:Params}{h:Heap}{args:List WData}{vals:List Value}
  (i:l.row.toRowW.claim.pre args=true) (o:WellAll P h vals args):
  ∃a j b,vals= [Value.ref a]/\args= [WData.list (b.map WData.int)]/\h.get? a=some {cls:= .type "list",data:= .seq j.toArray}/\IntsAre j b/\b.length<=n:=by
 have g:WShape.hasAll [] args [.list .int]=true:=(pre_splitW i).1;have k:l.pre.holds [] {args:=args}=true:=(pre_splitW i).2;obtain⟨d,r,rfl,p,s⟩:=hasAllW_cons g;obtain rfl:=hasAllW_nil s;obtain⟨z,rfl,t⟩:=hasW_list p;obtain⟨b,rfl⟩:=items_int t
 have c:b.length<=n:=by
  unfold OpenLaw.pre at k
  have e:(WTm.not (.lt (.lit (.int (n:Int))) (.len (.arg 0)))).holds [] {args:= [.list (b.map .int)]}=true:=by
   have e:=(holds_andW k).1;rw[m] at e;exact e
  have f:=condW_of e (w_not (w_lt w_lit (w_len_list (w_arg rfl))));rw[aP] at f;refine gj λq=>?_;have u:(n:Int)<((b.length:Nat):Int):=by omega
  first
   | (rw[A u] at f;exact absurd f (by decide))
   | (simp at f;omega)
 cases o with
 |cons v w=>
  cases w;cases v with
  |list x y=>exact⟨_,_,b,rfl,rfl,x,uC b _ y,c⟩
theorem Jq(l:OpenLaw)(args:List WData):l.row.toRowW.claim.post args (.bool true) args=true:=
 postW_of (r:=l.row.toRowW) (X:=(true==true))
  (show WShape.has [] (.bool true) .bool=true by first|rfl|decide|simp[WShape.has,WShape.arms,WShape.armsAll])
  (show(WTm.eq .res (.lit (.bool true))).value [] {args:=args,res:=some (.bool true),after:=args}=some (.bool (true==true)) from w_eq_bool (w_res rfl) w_lit) rfl
theorem BV{l:OpenLaw}{n:Nat}{q:Program}{c:List Str}{x:(Str->Option Value)->Heap->Prop}{y:World->Heap->Prop}{d:DefRec}
  (B:l.most=some n) (C:d.params.defaults= [])
  (call:∀(w:World)(e b:Shared)(m u:Str->Option Value)(j:Addr)(o:Obj)(v p g:Value)(a:Addr)(i:List Value)(s:List Int),
   Ground q c [] x w e m u b.heap->y w b.heap->
   b.heap.get? j=some o->o.data= .func (docDef d.name d.params d.body d.scope v p g)->b.heap.CodeRec p d.name->m d.name=some (.ref j)->
   b.heap.get? a=some {cls:= .type "list",data:= .seq i.toArray}->IntsAre i s->s.length<=n->b.gens= #[]->
   codeAny (model l.prog w) callerA (.call (.ref j) ⟨[.ref a],[]⟩) (λr t=>r= .ok (.ret (.bool true))/\OldK b.heap t.heap/\t.os=b.os/\AllBare t.gens) b):
  WalkO q c x y l.row.toRowW d [] (λf i=>PySem.call f i):=by
 intro w e b m u G Y j o v p g E kV F H I z J L A vals as M N O Q R;obtain rfl:E= .none:=Dflts.none z C;obtain rfl:kV= .none:=Dflts.noKw z;rfl';obtain⟨a,i,s,rfl,rfl,U,h,k⟩:=JC B M Q;ac_rfl;refine enter_call (adv (call w e b m u j o v p g a i s G Y F (fd_plain H) I J U h k L) λr t X=>?_);obtain⟨rfl,Z,h3,h4⟩:=X;exact⟨.inl ⟨.bool true, .bool true,[],rfl,λ_=>rfl, .bool true,Jq l _,λ_=>⟨List.Pairwise.nil,λ_ hm=>(nomatch hm)⟩⟩,Z,h3,h4⟩
section
variable {prog:Program} {w:World} {A:Around} {E:Value->Shared->Prop} {s:Shared} {K:Frag}
end
end Yf
namespace L2
open PySem PySem.Spec PyProof.Rows
theorem zA:∀{a:List Value}{b:List Int},IntsAre a b->Vals (b.map V.int) a
 |_,_, .nil=> .nil
 |_,_, .cons n t h=> .cons ⟨t,rfl⟩ (zA h)
def MN(H:Hp):Prop:=∀b,H b=none\/∃o a,H b=some (.qs o (.lst a))
theorem LM{P:Program}{w:World}{K:PySem.W.Frag}{l G:Str->Option Value}{Q:n5}{k:Nat}{I a:Addr}{R:FuncData}{x:Str}{T:Sp}{c:Shared}{j:List Value}{p:List Int}
  (U:K.In c.heap) (X:c.heap.Ns mainGlobals l) (f:c.heap.Ns builtinsNs G) (z6:∀x:Str,x≠"__name__"->G x=bootBuiltins x) (J:c.heap.NoLimit) (hg:c.gens= #[])
  (C:c.heap.get? a=some {cls:= .type "list",data:= .seq j.toArray}) (Y:IntsAre j p) (Z:p.length<=sizeLine) (hr:bW k callerA)
  (F:∀base:Heap,K.In base->base.Ns mainGlobals l->FnOk P w K l base Q k I R [x] T) (Wv:∀(s:Shared)(u:Value),BindsTo s R ⟨[u],[]⟩ [(x,u)])
  (uz:∀H:Hp,MN H->b0 K H a (p.map V.int)->T [.ref a] H (λv _=>v= .bl true) λ_ _ _=>False)
  (Wq:∀H e g,Q [] H c (λ_ _ _=>False) e g->False):
  codeAny (model P w) callerA (.call (.ref I) ⟨[.ref a],[]⟩) (λr g=>r= .ok (.ret (.bool true))/\OldK c.heap g.heap/\g.os=c.os/\AllBare g.gens) c:=by
 have rv:=zA Y;have L:=Y.length
 have i:∀H:Hp,MN H->b0 K H a (p.map V.int)->gK P w H c.heap->(∀b,H b≠none->b=a)->(H a≠none->K.lookup a=none)->
   codeAny (model P w) callerA (.call (.ref I) ⟨[.ref a],[]⟩) (λr g=>r= .ok (.ret (.bool true))/\OldK c.heap g.heap/\g.os=c.os/\AllBare g.gens) c:=by
  intro H hO hS hok hA hK;have EA:∀{b:Addr}{o:Obj},c.heap.get? b=some o->H b=none->(sT c.heap H).get? b=some o:=λe n=>LG e n
  have OX:∀{b:Addr}{o:Obj}{t:Array DictEntry}{y:Nat},c.heap.get? b=some o->o.data= .dict t y->H b=none:=λ {b o t y} e d=>by
   cases q:H b with
   |none=>rfl
   |some u=>
    have M:b=a:=hA b (by rw[q];simp)
    subst M;rw[C] at e;cases e;have d':Data.seq j.toArray _=Data.dict t y:=d;cases d'
  have E:∀{b:Addr}{m:Str->Option Value},c.heap.Ns b m->(sT c.heap H).Ns b m:=λ {b m} ⟨o,t,y,e,d,r⟩=>⟨o,t,y,EA e (OX e d),d,r⟩
  have A:K.In (sT c.heap H):=λb o e=>EA (U b o e) (by
   cases q:H b with
   |none=>rfl
   |some u=>
    have M:b=a:=hA b (by rw[q];simp)
    subst M;rw[hK (by rw[q];simp)] at e;cases e)
  have hM:Mod K l (sT c.heap H):=⟨A,E X,⟨G,E f,z6⟩,let ⟨mc,h1,h2⟩:=J;⟨mc,E h1,h2⟩⟩;have e0:Env0 P w K l (sT c.heap H) callerA [] c H:=⟨rfl,hM,λb o e=>O1 e,Nat.le_of_eq (Ib _ _),trivial,λb f=>absurd (show b∈([]:List Addr) from f) (by simp),hok, .of_eq hg⟩
  refine adv ((F _ A (E X)).run callerA [] c H ⟨[.ref a],[]⟩ [.ref a] [.ref a] _ _ hr e0 (Wv c (.ref a)) (.cons rfl .nil) (uz H hO hS)) λr g h=>?_;cases r with
  |error e=>exact(Wq H e g h).elim
  |ok fl=>
   cases fl with
   |next=>exact False.elim h
   |brk=>exact False.elim h
   |cont=>exact False.elim h
   |ret u=>
    rfl';obtain⟨v,H',os,bare,un,N,r',q⟩:=h;have q':v= .bl true:=q;subst q';ac_rfl;obtain rfl:u=Value.bool true:=r';refine⟨rfl,OldK.of_keep λb o e=>?_,os,bare⟩;cases q:H b with
    |none=>exact un.keep b o e q (by intro z;exact absurd (show b∈([]:List Addr) from z) (by simp)) (by simp)
    |some u=>
     rcases hO b with z| ⟨ob,xs,z⟩
     ·rw[q] at z;cases z
     ·have z2:=un.frzs b ob _ z
      obtain⟨e1,_⟩:=hok b _ z;obtain⟨e2,_⟩:=N b _ z2;rw[e] at e1;cases e1;exact e2
 cases O:K.lookup a with
 |some o=>
  have e:=U a o O;rw[C] at e;cases Do e;refine i (λ_=>none) (λ_=> .inl rfl) (.inr ⟨_,j.toArray,_,O,rfl,rfl,rfl,by rw[di,L];exact Z,by simpa using rv⟩) (λb u z=>by have B:(none:Option HO)=some u:=z;cases B) (λb z=>absurd rfl z) λz=>absurd rfl z
 |none=>
  refine i (λb=>if b=a then some (.qs {cls:= .type "list",data:= .seq j.toArray} (.lst (p.map V.int))) else none) (λb=>?_) (.inl (.inr ⟨{cls:= .type "list",data:= .seq j.toArray},tz rfl⟩)) (λb u z=>?_) (λb z=>?_) λ_=>O
  ·by_cases f:b=a
   ·exact .inr ⟨_,_,tz f⟩
   ·exact .inl (AC f)
  ·by_cases f:b=a
   ·have B:=(tz f).symm.trans z
    obtain rfl:=Do B;subst f;exact⟨C,by rw[aP];exact Z,j,_,rv,C⟩
   ·have B:=(AC f).symm.trans z
    cases B
  ·by_cases f:b=a
   ·exact f
   ·exact absurd (AC f) z
theorem Qx{l:PySem.W.OpenLaw}{n k:Nat}{q:Program}{i:List Str}{I:(Str->Option Value)->Heap->Prop}{A:World->Heap->Prop}{d:DefRec}{K:Params->PySem.W.Frag}{CX:World->n5}{sp:World->Sp}{x:Str}
  (J:l.most=some n) (L:n<=sizeLine) (M:d.params.defaults= []) (N:bW k callerA)
  (O:∀(w:World)(h:Heap),A w h->(K w.params).In h)
  (F:∀(w:World)(m:Str->Option Value)(r:Addr)(h:Heap),(K w.params).In h->h.Ns mainGlobals m->m d.name=some (.ref r)->
   ∃y:FuncData,(∀(s:Shared)(u:Value),BindsTo s y ⟨[u],[]⟩ [(x,u)])/\
    ∀base:Heap,(K w.params).In base->base.Ns mainGlobals m->FnOk l.prog w (K w.params) m base (CX w) k r y [x] (sp w))
  (Q:∀(w:World)(H:Hp)(a:Addr)(t:List Int),t.length<=n->MN H->b0 (K w.params) H a (t.map V.int)->sp w [.ref a] H (λv _=>v= .bl true) λ_ _ _=>False)
  (R:∀(w:World)(H:Hp)(s:Shared)(e:Value)(z:Shared),CX w [] H s (λ_ _ _=>False) e z->False):
  PySem.W.WalkO q i I A l.row.toRowW d [] (λf B=>PySem.call f B):=by
 refine Yf.BV J M λw C p m mb r o pm cd U a B t G Y ho hd eS X Z j c hg=>?_;have E:=O w _ Y;obtain⟨y,hb,hF⟩:=F w m r _ E G.T.g X;exact LM E G.T.g G.T.b G.T.builtins G.T.nolimit hg Z j (fK c L) N hF hb (λH hO hS=>Q w H a t c hO hS) λH e z=>R w H p e z
def inClass(s:Stmt)(j:Nat):Stmt:=match s with
 | .ClassDef _ _ _ body _ _ _ _ _ _ _=>body.getD j (.Pass ⟨0,0,0,0⟩)
 |_=> .Pass ⟨0,0,0,0⟩
def kc(s:Stmt):Arguments:=match s with
 | .FunctionDef _ a _ _ _ _ _ _ _ _=>a
 |_=>{posonlyargs:= [],args:= [],vararg:=none,kwonlyargs:= [],kw_defaults:= [],kwarg:=none,defaults:= []}
def eI(s:Stmt):List Stmt:=match s with
 | .FunctionDef _ _ b _ _ _ _ _ _ _=>b
 |_=> []
def ar(s:Stmt):Scope:=match s with
 | .FunctionDef _ _ _ _ _ _ sc _ _ _=>sc
 |_=>{kind:= .function,names:= [],isGenerator:=false,isCoroutine:=false}
abbrev bZ:n5:=λ_ _ _ _ _ _=>False
abbrev E0:XK:=λ_ _ _=>False
theorem uU:Passes bZ X E0:=λ_ _ _ _ _ _ _ h=>h.elim
structure oh (K:PySem.W.Frag) (x qual:Str) (st:Stmt) (f:Addr) (fd:FuncData):Prop where
 ex:∃(oc:Value)(od:Option Addr)(kV doc pm:Value)(an:Option Addr)(bb ct:Value)(Aj:Array (Option Value)),
  fd=PySem.W.fnOf x qual (kc st) (eI st) (ar st) .none kV doc pm an bb ct/\K.lookup f=some ⟨oc,od, .func fd,Aj⟩/\PySem.W.codeIn K bb qual=true
 kp:PySem.W.keepIn K (.ref f)=true
section
variable {P:Program} {w:World} {K:PySem.W.Frag} {mg:Str->Option Value} {base:Heap}
theorem oh.ok{x a:Str}{st:Stmt}{f:Addr}{e:FuncData}{N c:List Str}{k:Nat}{d:Sp}(F:oh K x a st f e)(S:aD N c (ar st))(len:∀vs H Q E,d vs H Q E->vs.length=c.length)
  (g:∀(b:Value)(A:Around)(outer:List Env)(s:Shared)(H:Hp)(vs:List V)(Q:VK)(E:XK),bW k (A.deeper (envOfC a (ar st) s.heap.objs.size f b))->d vs H Q E->
   ∃t,kH (j9 bZ P w K mg base N a (ar st) f b A outer s H E).lK (eI st) t/\t {nx:=λ_ i=>Q .bu i,rt:=Q} (start N vs) H):FnOk P w K mg base bZ (k+1) f e c d:=by
 rfl';obtain⟨u,v,kV,l,y,z,b,B,C,rfl,m,n⟩:=F.ex;ac_rfl;refine NL m n S len λA outer s H vs Q E o p=>?_;obtain⟨t,h,q⟩:=g b A outer s H vs Q E o p;exact⟨t,h.lK,q⟩
theorem oh.binds{st:Stmt}{ps:List Str}(F:oh K x a st f j)
  (h:∀(kV b c:Value)(d:Option Addr)(e g:Value)(i:List Value),i.length=ps.length->bindArgs (PySem.W.fnOf x a (kc st) (eI st) (ar st) .none kV b c d e g) ⟨i,[]⟩=pure (ps.zip i)):Binds K j ps []:=by
 rfl';obtain⟨m,n,kV,b,c,d,e,g,o,rfl,p,q⟩:=F.ex;ac_rfl;exact .all (h kV b c d e g)
theorem jT{x a:Str}{st:Stmt}{f:Addr}{i:Value}{j e:Option Addr}{m:Array (Option Value)}{kV b g d h:Value}(l:K.lookup f=some ⟨i,j, .func (PySem.W.fnOf x a (kc st) (eI st) (ar st) .none kV b g e d h),m⟩)
  (c:PySem.W.codeIn K d a=true) (k:PySem.W.keepIn K (.ref f)=true):oh K x a st f (PySem.W.fnOf x a (kc st) (eI st) (ar st) .none kV b g e d h):=⟨⟨i,j,kV,b,g,e,d,h,m,rfl,l,c⟩,k⟩
end
theorem cj(h:n<=1000):n<sizeLine:=BD h (by decide)
section
variable {X:Cx}
theorem pv(i:Nat)(b:X.N[i]? =some x:=by rfl)(c:mh X.env.scope x:=by first|exact Or.inl rfl|exact Or.inr (Or.inl rfl) |exact Or.inr (Or.inr rfl))(d:(x==("__debug__":Str))=false:=by decide)
  (e:(x==("__classdict__":Str))=false:=by decide):PE X (.Name x a) (UX i):=DH b c d e
end
theorem bS{A B:Prop}(h:B):if false=true then A else B:=by
 rw[AC cQ];exact h
theorem dq{A B:Prop}(h:A):if true=true then A else B:=by
 rw[tz rfl];exact h
def aU(H a:Hp):Prop:=∀b o,H b=some o->a b=some o
theorem aU.refl(H:Hp):aU H H:=λ_ _ h=>h
theorem aU.trans{H d e:Hp}(a:aU H d)(b:aU d e):aU H e:=λc o h=>b c o (a c o h)
theorem aU.free(e:aU H a)(h:a l=Option.none):H l=Option.none:=by
 cases q:H l with
 |none=>rfl
 |some o=>
  rw[e l o q] at h;cases h
def jL(env:Env):List (Str×NameKind)->List (Str×Addr)->List (Str×Addr)
 | [],a=>a
 | (n,k)::r,a=>if k==NameKind.free then jL env r ((n,(env.cells.lookup n).getD 0)::a) else jL env r a
theorem f7(h:∀x∈b.names,x.2= .free->∃c,env.cells.lookup x.1=some c):closureFor b env=pure (jL env b.names []):=by
 simp only[closureFor]
 have j:∀(names:List (Str×NameKind))(d:List (Str×Addr)),(∀x∈names,x.2= .free->∃c,env.cells.lookup x.1=some c)->
   (forIn names d λx e=>if (x.snd==NameKind.free)=true then(do let a <-cellOf env x.fst;pure (ForInStep.yield ((x.fst,a)::e))) else pure (ForInStep.yield e))=(pure (jL env names d):Sem _):=by
  intro names
  induction names with
  |nil=>intro d _;rfl
  |cons x r l=>
   obtain⟨n,k⟩:=x;intro d h;rw[List.forIn_cons,jL];have f:=λd=>l d λy m=>h y (bU _ m);cases g:k==NameKind.free with
   |false=>
    simp only[g,gW,PP];exact f d
   |true=>
    have o:k= .free:=by simpa using g
    obtain⟨c,i⟩:=h (n,k) bO o;simp only at i;simp only[aem,cellOf,i];exact f _
 rw[j _ _ h];rfl
theorem fZ:∀(names:List (Str×NameKind))(a:List (Str×Addr)),(∀x∈names,x.2= .free->∃c,env.cells.lookup x.1=some c)->(∀x c,a.lookup x=some c->env.cells.lookup x=some c)->
  ∀x c,(jL env names a).lookup x=some c->env.cells.lookup x=some c
 | [],a,_,b=>b
 | (n,k)::r,a,h,b=>by
  rw[jL]
  split
  ·rename_i g
   refine fZ r _ (λy d=>h y (bU _ d)) λx c e=>?_;obtain⟨l,f⟩:=h (n,k) bO (by simpa using g)
   rw[uc] at e
   split at e
   ·rename_i i
    have j:x=n:=by simpa using i
    subst j;simp only at f;rw[f] at e ⊢;exact e
   ·exact b x c e
  ·exact fZ r a (λy d=>h y (bU _ d)) b
theorem p7{env:Env}:∀(names:List (Str×NameKind))(a:List (Str×Addr))(x:Str),((x,NameKind.free)∈names\/∃c,a.lookup x=some c)->∃c,(jL env names a).lookup x=some c
 | [],a,x,h=>by
  rcases h with h|h
  ·cases h
  ·exact h
 | (n,k)::r,a,x,h=>by
  rw[jL]
  split
  ·rename_i b
   refine p7 r _ x ?_
   by_cases e:x=n
   ·subst e;exact .inr ⟨(env.cells.lookup x).getD 0,by simp[uc]⟩
   ·have ne:(x==n)=false:=by simpa using e
    rcases h with h| ⟨c,h⟩
    ·rcases bT.mp h with z|z
     ·cases z;exact absurd rfl e
     ·exact .inl z
    ·exact .inr ⟨c,by rw[uc,ne];exact h⟩
  ·rename_i b
   refine p7 r a x ?_
   rcases h with h|h
   ·rcases bT.mp h with z|z
    ·cases z;exact absurd rfl b
    ·exact .inl z
   ·exact .inr h
def nU(src:List (Option Nat))(a:St):St:=src.map λo=>o.bind λi=>(a[i]?).bind id
def dj(a:Scope)(b:List Str):List (Option Nat)->List Str->Prop
 | [],[]=>True
 |none::r,_::n=>dj a b r n
 |some i::r,x::n=>b[i]? =some x/\a.names.lookup x=some .free/\dj a b r n
 |_,_=>False
theorem dj.len:∀{src:List (Option Nat)}{NC:List Str},dj a b src NC->src.length=NC.length
 | [],[],_=>rfl
 |none::r,_::n,h=>by have:=dj.len (src:=r) (NC:=n) h;simp[this]
 |some i::r,_::n,h=>by have:=dj.len (src:=r) (NC:=n) h.2.2;simp[this]
 | [],_::_,h=>h.elim
 |none::_,[],h=>h.elim
 |some _::_,[],h=>h.elim
theorem dj.at{a:Scope}{d:List Str}:∀{src:List (Option Nat)}{NC:List Str}{j i:Nat}{x:Str},dj a d src NC->src[j]? =some (some i)->NC[j]? =some x->d[i]? =some x/\a.names.lookup x=some .free
 | [],[],_,_,_,_,h,_=>by simp at h
 |none::r,_::n,0,_,_,_,h,_=>by simp at h
 |none::r,_::n,j+1,i,x,h,b,c=>dj.at (src:=r) (NC:=n) (j:=j) h (by simpa using b) (by simpa using c)
 |some k::r,y::n,0,i,x,h,b,c=>by
  have e:k=i:=by simpa using b
  have f:y=x:=by simpa using c
  subst e f;exact⟨h.1,h.2.1⟩
 |some k::r,_::n,j+1,i,x,h,b,c=>dj.at (src:=r) (NC:=n) (j:=j) h.2.2 (by simpa using b) (by simpa using c)
 | [],_::_,_,_,_,h,_,_=>h.elim
 |none::_,[],_,_,_,h,_,_=>h.elim
 |some _::_,[],_,_,_,h,_,_=>h.elim
structure bP (X:Cx) (scope:Scope):Prop where
 kind:scope.kind= .function
 names:∀x∈scope.names,x.2= .local->scope.names.lookup x.1=some .local
 nocell:∀x∈scope.names,x.2≠ .cell
 free:∀x∈scope.names,x.2= .free->X.env.kindOf x.1=some .cell\/X.env.kindOf x.1=some .free
theorem gH{env:Env}:∀(names:List (Str×NameKind))(x:Str),
  (names.map λ(n,k)=>if (k==NameKind.free&&env.scope.kind== .function&&env.kindOf n==some .cell) then(n,NameKind.cell) else(n,k)).lookup x=
   (names.lookup x).map λk=>if (k==NameKind.free&&env.scope.kind== .function&&env.kindOf x==some .cell) then NameKind.cell else k
 | [],_=>rfl
 | (n,k)::r,x=>by
  have c:=gH (env:=env) r x;show List.lookup x ((if (k==NameKind.free&&env.scope.kind== .function&&env.kindOf n==some .cell)=true then(n,NameKind.cell) else(n,k))::_)=_;cases b:x==n with
  |true=>
   have e:x=n:=by simpa using b
   subst e
   by_cases a:(k==NameKind.free&&env.scope.kind== .function&&env.kindOf x==some .cell)=true
   ·rw[tz a,uc,uc]
    simp only[b];show some NameKind.cell=some (if _ then _ else _);rw[tz a]
   ·rw[AC a,uc,uc]
    simp only[b];show some k=some (if _ then _ else _);rw[AC a]
  |false=>
   by_cases a:(k==NameKind.free&&env.scope.kind== .function&&env.kindOf n==some .cell)=true
   ·rw[tz a];simp only[uc,b];exact c
   ·rw[AC a];simp only[uc,b];exact c
theorem mem_lookup{names:List (Str×NameKind)}{x:Str}{k:NameKind}(h:names.lookup x=some k):(x,k)∈names:=aed h
def bY(X:Cx)(a:Scope)(NC:List Str)(ex:List Addr)(s:Shared)(H:Hp):Cx:=
 {X with N:=NC,s₀:=s,H₀:=H,env:=compEnvC a (jL X.env a.names []) s.heap.objs.size X.env,outer:=X.stack,stack:=X.stack,ex:=ex,fn:=λ_=>false,pn:= [],xe:=λ_ _=>False}
section
variable {X:Cx} {pins:List (Addr×Obj)} {σ:St} {H:Hp} {s:Shared} {scope:Scope} {NC:List Str} {ex:List Addr} {src:List (Option Nat)}
theorem bP.cells(c:bP X scope)(ok:X.Ok):∀x∈scope.names,x.2= .free->∃c,X.env.cells.lookup x.1=some c:=λx a e=>ok.has x.1 (c.free x a e)
theorem bP.W8(c:bP X scope)(h:(compEnvC scope (jL X.env scope.names []) C X.env).kindOf x=some k)(i:k= .cell\/k= .free):scope.names.lookup x=some .free:=by
 have a:(relabel scope X.env).names.lookup x=some k:=h;unfold relabel at a;rw[gH] at a;cases e:scope.names.lookup x with
 |none=>rw[e] at a;cases a
 |some b=>
  have g:=c.nocell _ (mem_lookup e);rw[e] at a;have f:(if (b==NameKind.free&&X.env.scope.kind== .function&&X.env.kindOf x==some .cell) then NameKind.cell else b)=k:=Do a
  by_cases d:b= .free
  ·rw[d]
  ·have j:(b==NameKind.free)=false:=by simpa using d
   rw[j,af3,af3,AC cQ] at f
   rcases i with z|z
   ·rw[f] at g;exact absurd z g
   ·rw[f] at d;exact absurd z d
theorem M4(I:Inv X pins σ H s)(c:bP X scope)(f:∀b∈ex,fL X pins H b)(g:∀b∈ex,b<s.heap.objs.size):(bY X scope NC ex s H).Ok where
 mod:=I.ok.mod
 kind:=c.kind
 glob:=I.ok.glob
 blt:=I.ok.blt
 above:=bK _
 inj:=λx y d i j=>I.ok.inj x y d (fZ _ _ (c.cells I.ok) (λ_ _ z=>by cases z) x d i) (fZ _ _ (c.cells I.ok) (λ_ _ z=>by cases z) y d j)
 has:=λx k=>p7 _ _ x (.inl (mem_lookup (by rcases k with h|h<;>exact c.W8 h (by simp))))
 cab:=λ_ _ z=>by cases z
 hd:=I.ok.hd
 frames:=I.ok.frames
 stk:= .inl rfl
 exf:=λb a=>⟨cp (g b a),λx d e=>(f b a).2.2.2.2.1 x d (fZ _ _ (c.cells I.ok) (λ_ _ z=>by cases z) x d e)⟩
 bs:=I.bs
 bsz:=fK I.ok.bsz I.sz
 noex:=λb o e a=>by
  rcases(f b a).2.2.2.1 with z|z
  ·exact I.ok.noex b o e z
  ·exact absurd (fC (Fk e) (fK I.ok.bsz z)) (hJ _)
 exfs:=λb a z=>(bT.mp (I.D0 b z)).elim (f b a).2.1 (f b a).2.2.1
 funs:=I.stack
 frf:=I.zp
theorem Ay{tk:Nat}(I:Inv X pins σ H s)(c:bP X scope)(A:dj scope X.N src NC)(E:∀b∈ex,fL X pins H b)(F:∀b∈ex,b<s.heap.objs.size)
  (G:h.Ns s.heap.objs.size (λ_=>none)) (J:Heap.SameBut s.heap.objs.size (s.heap.push C) h):
  Inv (bY X scope NC ex s H) [] (nU src σ) H {s with heap:=h,toks:=tk}:=by
 have f:∀b o,s.heap.get? b=some o->h.get? b=some o:=λb o e=>J.extBut b o (cp (Fk e)) (Da _ e);have t:∀x d,(jL X.env scope.names []).lookup x=some d->X.env.cells.lookup x=some d:=λx d=>fZ _ _ (c.cells I.ok) (λ_ _ z=>by cases z) x d
 have a:∀d v,s.heap.IsCell d v->h.IsCell d v:=λd v ⟨o,L,k⟩=>⟨o,f d o L,k⟩;refine⟨M4 I c E F,rfl,I.bare,Un.kept f,⟨_,G,λj x v M O Z=>?_⟩,λx d e=>?_,I.hok.fresh (bK _),λx d e=>I.freeC x d (t x d e),λp Q=>absurd (show p∈([]:List (Addr×Obj)) from Q) (by simp),I.hok.kept f,?_⟩
 ·have g:(nU src σ)[j]? =some (some v):=O
  unfold nU at g;rw[eO] at g;cases w:src[j]? with
  |none=>rw[w] at g;cases g
  |some o=>
   rw[w] at g;cases o with
   |none=>cases g
   |some i=>
    have n:(σ[i]?).bind id=some v:=Do g
    have R:σ[i]? =some (some v):=by
     cases q:σ[i]? with
     |none=>rw[q] at n;cases n
     |some z=>rw[q] at n;exact KB some n
    rfl';obtain⟨U,y⟩:=A.at w M;have B:=c.free _ (mem_lookup y) rfl;obtain⟨m,hn,Y⟩:=I.loc;obtain⟨u,r,l⟩:=Y i x v U R (B.elim (λz=> .inr (.inl z)) (λz=> .inr (.inr z)));ac_rfl;refine⟨u,r, .inr ⟨?_,?_⟩⟩
    ·show(relabel scope X.env).names.lookup x=_\/(relabel scope X.env).names.lookup x=_
     unfold relabel;rw[gH,y]
     by_cases z:(NameKind.free==NameKind.free&&X.env.scope.kind== .function&&X.env.kindOf x==some .cell)=true
     ·left;simp only[zM,z,aem]
     ·right;simp only[zM,z];rfl
    ·obtain⟨d,k⟩:=p7 (env:=X.env) scope.names [] x (.inl (mem_lookup y))
     refine⟨d,k,?_⟩
     rcases l with ⟨l,_⟩ | ⟨_,d',e,z⟩
     ·exfalso;rcases B with z|z<;>(rw[l] at z;cases z)
     ·rw[t x d k] at e;cases e;exact a d _ z
 ·obtain⟨v,z⟩:=I.cell x d (t x d e)
  exact⟨v,a d v z⟩
 ·show(nU src σ).length=NC.length
  unfold nU;rw[aP];exact A.len
theorem comp_back(I:Inv X pins σ H s)(m:∀b∈ex,fL X pins H b)(J:Inv (bY X scope NC ex s H) l k g c)
  (p:Heap.SameBut s.heap.objs.size c.heap h):Inv X pins σ g {c with heap:=h}:=by
 have up:∀b o,b≠s.heap.objs.size->c.heap.get? b=some o->h.get? b=some o:=λb o a e=>p.extBut b o a e;have ne:∀b o,s.heap.get? b=some o->b≠s.heap.objs.size:=λb o e=>cp (Fk e);have u:=J.base;refine I.Hl (ch:=ex) (show c.os=s.os from J.os) ⟨λb o e n a f=>up b o (ne b o e) (u.keep b o e n a f),λb o e n a f=>?_,u.free,λb o e f=>?_,u.tups,u.frzs,u.tbls⟩ ?_ J.bare λb a=>?_
 ·obtain⟨r,q⟩:=u.slot b o e n a f
  exact⟨r,up b _ (ne b o e) q⟩
 ·obtain⟨i,q⟩:=u.there b o e f
  exact⟨i,up b i (ne b o e) q⟩
 ·intro b o e
  have j:∀b o,g b=some o->b≠s.heap.objs.size:=λb o e z=>by
   have:=J.free
   rw[z] at e;have t:g s.heap.objs.size=none:=this;rw[t] at e;cases e
  refine(J.hok b o e).nV (λd v w q=>up d v ?_ q) (λ_ q=>q) λ_ _ q=>q
  rcases w with z|z
  ·rw[z];exact j b o e
  ·exact j d _ z
 ·obtain⟨_,x,_,y,A,B⟩:=m b a
  exact⟨y,x,A,B⟩
end
def mP(X:Cx)(b:List Expr)(t:TT):Prop:=
 ∀(a:List (Addr×Obj))(s:Shared)(d:St)(H:Hp)(Q:Bool->Hp->Prop),Inv X a d H s->t d H Q->
  wpAny (model X.prog X.w) X.A (forIn b true λc r=>if r=true then do let ok <-isTrue c X.env (eval c X.env);pure (ForInStep.yield ok) else pure (ForInStep.yield r)) (TP X a d Q) X.xe s
def Qt:TT:=λ_ H Q=>Q true H
theorem Gh:mP X [] Qt:=λ_ _ _ H _ I h=>wpAny_tests_nil ⟨H,I,h⟩
theorem PC(h:PT X c t):mP X [c] t:=λa s b H Q I q=>wpAny_tests_one (h a s b H Q I q)
def LCW(J:It)(g:TG)(o:TT)(p:TE)(D:Addr)(Q:VK)(q:St)(H:Hp):Prop:=
 ∃W:Nat->Nat->St->Hp->Prop,(∃m,W 0 m q H)/\∀i m e a,W i m e a->
  (J.stop i a/\Q (.ref D) a)\/
  (J.go i a/\∃N:St->Hp->Prop,(∀f h,N f h->∃j,j<m/\W (i+1) j f h)/\∀x k,J.yld i a x k->g x e k λc r=>o c r λb l=>
   if b=true then p c l λv n=>∃d,n D=some (.lst d)/\d.length<sizeLine/\N c (upd n D (.lst (d++ [v]))) else N c l)
def Qo(c:TI)(g:TG)(d:TT)(e:TE)(src:List (Option Nat)):TE:=λa H Q=>c a H λJ b=>∀D,b D=none->LCW J g d e D Q (nU src a) (upd b D (.lst []))
section
variable {X:Cx} {elt iter tg:Expr} {ifs:List Expr} {scope:Scope} {pos:Pos} {wi:TI} {g:TG} {tt:TT} {te:TE} {src:List (Option Nat)} {NC:List Str}
theorem vt{RR:Value->Addr->Result->Shared->Prop}{Q:VK}
  (hc:X.calm=true) (c:bP X scope) (dU:dj scope X.N src NC) (I2:Inv X j σ I B) (T:Turn X.prog X.w X.K tg J F it tn) (pO:tn 0 B.heap) (f2:∀b∈F,fL X j I b)
  (hg:∀s H,PG (bY X scope NC F s H) tg g) (ht:∀s H,mP (bY X scope NC F s H) ifs tt) (he:∀s H,PE (bY X scope NC F s H) elt te)
  (hW:∀D,I D=none->∃W:Nat->Nat->St->Hp->Prop,(∃m,W 0 m (nU src σ) (upd I D (.lst [])))/\∀i m fI I,W i m fI I->
   (J.stop i I/\Q (.ref D) I)\/
   (J.go i I/\∃N:St->Hp->Prop,(∀G a,N G a->∃m',m'<m/\W (i+1) m' G a)/\∀x Z,J.yld i I x Z->g x fI Z λfV H4=>tt fV H4 λb H5=>
    if b=true then te fV H5 λv H6=>∃ys,H6 D=some (.lst ys)/\ys.length<sizeLine/\N fV (upd H6 D (.lst (ys++ [v]))) else N fV H5))
  (Wu:∀D C Z G a M,Inv X j σ Z C->(∀b∈F,fL X j Z b)->Inv (bY X scope NC F C Z) [] G a M->Q (.ref D) a->RR (.ref D) C.heap.objs.size (.ok .next) M):
  wpAny (model X.prog X.w) X.A (newList []) (λacc GG=>wpAny (model X.prog X.w) X.A (newFunctionEnv scope X.env.globals (jL X.env scope.names []) [] X.env.qual none .none (some X.env)) (λou zv=>
   codeAny (model X.prog X.w) X.A (.compStart (.ListComp elt [⟨tg,iter,ifs,0⟩] scope pos) 0 (.ref it) acc {ou with scope:=relabel scope X.env}) (RR acc ou.locals) zv) E GG) E B:=by
 rfl';obtain⟨W,⟨m0,w0⟩,turn⟩:=hW B.heap.objs.size I2.fresh;have I3:Inv X j σ (upd I B.heap.objs.size (.lst [])) {B with heap:=B.heap.push {cls:= .type "list",data:= .seq ([]:List Value).toArray}}:=I2.Ky (its:= []) (t':=B.toks) .nil (eN _)
 ac_rfl
 have Xb:∀b∈F,b<B.heap.objs.size:=λb l=>by
  obtain⟨o,e,_⟩:=T.obj _ _ pO b l;exact Fk e
 have f3:∀b∈F,fL X j (upd I B.heap.objs.size (.lst [])) b:=λb l=>⟨by rw[ax (cp (Xb b l))];exact(f2 b l).1,(f2 b l).2⟩
 refine SC ?_
 suffices key:∀C:Shared,Inv X j σ (upd I B.heap.objs.size (.lst [])) C->(∀b o,B.heap.get? b=some o->C.heap.get? b=some o)->
   wpAny (model X.prog X.w) X.A (newFunctionEnv scope X.env.globals (jL X.env scope.names []) [] X.env.qual none .none (some X.env)) (λou zv=>
    codeAny (model X.prog X.w) X.A (.compStart (.ListComp elt [⟨tg,iter,ifs,0⟩] scope pos) 0 (.ref it) (.ref B.heap.objs.size) {ou with scope:=relabel scope X.env}) (RR (.ref B.heap.objs.size) ou.locals) zv) E C from
  key _ I3 λb o e=>Da _ e
 intro C I3 X6;have GB:tn 0 C.heap:=T.keep _ _ _ pO λb _ o e=>X6 b o e
 have IZ:∀b∈F,b<C.heap.objs.size:=λb l=>by
  obtain⟨o,e,_⟩:=T.obj _ _ GB b l;exact Fk e
 generalize hH3:upd I B.heap.objs.size (.lst [])=Z at I3 f3 w0;refine wpAny_newFunctionEnv c.nocell (by intro y hy;simp at hy) (λh1 CG CI=>?_) c.kind
 have I4:=Ay (src:=src) (NC:=NC) (ex:=F) (tk:=C.toks+([]:List (Str×Value)).length) I3 c dU f3 IZ CG CI;have Qj:tn 0 h1:=T.keep _ _ _ GB λb l o e=>CI.extBut b o (cp (IZ b l)) (Da _ e);generalize L:bY X scope NC F C Z=k at I4
 have U:∀{a:Hp},(∀b∈F,a b=none)->∀b∈F,fL k [] a b:=λ {a} hn b l=>by
  subst L;refine⟨hn b l,cp (IZ b l),λz=>?_, .inl l,λx d e=>?_,λp hp=>absurd (show p∈([]:List (Addr×Obj)) from hp) (by simp)⟩
  ·exact(I4.ok.exfs b l) z
  ·exact(I4.ok.exf b l).2 x d e
 have loop:codeAny (model X.prog X.w) X.A (.compLoop (.ListComp elt [⟨tg,iter,ifs,0⟩] scope pos) 0 (.ref it) (.ref B.heap.objs.size) k.env) (RR (.ref B.heap.objs.size) C.heap.objs.size)
   {C with heap:=h1,toks:=C.toks+([]:List (Str×Value)).length}:=by
  refine aga rfl (λn M=>∃i G a,Inv k [] G a M/\tn i M.heap/\(∀b∈F,a b=none)/\W i n G a) (λn M hI=>?_) m0 ⟨0,_,_,I4,Qj,λb l=>(f3 b l).1,w0⟩;obtain⟨i,G,a,I5,wJ,zY,w5⟩:=hI;show wpAny _ X.A ((compTurn (.ListComp elt [⟨tg,iter,ifs,0⟩] scope pos) 0 (.ref it) (.ref B.heap.objs.size) k.env).onRaise (λx=>do noteFrame x k.env;theTreesLotGoes x)) _ _ M
  refine wpAny_noted ?_;rw[compTurn_list]
  have lK:∀{α:Type}{t:Sem α}{Q:α->Shared->Prop}{E:Value->Shared->Prop}{s:Shared},wpAny (model k.prog k.w) k.A t Q k.xe s->wpAny (model X.prog X.w) X.A t Q E s:=λ {α t Q E s} h=>by
   subst L;exact wpAny_mono h (λ_ _ q=>q) λ_ _ f=>f.elim
  have LC:k.calm=true:=by subst L;exact hc
  have eP:k.prog=X.prog:=by subst L;rfl
  have ew:k.w=X.w:=by subst L;rfl
  have eK:k.K=X.K:=by subst L;rfl
  have eA:k.A=X.A:=by subst L;rfl
  have WH:PG k tg g:=by subst L;exact hg _ _
  have WW:mP k ifs tt:=L▸ht _ _;have WD:PE k elt te:=L▸he _ _;refine ir (SL (ir ?_))
  rcases turn i n G a w5 with ⟨stop,qn⟩ | ⟨go,N,hN,step⟩
  ·have hd:=T.done k eP ew eK LC i [] M G a (notedBy (model X.prog X.w) X.A k.env λe M=>RR (.ref B.heap.objs.size) C.heap.objs.size (.error e) M) I5 (U zY) wJ stop
   rw[eA] at hd;refine thn hd λr s6 O=>?_;obtain⟨hr,I6⟩:=O;subst hr;refine mo ?_;subst L;exact Wu _ C Z G a s6 I3 f3 I6 qn
  ·have hd:=T.item k eP ew eK LC i [] M G a (notedBy (model X.prog X.w) X.A k.env λe M=>RR (.ref B.heap.objs.size) C.heap.objs.size (.error e) M) I5 (U zY) wJ go
   rw[eA] at hd;refine thn hd λr s6 O=>?_;rfl';obtain⟨u,hr,h6⟩:=O;ac_rfl;subst hr;refine ir (thn h6 λ_ s7 O=>?_);rfl';obtain⟨x,H7,I7,r7,y7,zk,NN⟩:=O;ac_rfl;have ML:=I7.pinned (U NN) (T.obj _ _ zk)
   have again:∀{Y:St}{H8:Hp}{s8:Shared},Inv k ([]++m8 F s7.heap) Y H8 s8->N Y H8->∃m,m<n/\∃i G a,Inv k [] G a s8/\tn i s8.heap/\(∀b∈F,a b=none)/\W i m G a:=λ {Y H8 s8} I8 n8=>by
    obtain⟨m',hm,w8⟩:=hN Y H8 n8;refine⟨m',hm,i+1,Y,H8,I8.j6,T.keep _ _ _ zk λb l o e=>(I8.pin (b,o) (dW _ (dW _ (fj l e)))).1,λb l=>?_,w8⟩;obtain⟨o,e,d⟩:=T.obj _ _ zk b l;exact(I8.pin (b,o) (dW _ (dW _ (fj l e)))).2.1
   refine ir (lK (thn (WH _ s7 G H7 x u _ ML r7 (step x H7 y7)) λ_ s8 O=>?_));rfl';obtain⟨Y,H8,I8,q8⟩:=O;ac_rfl;refine ir (lK (thn (WW _ s8 Y H8 _ I8 q8) λb s9 O=>?_));obtain⟨H9,I9,q9⟩:=O;cases b with
   |false=>
    rw[AC cQ] at q9;exact mo ⟨L▸rfl,again I9 q9⟩
   |true=>
    rw[tz rfl] at q9;refine ir (ir (lK (thn (WD _ s9 Y H9 _ I9 q9) λy SR O=>?_)));rfl';obtain⟨v,QH,UZ,Xz,ys,hD,hz,Xx⟩:=O;ac_rfl;refine ir (lK (thn (kq _ SR Y QH (.ref B.heap.objs.size) [v] _ [y] (λ_ a=>N Y a) UZ rfl (.cons Xz .nil) ⟨_,ys,v,rfl,rfl,hD,hz,Xx⟩) λ_ SS O=>?_));rfl';obtain⟨_,UY,MJ,_,Xy⟩:=O;ac_rfl;exact mo (mo ⟨L▸rfl,again MJ Xy⟩)
 subst L;exact afW loop (T.self _ 0 _ _ _ Qj loop)
theorem Ph(j:X.calm=true)(c:bP X scope)(k:dj scope X.N src NC)(l:PI X tg iter wi)
  (n:∀b s H,PG (bY X scope NC b s H) tg g) (o:∀b s H,mP (bY X scope NC b s H) ifs tt) (p:∀b s H,PE (bY X scope NC b s H) elt te)
  (r:∀x,foldedSetIterable iter X.env x=pure x:=by intro _;rfl):PE X (.ListComp elt [⟨tg,iter,ifs,0⟩] scope pos) (Qo wi g tt te src):=by
 intro a s f H Q I h;rw[eval_ListComp];refine ael (use:=none) rfl r (f7 (c.cells I.ok)) c.kind c.names (thn (l a s f H _ I h) λv U t=>thn t λY Z u=>?_);rfl';obtain⟨it,d,tn,J,H2,rfl,z,T,B,E,F⟩:=u;ac_rfl;refine vt (RR:=λe C=>compPost (model X.prog X.w) X.A X.xe none (EP X a f Q) e C) (Q:=Q) j c k z T B E (n d) (o d) (p d) F ?_;intro D s3 H3 ay G s' L M i q;obtain⟨m,O,_⟩:=i.loc;exact⟨m,O,λh' R=>⟨.ref D,G,comp_back L M i R,rfl,q⟩⟩
def Td(b:TI)(g:TG)(c:TT)(d:TE)(src:List (Option Nat))(i:Nat):TS:=λD a H=>Qo b g c d src a H λv e=>D.nx (a.set i (some v)) e
theorem ql(hc:X.calm=true)(hN:X.N.Nodup)(iN:X.N[i]? =some x)(hx:Loc X.env.scope x)(c:bP X scope)(dU:dj scope X.N src NC)(hi:PI X tg iter wi)
  (hg:∀t s H,PG (bY X scope NC t s H) tg g) (ht:∀t s H,mP (bY X scope NC t s H) ifs tt) (he:∀t s H,PE (bY X scope NC t s H) elt te)
  (kg:swapsWith (.ListComp elt [⟨tg,iter,ifs,0⟩] scope pos) (some (.Name x r)) R.line X.env=pure true)
  (hf:X.fn x=true\/X.env.scope.names.lookup x=some .local:=by first|exact .inl rfl|exact .inr rfl|assumption)
  (hs:∀x,foldedSetIterable iter X.env x=pure x:=by intro _;rfl):PS X (.Assign [.Name x r] (.ListComp elt [⟨tg,iter,ifs,0⟩] scope pos) R) (Td wi g tt te src i):=by
 intro f s u H D I h;rw[exec_Assign_Name_used _ _ _ _ kg];refine ir (SL (ir ?_));show wpAny _ X.A (do let _ <-comprehension (.ListComp elt [⟨tg,iter,ifs,0⟩] scope pos) scope X.env _ (newList []) false (eval iter X.env) (some (assign (.Name x r) X.env))) _ _ s
 refine ir (wpAny_mono (ael (use:=some (assign (.Name x r) X.env)) (Q:=λ_ j=>SP X f D .next j) rfl hs (f7 (c.cells I.ok)) c.kind c.names
  (thn (hi f s u H _ I h) λv s1 h1=>thn h1 λqv s2 h2=>?_)) (λ_ j hq=>mo (mo hq)) λ_ _ e=>e)
 rfl';obtain⟨it,F,tn,J,H2,rfl,I2,T,pO,f2,hW⟩:=h2;ac_rfl;refine vt (RR:=λG C=>compPost (model X.prog X.w) X.A X.xe (some (assign (.Name x r) X.env)) (λ_ j=>SP X f D .next j) G C) (Q:=λv k=>D.nx (u.set i (some v)) k) hc c dU I2 T pO f2 (hg F) (ht F) (he F) hW ?_;intro a l H3 ay k j n f3 L q;obtain⟨m,hn,_⟩:=L.loc;have U:Inv X f u k j:=comp_back n f3 L (.refl ..);have Y:l.heap.objs.size≠X.env.locals:=ae1 n.lt
 have nc:∀y d,X.env.cells.lookup y=some d->d≠l.heap.objs.size:=λy d e z=>by
  obtain⟨v,hv⟩:=n.cell y d e
  have:=hv.lt
  rw[z] at this;exact absurd this (hJ _)
 have np:∀p∈X.pn++f,p.1≠l.heap.objs.size:=λp B z=>by
  have:=Fk (n.pin p B).1
  rw[z] at this;exact absurd this (hJ _)
 rfl';obtain⟨M,es,ep,WT,Z,rC⟩:=id hn;have NX:k l.heap.objs.size=none:=L.free;ac_rfl
 have IP:Inv X ((l.heap.objs.size,M)::f) u k j:=U.mF λp B=>by
  rcases bT.mp B with z|z
  ·rw[z]
   exact⟨WT,NX,Y,n.OY (bK _),λv w=>by rw[Z] at w;cases w⟩
  ·exact U.pin p (dW _ z)
 refine aft (jc (x:=x) IP hN iN hx (v:= .ref a) rfl (λs5 O=>?_) hf);have Wo:=(O.pin (l.heap.objs.size,M) (dW _ bO)).1;refine⟨m,⟨M,es,ep,Wo,Z,rC⟩,λh6 sb=>?_⟩;have MK:Inv X f (u.set i (some (.ref a))) k s5:=O.mF λp B=>O.pin p (dW _ (bU _ B));exact⟨_,k,MK.turned (t':=s5.toks) (it:=l.heap.objs.size) (λb o hb e=>sb.extBut b o hb e) NX Y (.inr n.sz) nc np,q⟩
end
section
variable {X:Cx} {pins:List (Addr×Obj)} {σ:St} {H:Hp} {s:Shared} {h':Heap} {fp:List Addr}
theorem Inv.tX{t':Nat}(I:Inv X pins σ H s)(d:∀b∈fp,fL X pins H b)(k:∀b o,b∉fp->s.heap.get? b=some o->h'.get? b=some o):Inv X pins σ H {s with heap:=h',toks:=t'}:=by
 refine I.step (g':=s.gens) (d':=s.drawn) (ch:=fp) (λb g=>?_) (λb o _ _ a e _=>k b o a e) (λb o _ _ a e _=>⟨o.slots,k b o a e⟩) (λ_ _ _ _ n=>n)
  (λb o a e=>⟨o,k b o a e⟩) (λ_ _ e=>e) (λ_ _ _ e=>e) (λb y e=>⟨#[],by rw[e];simp⟩) (λm h=>?_) (λb u e=>?_) I.bare
 ·obtain⟨_,i,_,j,l,p⟩:=d b g
  exact⟨j,i,l,p⟩
 ·obtain⟨o,t,w,x,r⟩:=h
  exact⟨o,t,w,k _ o (λz=>(d _ z).2.1 rfl) x,r⟩
 ·have f:∀b u,H b=some u->b∉fp:=λb u e z=>by rw[(d b z).1] at e;cases e
  refine(I.hok b u e).nV (λc v a q=>k c v ?_ q) (λ_ q=>q) λ_ _ q=>q
  rcases a with z|z
  ·rw[z];exact f b u e
  ·exact f c _ z
theorem Inv.GJ(I:Inv X pins σ H s)(f:∀b∈fp,fL X pins H b)(k:∀b o,b∉fp->s.heap.get? b=some o->h'.get? b=some o)(h:s.heap.objs.size<=t)
  (new:cc X.prog X.w (upd H t o) h' t o):Inv X pins σ (upd H t o) {s with heap:=h',toks:=t'}:=by
 have j:H t=none:=I.hok.fresh h;have up:∀b u,H b=some u->upd H t o b=some u:=λb u e=>by rw[ax (aB e j)];exact e
 refine I.step (g':=s.gens) (d':=s.drawn) (ch:=fp) (λb d=>?_) (λb o _ _ a e _=>k b o a e) (λb o _ _ a e _=>⟨o.slots,k b o a e⟩) (λb o _ e n=>?_)
  (λb o a e=>⟨o,k b o a e⟩) (λb F e=>up b _ e) (λb _ _ e=>up b _ e) (λb G e=>⟨#[],by rw[up b _ e];simp⟩) (λm l=>?_) (λb u e=>?_) I.bare
 ·obtain⟨_,p,_,x,y,A⟩:=f b d
  exact⟨x,p,y,A⟩
 ·rw[ax (cp (fC (Fk e) h))];exact n
 ·obtain⟨o,B,C,E,r⟩:=l
  exact⟨o,B,C,k _ o (λz=>(f _ z).2.1 rfl) E,r⟩
 ·by_cases d:b=t
  ·subst d
   rw[av] at e;cases Do e;exact new
  ·rw[ax d] at e
   have i:∀b u,H b=some u->b∉fp:=λb u e z=>by rw[(f b z).1] at e;cases e
   refine(I.hok b u e).nV (λc v a q=>k c v ?_ q) (λg q=>up g _ q) λg _ q=>up g _ q
   rcases a with z|z
   ·rw[z];exact i b u e
   ·exact i c _ z
end
def U0(K:PySem.W.Frag)(a:Addr):It:=
 ⟨λi H=>∃b x,b0 K H a b/\b[i]? =some x,λi H y c=>∃t x,y= .ref t/\H t=none/\c=upd H t (.tup [.int i,x])/\∀b,b0 K H a b->b[i]? =some x,λi H=>∃b,b0 K H a b/\b.length<=i⟩
theorem vL(e:h.get? t=some {cls:= .type "tuple",data:= .seq #[u,v]}):IsTup h t [u,v].toArray:=⟨_,e,rfl,_,rfl⟩
theorem JS{P:Program}{w:World}{K:PySem.W.Frag}{Y:List Expr}{k1}{Z:Pos}(a e l:Addr)(ne:e≠l):
  Turn P w K (.Tuple Y k1 Z) (U0 K a) [e,l] e (λi h=>(∃g,IsEnum h e l i g)/\h.IsListIter l a i) where
 mem:=by simp
 obj:=λi h st b f=>by
  obtain⟨⟨g,m⟩,o,A,c,d⟩:=st
  rcases bT.mp f with z|z
  ·subst z
   exact⟨_,m,λv w=>by cases w⟩
  ·have B:b=l:=by simpa using z
   subst B;exact⟨o,A,λv z=>by rw[d] at z;cases z⟩
 keep:=λi h t st k=>by
  obtain⟨⟨g,m⟩,pO⟩:=st;exact⟨⟨g,k e (by simp) _ m⟩,pO.at λo q=>k l (by simp) o q⟩
 item:=by
  intro X C hw F Q i j s R H E I r st G;rfl';subst C hw F;obtain⟨xs,x,y,L⟩:=G;obtain⟨M,N,p,hz⟩:=I.list y;obtain⟨u,hu,ru⟩:=N.get L;obtain⟨⟨g,m⟩,n⟩:=st;ac_rfl;refine wpAny_pyNext_enum_item m n p.isList (x:=u) (by simpa using hu) ne λt Cz O Ft aaK kk=>?_
  have k2:∀b o,b∉ [e,l]->s.heap.get? b=some o->t.get? b=some o:=λb o f q=>kk b o (λz=>f (by simp[z])) (λz=>f (by simp[z])) q
  have I1:Inv X j R (upd H s.heap.objs.size (.tup [.int i,x])) {s with heap:=t,toks:=s.toks+1}:=
   I.GJ r k2 (bK _) ⟨by show 2<=sizeLine;decide,[.int i s.toks,u], .cons ⟨_,rfl⟩ (.cons ru .nil),vL Ft⟩
  refine⟨_,rfl,wpAny_letOwnedTupleGo_enum Cz λh2 WC T=>?_⟩
  have lt:∀b∈ [e,l],b<s.heap.objs.size:=λb f=>by
   rcases bT.mp f with z|z
   ·rw[z];exact Fk m
   ·obtain⟨o,A,_⟩:=n
    have B:b=l:=by simpa using z
    rw[B];exact Fk A
  have U:∀b∈ [e,l],fL X j (upd H s.heap.objs.size (.tup [.int i,x])) b:=λb f=>⟨by rw[ax (cp (lt b f))];exact(r b f).1,(r b f).2⟩
  refine⟨.ref s.heap.objs.size,_,I1.tX (t':=s.toks+1) U (λb o f q=>T.extBut b o (λz=>f (by simp[z])) q),rfl,⟨_,x,rfl,I.hok.fresh (bK _),rfl,λys hy=>by rw[I.uH hy y];exact L⟩,⟨⟨u,?_⟩,O.extBut T.extBut (Ne.symm ne)⟩,λb f=>(U b f).1⟩
  have z:((i+1:Nat):Int)=(i:Int)+1:=by omega
  rw[z];exact WC
 done:=by
  intro X C hw F Q i j s R H E I r st G;rfl';subst C hw F;obtain⟨xs,y,L⟩:=G;obtain⟨M,N,p,hz⟩:=I.list y;have hl:=N.length;obtain⟨⟨g,m⟩,n⟩:=st;ac_rfl;exact wpAny_pyNext_enum_end (I.ok.hd Q) m n p.isList (by simp;omega) λt eb=>⟨rfl,I.tX (t':=s.toks) r λb o f q=>eb b o (λz=>f (by simp[z])) q⟩
 self:=λ_ _ _ _ _ st h=>by
  obtain⟨⟨g,m⟩,_⟩:=st;exact wpAny_pyIter_enum m h
section
variable {X:Cx}
def W2(K:PySem.W.Frag)(c:TA):TI:=λd H R=>c d H λe b=>∃a,e= [.ref a]/\(∃f,b a=some (.lst f))/\R (U0 K a) b
theorem Pn{k1}(v:Gl X "enumerate")(w:X.mg "enumerate"=none)(x:PA X [a] j)(y:starEach [a] X.env= [(false,eval a X.env)]:=by rfl):
  PI X (.Tuple r k1 t) (.Call (.Name "enumerate" p) [a] [] d) (W2 X.K j):=by
 intro f s A H R I h;refine Call_ (lb I v w boot_enumerate (Wp (thn (x d f s A H _ I h) λT c ⟨U,B,g,C,E⟩=>?_) y rfl));rfl';obtain⟨l,e,⟨Z,G⟩,q⟩:=E;subst e;obtain⟨u,rfl,J⟩:=C.one;subst J;obtain⟨z,L,n,rv,k,e⟩:=g.vN G;ac_rfl;refine call_enumerate_1 e λh' m i wy M=>?_;refine wpAny_pyIter_enum m ?_;have N:c.heap.objs.size+1≠c.heap.objs.size:=Nat.succ_ne_self _;refine⟨c.heap.objs.size+1,[c.heap.objs.size+1,c.heap.objs.size],_,_,B,rfl,g.kept (t':=c.toks) M,JS l _ _ N,⟨⟨_,m⟩,i⟩,λb O=>?_,q⟩
 have o:c.heap.objs.size<=b:=by
  rcases bT.mp O with z|z
  ·rw[z];exact qP _
  ·have Q:b=c.heap.objs.size:=by simpa using z
   rw[Q];exact bK _
 exact g.Fd o (g.hok.fresh o)
end
def U2(a b:Addr):It:=
 ⟨λi H=>∃c d x y,H a=some (.lst c)/\H b=some (.lst d)/\c[i]? =some x/\d[i]? =some y,
  λi H v e=>∃t x y,v= .ref t/\H t=none/\e=upd H t (.tup [x,y])/\(∀c,H a=some (.lst c)->c[i]? =some x)/\∀d,H b=some (.lst d)->d[i]? =some y,
  λi H=>∃c d,H a=some (.lst c)/\H b=some (.lst d)/\(c.length<=i\/d.length<=i)⟩
structure ZN (z TI TO i1 i2:Addr):Prop where
 TIz:TI≠z
 TOz:TO≠z
 i1z:i1≠z
 i2z:i2≠z
 TITO:TI≠TO
 TIi1:TI≠i1
 TIi2:TI≠i2
 TOi1:TO≠i1
 TOi2:TO≠i2
 i12:i1≠i2
theorem MA{P:Program}{w:World}{K:PySem.W.Frag}{es:List Expr}{k1}{tp:Pos}(O Q z TI TO f g:Addr)(N:ZN z TI TO f g):
  Turn P w K (.Tuple es k1 tp) (U2 O Q) [z,TO,f,g,TI] z (λi h=>IsZip h z TI TO .none/\IsPair h TI (.ref f) (.ref g)/\(∃a b,IsPair h TO a b)/\h.IsListIter f O i/\h.IsListIter g Q i) where
 mem:=by simp
 obj:=λi h st b d=>by
  obtain⟨t,r,⟨a,c,A⟩,⟨o1,e1,_,d1⟩,⟨o2,e2,_,d2⟩⟩:=st;simp only[bT,aeP,or_false] at d
  rcases d with rfl|rfl|rfl|rfl|rfl
  ·exact⟨_,t,λv w=>by cases w⟩
  ·exact⟨_,A,λv w=>by cases w⟩
  ·exact⟨o1,e1,λv z=>by rw[d1] at z;cases z⟩
  ·exact⟨o2,e2,λv z=>by rw[d2] at z;cases z⟩
  ·exact⟨_,r,λv w=>by cases w⟩
 keep:=λi h L st k=>by
  obtain⟨t,r,⟨a,c,A⟩,G,C⟩:=st;exact⟨k z (by simp) _ t,k TI (by simp) _ r,⟨a,c,k TO (by simp) _ A⟩,G.at λo q=>k f (by simp) o q,C.at λo q=>k g (by simp) o q⟩
 item:=by
  intro X T hw U hc i p s σ H E I F st Y;rfl';subst T hw U;obtain⟨xs,ys,x,y,m,n,J,B⟩:=Y;obtain⟨UJ,SO,p1,hz1⟩:=I.list (b0.of m);obtain⟨AU,SQ,p2,RD⟩:=I.list (b0.of n);obtain⟨u1,hu1,XH⟩:=SO.get J;obtain⟨u2,Ow,XI⟩:=SQ.get B;obtain⟨t,r,⟨a,c,A⟩,G,C⟩:=st;have rj:=C;have hyy:=B;have j:∀l u,H l=some u->∀b∈ [z,TO,f,g,TI],l≠b:=λl u e b d q=>by rw[q,(F b d).1] at e;cases e
  ac_rfl
  have D:ZipApart z TI TO f g O Q:=⟨N.TIz,N.TOz,N.i1z,N.i2z,N.TITO,N.TIi1,N.TIi2,N.TOi1,N.TOi2,N.i12,j _ _ m z (by simp),j _ _ m TO (by simp),j _ _ m f (by simp),j _ _ m g (by simp),
   j _ _ n z (by simp),j _ _ n TO (by simp),j _ _ n f (by simp),j _ _ n g (by simp)⟩
  refine wpAny_pyNext_zip_item D t r A G C p1.isList p2.isList (x:=u1) (y:=u2) (by simpa using hu1) (by simpa using Ow) λL OA aau Fi h2' Ft aaK R=>?_
  have k2:∀b o,b∉ [z,TO,f,g,TI]->s.heap.get? b=some o->L.get? b=some o:=λb o d q=>R b o (λz=>d (by simp[z])) (λz=>d (by simp[z])) (λz=>d (by simp[z])) (λz=>d (by simp[z])) q
  have I1:Inv X p σ (upd H s.heap.objs.size (.tup [x,y])) {s with heap:=L,toks:=s.toks}:=
   I.GJ F k2 (bK _) ⟨by show 2<=sizeLine;decide,[u1,u2], .cons XH (.cons XI .nil),vL Ft⟩
  refine⟨_,rfl,wpAny_letOwnedTupleGo_zip OA λC RD M=>?_⟩
  have lt:∀b∈ [z,TO,f,g,TI],b<s.heap.objs.size:=λb d=>by
   simp only[bT,aeP,or_false] at d
   rcases d with rfl|rfl|rfl|rfl|rfl
   ·exact Fk t
   ·exact Fk A
   ·obtain⟨o,e,_⟩:=G;exact Fk e
   ·obtain⟨o,e,_⟩:=rj;exact Fk e
   ·exact Fk r
  have Oc:∀b∈ [z,TO,f,g,TI],fL X p (upd H s.heap.objs.size (.tup [x,y])) b:=λb d=>⟨by rw[ax (cp (lt b d))];exact(F b d).1,(F b d).2⟩
  have aas:IsPair L TI (.ref f) (.ref g):=R TI _ N.TIz N.TITO N.TIi1 N.TIi2 r
  refine⟨.ref s.heap.objs.size,_,I1.tX (t':=s.toks) Oc (λb o d q=>M.extBut b o (λz=>d (by simp[z])) q),rfl,⟨_,x,y,rfl,I.hok.fresh (bK _),rfl,λys B=>?_,λys B=>?_⟩,
   ⟨RD,M.extBut _ _ N.TIz aas,⟨_,_,M.extBut _ _ N.TOz aau⟩,Fi.extBut M.extBut N.i1z,h2'.extBut M.extBut N.i2z⟩,λb d=>(Oc b d).1⟩
  ·rw[m] at B;cases B;exact J
  ·rw[n] at B;cases B;exact hyy
 done:=by
  intro X T hw U hc i p s σ H E I F st Y;rfl';subst T hw U;obtain⟨xs,ys,m,n,J⟩:=Y;obtain⟨UJ,SO,p1,hz1⟩:=I.list (b0.of m);obtain⟨AU,SQ,p2,RD⟩:=I.list (b0.of n);have hl1:=SO.length;have WN:=SQ.length;obtain⟨t,r,⟨a,c,A⟩,G,C⟩:=st;have j:∀l u,H l=some u->∀b∈ [z,TO,f,g,TI],l≠b:=λl u e b d q=>by rw[q,(F b d).1] at e;cases e
  ac_rfl
  have D:ZipApart z TI TO f g O Q:=⟨N.TIz,N.TOz,N.i1z,N.i2z,N.TITO,N.TIi1,N.TIi2,N.TOi1,N.TOi2,N.i12,j _ _ m z (by simp),j _ _ m TO (by simp),j _ _ m f (by simp),j _ _ m g (by simp),
   j _ _ n z (by simp),j _ _ n TO (by simp),j _ _ n f (by simp),j _ _ n g (by simp)⟩
  refine wpAny_pyNext_zip_end (I.ok.hd hc) D t r A G C p1.isList p2.isList ?_ λL R=>⟨rfl,I.tX (t':=s.toks) F λb o d q=>R b o (λz=>d (by simp[z])) (λz=>d (by simp[z])) (λz=>d (by simp[z])) (λz=>d (by simp[z])) q⟩
  rcases J with J|J
  ·left;simp;omega
  ·right;simp;omega
 self:=λ_ _ _ _ _ st h=>wpAny_pyIter_zip st.1 h
section
variable {X:Cx}
def aaP(d:TA):TI:=λe H R=>d e H λf c=>∃a b g h,f= [.ref a, .ref b]/\c a=some (.lst g)/\c b=some (.lst h)/\R (U2 a b) c
theorem Su{k1}(u:Gl X "zip")(v:X.mg "zip"=none)(w:PA X [a,b] k)(x:starEach [a,b] X.env= [(false,eval a X.env),(false,eval b X.env)]:=by rfl)(l:starEach [b] X.env= [(false,eval b X.env)]:=by rfl):
  PI X (.Tuple r k1 t) (.Call (.Name "zip" p) [a,b] [] d) (aaP k):=by
 intro f s y H R I h;refine Call_ (lb I u v (show bootBuiltins "zip"=some (.type "zip") by decide+kernel) (Wp (thn (w d f s y H _ I h) λus c ⟨vs,A,g,B,C⟩=>?_) (by rw[x,l]) (by rw[l];rfl)))
 rfl';obtain⟨F,G,xs,ys,e,i,J,q⟩:=C;subst e;obtain⟨u1,u2,rfl,L,M⟩:=B.two;subst L;subst M;obtain⟨UJ,SO,N,O⟩:=g.list (b0.of i);obtain⟨AU,SQ,Q,RD⟩:=g.list (b0.of J);ac_rfl;refine call_zip_2 N.isList Q.isList λh' m T U Y Z wy kk=>?_;refine wpAny_pyIter_zip m ?_;refine⟨_,_,_,_,A,rfl,g.kept (t':=c.toks) kk,MA F G (c.heap.objs.size+4) (c.heap.objs.size+2) (c.heap.objs.size+3) c.heap.objs.size (c.heap.objs.size+1) ?_,⟨m,T,⟨_,_,U⟩,Y,Z⟩,λb j=>?_,q⟩
 ·generalize c.heap.objs.size=n
  exact⟨show n+2≠n+4 by omega,show n+3≠n+4 by omega,show n≠n+4 by omega,show n+1≠n+4 by omega,show n+2≠n+3 by omega,show n+2≠n by omega,show n+2≠n+1 by omega,show n+3≠n by omega,show n+3≠n+1 by omega,show n≠n+1 by omega⟩
 ·have o:c.heap.objs.size<=b:=by
   generalize c.heap.objs.size=n at j;simp only[bT,aeP,or_false] at j
   rcases j with z|z|z|z|z<;>(rw[z];show n<=_;omega)
  exact g.Fd o (g.hok.fresh o)
end
end L2
namespace Wb
abbrev W:=List (List Nat)
def row(w:W)(p:Nat):List Nat:=w.getD p []
inductive Reach (w:W):Nat->Nat->Prop
 |refl (p):Reach w p p
 |step {p q r}:Reach w p q->r∈row w q->Reach w p r
structure Good (w:W):Prop where
 rng:∀p q,q∈row w p->q<w.length
 irr:∀p,p∉row w p
 nod:∀p,(row w p).Nodup
 sym:∀p q,q∈row w p->p∈row w q
 con:∀p,p<w.length->Reach w 0 p
theorem bX(h:q∈row w p):p<w.length:=by
 apply FB;intro a;unfold row at h;rw[b8,eM (by omega)] at h
 simp at h
theorem Gk(h:p<w.length):w[p]? =some (row w p):=by
 unfold row;rw[b8,b9 h];rfl
theorem SN(h:w[p]? =some r):row w p=r:=by
 unfold row;rw[b8,h];rfl
theorem PY(h:w.length<=p):row w p= []:=by
 unfold row;rw[b8,eM h];rfl
theorem Reach.trans(h:Reach w p q)(a:Reach w q r):Reach w p r:=by
 induction a with
 |refl=>exact h
 |step _ b c=>exact .step c b
theorem Reach.symm{w:W}(a:∀p q,q∈row w p->p∈row w q)(h:Reach w p q):Reach w q p:=by
 induction h with
 |refl=>exact .refl _
 |step _ b c=>exact(Reach.step (.refl _) (a _ _ b)).trans c
def ins{a:Type}(b:List a)(i:Nat)(x:a):List a:=b.take i++x::b.drop i
theorem uB(a:List b)(i:Nat)(x:b):(ins a i x).Perm (x::a):=by
 unfold ins;have h:= @List.perm_middle _ x (a.take i) (a.drop i);rw[t7] at h;exact h
theorem FR:a∈ins b i x↔a=x\/a∈b:=by
 rw[(uB b i x).mem_iff,bT]
theorem yT(h:a.Nodup)(c:x∉a):(ins a i x).Nodup:=by
 rw[(uB a i x).nodup_iff,gF];exact⟨c,h⟩
theorem yy(a:List b)(i:Nat)(x:b):(ins a i x).length=a.length+1:=by
 rw[(uB a i x).length_eq];rfl
theorem Gm(h:p<w.length):row (w.set p r) x=if p=x then r else row w x:=by
 unfold row;rw[b8,pW]
 by_cases e:p=x
 ·rw[tz e,tz e,tz h];rfl
 ·rw[AC e,AC e,b8]
theorem Ly{ord:Nat->Nat}(g:Good w)(l:j.length=w.length)(k:∀p,p<w.length->ord p<w.length)
  (inj:∀p q,p<w.length->q<w.length->ord p=ord q->p=q) (i:∀y,y<w.length->∃p,p<w.length/\ord p=y)
  (m:∀p,p<w.length->(row j (ord p)).Perm ((row w p).map ord)):Good j:=by
 have mem:∀p q,p<w.length->(q∈row j (ord p)↔∃a,a∈row w p/\ord a=q):=λp q d=>by
  rw[(m p d).mem_iff,bL]
 have reach:∀{p q},Reach w p q->Reach j (ord p) (ord q):=λ {p q} h=>by
  induction h with
  |refl=>exact .refl _
  |step _ n r=>exact .step r ((mem _ _ (bX n)).mpr ⟨_,n,rfl⟩)
 refine⟨λy q c=>?_,λy c=>?_,λy=>?_,λy q c=>?_,λy c=>?_⟩
 ·obtain⟨p,d,rfl⟩:=i y (by have:=bX c;omega)
  obtain⟨a,f,rfl⟩:=(mem p q d).mp c;rw[l];exact k a (g.rng _ _ f)
 ·obtain⟨p,d,rfl⟩:=i y (by have:=bX c;omega)
  obtain⟨a,f,e⟩:=(mem p _ d).mp c
  have:=inj a p (g.rng _ _ f) d e
  subst this;exact g.irr _ f
 ·by_cases c:y<w.length
  ·obtain⟨p,d,rfl⟩:=i y c
   rw[(m p d).nodup_iff];unfold List.Nodup;rw[pX];refine afC ?_ (g.nod p);intro a b f s ne e;exact ne (inj a b (g.rng _ _ f) (g.rng _ _ s) e)
  ·rw[PY (by omega)];exact gZ
 ·obtain⟨p,d,rfl⟩:=i y (by have:=bX c;omega)
  obtain⟨a,f,rfl⟩:=(mem p q d).mp c;exact(mem a _ (g.rng _ _ f)).mpr ⟨p,g.sym _ _ f,rfl⟩
 ·rw[l] at c
  obtain⟨p,d,rfl⟩:=i y c;obtain⟨z,t,u⟩:=i 0 (by omega)
  have o:=reach (((g.con z t).symm g.sym).trans (g.con p d));rw[u] at o;exact o
def aS(l:List Nat)(x:Nat):Nat:=l.getD ((l.idxOf x+1)%l.length) 0
def fH(w:W)(d:Nat×Nat):Nat×Nat:=(d.2,aS (row w d.2) d.1)
def bp(w:W)(d:Nat×Nat):Prop:=d.2∈row w d.1
theorem nq(h:x∈l):l[(l.idxOf x+1)%l.length]? =some (aS l x):=by
 have a:0<l.length:=t6 h;unfold aS;rw[b8,b9 (qQ _ a)];rfl
theorem JM(h:x∈l):aS l x∈l:=fB (nq h)
theorem OS(f:a<n)(g:b<n)(e:(a+1)%n=(b+1)%n):a=b:=by
 by_cases d:a+1=n
 ·by_cases c:b+1=n
  ·omega
  ·rw[d,rY,gY (by omega)] at e;omega
 ·by_cases c:b+1=n
  ·rw[c,rY,gY (by omega)] at e;omega
  ·rw[gY (by omega),gY (by omega)] at e;omega
theorem zq(g:l.Nodup)(a:x∈l)(b:y∈l)(e:aS l x=aS l y):x=y:=by
 have o:0<l.length:=t6 a;have c:=nq a;have h:=nq b;rw[e] at c;have d:=v7.mpr a;have f:=v7.mpr b;obtain⟨p,i⟩:=dS.mp c;obtain⟨r,j⟩:=dS.mp h;have q:=(List.getElem_inj g).mp (i.trans j.symm);have k:=OS d f q;have m:=BE d;have n:=BE f;rw[<-m,<-n];simp only[k]
theorem LZ(g:Good w)(h:bp w d):bp w (fH w d):=JM (g.sym _ _ h)
theorem yU(g:Good w)(h:bp w d)(c:bp w e)(q:fH w d=fH w e):d=e:=by
 have a:d.2=e.2:=KB Prod.fst q;have b:aS (row w d.2) d.1=aS (row w e.2) e.1:=KB Prod.snd q;rw[<-a] at b;have f:d.1∈row w d.2:=g.sym _ _ h;have i:e.1∈row w d.2:=by rw[a];exact g.sym _ _ c
 exact UF (zq (g.nod _) f i b) a
def aZ(w:W):List (Nat×Nat):=(List.range w.length).flatMap λp=>(row w p).map λq=>(p,q)
theorem bI{w:W}:d∈aZ w↔bp w d:=by
 unfold aZ bp;rw[aeQ]
 constructor
 ·rintro⟨p,_,h⟩
  obtain⟨q,a,rfl⟩:=bL.mp h;exact a
 ·intro h
  exact⟨d.1,dY.mpr (bX h),bL.mpr ⟨d.2,h,rfl⟩⟩
theorem bf [DecidableEq b]:∀{l m:List b},l.Nodup->(∀x∈l,x∈m)->l.length<=m.length
 | [],_,_,_=>eN _
 |a::r,m,g,h=>by
  have c:=gF.mp g;have d:=h a bO;have i:=bf (l:=r) (m:=m.erase a) c.2 λx f=>(List.mem_erase_of_ne (λ(e:x=a)=>c.1 (by rw[<-e];exact f))).mpr (h x (bU _ f))
  rw[List.length_erase_of_mem d] at i
  have:=t6 d
  simp only[eX];omega
theorem gB(g:Good w)(p:Nat):(row w p).length<=w.length:=by
 have:=bf (m:=List.range w.length) (g.nod p) λx a=>dY.mpr (g.rng _ _ a)
 simpa using this
theorem AK{f:b->List c}{k:Nat}:∀{l:List b},(∀x∈l,(f x).length<=k)->(l.flatMap f).length<=l.length*k
 | [],_=>by simp
 |a::r,h=>by
  have e:=AK (f:=f) (k:=k) (l:=r) λx d=>h x (bU _ d)
  have:=h a bO
  rw[t9,cI,eX,af9];omega
theorem iW(g:Good w):(aZ w).length<=w.length*w.length:=by
 have:=AK (f:=λp=>(row w p).map λq=>(p,q)) (k:=w.length) (l:=List.range w.length) λx _=>by rw[aP];exact gB g x
 rw[pY] at this;exact this
def bh(w:W):Nat->Nat×Nat->Nat×Nat
 |0,d=>d
 |n+1,d=>fH w (bh w n d)
theorem cY(g:Good w)(h:bp w d):∀n,bp w (bh w n d)
 |0=>h
 |n+1=>LZ g (cY g h n)
theorem e9{w:W}{d:Nat×Nat}(m:Nat):∀n,bh w (n+m) d=bh w n (bh w m d)
 |0=>by rw[qO];rfl
 |n+1=>by rw[Nat.succ_add];show fH w (bh w (n+m) d)=fH w (bh w n (bh w m d));rw[e9 m n]
theorem sX(g:Good w)(h:bp w d)(a:bp w e):∀n,bh w n d=bh w n e->d=e
 |0,q=>q
 |n+1,q=>sX g h a n (yU g (cY g h n) (cY g a n) q)
def walk(w:W)(d:Nat×Nat)(k:Nat):List (Nat×Nat):=(List.range k).map λi=>bh w i d
theorem rV(w:W)(d:Nat×Nat)(k:Nat):walk w d (k+1)=walk w d k++ [bh w k d]:=by
 unfold walk;rw[afN,cR];rfl
theorem dh(w:W)(d:Nat×Nat)(k:Nat):(walk w d k).length=k:=by unfold walk;simp
theorem nA(g:Good w)(h:bp w d):∀e∈walk w d k,bp w e:=λe a=>by
 obtain⟨i,_,rfl⟩:=bL.mp a;exact cY g h i
theorem pQ(g:Good w)(h:bp w d)(a:∀j,0<j->j<k->bh w j d≠d):(walk w d k).Nodup:=by
 unfold walk List.Nodup;rw[pX];refine afC ?_ aeF;intro i j f b lt e;have l:=dY.mp b;have c:bh w i d=bh w i (bh w (j-i) d):=by rw[<-e9 (j-i) i,show i+(j-i)=j by omega];exact e
 exact a (j-i) (by omega) (by omega) (sX g h (cY g h _) i c).symm
theorem zC(g:Good w)(h:bp w d){k:Nat}(a:∀j,0<j->j<k->bh w j d≠d):k<=(aZ w).length:=by
 have:=bf (m:=aZ w) (pQ g h a) λe b=>bI.mpr (nA g h e b)
 rwa [dh] at this
theorem kQ(g:Good w){S:Nat->Prop}(c:S 0)(d:∀p q,S p->q∈row w p->S q):∀p,p<w.length->S p:=λp e=>by
 have:∀{a b},Reach w a b->S a->S b:=λ {a b} h f=>by
  induction h with
  |refl=>exact f
  |step _ i j=>exact d _ _ j i
 exact this (g.con p e) c
def lexLe(a b:Nat×Nat):Prop:=a.1<b.1\/(a.1=b.1/\a.2<=b.2)
theorem A3(h:lexLe a b)(c:lexLe b a):a=b:=by
 unfold lexLe at h c;exact UF (by omega) (by omega)
def jV(a:Nat->List Nat)(n:Nat):List (Nat×Nat):=(List.range n).flatMap λp=>((a p).filter λq=>decide (p<q)).map λq=>(p,q)
theorem oY{e c:Type}{R:c->c->Prop}{f:e->List c}:∀{l:List e},(∀x∈l,(f x).Pairwise R)->l.Pairwise (λa b=>∀x∈f a,∀y∈f b,R x y)->(l.flatMap f).Pairwise R
 | [],_,_=>List.Pairwise.nil
 |a::r,h,p=>by
  have g:=Ej.mp p;rw[t9,ae6];refine⟨h a bO,oY (λx d=>h x (bU _ d)) g.2,λx d y i=>?_⟩;obtain⟨b,j,k⟩:=aeQ.mp i;exact g.1 b j x d y k
end Wb
namespace L2
open PySem PySem.Spec PyProof.Rows
section
variable {X:Cx}
def SJ(K:PySem.W.Frag):V->List V->Hp->VK->Prop:=λx b H Q=>∃(l:Addr)(a:List V)(y:V)(j:Nat)(z:V),x= .ref l/\b= [y]/\H l=some (.lst a)/\iz y=true/\a.all iz=true/\a[j]? =some z/\yf z y=true/\
 (∀(m:Nat) z,m<j->a[m]? =some z->yf z y=false)/\Q (.int j) H
theorem LV:QJ X "list.index" (SJ X.K):=by
 intro A s Z H x vs v us Q I B C h;rfl';obtain⟨l,d,y,j,z,rfl,rfl,G,J,fs,f,L,M,q⟩:=h;subst B;obtain⟨u,rfl,N⟩:=C.one;obtain⟨wy,a,n,r,hl,e⟩:=I.vN G;obtain⟨w,hw,O⟩:=r.get f;ac_rfl
 have R:j<a.toArray.size:=by
  obtain⟨b,_⟩:=dS.mp hw;simpa using b
 have flat:∀(m:Nat) z,d[m]? =some z->iz z=true:=λm z h=>(afD.mp fs) z (fB h)
 have g:a.toArray[j]=w:=by
  obtain⟨b,i⟩:=dS.mp hw;simpa using i
 have eW:=mW
 have WK:j<d.length:=by
  obtain⟨b,_⟩:=dS.mp f;exact b
 refine aew F.slot_list_index ⟨_,e,rfl⟩ F.entry_list_index (F.args_list_index_2 _ _) (SeqAt.list_indexAt l a.toArray n none #[] u (qr y) j R (by omega) ?_ ?_) ⟨e,λw hw=>j4 N J r fs w (by simpa using hw),?_⟩
 ·rw[g,wO O (flat j z f)];exact L
 ·intro m T U
  have rk:m<a.length:=by simpa using T
  obtain⟨c,k⟩:∃c,d[m]? =some c:=⟨_,b9 (by omega)⟩
  obtain⟨Y,o,p⟩:=r.get k
  have t:a.toArray[m]=Y:=by
   obtain⟨b,i⟩:=dS.mp o;simpa using i
  rw[t,wO p (flat m c k)];exact M m c U k
 ·exact⟨.int j,H,I.tok _,⟨_,rfl⟩,q⟩
end
mutual
inductive Dp (K:PySem.W.Frag) (H:Hp):V->PyData->Prop
 |bu:Dp K H .bu .none
 |bl (b:Bool):Dp K H (.bl b) (.bool b)
 |int (i:Int):Dp K H (.int i) (.int i)
 |str (x:Str) (h:PyData.strOk x=true):Dp K H (.str x) (.str x)
 |lst {a:Addr} {xs:List V} {ds:List PyData}:b0 K H a xs->jC K H xs ds->Dp K H (.ref a) (.list ds)
 |tup {a:Addr} {xs:List V} {ds:List PyData}:fX K H a xs->jC K H xs ds->Dp K H (.ref a) (.tuple ds)
inductive jC (K:PySem.W.Frag) (H:Hp):List V->List PyData->Prop
 |nil:jC K H [] []
 |cons {v:V} {vs:List V} {d:PyData} {ds:List PyData}:Dp K H v d->jC K H vs ds->jC K H (v::vs) (d::ds)
end
section
variable {X:Cx} {pins:List (Addr×Obj)} {σ:St} {H:Hp} {s:Shared}
mutual
theorem Dp.reads(I:Inv X pins σ H s):∀{v:V}{d:PyData}{u:Value},Dp X.K H v d->RelV v u->(∃as,Reads s.heap u d as)/\d.canLay0=true
 |_,_,_, .bu,r=>by cases r;exact⟨⟨_, .none⟩,rfl⟩
 |_,_,_, .bl b,r=>by cases r;exact⟨⟨_, .bool b⟩,rfl⟩
 |_,_,_, .int i,r=>by obtain⟨t,rfl⟩:=r;exact⟨⟨_, .int i t⟩,rfl⟩
 |_,_,_, .str x h,r=>by obtain⟨t,rfl⟩:=r;exact⟨⟨_, .str x t⟩,by simpa [PyData.canLay0] using h⟩
 |_,_,_, .lst h a,r=>by
  cases r;obtain⟨its,rv,pl,hz⟩:=I.list h;obtain⟨⟨as,ra⟩,c⟩:=jC.reads I a rv;obtain⟨o,ho,hc,n,hd⟩:=pl.isList;exact⟨⟨_, .list ho hc hd (by simpa using ra)⟩,by simpa [PyData.canLay0] using c⟩
 |_,_,_, .tup h a,r=>by
  cases r;obtain⟨its,rv,pl,hz⟩:=I.tuple h;obtain⟨⟨as,ra⟩,c⟩:=jC.reads I a rv;obtain⟨o,ho,hc,n,hd⟩:=pl;exact⟨⟨_, .tuple ho hc hd (by simpa using ra)⟩,by simpa [PyData.canLay0] using c⟩
theorem jC.reads(I:Inv X pins σ H s):∀{vs:List V}{ds:List PyData}{us:List Value},jC X.K H vs ds->Vals vs us->(∃as,ReadsAll s.heap us ds as)/\PyData.canLayAll0 ds=true
 |_,_,_, .nil, .nil=>⟨⟨_, .nil⟩,by simp[PyData.canLayAll0]⟩
 |_,_,_, .cons a as, .cons r rs=>by
  obtain⟨⟨x,h1⟩,c1⟩:=Dp.reads I a r;obtain⟨⟨y,h2⟩,c2⟩:=jC.reads I as rs;exact⟨⟨_, .cons h1 h2⟩,by simp[PyData.canLayAll0,c1,c2]⟩
end
end
section
variable {X:Cx}
def acP(K:PySem.W.Frag):R2:=λx y H Q=>∃d e,Dp K H x d/\Dp K H y e/\d.depth<=64/\Q (.bl (PyData.eqv d e)) H
def acR(K:PySem.W.Frag):R2:=λx y H Q=>∃d e,Dp K H x d/\Dp K H y e/\d.depth<=64/\Q (.bl (!PyData.eqv d e)) H
theorem R9(n:X.A.units+64<cLine):OpR X (compareOp .Eq) (acP X.K):=by
 intro a s o H x y v u Q I b c h;rfl';obtain⟨d,e,g,i,r,q⟩:=h;obtain⟨⟨as,j⟩,k⟩:=g.reads I b;obtain⟨⟨bs,l⟩,m⟩:=i.reads I c;ac_rfl;exact SeqAt.compareEq_reads j l k m (by have:=Nat.min_le_left d.depth e.depth;omega) ⟨.bl _,H,I,rfl,q⟩
theorem Se(n:X.A.units+64<cLine):OpR X (compareOp .NotEq) (acR X.K):=by
 intro a s o H x y v u Q I b c h;rfl';obtain⟨d,e,g,i,r,q⟩:=h;obtain⟨⟨as,j⟩,k⟩:=g.reads I b;obtain⟨⟨bs,l⟩,m⟩:=i.reads I c;ac_rfl;exact SeqAt.compareNe_reads j l k m (by have:=Nat.min_le_left d.depth e.depth;omega) ⟨.bl _,H,I,rfl,q⟩
end
def nD(n:Nat):PyData:= .int n
def nM(r:List Nat):PyData:= .list (r.map nD)
theorem oM{e:Type}{f:e->PyData}(g:∀a b,PyData.eqv (f a) (f b)=true↔a=b):∀c d:List e,PyData.eqvAll (c.map f) (d.map f)=true↔c=d
 | [],[]=>by simp[PyData.eqvAll]
 | [],_::_=>by simp[PyData.eqvAll]
 |_::_,[]=>by simp[PyData.eqvAll]
 |a::c,b::d=>by
  have h:=oM g c d;simp[PyData.eqvAll,g,h]
theorem Rf(a b:Nat):PyData.eqv (nD a) (nD b)=true↔a=b:=by
 simp[nD,PyData.eqv];omega
theorem uv(a b:List Nat):PyData.eqv (nM a) (nM b)=true↔a=b:=by
 unfold nM;rw[PyData.eqv];exact oM Rf a b
theorem lG{f:c->PyData}{k:Nat}(d:∀a,(f a).depth<=k):∀b:List c,PyData.depthAll (b.map f)<=k
 | []=>by simp[PyData.depthAll]
 |a::b=>by
  have:=d a
  have e:=lG d b;simp[PyData.depthAll];omega
theorem oF(a:List Nat):(nM a).depth<=2:=by
 unfold nM;rw[PyData.depth]
 have:=lG (f:=nD) (k:=1) (λn=>by simp[nD,PyData.depth]) a
 omega
def tY(w:List (List Nat)):PyData:= .list (w.map nM)
theorem AI(a b:List (List Nat)):PyData.eqv (tY a) (tY b)=true↔a=b:=by
 unfold tY;rw[PyData.eqv];exact oM uv a b
theorem EY(a:List (List Nat)):(tY a).depth<=3:=by
 unfold tY;rw[PyData.depth]
 have:=lG (f:=nM) (k:=2) oF a
 omega
end L2
namespace L2
open PySem PySem.Spec PyProof.Rows
theorem Vals.of_get:∀{a:List V}{b:List Value},a.length=b.length->(∀(k:Nat) x u,a[k]? =some x->b[k]? =some u->RelV x u)->Vals a b
 | [],[],_,_=> .nil
 | [],_::_,h,_=>by simp at h
 |_::_,[],h,_=>by simp at h
 |x::a,u::b,h,r=> .cons (r 0 x u rfl rfl) (Vals.of_get (by simpa using h) λk y w c d=>r (k+1) y w (by simpa using c) (by simpa using d))
section
variable {X:Cx}
theorem B0:CallR X (.builtin "isinstance") (λa H Q=>∃(x:V)(n:String)(t:Value)(b:Bool),a= [x, .ty n]/\kN X.K H x t/\PySem.W.kitOne X.K t (.type n)=some b/\Q (.bl b) H):=by
 intro c s k H a l Q I d h;rfl';obtain⟨x,n,t,b,rfl,g,e,q⟩:=h;obtain⟨o,p,rfl,i,j⟩:=d.two;subst j;ac_rfl;exact Ir I i g e λr=>⟨.bl b,H,I.tok _,rfl,q⟩
def m9(i:Int)(n:Nat):List V:=(List.range n).map λ(k:Nat)=>V.int (i+(k:Int))
theorem oq(r:X.calm=true):CallR X (.type "list") (λg H Q=>∃(p:Addr)(i j:Int),g= [.ref p]/\H p=some (.rng i j)/\-(2^62)<=i/\i<2^62/\-(2^62)<=j/\j<2^62/\(j-i).toNat<=1000/\
  ∀q,H q=none->Q (.ref q) (upd H q (.lst (m9 i (j-i).toNat)))):=by
 intro l s T H g U Q I y h;rfl';obtain⟨p,i,j,rfl,B,C,E,F,G,Z,q⟩:=h;obtain⟨u,rfl,J⟩:=y.one;subst J;obtain⟨t,u,v,e⟩:=(show cc X.prog X.w H s.heap p (.rng i j) from I.hok p _ B);ac_rfl;refine call_list_range (n:=(j-i).toNat) (I.ok.hd r) e (small_one C E F G) ?_ (by omega) λh' tk f c L M m=>?_
 ·rw[rangeSize_one];split<;>omega
 ·have eE:1000<=sizeLine:=by decide
  refine⟨.ref s.heap.objs.size,_,I.laid L (bK _) (o:= .lst (m9 i (j-i).toNat)) ⟨by unfold m9;simp;omega,f.toList,c,?_,by simpa using M⟩,rfl,q _ (I.hok.fresh (bK _))⟩
  refine Vals.of_get (by unfold m9;simp[m.1]) λk x w d hw=>?_
  unfold m9 at d;rw[eO] at d;obtain⟨N,O⟩:=m.2 k w (by rw[<-mM];exact hw)
  have R:(List.range (j-i).toNat)[k]? =some k:=by
   cases q:(List.range (j-i).toNat)[k]? with
   |none=>rw[q] at d;cases d
   |some z=>
    obtain⟨a,b⟩:=dS.mp q;rw[List.getElem_range] at b;rw[b]
  rw[R] at d;obtain rfl:=Do d;exact⟨N,by rw[O,Int.mul_one]⟩
end
theorem xX(b g h k f:Expr)(i l:List Expr)(a:Scope)(d:Pos)(j e:Value)(env:Env):
  compTurn (.ListComp b [⟨g,h,i,0⟩,⟨k,f,l,0⟩] a d) 0 j e env=(do
   standAt h.pos
   match <-pyNext j with
   |none=>pure (.done .next)
   |some v=>
    letOwnedTupleGo g j v
    assign g env v
    let ok <-forIn i true λc r=>if r=true then do let ok <-isTrue c env (eval c env);pure (ForInStep.yield ok) else pure (ForInStep.yield r)
    if ok=true then
     let x <-eval f env
     standAt f.pos
     let x <-foldedSetIterable f env x
     let m <-holding [x] (pyIter x)
     let _ <-runOwn (.compStart (.ListComp b [⟨g,h,i,0⟩,⟨k,f,l,0⟩] a d) 1 m e env) env
     again (.compLoop (.ListComp b [⟨g,h,i,0⟩,⟨k,f,l,0⟩] a d) 0 j e env)
    else again (.compLoop (.ListComp b [⟨g,h,i,0⟩,⟨k,f,l,0⟩] a d) 0 j e env)):=by rfl
theorem xY(b j k f h:Expr)(l i:List Expr)(a:Scope)(e:Pos)(g d:Value)(env:Env):
  compTurn (.ListComp b [⟨j,k,l,0⟩,⟨f,h,i,0⟩] a e) 1 g d env=(do
   standAt h.pos
   match <-pyNext g with
   |none=>pure (.done .next)
   |some v=>
    letOwnedTupleGo f g v
    assign f env v
    let ok <-forIn i true λc r=>if r=true then do let ok <-isTrue c env (eval c env);pure (ForInStep.yield ok) else pure (ForInStep.yield r)
    if ok=true then
     (do let _ <-call (.builtin "list.append") [d,<-eval b env])
     again (.compLoop (.ListComp b [⟨j,k,l,0⟩,⟨f,h,i,0⟩] a e) 1 g d env)
    else again (.compLoop (.ListComp b [⟨j,k,l,0⟩,⟨f,h,i,0⟩] a e) 1 g d env)):=by rfl
section
variable {X XC:Cx} {elt i0 t0 i1 t1:Expr} {f0 f1:List Expr} {scope:Scope} {pos:Pos} {wi fh:TI} {g g1:TG} {tt dA:TT} {te:TE} {src:List (Option Nat)} {NC:List Str}
theorem wj{b a:Value}{env:Env}{R:Result->Shared->Prop}{s:Shared}{A:Around}
  (c:codeAny (model X.prog X.w) A (.compLoop (.ListComp elt [⟨t0,i0,f0,0⟩,⟨t1,i1,f1,0⟩] scope pos) 1 b a env) R s)
  (d:∀(Q:Value->Shared->Prop)(E:Value->Shared->Prop),Q b s->wpAny (model X.prog X.w) A (pyIter b) Q E s):
  codeAny (model X.prog X.w) A (.compStart (.ListComp elt [⟨t0,i0,f0,0⟩,⟨t1,i1,f1,0⟩] scope pos) 1 b a env) R s:=by
 refine codeAny_of_tree ?_;refine wpAny_notedAt ?_;unfold compStart;refine wpAny_bind (wpAny_askSetting (wpAny_ite ?_))
 split
 ·first
   |exact wpAny_bind (wpAny_pure (wpAny_pure ⟨rfl,c⟩))
   |exact wpAny_pure ⟨rfl,c⟩
 ·refine wpAny_bind (wpAny_rule ?_)
  exact wpAny_bind (wpAny_standAt (wpAny_bind (d _ _ (wpAny_pure ⟨rfl,c⟩))))
theorem EL{a:List (Addr×Obj)}{s:Shared}{σ:St}{H:Hp}{it D:Addr}{F:List Addr}{tn:Nat->Heap->Prop}{J:It}{R:Result->Shared->Prop}{N:St->Hp->Prop}
  (RC:XC.xe=λ_ _=>False) (hc:XC.calm=true) (I:Inv XC a σ H s) (T:Turn XC.prog XC.w XC.K t1 J F it tn) (st:tn 0 s.heap) (f2:∀b∈F,fL XC a H b)
  (hg:PG XC t1 g1) (ht:mP XC f1 dA) (he:PE XC elt te)
  (hW:∃W:Nat->Nat->St->Hp->Prop,(∃m,W 0 m σ H)/\∀i m fI O,W i m fI O->(J.stop i O/\N fI O)\/
   (J.go i O/\∃L:St->Hp->Prop,(∀j c,L j c->∃m',m'<m/\W (i+1) m' j c)/\∀x H3,J.yld i O x H3->g1 x fI H3 λfV H4=>dA fV H4 λb H5=>
    if b=true then te fV H5 λv H6=>∃U,H6 D=some (.lst U)/\U.length<sizeLine/\L fV (upd H6 D (.lst (U++ [v]))) else L fV H5))
  (hR:∀j c B,Inv XC a j c B->N j c->R (.ok .next) B):
  codeAny (model XC.prog XC.w) XC.A (.compStart (.ListComp elt [⟨t0,i0,f0,0⟩,⟨t1,i1,f1,0⟩] scope pos) 1 (.ref it) (.ref D) XC.env) R s:=by
 obtain⟨W,⟨m0,w0⟩,turn⟩:=hW
 have lK:∀{α:Type}{t:Sem α}{Q:α->Shared->Prop}{E:Value->Shared->Prop}{s:Shared},wpAny (model XC.prog XC.w) XC.A t Q XC.xe s->wpAny (model XC.prog XC.w) XC.A t Q E s:=λ {α t Q E s} h=>
  wpAny_mono h (λ_ _ q=>q) λ_ _ f=>by rw[RC] at f;exact f.elim
 have l:∀{c:Hp},(∀b∈F,c b=none)->∀b∈F,fL XC a c b:=λhn b C=>⟨hn b C,(f2 b C).2⟩
 have Y:codeAny (model XC.prog XC.w) XC.A (.compLoop (.ListComp elt [⟨t0,i0,f0,0⟩,⟨t1,i1,f1,0⟩] scope pos) 1 (.ref it) (.ref D) XC.env) R s:=by
  refine aga rfl (λn B=>∃i j c,Inv XC a j c B/\tn i B.heap/\(∀b∈F,c b=none)/\W i n j c) (λn B hI=>?_) m0 ⟨0,σ,H,I,st,λb C=>(f2 b C).1,w0⟩;rfl';obtain⟨i,j,c,I5,wJ,zY,w5⟩:=hI;ac_rfl;show wpAny _ XC.A ((compTurn (.ListComp elt [⟨t0,i0,f0,0⟩,⟨t1,i1,f1,0⟩] scope pos) 1 (.ref it) (.ref D) XC.env).onRaise (λx=>do noteFrame x XC.env;theTreesLotGoes x)) _ _ B
  refine wpAny_noted ?_;rw[xY];refine ir (SL (ir ?_))
  rcases turn i n j c w5 with ⟨stop,qn⟩ | ⟨go,L,hN,step⟩
  ·refine thn (T.done XC rfl rfl rfl hc i a B j c _ I5 (l zY) wJ stop) λr s6 k=>?_
   obtain⟨hr,I6⟩:=k;subst hr;exact mo (hR j c s6 I6 qn)
  ·refine thn (T.item XC rfl rfl rfl hc i a B j c _ I5 (l zY) wJ go) λr s6 k=>?_
   rfl';obtain⟨u,hr,h6⟩:=k;ac_rfl;subst hr;refine ir (thn h6 λ_ s7 k=>?_);rfl';obtain⟨x,H7,I7,r7,y7,zk,NN⟩:=k;ac_rfl;have ML:=I7.pinned (l NN) (T.obj _ _ zk)
   have nextT:∀{z:St}{G:Hp}{M:Shared},Inv XC (a++m8 F s7.heap) z G M->L z G->∃m,m<n/\∃i j c,Inv XC a j c M/\tn i M.heap/\(∀b∈F,c b=none)/\W i m j c:=λ {z G M} g n8=>by
    obtain⟨m',hm,w8⟩:=hN z G n8;refine⟨m',hm,i+1,z,G,g.j6,T.keep _ _ _ zk λb C o e=>(g.pin (b,o) (dW _ (dW _ (fj C e)))).1,λb C=>?_,w8⟩;obtain⟨o,e,d⟩:=T.obj _ _ zk b C;exact(g.pin (b,o) (dW _ (dW _ (fj C e)))).2.1
   refine ir (lK (thn (hg _ s7 j H7 x u _ ML r7 (step x H7 y7)) λ_ M k=>?_));rfl';obtain⟨z,G,g,q8⟩:=k;ac_rfl;refine ir (lK (thn (ht _ M z G _ g q8) λb s9 k=>?_));obtain⟨H9,I9,q9⟩:=k;cases b with
   |false=>
    rw[AC cQ] at q9;exact mo ⟨rfl,nextT I9 q9⟩
   |true=>
    rw[tz rfl] at q9;refine ir (ir (lK (thn (he _ s9 z H9 _ I9 q9) λy SR k=>?_)));rfl';obtain⟨v,QH,UZ,Xz,U,hD,hz,Xx⟩:=k;ac_rfl;refine ir (lK (thn (kq _ SR z QH (.ref D) [v] _ [y] (λ_ c=>L z c) UZ rfl (.cons Xz .nil) ⟨_,U,v,rfl,rfl,hD,hz,Xx⟩) λ_ SS k=>?_));rfl';obtain⟨_,UY,MJ,_,Xy⟩:=k;ac_rfl;exact mo (mo ⟨rfl,nextT MJ Xy⟩)
 exact wj (X:=XC) Y λQ E q=>T.self _ 0 _ _ _ st q
def tIn(p:TG)(q:TT)(r:TE)(D:Addr)(J:It)(N:St->Hp->Prop):St->Hp->Prop:=λs H=>
 ∃W:Nat->Nat->St->Hp->Prop,(∃m,W 0 m s H)/\∀i m d a,W i m d a->(J.stop i a/\N d a)\/
  (J.go i a/\∃e:St->Hp->Prop,(∀h j,e h j->∃k,k<m/\W (i+1) k h j)/\∀x l,J.yld i a x l->p x d l λc t=>q c t λb n=>
   if b=true then r c n λv o=>∃f,o D=some (.lst f)/\f.length<sizeLine/\e c (upd o D (.lst (f++ [v]))) else e c n)
def UW(g:TG)(l:TT)(n:TI)(o:TG)(p:TT)(q:TE)(D:Addr)(J:It)(Q:VK)(r:St)(H:Hp):Prop:=
 ∃W:Nat->Nat->St->Hp->Prop,(∃m,W 0 m r H)/\∀i m d a,W i m d a->
  (J.stop i a/\Q (.ref D) a)\/
  (J.go i a/\∃N:St->Hp->Prop,(∀e f,N e f->∃h,h<m/\W (i+1) h e f)/\∀x j,J.yld i a x j->g x d j λc s=>l c s λb k=>
   if b=true then n c k λt u=>tIn o p q D t N c u else N c k)
def Qp(c:TI)(g:TG)(d:TT)(e:TI)(f:TG)(h:TT)(i:TE)(src:List (Option Nat)):TE:=λa H Q=>c a H λJ b=>∀D,b D=none->UW g d e f h i D J Q (nU src a) (upd b D (.lst []))
theorem sr{RR:Value->Addr->Result->Shared->Prop}{Q:VK}
  (hc:X.calm=true) (c:bP X scope) (dU:dj scope X.N src NC) (I2:Inv X j σ U l) (T:Turn X.prog X.w X.K t0 J F it tn) (pO:tn 0 l.heap) (f2:∀b∈F,fL X j U b)
  (hg:∀ex s H,PG (bY X scope NC ex s H) t0 g) (ht:∀ex s H,mP (bY X scope NC ex s H) f0 tt) (qu:∀ex s H,PI (bY X scope NC ex s H) t1 i1 fh) (CB:∀ex s H,PG (bY X scope NC ex s H) t1 g1)
  (CK:∀ex s H,mP (bY X scope NC ex s H) f1 dA) (he:∀ex s H,PE (bY X scope NC ex s H) elt te) (wx:∀env x,foldedSetIterable i1 env x=pure x)
  (hW:∀D,U D=none->UW g tt fh g1 dA te D J Q (nU src σ) (upd U D (.lst [])))
  (Wu:∀D B H3 G v I,Inv X j σ H3 B->(∀b∈F,fL X j H3 b)->Inv (bY X scope NC F B H3) [] G v I->Q (.ref D) v->RR (.ref D) B.heap.objs.size (.ok .next) I):
  wpAny (model X.prog X.w) X.A (newList []) (λacc GG=>wpAny (model X.prog X.w) X.A (newFunctionEnv scope X.env.globals (jL X.env scope.names []) [] X.env.qual none .none (some X.env)) (λou zv=>
   codeAny (model X.prog X.w) X.A (.compStart (.ListComp elt [⟨t0,i0,f0,0⟩,⟨t1,i1,f1,0⟩] scope pos) 0 (.ref it) acc {ou with scope:=relabel scope X.env}) (RR acc ou.locals) zv) E GG) E l:=by
 rfl';obtain⟨W,⟨m0,w0⟩,turn⟩:=hW l.heap.objs.size I2.fresh;have I3:Inv X j σ (upd U l.heap.objs.size (.lst [])) {l with heap:=l.heap.push {cls:= .type "list",data:= .seq ([]:List Value).toArray}}:=I2.Ky (its:= []) (t':=l.toks) .nil (eN _)
 ac_rfl
 have Xb:∀b∈F,b<l.heap.objs.size:=λb k=>by
  obtain⟨o,e,_⟩:=T.obj _ _ pO b k;exact Fk e
 have f3:∀b∈F,fL X j (upd U l.heap.objs.size (.lst [])) b:=λb k=>⟨by rw[ax (cp (Xb b k))];exact(f2 b k).1,(f2 b k).2⟩
 refine SC ?_
 suffices key:∀B:Shared,Inv X j σ (upd U l.heap.objs.size (.lst [])) B->(∀b o,l.heap.get? b=some o->B.heap.get? b=some o)->
   wpAny (model X.prog X.w) X.A (newFunctionEnv scope X.env.globals (jL X.env scope.names []) [] X.env.qual none .none (some X.env)) (λou zv=>
    codeAny (model X.prog X.w) X.A (.compStart (.ListComp elt [⟨t0,i0,f0,0⟩,⟨t1,i1,f1,0⟩] scope pos) 0 (.ref it) (.ref l.heap.objs.size) {ou with scope:=relabel scope X.env}) (RR (.ref l.heap.objs.size) ou.locals) zv) E B from
  key _ I3 λb o e=>Da _ e
 intro B I3 X6;have GB:tn 0 B.heap:=T.keep _ _ _ pO λb _ o e=>X6 b o e
 have IZ:∀b∈F,b<B.heap.objs.size:=λb k=>by
  obtain⟨o,e,_⟩:=T.obj _ _ GB b k;exact Fk e
 generalize hH3:upd U l.heap.objs.size (.lst [])=H3 at I3 f3 w0;refine wpAny_newFunctionEnv c.nocell (by intro y hy;simp at hy) (λh1 CG CI=>?_) c.kind
 have I4:=Ay (src:=src) (NC:=NC) (ex:=F) (tk:=B.toks+([]:List (Str×Value)).length) I3 c dU f3 IZ CG CI;have Qj:tn 0 h1:=T.keep _ _ _ GB λb k o e=>CI.extBut b o (cp (IZ b k)) (Da _ e);generalize C:bY X scope NC F B H3=a at I4
 have L:∀{v:Hp},(∀b∈F,v b=none)->∀b∈F,fL a [] v b:=λ {v} hn b k=>by
  subst C;refine⟨hn b k,cp (IZ b k),λz=>?_, .inl k,λx d e=>?_,λp hp=>absurd (show p∈([]:List (Addr×Obj)) from hp) (by simp)⟩
  ·exact(I4.ok.exfs b k) z
  ·exact(I4.ok.exf b k).2 x d e
 have LC:a.calm=true:=by subst C;exact hc
 have eP:a.prog=X.prog:=by subst C;rfl
 have ew:a.w=X.w:=by subst C;rfl
 have eK:a.K=X.K:=by subst C;rfl
 have eA:a.A=X.A:=by subst C;rfl
 have RC:a.xe=λ_ _=>False:=by subst C;rfl
 have WH:PG a t0 g:=by subst C;exact hg _ _ _
 have WW:mP a f0 tt:=C▸ht _ _ _;have hiC:PI a t1 i1 fh:=C▸qu _ _ _;have aaz:PG a t1 g1:=C▸CB _ _ _;have aaL:mP a f1 dA:=C▸CK _ _ _;have WD:PE a elt te:=C▸he _ _ _
 have lK:∀{α:Type}{t:Sem α}{Q:α->Shared->Prop}{E:Value->Shared->Prop}{s:Shared},wpAny (model a.prog a.w) a.A t Q a.xe s->wpAny (model X.prog X.w) X.A t Q E s:=λ {α t Q E s} h=>by
  rw[<-eP,<-ew,<-eA];exact wpAny_mono h (λ_ _ q=>q) λ_ _ f=>by rw[RC] at f;exact f.elim
 have Y:codeAny (model X.prog X.w) X.A (.compLoop (.ListComp elt [⟨t0,i0,f0,0⟩,⟨t1,i1,f1,0⟩] scope pos) 0 (.ref it) (.ref l.heap.objs.size) a.env) (RR (.ref l.heap.objs.size) B.heap.objs.size)
   {B with heap:=h1,toks:=B.toks+([]:List (Str×Value)).length}:=by
  refine aga rfl (λn I=>∃i G v,Inv a [] G v I/\tn i I.heap/\(∀b∈F,v b=none)/\W i n G v) (λn I hI=>?_) m0 ⟨0,_,_,I4,Qj,λb k=>(f3 b k).1,w0⟩;rfl';obtain⟨i,G,v,I5,wJ,zY,w5⟩:=hI;ac_rfl;show wpAny _ X.A ((compTurn (.ListComp elt [⟨t0,i0,f0,0⟩,⟨t1,i1,f1,0⟩] scope pos) 0 (.ref it) (.ref l.heap.objs.size) a.env).onRaise (λx=>do noteFrame x a.env;theTreesLotGoes x)) _ _ I
  refine wpAny_noted ?_;rw[xX];refine ir (SL (ir ?_))
  rcases turn i n G v w5 with ⟨stop,qn⟩ | ⟨go,N,hN,step⟩
  ·have hd:=T.done a eP ew eK LC i [] I G v (notedBy (model X.prog X.w) X.A a.env λe I=>RR (.ref l.heap.objs.size) B.heap.objs.size (.error e) I) I5 (L zY) wJ stop
   rw[eA] at hd;refine thn hd λr s6 O=>?_;obtain⟨hr,I6⟩:=O;subst hr;refine mo ?_;subst C;exact Wu _ B _ G v s6 I3 f3 I6 qn
  ·have hd:=T.item a eP ew eK LC i [] I G v (notedBy (model X.prog X.w) X.A a.env λe I=>RR (.ref l.heap.objs.size) B.heap.objs.size (.error e) I) I5 (L zY) wJ go
   rw[eA] at hd;refine thn hd λr s6 O=>?_;obtain⟨u,hr,h6⟩:=O;subst hr;refine ir (thn h6 λ_ s7 O=>?_);rfl';obtain⟨x,H7,I7,r7,y7,zk,NN⟩:=O;ac_rfl;have ML:=I7.pinned (L NN) (T.obj _ _ zk)
   have nextT:∀{Z:St}{H8:Hp}{s8:Shared},Inv a ([]++m8 F s7.heap) Z H8 s8->N Z H8->∃m,m<n/\∃i G v,Inv a [] G v s8/\tn i s8.heap/\(∀b∈F,v b=none)/\W i m G v:=λ {Z H8 s8} I8 n8=>by
    obtain⟨m',hm,w8⟩:=hN Z H8 n8;refine⟨m',hm,i+1,Z,H8,I8.j6,T.keep _ _ _ zk λb k o e=>(I8.pin (b,o) (dW _ (dW _ (fj k e)))).1,λb k=>?_,w8⟩;obtain⟨o,e,d⟩:=T.obj _ _ zk b k;exact(I8.pin (b,o) (dW _ (dW _ (fj k e)))).2.1
   refine ir (lK (thn (WH _ s7 G H7 x u _ ML r7 (step x H7 y7)) λ_ s8 O=>?_));rfl';obtain⟨Z,H8,I8,q8⟩:=O;ac_rfl;refine ir (lK (thn (WW _ s8 Z H8 _ I8 q8) λb s9 O=>?_));obtain⟨H9,I9,q9⟩:=O;cases b with
   |false=>
    rw[AC cQ] at q9;exact mo ⟨C▸rfl,nextT I9 q9⟩
   |true=>
    rw[tz rfl] at q9;refine ir (lK (thn (hiC _ s9 Z H9 _ I9 q9) λv1 SR h10=>?_));refine ir (SL (ir (aeG (wx _ v1) (ir (M2 (lK (thn h10 λqv SS h11=>?_)))))));rfl';obtain⟨OD,fp1,tn1,J1,UY,rfl,MJ,T1,adw,f11,hin⟩:=h11;ac_rfl;refine ir (wpAny_runOwn ?_);have tr:∀(cd:Code)(R:Result->Shared->Prop),codeAny (model a.prog a.w) a.A cd R SS->codeAny (model X.prog X.w) X.A cd R SS:=λcd R h=>by rw[eP,ew,eA] at h;exact h
    exact tr _ _ (EL RC LC MJ T1 adw f11 aaz aaL WD hin λG v I I12 n12=>mo ⟨C▸rfl,nextT I12 n12⟩)
 subst C;exact afW Y (T.self _ 0 _ _ _ Qj Y)
theorem Sn(e:X.calm=true)(c:bP X scope)(f:dj scope X.N src NC)(i:PI X t0 i0 wi)
  (j:∀a s H,PG (bY X scope NC a s H) t0 g) (k:∀a s H,mP (bY X scope NC a s H) f0 tt) (l:∀a s H,PI (bY X scope NC a s H) t1 i1 fh) (n:∀a s H,PG (bY X scope NC a s H) t1 g1)
  (o:∀a s H,mP (bY X scope NC a s H) f1 dA) (p:∀a s H,PE (bY X scope NC a s H) elt te)
  (q:∀x,foldedSetIterable i0 X.env x=pure x:=by intro _;rfl) (r:∀env x,foldedSetIterable i1 env x=pure x:=by intro _ _;rfl):
  PE X (.ListComp elt [⟨t0,i0,f0,0⟩,⟨t1,i1,f1,0⟩] scope pos) (Qp wi g tt fh g1 dA te src):=by
 intro b s t H Q I h;rw[eval_ListComp];refine ael (use:=none) rfl q (f7 (c.cells I.ok)) c.kind c.names (thn (i b s t H _ I h) λv O u=>thn u λR U w=>?_);obtain⟨Y,Z,tn,J,H2,rfl,y,T,z,A,B⟩:=w
 exact sr e c f y T z A j k l n o p r B λD s3 H3 ay C s' E F d G=>by
  obtain⟨m,L,_⟩:=d.loc;exact⟨m,L,λh' M=>⟨.ref D,C,comp_back E F d M,rfl,G⟩⟩
end
end L2
namespace KS
open PySem PySem.W PyProof.Rows
def ev{b:Type}(lt:Nat->Nat->Bool):KasT b->b
 | .ret a=>a
 | .ask i j k=>ev lt (k (lt i j))
theorem mr(lt:Nat->Nat->Bool)(f:a->KasT b):∀t:KasT a,ev lt (t.bind f)=ev lt (f (ev lt t))
 | .ret _=>rfl
 | .ask i j k=>mr lt f (k (lt i j))
structure Ord (lt:Nat->Nat->Bool):Prop where
 irr:∀a,lt a a=false
 neg:∀a b c,lt a c=true->lt a b=true\/lt b c=true
 tr:∀a b c,lt a b=true->lt b c=true->lt a c=true
section
variable {lt:Nat->Nat->Bool} (O:Ord lt)
def Le(lt:Nat->Nat->Bool)(a b:Nat):Prop:=lt b a=false
include O
theorem Ord.as(h:lt a b=true):Le lt a b:=by
 unfold Le;cases q:lt b a with
 |false=>rfl
 |true=>have:=O.tr _ _ _ h q;rw[O.irr] at this;cases this
theorem Ord.gm(h:Le lt a b)(d:Le lt b c):Le lt a c:=by
 unfold Le at*;cases q:lt c a with
 |false=>rfl
 |true=>rcases O.neg _ b _ q with z|z
        ·rw[d] at z;cases z
        ·rw[h] at z;cases z
theorem Ord.rf(a:Nat):Le lt a a:=O.irr a
omit O
def P(p:Array Nat)(i:Nat):Nat:=p.getD i 0
theorem Eo(h:p[i]? =q[j]?):P p i=P q j:=by unfold P;rw[vZ,vZ,h]
def uf(lt:Nat->Nat->Bool)(p:Array Nat)(k:Nat):Prop:=∀i j,i<=j->j<k->Le lt (P p i) (P p j)
def xr(lt:Nat->Nat->Bool)(p:Array Nat)(k:Nat):Prop:=∀i j,i<=j->j<k->Le lt (P p j) (P p i)
theorem uh(a:j<=p.size)(k:Nat):P (kas_rev p i j) k=if i<=k/\k<j then P p (i+j-1-k) else P p k:=by
 have e:=getElem?_mirror_all (xs:=p) (i:=i) a k;unfold kas_rev
 split
 ·rename_i h;rw[tz h] at e;exact Eo e
 ·rename_i h;rw[AC h] at e;exact Eo e
theorem gb(p:Array Nat)(i j:Nat):(kas_rev p i j).Perm p:=mirror_perm _ _ _ _
theorem uZ(p:Array Nat)(i j:Nat):(kas_rev p i j).size=p.size:=mirror_size _ _ _ _
include O
theorem MQ{p:Array Nat}:uf lt p 1:=λi j a b=>by
 have e:i=j:=by omega
 subst e;exact O.rf _
theorem BR{p:Array Nat}:∀(f n:Nat),1<=n->uf lt p n->uf lt p (ev lt (kas_asc p f n))/\n<=ev lt (kas_asc p f n)/\ev lt (kas_asc p f n)<=n+f/\
  (ev lt (kas_asc p f n)<n+f->lt (P p (ev lt (kas_asc p f n))) (P p (ev lt (kas_asc p f n)-1))=true)
 |0,n,g,h=>⟨h,bK _,bK _,λz=>absurd z (hJ _)⟩
 |f+1,n,g,h=>by
  have e:ev lt (kas_asc p (f+1) n)=ev lt (if lt (P p n) (P p (n-1))=true then KasT.ret n else kas_asc p f (n+1)):=rfl;rw[e];cases c:lt (P p n) (P p (n-1)) with
  |true=>
   rw[tz rfl];exact⟨h,bK _,by show n<=_;omega,λ_=>c⟩
  |false=>
   rw[AC cQ]
   have up:uf lt p (n+1):=λi j k o=>by
    by_cases l:j<n
    ·exact h i j k l
    ·by_cases m:i=j
     ·subst m;exact O.rf _
     ·have:j=n:=by omega
      subst this;exact O.gm (h i (j-1) (by omega) (by omega)) c
   obtain⟨a,b,d,e⟩:=BR f (n+1) (by omega) up
   exact⟨a,by omega,by omega,λz=>e (by omega)⟩
theorem wN:∀(f:Nat)(p:Array Nat)(n q:Nat),1<=n->q+1<=n->n+f<=p.size->xr lt p n->(∀i,n-(q+1)<=i->i<n->Le lt (P p i) (P p (n-1)))->
  ∃l k m,ev lt (kas_desc f p n q)=(l,k,m)/\l.Perm p/\n<=k/\k<=n+f/\m+1<=k/\xr lt l k/\(∀i,k-(m+1)<=i->i<k->Le lt (P l i) (P l (k-1)))
 |0,p,n,q,C,y,E,h,s=>⟨p,n,q,rfl, .refl _,bK _,bK _,y,h,s⟩
 |f+1,p,n,q,C,y,E,h,s=>by
  have e:ev lt (kas_desc (f+1) p n q)=ev lt (if lt (P p n) (P p (n-1))=true then(if q>0 then kas_desc f (kas_rev p (n-(q+1)) n) (n+1) 0 else kas_desc f p (n+1) 0)
    else KasT.ask (P p (n-1)) (P p n) λd=>if d=true then KasT.ret (p,n,q) else kas_desc f p (n+1) (q+1)):=rfl
  rw[e];cases c:lt (P p n) (P p (n-1)) with
  |true=>
   rw[tz rfl]
   have up:xr lt p (n+1):=λi j o r=>by
    by_cases z:j<n
    ·exact h i j o z
    ·by_cases t:i=j
     ·subst t;exact O.rf _
     ·have:j=n:=by omega
      subst this;exact O.gm (O.as c) (h i (j-1) (by omega) (by omega))
   by_cases u:q>0
   ·rw[tz u]
    have A:∀i,i<n+1->Le lt (P (kas_rev p (n-(q+1)) n) i) (P p i)/\Le lt (P p i) (P (kas_rev p (n-(q+1)) n) i):=λi t=>by
     rw[uh (by omega)]
     split
     ·rename_i B
      have F:=s i B.1 B.2;have G:=s (n-(q+1)+n-1-i) (by omega) (by omega)
      have H:=h i (n-1) (by omega) (by omega)
      have I:=h (n-(q+1)+n-1-i) (n-1) (by omega) (by omega)
      exact⟨O.gm G H,O.gm F I⟩
     ·exact⟨O.rf _,O.rf _⟩
    have J:xr lt (kas_rev p (n-(q+1)) n) (n+1):=λi j o r=>O.gm (A j r).1 (O.gm (up i j o r) (A i (by omega)).2)
    obtain⟨l,k,m,x,a,b,d,g,w,v⟩:=wN f (kas_rev p (n-(q+1)) n) (n+1) 0 (by omega) (by omega) (by rw[uZ];omega) J (λi o r=>by
     have:i=n+1-1:=by omega
     rw[this];exact O.rf _)
    exact⟨l,k,m,x,a.trans (gb _ _ _),by omega,by omega,g,w,v⟩
   ·rw[AC u]
    obtain⟨l,k,m,x,a,b,d,g,w,v⟩:=wN f p (n+1) 0 (by omega) (by omega) (by omega) up (λi o r=>by
     have:i=n+1-1:=by omega
     rw[this];exact O.rf _)
    exact⟨l,k,m,x,a,by omega,by omega,g,w,v⟩
  |false=>
   rw[AC cQ];have L:ev lt (KasT.ask (P p (n-1)) (P p n) λd=>if d=true then KasT.ret (p,n,q) else kas_desc f p (n+1) (q+1))=ev lt (if lt (P p (n-1)) (P p n)=true then KasT.ret (p,n,q) else kas_desc f p (n+1) (q+1)):=rfl;rw[L];cases M:lt (P p (n-1)) (P p n) with
   |true=>
    rw[tz rfl];exact⟨p,n,q,rfl, .refl _,bK _,by omega,y,h,s⟩
   |false=>
    rw[AC cQ]
    have up:xr lt p (n+1):=λi j o r=>by
     by_cases z:j<n
     ·exact h i j o z
     ·by_cases t:i=j
      ·subst t;exact O.rf _
      ·have:j=n:=by omega
       subst this;exact O.gm M (h i (j-1) (by omega) (by omega))
    obtain⟨l,k,m,x,a,b,d,g,w,v⟩:=wN f p (n+1) (q+1) (by omega) (by omega) (by omega) up (λi o r=>by
     show Le lt (P p i) (P p n)
     by_cases t:i=n
     ·subst t;exact O.rf _
     ·exact O.gm (s i (by omega) (by omega)) c)
    exact⟨l,k,m,x,a,by omega,by omega,g,w,v⟩
theorem PU{p:Array Nat}(a:n<=p.size)(h:xr lt p n):uf lt (kas_rev p 0 n) n:=λi j c b=>by
 rw[uh a,uh a,tz ⟨eN _,by omega⟩,tz ⟨eN _,b⟩]
 exact h _ _ (by omega) (by omega)
theorem GH{p:Array Nat}{n nrem:Nat}(e:1<=n)(f:n<=nrem)(g:nrem<=p.size)(h:xr lt p n):
  ∃m d,ev lt (kas_tail3 n nrem p)=(m,d)/\d.Perm p/\1<=m/\m<=nrem/\uf lt d m:=by
 unfold kas_tail3;rw[mr];obtain⟨a,b,c,_⟩:=BR O (p:=kas_rev p 0 n) (nrem-n) n e (PU O (by omega) h)
 exact⟨_,_,rfl,gb _ _ _,by omega,by omega,a⟩
theorem sD{p:Array Nat}{n nrem:Nat}(G:1<=n)(H:n<nrem)(I:nrem<=p.size)(h:xr lt p (n+1)):
  ∃m e,ev lt (kas_descPart n nrem p)=(m,e)/\e.Perm p/\1<=m/\m<=nrem/\uf lt e m:=by
 unfold kas_descPart;rw[mr]
 obtain⟨e,c,f,A,a,b,d,g,w,v⟩:=wN O (nrem-(n+1)) p (n+1) 0 (by omega) (by omega) (by omega) h (λi u o=>by
  have:i=n+1-1:=by omega
  rw[this];exact O.rf _)
 rw[A];dsimp only;have J:e.size=p.size:=a.size_eq
 by_cases x:f>0
 ·rw[tz x]
  have y:∀i,i<c->Le lt (P (kas_rev e (c-(f+1)) c) i) (P e i)/\Le lt (P e i) (P (kas_rev e (c-(f+1)) c) i):=λi L=>by
   rw[uh (by omega)]
   split
   ·rename_i z
    have B:=v i z.1 z.2;have k:=v (c-(f+1)+c-1-i) (by omega) (by omega)
    have C:=w i (c-1) (by omega) (by omega)
    have l:=w (c-(f+1)+c-1-i) (c-1) (by omega) (by omega)
    exact⟨O.gm k C,O.gm B l⟩
   ·exact⟨O.rf _,O.rf _⟩
  have E:xr lt (kas_rev e (c-(f+1)) c) c:=λi j u o=>O.gm (y j o).1 (O.gm (w i j u o) (y i (by omega)).2)
  obtain⟨m,q,r,k,l,s,t⟩:=GH O (n:=c) (nrem:=nrem) (p:=kas_rev e (c-(f+1)) c) (by omega) (by omega) (by rw[uZ];omega) E
  exact⟨m,q,r,k.trans ((gb _ _ _).trans a),l,s,t⟩
 ·rw[AC x]
  rfl';obtain⟨m,q,r,k,l,s,t⟩:=GH O (n:=c) (nrem:=nrem) (p:=e) (by omega) (by omega) (by omega) w
  ac_rfl;exact⟨m,q,r,k.trans a,l,s,t⟩
theorem Lb{p:Array Nat}(I:1<=nrem)(u:nrem<=p.size):∃m f,ev lt (kas_count nrem p)=(m,f)/\f.Perm p/\1<=m/\m<=nrem/\uf lt f m:=by
 unfold kas_count;rw[mr];rfl';obtain⟨a,b,c,d⟩:=BR O (p:=p) (nrem-1) 1 (bK _) (MQ O);ac_rfl;generalize ev lt (kas_asc p (nrem-1) 1)=n at a b c d
 by_cases g:n=nrem
 ·rw[tz (by simpa using g)]
  exact⟨_,_,rfl, .refl _,by omega,by omega,a⟩
 ·rw[AC (by simpa using g)]
  have r:=d (by omega)
  by_cases s:n>1
  ·rw[tz s]
   have e:ev lt (KasT.ask (P p 0) (P p (n-1)) λc=>if c=true then KasT.ret (n,p) else kas_descPart n nrem (kas_rev p 0 n))=ev lt (if lt (P p 0) (P p (n-1))=true then KasT.ret (n,p) else kas_descPart n nrem (kas_rev p 0 n)):=rfl;show ∃m f,ev lt (KasT.ask (P p 0) (P p (n-1)) λc=>if c=true then KasT.ret (n,p) else kas_descPart n nrem (kas_rev p 0 n))=(m,f)/\_;rw[e];cases w:lt (P p 0) (P p (n-1)) with
   |true=>
    rw[tz rfl];exact⟨_,_,rfl, .refl _,by omega,by omega,a⟩
   |false=>
    rw[AC cQ];have t:∀i j,i<n->j<n->Le lt (P p i) (P p j):=λi j k h=>O.gm (a i (n-1) (by omega) (by omega)) (O.gm w (a 0 j (by omega) h))
    have o:xr lt (kas_rev p 0 n) (n+1):=λi j x y=>by
     rw[uh (by omega),uh (by omega)]
     by_cases h:j<n
     ·rw[tz ⟨eN _,h⟩,tz ⟨eN _,by omega⟩]
      exact t _ _ (by omega) (by omega)
     ·have q:j=n:=by omega
      subst q;rw[AC (by omega)]
      by_cases k:i<j
      ·rw[tz ⟨eN _,k⟩]
       exact O.gm (O.as r) (t _ _ (by omega) (by omega))
      ·rw[AC (by omega)]
       have:i=j:=by omega
       subst this;exact O.rf _
    rfl';obtain⟨m,z,A,B,C,E,F⟩:=sD O (n:=n) (nrem:=nrem) (p:=kas_rev p 0 n) (by omega) (by omega) (by rw[uZ];omega) o
    ac_rfl;exact⟨m,z,A,B.trans (gb _ _ _),C,E,F⟩
  ·rw[AC s]
   have G:n=1:=by omega
   subst G
   have o:xr lt p (1+1):=λi j x y=>by
    by_cases k:i=j
    ·subst k;exact O.rf _
    ·have h:j=1:=by omega
     have H:i=0:=by omega
     subst h H;exact O.as r
   exact sD O (n:=1) (nrem:=nrem) (p:=p) (by omega) (by omega) u o
theorem uV(h:uf lt p k):∀(f l r:Nat),r<=l+f->l<=r->r<=k->(∀i,i<l->Le lt (P p i) (P p k))->(∀i,r<=i->i<k->lt (P p k) (P p i)=true)->
  ev lt (kas_place p k f l r)<=k/\(∀i,i<ev lt (kas_place p k f l r)->Le lt (P p i) (P p k))/\(∀i,ev lt (kas_place p k f l r)<=i->i<k->lt (P p k) (P p i)=true)
 |0,l,r,m,n,b,d,g=>by
  have e:l=r:=by omega
  subst e;exact⟨b,d,g⟩
 |f+1,l,r,m,n,b,d,g=>by
  by_cases a:l>=r
  ·have e:ev lt (kas_place p k (f+1) l r)=l:=by
    show ev lt (if l>=r then KasT.ret l else _)=l;rw[tz a];rfl
   have o:l=r:=by omega
   rw[e];subst o;exact⟨b,d,g⟩
  ·have e:ev lt (kas_place p k (f+1) l r)=ev lt (if lt (P p k) (P p ((l+r) / 2))=true then kas_place p k f l ((l+r) / 2) else kas_place p k f ((l+r) / 2+1) r):=by
    show ev lt (if l>=r then KasT.ret l else _)=_;rw[AC a];rfl
   rw[e];cases c:lt (P p k) (P p ((l+r) / 2)) with
   |true=>
    rw[tz rfl];refine uV h f l ((l+r) / 2) (by omega) (by omega) (by omega) d λi j q=>?_
    rcases O.neg _ (P p i) _ c with z|z
    ·exact z
    ·have:=h ((l+r) / 2) i j q
     unfold Le at this;rw[this] at z;cases z
   |false=>
    rw[AC cQ];exact uV h f ((l+r) / 2+1) r (by omega) (by omega) b (λi j=>O.gm (h i ((l+r) / 2) (by omega) (by omega)) c) g
theorem Ka:∀(f:Nat)(p:Array Nat)(k:Nat),k+f<=p.size->uf lt p k->∃g,ev lt (kas_bin f p k)=g/\g.Perm p/\uf lt g (k+f)
 |0,p,k,_,h=>⟨p,rfl, .refl _,h⟩
 |f+1,p,k,A,h=>by
  have e:ev lt (kas_bin (f+1) p k)=ev lt (kas_bin f (bubble p k (k-ev lt (kas_place p k k 0 k))) (k+1)):=by
   show ev lt ((kas_place p k k 0 k).bind λl=>kas_bin f (bubble p k (k-l)) (k+1))=_;rw[mr]
  rw[e];obtain⟨a,b,c⟩:=uV O h k 0 k (by omega) (eN _) (bK _) (λi t=>absurd t (Nat.not_lt_zero _)) (λi r d=>absurd d (by omega))
  generalize ev lt (kas_place p k k 0 k)=l at a b c
  have s:∀x,P (bubble p k (k-l)) x=if x=l then P p k else if l<x/\x<=k then P p (x-1) else P p x:=λx=>by
   have q:=getElem?_bubble (xs:=p) (src:=k) (by omega) (k-l) (by omega) x
   have n:k-(k-l)=l:=by omega
   rw[n] at q
   split
   ·rename_i o;rw[tz o] at q;exact Eo q
   ·rename_i o
    rw[AC o] at q
    split
    ·rename_i d;rw[tz d] at q;exact Eo q
    ·rename_i d;rw[AC d] at q;exact Eo q
  have up:uf lt (bubble p k (k-l)) (k+1):=λi j r d=>by
   rw[s,s]
   by_cases n:i=l
   ·rw[tz n]
    by_cases m:j=l
    ·rw[tz m];exact O.rf _
    ·rw[AC m,tz ⟨by omega,by omega⟩]
     exact O.as (c (j-1) (by omega) (by omega))
   ·rw[AC n]
    by_cases m:j=l
    ·rw[tz m,AC (by omega)]
     exact b i (by omega)
    ·rw[AC m]
     by_cases u:l<i
     ·rw[tz ⟨u,by omega⟩,tz ⟨by omega,by omega⟩]
      exact h _ _ (by omega) (by omega)
     ·rw[AC (by omega)]
      by_cases v:l<j
      ·rw[tz ⟨v,by omega⟩]
       exact h _ _ (by omega) (by omega)
      ·rw[AC (by omega)]
       exact h _ _ r (by omega)
  obtain⟨g,w,y,z⟩:=Ka f (bubble p k (k-l)) (k+1) (by rw[bubble_size];omega) up
  exact⟨g,w,y.trans (bubble_perm _ _ _),by rw[show k+(f+1)=k+1+f by omega];exact z⟩
theorem Gu{n:Nat}(t:1<=n):∃p,ev lt (kas_sort n)=p/\p.toList.Perm (List.range n)/\p.toList.Pairwise (Le lt):=by
 have f:∀p:Array Nat,p.size=n->uf lt p n->p.toList.Pairwise (Le lt):=λp B h=>by
  rw[J2];intro i j u v C;have w:i<p.size:=by simpa using u
  have x:j<p.size:=by simpa using v
  have q:=h i j (by omega) (by omega)
  unfold P at q;simpa [Array.getD,w,x] using q
 unfold kas_sort;rw[mr];rfl';obtain⟨m,e,z,a,b,c,d⟩:=Lb O (p:=List.toArray (List.range n)) t (by simp)
 ac_rfl;rw[z];dsimp only;have g:e.size=n:=by rw[a.size_eq];simp
 have k:e.toList.Perm (List.range n):=by simpa using J0.mp a
 by_cases l:m<n
 ·rw[tz l]
  obtain⟨o,A,r,s⟩:=Ka O (n-max m 1) e (max m 1) (by omega) (by rw[show max m 1=m by omega];exact d)
  refine⟨o,A,(J0.mp r).trans k,f o (by rw[r.size_eq,g]) ?_⟩
  rw[show max m 1+(n-max m 1)=n by omega] at s
  exact s
 ·rw[AC l]
  have:m=n:=by omega
  subst this;exact⟨e,rfl,k,f e g d⟩
end
def gQ{c:Type}(n:Nat)(Q:c->Prop):KasT c->Prop
 | .ret a=>Q a
 | .ask i j k=>i<n/\j<n/\∀b,gQ n Q (k b)
theorem iU{c:Type}{n:Nat}{Q d:c->Prop}(h:∀a,Q a->d a):∀t:KasT c,gQ n Q t->gQ n d t
 | .ret a,z=>h a z
 | .ask _ _ k,z=>⟨z.1,z.2.1,λb=>iU h (k b) (z.2.2 b)⟩
theorem allI_bind:∀t:KasT c,gQ n (λa=>gQ n Q (f a)) t->gQ n Q (t.bind f)
 | .ret _,z=>z
 | .ask _ _ k,z=>⟨z.1,z.2.1,λb=>allI_bind (k b) (z.2.2 b)⟩
def qo(n:Nat)(p:Array Nat):Prop:=0<n/\∀x∈p.toList,x<n
theorem qo.at{p:Array Nat}(h:qo n p)(i:Nat):p.getD i 0<n:=by
 rw[vZ];cases q:p[i]? with
 |none=>exact h.1
 |some x=>
  refine h.2 x ?_;rw[<-mM] at q;exact fB q
theorem qo.perm(h:qo n p)(a:q.Perm p):qo n q:=⟨h.1,λx b=>h.2 x ((J0.mp a).mem_iff.mp b)⟩
theorem xE(h:qo n p):∀f m,gQ n (λ_=>True) (kas_asc p f m)
 |0,_=>trivial
 |f+1,m=>⟨h.at _,h.at _,λb=>by cases b with|true=>exact trivial|false=>exact xE h f (m+1)⟩
theorem p9:∀(f:Nat)(p:Array Nat)(m q:Nat),qo n p->gQ n (λr=>qo n r.1) (kas_desc f p m q)
 |0,p,m,q,h=>h
 |f+1,p,m,q,h=>⟨h.at _,h.at _,λb=>by
  cases b with
  |true=>
   show gQ n _ (if q>0 then kas_desc f (kas_rev p (m-(q+1)) m) (m+1) 0 else kas_desc f p (m+1) 0)
   split
   ·exact p9 f _ _ _ (h.perm (gb _ _ _))
   ·exact p9 f _ _ _ h
  |false=>
   refine⟨h.at _,h.at _,λd=>?_⟩;cases d with
   |true=>exact h
   |false=>exact p9 f _ _ _ h⟩
theorem Bv(h:qo n p)(m a:Nat):gQ n (λr=>qo n r.2) (kas_tail3 m a p):=
 allI_bind _ (iU (λ_ _=>h.perm (gb _ _ _)) _ (xE (h.perm (gb _ _ _)) _ _))
theorem qA(h:qo n p)(m a:Nat):gQ n (λr=>qo n r.2) (kas_descPart m a p):=
 allI_bind _ (iU (λr b=>by
  show gQ n _ (if r.2.2>0 then _ else _)
  split
  ·exact Bv (b.perm (gb _ _ _)) _ _
  ·exact Bv b _ _) _ (p9 _ _ _ _ h))
theorem Hs{n:Nat}{p:Array Nat}(h:qo n p)(a:Nat):gQ n (λr=>qo n r.2) (kas_count a p):=
 allI_bind _ (iU (λm _=>by
  show gQ n _ (if (m==a)=true then _ else _)
  split
  ·exact h
  ·split
   ·refine⟨h.at _,h.at _,λb=>?_⟩
    cases b with
    |true=>exact h
    |false=>exact qA (h.perm (gb _ _ _)) _ _
   ·exact qA h _ _) _ (xE h _ _))
theorem rH(h:qo n p)(k:Nat):∀f l r,gQ n (λ_=>True) (kas_place p k f l r)
 |0,_,_=>trivial
 |f+1,l,r=>by
  show gQ n _ (if l>=r then _ else _)
  split
  ·exact trivial
  ·refine⟨h.at _,h.at _,λb=>?_⟩
   cases b with
   |true=>exact rH h k f _ _
   |false=>exact rH h k f _ _
theorem EC:∀(f:Nat)(p:Array Nat)(k:Nat),qo n p->gQ n (λ_=>True) (kas_bin f p k)
 |0,_,_,_=>trivial
 |f+1,p,k,h=>allI_bind _ (iU (λl _=>EC f _ _ (h.perm (bubble_perm _ _ _))) _ (rH h k _ _ _))
theorem Bt{n:Nat}(a:0<n):gQ n (λ_=>True) (kas_sort n):=
 allI_bind _ (iU (λr b=>by
  show gQ n _ (if r.1<n then _ else _)
  split
  ·exact EC _ _ _ b
  ·exact trivial) _ (Hs (n:=n) (p:=List.toArray (List.range n)) ⟨a,λx c=>dY.mp (by simpa using c)⟩ n))
theorem JY{lt:Nat->Nat->Bool}{n:Nat}
  (c:∀i j (C:Bool->Shared->Prop),i<n->j<n->C (lt i j) s->a i j C s):∀t:KasT b,gQ n (λ_=>True) t->Q (ev lt t) s->t.kasWp a Q s
 | .ret _,_,h=>h
 | .ask i j k,z,h=>c i j _ z.1 z.2.1 (JY c (k (lt i j)) (z.2.2 _) h)
section
variable {prog:Program} {w:World} {A:Around} {E:Value->Shared->Prop} {s:Shared}
theorem Gv(d:s.heap.get? a=some (seqObj "list" b.toArray n))(j:b.length<2)
  (h:G (.done (.ret .none)) {s with heap:=sortedHeap s.heap a b b.toArray}):wpAny (model prog w) A (Builtin.«list.sort» ⟨[.ref a],[]⟩) G E s:=by
 rw[list_sort_plain];have m:a<s.heap.objs.size:=Fk d;refine ir (listItems_at d rfl (ir (listUpdate_at d rfl ?_)));obtain⟨l,e⟩:∃k,(s.heap.update a (Obj.mapSeq λ_=> #[])).get? a=some (seqObj "list" #[] k):=⟨_,get?_update_seq d (λ_=> #[])⟩;refine ir (seqEpoch_at e rfl (ir (wpAny_newTuple (ir (wpAny_newList (M2 ?_))))));have c:(((s.heap.update a (Obj.mapSeq λ_=> #[])).push (seqObj "tuple" b.toArray 0)).push (seqObj "list" #[] 0)).get? a=some (seqObj "list" #[] l):=Da _ (Da _ e);show wpAny (model prog w) A _ G E {s with heap:=((s.heap.update a (Obj.mapSeq λ_=> #[])).push (seqObj "tuple" b.toArray 0)).push (seqObj "list" #[] 0)}
 dsimp only;have f:b.toArray.size<2:=j;rw[tz f,tz f];refine ir (mo ?_);rw[StateT.run_pure];refine ir (mo ?_);dsimp only
 have g:(arrOf (SortSt.mk' general' (b.toArray.zip b.toArray) #[] 7 none)).map (·.2)=b.toArray:=by
  show(b.toArray.zip b.toArray).map (·.2)=b.toArray;apply Array.toList_inj.mp;simp[List.map_snd_zip]
 refine ir (seqEpoch_at c rfl (ir (listUpdate_at c rfl ?_ (hsz2:=by rw[g];rw[aee];omega))))
 simp only[bne_self_eq_false,gW,PP];have i:=h;unfold sortedHeap at i;rw[g];exact mo i
theorem qH(e:s.heap.IsList l a.toArray)(f:a.length<2)(h:G (.ref (s.heap.objs.size+1)) {s with heap:=sortedAll s.heap a a.toArray}):
  wpAny (model prog w) A (call (.builtin "sorted") [.ref l]) G E s:=by
 refine Calls.call_function_entry kind_sorted plain_sorted entry_sorted (args_sorted1 (.ref l)) ?_;unfold Builtin.«sorted»;have b:a.length<=sizeLine:=by rw[aee];omega
 refine ir (m:=checkCount "sorted" 1 1 _) (mo (ir (collect_list e (ir (wpAny_newList ?_ b)) b)));have c:((s.heap.push (seqObj "list" #[] 0)).update s.heap.objs.size (Obj.mapSeq (·++a.toArray))).objs.size=s.heap.objs.size+1:=by rw[Heap.size_update,size_push']
 have d:(((s.heap.push (seqObj "list" #[] 0)).update s.heap.objs.size (Obj.mapSeq (·++a.toArray))).push (seqObj "list" a.toArray 0)).get? (s.heap.objs.size+1)=some (seqObj "list" a.toArray 0):=by
  rw[<-c];exact FS _ rfl
 show wpAny (model prog w) _ _ _ E {s with heap:=((s.heap.push (seqObj "list" #[] 0)).update s.heap.objs.size (Obj.mapSeq (·++a.toArray))).push (seqObj "list" a.toArray 0)}
 rw[c];exact ir (M2 (aeO slot_list_sort ⟨_,d,rfl⟩ entry_list_sort (Gv d f ⟨_,rfl,mo ⟨_,rfl,h⟩⟩) (args_list_sort _)))
end
end KS
namespace L2
open PySem PySem.Spec PyProof.Rows
section
variable {X:Cx} {pins:List (Addr×Obj)} {σ:St} {H:Hp} {s:Shared} {h':Heap}
theorem Inv.OJ{t':Nat}{o:HO}(I:Inv X pins σ H s)(k:∀b o,b≠X.env.locals->s.heap.get? b=some o->h'.get? b=some o)(f:∀m,s.heap.Ns X.env.locals m->h'.Ns X.env.locals m)
  (h:s.heap.get? t=none) (i:H t=none) (new:cc X.prog X.w (upd H t o) h' t o):Inv X pins σ (upd H t o) {s with heap:=h',toks:=t'}:=by
 have up:∀b u,H b=some u->upd H t o b=some u:=λb u e=>by rw[ax (aB e i)];exact e
 have g:∀b u,H b=some u->b≠X.env.locals:=λb u e z=>by rw[z,I.free] at e;cases e
 refine I.step (g':=s.gens) (d':=s.drawn) (ch:= []) (λb a=>by cases a) (λb o a _ _ e _=>k b o a e) (λb o a _ _ e _=>⟨o.slots,k b o a e⟩) (λb o _ e n=>?_)
  (λb o _ e=>?_) (λb x e=>up b _ e) (λb _ _ e=>up b _ e) (λb y e=>⟨#[],by rw[up b _ e];simp⟩) f (λb u e=>?_) I.bare
 ·rw[ax (λz=>by rw[z,h] at e;cases e)];exact n
 ·by_cases a:b=X.env.locals
  ·obtain⟨m,j,_⟩:=I.loc
   obtain⟨l,_,_,p,_⟩:=f m j;rw[a];exact⟨l,p⟩
  ·exact⟨o,k b o a e⟩
 ·by_cases a:b=t
  ·subst a
   rw[av] at e;cases Do e;exact new
  ·rw[ax a] at e
   refine(I.hok b u e).nV (λc v r q=>k c v ?_ q) (λd q=>up d _ q) λd _ q=>up d _ q
   rcases r with z|z
   ·rw[z];exact g b u e
   ·exact g c _ z
end
def Jn(k:Nat×Nat):List V:= [.int (k.1:Nat), .int (k.2:Nat)]
def K6(H:Hp)(L:List (Addr×(Nat×Nat))):Prop:=∀p∈L,H p.1=some (.tup (Jn p.2))
def kn(a b:Nat×Nat):Bool:=if a.1=b.1 then decide (a.2<b.2) else decide (a.1<b.1)
theorem uE(x y:Nat×Nat):kn x y=true↔x.1<y.1\/(x.1=y.1/\x.2<y.2):=by
 unfold kn
 by_cases e:x.1=y.1
 ·rw[tz e,decide_eq_true_iff]
  omega
 ·rw[AC e,decide_eq_true_iff]
  omega
theorem LN(x y z:Nat×Nat)(h:kn x z=true):kn x y=true\/kn y z=true:=by
 rw[uE] at*;rw[uE];omega
theorem ON(x y z:Nat×Nat)(h:kn x y=true)(a:kn y z=true):kn x z=true:=by
 rw[uE] at*;omega
theorem LO(L:List (Addr×(Nat×Nat))):KS.Ord λi j=>kn (L.getD i (0,(0,0))).2 (L.getD j (0,(0,0))).2 where
 irr:=λa=>by unfold kn;rw[tz rfl];simp
 neg:=λa b c h=>LN _ _ _ h
 tr:=λa b c h d=>ON _ _ _ h d
theorem OM(h:kn b a=false):Wb.lexLe a b:=by
 unfold kn at h;unfold Wb.lexLe
 by_cases e:b.1=a.1
 ·rw[tz e] at h
  have:=KF h
  right;omega
 ·rw[AC e] at h
  have:=KF h
  left;omega
theorem RL 
  (n:IsTup s.heap x [.int a i, .int b j].toArray) (o:IsTup s.heap y [.int c k, .int d l].toArray)
  (h:C (if a=c then decide (b<d) else decide (a<c)) s):wpAny (model prog w) A (keyLt' (tuples' true) (.ref x) (.ref y)) C E s:=by
 rfl';obtain⟨u,f,_,v,q⟩:=n;obtain⟨z,g,_,B,r⟩:=o;ac_rfl;refine PySem.W.kat_lt f q g r ?_;refine PySem.W.kat_cons (aer a i c k prog w _ _ ?_)
 by_cases e:a=c
 ·rw[tz e] at h
  rw[show(a==c)=true by simpa using e]
  refine PySem.W.kat_yes (PySem.W.kat_cons (aer b j d l prog w _ _ ?_))
  by_cases m:b=d
  ·rw[show(b==d)=true by simpa using m]
   refine PySem.W.kat_yes (PySem.W.kat_nil ?_);rw[show decide (b<d)=false by simp;omega] at h
   simpa using h
  ·rw[show(b==d)=false by simpa using m]
   refine PySem.W.kat_no (PySem.W.kat_one _ _ ?_);exact lt_int h
 ·rw[AC e] at h
  rw[show(a==c)=false by simpa using e]
  exact PySem.W.kat_no (oneLt_int h)
section
variable {X:Cx}
theorem yk{b:Type}{L:List b}{d:b}{c:List Nat}(h:c.Perm (List.range L.length)):(c.map λi=>L.getD i d).Perm L:=by
 have e:(List.range L.length).map (λi=>L.getD i d)=L:=by
  apply qN;intro i;rw[eO]
  by_cases a:i<L.length
  ·rw[b9 (by simpa using a),b9 a]
   simp[a]
  ·rw[eM (by simp;omega),eM (by omega)];rfl
 have:=h.map (λi=>L.getD i d)
 rw[e] at this;exact this
theorem rS:∀{as:List Addr}{us:List Value},Vals (as.map V.ref) us->us=as.map Value.ref
 | [],_, .nil=>rfl
 |a::as,_, .cons r t=>by cases r;rw[rS t];rfl
theorem rL:∀as:List Addr,Vals (as.map V.ref) (as.map Value.ref)
 | []=> .nil
 |a::as=> .cons rfl (rL as)
theorem KA(x:cc P w H h a o):∃u,h.get? a=some u:=by
 induction o with
 |lst c=>obtain⟨_,_,_,_,e⟩:=x;exact⟨_,e⟩
 |tup c=>obtain⟨_,_,_,b,e,_⟩:=x;exact⟨_,e⟩
 |dK d=>obtain⟨_,_,_,_,b,_,_,e,_⟩:=x;exact⟨_,e⟩
 |dT d=>obtain⟨_,_,_,_,b,_,_,e,_⟩:=x;exact⟨_,e⟩
 |set S n=>obtain⟨b,_,_,_,e,_⟩:=x;exact⟨_,e⟩
 |ins C g fs=>obtain⟨_,_,_,e,_⟩:=x;exact⟨_,e⟩
 |own y=>exact x
 |xd fs=>obtain⟨_,⟨i,_,_,e,_⟩,_⟩:=x;exact⟨_,e⟩
 |rng lo j=>obtain⟨_,_,_,e⟩:=x;exact⟨_,e⟩
 |qs b u k=>exact⟨_,x.1⟩
 |D5 l=>exact⟨_,x⟩
 |met f y=>exact⟨_,x⟩
 |ext m=>exact x.2.1
theorem Bf(I:Inv X b c H s)(h:H a=some (.tup (Jn k))):
  ∃t u,IsTup s.heap a [.int (k.1:Nat) t, .int (k.2:Nat) u].toArray:=by
 rfl';obtain⟨e,r,p,_⟩:=I.tuple (fX.of h);obtain⟨g,i,rfl,⟨t,rfl⟩,⟨u,rfl⟩⟩:=Vals.two r;ac_rfl;exact⟨t,u,p⟩
theorem zU(hu:X.A.units+64<cLine):CallR X (.builtin "sorted") (λxs H Q=>∃(p:Addr)(L:List (Addr×(Nat×Nat))),xs= [.ref p]/\b0 X.K H p (L.map λe=>V.ref e.1)/\K6 H L/\L.length<64/\
  ∀(q:Addr)(M:List (Addr×(Nat×Nat))),H q=none->M.Perm L->(M.map (·.2)).Pairwise Wb.lexLe->Q (.ref q) (upd H q (.lst (M.map λe=>V.ref e.1)))):=by
 intro pins s σ H xs us Q I rv h;rfl';obtain⟨p,L,rfl,O,R,hz,q⟩:=h;obtain⟨u,rfl,ru⟩:=rv.one;subst ru;obtain⟨d,r,pl,_⟩:=I.list O;have hl:=r.length;rw[aP] at hl;have eE:64<=sizeLine:=by decide
 ac_rfl
 have ei:d=L.map λe=>Value.ref e.1:=by
  have:=rS (as:=L.map (·.1)) (us:=d) (by rw[cG];exact r)
  rw[this,cG];rfl
 by_cases G:L.length<2
 ·refine KS.qH pl.isList (by omega) ?_
  obtain⟨e,J⟩:=sortedAll_at s.heap d d.toArray;have fr:H (s.heap.objs.size+1)=none:=I.hok.fresh (qP _);refine⟨.ref (s.heap.objs.size+1),_,I.laid (t':=s.toks) (λb o f=>sortedAll_old f) (qP _) (o:= .lst (L.map λe=>V.ref e.1)) ⟨by rw[aP];omega,d,e,r,J⟩,rfl,q _ L fr (.refl _) ?_⟩
  match L,G with
  | [],_=>exact .nil
  | [_],_=>exact GV _ _
 ·obtain⟨m,F⟩:=I.fr
  have N:=A6 (g:=X.base) (h:=s.heap) (L:=X.env.locals);refine PySem.W.kat_sorted F N pl.isList (by omega) (by omega) λD e1 B F' U hD=>?_
  have kept:∀b o,b≠X.env.locals->s.heap.get? b=some o->B.get? b=some o:=λb o f e=>by
   cases k:X.base.get? b with
   |some u=>
    have:=I.bk b u k
    rw[e] at this;cases this;exact F'.keep b _ k
   |none=>exact(U (b,o) (bU _ (fz f k e))).1
  have nL:∀b u,H b=some u->b≠X.env.locals:=λb u e z=>by rw[z,I.free] at e;cases e
  have Y:∀i,i<L.length->∃t u,d.getD i Value.none= .ref (L.getD i (0,(0,0))).1/\IsTup B (L.getD i (0,(0,0))).1 [.int ((L.getD i (0,(0,0))).2.1:Nat) t, .int ((L.getD i (0,(0,0))).2.2:Nat) u].toArray:=λi l=>by
   have hm:L.getD i (0,(0,0))∈L:=by
    rw[b8,b9 l];exact pZ l
   rfl';obtain⟨t,u,o,Z,hc,n,hd⟩:=Bf I (R _ hm);ac_rfl;refine⟨t,u,?_,o,kept _ _ (nL _ _ (R _ hm)) Z,hc,n,hd⟩;rw[ei,b8,eO,b8,b9 l];rfl
  have tups:PySem.W.KatTups B d (L.map λe=>Value.int (e.2.1:Nat) 0)\/∃fs:List Value,PySem.W.KatTups B d fs/\fs.length=L.length/\∀v∈fs,∃i t,v= .int i t:=by
   right
   have go:∀(M:List (Addr×(Nat×Nat))),(∀e∈M,e∈L)->∃fs:List Value,PySem.W.KatTups B (M.map λe=>Value.ref e.1) fs/\fs.length=M.length/\∀v∈fs,∃i t,v= .int i t:=by
    intro M
    induction M with
    |nil=>exact λ_=>⟨[],PySem.W.KatTups.nil,rfl,λv w=>by cases w⟩
    |cons e M ih=>
     intro hM;rfl';obtain⟨fs,a,b,c⟩:=ih λx hx=>hM x (bU _ hx);have J:=R e (hM e bO);obtain⟨t,u,o,Z,hc,n,hd⟩:=Bf I J;ac_rfl;refine⟨.int (e.2.1:Nat) t::fs,PySem.W.KatTups.cons (kept _ _ (nL _ _ J) Z) hc hd rfl a,by simp[b],λv w=>?_⟩
     rcases bT.mp w with z|z
     ·exact⟨_,_,z⟩
     ·exact c v z
   rw[ei];exact go L λ_ h=>h
  obtain⟨fs,kt,kl,ki⟩:=tups.elim (λz=>⟨_,z,by simp,λv w=>by obtain⟨e,_,rfl⟩:=bL.mp w;exact⟨_,_,rfl⟩⟩) id
  refine PySem.W.kat_kind (T:= .type "int") kt (by omega) (λv w=>by obtain⟨i,t,rfl⟩:=ki v w;exact .now) (by decide) ?_
  have f:(Value.type "int" !=Value.type "tuple")=true:=by decide
  rw[f];have hn:d.length=L.length:=by omega
  rw[hn];obtain⟨E,Wi,pp,ps⟩:=KS.Gu (LO L) (n:=L.length) (by omega)
  refine KS.JY (lt:=λi j=>kn (L.getD i (0,(0,0))).2 (L.getD j (0,(0,0))).2) (n:=L.length) (λi j C l hj hC=>?_) _ (KS.Bt (by omega)) ?_
  ·obtain⟨t1,t2,g1,k1⟩:=Y i l
   obtain⟨u1,u2,g2,k2⟩:=Y j hj;unfold PySem.W.kas_ask;rw[g1,g2];refine RL k1 k2 ?_
   have e:(if ((L.getD i (0,(0,0))).2.1:Int)=((L.getD j (0,(0,0))).2.1:Int) then decide (((L.getD i (0,(0,0))).2.2:Int)<((L.getD j (0,(0,0))).2.2:Int)) else decide (((L.getD i (0,(0,0))).2.1:Int)<((L.getD j (0,(0,0))).2.1:Int)))
     =kn (L.getD i (0,(0,0))).2 (L.getD j (0,(0,0))).2:=by
    unfold kn;simp only[Int.ofNat_inj,Int.ofNat_lt]
   rw[e];exact hC
  ·show PySem.W.KasFin _ _ _ _ _ _ _ _
   rw[Wi];refine PySem.W.KasFin.intro F' U (.head λp O=>cp (hD p O)) λG c F2 N2=>?_
   have IJ:∀b o,b≠X.env.locals->s.heap.get? b=some o->G.get? b=some o:=λb o f e=>by
    cases k:X.base.get? b with
    |some u=>
     have:=I.bk b u k
     rw[e] at this;cases this;exact F2.keep b _ k
    |none=>exact(N2 (b,o) (bU _ (fz f k e))).1
   obtain⟨_,NU,Wr⟩:=U (D,seqObj "list" #[] e1) bO
   have NW:s.heap.get? D=none:=by
    cases qd:s.heap.get? D with
    |none=>rfl
    |some o=>exact absurd (hD (D,o) (fz NU Wr qd)) (hJ _)
   have NT:H D=none:=by
    cases qd:H D with
    |none=>rfl
    |some o=>exact absurd NU (λ_=>by
      obtain⟨o',iD⟩:=KA (I.hok D o qd);rw[NW] at iD;cases iD)
   have Xe:∀m',s.heap.Ns X.env.locals m'->G.Ns X.env.locals m':=λm' rk=>by
    rw[rk.eq_nsMap,<-F.ns.eq_nsMap];exact F2.ns
   have NY:(E.toList.map λi=>L.getD i (0,(0,0))).Perm L:=yk pp;have NV:=(N2 (D,_) bO).1;refine⟨.ref D,_,I.OJ (t':=s.toks) IJ Xe NW NT (o:= .lst ((E.toList.map λi=>L.getD i (0,(0,0))).map λe=>V.ref e.1)) ⟨by rw[aP,NY.length_eq];omega,(E.toList.map λi=>d.getD i Value.none),c,?_,NV⟩,rfl,q D _ NT NY ?_⟩
   ·have e:(E.toList.map λi=>d.getD i Value.none)=((E.toList.map λi=>L.getD i (0,(0,0))).map (·.1)).map Value.ref:=by
     rw[cG,cG];refine zL λi l=>?_;obtain⟨_,_,g,_⟩:=Y i (dY.mp (pp.mem_iff.mp l));exact g
    rw[e,show(λe:Addr×(Nat×Nat)=>V.ref e.1)=V.ref∘(·.1) from rfl,<-cG];exact rL _
   ·rw[cG,pX]
    exact ps.imp λhle=>OM hle
end
end L2
set_option maxHeartbeats 4000000
namespace L2
open PySem PySem.Spec PySem.Calls PyProof.Rows PySem.W Builtin Builtin.ObjectAttr
def Ab(s:String):Value->Bool
 | .type a=>a==s
 |_=>false
def Kv(l:List Value):Bool:=match l with
 |a::b::c::d::r=>Ab "ValueError" a&&Ab "Exception" b&&Ab "BaseException" c&&Ab "object" d&&r.isEmpty
 |_=>false
def isRef:Value->Bool
 | .ref _=>true
 |_=>false
def qj:List Value->Bool
 | []=>false
 |v::r=>if isRef v then qj r else Kv (v::r)
theorem wV(h:Ab s v=true):v= .type s:=by
 unfold Ab at h
 split at h
 ·rw[ad9.mp h]
 ·cases h
theorem yC(h:Kv l=true):l= [.type "ValueError", .type "Exception", .type "BaseException", .type "object"]:=by
 cases l with
 |nil=>cases h
 |cons a l=>cases l with
  |nil=>cases h
  |cons b l=>cases l with
   |nil=>cases h
   |cons c l=>cases l with
    |nil=>cases h
    |cons d r=>
     have h:(Ab "ValueError" a&&Ab "Exception" b&&Ab "BaseException" c&&Ab "object" d&&r.isEmpty)=true:=h;simp only[ub] at h;rw[wV h.1.1.1.1,wV h.1.1.1.2,wV h.1.1.2,wV h.1.2,List.isEmpty_iff.mp h.2]
def DD(K:Frag)(C:Addr):Bool:=(clsIn K C).any λa=>qj a.mro
structure jK (K:Frag) (C:Addr):Prop where
 hd:hasDictIn K C=true
 ga:findIn K (.ref C) "__getattribute__"=some (some (.builtin "BaseException.__getattribute__"))
 gh:findIn K (.ref C) "__getattr__"=some none
 sa:findIn K (.ref C) "__setattr__"=some (some (.builtin "object.__setattr__"))
 ov:DD K C=true
 cl:findIn K (.ref C) "__class__"=some (some (.builtin "object.__class__"))
 be:mroIn K C (.type "BaseException")=some true
 ob:mroIn K C (.type "object")=some true
section
variable {prog:Program} {w:World} {A:Around} {E:Value->Shared->Prop} {s:Shared} {K:Frag} {x C:Addr} {ox:Obj} {od:Option Obj} {name:Str}
theorem By{fill a:Bool}{b:Tok}{Q:Value->Shared->Prop}(X:K.In s.heap)(I:InstAt s.heap x ox C od)(c:jK K C)
  (h:wpAny (model prog w) A.in1 (Builtin.«object.__getattribute__» ⟨[.ref x, .str name b],[]⟩) (λfin d=>match fin with| .done (.ret v)=>wpAny (model prog w) A (handedOut v) Q E d|_=>False) (λ_ _=>False) s):
  wpAny (model prog w) A (getAttrBy (.ref x) (.str name b) fill a) Q E s:=by
 unfold getAttrBy;refine M2 (ir (I.type _ _ _ _ (λ_ _ e=>e) (ir (looks_findIn X c.ga _ _ _ _ (λ_ _ e=>e) ?_))));dsimp only;rw[show(onTheHeap (.ref C)&&Value.builtin "BaseException.__getattribute__"==Value.builtin "object.__getattribute__")=false from by rw[show(Value.builtin "BaseException.__getattribute__"==Value.builtin "object.__getattribute__")=false from by decide+kernel,af4],AC (by decide)]
 unfold getAttrByItsOwn;refine ir (looks_hook (mc:= .ref C) (r:=none) X c.gh _ _ _ _ (λ_ _ e=>e) (ir (wpAny_attempt (M2 ?_))));unfold callGetattribute;rw[show(a&&onTheHeap (Value.builtin "BaseException.__getattribute__"))=false from af4 _,AC (by decide)]
 unfold boundAndCalled;rw[F.excAttr_ValueError.ga.bind];refine ir (mo ?_);show wpAny _ _ (call (.builtin "BaseException.__getattribute__") [.ref x, .str name b]) _ _ _;refine aeb ?_;refine aeo F.excAttr_ValueError.ga.plain F.entry_bexc_ga ?_;refine @check_slot (model prog w) _ _ s "BaseException.__getattribute__" "BaseException" "__getattribute__" (.ref x) [.str name b] [] _ (by decide+kernel) (by decide+kernel) (I.type.andThen (looks_mroIn X c.be)) (F.args_bexc_ga (.ref x) (.str name b)) ?_
 refine wpAny_mono h (λfin d z=>?_) λ_ _ z=>z.elim
 rcases fin with (_|_|_|_) |_<;>first|exact z|exact z.elim
theorem JZ(X:K.In s.heap)(I:InstAt s.heap x ox C od)(b:findObj K C od name=some (.value v))(h:Q (.done (.ret v)) s):
  wpAny (model prog w) A (Builtin.«object.__getattribute__» ⟨[.ref x, .str name a],[]⟩) Q E s:=by
 obtain⟨c,g,d,t,os⟩:=s;have e:=I.type (M:=model prog w);have f:=looks_find (M:=model prog w) X I b;unfold Builtin.«object.__getattribute__»;refine ir (mo (ir (mo (ir (e.at (ir (f.at ?_)))))));exact mo h
theorem ME{P:Value->Shared->Prop}(X:K.In s.heap)(I:InstAt s.heap x ox C od)(e:findObj K C od name=some (.bind g a))
  (h:wpAny (model prog w) A (call g [a, .ref x, .ref C]) P E s):
  wpAny (model prog w) A (Builtin.«object.__getattribute__» ⟨[.ref x, .str name c],[]⟩) (λfin b=>match fin with| .done (.ret v)=>P v b|_=>False) E s:=by
 obtain⟨f,k,d,t,os⟩:=s;have i:=I.type (M:=model prog w);have j:=looks_find (M:=model prog w) X I e;unfold Builtin.«object.__getattribute__»;refine ir (mo (ir (mo (ir (i.at (ir (j.at ?_)))))));exact ir (M2 (wpAny_mono h (λv b z=>mo z) λ_ _ z=>z))
theorem GQ(X:K.In s.heap)(I:InstAt s.heap x ox C od)(c:jK K C)(b:findObj K C od name=some (.value v))(d:handedIn v=true)(h:Q v {s with toks:=s.toks+1}):
  wpAny (model prog w) A (getAttr (.ref x) name a) Q E s:=by
 unfold getAttr;refine ir (wpAny_mkText ?_);refine By (s:={s with toks:=s.toks+1}) X I c (JZ (s:={s with toks:=s.toks+1}) X I b ?_)
 show wpAny _ _ (handedOut v) _ _ _;rw[handedOut_of d];exact mo h
theorem GR(X:K.In s.heap)(I:InstAt s.heap x ox C od)(c:jK K C)(b:specialIn K (.builtin "object.__class__") "__get__"=some (some (.builtin "getset_descriptor.__get__")))(htk:takesIn K (.builtin "object.__class__")=some true)
  (h:Q (some (.ref C)) {s with toks:=s.toks+1}):wpAny (model prog w) A (getAttr? (.ref x) "__class__") Q E s:=by
 have d:findObj K C od "__class__"=some (.bind (.builtin "getset_descriptor.__get__") (.builtin "object.__class__")):=by
  obtain⟨f,e,_⟩:=afE c.hd;unfold findObj;rw[e,aeR,c.cl,aeR];dsimp only;rw[b,aeR];dsimp only;rw[htk];rfl
 unfold getAttr? getAttrBy?;refine ir (wpAny_mkText (ir (wpAny_attempt ?_)))
 have key:wpAny (model prog w) A.in1 (Builtin.«object.__getattribute__» ⟨[.ref x, .str "__class__" s.toks],[]⟩) (λfin a=>match fin with| .done (.ret v)=>v= .ref C/\a={s with toks:=s.toks+1} |_=>False) (λ_ _=>False) {s with toks:=s.toks+1}:=by
  refine ME (P:=λv a=>v= .ref C/\a={s with toks:=s.toks+1}) (s:={s with toks:=s.toks+1}) X I d (aeb (class_get (s:={s with toks:=s.toks+1}) (ox:=ox) (od:=od) X I c.ob ?_))
  exact⟨rfl,rfl⟩
 refine By (s:={s with toks:=s.toks+1}) X I c (wpAny_mono key (λfin a z=>?_) λ_ _ z=>z.elim)
 rcases fin with (_|_|_|_) |_<;>first|exact z.elim|skip
 obtain⟨rfl,rfl⟩:=z;exact mo (mo h)
theorem AV(c:jK K C)(i:specialIn K (.builtin "object.__class__") "__get__"=some (some (.builtin "getset_descriptor.__get__")))(htk:takesIn K (.builtin "object.__class__")=some true):
  KitX K (.ref x) (.ref C) (λh=>InstAt h x ox C od) where
 ty:=λ_ _ _ I=>I.type
 it:=λ_ _ X _=>by
  obtain⟨b,a,_⟩:=afE c.hd;unfold clsIn at a
  split at a
  ·rename_i j l d m f
   intro r t u v k q;unfold isType loadHead;exact ir (afc (k _ _ (X _ _ f)) (mo q))
  ·cases a
 ne:=λh o y p n B X g=>by
  obtain⟨b,a,_⟩:=afE c.hd;refine ua.mpr λq=>?_;have e:C=o:=Value.ref.inj (ad9.mp q);subst e;unfold clsIn at a
  split at a
  ·rename_i j l d m f
   have z:=(X _ _ f).symm.trans g;cases z
  ·cases a
 ca:=λX I k=>GR X I c i htk k
end
theorem Ju(self:Value)(e:qj l=true):refuseLoop self "__setattr__" l=pure ():=by
 induction l with
 |nil=>cases e
 |cons v r b=>
  rw[qj] at e;cases a:isRef v with
  |true=>
   rw[tz a] at e;cases v with
   |ref c=>rw[refuseLoop_ref];exact b e
   |_=>cases a
  |false=>
   rw[AC (by rw[a];exact cQ)] at e
   rw[yC e];exact F.store_ValueError.passes self
abbrev cw(C t:Addr)(d:Option Addr):Obj:={cls:= .ref C,dict:=d,data:= .fields #[.ref t, .none, .none, .none, .bool false, .none]}
section
variable {prog:Program} {w:World} {A:Around} {E:Value->Shared->Prop} {s:Shared} {K:Frag} {x C:Addr} {ox:Obj} {od:Option Obj} {name:Str} {R:Result->Shared->Prop}
theorem zD(X:K.In s.heap)(I:InstAt s.heap x ox C od)(c:jK K C)(l:takerIn K C name=some none)
  (h:∀b,wpAny (model prog w) A.in1 (storeInOwnDict (.ref x) (.ref C) (.str name i) name v b)
   (λfin j=>match fin with| .done f=>R (.ok f) j| .again k=>k.quiet=true/\codeAny (model prog w) A k R j) (λe j=>R (.error e) j) s):
  codeAny (model prog w) A (.call (.builtin "object.__setattr__") ⟨[.ref x, .str name i,v],[]⟩) R s:=by
 rfl';have g:=PySem.F.store_object;obtain⟨n,o,p⟩:=afE c.ov;have sub:Looks (model prog w) s.heap (isInstance (.ref x) (.type "object")) true:=I.type.andThen (looks_mroIn X c.ob);obtain⟨d,r,t⟩:=Option.bind_eq_some_iff.mp l;ac_rfl;refine aeo g.slot.plain g.entry (@check_slot (model prog w) _ _ s "object.__setattr__" "object" "__setattr__" (.ref x) [.str name i,v] [] _ g.kind g.split sub (g.args (.ref x) (.str name i) v) ?_);have u:Looks (model prog w) s.heap (mroOf (.ref C)) n.mro:=(looks_clsIn X o).andThen .now
 have y:Looks (model prog w) s.heap (storeTaker? d) none:=by
  cases d with
  |none=>exact .now
  |some a=>
   obtain⟨b,z,q⟩:=Option.map_eq_some_iff.mp t;refine(looks_takesIn X z).andThen ?_;cases b with
   |true=>cases q
   |false=>exact .now
 rw[osa_eq,refuse_eq];refine ir (ir (I.type.here (ir (u.here ?_))));rw[Ju _ p];refine mo (ir (I.type.here (ir ((looks_findIn X r).here (ir (y.here ?_))))));exact h _
theorem Ya(X:K.In s.heap)(c:jK K C)(j:s.heap.get? x=some (cw C t (some d)))(k:s.heap.Ns1 d f)(ne:d≠x)(m:takerIn K C name=some none)
  (hw:PySem.Within f i) (H:i.length<=sizeLine)
  (h:∀e,e.Ns1 d (λy=>if y=name then some v else f y)->Heap.SameBut d s.heap e->Q () {s with heap:=e,toks:=s.toks+2}):
  wpAny (model prog w) A (setAttr (.ref x) name v) Q E s:=by
 rfl';obtain⟨o,p,_⟩:=rB k;have J:InstAt s.heap x (cw C t (some d)) C (some o):=⟨j,rfl,rfl,p⟩;obtain⟨I,q,r⟩:=afE c.hd;ac_rfl;refine set_plain X J c.sa (zD (s:={s with toks:=s.toks+1}) X J c m λb=>?_)
 refine ir (mo (ir (ir (afc j (ir (Looks.here (s:={s with toks:=s.toks+1}) (looks_clsIn X q) ?_))))))
 rw[r];refine mo (a:=some d) (ir (mo (ir ?_)));refine af8 (s:={s with toks:=s.toks+1}) k λe l u=>?_
 rfl';obtain⟨L,z,B,F,bJ,G⟩:=l.count (PySem.Within.cons name v hw);ac_rfl;refine ir (afy F (by rw[bJ];exact afz (fK G (by rw[eX];omega))) ?_)
 exact mo (h _ l u)
theorem X9(X:K.In s.heap)(c:jK K C)(j:s.heap.get? x=some (cw C t none))(u:takerIn K C name=some none)
  (h:∀f,f.Ns1 s.heap.objs.size (λy=>if y=name then some v else none)->f.get? x=some (cw C t (some s.heap.objs.size))->(∀b o,b≠x->s.heap.get? b=some o->f.get? b=some o)->Q () {s with heap:=f,toks:=s.toks+2}):
  wpAny (model prog w) A (setAttr (.ref x) name v) Q E s:=by
 have J:InstAt s.heap x (cw C t none) C none:=⟨j,rfl,rfl,trivial⟩;obtain⟨N,z,B⟩:=afE c.hd;refine set_plain X J c.sa (zD (s:={s with toks:=s.toks+1}) X J c u λb=>?_)
 obtain⟨a,g,d,m,os⟩:=s;dsimp only at*;have n:(a.push {cls:= .type "dict",data:= .dict #[]}).get? x=some (cw C t none):=Da _ j;have i:x≠a.objs.size:=cp (Fk j);refine ir (mo (ir (ir (afc j (ir (Looks.here (s:=⟨a,g,d,m+1,os⟩) (looks_clsIn X z) ?_))))));rw[B];refine ir (wpAny_alloc' ?_);refine ir (wpAny_update' n ?_);refine mo ?_
 have k:((a.push {cls:= .type "dict",data:= .dict #[]}).update x λo=>{cls:=o.cls,dict:=some a.objs.size,data:=o.data,slots:=o.slots}).get? a.objs.size=some {cls:= .type "dict",data:= .dict #[]}:=
  (Heap.get?_update_ne _ _ _ _ i.symm).trans (Heap.get?_push_at rfl rfl)
 have yv:((a.push {cls:= .type "dict",data:= .dict #[]}).update x λo=>{cls:=o.cls,dict:=some a.objs.size,data:=o.data,slots:=o.slots}).Ns a.objs.size (λ_=>none):=
  ⟨_, #[],_,k,rfl,λe F=>absurd F (by simp),λ_=>rfl⟩
 show wpAny _ _ (storeInDict a.objs.size (.str name m) name v) _ _ _;unfold storeInDict newKeyGuard;refine ir (mo (ir (af8 (Heap.Ns1.of_empty yv) λf p q=>?_)));rfl';obtain⟨T,H,I,L,bJ,M⟩:=p.count (Within.cons name v Within.nil);ac_rfl;refine ir (afy L (by rw[bJ];exact afz (fK M (by rw[eX,lD,aee];omega))) ?_)
 refine mo (h f p ?_ λb U l r=>?_)
 ·exact(q.2 x i).trans (Os _ n rfl)
 ·exact(q.2 b (cp (Fk r))).trans ((Heap.get?_update_ne _ _ _ _ l).trans (Da _ r))
end
section
variable {M:Model} {A:Around} {E:Value->Shared->Prop} {h:Heap} {g:Array GenState} {d:Drawn} {t:Nat} {os:OsState}
variable {nm q:Str} {C N:Addr} {bs bm K9:List Value} {iB:Bool} {sn:List Str} {sub:List Value} {ab:Bool} {col:Option Bool} {dd:Option Addr} {k0 k1 k2 k3 k5:Option Value} {B newId kW:String}
theorem B4(F:ExcBaseFacts B newId kW K9)(WA:(Value.ref C::bm).contains (.type B)=true){rest:List Value}{Q:Unit->Shared->Prop}(hC:h.get? C=some (excClassObj nm q C N bs bm iB sn sub ab col dd k0 k1 k2 k3 k5 newId))
  (hq:Q () ⟨h,g,d,t,os⟩):wpAny M A (checkBuiltinCall newId ⟨.ref C::rest,[]⟩) Q E ⟨h,g,d,t,os⟩:=by
 have ad0:=F.noStar;simp only[checkBuiltinCall,F.newKind,F.newSplit,F.newRow]
 repeat (first|refine wpAny_loadPart_at hC ?_| (refine wpAny_isSubtype_exc hC ?_;rw[WA]) |refine wpAny_staticBase_exc hC ?_|refine wpAny_madeBy_exc hC ?_|simp only[bne_self_eq_false,gW,if_false]|wp_step)
 exact hq
theorem zV(F:ExcBaseFacts B newId kW K9)(z7:(Value.ref C::bm).contains (.type B)=true){e:Addr}{oe:Obj}{rest:List Value}{Q:Unit->Shared->Prop}
  (hC:h.get? C=some (excClassObj nm q C N bs bm iB sn sub ab col dd k0 k1 k2 k3 k5 newId)) (he:h.get? e=some oe) (Fm:oe.cls= .ref C) (hq:Q () ⟨h,g,d,t,os⟩):
  wpAny M A (checkBuiltinCall kW ⟨.ref e::rest,[]⟩) Q E ⟨h,g,d,t,os⟩:=by
 have adU:=F.noStar;simp only[checkBuiltinCall,F.initKind,F.initSplit,F.initRow]
 repeat (first| (with_reducible refine wpAny_loadPart_at he ?_;rw[Fm]) |with_reducible refine wpAny_loadPart_at hC ?_| (with_reducible refine wpAny_isSubtype_exc hC ?_;rw[z7]) |wp_step)
 refine wpAny_onRaise ?_
 rw[show ∀(a b:String)(n:Nat),Bind.check ⟨.positional,"*",B, .self,[⟨"args", .varPos,false⟩]⟩ a b n (List.map (λx=>x.fst) ({pos:=Value.ref e::rest}:Args).kw)=pure () from
  λa b n=>check_star_args _ _ _ _ _ _]
 exact wpAny_pure hq
end
section
variable {prog:Program} {w:World} {A:Around} {R:Result->Shared->Prop} {h:Heap} {g:Array GenState} {d:Drawn} {t:Nat} {os:OsState}
variable {nm q:Str} {C N:Addr} {bs bm K9:List Value} {iB:Bool} {sn:List Str} {sub:List Value} {ab:Bool} {col:Option Bool} {dd:Option Addr} {k0 k1 k2 k3 k5:Option Value} {B newId kW:String}
theorem HH(F:ExcBaseFacts B newId kW K9)(z7:(Value.ref C::bm).contains (.type B)=true)(Ww:(Value.ref C::bm).contains (.type "AttributeError")=false)(Wx:(Value.ref C::bm).contains (.type "NameError")=false)
  {rest:List Value} (hC:h.get? C=some (excClassObj nm q C N bs bm iB sn sub ab col dd k0 k1 k2 k3 k5 newId))
  (hq:R (.ok (.ret (.ref (h.objs.size+1)))) ⟨(h.push {cls:= .type "tuple",data:= .seq rest.toArray}).push (cw C h.objs.size none),g,d,t,os⟩) (yx:rest.length<=sizeLine):
  codeAny (model prog w) A (.builtin newId ⟨.ref C::rest,[]⟩) R ⟨h,g,d,t,os⟩:=by
 have adY:=F.ends;refine codeAny_builtinAt F.entry ?_;unfold Builtin.«BaseException.__new__»;refine PySem.wpAt_bind ?_;show PySem.wpAt _ _ _ (stack>>=_) _ _ _;refine PySem.wpAt_bind (PySem.wpAt_stack λp below=>PySem.wpAt_of_wpAny ?_)
 wp_walk
 refine PySem.wpAt_of_wpAny ?_;rw[F.owner]
 repeat (first|with_reducible refine wpAny_madeHere_exc F.canon hC ?_|with_reducible refine wpAny_loadPart_at hC ?_| (with_reducible refine wpAny_isSubtype_exc hC ?_;first|rw[z7]|rw[Ww]|rw[Wx]) |wp_step)
 show R _ _;rw[Heap.size_push];exact hq
theorem vA(F:ExcBaseFacts B newId kW K9)(z7:(Value.ref C::bm).contains (.type B)=true){e t0:Addr}{od:Option Addr}{rest:List Value}(hC:h.get? C=some (excClassObj nm q C N bs bm iB sn sub ab col dd k0 k1 k2 k3 k5 newId))(he:h.get? e=some (cw C t0 od))
  (hq:∀h' t',h'.get? e=some (cw C t' od)->(∀b o,b≠e->h.get? b=some o->h'.get? b=some o)->R (.ok (.ret .none)) ⟨h',g,d,t,os⟩) (yx:rest.length<=sizeLine):
  codeAny (model prog w) A (.call (.builtin kW) ⟨.ref e::rest,[]⟩) R ⟨h,g,d,t,os⟩:=by
 refine codeAny_call_builtin F.init.plain F.initEntry (zV F z7 hC he rfl ?_)
 wp_walk
 have sU:e≠h.objs.size:=cp (Heap.lt_size he);refine hq _ h.objs.size ?_ λb o hb ho=>?_
 ·rw[Heap.get?_update_self _ (Heap.get?_push_of_some _ he) rfl]
  rfl
 ·rw[Heap.get?_update_other _ _ (Ne.symm hb)]
  exact Heap.get?_push_of_some _ ho
theorem vY(F:ExcBaseFacts B newId kW K9)(z7:(Value.ref C::bm).contains (.type B)=true)(Ww:(Value.ref C::bm).contains (.type "AttributeError")=false)(Wx:(Value.ref C::bm).contains (.type "NameError")=false)
  {rest:List Value} {init:Value} (hC:h.get? C=some (excClassObj nm q C N bs bm iB sn sub ab col dd k0 k1 k2 k3 k5 newId)) (call:Looks (model prog w) h (specialOf (.ref C) "__call__") (some (.builtin "type.__call__"))) (typ:Looks (model prog w) h (isInstance (.ref C) (.type "type")) true)
  (hi:Looks (model prog w) h (typeLookup (.ref C) "__init__") (some init)) (hb:∀self,Looks (model prog w) h (bindSpecial init self) (init,[self])) (yx:rest.length<=sizeLine)
  (hq:codeAny (model prog w) (A.under (.builtin "type.__call__" ⟨.ref C::rest,[]⟩)) (.call init ⟨.ref (h.objs.size+1)::rest,[]⟩) (InitBack (h.objs.size+1) R) ⟨(h.push {cls:= .type "tuple",data:= .seq rest.toArray}).push (cw C h.objs.size none),g,d,t,os⟩):
  codeAny (model prog w) A (.call (.ref C) ⟨rest,[]⟩) R ⟨h,g,d,t,os⟩:=by
 refine codeAny_of_tree ?_;show wpAny _ _ (callAny (.ref C) _) _ _ _;refine nd_load hC ?_;show wpAny _ _ (callAny.viaDunder (.ref C) _) _ _ _;unfold callAny.viaDunder;refine wpAny_bind (call.at ?_);dsimp only;rw[tc_bind];refine wpAny_bind (wpAny_pure (wpAny_bind (wpAny_pure ?_)));refine wpAny_pure (a:=Fin.again (.call (.builtin "type.__call__") ⟨.ref C::rest,[]⟩)) (And.intro rfl ?_);refine codeAny_call_builtin_at (Code.quiet_builtin _ (by decide+kernel)) entry_typeCall (check_slot tc_kind tc_split typ (tc_args _ _ _) ?_)
 have hm:Looks (model prog w) h (mroOf (.ref C)) (.ref C::bm):=((Looks.ld (part:=none) hC).andThen .now).andThen .now
 have made:Looks (model prog w) h (Bind.madeBy (.ref C)) (some newId):=by
  intro A Q E s k q;obtain⟨h2,g2,d2,t2,os2⟩:=s;exact wpAny_madeBy_exc (k _ _ hC) q
 unfold Builtin.«type.__call__»
 repeat (first|simp only[List.isEmpty_cons,gW,if_false]|with_reducible refine wpAny_call ?_|lk)
 refine codeAny_call_builtin_code (Code.quiet_builtin _ F.quiet) (B4 F z7 hC ?_);refine HH F z7 Ww Wx hC ?_ yx;have k:∀b o,h.get? b=some o->((h.push {cls:= .type "tuple",data:= .seq rest.toArray}).push (cw C h.objs.size none)).get? b=some o:=λb o e=>Heap.get?_push_of_some _ (Heap.get?_push_of_some _ e);have hx:((h.push {cls:= .type "tuple",data:= .seq rest.toArray}).push (cw C h.objs.size none)).get? (h.objs.size+1)=some (cw C h.objs.size none):=by heap_get
 have t1:Looks (model prog w) ((h.push {cls:= .type "tuple",data:= .seq rest.toArray}).push (cw C h.objs.size none)) (typeOf (.ref (h.objs.size+1))) (.ref C):=(Looks.ld hx).andThen .now
 have s0:Looks (model prog w) h (isSubtype (.ref C) (.ref C)) true:=by
  intro A Q E s k q;obtain⟨h2,g2,d2,t2,os2⟩:=s;refine wpAny_isSubtype_exc (k _ _ hC) ?_;rw[show(Value.ref C::bm).contains (.ref C)=true by simp]
  exact q
 have s1:=s0.keeps k;have i1:=hi.keeps k;have b1:=(hb (.ref (h.objs.size+1))).keeps k;unfold isInstance callSpecial? specialOf
 repeat (first|with_reducible refine wpAny_call ?_|lk)
 refine codeAny_mono hq λr s' z=>?_
 rcases r with e| (v|_|_|_)<;>first|exact z|exact z.elim|skip
 obtain⟨rfl,z⟩:=z;exact wpAny_pure (wpAny_pure z)
end
def qp(C a:Addr)(d:Option Addr):HO:= .ext λh=>∃t,h.get? a=some (cw C t d)
def zR(a:Addr)(fs:List (Str×V)):HO:= .ext λh=>fs.length<=1000/\∃mA,h.Ns1 a mA/\(∀f,kM (fs.lookup f) (mA f))/\PySem.Within mA (fs.map (·.1))
section
variable {P:Program} {w:World} {H:Hp} {h:Heap} {a C:Addr} {d:Option Addr} {fs:List (Str×V)}
theorem D9{t:Addr}(e:h.get? a=some (cw C t d)):cc P w H h a (qp C a d):=⟨⟨t,e⟩,⟨_,e⟩,λh1 h2 ⟨t,p⟩ k=>⟨t,k _ p⟩⟩
theorem Qz{mA:Str->Option Value}(hl:fs.length<=1000)(n:h.Ns1 a mA)(r:∀f,kM (fs.lookup f) (mA f))(q:PySem.Within mA (fs.map (·.1))):cc P w H h a (zR a fs):=
 ⟨⟨hl,mA,n,r,q⟩,let ⟨o,_,_,e,_⟩:=n;⟨o,e⟩,λh1 h2 ⟨hl,mA,⟨o,es,ep,e,c⟩,r,q⟩ k=>⟨hl,mA,⟨o,es,ep,k _ e,c⟩,r,q⟩⟩
theorem xi(hok:gK P w H h)(e:H a=some (qp C a d)):∃t,h.get? a=some (cw C t d):=(hok a _ e).1
theorem Ea(hok:gK P w H h)(e:H a=some (zR a fs)):fs.length<=1000/\∃mA,h.Ns1 a mA/\(∀f,kM (fs.lookup f) (mA f))/\PySem.Within mA (fs.map (·.1)):=(hok a _ e).1
end
section
variable {X:Cx} {pins:List (Addr×Obj)} {σ:St} {H:Hp} {s:Shared}
theorem Inv.Tt{a dx:Addr}{o1 o2:HO}{h':Heap}{t':Nat}(I:Inv X pins σ H s)(mu:MM (H a))(qt:s.heap.objs.size<=dx)(k:∀b u,b≠a->s.heap.get? b=some u->h'.get? b=some u)(Fo:∃u,h'.get? a=some u)
  (abn:cc X.prog X.w (upd (upd H a o1) dx o2) h' a o1) (abo:cc X.prog X.w (upd (upd H a o1) dx o2) h' dx o2):Inv X pins σ (upd (upd H a o1) dx o2) {s with heap:=h',toks:=t'}:=by
 have nd:H dx=none:=I.hok.fresh qt
 obtain⟨oa,ha⟩:∃o,H a=some o:=by
  cases q:H a with
  |none=>rw[q] at mu;exact mu.elim
  |some o=>exact⟨o,rfl⟩
 have RZ:a≠dx:=aB ha nd;have FX:∀c y,H c=some (.own y)->c≠a:=λc y r z=>by subst z;rw[r] at mu;exact mu
 have Kz:∀c xs,H c=some (.tup xs)->c≠a:=λc xs r z=>by subst z;rw[r] at mu;exact mu
 have abp:∀c o u,H c=some (.qs o u)->c≠a:=λc o u r z=>by subst z;rw[r] at mu;exact mu
 have abr:∀c ps,H c=some (.D5 ps)->c≠a:=λc ps r z=>by subst z;rw[r] at mu;exact mu
 have up:∀b u,b≠a->H b=some u->upd (upd H a o1) dx o2 b=some u:=λb u hb e=>by rw[ax (aB e nd),ax hb];exact e
 refine I.un (h':=h') (t':=t') ⟨λb o e n _ _=>?_,λb o e n _ _=>⟨o.slots,?_⟩,λb o e n _=>?_,λb o e _=>?_,λb xs e=>up b _ (Kz b xs e) e,λb o u e=>up b _ (abp b o u e) e,λb ps e=>⟨#[],by rw[up b _ (abr b ps e) e];simp⟩⟩ λb u e=>?_
 ·exact k b o (λz=>by rw[z,ha] at n;cases n) e
 ·exact k b o (λz=>by rw[z,ha] at n;cases n) e
 ·rw[ax (λz=>by rw[z] at e;exact absurd (Heap.lt_size e) (Nat.not_lt.mpr qt)),ax (λz=>by rw[z,ha] at n;cases n)];exact n
 ·by_cases z:b=a
  ·rw[z];exact Fo
  ·exact⟨o,k b o z e⟩
 ·by_cases z:b=dx
  ·subst z;rw[av] at e;cases e;exact abo
  ·rw[ax z] at e
   by_cases z2:b=a
   ·subst z2;rw[av] at e;cases e;exact abn
   ·rw[ax z2] at e
    refine(I.hok b u e).nV (λc v hc q=>k c v ?_ q) (λc q=>up c _ (FX c b q) q) λc xs q=>up c _ (Kz c xs q) q
    rcases hc with y|y
    ·rw[y];exact z2
    ·exact FX c b y
variable {a C:Addr} {fs:List (Str×V)} {f:Str} {v:V} {A:Around} {E:Value->Shared->Prop}
def TL(H:Hp)(C a:Addr)(f:Str)(y:V)(fs:List (Str×V))(Q:Hp->Prop):Prop:=
 (fs= []/\H a=some (qp C a none)/\∀dx,H dx=none->Q (upd (upd H a (qp C a (some dx))) dx (zR dx [(f,y)])))\/
 (∃dx,H a=some (qp C a (some dx))/\H dx=some (zR dx fs)/\fs.length<1000/\Q (upd H dx (zR dx (jy f y fs))))
theorem Eb{y:V}{u:Value}{Q:Unit->Shared->Prop}{R:Hp->Prop}(I:Inv X pins σ H s)(c:jK X.K C)(n:fW X.K C f)(ry:RelV y u)(p:TL H C a f y fs R)
  (h:∀H' s',Inv X pins σ H' s'->R H'->Q () s'):wpAny (model X.prog X.w) A (setAttr (.ref a) f u) Q E s:=by
 rcases p with ⟨rfl,e,q⟩ | ⟨dx,e,ed,hl,q⟩
 ·obtain⟨t,et⟩:=xi I.hok e
  refine X9 I.cW c et n.JP λh' hn hx k=>?_;refine h _ _ (I.Tt (by rw[e];exact True.intro) (bK _) k ⟨_,hx⟩ (D9 hx) ?_) (q s.heap.objs.size I.fresh)
  refine Qz (by simp) hn (λg=>?_) (λg hg=>?_)
  ·by_cases z:g=f
   ·rw[if_pos z,z];simp only[List.lookup,beq_self_eq_true];exact ry
   ·rw[if_neg z]
    have hb:(g==f)=false:=beq_eq_false_iff_ne.mpr z;simp only[List.lookup,hb];exact True.intro
  ·by_cases z:g=f
   ·rw[z];simp
   ·rw[if_neg z] at hg;exact absurd rfl hg
 ·obtain⟨t,et⟩:=xi I.hok e
  obtain⟨_,mA,hn,r,wi⟩:=Ea I.hok ed
  have ne:dx≠a:=by
   rintro rfl;obtain⟨o,es,ep,eo,hd,_⟩:=hn;rw[et] at eo;cases eo;cases hd
  have hz:(fs.map (·.1)).length<=sizeLine:=by rw[aP,sizeLine_eq];omega
  refine Ya I.cW c et hn ne n.JP wi hz λh' CD sb=>h _ _ (I.write (x:=dx) (e:=dx) (by rw[ed];exact True.intro) (.inl rfl) (λb q hb z=>(sb.2 b hb).trans z) (let ⟨o,_,_,e',_⟩:=CD;⟨o,e'⟩) ?_) q
  refine Qz (by have:=mT f y fs;omega) CD (λg=>?_) (λg hg=>?_)
  ·rw[mX]
   by_cases q:g=f
   ·rw[if_pos q,if_pos q];exact ry
   ·rw[if_neg q,if_neg q];exact r g
  ·by_cases q:g=f
   ·rw[q];exact(kj f y fs).1
   ·refine(kj f y fs).2 g (wi g λz=>hg ?_)
    show(if g=f then some u else mA g)=none;rw[if_neg q];exact z
end
def XM(K:PySem.W.Frag)(ta tv:TE)(f:Str):TS:=λD σ H=>tv σ H λy H1=>ta σ H1 λx H2=>∃a C fs,x= .ref a/\jK K C/\fW K C f/\TL H2 C a f y fs λH3=>D.nx σ H3
section
variable {X:Cx} {o e value:Expr} {f:Str} {pos pos' Qw:Pos} {ta tv:TE}
theorem Ge(ha:PE X o ta)(hv:PE X value tv)(hs:swapsWith value (some (.Attribute o f pos')) pos.line X.env=pure false):PS X (.Assign [.Attribute o f pos'] value pos) (XM X.K ta tv f):=by
 intro pins s σ H D I h;refine plainObj_wpAny_Assign_Attribute (thn (hv pins s σ H _ I h) λu s1 ⟨y,H1,I1,ry,q⟩=>thn (ha pins s1 σ H1 _ I1 q) λov s2 ⟨x,H2,I2,rx,a,C,fs,ex,c,n,p⟩=>?_) hs;subst ex;obtain rfl:ov=Value.ref a:=rx;exact Eb I2 c n ry p λH3 s3 I3 q=>⟨σ,_,I3,q⟩
inductive Ek:V->Value->Prop where
 |own (D:Addr):Ek (.ref D) (.ref D)
 |blt (n:String):Ek (.ty n) (.type n)
end
structure qw (K:PySem.W.Frag) (C:Addr):Prop where
 obj:∃nm q N bs bm iB sn sub ab col dd k0 k1 k2 k3 k5,K.lookup C=some (excClassObj nm q C N bs bm iB sn sub ab col dd k0 k1 k2 k3 k5 "ValueError.__new__")/\(Value.ref C::bm).contains (.type "ValueError")=true/\
  (Value.ref C::bm).contains (.type "AttributeError")=false/\(Value.ref C::bm).contains (.type "NameError")=false
structure Hh (K:PySem.W.Frag) (C:Addr) (init:Value):Prop extends qw K C where
 call:PySem.W.specialIn K (.ref C) "__call__"=some (some (.builtin "type.__call__"))
 typ:PySem.W.instIn K (.ref C) (.type "type")=some true
 ini:PySem.W.findIn K (.ref C) "__init__"=some (some init)
 kp:PySem.W.keepIn K (.ref C)=true
theorem Ts{H:Hp}{a:Addr}{o:HO}(e:H a=some o):upd H a o=H:=by
 funext b
 by_cases h:b=a
 ·rw[h,av,e]
 ·rw[ax h]
def Ti(C:Addr)(sp:Sp)(E:XK)(t:TA):TE:=λσ H Q=>t σ H λvs H1=>∀e,H1 e=none->sp (.ref e::vs) (upd H1 e (qp C e none)) (λv H2=>v= .bu/\Q (.ref e) H2) E
def Th(K:PySem.W.Frag)(t:TA):TE:=λσ H Q=>t σ H λvs H1=>∃a C d y,vs= [.ref a,y]/\H1 a=some (qp C a d)/\qw K C/\Q .bu H1
section
variable {X:Cx} {CX:n5} {k:Nat} {f C:Addr} {fd:FuncData} {ps:List Str} {sp:Sp} {E:XK} {x m:Str} {p pos apos:Pos} {e o:Expr} {es:List Expr} {ta:TE} {t:TA}
theorem Jz{pins:List (Addr×Obj)}{σ:St}{H:Hp}{s:Shared}{Q:VK}{us:List Value}{vs:List V}(M:Hh X.K C (.ref f))(hf:PySem.W.isFn X.K (.ref f)=true)(F:FnOk X.prog X.w X.K X.mg X.base CX k f fd ps sp)(hr:bW (k+1) X.A)(hb:Binds X.K fd ps [])
  (Ry:ps.length<=1000) (hx:Passes CX X E) (I:Inv X pins σ H s) (r:Vals vs us)
  (h:∀e,H e=none->sp (.ref e::vs) (upd H e (qp C e none)) (λv H2=>v= .bu/\Q (.ref e) H2) E):
  wpAny (model X.prog X.w) X.A (call (.ref C) us) (EP X pins σ Q) X.xe s:=by
 obtain⟨nm,q,N,bs,bm,iB,sn,sub,ab,col,dd,k0,k1,k2,k3,k5,hC,cB,cA,cN⟩:=M.obj;have hq:=h (s.heap.objs.size+1) (I.hok.fresh (qP _))
 have WZ:((s.heap.push {cls:= .type "tuple",data:= .seq us.toArray}).push (cw C s.heap.objs.size none)).get? (s.heap.objs.size+1)=some (cw C s.heap.objs.size none):=by
  have:=Heap.get?_push_size (s.heap.push {cls:= .type "tuple",data:= .seq us.toArray}) (o:=cw C s.heap.objs.size none) rfl
  rwa [Heap.size_push] at this
 have I2:Inv X pins σ (upd H (s.heap.objs.size+1) (qp C (s.heap.objs.size+1) none)) {s with heap:=(s.heap.push {cls:= .type "tuple",data:= .seq us.toArray}).push (cw C s.heap.objs.size none)}:=
  I.laid (t':=s.toks) (λb u q=>Heap.get?_push_of_some _ (Heap.get?_push_of_some _ q)) (qP _) (D9 WZ)
 have r2:Vals (V.ref (s.heap.objs.size+1)::vs) (Value.ref (s.heap.objs.size+1)::us):= .cons rfl r
 have hl:((Value.ref (s.heap.objs.size+1)::us)++ []).length=ps.length:=by
  have e:=r2.length;rw[F.len _ _ _ _ hq] at e;rw[fJ];exact e.symm
 have hlen:us.length<=sizeLine:=by
  rw[fJ,eX] at hl;exact p6 (cj (by omega))
 have z6:=hb _ (Value.ref (s.heap.objs.size+1)::us) I2.cW hl;rw[fJ] at z6;obtain⟨hh,g,d,tk,os⟩:=s
 refine wpAny_call (vY (init:= .ref f) PySem.F.excBase_ValueError cB cA cN (I.cW _ _ hC) (PySem.W.looks_specialIn I.cW M.call) (PySem.W.looks_instIn I.cW M.typ) (PySem.W.looks_findIn I.cW M.ini) (λself=>PySem.W.bind_fn I.cW self (beq_iff_eq.mp hf)) hlen
  (codeAny_mono (F.run _ X.stack _ _ ⟨Value.ref (hh.objs.size+1)::us,[]⟩ (Value.ref (hh.objs.size+1)::us) _ _ E (hr.make C us []) (I2.E4.make C us []) z6 r2 hq) λr s' uy=>?_))
 cases r with
 |error e=>exact hx pins σ _ _ e s' I2 uy
 |ok fl=>
  cases fl with
  |ret u=>
   refine af λG0 k0=>?_;obtain⟨v,H',I3,rv,ev,q3⟩:=I2.after uy;subst ev;refine k0 ?_;exact⟨rv,⟨V.ref (hh.objs.size+1),H',I3,rfl,q3⟩⟩
  |next=>exact False.elim uy
  |brk=>exact False.elim uy
  |cont=>exact False.elim uy
theorem Mb(M:Hh X.K C (.ref f))(hf:PySem.W.isFn X.K (.ref f)=true)(F:FnOk X.prog X.w X.K X.mg X.base CX k f fd ps sp)(hr:bW (k+1) X.A)(hg:Gl X x)(hm:X.mg x=some (.ref C))(hb:Binds X.K fd ps [])(Ry:ps.length<=1000)(hx:Passes CX X E)
  (ha:PA X (e::es) t) (dB:(x==("__debug__":Str))=false:=by decide) (he:starEach (e::es) X.env=(false,eval e X.env)::starEach es X.env:=by rfl) (cg:(backTo pos (starEach es X.env)).any (·.1)=false:=by rfl):
  PE X (.Call (.Name x p) (e::es) [] pos) (Ti C sp E t):=by
 intro pins s σ H Q I h;refine wpAny_Call_Name_kw (iF I hg hm ?_ dB);refine PySem.W.callWith_K (h₀:=X.base) I.ok.mod.kin M.kp (thn (ha pos pins s σ H _ I h) λus s1 ⟨vs,H1,I1,r,q⟩=>⟨I1.cW,?_⟩) he cg;exact Jz M hf F hr hb Ry hx I1 r q
theorem Bh{C0:Addr}{pl:Sem Bool}(hg:Gl X x)(hm:X.mg x=some (.ref C0))(sg:PySem.W.specialIn X.K (.ref C0) "__getattribute__"=some (some (.builtin "type.__getattribute__")))(rd:PySem.W.readsIn X.K C0 (.type "type")=true)
  (fc:PySem.W.findCls X.K (.ref C0) (.type "type") "__init__"=some (.val (.builtin "ValueError.__init__"))) (ha:PA X (e::es) t) (dB:(x==("__debug__":Str))=false:=by decide)
  (he:starEach (e::es) X.env=(false,eval e X.env)::starEach es X.env:=by rfl) (cg:(backTo pos (starEach es X.env)).any (·.1)=false:=by rfl)
  (ht:eval (.Call (.Attribute (.Name x p) "__init__" apos) (e::es) [] pos) X.env=(do
   let ov <-eval (.Name x p) X.env
   standAt apos.atName
   let (f,first) <-holding [ov] (getMethod ov "__init__" pl)
   callWith pos f first (backTo pos (starEach (e::es) X.env)) (backToKw pos (keywordEach [] X.env))):=by rfl):
  PE X (.Call (.Attribute (.Name x p) "__init__" apos) (e::es) [] pos) (Th X.K t):=by
 intro pins s σ H Q I h;refine PySem.W.methodCall_KW (pl:=pl) (iF I hg hm ?_ dB) ht;refine PySem.W.method_cls I.cW sg (PySem.W.cls_value I.cW rd fc (by decide+kernel) ?_)
 refine PyProof.Rows.callWith_builtin1 (thn (ha pos pins _ σ H _ (I.tok _) h) λus s1 ⟨vs,H1,I1,r1,a,C,d,y,ev,ea,xo,q1⟩=>?_) he cg;refine af λG0 k0=>?_;subst ev;obtain⟨u1,u2,rfl,ra,ry⟩:=r1.two;subst ra;obtain⟨nm,q,N,bs,bm,iB,sn,sub,ab,col,dd,k0,k1,k2,k3,k5,hC,cB,cA,cN⟩:=xo.obj;obtain⟨t0,et⟩:=xi I1.hok ea;obtain⟨hh,g,dr,tk,os⟩:=s1;refine k0 ?_;refine wpAny_call (vA PySem.F.excBase_ValueError cB (I1.cW _ _ hC) et (λh' t' RA kk=>?_) (by show 1<=sizeLine;decide))
 have I2:=I1.write (x:=a) (e:=a) (o:=qp C a d) (t':=tk) (by rw[ea];exact True.intro) (.inl rfl) (λb u hb q=>kk b u hb q) ⟨_,RA⟩ (D9 RA)
 rw[Ts ea] at I2;exact⟨.bu,H1,I2,rfl,q1⟩
end
section
variable {X:Cx} {pins:List (Addr×Obj)} {σ:St} {H:Hp} {s:Shared} {A:Around} {E:Value->Shared->Prop} {Q:Value->Shared->Prop} {b:Bool}
end
theorem bP.of{d:Scope}(f:Scope)(e:X.env.scope=f)(k:d.kind= .function)(a:∀x∈d.names,x.2= .local->d.names.lookup x.1=some .local)(b:∀x∈d.names,x.2≠ .cell)
  (c:∀x∈d.names,x.2= .free->f.names.lookup x.1=some .cell\/f.names.lookup x.1=some .free):bP X d:=⟨k,a,b,λx g h=>by rw[<-e] at c;exact c x g h⟩
structure eF (K:PySem.W.Frag) (mg:Str->Option Value) (x:Str) (st:Stmt) (ps:List Str) where
 f:Addr
 fd:FuncData
 F:oh K x x st f fd
 b:Binds K fd ps []
 m:mg x=some (.ref f)
theorem aW(h:H p=none)(o:HO):aU H (upd H p o):=λb u q=>by rw[ax (aB q h)];exact q
theorem small(h:n<=1000):n<=sizeLine:=p6 (cj h)
abbrev ju(C t:Addr)(a:Value)(d:Option Addr):Obj:={cls:= .ref C,dict:=d,data:= .fields #[.ref t,a, .none, .none, .bool false, .none]}
def kG(C a:Addr)(d:Option Addr):HO:= .ext λh=>∃t b,h.get? a=some (ju C t b d)
section
variable {P:Program} {w:World} {H:Hp} {h:Heap} {a C:Addr} {d:Option Addr}
theorem NJ{tb:Value}(e:h.get? a=some (ju C t tb d)):cc P w H h a (kG C a d):=⟨⟨t,tb,e⟩,⟨_,e⟩,λb c ⟨t,tb,p⟩ k=>⟨t,tb,k _ p⟩⟩
theorem Kq(hok:gK P w H h)(e:H a=some (kG C a d)):∃t b,h.get? a=some (ju C t b d):=(hok a _ e).1
end
def Es(h:Heap)(T:Addr):Prop:=∃o a,h.get? T=some o/\o.data= .fields a/\a[3]? =some .none
section
variable {M:Model} {A:Around} {E:Value->Shared->Prop} {s:Shared}
theorem yN 
  (R:A.frames=some (env::outer)) (y:s.heap.FunFrames base (env::outer)) (U:env.frame=some L)
  (z:s.heap.get? e=some (ju C t k d))
  (h:∀l T,s.heap.objs.size<=T->l.get? e=some (ju C t (.ref T) d)->Es l T->(∀b o,s.heap.get? b=some o->b≠e->∃q,l.get? b=some {o with slots:=q})->
   (∀b o,s.heap.get? b=some o->b≠e->b∉sM (env::outer)->l.get? b=some o)->Q () {s with heap:=l}):
  wpAny M A (do let a <-frameOf env;let i <-entryPlaceOf L O;let b <-EntryCells.newEntry g a .none (rawInt L) .none i;setField (.ref e) 1 b) (λ_ X=>wpAny M A (setFlight (.ref e) none) Q E X) E s:=by
 have r:(ju C t k d).data= .fields #[.ref t,k, .none, .none, .bool false, .none]:=rfl;have Y:1<(#[.ref t,k, .none, .none, .bool false, .none]:Array Value).size:=by simp
 have u:e∉(env::outer).filterMap (·.frame):=λZ=>by
  obtain⟨_,o,n,Oj⟩:=y.mem Z;rw[z] at n;injection n with n;subst n;exact Oj _ r
 refine ir (wpAny_frameOf_fun R y U λc p=>?_);refine ir (wpAny_entryPlaceOf λi B=>?_);unfold EntryCells.newEntry newFields;refine ir (SC ?_ (B.sizeOk5 _ _ _ _ _));have F:c.get? e=some (ju C t k d):=(p.2.1 e u).trans z;have G:=Da (h:=c) {cls:= .type "traceback",dict:=none,data:= .fields ([g, .ref L, .none,rawInt L, .none]++(if i.isEmpty then List.replicate 6 Value.none else i)).toArray} F;refine af5 G r Y ?_;have H:c.objs.size≠e:=ae1 (Fk F);have I:=aes r (·.setIfInBounds 1 (Value.ref c.objs.size));have J:=Os (Obj.mapFields (·.setIfInBounds 1 (Value.ref c.objs.size))) G (aeU I)
 have N:=(GE (c.push {cls:= .type "traceback",dict:=none,data:= .fields ([g, .ref L, .none,rawInt L, .none]++(if i.isEmpty then List.replicate 6 Value.none else i)).toArray})
  (Obj.mapFields (·.setIfInBounds 1 (Value.ref c.objs.size))) (Ne.symm H)).trans (FS c rfl)
 unfold setFlight;refine ir (aeq J I (x:= .ref c.objs.size) (by simp) ?_)
 rw[tz (show(Value.ref c.objs.size !=Value.none)=true from by simp)]
 refine af5 N rfl (by simp only[di,cI,eX,lD]<;>omega) ?_
 have keep:∀b o,b≠e->c.get? b=some o->
   (((c.push {cls:= .type "traceback",dict:=none,data:= .fields ([g, .ref L, .none,rawInt L, .none]++(if i.isEmpty then List.replicate 6 Value.none else i)).toArray}).update e (Obj.mapFields (·.setIfInBounds 1 (Value.ref c.objs.size)))).update c.objs.size
     (Obj.mapFields (·.setIfInBounds 3 ((none:Option Addr).elim Value.none λf=>rawInt f)))).get? b=some o:=λb o m j=>by
  have v:c.objs.size≠b:=ae1 (Fk j);rw[GE _ _ v,GE _ _ (Ne.symm m)];exact Da _ j
 refine h _ c.objs.size (by rw[p.1];exact bK _) ?_ ⟨_,_,Os _ N (aeU (aes rfl _)),aes rfl _,by first| (simp;done) | (rcases B with rfl| ⟨_,_,_,_,_,_,_,rfl⟩<;>simp)⟩ (λb o j m=>?_) (λb o j m w=>?_)
 ·rw[GE _ _ H];exact J
 ·obtain⟨q,hs⟩:=p.2.2 b o j
  exact⟨q,keep b _ m hs⟩
 ·exact keep b o m ((p.2.1 b w).trans j)
theorem IT{base:Heap} 
  (G:A.frames=some (env::outer)) (H:s.heap.FunFrames base (env::outer)) (r:env.frame=some L)
  (u:s.heap.get? e=some (ju C t g d)) (I:g= .none\/∃T,g= .ref T/\T≠e/\Es s.heap T)
  (h:∀c T,s.heap.objs.size<=T->c.get? e=some (ju C t (.ref T) d)->Es c T->(∀b o,s.heap.get? b=some o->b≠e->∃J,c.get? b=some J)->(∀b o,s.heap.get? b=some o->b≠e->g≠ .ref b->∃k,c.get? b=some {o with slots:=k})->
   (∀b o,s.heap.get? b=some o->b≠e->g≠ .ref b->b∉sM (env::outer)->c.get? b=some o)->Q () {s with heap:=c}):
  wpAny M A (noteFrame (.ref e) env) (λ_ N=>wpAny M A (setFlight (.ref e) none) Q E N) E s:=by
 have O:(ju C t g d).data= .fields #[.ref t,g, .none, .none, .bool false, .none]:=rfl;unfold noteFrame;simp only[r];refine ir (aeq (x:=g) u O rfl ?_)
 rcases I with rfl| ⟨T,rfl,R,oT,U,l,m,i⟩
 ·rw[AC (by decide)]
  exact yN G H r u λc T p v i j y=>h c T p v i (λb o q n=>let ⟨k,z⟩:=j b o q n;⟨_,z⟩) (λb o q n _=>j b o q n) λb o q n _=>y b o q n
 ·rw[tz (show(Value.ref T !=Value.none)=true from by simp)]
  refine ir (aeq l m i ?_);rw[AC (show ¬((Value.none==rawInt L)=true) from by simp[rawInt])]
  refine ir (af5 l m (zH.mp i).1 ?_);have a:∀b,b≠T->(s.heap.update T (Obj.mapFields (·.setIfInBounds 3 Value.none))).get? b=s.heap.get? b:=λb f=>GE _ _ (Ne.symm f)
  have X:∀b o,s.heap.get? b=some o->(∀Y,o.data≠ .fields Y)->b≠T:=λb o f B q=>by
   rw[q,l] at f;injection f with f;subst f;exact B U m
  have F:=Os (Obj.mapFields (·.setIfInBounds 3 Value.none)) l (aeU (aes m _));refine yN (s:={s with heap:=s.heap.update T (Obj.mapFields (·.setIfInBounds 3 Value.none))}) G (H.of_keeps λb o f B=>⟨o,(a b (X b o f B)).trans f,rfl⟩) r ((a e (Ne.symm R)).trans u) λc Z p v i j y=>?_
  refine h c Z (by rw[Heap.size_after_update] at p;exact p) v i (λb o q n=>?_) (λb o q n z=>j b o ((a b λw=>z (by rw[w])).trans q) n) λb o q n z=>y b o ((a b λw=>z (by rw[w])).trans q) n
  by_cases z:b=T
  ·subst z
   obtain⟨k,z⟩:=j b _ F n;exact⟨_,z⟩
  ·obtain⟨k,z⟩:=j b o ((a b z).trans q) n
   exact⟨_,z⟩
end
def Yo(X:Cx)(H:Hp)(h:Heap)(a:Value):Prop:=a= .none\/∃T,a= .ref T/\X.s₀.heap.objs.size<=T/\T≠X.env.locals/\(∀x c,X.env.cells.lookup x=some c->c≠T)/\(∀p∈X.pn,p.1≠T)/\H T=none/\Es h T
def xv(X:Cx)(H:Hp)(s:Shared)(a:Addr):Prop:=∃C t b d,H a=some (kG C a d)/\s.heap.get? a=some (ju C t b d)/\Yo X H s.heap b
structure Yj (P:Program) (w:World) (outer:List Env) (H:Hp) (s:Shared) (a:Addr) (H':Hp) (s':Shared):Prop where
 os:s'.os=s.os
 bare:AllBare s'.gens
 un:Un (sM outer) [] H H' s.heap s'.heap
 hok:gK P w H' s'.heap
 obj:∃C t tb d,H' a=some (kG C a d)/\s'.heap.get? a=some (ju C t tb d)/\(tb= .none\/∃T,tb= .ref T/\s.heap.objs.size<=T/\H' T=none/\Es s'.heap T)
def mN(P:Program)(w:World):n5:=λouter H s E e c=>∃a b,e= .ref a/\Yj P w outer H s a b c/\E e none b
section
variable {X:Cx} {pins:List (Addr×Obj)} {σ:St} {H H':Hp} {s s':Shared} {a:Addr}
theorem Inv.MV(I:Inv X pins σ H s):Inv X [] σ H s:=⟨I.ok,I.os,I.bare,I.base,I.loc,I.cell,I.free,I.freeC,λp b=>I.pin p (by rw[fJ] at b;exact kF _ b),I.hok,I.len⟩
theorem Ri(I:Inv X pins σ H s)(f:Yj X.prog X.w X.stack H s a H' s'):Inv X [] σ H' s'/\xv X H' s' a:=by
 rfl';obtain⟨os,bare,un,hok,C,t,h,d,i,j,k⟩:=f;have l:Inv X pins σ H' s':=I.Hl (ch:= []) os un hok bare (λb z=>absurd z (by simp))
 ac_rfl;refine⟨l.MV,C,t,h,d,i,j,k.imp id λ⟨T,m,e,n,q⟩=>⟨T,m,fK I.sz e,?_,λx c r z=>?_,λp u z=>?_,n,q⟩⟩
 ·exact λz=>absurd (fC I.lt e) (by rw[z];exact hJ _)
 ·obtain⟨v,o,y,_⟩:=I.cell x c r
  exact absurd (fC (Fk y) e) (by rw[z];exact hJ _)
 ·have:=(I.pin p (kF _ u)).1
  exact absurd (fC (Fk this) e) (by rw[z];exact hJ _)
theorem A1(r:X.stack=X.env::X.outer)(Oe:X.env.frame=some X.env.locals)(I:Inv X [] σ H s)(f:xv X H s a)
  (h:∀s',Inv X [] σ H s'->xv X H s' a->Q () s'):
  wpAny M X.A (noteFrame (.ref a) X.env) (λ_ s'=>wpAny M X.A (setFlight (.ref a) none) Q E s') E s:=by
 obtain⟨C,t,tb,d,j,h2,B⟩:=f;have fr:s.heap.FunFrames X.base (X.env::X.outer):=by rw[<-r];exact I.stack
 refine IT (base:=X.base) (by rw[I.ok.frames,r]) fr Oe h2 (B.imp id λ⟨T,e1,_,_,_,_,R,e7⟩=>⟨T,e1,(λz=>by rw[z,j] at R;cases R),e7⟩) λk T F G J k0 k1 U=>?_
 have tr:∀b u,H b=some u->b≠a->∀o,s.heap.get? b=some o->k.get? b=some o:=λb u i sU o l=>by
  refine U b o l sU (λz=>?_) λz=>?_
  ·rcases B with q| ⟨T,q,_,_,_,_,L,_⟩
   ·rw[q] at z;cases z
   ·rw[q] at z;cases z;rw[i] at L;cases L
  ·have:=I.zp b (by rw[r];exact z)
   rw[i] at this;cases this
 have hok:gK X.prog X.w H k:=λb u i=>by
  by_cases z:b=a
  ·subst z;rw[j] at i;cases i;exact NJ G
  ·refine(I.hok b u i).nV (λc v g q=>?_) (λ_ q=>q) λ_ _ q=>q
   rcases g with rfl|g
   ·exact tr c u i z v q
   ·exact tr c _ g (λw=>by rw[w,j] at g;cases g) v q
 have N:H T=none:=I.hok.fresh F;have O:∀c o,s.heap.get? c=some o->c≠T:=λc o g z=>absurd (fC (Fk g) F) (by rw[z];exact hJ _)
 have fin:∀ch:List Addr,(∀b,tb= .ref b->b∈ch)->(∀b∈ch,(b∈X.ex\/X.s₀.heap.objs.size<=b)/\b≠X.env.locals/\(∀x c,X.env.cells.lookup x=some c->c≠b)/\∀p∈X.pn++ [],p.1≠b)->Inv X [] σ H {s with heap:=k}:=λch Y h6=>by
  refine I.Hl (s':={s with heap:=k}) (ch:=ch) rfl ⟨λb o e n i g=>?_,λb o e n _ g=>?_,λb o _ n _=>n,λb o e _=>?_,λ_ _ q=>q,λ_ _ _ q=>q,λ_ ps q=>⟨#[],by rw[q];simp⟩⟩ hok I.bare h6
  ·exact U b o e (λz=>by rw[z,j] at n;cases n) (λz=>g (Y b z)) (by rw[<-r];exact i)
  ·exact k1 b o e (λz=>by rw[z,j] at n;cases n) (λz=>g (Y b z))
  ·by_cases z:b=a
   ·exact⟨_,by rw[z];exact G⟩
   ·exact k0 b o e z
 have I':Inv X [] σ H {s with heap:=k}:=by
  rcases B with q| ⟨Z,q,q2,q3,q4,q5,L,q7⟩
  ·exact fin [] (λb z=>by rw[q] at z;cases z) λb z=>absurd z (by simp)
  ·refine fin [Z] (λb z=>by rw[q] at z;cases z;exact bO ..) λb z=>?_
   have:b=Z:=by simpa using z
   subst this;exact⟨.inr q2,q3,q4,λp y=>q5 p (by rw[fJ] at y;exact y)⟩
 refine h _ I' ⟨C,t, .ref T,d,j,G, .inr ⟨T,rfl,fK I.sz F,?_,λx c g=>?_,λp y=>?_,N,J⟩⟩
 ·obtain⟨m,⟨o,_,_,l,_⟩,_⟩:=I.loc
  exact(O _ _ l).symm
 ·obtain⟨v,o,l,_⟩:=I.cell x c g
  exact O _ _ l
 ·exact O _ _ (I.pin p (kF _ y)).1
end
def Et(X:Cx)(b:St)(H:Hp)(a:Addr):Prop:=∀s,Inv X [] b H s->xv X H s a->X.xe (.ref a) s
theorem NK{P:Program}{w:World}{K:PySem.W.Frag}{e:Str->Option Value}{base:Heap}{N:List Str}{c:Str}{b:Scope}{f:Addr}{g:Value}{A:Around}{outer:List Env}{s k:Shared}{H i:Hp}{E:XK}{l:St}{a:Addr}
  (I:Inv (j9 (mN P w) P w K e base N c b f g A outer s H E) [] l i k) (m:xv (j9 (mN P w) P w K e base N c b f g A outer s H E) i k a) (h:E (.ref a) none i):(j9 (mN P w) P w K e base N c b f g A outer s H E).xe (.ref a) k:=by
 show wpAny _ _ (leaving _ _) _ _ _;unfold leaving;refine ir (A1 (X:=j9 (mN P w) P w K e base N c b f g A outer s H E) rfl rfl I m λB j n=>?_);rfl';obtain⟨C,t,p,d,q,r,u⟩:=n;ac_rfl;exact⟨a,i,rfl,⟨j.os,j.bare,j.base,j.hok,C,t,p,d,q,r,u.imp id λ⟨T,v,x,_,_,_,y,z⟩=>⟨T,v,x,y,z⟩⟩,h⟩
theorem tG [DecidableEq a] (f:a->b):∀(l:List b)(L:List a),l.Perm (L.map f)->∃M:List a,M.Perm L/\l=M.map f
 | [],L,h=>by
  have:=h.length_eq
  rw[aP] at this
  have:L= []:=afM.mp this.symm
  subst this;exact⟨[], .refl _,rfl⟩
 |x::r,L,h=>by
  obtain⟨e,d,rfl⟩:=bL.mp (h.mem_iff.mp bO);have c:=List.perm_cons_erase d;have g:(f e::r).Perm (f e::(L.erase e).map f):=h.trans (c.map f);obtain⟨M,i,rfl⟩:=tG f r (L.erase e) ((List.perm_cons _).mp g);exact⟨e::M,(i.cons e).trans c.symm,rfl⟩
section
variable {X:Cx}
end
section
open PySem.SeqAt
open PySem.AutoSeq1 (wpAny_loadPart')
open PySem.MeetsSeq PySem.MeetsSeq2 PySem.MeetsSeq3
theorem Fz{c:List Value}{d:List Int}(h:IntsAre c d){i:Nat}{a:Int}(e:d[i]? =some a):∃t,c[i]? =some (.int a t):=by
 induction h generalizing i with
 |nil=>simp at e
 |cons b t _ f=>
  cases i with
  |zero=>simp at e;subst e;exact⟨t,rfl⟩
  |succ i=>simp at e;obtain⟨u,g⟩:=f e;exact⟨u,by simpa using g⟩
theorem OR(l b:Addr)(a j:Array Value)(n F:Nat)(G H:Option Addr)(I J:Array (Option Value))(m f:List Int)(B:IntsAre a.toList m)(C:IntsAre j.toList f)(k:Nat):
  ∀i:Nat,a.size-i=k->i<=a.size->i<=j.size->Meets (Builtin.«list.__eq__.loop» ⟨[.ref l, .ref b,rawInt i,rawInt 0],[]⟩)
   (λA R s=>s.heap.get? l=some {cls:= .type "list",dict:=G,data:= .seq a n,slots:=I}/\s.heap.get? b=some {cls:= .type "list",dict:=H,data:= .seq j F,slots:=J}/\
    R (.ok (.ret (.bool (HT.lexLt (m.drop i) (f.drop i))))) s):=by
 have z1:a.size=m.length:=by rw[<-B.length];simp
 have z2:j.size=f.length:=by rw[<-C.length];simp
 induction k with
 |zero=>
  intro i L M N prog w A R s h;obtain⟨x,g,d,y,os⟩:=s;obtain⟨o,p,h⟩:=h
  wp_walk using wpAny_loadPart' o,wpAny_loadPart' p
  have r:a[((i:Nat):Int).toNat]? =none:=by simp;omega
  rw[r];have O:m.drop i= []:=aeH (by omega)
  rw[O] at h
  have Q:HT.lexLt [] (f.drop i)=decide (a.size<j.size):=by
   by_cases c:i<f.length
   ·rw[qK c,HT.nJ]
    exact(KM (by omega)).symm
   ·rw[aeH (by omega),HT.oP]
    exact(Gc (by omega)).symm
  rw[Q] at h
  wp_walk using wpAny_loadPart' o,wpAny_loadPart' p
  exact h
 |succ k T=>
  intro i L M N prog w A R s h;obtain⟨x,g,d,y,os⟩:=s;obtain⟨o,p,h⟩:=h
  wp_walk using wpAny_loadPart' o,wpAny_loadPart' p
  have z:i<m.length:=by omega
  obtain⟨t,U⟩:=Fz B (b9 z);have r:a[((i:Nat):Int).toNat]? =some (.int m[i] t):=by rw[Int.toNat_natCast,<-mM];exact U
  have X:((i:Int)+1)=((i+1:Nat):Int):=by push_cast;rfl
  rw[r]
  by_cases c:i<f.length
  ·obtain⟨u,Y⟩:=Fz C (b9 c)
   have v:j[((i:Nat):Int).toNat]? =some (.int f[i] u):=by rw[Int.toNat_natCast,<-mM];exact Y
   rw[v];rw[qK z,qK c,HT.jw] at h;obtain⟨e,Z,E⟩:=HT.AG A.in1 ⟨x,g,d,y,os⟩ m[i] t f[i] u;refine ir (Z prog w _ _ ?_);cases e with
   |true=>
    rw[tz (E.mp rfl)] at h
    wp_walk
    rw[X]
    exact⟨aen afo _,aeh entry_eq_loop (by
     rw[aec afo _];exact T (i+1) (by omega) (by omega) (by omega) prog w A R _ ⟨o,p,h⟩)⟩
   |false=>
    rw[AC (λq=>absurd (E.mpr q) cQ)] at h
    wp_walk using wpAny_loadPart' o,wpAny_loadPart' p
    rw[r,v];have WV:=HT.Bl A.in1 ⟨x,g,d,y,os⟩ m[i] t f[i] u prog w
    wp_walk using WV
    exact h
  ·have v:j[((i:Nat):Int).toNat]? =none:=by simp;omega
   rw[v];rw[qK z,aeH (show f.length<=i by omega),HT.nI] at h
   wp_walk using wpAny_loadPart' o,wpAny_loadPart' p
   show R (.ok (.ret (.bool (decide (a.size<j.size))))) _;rw[Gc (by omega)]
   exact h
end
section
open PySem.SeqAt
open PySem.AutoSeq1 (wpAny_loadPart')
open PySem.MeetsSeq PySem.MeetsSeq2 PySem.MeetsSeq3
theorem Ac(l b:Addr)(a c:Array Value)(n i:Nat)(j k:Option Addr)(m o:Array (Option Value))(e f:List Int)(r:IntsAre a.toList e)(t:IntsAre c.toList f):
  Meets (Builtin.«list.__lt__» ⟨[.ref l, .ref b],[]⟩)
   (λ_ R s=>s.heap.get? l=some {cls:= .type "list",dict:=j,data:= .seq a n,slots:=m}/\s.heap.get? b=some {cls:= .type "list",dict:=k,data:= .seq c i,slots:=o}/\
    R (.ok (.ret (.bool (HT.lexLt e f)))) s):=by
 intro prog w A R s h;obtain⟨u,g,d,v,os⟩:=s;obtain⟨p,q,h⟩:=h;have x:=AutoSeq1.sub_list_list
 wp_walk using wpAny_loadPart' p,wpAny_loadPart' q
 exact⟨aen afo _,aeh entry_eq_loop (by
  rw[aec afo _];exact OR l b a c n i j k m o e f r t _ 0 rfl (eN _) (eN _) prog w A R _ ⟨p,q,h⟩)⟩
end
section
variable {prog:Program} {w:World} {A:Around} {E:Value->Shared->Prop} {s:Shared}
theorem F4(o:s.heap.IsList l a)(p:s.heap.IsList b d)(q:IntsAre a.toList e)(r:IntsAre d.toList f)(t:A.units<cLine)
  (h:Q (HT.lexLt e f) s):wpAny (model prog w) A (oneLt' true (.ref l) (.ref b)) Q E s:=by
 rfl';obtain⟨⟨cls,v,i,x⟩,g,j,n,k⟩:=id o;obtain⟨⟨H,y,data2,z⟩,B,m,C,c⟩:=id p;ac_rfl;simp only at j k m c;subst j k m c;rw[oneLt'_eq];simp only[aem];refine ir (wpAny_cRoomFor t ?_);refine ir (wpAny_callSpecialIfBound?_slot ⟨_,g,rfl⟩ PySem.F.slot_list_lt (aew PySem.F.slot_list_lt ⟨_,g,rfl⟩ PySem.F.entry_list_lt (PySem.F.args_list_lt_2 _ _) (Ac l b a d n C v y x z e f q r) ⟨g,B,?_⟩));exact On h
end
theorem tq:∀a:List Int,HT.lexLt a a=false
 | []=>rfl
 |x::b=>by rw[HT.jw,tz rfl];exact tq b
theorem wX:∀a b c:List Int,HT.lexLt a b=true->HT.lexLt b c=true->HT.lexLt a c=true
 | [],[],_,h,_=>by cases h
 | [],_::_,[],_,h=>by cases h
 | [],_::_,_::_,_,_=>rfl
 |_::_,[],_,h,_=>by cases h
 |_::_,_::_,[],_,h=>by cases h
 |x::i,y::j,z::k,g,e=>by
  rw[HT.jw] at*
  by_cases f:x=y
  ·rw[tz f] at g
   by_cases d:y=z
   ·rw[tz d] at e
    rw[tz (f.trans d)];exact wX i j k g e
   ·rw[AC d] at e
    rw[AC (by rw[f];exact d),f];exact e
  ·rw[AC f] at g
   have l:=GM g
   by_cases d:y=z
   ·rw[AC (by rw[<-d];exact f),<-d];exact g
   ·rw[AC d] at e
    have m:=GM e;rw[AC (by omega)]
    exact KM (by omega)
theorem yI:∀a b:List Int,HT.lexLt a b=false->HT.lexLt b a=false->a=b
 | [],[],_,_=>rfl
 | [],_::_,h,_=>by cases h
 |_::_,[],_,h=>by cases h
 |x::f,y::g,c,d=>by
  rw[HT.jw] at*
  by_cases e:x=y
  ·rw[tz e] at c
   rw[tz e.symm] at d;rw[e,yI f g c d]
  ·rw[AC e] at c
   rw[AC (λz=>e z.symm)] at d
   have:=KF c
   have:=KF d
   omega
theorem OO(a b c:List Int)(h:HT.lexLt a c=true):HT.lexLt a b=true\/HT.lexLt b c=true:=by
 cases e:HT.lexLt a b with
 |true=>exact .inl rfl
 |false=>
  right
  cases d:HT.lexLt b a with
  |true=>exact wX _ _ _ d h
  |false=>rw[<-yI a b e d];exact h
def n4(r:List Nat):List Int:=r.map λ(n:Nat)=>(n:Int)
def mB(a b:List Nat):Prop:=HT.lexLt (n4 b) (n4 a)=false
def U3(H:Hp)(L:List (Addr×List Nat)):Prop:=∀p∈L,H p.1=some (.lst ((n4 p.2).map V.int))
theorem Qv(h:(n4 a).map V.int=(n4 b).map V.int):a=b:=by
 unfold n4 at h;rw[cG,cG] at h
 induction a generalizing b with
 |nil=>cases b with
  |nil=>rfl
  |cons y b=>simp at h
 |cons x a d=>
  cases b with
  |nil=>simp at h
  |cons y b=>
   rw[dF,dF] at h
   injection h with e f
   have c:V.int (x:Int)=V.int (y:Int):=e
   injection c with c
   rw[d f,show x=y by omega]
section
variable {X:Cx}
end
end L2
namespace PySem.SetTable
def oi(a:Array Nat):Prop:=∀i j (b:j<a.size),i<j->a[i]! <a[j]!
theorem NR{a:Array Nat}{i d:Nat}(h:i<a.size):a.getD i d=a[i]! :=by
 simp[Array.getD,h]
theorem yn(R:oi h)(j:Nat):∀(f lo g:Nat),g-lo<=f->lo<=g->g<=h.size->(∀i,i<lo->h[i]! <j)->(∀i,g<=i->i<h.size->j<=h[i]!)->
  lo<=below.go h j f lo g/\below.go h j f lo g<=g/\(∀i,i<below.go h j f lo g->h[i]! <j)/\∀i,below.go h j f lo g<=i->i<h.size->j<=h[i]!
 |0,lo,g,m,n,k,a,b=>by
  have:lo=g:=by omega
  subst this;rw[below.go];exact⟨bK _,bK _,a,b⟩
 |f+1,lo,g,m,n,k,a,b=>by
  rw[below.go]
  by_cases c:lo<g
  ·rw[tz c]
   have l:(lo+g) / 2<h.size:=by omega
   dsimp only;rw[NR l]
   by_cases d:h[(lo+g) / 2]! <j
   ·rw[tz d]
    have:=yn R j f ((lo+g) / 2+1) g (by omega) (by omega) k (λi p=>by
     by_cases e:i=(lo+g) / 2
     ·rw[e];exact d
     ·have:=R i ((lo+g) / 2) l (by omega);omega) b
    exact⟨by omega,this.2.1,this.2.2⟩
   ·rw[AC d]
    have:=yn R j f lo ((lo+g) / 2) (by omega) (by omega) (by omega) a (λi q o=>by
     by_cases e:i=(lo+g) / 2
     ·rw[e];omega
     ·have:=R ((lo+g) / 2) i o (by omega);omega)
    exact⟨this.1,by omega,this.2.2⟩
  ·rw[AC c]
   have:lo=g:=by omega
   subst this;exact⟨bK _,bK _,a,b⟩
theorem kP{xs:Array Nat}(R:oi xs)(j:Nat):below xs j<=xs.size/\(∀i,i<below xs j->xs[i]! <j)/\∀i,below xs j<=i->i<xs.size->j<=xs[i]! :=by
 have:=yn R j xs.size 0 xs.size (by omega) (eN _) (bK _) (λi h=>by omega) (λi a b=>by omega)
 exact⟨this.2.1,this.2.2⟩
theorem below_at(R:oi a)(h:a[i]? =some j):below a j=i:=by
 obtain⟨b,e⟩:=zH.mp h;have g:a[i]! =j:=by simp[b,e]
 obtain⟨k,d,f⟩:=kP R j;apply Nat.le_antisymm
 ·apply FB
  intro c
  have:=d i (by omega)
  omega
 ·apply FB
  intro c;have l:=f (below a j) (bK _) (by omega)
  have m:=R (below a j) i b (by omega)
  omega
theorem rP{t:SetTable}(R:oi t.place){i j:Nat}(h:t.place[i]? =some j):t.slot j= .live i:=by
 unfold slot;rw[below_at R h];simp[h]
theorem Gr{t:SetTable}(R:oi t.place)(a:t.dummies= #[]){j:Nat}(h:∀i:Nat,t.place[i]? ≠some j):t.slot j= .empty:=by
 unfold slot
 have b:(t.place[below t.place j]? ==some j)=false:=by
  rw[W1];exact h _
 dsimp only;rw[AC (by rw[b];exact cQ)]
 unfold has;rw[a];rfl
def nY(mask:Nat)(p:Probe):Probe:=
 if p.more>0 then {p with j:=p.j+1,more:=p.more-1} else
 let (i,perturb):=leap mask p.i p.perturb
 {p with j:=i,more:=runEnd mask i-i,i,perturb}
def An(mask:Nat)(h:Int):Probe:={j:=bits h%(mask+1),more:=runEnd mask (bits h%(mask+1))-bits h%(mask+1),i:=bits h%(mask+1),perturb:=bits h,dummy:=none}
def rQ(mask:Nat)(h:Int):Nat->Probe
 |0=>An mask h
 |k+1=>nY mask (rQ mask h k)
def b7(mask:Nat)(h:Int)(k:Nat):Nat:=(rQ mask h k).j
theorem MX(h:Int):bits h<2^64:=by
 unfold bits;have a:0<=h%(2^64:Int):=afO _ (by decide)
 have b:h%(2^64:Int)<2^64:=afi _ (by decide)
 omega
def eV(mask:Nat)(i p:Nat):Nat->Nat×Nat
 |0=>(i,p)
 |r+1=>leap mask (eV mask i p r).1 (eV mask i p r).2
theorem lN(mask i p:Nat):∀r,(eV mask i p r).2=p / 32^r
 |0=>by simp[eV]
 |r+1=>by
  show(eV mask i p r).2 / 32=_;rw[lN mask i p r,Nat.div_div_eq_div_mul,agb]
def RQ(mask:Nat)(i:Nat):Nat:=(i*5+1)%(mask+1)
def kZ(mask:Nat)(i:Nat):Nat->Nat
 |0=>i
 |r+1=>RQ mask (kZ mask i r)
theorem mz(mask i:Nat)(a:Nat):∀b,kZ mask i (a+b)=kZ mask (kZ mask i a) b
 |0=>rfl
 |b+1=>by
  show RQ mask (kZ mask i (a+b))=_;rw[mz mask i a b];rfl
theorem u0{mask i p a:Nat}(h:(eV mask i p a).2=0):∀r,eV mask i p (a+r)=(kZ mask (eV mask i p a).1 r,0)
 |0=>by rw[Nat.add_zero,kZ];exact UF rfl h
 |r+1=>by
  show leap mask (eV mask i p (a+r)).1 (eV mask i p (a+r)).2=_;rw[u0 h r];unfold leap;simp[kZ,RQ]
def wc(mask:Nat):Prop:=mask=7\/mask=31\/mask=127\/mask=511
def Xo(mask:Nat):Nat->Nat->List Nat
 |_,0=> []
 |i,n+1=>i::Xo mask (RQ mask i) n
theorem FT{mask s:Nat}:∀{i n:Nat},s∈Xo mask i n->∃r,r<n/\kZ mask i r=s
 |i,0,h=>by cases h
 |i,n+1,h=>by
  rcases bT.mp h with rfl|h
  ·exact⟨0,by omega,rfl⟩
  ·obtain⟨r,a,e⟩:=FT h
   refine⟨r+1,by omega,?_⟩
   have:=mz mask i 1 r
   rw[show 1+r=r+1 by omega] at this
   rw[this];exact e
theorem Xp{mask:Nat}(h:wc mask):(∀s,s<=mask->∃r,r<=mask/\kZ mask 0 r=s)/\kZ mask 0 (mask+1)=0:=by
 have key:∀m,(List.range (m+1)).all (λs=>(Xo m 0 (m+1)).contains s)=true->∀s,s<=m->∃r,r<=m/\kZ m 0 r=s:=λm a s b=>by
  have:=afD.mp a s (dY.mpr (by omega))
  obtain⟨r,c,e⟩:=FT (List.contains_iff_mem.mp this);exact⟨r,by omega,e⟩
 rcases h with rfl|rfl|rfl|rfl
 ·exact⟨key 7 (by decide+kernel),by decide+kernel⟩
 ·exact⟨key 31 (by decide+kernel),by decide+kernel⟩
 ·exact⟨key 127 (by decide+kernel),by decide+kernel⟩
 ·exact⟨key 511 (by decide+kernel),by decide+kernel⟩
theorem cover{mask:Nat}(h:wc mask){i s:Nat}(d:i<=mask)(e:s<=mask):∃r,r<=mask/\kZ mask i r=s:=by
 obtain⟨o,per⟩:=Xp h;obtain⟨a,f,rfl⟩:=o i d;obtain⟨b,g,rfl⟩:=o s e
 by_cases c:a<=b
 ·refine⟨b-a,by omega,?_⟩
  rw[<-mz,show a+(b-a)=b by omega]
 ·refine⟨mask+1-a+b,by omega,?_⟩
  rw[<-mz,show a+(mask+1-a+b)=mask+1+b by omega,mz,per]
def cU(mask:Nat)(p:Probe):Nat->Probe
 |0=>p
 |k+1=>nY mask (cU mask p k)
theorem mi(mask:Nat)(p:Probe)(a:Nat):∀b,cU mask p (a+b)=cU mask (cU mask p a) b
 |0=>rfl
 |b+1=>by
  show nY mask (cU mask p (a+b))=_;rw[mi mask p a b];rfl
theorem nj(mask:Nat)(h:Int):∀k,rQ mask h k=cU mask (An mask h) k
 |0=>rfl
 |k+1=>by
  show nY mask _=nY mask _;rw[nj mask h k]
theorem ui(mask:Nat)(p:Probe):∀c,c<=p.more->cU mask p c={p with j:=p.j+c,more:=p.more-c}
 |0,_=>rfl
 |c+1,a=>by
  show nY mask (cU mask p c)=_;rw[ui mask p c (by omega)]
  unfold nY;rw[tz (by show p.more-c>0;omega)]
  show({p with j:=p.j+c+1,more:=p.more-c-1}:Probe)={p with j:=p.j+(c+1),more:=p.more-(c+1)}
  rw[show p.more-c-1=p.more-(c+1) by omega,show p.j+c+1=p.j+(c+1) by omega]
def Tc(mask:Nat)(p:Probe)(a:Nat×Nat):Probe:={p with j:=a.1,more:=runEnd mask a.1-a.1,i:=a.1,perturb:=a.2}
theorem more_le(mask i:Nat):runEnd mask i-i<=9:=by
 unfold runEnd
 split<;>omega
theorem qU(mask:Nat)(p:Probe):cU mask p (p.more+1)=Tc mask p (leap mask p.i p.perturb):=by
 show nY mask (cU mask p p.more)=_;rw[ui mask p p.more (bK _)];unfold nY;rw[AC (by show ¬p.more-p.more>0;omega)]
 rfl
theorem xC(mask:Nat)(p:Probe):∀r,∃k,k<=p.more+1+10*r/\cU mask p k=Tc mask p (eV mask p.i p.perturb (r+1))
 |0=>⟨p.more+1,by omega,qU mask p⟩
 |r+1=>by
  obtain⟨k,a,e⟩:=xC mask p r;have b:=more_le mask (eV mask p.i p.perturb (r+1)).1;refine⟨k+((runEnd mask (eV mask p.i p.perturb (r+1)).1-(eV mask p.i p.perturb (r+1)).1)+1),by omega,?_⟩
  rw[mi,e];exact qU mask (Tc mask p (eV mask p.i p.perturb (r+1)))
theorem Gn(mask i p:Nat)(r:Nat):(eV mask i p (r+1)).1<=mask:=by
 show(((eV mask i p r).1*5+1+(eV mask i p r).2 / 32)%(mask+1))<=mask
 have:=qQ ((eV mask i p r).1*5+1+(eV mask i p r).2 / 32) (show 0<mask+1 by omega)
 omega
theorem KN{mask i:Nat}(h:i<=mask):i+(runEnd mask i-i)<=mask:=by
 unfold runEnd
 split<;>omega
structure ug (mask:Nat) (p:Probe):Prop where
 le:p.j+p.more<=mask
 more:p.more<=9
 per:p.perturb<2^64
 dum:p.dummy=none
theorem ug.nY{mask:Nat}{p:Probe}(o:ug mask p):ug mask (nY mask p):=by
 unfold SetTable.nY
 split
 ·next h=>exact⟨by show p.j+1+(p.more-1)<=mask;have:=o.le;omega,by show p.more-1<=9;have:=o.more;omega,o.per,o.dum⟩
 ·refine⟨KN (by have:=qQ (p.i*5+1+p.perturb / 32) (show 0<mask+1 by omega);show(p.i*5+1+p.perturb / 32)%(mask+1)<=mask;omega),more_le _ _,?_,o.dum⟩
  show p.perturb / 32<2^64
  have:=o.per
  omega
theorem ug.start(mask:Nat)(h:Int):ug mask (An mask h):=⟨KN (mask:=mask) (i:=bits h%(mask+1)) (by have:=qQ (bits h) (show 0<mask+1 by omega);omega),more_le _ _,MX h,rfl⟩
theorem ug.cU{mask:Nat}{p:Probe}(o:ug mask p):∀k,ug mask (cU mask p k)
 |0=>o
 |k+1=>(o.cU k).nY
theorem meets{mask:Nat}(f:wc mask){p:Probe}(o:ug mask p){s:Nat}(a:s<=mask):∃k,k<10*turns mask/\(cU mask p k).j=s:=by
 have z:(eV mask p.i p.perturb 13).2=0:=by
  rw[lN];exact Nat.div_eq_of_lt (fC o.per (by decide))
 obtain⟨r,c,e⟩:=cover f (Gn mask p.i p.perturb 12) a;obtain⟨k,d,b⟩:=xC mask p (12+r);refine⟨k,?_,?_⟩
 ·have:=o.more
  unfold turns;omega
 ·rw[b]
  show(eV mask p.i p.perturb (12+r+1)).1=s;rw[show 12+r+1=13+r by omega,u0 z]
  exact e
theorem Bi(R:oi t.place)(o:t.dummies= #[])(hashAt:Nat->Int)(h:Int):∀(K d:Nat)(p:Probe),p.dummy=none->K<d->(∀i:Nat,t.place[i]? ≠some (cU t.mask p K).j)->
  ∃e,e<=K/\(∀f,f<e->∃i:Nat,t.place[i]? =some (cU t.mask p f).j/\hashAt i≠h)/\
   (((∀i:Nat,t.place[i]? ≠some (cU t.mask p e).j)/\probe.go t hashAt h d p=some (.empty (cU t.mask p e).j none))\/
    (∃i:Nat,t.place[i]? =some (cU t.mask p e).j/\hashAt i=h/\probe.go t hashAt h d p=some (.candidate (cU t.mask p e).j i (cU t.mask p (e+1)))))
 |K,0,p,_,v,_=>by omega
 |K,d+1,p,q,v,r=>by
  by_cases c:∃i:Nat,t.place[i]? =some p.j
  ·obtain⟨i,g⟩:=c
   have s:=rP R g
   by_cases l:hashAt i=h
   ·refine⟨0,eN _,λf u=>by omega, .inr ⟨i,g,l,?_⟩⟩
    rw[probe.go,s];dsimp only;rw[tz (by simpa using l)]
    rfl
   ·cases K with
    |zero=>exact absurd g (r i)
    |succ K=>
     have n:(nY t.mask p).dummy=none:=by
      unfold nY
      split<;>exact q
     have m:∀k,cU t.mask (nY t.mask p) k=cU t.mask p (k+1):=λk=>by
      have:=mi t.mask p 1 k
      rw[show 1+k=k+1 by omega] at this
      exact this.symm
     obtain⟨e,w,a,b⟩:=Bi R o hashAt h K d (nY t.mask p) n (by omega) (by rw[m];exact r)
     have x:probe.go t hashAt h (d+1) p=probe.go t hashAt h d (nY t.mask p):=by
      rw[probe.go,s];dsimp only;rw[AC (by simpa using l)]
      rfl
     refine⟨e+1,by omega,λf u=>?_,?_⟩
     ·cases f with
      |zero=>exact⟨i,g,l⟩
      |succ f=>
       have:=a f (by omega)
       rw[m] at this;exact this
     ·rw[m,m] at b
      rw[x];exact b
  ·have c:∀i:Nat,t.place[i]? ≠some p.j:=λi g=>c ⟨i,g⟩
   refine⟨0,eN _,λf u=>by omega, .inl ⟨c,?_⟩⟩
   rw[probe.go,Gr R o c];dsimp only;rw[q];rfl
structure TOk (t:SetTable) (hs:List Int):Prop where
 few:wc t.mask
 dum:t.dummies= #[]
 rise:oi t.place
 size:t.place.size=hs.length
 le:∀(i j:Nat),t.place[i]? =some j->j<=t.mask
 room:t.place.size<=t.mask
 path:∀(i:Nat)(h:Int),hs[i]? =some h->∃k,t.place[i]? =some (b7 t.mask h k)/\∀k',k'<k->∃i':Nat,t.place[i']? =some (b7 t.mask h k')
theorem DS(mask:Nat)(h:Int)(k:Nat):b7 mask h k<=mask:=by
 unfold b7;rw[nj]
 have:=((ug.start mask h).cU k).le
 omega
theorem TOk.empty(T:TOk t a):∃s,s<=t.mask/\∀i:Nat,t.place[i]? ≠some s:=by
 apply FB;intro c
 have all:∀s∈List.range (t.mask+1),s∈t.place.toList:=λs a=>by
  apply FB;intro n;refine c ⟨s,by have:=dY.mp a;omega,λi b=>n ?_⟩
  rw[<-mM] at b;exact fB b
 have:=Wb.bf zE all
 rw[pY,pU] at this
 have:=T.room
 omega
theorem TOk.probe(T:TOk t g)(hashAt:Nat->Int)(h:Int)(k:Nat):
  ∃d,k<=d/\(∀e,k<=e->e<d->∃i:Nat,t.place[i]? =some (b7 t.mask h e)/\hashAt i≠h)/\
   (((∀i:Nat,t.place[i]? ≠some (b7 t.mask h d))/\t.probe hashAt h (rQ t.mask h k)=some (.empty (b7 t.mask h d) none))\/
    (∃i:Nat,t.place[i]? =some (b7 t.mask h d)/\hashAt i=h/\t.probe hashAt h (rQ t.mask h k)=some (.candidate (b7 t.mask h d) i (rQ t.mask h (d+1))))):=by
 obtain⟨s,j,l⟩:=T.empty;have o:=(ug.start t.mask h).cU k;rw[<-nj] at o;obtain⟨K,m,n⟩:=meets T.few o j;have f:∀c,cU t.mask (rQ t.mask h k) c=rQ t.mask h (k+c):=λc=>by rw[nj,nj,<-mi]
 obtain⟨d,p,a,b⟩:=Bi T.rise T.dum hashAt h K (10*turns t.mask) (rQ t.mask h k) o.dum m (by rw[n];exact l)
 refine⟨k+d,by omega,λe q r=>?_,?_⟩
 ·have:=a (e-k) (by omega)
  rw[f,show k+(e-k)=e by omega] at this
  exact this
 ·rw[f,f] at b
  exact b
theorem lI{xs:Array a}(x:a)(e:p<=xs.size)(i:Nat):(insertAt xs p x)[i]? =if i<p then xs[i]? else if i=p then some x else xs[i-1]? :=by
 rw[<-mM,afF];have lt:(xs.toList.take p).length=p:=by rw[jQ,pU];omega
 by_cases c:i<p
 ·rw[tz c,iM (by omega),K2 c,mM]
 ·rw[AC c]
  by_cases d:i=p
  ·subst d
   rw[tz rfl,iQ (by omega),lt,wb];rfl
  ·rw[AC d,iQ (by omega),lt]
   obtain⟨m,b⟩:∃m,i-p=m+1:=⟨i-p-1,by omega⟩
   rw[b,v8,afj,mM]
   congr 1;omega
theorem iE(xs:Array a)(p:Nat)(x:a):(insertAt xs p x).size=xs.size+1:=by
 rw[<-pU,(afX xs p x).length_eq];simp
theorem j3{a:Array Nat}{i j:Nat}(h:a[i]? =some j):a[i]! =j:=by
 obtain⟨b,e⟩:=zH.mp h;simp[b,e]
theorem Mm{xs:Array Nat}(R:oi xs){j:Nat}(h:∀i:Nat,xs[i]? ≠some j):oi (insertAt xs (below xs j) j):=by
 obtain⟨t,w,x⟩:=kP R j;have g:=lI (xs:=xs) j t;intro a b y A;rw[iE] at y
 have m:∀i,i<xs.size+1->∃v,(insertAt xs (below xs j) j)[i]? =some v/\((i<below xs j/\xs[i]? =some v)\/(i=below xs j/\v=j)\/(below xs j<i/\xs[i-1]? =some v)):=λi r=>by
  rw[g i]
  by_cases c:i<below xs j
  ·rw[tz c,BA (by omega)]
   exact⟨_,rfl, .inl ⟨c,rfl⟩⟩
  ·rw[AC c]
   by_cases d:i=below xs j
   ·rw[tz d];exact⟨j,rfl, .inr (.inl ⟨d,rfl⟩)⟩
   ·rw[AC d,BA (by omega)]
    exact⟨_,rfl, .inr (.inr ⟨by omega,rfl⟩)⟩
 obtain⟨G,B,C⟩:=m a (by omega)
 obtain⟨H,E,s⟩:=m b (by omega)
 rw[j3 B,j3 E];have lo:∀i v,i<below xs j->xs[i]? =some v->v<j:=λi v n f=>by have:=w i n;rw[j3 f] at this;exact this
 have r:∀i v,below xs j<=i->xs[i]? =some v->j<v:=λi v n f=>by
  have:=x i n (zH.mp f).1
  rw[j3 f] at this
  have:v≠j:=λz=>h i (by rw[f,z])
  omega
 have o:∀i k v u,xs[i]? =some v->xs[k]? =some u->i<k->v<u:=λi k v u n f F=>by
  have:=R i k (zH.mp f).1 F
  rw[j3 n,j3 f] at this;exact this
 rcases C with ⟨q,p⟩ | ⟨q,rfl⟩ | ⟨q,p⟩
 ·rcases s with ⟨l,e⟩ | ⟨l,rfl⟩ | ⟨l,e⟩
  ·exact o _ _ _ _ p e A
  ·exact lo _ _ q p
  ·have:=lo _ _ q p;have:=r (b-1) _ (by omega) e;omega
 ·rcases s with ⟨l,e⟩ | ⟨l,rfl⟩ | ⟨l,e⟩
  ·omega
  ·omega
  ·exact r (b-1) _ (by omega) e
 ·rcases s with ⟨l,e⟩ | ⟨l,rfl⟩ | ⟨l,e⟩
  ·omega
  ·omega
  ·exact o _ _ _ _ p e (by omega)
theorem PJ{xs:Array Nat}(R:oi xs){j s:Nat}:(∃i:Nat,(insertAt xs (below xs j) j)[i]? =some s)↔s=j\/∃i:Nat,xs[i]? =some s:=by
 obtain⟨a,_,_⟩:=kP R j;have g:=lI (xs:=xs) j a
 constructor
 ·rintro⟨i,h⟩
  rw[g i] at h
  split at h
  ·exact .inr ⟨i,h⟩
  ·split at h
   ·exact .inl (Do h).symm
   ·exact .inr ⟨_,h⟩
 ·rintro(rfl| ⟨i,h⟩)
  ·exact⟨below xs s,by rw[g,AC (by omega),tz rfl]⟩
  ·by_cases c:i<below xs j
   ·exact⟨i,by rw[g,tz c];exact h⟩
   ·exact⟨i+1,by rw[g,AC (by omega),AC (by omega)];exact h⟩
theorem TOk.put(T:TOk t l)(v:∀i:Nat,t.place[i]? ≠some (b7 t.mask h k))(w:∀a,a<k->∃i:Nat,t.place[i]? =some (b7 t.mask h a))(room:t.place.size+1<=t.mask):
  (t.put (b7 t.mask h k)).2=below t.place (b7 t.mask h k)/\below t.place (b7 t.mask h k)<=l.length/\
  TOk (t.put (b7 t.mask h k)).1 (l.take (below t.place (b7 t.mask h k))++h::l.drop (below t.place (b7 t.mask h k))):=by
 obtain⟨x,z,A⟩:=kP T.rise (b7 t.mask h k);have g:=lI (xs:=t.place) (b7 t.mask h k) x;have sz:=T.size;have o:=λs=>PJ (s:=s) (j:=b7 t.mask h k) T.rise;refine⟨rfl,by omega,T.few,?_,Mm T.rise v,?_,?_,?_,?_⟩
 ·show(if has t.dummies _=true then _ else t.dummies)= #[]
  rw[T.dum];rfl
 ·show(insertAt t.place _ _).size=_
  rw[iE,cI,jQ,eX,BF];omega
 ·intro i j p
  have p:(insertAt t.place (below t.place (b7 t.mask h k)) (b7 t.mask h k))[i]? =some j:=p
  rcases(o j).mp ⟨i,p⟩ with rfl| ⟨u,e⟩
  ·exact DS _ _ _
  ·exact T.le _ _ e
 ·show(insertAt t.place _ _).size<=_
  rw[iE];exact room
 ·intro i e b
  show ∃f,(insertAt t.place (below t.place (b7 t.mask h k)) (b7 t.mask h k))[i]? =some (b7 t.mask e f)/\∀a,a<f->∃u:Nat,(insertAt t.place (below t.place (b7 t.mask h k)) (b7 t.mask h k))[u]? =some (b7 t.mask e a);have lt:(l.take (below t.place (b7 t.mask h k))).length=below t.place (b7 t.mask h k):=by rw[jQ];omega
  by_cases c:i<below t.place (b7 t.mask h k)
  ·rw[iM (by omega),K2 c] at b
   obtain⟨f,q,r⟩:=T.path i e b;exact⟨f,by rw[g,tz c];exact q,λa n=>(o _).mpr (.inr (r a n))⟩
  ·rw[iQ (by omega),lt] at b
   by_cases d:i=below t.place (b7 t.mask h k)
   ·rw[d,wb] at b
    cases(Do b);exact⟨k,by rw[d,g,AC (by omega),tz rfl],λa n=>(o _).mpr (.inr (w a n))⟩
   ·obtain⟨m,y⟩:∃m,i-below t.place (b7 t.mask h k)=m+1:=⟨i-below t.place (b7 t.mask h k)-1,by omega⟩
    rw[y,v8,afj] at b;obtain⟨f,q,r⟩:=T.path _ e b;refine⟨f,?_,λa n=>(o _).mpr (.inr (r a n))⟩;rw[g,AC c,AC d,show i-1=below t.place (b7 t.mask h k)+m by omega]
    exact q
theorem vR(mask i p:Nat):∀r,eV mask i p (r+1)=eV mask (leap mask i p).1 (leap mask i p).2 r
 |0=>rfl
 |r+1=>by
  show leap mask (eV mask i p (r+1)).1 (eV mask i p (r+1)).2=_;rw[vR mask i p r];rfl
def Own(o:Array (Option Nat))(s:Nat):Prop:=(o.getD s (some 0)).isNone=false
theorem yi{mask:Nat}(e:Array (Option Nat)):∀(f:Nat)(p:Probe),p.j=p.i->p.more=runEnd mask p.i-p.i->p.i<=runEnd mask p.i->(∃r,r<f/\¬Own e (eV mask p.i p.perturb r).1)->
  ∃h,layClean.free mask e f p.i p.perturb=some (cU mask p h).j/\¬Own e (cU mask p h).j/\∀g,g<h->Own e (cU mask p g).j
 |0,p,_,_,_,⟨r,u,_⟩=>by omega
 |f+1,p,v,C,E,⟨r,u,o⟩=>by
  have run:∀c,c<=p.more->(cU mask p c).j=p.i+c:=λc s=>by rw[ui mask p c s];show p.j+c=_;rw[v]
  cases l:(List.range (runEnd mask p.i+1-p.i)).find? λk=>(e.getD (p.i+k) (some 0)).isNone with
  |some k=>
   obtain⟨w,as,bs,m,x⟩:=List.find?_eq_some_iff_append.mp l;have F:k<runEnd mask p.i+1-p.i:=dY.mp (by rw[m];simp)
   have y:as.length=k:=by
    have z:as.length<(List.range (runEnd mask p.i+1-p.i)).length:=by rw[m];simp
    have:=pV (n:=runEnd mask p.i+1-p.i) (i:=as.length) (by simpa using z)
    rw[m,iQ (bK _),wb] at this;exact(Do this).symm
   refine⟨k,?_,?_,λg A=>?_⟩
   ·rw[layClean.free,l,run k (by omega)]
   ·rw[run k (by omega)]
    unfold Own;rw[w];exact Bool.noConfusion
   ·rw[run g (by omega)]
    have B:g∈as:=by
     have:=pV (n:=runEnd mask p.i+1-p.i) (i:=g) (by omega)
     rw[m,iM (by omega)] at this
     exact fB this
    have:=x g B
    unfold Own;exact Bool.not_eq_true' _▸this
  |none=>
   have all:=List.find?_eq_none.mp l
   have own:∀c,c<=p.more->Own e (p.i+c):=λc s=>by
    have:=all c (dY.mpr (by omega))
    unfold Own;exact ua.mpr this
   cases r with
   |zero=>exact absurd (own 0 (eN _)) o
   |succ r=>
    have t:=qU mask p
    obtain⟨h,a,b,c⟩:=yi e f (Tc mask p (leap mask p.i p.perturb)) rfl rfl (by
     show(leap mask p.i p.perturb).1<=runEnd mask (leap mask p.i p.perturb).1;unfold runEnd;split<;>omega) ⟨r,by omega,by rw[vR] at o;exact o⟩
    rw[<-t] at a b c;have q:∀k,cU mask (cU mask p (p.more+1)) k=cU mask p (p.more+1+k):=λk=>(mi mask p (p.more+1) k).symm;refine⟨p.more+1+h,?_,?_,λg A=>?_⟩
    ·rw[layClean.free,l,<-q,<-a,t];rfl
    ·rw[<-q];exact b
    ·by_cases d:g<=p.more
     ·rw[run g d];exact own g d
     ·have:=c (g-(p.more+1)) (by omega)
      rw[q,show p.more+1+(g-(p.more+1))=g by omega] at this
      exact this
structure Laid (mask:Nat) (hs:List Int) (owner:Array (Option Nat)) (ss:List Nat):Prop where
 size:owner.size=mask+1
 len:ss.length=hs.length
 nd:ss.Nodup
 le:∀s∈ss,s<=mask
 get:∀s,s<=mask->∀k,owner.getD s (some 0)=some k↔ss[k]? =some s
 path:∀(k:Nat)(h:Int),hs[k]? =some h->∃c,ss[k]? =some (b7 mask h c)/\∀c',c'<c->b7 mask h c'∈ss
theorem Laid.own{mask:Nat}{c:List Int}{a:Array (Option Nat)}{b:List Nat}(L:Laid mask c a b){s:Nat}(h:s<=mask):Own a s↔s∈b:=by
 unfold Own
 constructor
 ·intro e
  cases o:a.getD s (some 0) with
  |none=>rw[o] at e;cases e
  |some k=>exact fB ((L.get s h k).mp o)
 ·intro e
  obtain⟨k,d⟩:=zJ e;rw[(L.get s h k).mpr d];rfl
theorem IL{mask:Nat}(f:wc mask){l:List Int}{g:Array (Option Nat)}{m:List Nat}(L:Laid mask l g m)(room:l.length<=mask)(h:Int):
  ∃j,layClean.free mask g (turns mask) (bits h%(mask+1)) (bits h)=some j/\Laid mask (l++ [h]) (g.setIfInBounds j (some l.length)) (m++ [j]):=by
 have o:=ug.start mask h
 obtain⟨s,C,F⟩:∃s,s<=mask/\s∉m:=by
  apply FB;intro c
  have all:∀s∈List.range (mask+1),s∈m:=λs l=>by
   apply FB;intro n;exact c ⟨s,by have:=dY.mp l;omega,n⟩
  have:=Wb.bf zE all
  rw[pY,L.len] at this;omega
 have z:(eV mask (An mask h).i (An mask h).perturb 13).2=0:=by
  rw[lN];exact Nat.div_eq_of_lt (fC o.per (by decide))
 obtain⟨r,N,e⟩:=cover f (Gn mask (An mask h).i (An mask h).perturb 12) C
 have O:(An mask h).i<=mask:=by
  have:=qQ (bits h) (show 0<mask+1 by omega)
  show bits h%(mask+1)<=mask;omega
 obtain⟨p,a,b,c⟩:=yi g (turns mask) (An mask h) rfl rfl (by unfold runEnd;split<;>omega) ⟨13+r,by unfold turns;omega,by
  rw[u0 z];show ¬Own g (kZ mask _ r);rw[e,L.own C];exact F⟩
 have E:∀k,(cU mask (An mask h) k).j=b7 mask h k:=λk=>by unfold b7;rw[nj]
 rw[E] at a b;have u:=DS mask h p;rw[L.own u] at b;refine⟨b7 mask h p,a,?_,?_,?_,?_,?_,?_⟩
 ·rw[Array.size_setIfInBounds];exact L.size
 ·rw[cI,cI,L.len];rfl
 ·exact gX.mpr ⟨L.nd,by simp,λx t y G z=>b (by rw[<-dX.mp G,<-z];exact t)⟩
 ·intro x t
  rcases cV.mp t with t|t
  ·exact L.le x t
  ·rw[dX.mp t];exact u
 ·intro x t k
  have w:(g.setIfInBounds (b7 mask h p) (some l.length)).getD x (some 0)=if b7 mask h p=x then some l.length else g.getD x (some 0):=by
   rw[vZ,vZ,Array.getElem?_setIfInBounds]
   by_cases d:b7 mask h p=x
   ·rw[tz d,tz d,tz (by rw[L.size];omega)];rfl
   ·rw[AC d,AC d]
  rw[w]
  by_cases d:b7 mask h p=x
  ·rw[tz d]
   constructor
   ·intro e
    cases(Do e);rw[<-L.len,iQ (bK _),wb,<-d];rfl
   ·intro e
    by_cases q:k<m.length
    ·rw[iM q] at e
     exact absurd (by rw[d];exact fB e) b
    ·have:k<(m++ [b7 mask h p]).length:=(dS.mp e).1
     rw[cI] at this
     have:k<m.length+1:=this
     rw[show k=m.length by omega,L.len]
  ·rw[AC d,L.get x t k]
   constructor
   ·intro e
    rw[iM (dS.mp e).1];exact e
   ·intro e
    by_cases q:k<m.length
    ·rw[iM q] at e;exact e
    ·have:k<(m++ [b7 mask h p]).length:=(dS.mp e).1
     rw[cI] at this
     have:k<m.length+1:=this
     rw[show k=m.length by omega,iQ (bK _),wb] at e
     exact absurd (Do e) d
 ·intro k H v
  by_cases q:k<l.length
  ·rw[iM q] at v
   obtain⟨I,w,J⟩:=L.path k H v;exact⟨I,by rw[iM (by rw[L.len];exact q)];exact w,λA B=>kF _ (J A B)⟩
  ·have:k<(l++ [h]).length:=(dS.mp v).1
   rw[cI] at this
   have:k<l.length+1:=this
   have M:k=l.length:=by omega
   subst M;rw[iQ (bK _),wb] at v;cases(Do v);refine⟨p,by rw[<-L.len,iQ (bK _),wb];rfl,λA B=>kF _ ?_⟩
   have:=c A B
   rw[E] at this;exact(L.own (DS _ _ _)).mp this
theorem IM(mask:Nat):Laid mask [] (Array.replicate (mask+1) none) [] where
 size:=by simp
 len:=rfl
 nd:=gZ
 le:=λs h=>by cases h
 get:=λs a k=>by
  rw[vZ,Array.getElem?_replicate,tz (by omega)]
  simp
 path:=λk h e=>by cases e
def AW(mask:Nat)(a:Option (Array (Option Nat)×Nat))(h:Int):Option (Array (Option Nat)×Nat):=do
 let (owner,k) <-a
 let j <-layClean.free mask owner (turns mask) (bits h%(mask+1)) (bits h)
 pure (owner.setIfInBounds j (some k),k+1)
theorem AX{mask:Nat}(f:wc mask):∀(b done:List Int)(a:Array (Option Nat))(d:List Nat),Laid mask done a d->done.length+b.length<=mask+1->
  ∃c i,b.foldl (AW mask) (some (a,done.length))=some (c,done.length+b.length)/\Laid mask (done++b) c i
 | [],done,a,d,L,_=>⟨a,d,rfl,by rw[fJ];exact L⟩
 |h::b,done,a,d,L,l=>by
  rw[eX] at l;obtain⟨j,e,m⟩:=IL f L (by omega) h
  have n:AW mask (some (a,done.length)) h=some (a.setIfInBounds j (some done.length),done.length+1):=by
   unfold AW;simp[e]
  obtain⟨c,i,g,k⟩:=AX f b (done++ [h]) _ _ m (by rw[cI];show done.length+1+b.length<=_;omega)
  refine⟨c,i,?_,by rw[jP] at k;exact k⟩
  rw[List.foldl_cons,n];rw[cI] at g;have g:b.foldl (AW mask) (some (a.setIfInBounds j (some done.length),done.length+1))=some (c,done.length+1+b.length):=g;rw[g,eX]
  congr 2;omega
theorem De{mask:Nat}(f:wc mask)(b:List Int)(room:b.length<=mask+1):∃a c,layClean mask b.toArray=some a/\Laid mask b a c:=by
 rfl';obtain⟨a,c,e,L⟩:=AX f b [] _ _ (IM mask) (by simpa using room)
 ac_rfl;refine⟨a,c,?_,by simpa using L⟩
 have:layClean mask b.toArray=(b.foldl (AW mask) (some (Array.replicate (mask+1) none,0))).map (·.1):=by
  unfold layClean;rw[List.foldl_toArray];rfl
 have e:b.foldl (AW mask) (some (Array.replicate (mask+1) none,0))=some (a,[].length+b.length):=e;rw[this,e];rfl
def eU(mask:Nat)(a:Array (Option Nat)):List (Nat×Nat):=(List.range (mask+1)).filterMap λj=>(a.getD j none).map (j,·)
theorem LQ{mask:Nat}{b:List Int}{a:Array (Option Nat)}{c:List Nat}(L:Laid mask b a c){j k:Nat}:(j,k)∈eU mask a↔c[k]? =some j:=by
 unfold eU;rw[zq99]
 have dflt:∀s,s<=mask->a.getD s none=a.getD s (some 0):=λs b=>by
  rw[vZ,vZ,BA (by rw[L.size];omega)];rfl
 constructor
 ·rintro⟨s,d,e⟩
  have d:=dY.mp d;rw[dflt s (by omega)] at e
  cases o:a.getD s (some 0) with
  |none=>rw[o] at e;cases e
  |some f=>
   rw[o] at e;have e:=Do e;have h:s=j:=(aef e).1;have i:f=k:=(aef e).2;rw[<-h,<-i];exact(L.get s (by omega) f).mp o
 ·intro e
  have g:=L.le j (fB e);refine⟨j,dY.mpr (by omega),?_⟩
  rw[dflt j g,(L.get j g k).mpr e];rfl
theorem IV(mask:Nat)(c:Array (Option Nat)):((eU mask c).map (·.1)).Pairwise (·<·):=by
 unfold eU;rw[pX,List.pairwise_filterMap];refine aeF.imp λ {a b} h x d y e=>?_;cases f:c.getD a none with
 |none=>rw[f] at d;cases d
 |some i=>
  cases g:c.getD b none with
  |none=>rw[g] at e;cases e
  |some j=>
   rw[f] at d;rw[g] at e;cases(Do d);cases(Do e);exact h
theorem OH{mask:Nat}(f:wc mask)(l:List Int)(room:l.length<=mask)(finger moves:Nat)(led plain:Bool):
  ∃t g,laid mask finger moves led plain l.toArray=some (t,g)/\t.mask=mask/\t.led=led/\t.plain=plain/\t.moves=moves/\g.toList.Perm (List.range l.length)/\TOk t (g.toList.map λk=>l.getD k 0):=by
 rfl';obtain⟨d,u,e,L⟩:=De f l (by omega)
 have m:=λ {j k:Nat}=>LQ (j:=j) (k:=k) L;have v:=IV mask d;ac_rfl
 have G:((eU mask d).map (·.2)).Nodup:=by
  rw[GU,pX];rw[pX] at v;refine v.imp_of_mem λ {a b} H q r z=>?_;obtain⟨I,J⟩:=a;obtain⟨M,bk⟩:=b;have A:=m.mp H;have N:=m.mp q;have z:J=bk:=z;rw[z,N] at A
  have:=Do A
  have r:I<M:=r;omega
 have perm:((eU mask d).map (·.2)).Perm (List.range l.length):=by
  refine(v3 G zE).mpr λk=>?_;rw[bL,dY]
  constructor
  ·rintro⟨⟨j,k'⟩,h,rfl⟩
   have:=(dS.mp (m.mp h)).1
   rw[L.len] at this;exact this
  ·intro n
   have O:k<u.length:=by rw[L.len];exact n
   exact⟨(u[k],k),m.mpr (b9 O),rfl⟩
 have Q:(eU mask d).length=l.length:=by
  have:=perm.length_eq
  simpa using this
 refine⟨{mask,place:=((eU mask d).map (·.1)).toArray,dummies:= #[],finger,led,moves,plain},((eU mask d).map (·.2)).toArray,?_,rfl,rfl,rfl,rfl,by simpa using perm,?_⟩
 ·unfold laid
  rw[e];rfl
 have w:∀(i j:Nat),((eU mask d).map (·.1)).toArray[i]? =some j↔∃k,(eU mask d)[i]? =some (j,k):=λi j=>by
  rw[List.getElem?_toArray,eO];cases o:(eU mask d)[i]? with
  |none=>simp
  |some x=>
   obtain⟨a,b⟩:=x;simp
 have y:∀s,s∈u->∃i:Nat,((eU mask d).map (·.1)).toArray[i]? =some s:=λs R=>by
  obtain⟨k,n⟩:=zJ R;obtain⟨i,p⟩:=zJ (m.mpr n);exact⟨i,(w i s).mpr ⟨k,p⟩⟩
 refine⟨f,rfl,?_,?_,?_,?_,?_⟩
 ·intro a b q r
  have q:b<((eU mask d).map (·.1)).length:=q
  have:=J2.mp v a b (by omega) q r
  simp[show a<(eU mask d).length by simpa using(show a<((eU mask d).map (·.1)).length by omega),show b<(eU mask d).length by simpa using q]
  simpa using this
 ·simp
 ·intro i j h
  obtain⟨k,n⟩:=(w i j).mp h;exact L.le j (fB (m.mp (fB n)))
 ·show((eU mask d).map (·.1)).toArray.size<=mask
  simp[Q];exact room
 ·intro i B p
  rw[eO] at p;cases o:(eU mask d)[i]? with
  |none=>
   have:(((eU mask d).map (·.2)).toArray.toList)[i]? =none:=by simp[o]
   rw[this] at p;cases p
  |some x=>
   obtain⟨j,k⟩:=x;have T:(((eU mask d).map (·.2)).toArray.toList)[i]? =some k:=by simp[o]
   rw[T] at p;have C:=m.mp (fB o);have n:k<l.length:=by rw[<-L.len];exact(dS.mp C).1
   have U:l[k]? =some B:=by
    rw[<-Do p];show _=some (l.getD k 0);rw[b8,b9 n];rfl
   obtain⟨c,E,X⟩:=L.path k B U;rw[C] at E;refine⟨c,(w i _).mpr ⟨k,by rw[o,Do E]⟩,λY Z=>y _ (X Y Z)⟩
end PySem.SetTable
namespace PySem
open SetTable PyProof.Rows
def gM(w:World):Bool:=w.params.followText "set-order"
structure nF (bt:Bool) (o:Obj) (es:Array (Int×Value)) (ep:Nat) (t:SetTable):Prop where
 ex:o.ExactSet
 dat:o.data= .set es ep t
 tok:TOk t (es.toList.map (·.1))
 pl:t.plain=true
 ld:t.led= !bt
 few:5*es.size<3*t.mask
theorem TOk.fits(T:TOk t a):t.fits a.length=true:=by
 simp only[SetTable.fits,SetTable.fill,T.dum,T.size,ub,ad9,decide_eq_true_eq,true_and]
 have:=T.room
 rw[T.size] at this;simpa using this
theorem nF.fits(S:nF w o a b t):t.fits a.size=true:=by
 have:=TOk.fits S.tok
 simpa using this
theorem Lp{mask n:Nat}(f:wc mask)(h:5*n<3*mask):n+1<=mask:=by
 rcases f with rfl|rfl|rfl|rfl<;>omega
theorem HX{mask n:Nat}(f:wc mask)(a:3*mask<=5*n)(b:5*(n-1)<3*mask)(c:n<=306):wc (sizeAbove (grown n)-1)/\5*n<3*(sizeAbove (grown n)-1)/\n<=sizeAbove (grown n)-1/\sizeAbove (grown n)<=512:=by
 rcases f with rfl|rfl|rfl|rfl
 ·have:n=5:=by omega
  subst this;exact⟨.inr (.inl rfl),by decide,by decide,by decide⟩
 ·have:n=19:=by omega
  subst this;exact⟨.inr (.inr (.inl rfl)),by decide,by decide,by decide⟩
 ·have:n=77:=by omega
  subst this;exact⟨.inr (.inr (.inr rfl)),by decide,by decide,by decide⟩
 ·omega
theorem Jv{t:SetTable}{c:Array (Int×Value)}(T:TOk t (c.toList.map (·.1)))(d:t.tooFull=true)(near:5*(c.size-1)<3*t.mask)(small:c.size<=306):
  ∃f a,t.relaid (c.map (·.1)) (grown c.size)=some (f,a)/\a.toList.Perm (List.range c.size)/\(a.filterMap (c[·]?)).toList.Perm c.toList/\(a.filterMap (c[·]?)).size=c.size/\
   TOk f ((a.filterMap (c[·]?)).toList.map (·.1))/\f.plain=t.plain/\f.led=t.led/\5*c.size<3*f.mask/\sizeAbove (grown c.size)<=512:=by
 have sz:t.place.size=c.size:=by rw[T.size];simp
 have m:3*t.mask<=5*c.size:=by
  unfold SetTable.tooFull SetTable.fill at d;rw[T.dum,sz] at d;simp at d;omega
 rfl';obtain⟨o,p,q,r⟩:=HX T.few m near small;obtain⟨f,a,e,em,s,u,_,g,v⟩:=OH o (c.toList.map (·.1)) (by simpa using q) t.finger (t.movedTo (sizeAbove (grown c.size)-1)) t.led t.plain
 rw[aP,pU] at g;ac_rfl
 have i:(a.filterMap (c[·]?)).toList.Perm c.toList:=by
  rw[afY];exact(g.filterMap _).trans (by rw[filterMap_getElem?_range])
 have w:(a.filterMap (c[·]?)).size=c.size:=by rw[<-pU,i.length_eq,pU]
 refine⟨f,a,?_,g,i,w,?_,u,s,by rw[em];exact p,r⟩
 ·unfold SetTable.relaid
  rw[show c.map (·.1)=(c.toList.map (·.1)).toArray by apply Array.toList_inj.mp;simp]
  exact e
 ·have:(a.filterMap (c[·]?)).toList.map (·.1)=a.toList.map λk=>(c.toList.map (·.1)).getD k 0:=by
   rw[afY];have lt:∀k∈a.toList,k<c.size:=λk h=>dY.mp (g.mem_iff.mp h);generalize a.toList=l at lt
   induction l with
   |nil=>rfl
   |cons k l x=>
    have h:=lt k (bO ..);rw[List.filterMap_cons_some (b:=c[k]) (by simp[h]),dF,dF,x λj y=>lt j (bU _ y)]
    simp[h]
  rw[this];exact v
end PySem
set_option maxHeartbeats 1000000
namespace PySem
open SetTable PyProof.Rows
section
variable {prog:Program} {w:World} {A:Around} {E:Value->Shared->Prop} {s:Shared}
theorem vU{h:Heap}{a:Addr}{o:Obj}{f:Array (Int×Value)}{d:Nat}{t:SetTable}(g:h.get? a=some o)(e:o.data= .set f d t)(b:Array (Int×Value))(c:SetTable):
  (h.update a (Obj.putSet b c)).get? a=some {o with data:= .set b (d+1) c}:=by
 have:=Os (Obj.putSet b c) g (by rw[putSet_of b c e];rfl)
 rw[putSet_of b c e] at this;exact this
theorem xW{Q₁:Value->Shared->Prop}
  (h:Q₁ (.ref s.heap.objs.size) {s with heap:=s.heap.push {cls:= .type "set",dict:=none,data:= .set #[] 0 (.fresh 0 0 (!gM w))}}):
  codeAny (model prog w) A (.call (.builtin "set.__new__") ⟨[.type "set"],[]⟩) (wants Q₁ E) s:=by
 refine ae7 ?_;refine ir (aeG F.newCall_set_0 (mo ⟨aen F.plain_set_new _,aeh F.entry_set_new ?_⟩));rw[aec F.plain_set_new _];unfold Builtin.«set.__new__» Builtin.Frozenset.newClass;have a:=sub_set_self;obtain⟨b,g,d,c,os⟩:=s;dsimp only
 wp_walk
 refine wpAny_askSetting (mo ?_);dsimp only;simp only[newObj];refine ir (wpAny_alloc (mo ?_));exact mo h
theorem B2 
  (h:Q (.ref s.heap.objs.size) {s with heap:=s.heap.push {cls:= .type "set",dict:=none,data:= .set #[] 0 (.fresh 0 0 (!gM w))}}):
  wpAny (model prog w) A (call (.type "set") []) Q E s:=by
 obtain⟨c,u,i⟩:=F.called_set.mro;have j:=F.called_set.made;have k:=F.called_set.sub;refine aeb (ae7 ?_);show wpAny _ _ (callAny (.type "set") _) _ _ _;refine mo ⟨afh _ (by decide+kernel),aeh F.entry_type_call ?_⟩
 rw[Around.under_plain (weight_type_call_type "set" [] []) rfl];have v:=F.called_set.notType;have x:=F.called_set.canCreate;have l:=F.typeCall_set_0
 repeat (any_goals (first|assumption|wp_step))
 refine adv (xW (E:=E) (Q₁:=λobj a=>obj= .ref s.heap.objs.size/\a={s with heap:=s.heap.push {cls:= .type "set",dict:=none,data:= .set #[] 0 (.fresh 0 0 (!gM w))}}) ⟨rfl,rfl⟩) λr a b=>?_
 cases r with
 |error e=>exact b
 |ok m=>
  cases m with
  |ret obj=>
   obtain⟨rfl,rfl⟩:=b;have n:(s.heap.push {cls:= .type "set",dict:=none,data:= .set #[] 0 (.fresh 0 0 (!gM w))}).get? s.heap.objs.size=some {cls:= .type "set",dict:=none,data:= .set #[] 0 (.fresh 0 0 (!gM w))}:=FS _ rfl;have o:Shared.TypeIs {s with heap:=s.heap.push {cls:= .type "set",dict:=none,data:= .set #[] 0 (.fresh 0 0 (!gM w))}} (.ref s.heap.objs.size) "set":=⟨_,n,rfl⟩
   have p:=F.called_set.init.lookup;have q:=F.called_set.init.bind (.ref s.heap.objs.size)
   repeat (any_goals (first|assumption|wp_step))
   refine adv (aeo (R:=wants (λr g=>r= .none/\Q (.ref s.heap.objs.size) g) E) F.called_set.init.plain F.entry_set_init (check_set_init o ?_)) λd g f=>?_
   ·unfold Builtin.«set.__init__» noKeywords
    wp_walk
    exact⟨rfl,h⟩
   ·cases d with
    |error e=>exact f
    |ok t=>
     cases t with
     |ret r=>
      obtain⟨rfl,y⟩:=f
      repeat (any_goals (first|assumption|wp_step))
     |_=>exact f.elim
  |_=>exact b.elim
theorem nF.new(w:World):nF (gM w) {cls:= .type "set",dict:=none,data:= .set #[] 0 (.fresh 0 0 (!gM w))} #[] 0 (.fresh 0 0 (!gM w)) where
 ex:=⟨rfl,rfl,rfl⟩
 dat:=rfl
 tok:=⟨.inl rfl,rfl,λi j a=>by simp[SetTable.fresh] at a,rfl,λi j h=>by simp[SetTable.fresh] at h,by simp[SetTable.fresh],λi h e=>by simp at e⟩
 pl:=rfl
 ld:=rfl
 few:=by simp[SetTable.fresh]
end
section
variable {prog:Program} {w:World} {A:Around} {E:Value->Shared->Prop} {s:Shared}
theorem ItemsAre.ints(h:ItemsAre (intKind prog w) c b):∀v∈b,∃i t,v= .int i t:=by
 induction h with
 |nil=>intro v a;simp at a
 | @cons k f c b d _ e=>
  intro v a
  rcases bT.mp a with rfl|a
  ·obtain⟨t,rfl⟩:=Value.isInt_shape d
   exact⟨k,t,rfl⟩
  ·exact e v a
theorem pR(f:IsTupleKey (intKind prog w) s.heap j a)(h:Q false s):wpAny (model prog w) A (ofAClassStatement 8 (.ref a)) Q E s:=by
 have k:=f.typeIs;obtain⟨o,c,n,l,_,m,p⟩:=f;unfold ofAClassStatement;refine ir (wpAny_typeOf k ?_);dsimp only;simp only[aep, ↓reduceIte];refine ir (mo ?_);simp only[afp,gW, ↓reduceIte];refine ir (aex l m ?_);dsimp only;refine ir ?_;rw[<-Array.forIn_toList];refine aeN _ (λb r d=>r.1=none/\d=s/\∀v∈b,∃i t,v=Value.int i t) _ ?_ ?_ _ _ ⟨rfl,rfl,p.ints⟩
 ·rintro v b r d ⟨e,rfl,g⟩
  obtain⟨i,t,rfl⟩:=g v bO;refine ir (aeG (show ofAClassStatement 7 (.int i t)=pure false from by unfold ofAClassStatement;rfl) ?_)
  simp only[gW,PP];exact mo ⟨rfl,rfl,λu q=>g u (bU _ q)⟩
 ·rintro⟨x,y⟩ d ⟨e,rfl,_⟩
  simp only at e;subst e;exact mo h
theorem GP(j:IsTupleKey (intKind prog w) s.heap n b)(stored:List Value)(o:∀y∈stored,∃f a,y=Value.ref a/\IsTupleKey (intKind prog w) s.heap f a)(h:Q false s):
  wpAny (model prog w) A (searchCouldBeSeen (.ref b) stored) Q E s:=by
 unfold searchCouldBeSeen;refine ir ?_;refine aeN _ (λd r g=>r.1=none/\g=s/\∀y∈d,∃f a,y=Value.ref a/\IsTupleKey (intKind prog w) s.heap f a) _ ?_ ?_ _ _ ⟨rfl,rfl,o⟩
 ·rintro y d r g ⟨i,rfl,k⟩
  obtain⟨f,a,rfl,l⟩:=k y bO;have m:∀y∈d,∃f a,y=Value.ref a/\IsTupleKey (intKind prog w) g.heap f a:=λy p=>k y (bU _ p);have e:(carriedByValue (Value.ref b)&&carriedByValue (Value.ref a))=false:=by simp[carriedByValue]
  dsimp only;rw[e,Bool.or_false]
  by_cases c:(b==a)=true
  ·rw[tz c]
   exact mo ⟨rfl,rfl,m⟩
  ·rw[AC c]
   refine ir (wpAny_eqIsQuiet_tuple j ?_);simp only[afp,gW,PP];refine ir (wpAny_eqIsQuiet_tuple l ?_);simp only[afp,gW,PP];refine ir (pR j ?_);simp only[gW,PP];refine ir (pR l ?_);simp only[gW,PP];exact mo ⟨rfl,rfl,m⟩
 ·rintro⟨q,t⟩ g ⟨i,rfl,_⟩
  simp only at i;subst i;exact mo h
theorem Ar(f:IsTupleKey (intKind prog w) s.heap j a)(h:Q true s):wpAny (model prog w) A (hashByValue 8 (.ref a)) Q E s:=by
 rfl';have l:=f.typeIs;obtain⟨o,c,n,m,_,p,q⟩:=f;ac_rfl;unfold hashByValue;refine ir (wpAny_specialOf l F.slot_tuple_hash.lookup ?_);dsimp only;refine ir (aex m p ?_);refine ir ?_;show wpAny _ _ (forIn c _ _) _ _ s;rw[<-Array.forIn_toList];refine aeN _ (λb r d=>r.1=none/\d=s/\∀v∈b,∃i t,v=Value.int i t) _ ?_ ?_ _ _ ⟨rfl,rfl,q.ints⟩
 ·rintro v b r d ⟨e,rfl,g⟩
  obtain⟨i,t,rfl⟩:=g v bO;refine ir (aeG (show hashByValue 7 (.int i t)=pure true from by unfold hashByValue;rfl) ?_)
  simp only[afp,gW,PP];exact mo ⟨rfl,rfl,λu x=>g u (bU _ x)⟩
 ·rintro⟨z,B⟩ d ⟨e,rfl,_⟩
  simp only at e;subst e;exact mo h
def MO(prog:Program)(w:World)(h:Heap)(b:Array (Int×Value)):Prop:=∀(i:Nat)(e:Int×Value),b[i]? =some e->∃k a,e=(tupleKeyHash (intKind prog w) k, .ref a)/\IsTupleKey (intKind prog w) h k a
def Qk(a:Array (Int×Value))(i:Nat):Int:=(a[i]?.map (·.1)).getD 0
theorem NH(h:wc m):m%2=1:=by rcases h with rfl|rfl|rfl|rfl<;>rfl
theorem Bm{a:Array Nat}(R:oi a){i j v:Nat}(b:a[i]? =some v)(c:a[j]? =some v):i=j:=by
 rw[<-below_at R b,<-below_at R c]
theorem qJ(hu:A.units<cLine)(ho:s.heap.get? a=some o)(S:nF (gM w) o q M t)(P:MO prog w s.heap q)(hk:IsTupleKey (intKind prog w) s.heap u b)
  (Rt:(∃(i:Nat)(c:Addr),q[i]? =some (tupleKeyHash (intKind prog w) u, .ref c)/\IsTupleKey (intKind prog w) s.heap u c)->∀r:Option Nat,(B=false->r.isSome=true)->Q (.there r) s)
  (CA:(∀(i:Nat)(e:Int×Value),q[i]? =some e->∀c,e.2= .ref c->¬IsTupleKey (intKind prog w) s.heap u c)->∀g,(∀i:Nat,t.place[i]? ≠some (b7 t.mask (tupleKeyHash (intKind prog w) u) g))->(∀j,j<g->∃i:Nat,t.place[i]? =some (b7 t.mask (tupleKeyHash (intKind prog w) u) j))->
   Q (.free (b7 t.mask (tupleKeyHash (intKind prog w) u) g) false) s):
  wpAny (model prog w) A (setSearch a (.ref b) (tupleKeyHash (intKind prog w) u) B) Q E s:=by
 generalize hh:tupleKeyHash (intKind prog w) u=h at*;have T:=S.tok;obtain⟨s0,hs0,N⟩:=T.empty;obtain⟨K,hK,eK⟩:=meets T.few (ug.start t.mask h) hs0;have eK:b7 t.mask h K=s0:=by unfold b7;rw[nj];exact eK
 have kb:K<6000:=by
  have:10*turns t.mask<=5260:=by
   rcases T.few with e|e|e|e<;>rw[e]<;>decide
  omega
 have sz:t.place.size=q.size:=by rw[T.size];simp
 have hN:(t.mask%2==0)=false:=by rw[NH T.few];rfl
 have O:∀(n:Nat)(k:Nat)(l:Nat)(R:Option Probe),K+1-k<=n->n<l->k<=K->R.getD (t.probeStart h)=rQ t.mask h k->(∀j,j<k->∃i:Nat,t.place[i]? =some (b7 t.mask h j))->
   (∀(i:Nat) c,q[i]? =some (h, .ref c)->IsTupleKey (intKind prog w) s.heap u c->∀C,t.place[i]? =some (b7 t.mask h C)->k<=C)->
   wpAny (model prog w) A (setSearchFrom a (.ref b) h B l R) Q E s:=by
  intro n
  induction n with
  |zero=>intro k l R h1 h2 h3;omega
  |succ n ih=>
   intro k l R h1 h2 h3 h4 h5 h6;obtain⟨f,rfl⟩:∃f,l=f+1:=⟨l-1,by omega⟩
   unfold setSearchFrom;refine ir (aek ho S.dat S.fits ?_);dsimp only;unfold SetTable.gaveWay;rw[hN];simp only[gW,PP]
   have U:∀(i:Nat)(e:Int×Value),q[i]? =some e->Qk q i=e.1:=λi e d=>by
    show(q[i]?.map (·.1)).getD 0=e.1;rw[d];rfl
   generalize I:t.probe _ h (R.getD (t.probeStart h))=r;have I:t.probe (Qk q) h (rQ t.mask h k)=r:=by rw[<-h4];exact I
   generalize Qk q=hA at U I;obtain⟨g,hk0,hp,alt⟩:=TOk.probe T hA h k
   have k0K:g<=K:=by
    apply FB;intro c;obtain⟨i,d,_⟩:=hp K h3 (by omega)
    rw[eK] at d;exact N i d
   have R5:∀j,j<g->∃i:Nat,t.place[i]? =some (b7 t.mask h j):=λj h'=>by
    by_cases c:j<k
    ·exact h5 j c
    ·obtain⟨i,d,_⟩:=hp j (by omega) h'
     exact⟨i,d⟩
   have F:∀(i:Nat) c,q[i]? =some (h, .ref c)->IsTupleKey (intKind prog w) s.heap u c->∀C,t.place[i]? =some (b7 t.mask h C)->g<=C:=λi c d hc C X=>by
    have hkx:=h6 i c d hc C X;apply FB;intro z;obtain⟨p,G,sU⟩:=hp C hkx (by omega)
    have:i=p:=Bm T.rise X G
    subst this;exact sU (U i _ d)
   rcases alt with ⟨N7,M⟩ | ⟨i,d,hhi,M⟩
   ·rw[M] at I
    subst I;dsimp only;refine mo (CA (λi e d c hc Y=>?_) g N7 R5);obtain⟨j,a',Z,iC⟩:=P i e d;subst Z;cases hc
    have:j=u:=iC.inj Y
    subst this;rw[hh] at d;obtain⟨ky,hy1,hy2⟩:=T.path i h (by rw[eO,mM,d];rfl)
    have lt:=F i _ d Y ky hy1
    by_cases c1:g<ky
    ·obtain⟨p,G⟩:=hy2 g c1
     exact N7 p G
    ·have:ky=g:=by omega
     subst this;exact N7 i hy1
   ·rw[M] at I
    subst I;dsimp only
    have ilt:i<q.size:=by
     have:=(zH.mp d).1
     omega
    obtain⟨j,c,Z,iC⟩:=P i q[i] (BA ilt);have L:q[i]? =some (tupleKeyHash (intKind prog w) j, .ref c):=by rw[BA ilt,Z]
    have H:wpAny (model prog w) A (match q[i]? with
      |some (fst,y)=>do
       let m <-holding [y] (eqBool y (Value.ref b))
       let J <-setState a
       if (B&&m)=true then pure (SetFound.there none)
        else
         match J.2.snd.sameMemory t.moves t.mask with
         |some same=>
          match if same=true then J.2.snd.slot (b7 t.mask h g) else Slot.empty with
          |Slot.live p=>
           match J.fst[p]? with
           |some (fst,y')=>do
            let v <-isSame y' y
            let zo <-pure (if v=true then some p else none)
            match zo with
             |none=>do
              rule "set.search.anew"
              setSearchFrom a (Value.ref b) h B f none
             |some p=>
              if m=true then pure (SetFound.there (some p))
              else setSearchFrom a (Value.ref b) h B f (some (rQ t.mask h (g+1)))
           |none=>do
            let zo <-pure none
            match zo with
             |none=>do
              rule "set.search.anew"
              setSearchFrom a (Value.ref b) h B f none
             |some p=>
              if m=true then pure (SetFound.there (some p))
              else setSearchFrom a (Value.ref b) h B f (some (rQ t.mask h (g+1)))
          |x=>do
           let zo <-pure none
           match zo with
            |none=>do
             rule "set.search.anew"
             setSearchFrom a (Value.ref b) h B f none
            |some p=>
             if m=true then pure (SetFound.there (some p))
             else setSearchFrom a (Value.ref b) h B f (some (rQ t.mask h (g+1)))
         |x=>unsupported "set.changed-during-lookup:is-the-new-block-at-the-old-address"
      |x=>unsupported "internal:set-entry") Q E s:=by
     rw[L];dsimp only;refine ir (M2 (wpAny_eqBool_tuple hu iC hk ?_));refine ir (aek ho S.dat S.fits ?_);dsimp only;have sm:t.sameMemory t.moves t.mask=some true:=by unfold SetTable.sameMemory;simp
     have sU:j≠u->wpAny (model prog w) A (setSearchFrom a (Value.ref b) h B f (some (rQ t.mask h (g+1)))) Q E s:=λne=>by
      by_cases kk:g=K
      ·subst kk
       rw[eK] at d;exact absurd d (N i)
      refine ih (g+1) f _ (by omega) (by omega) (by omega) rfl (λRH h''=>?_) λp c' G sR C X=>?_
      ·by_cases z:RH=g
       ·subst z;exact⟨i,d⟩
       ·exact R5 RH (by omega)
      ·have l1:=F p c' G sR C X
       have:C≠g:=λz=>by
        subst z
        have:p=i:=Bm T.rise X d
        subst this;rw[L] at G;cases G;exact ne (iC.inj sR)
       omega
     have there:j=u->∀r:Option Nat,(B=false->r.isSome=true)->Q (.there r) s:=λe=>by
      subst e;rw[hh] at L;exact Rt ⟨i,c,L,iC⟩
     by_cases e:j=u
     ·rw[KM e,Bool.and_true]
      cases B with
      |true=>exact mo (there e none λz=>absurd z (by decide))
      |false=>
       simp only[gW,PP];rw[sm];dsimp only;rw[tz rfl,rP T.rise d];dsimp only;rw[L];dsimp only;refine ir (wpAny_isSame_ref_self ?_);refine ir (mo ?_);simp only[aem];exact mo (there e (some i) λ_=>rfl)
     ·rw[Gc e,af4]
      simp only[gW,PP];rw[sm];dsimp only;rw[tz rfl,rP T.rise d];dsimp only;rw[L];dsimp only;refine ir (wpAny_isSame_ref_self ?_);refine ir (mo ?_);simp only[aem];exact sU e
    by_cases led:(!t.led)=true
    ·rw[tz led]
     refine ir (GP hk _ (λy hy=>?_) ?_)
     ·obtain⟨e,he,rfl⟩:=bL.mp hy
      have he:=(Array.mem_filter.mp (Array.mem_toList_iff.mp he)).1;obtain⟨p,G,rfl⟩:=Array.mem_iff_getElem.mp he;obtain⟨RH,c',Z,aaB⟩:=P p q[p] (BA G);exact⟨RH,c',by rw[Z],aaB⟩
     ·simp only[gW,PP]
      exact H
    ·rw[AC led]
     exact H
 refine O (K+1) 0 100000 none (bK _) (by omega) (eN _) rfl (λj h'=>by omega) λi c d hc C _=>eN _
end
section
variable {prog:Program} {w:World} {A:Around} {E:Value->Shared->Prop} {s:Shared}
theorem vg(b:Addr)(a:Array (Int×Value)):byScan (.ref b) a=false:=rfl
theorem Aq(k:A.units<cLine)(g:s.heap.get? a=some o)(S:nF (gM w) o f j t)(P:MO prog w s.heap f)(l:IsTupleKey (intKind prog w) s.heap d b)
  (m:(∃(i:Nat)(c:Addr),f[i]? =some (tupleKeyHash (intKind prog w) d, .ref c)/\IsTupleKey (intKind prog w) s.heap d c)->∀r:Option Nat,r.isSome=true->Q r s)
  (n:(∀(i:Nat)(e:Int×Value),f[i]? =some e->∀c,e.2= .ref c->¬IsTupleKey (intKind prog w) s.heap d c)->Q none s):
  wpAny (model prog w) A (setFind a (.ref b) (tupleKeyHash (intKind prog w) d)) Q E s:=by
 unfold setFind setFindIn;refine ir (aek g S.dat S.fits ?_);dsimp only;rw[vg];simp only[gW,PP];refine ir (qJ k g S P l (λh r p=>?_) λh q _ _=>?_)
 ·exact mo (m h r (p rfl))
 ·exact mo (n h)
theorem D8(hu:A.units<cLine)(n:s.heap.get? a=some o)(S:nF (gM w) o d ep t)(P:MO prog w s.heap d)(N:IsTupleKey (intKind prog w) s.heap g b)(room:d.size<=305)
  (hy:(∃(i:Nat)(c:Addr),d[i]? =some (tupleKeyHash (intKind prog w) g, .ref c)/\IsTupleKey (intKind prog w) s.heap g c)->Q false s)
  (O:(∀(i:Nat)(e:Int×Value),d[i]? =some e->∀c,e.2= .ref c->¬IsTupleKey (intKind prog w) s.heap g c)->∀C R U Ck t',Heap.SameBut a s.heap C->C.get? a=some R->nF (gM w) R U Ck t'->U.toList.Perm (d.toList++ [(tupleKeyHash (intKind prog w) g, .ref b)])->Q true {s with heap:=C}):
  wpAny (model prog w) A (setAddHashed a (.ref b) (tupleKeyHash (intKind prog w) g)) Q E s:=by
 have y:=S.dat;have X:=S.fits;have T:=S.tok;have sz:t.place.size=d.size:=by rw[T.size];simp
 unfold setAddHashed setAddHashedIn;refine M2 (ir (aek n y X ?_));dsimp only;rw[vg];simp only[gW,PP];refine ir (qJ hu n S P N (λh r hr=>?_) λh k F R5=>?_)
 ·exact mo (hy h)
 ·dsimp only
  refine ir (aek n y X ?_);dsimp only;obtain⟨p1,p2,l⟩:=TOk.put T F R5 (by rw[sz];exact Lp T.few S.few)
  rw[p1]
  have e:(SetTable.insertAt d (below t.place (b7 t.mask (tupleKeyHash (intKind prog w) g) k)) (tupleKeyHash (intKind prog w) g,Value.ref b)).toList.map (·.1)=(d.toList.map (·.1)).take (below t.place (b7 t.mask (tupleKeyHash (intKind prog w) g) k))++tupleKeyHash (intKind prog w) g::(d.toList.map (·.1)).drop (below t.place (b7 t.mask (tupleKeyHash (intKind prog w) g) k)):=by
   rw[afF];simp
  rw[<-e] at l;have G:(t.put (b7 t.mask (tupleKeyHash (intKind prog w) g) k)).1.plain=true:=S.pl;have ld:(t.put (b7 t.mask (tupleKeyHash (intKind prog w) g) k)).1.led= !gM w:=S.ld;have mk:(t.put (b7 t.mask (tupleKeyHash (intKind prog w) g) k)).1.mask=t.mask:=rfl;generalize hx:((tupleKeyHash (intKind prog w) g,Value.ref b):Int×Value)=x at*;generalize hp:below t.place (b7 t.mask (tupleKeyHash (intKind prog w) g) k)=p at*;generalize (t.put (b7 t.mask (tupleKeyHash (intKind prog w) g) k)).1=m at*;rw[tz G];refine ir (Ar N ?_);simp only[aem,Bool.not_false,Bool.true_and];have q:(SetTable.insertAt d p x).size=d.size+1:=SetTable.iE ..;have H:=afX d p x;rw[Array.toList_push] at H;refine ir (wpAny_storeSet_of n y ?_ (by rw[q];refine fits_of_scanBound ?_;show d.size+1<4096;omega))
  have z:=vU n y (SetTable.insertAt d p x) m;have u:=Heap.SameBut.update s.heap a (Obj.putSet (SetTable.insertAt d p x) m)
  have I:m.fits (SetTable.insertAt d p x).size=true:=by
   have:=TOk.fits l
   rw[aP,pU] at this;exact this
  by_cases j:m.tooFull=true
  ·rw[tz j]
   refine af λG0 k=>?_;obtain⟨B,f,Y,_,pf,Z,T2,J,l2,f2,L⟩:=Jv l j (by rw[q,mk];have:=S.few;omega) (by rw[q];omega)
   refine k ?_;rw[q] at Y f2 L;refine ir ?_;unfold setRelay;refine ir (aek z rfl I ?_);dsimp only;have big:512<=sizeLine:=by decide
   rw[AC (by omega),Y]
   have v:(f.filterMap ((SetTable.insertAt d p x)[·]?)).size=d.size+1:=by rw[Z,q]
   refine ir (aeG (a:=(f.filterMap ((SetTable.insertAt d p x)[·]?),B)) ?_ ?_)
   ·show(if ((f.filterMap ((SetTable.insertAt d p x)[·]?)).size !=(SetTable.insertAt d p x).size)=true then _ else pure (f.filterMap ((SetTable.insertAt d p x)[·]?),B))=_
    rw[AC (by rw[Z];simp)]
   ·dsimp only
    refine wpAny_storeSet_of z rfl ?_ (by rw[v];refine fits_of_scanBound ?_;show d.size+1<4096;omega)
    have yw:=vU z rfl (f.filterMap ((SetTable.insertAt d p x)[·]?)) B;exact mo (O h _ _ _ _ B (u.trans (Heap.SameBut.update _ a _)) yw ⟨S.ex,rfl,T2,by rw[J];exact G,by rw[l2];exact ld,by rw[v];exact f2⟩ (pf.trans H))
  ·rw[AC j]
   refine mo (O h _ _ _ _ m u z ⟨S.ex,rfl,l,G,ld,?_⟩ H);have M:m.tooFull=false:=by simpa using j
   unfold SetTable.tooFull SetTable.fill at M;rw[l.dum,l.size] at M;simp at M;omega
variable {a b:Addr} {o:Obj} {es:Array (Int×Value)} {ep:Nat} {t:SetTable} {ks:List Int}
open Classical in
noncomputable def oO(prog:Program)(w:World)(h:Heap)(es:Array (Int×Value))(ks:List Int):Bool:=decide (∃(i:Nat)(c:Addr),es[i]? =some (tupleKeyHash (intKind prog w) ks, .ref c)/\IsTupleKey (intKind prog w) h ks c)
theorem N3(h:∀(i:Nat)(e:Int×Value),es[i]? =some e->∀c,e.2= .ref c->¬IsTupleKey (intKind prog w) s.heap ks c):oO prog w s.heap es ks=false:=by
 classical
 unfold oO;exact Gc λ⟨i,c,d,f⟩=>h i _ d c rfl f
theorem LB(h:∃(i:Nat)(c:Addr),es[i]? =some (tupleKeyHash (intKind prog w) ks, .ref c)/\IsTupleKey (intKind prog w) s.heap ks c):oO prog w s.heap es ks=true:=by
 classical
 unfold oO;exact KM h
theorem t5(k:A.units+64<cLine)(d:s.heap.get? a=some o)(S:nF (gM w) o es ep t)(P:MO prog w s.heap es)(e:IsTupleKey (intKind prog w) s.heap ks b)
  (h:∀f,Q (oO prog w s.heap es ks) {s with toks:=f}):wpAny (model prog w) A (contains (.ref a) (.ref b)) Q E s:=by
 have c:s.TypeIs (.ref a) "set":=⟨o,d,S.ex.1⟩;unfold contains
 try with_reducible refine M2 ?_
 refine ir (wpAny_specialOf c F.slot_set_contains.lookup ?_);show wpAny _ _ (if (some (Value.builtin "set.__contains__")==some Value.none)=true then _ else _) _ E s;rw[AC (by rw[beq_builtin_none];exact cQ)]
 refine ir (wpAny_callSpecialUnlessNone?_slot (name:=Str.ofString "__contains__") c F.slot_set_contains
  (aeO F.slot_set_contains c entry_set_contains ?_ (F.args_set_contains_2 _ _)))
 unfold Builtin.«frozenset.__contains__» Builtin.Frozenset.oneOther;simp only[List.isEmpty_nil,bind_assoc];unfold Builtin.Frozenset.addrOf Builtin.Frozenset.withSetAsKey setContains;refine ir (mo ?_)
 try dsimp only
 refine ir (mo ?_)
 try dsimp only
 refine ir (aey ?_);refine M2 ?_;refine ir (wpAny_pyHash_tuple ?_ e ?_)
 ·show A.units+1<cLine;omega
 refine ir (Aq (s:={s with toks:=s.toks+(ks.length+1)}) ?_ d S P e (λg r i=>?_) λj=>?_)
 ·show A.units+1<cLine;omega
 ·refine mo ?_
  show wpAny _ _ (ret (Value.bool r.isSome)) _ _ _;rw[i]
  have:=h (s.toks+(ks.length+1))
  rw[LB g] at this;exact mo ⟨_,rfl,On this⟩
 ·refine mo ?_
  have:=h (s.toks+(ks.length+1))
  rw[N3 j] at this;exact mo ⟨_,rfl,On this⟩
end
end PySem
set_option maxHeartbeats 4000000
namespace L2
open PySem PySem.Spec PyProof.Rows
inductive FV where
 |int (i:Int) |bl (b:Bool)
inductive XD where
 |tJ (b:Bool) (ps:List (Int×Int)) |tE (ks:List (Int×Int)) (vs:List FV)
inductive D where
 |bu|bl (b:Bool) |int (i:Int) |str (x:Str) |lst (l:List D) |tup (l:List D) |kD (ns:List Int) |rng (lo hi:Int) |obj (a:Addr) |dN (w:List (List Nat)) |set (b:Bool) (l:List Int) |x (k:XD) |err (C:Addr) (ks:List Str) (l:List D)
structure DC where
 K:PySem.W.Frag
 C:Addr
def aq(n:Nat):D:= .int n
def au(r:List Nat):D:= .lst (r.map aq)
def aO(w:List (List Nat)):D:= .lst (w.map au)
def Yl(a:Array (Int×Value))(b:List Int):Prop:=(∀e∈a.toList,∃k t,e=(hashInt k,Value.int k t))/\b.Nodup/\∃c,IntsAre (a.toList.map (·.2)) c/\c.Perm b
def TJ(b:Bool)(a:Addr)(d:List Int)(h:Heap):Prop:=∃o c e t,h.get? a=some o/\nF b o c e t/\Yl c d
def cO(p:Int×Int):Int:=reduceHash (Builtin.Tuple.tupleHashOf [hashInt p.1,hashInt p.2])
inductive iT (H:Hp):List (Int×Addr)->List (Int×Int)->Prop
 |nil:iT H [] []
 |cons {a:Addr} {p:Int×Int} {es:List (Int×Addr)} {ps:List (Int×Int)}:H a=some (.tup [.int p.1, .int p.2])->iT H es ps->iT H ((cO p,a)::es) (p::ps)
theorem iT.mono{H a:Hp}(s:aU H a):∀{b:List (Int×Addr)}{c:List (Int×Int)},iT H b c->iT a b c
 |_,_, .nil=> .nil
 |_,_, .cons h t=> .cons (s _ _ h) (t.mono s)
def fM(b:Bool)(a:Addr)(d:List (Int×Addr))(h:Heap):Prop:=∃o c f t,h.get? a=some o/\nF b o c f t/\c.toList.Perm (d.map λe=>(e.1,Value.ref e.2))
def QG:FV->Value->Prop
 | .int i,v=>∃t,v= .int i t
 | .bl b,v=>v= .bool b
inductive K3:List DictEntry->List (Int×Addr)->List FV->Prop
 |nil:K3 [] [] []
 |cons {e:DictEntry} {l:List DictEntry} {h:Int} {a:Addr} {v:FV} {es:List (Int×Addr)} {vs:List FV}:e.hash=h->e.key= .ref a->QG v e.val->K3 l es vs->K3 (e::l) ((h,a)::es) (v::vs)
def ib(a:Addr)(c:List (Int×Addr))(d:List FV)(h:Heap):Prop:=(a==sysModules)=false/\∃o b e,h.get? a=some o/\o.ExactDict/\o.data= .dict b e/\K3 b.toList c d
def K7(H:Hp)(a:Addr)(d:Heap->Prop):XD->Prop
 | .tJ b e=>e.Nodup/\∃c,d=fM b a c/\iT H c e
 | .tE ks f=>ks.Nodup/\∃c,d=ib a c f/\iT H c ks
theorem K7.mono{H c:Hp}(s:aU H c){d:Heap->Prop}:∀{k:XD},K7 H a d k->K7 c a d k
 | .tJ _ _,⟨n,b,e,p⟩=>⟨n,b,e,p.mono s⟩
 | .tE _ _,⟨n,b,e,p⟩=>⟨n,b,e,p.mono s⟩
def Ha(H:Hp)(d:Option Addr)(a:List Str)(b:List V):Prop:=(d=none/\a= []/\b= [])\/∃c,d=some c/\H c=some (zR c (a.zip b))/\a.length=b.length
theorem Ha.mono{H d:Hp}(s:aU H d)(h:Ha H e f g):Ha d e f g:=h.imp id λ⟨i,a,b,c⟩=>⟨i,a,s _ _ b,c⟩
mutual
inductive Dv (Z:DC) (H:Hp):V->D->Prop
 |bu:Dv Z H .bu .bu
 |bl (b:Bool):Dv Z H (.bl b) (.bl b)
 |int (i:Int):Dv Z H (.int i) (.int i)
 |str (x:Str) (h:PyData.strOk x=true):Dv Z H (.str x) (.str x)
 |lst {a:Addr} {xs:List V} {ds:List D}:H a=some (.lst xs)->DvAll Z H xs ds->Dv Z H (.ref a) (.lst ds)
 |tup {a:Addr} {xs:List V} {ds:List D}:H a=some (.tup xs)->DvAll Z H xs ds->Dv Z H (.ref a) (.tup ds)
 |obj (a:Addr):Dv Z H (.ref a) (.obj a)
 |rng {a:Addr} {lo hi:Int}:H a=some (.rng lo hi)->Dv Z H (.ref a) (.rng lo hi)
 |kD {a:Addr} {ns:List Int}:b0 Z.K H a (ns.map V.int)->ns.length<=63->Dv Z H (.ref a) (.kD ns)
 |dN {p dx R:Addr} {w:List (List Nat)}:H p=some (.ins Z.C dx [("rows", .ref R)])->Dv Z H (.ref R) (aO w)->Wb.Good w->1<=w.length->w.length<=14->Dv Z H (.ref p) (.dN w)
 |set {a:Addr} {b:Bool} {ns:List Int}:H a=some (.ext (TJ b a ns))->Dv Z H (.ref a) (.set b ns)
 |x {a:Addr} {φ:Heap->Prop} {k:XD}:H a=some (.ext φ)->K7 H a φ k->Dv Z H (.ref a) (.x k)
 |err {a C:Addr} {od:Option Addr} {ks:List Str} {xs:List V} {ds:List D}:H a=some (kG C a od)->Ha H od ks xs->DvAll Z H xs ds->Dv Z H (.ref a) (.err C ks ds)
inductive DvAll (Z:DC) (H:Hp):List V->List D->Prop
 |nil:DvAll Z H [] []
 |cons {v:V} {vs:List V} {d:D} {ds:List D}:Dv Z H v d->DvAll Z H vs ds->DvAll Z H (v::vs) (d::ds)
end
theorem b0.mono{K:PySem.W.Frag}{H b:Hp}(s:aU H b)(h:b0 K H a c):b0 K b a c:=by
 rcases h with (h| ⟨o,h⟩) |h
 ·exact .inl (.inl (s _ _ h))
 ·exact .inl (.inr ⟨o,s _ _ h⟩)
 ·exact .inr h
section
variable {Z:DC} {H H' G G':Hp}
theorem Dv.ofInt{v:V}{i:Int}(h:Dv Z H v (.int i)):v= .int i:=by cases h;rfl
theorem Dv.A8(h:Dv Z H v (.bl b)):v= .bl b:=by cases h;rfl
theorem Dv.jF(h:Dv Z H v (.lst b)):∃a c,v= .ref a/\H a=some (.lst c)/\DvAll Z H c b:=by cases h with|lst h e=>exact⟨_,_,rfl,h,e⟩
theorem Dv.oS{v:V}{ds:List D}(h:Dv Z H v (.tup ds)):∃a xs,v= .ref a/\H a=some (.tup xs)/\DvAll Z H xs ds:=by cases h with|tup h e=>exact⟨_,_,rfl,h,e⟩
theorem Dv.O0{v:V}{ns:List Int}(h:Dv Z H v (.kD ns)):∃a,v= .ref a/\b0 Z.K H a (ns.map V.int)/\ns.length<=63:=by cases h with|kD h z=>exact⟨_,rfl,h,z⟩
theorem DvAll.OZ(h:DvAll Z H a []):a= []:=by cases h;rfl
theorem DvAll.Dr(h:DvAll Z H c (d::e)):∃v f,c=v::f/\Dv Z H v d/\DvAll Z H f e:=by cases h with|cons a b=>exact⟨_,_,rfl,a,b⟩
theorem DvAll.ofOne(h:DvAll Z H c [d]):∃v,c= [v]/\Dv Z H v d:=by
 obtain⟨v,e,rfl,a,b⟩:=h.Dr;rw[b.OZ];exact⟨v,rfl,a⟩
theorem DvAll.Ds(h:DvAll Z H f [d,e]):∃v u,f= [v,u]/\Dv Z H v d/\Dv Z H u e:=by
 obtain⟨v,g,rfl,a,b⟩:=h.Dr;obtain⟨u,rfl,c⟩:=b.ofOne;exact⟨v,u,rfl,a,c⟩
theorem Dv.mono(s:aU H H'){v:V}{d:D}(h:Dv Z H v d):Dv Z H' v d:=
 Dv.rec (motive_1:=λv d _=>Dv Z H' v d) (motive_2:=λc e _=>DvAll Z H' c e) .bu .bl .int .str (λh _ a=> .lst (s _ _ h) a) (λh _ a=> .tup (s _ _ h) a) .obj (λh=> .rng (s _ _ h)) (λh z=> .kD (h.mono s) z) (λh _ g a b r=> .dN (s _ _ h) r g a b) (λh=> .set (s _ _ h)) (λh k=> .x (s _ _ h) (k.mono s)) (λh k _ a=> .err (s _ _ h) (k.mono s) a) .nil (λ_ _ a b=> .cons a b) h
theorem DvAll.ind{p:List V->List D->Prop}(n:p [] [])(c:∀{v:V}{e:List V}{d:D}{f:List D},Dv Z H v d->DvAll Z H e f->p e f->p (v::e) (d::f)){f:List D}(h:DvAll Z H e f):p e f:=
 DvAll.rec (motive_1:=λ_ _ _=>True) (motive_2:=λe f _=>p e f) trivial (λ_=>trivial) (λ_=>trivial) (λ_ _=>trivial) (λ_ _ _=>trivial) (λ_ _ _=>trivial) (λ_=>trivial) (λ_=>trivial) (λ_ _=>trivial) (λ_ _ _ _ _ _=>trivial) (λ_=>trivial) (λ_ _=>trivial) (λ_ _ _ _=>trivial) n (λa b _ q=>c a b q) h
theorem DvAll.mono(s:aU H H'){d:List D}(h:DvAll Z H c d):DvAll Z H' c d:=h.ind .nil λa _ b=> .cons (a.mono s) b
theorem DvAll.length{b:List D}(h:DvAll Z H a b):a.length=b.length:=h.ind (p:=λa b=>a.length=b.length) rfl λ_ _ e=>KB (·+1) e
theorem DvAll.get{i:Nat}{d:D}(h:DvAll Z H b c)(e:c[i]? =some d):∃v,b[i]? =some v/\Dv Z H v d:=by
 revert i
 refine h.ind (p:=λb c=>∀{i:Nat},c[i]? =some d->∃v,b[i]? =some v/\Dv Z H v d) (λe=>by cases e) λa _ f i e=>?_
 cases i with
 |zero=>cases e;exact⟨_,rfl,a⟩
 |succ i=>exact f e
theorem DvAll.AO{b:List V}{c:List D}{i:Nat}{v:V}(h:DvAll Z H b c)(e:b[i]? =some v):∃d,c[i]? =some d/\Dv Z H v d:=by
 revert i
 refine h.ind (p:=λb c=>∀{i:Nat},b[i]? =some v->∃d,c[i]? =some d/\Dv Z H v d) (λe=>by cases e) λa _ f i e=>?_
 cases i with
 |zero=>cases e;exact⟨_,rfl,a⟩
 |succ i=>exact f e
theorem DvAll.append(h:DvAll Z H c d)(k:DvAll Z H e f):DvAll Z H (c++e) (d++f):=h.ind (p:=λc d=>DvAll Z H (c++e) (d++f)) k λa _ b=> .cons a b
theorem DvAll.take:∀{b:List V}{c:List D}(n:Nat),DvAll Z H b c->DvAll Z H (b.take n) (c.take n)
 |_,_,0,_=>DvAll.nil
 |_,_,n+1, .nil=>DvAll.nil
 |_,_,n+1, .cons a as=>DvAll.cons a (as.take n)
theorem DvAll.drop:∀{b:List V}{c:List D}(n:Nat),DvAll Z H b c->DvAll Z H (b.drop n) (c.drop n)
 |_,_,0,h=>h
 |_,_,n+1, .nil=>by simpa using DvAll.nil
 |_,_,n+1, .cons a as=>by simpa using as.drop n
theorem DvAll.set{v:V}{d:D}(h:Dv Z H v d):∀{b:List V}{c:List D}(n:Nat),DvAll Z H b c->DvAll Z H (b.set n v) (c.set n d)
 |_,_,_, .nil=> .nil
 |_,_,0, .cons a as=> .cons h as
 |_,_,n+1, .cons a as=> .cons a (DvAll.set h n as)
theorem DvAll.ints:∀(a:List Int),DvAll Z H (a.map V.int) (a.map D.int)
 | []=> .nil
 |n::a=> .cons (.int n) (DvAll.ints a)
theorem DvAll.snoc{e:List D}(a:DvAll Z H c e)(b:Dv Z H v d):DvAll Z H (c++ [v]) (e++ [d]):=a.append (.cons b .nil)
structure Ext (G H G' H':Hp):Prop where
 gg:aU G G'
 sub:aU G' H'
 hh:aU H H'
 off:∀b,H b≠none->G b=none->G' b=none
theorem Ext.refl(s:aU G H):Ext G H G H:=⟨.refl _,s, .refl _,λ_ _ h=>h⟩
theorem Ext.trans{c d f i:Hp}(a:Ext G H c d)(b:Ext c d f i):Ext G H f i:=
 ⟨a.gg.trans b.gg,b.sub,a.hh.trans b.hh,λx h g=>b.off x (λz=>by
  cases e:H x with
  |none=>exact h e
  |some o=>rw[a.hh x o e] at z;cases z) (a.off x h g)⟩
theorem Ext.new{o:HO}(s:aU G H)(h:H p=none):Ext G H (upd G p o) (upd H p o):=by
 have a:G p=none:=s.free h;refine⟨aW a o,λb u e=>?_,aW h o,λb c a=>?_⟩
 ·by_cases z:b=p
  ·subst z;rw[av] at e ⊢;exact e
  ·rw[ax z] at e ⊢;exact s b u e
 ·have:b≠p:=λz=>c (by rw[z];exact h)
  rw[ax this];exact a
end
abbrev DN:=List (Option D)
structure dJ (Z:DC) (G:Hp) (σ:St) (ρ:DN):Prop where
 len:ρ.length=σ.length
 at_:∀(i:Nat)(d:D),ρ[i]? =some (some d)->∃v,σ[i]? =some (some v)/\Dv Z G v d
section
variable {Z:DC} {G G' H H':Hp} {σ:St} {ρ:DN}
theorem dJ.mono(e:dJ Z G σ ρ)(s:aU G G'):dJ Z G' σ ρ:=⟨e.len,λi d h=>let ⟨v,a,b⟩:=e.at_ i d h;⟨v,a,b.mono s⟩⟩
theorem dJ.set{i:Nat}{v:V}{d:D}(e:dJ Z G σ ρ)(h:Dv Z G v d):dJ Z G (σ.set i (some v)) (ρ.set i (some d)):=by
 refine⟨by rw[jB,jB];exact e.len,λj c a=>?_⟩
 by_cases z:i=j
 ·subst z
  by_cases b:i<ρ.length
  ·rw[iR b] at a
   cases Do a;exact⟨v,by rw[iR (e.len▸b)],h⟩
  ·rw[zI (gj b)] at a
   rw[eM (gj b)] at a;cases a
 ·rw[iS z] at a ⊢
  exact e.at_ j c a
end
abbrev aX:=DN->(D->Prop)->Prop
abbrev dG:=DN->(Bool->Prop)->Prop
abbrev gk:=DN->(List D->Prop)->Prop
abbrev gq:=D->D->(D->Prop)->Prop
abbrev dZ:=D->DN->(DN->Prop)->Prop
abbrev hZ:=DN->(List D->Prop)->Prop
def fb(Z:DC)(t:aX):TE:=λe H Q=>∃(G:Hp)(a:DN)(P:D->Prop),aU G H/\dJ Z G e a/\t a P/\∀d,P d->∀v b c,Ext G H b c->Dv Z b v d->Q v c
def liftT(Z:DC)(t:dG):TT:=λd H Q=>∃(G:Hp)(a:DN)(P:Bool->Prop),aU G H/\dJ Z G d a/\t a P/\∀b,P b->∀e c,Ext G H e c->Q b c
def Dh(Z:DC)(t:gk):TA:=λf H Q=>∃(G:Hp)(a:DN)(P:List D->Prop),aU G H/\dJ Z G f a/\t a P/\∀b,P b->∀c d e,Ext G H d e->DvAll Z d c b->Q c e
def bV(Z:DC)(r:gq):R2:=λx y H Q=>∃(G:Hp)(a b:D)(P:D->Prop),aU G H/\Dv Z G x a/\Dv Z G y b/\r a b P/\∀d,P d->∀v c e,Ext G H c e->Dv Z c v d->Q v e
def ja(Z:DC)(r:List D->(D->Prop)->Prop):List V->Hp->VK->Prop:=λe H Q=>∃(G:Hp)(a:List D)(P:D->Prop),aU G H/\DvAll Z G e a/\r a P/\∀d,P d->∀v b c,Ext G H b c->Dv Z b v d->Q v c
abbrev cx:=List D->(D->Prop)->Prop
def aT(Z:DC)(a:cx):Sp:=λb H Q _=>ja Z a b H Q
def DE(Z:DC)(X:Cx)(e:Expr)(t:aX):Prop:=PE X e (fb Z t)
def DT(Z:DC)(X:Cx)(e:Expr)(t:dG):Prop:=PT X e (liftT Z t)
def DA(Z:DC)(X:Cx)(a:List Expr)(t:gk):Prop:=PA X a (Dh Z t)
theorem PE.imp{X:Cx}(h:PE X e t)(f:∀b H Q,c b H Q->t b H Q):PE X e c:=λa s b H Q I q=>h a s b H Q I (f _ _ _ q)
theorem PT.imp{X:Cx}(h:PT X e t)(f:∀b H Q,c b H Q->t b H Q):PT X e c:=λa s b H Q I q=>h a s b H Q I (f _ _ _ q)
theorem PW.imp{X:Cx}(h:PW X e t)(f:∀b H Q,c b H Q->t b H Q):PW X e c:=λd a s b H Q I q=>h d a s b H Q I (f _ _ _ q)
theorem PA.imp{X:Cx}{d:List Expr}(h:PA X d t)(f:∀b H Q,e b H Q->t b H Q):PA X d e:=λc a s b H Q I q=>h c a s b H Q I (f _ _ _ q)
theorem OpR.imp{X:Cx}{f:Value->Value->Sem Value}{r d:R2}(h:OpR X f r)(g:∀x y H Q,d x y H Q->r x y H Q):OpR X f d:=λc s e H x y v u Q I a b q=>h c s e H x y v u Q I a b (g _ _ _ _ q)
theorem CallR.imp{X:Cx}{f:Value}{r d:List V->Hp->VK->Prop}(h:CallR X f r)(g:∀c H Q,d c H Q->r c H Q):CallR X f d:=λb s e H c i Q I a q=>h b s e H c i Q I a (g _ _ _ q)
def Uv(i:Nat):aX:=λa P=>∃d,a[i]? =some (some d)/\P d
def dC(d:D):aX:=λ_ P=>P d
section
variable {Z:DC} {X:Cx}
theorem aa(i:Nat)(f:X.N[i]? =some x:=by rfl)(b:mh X.env.scope x:=by first|exact Or.inl rfl|exact Or.inr (Or.inl rfl) |exact Or.inr (Or.inr rfl))(c:(x==("__debug__":Str))=false:=by decide)
  (g:(x==("__classdict__":Str))=false:=by decide):DE Z X (.Name x a) (Uv i):=by
 refine(DH f b c g).imp λk H Q h=>?_;rfl';obtain⟨G,m,P,s,e,⟨d,c,p⟩,q⟩:=h;ac_rfl;exact let ⟨v,b,dv⟩:=e.at_ i d c;⟨v,b,q d p v G H (.refl s) dv⟩
theorem aw{i j pos}:DE Z X (.Constant (.int i) j pos) (dC (.int i)):=by
 refine Sm.imp λc H Q a=>?_;rfl';obtain⟨G,f,P,s,e,p,q⟩:=a;ac_rfl;exact q _ p _ G H (.refl s) (.int i)
theorem cK{b j pos}:DE Z X (.Constant (.bool b) j pos) (dC (.bl b)):=by
 refine Xr.imp λd H Q a=>?_;rfl';obtain⟨G,g,P,s,e,p,q⟩:=a;ac_rfl;exact q _ p _ G H (.refl s) (.bl b)
theorem ik{j pos}:DE Z X (.Constant .none j pos) (dC .bu):=by
 refine So.imp λc H Q a=>?_;rfl';obtain⟨G,f,P,s,e,p,q⟩:=a;ac_rfl;exact q _ p _ G H (.refl s) .bu
theorem jS{x j pos}(h:PyData.strOk x=true:=by decide+kernel):DE Z X (.Constant (.str x) j pos) (dC (.str x)):=by
 refine tF.imp λc H Q a=>?_;rfl';obtain⟨G,f,P,s,e,p,q⟩:=a;ac_rfl;exact q _ p _ G H (.refl s) (.str x h)
theorem jW(d:Gl X x)(b:∃c,X.mg x=some (.int i c))(f:(x==("__debug__":Str))=false:=by decide):DE Z X (.Name x a) (dC (.int i)):=by
 obtain⟨c,b⟩:=b;exact(Ga d b (v:= .int i) ⟨c,rfl⟩ f).imp λg H Q ⟨G,h,P,s,e,p,q⟩=>q _ p _ G H (.refl s) (.int i)
def Nb(r:gq)(d e:aX):aX:=λc P=>d c λa=>e c λb=>r a b P
variable {a b c:Expr} {ta tb tc:aX} {pos:Pos}
theorem Dg:∀f H Q,fb Z (Nb r ta tb) f H Q->Qr (bV Z r) (fb Z ta) (fb Z tb) f H Q:=by
 intro f H Q k;rfl';obtain⟨G,j,P,s,e,h,q⟩:=k;ac_rfl;refine⟨G,j,_,s,e,h,λa m v n E g dv=>?_⟩;refine⟨n,j,_,g.sub,e.mono g.gg,m,λb o u p F i t=>?_⟩;exact⟨p,a,b,P,i.sub,dv.mono i.gg,t,o,λd w x y z A B=>q d w x y z ((g.trans i).trans A) B⟩
theorem az(e:OpR X (binaryOp d) (bV Z r))(f:DE Z X a ta)(g:DE Z X b tb):DE Z X (.BinOp a d b pos) (Nb r ta tb):=(Pl e f g).imp Dg
theorem Kh(e:OpR X (compareOp d) (bV Z r))(f:DE Z X a ta)(g:DE Z X b tb)(h:behindInMarks d b=false):DE Z X (.Compare a [d] [b] pos) (Nb r ta tb):=(Pe e f g h).imp Dg
def Hv(t:aX):dG:=λe P=>t e λd=>∃k,d= .bl k/\P k
theorem A5:∀d H Q,liftT Z (Hv t) d H Q->JO (fb Z t) d H Q:=by
 intro d H Q f;rfl';obtain⟨G,i,P,s,e,h,q⟩:=f;ac_rfl;refine⟨G,i,_,s,e,h,?_⟩;rintro _ ⟨k,rfl,p⟩ v j l m dv;cases dv.A8;exact⟨k,rfl,q k p j l m⟩
theorem aQ(f:OpR X (compareOp d) (bV Z r))(g:DE Z X a ta)(i:DE Z X b tb)(j:behindInMarks d b=false):DT Z X (.Compare a [d] [b] pos) (Hv (Nb r ta tb)):=
 (PB f g i j).imp λe H Q h=>by
  obtain h:=A5 e H Q h;exact Dg e H _ h
def Ca(r e:gq)(f g tc:aX):aX:=λd P=>f d λx=>g d λy=>r x y λz=>∃k,z= .bl k/\(if k=true then tc d λh=>e y h P else P (.bl false))
theorem yJ:∀f H Q,fb Z (Ca r o ta tb tc) f H Q->D3 (bV Z r) (bV Z o) (fb Z ta) (fb Z tb) (fb Z tc) f H Q:=by
 intro f H Q y;rfl';obtain⟨G,g,P,s,e,h,q⟩:=y;ac_rfl;refine⟨G,g,_,s,e,h,λa A v B X i dv=>?_⟩;refine⟨B,g,_,i.sub,e.mono i.gg,A,λb C u E H2 j p=>?_⟩;refine⟨E,a,b,_,j.sub,dv.mono j.gg,p,C,?_⟩;rintro _ ⟨k,rfl,t⟩ v' w F l I;cases I.A8;refine⟨k,rfl,?_⟩;have x:=(i.trans j).trans l;cases k with
 |false=>exact bS (q _ t _ w F x (.bl false))
 |true=>
  refine dq ⟨w,g,_,l.sub,e.mono x.gg,t,λc J w' L H4 m M=>?_⟩;exact⟨L,b,c,P,m.sub,(p.mono l.gg).mono m.gg,M,J,λd N n O R T U=>q d N n O R ((x.trans m).trans T) U⟩
theorem Lg(g:OpR X (compareOp d) (bV Z r))(h:OpR X (compareOp e) (bV Z f))(i:DE Z X a ta)(j:DE Z X b tb)(k:DE Z X c tc)
  (l:lastMarks [d,e] [b,c]=false:=by with_unfolding_all rfl):DE Z X (.Compare a [d,e] [b,c] pos) (Ca r f ta tb tc):=(L7 g h i j k l).imp yJ
theorem Ln(i:OpR X (compareOp d) (bV Z r))(j:OpR X (compareOp e) (bV Z f))(k:DE Z X a ta)(l:DE Z X b tb)(m:DE Z X c tc)
  (n:lastMarks [d,e] [b,c]=false:=by with_unfolding_all rfl):DT Z X (.Compare a [d,e] [b,c] pos) (Hv (Ca r f ta tb tc)):=
 (Mi i j k l m n).imp λg H Q h=>by
  obtain h:=A5 g H Q h;exact yJ g H _ h
def vW:D->Bool
 | .bu=>false
 | .bl b=>b
 | .int i=>i !=0
 | .str x=>x.length !=0
 | .lst l=>!l.isEmpty
 | .tup l=>!l.isEmpty
 | .kD l=>!l.isEmpty
 | .rng lo d=>decide (lo<d)
 | .obj _=>true
 | .dN _=>true
 | .set _ l=>!l.isEmpty
 | .x _=>true
 | .err _ _ _=>true
def aaR:D->Bool
 | .bl _=>true
 | .int _=>true
 | .lst _=>true
 | .tup _=>true
 | .bu=>true
 |_=>false
def ZQ(t:aX):dG:=λe P=>t e λd=>aaR d=true/\P (vW d)
theorem vJ(h:DvAll Z G d e):d.isEmpty=e.isEmpty:=by cases h<;>rfl
theorem jg(ha:DE Z X a ta)(he:∀whole,isTrue a X.env whole=(do let v <-whole;standAt a.pos;holding [v] (truthy v)):=by intro _;rfl):DT Z X a (ZQ ta):=by
 refine(Mj ha he).imp ?_;intro σ H Q aC;rfl';obtain⟨G,ρ,P,s,e,h,q⟩:=aC;ac_rfl;refine⟨G,ρ,_,s,e,h,?_⟩;rintro d ⟨hd,p⟩ v G1 H1 x1 dv;refine⟨vW d,?_,q _ p G1 H1 x1⟩;cases dv with
 |bu=>rfl
 |bl b=>rfl
 |int i=>rfl
 |lst h a=>exact .inl ⟨_,b0.of (x1.sub _ _ h),by rw[vJ a];rfl⟩
 |tup h a=>exact .inr (.inl ⟨_,fX.of (x1.sub _ _ h),by rw[vJ a];rfl⟩)
 |_=>cases hd
def Zw(t u:dG):dG:=λd P=>t d λc=>if c=true then u d P else P false
def dOr(t u:dG):dG:=λd P=>t d λc=>if c=true then P true else u d P
def ZH(t:dG):dG:=λd P=>t d λc=>P (!c)
variable {tA D2:dG} {rest:List Expr}
def DW(Z:DC)(X:Cx)(e:Expr)(t:dG):Prop:=PW X e (liftT Z t)
theorem DW.dt(h:DW Z X e t):DT Z X e t:=PW.pt h
theorem ye(d:DT Z X a tA):DW Z X (.BoolOp .And [a] pos) tA:=PK d
theorem Ci(d:DT Z X a tA):DW Z X (.BoolOp .Or [a] pos) tA:=SH d
theorem Cg(k:DT Z X a tA)(f:DW Z X (.BoolOp .And (b::rest) pos) D2):DW Z X (.BoolOp .And (a::b::rest) pos) (Zw tA D2):=by
 refine(SG k f).imp ?_;intro t H Q l;rfl';obtain⟨G,g,P,s,e,h,q⟩:=l;ac_rfl;refine⟨G,g,_,s,e,h,λc i j n d=>?_⟩;cases c with
 |true=>exact dq ⟨j,g,P,d.sub,e.mono d.gg,i,λb f o p r=>q b f o p (d.trans r)⟩
 |false=>exact bS (q _ i j n d)
theorem HG(k:DT Z X a tA)(f:DW Z X (.BoolOp .Or (b::rest) pos) D2):DW Z X (.BoolOp .Or (a::b::rest) pos) (dOr tA D2):=by
 refine(Xw k f).imp ?_;intro t H Q l;rfl';obtain⟨G,g,P,s,e,h,q⟩:=l;ac_rfl;refine⟨G,g,_,s,e,h,λc i j n d=>?_⟩;cases c with
 |false=>exact bS ⟨j,g,P,d.sub,e.mono d.gg,i,λb f o p r=>q b f o p (d.trans r)⟩
 |true=>exact dq (q _ i j n d)
theorem qg(d:DT Z X a tA):DT Z X (.UnaryOp .Not a pos) (ZH tA):=by
 refine(SD d).imp ?_;rintro l H Q ⟨G,f,P,s,e,h,q⟩;exact⟨G,f,_,s,e,h,λc g i j k=>q _ g i j k⟩
def VG(e f:aX):aX:=λd P=>e d λx=>∃c,x= .bl c/\if c=true then f d P else P (.bl false)
def ZI(e f:aX):aX:=λd P=>e d λx=>∃c,x= .bl c/\if c=true then P (.bl true) else f d P
def VX(d:aX):aX:=λe P=>d e λx=>∃c,x= .bl c/\P (.bl (!c))
theorem Ki{op}(h:DE Z X a ta):DE Z X (.BoolOp op [a] pos) ta:=Sr h
theorem Kg(k:DE Z X a ta)(f:DE Z X (.BoolOp .And (b::rest) pos) tb):DE Z X (.BoolOp .And (a::b::rest) pos) (VG ta tb):=by
 refine(Si k f).imp ?_;intro u H Q l;rfl';obtain⟨G,g,P,s,e,h,q⟩:=l;ac_rfl;refine⟨G,g,_,s,e,h,?_⟩;rintro _ ⟨c,rfl,i⟩ v j n d dv;cases dv.A8;refine⟨c,rfl,?_⟩;cases c with
 |true=>exact dq ⟨j,g,P,d.sub,e.mono d.gg,i,λb f v o p r t=>q b f v o p (d.trans r) t⟩
 |false=>exact bS (q _ i _ j n d (.bl false))
theorem V3(k:DE Z X a ta)(f:DE Z X (.BoolOp .Or (b::rest) pos) tb):DE Z X (.BoolOp .Or (a::b::rest) pos) (ZI ta tb):=by
 refine(Xt k f).imp ?_;intro u H Q l;rfl';obtain⟨G,g,P,s,e,h,q⟩:=l;ac_rfl;refine⟨G,g,_,s,e,h,?_⟩;rintro _ ⟨c,rfl,i⟩ v j n d dv;cases dv.A8;refine⟨c,rfl,?_⟩;cases c with
 |false=>exact bS ⟨j,g,P,d.sub,e.mono d.gg,i,λb f v o p r t=>q b f v o p (d.trans r) t⟩
 |true=>exact dq (q _ i _ j n d (.bl true))
theorem Q2(d:DE Z X a ta):DE Z X (.UnaryOp .Not a pos) (VX ta):=by
 refine(Sq d).imp ?_;intro n H Q f;rfl';obtain⟨G,i,P,s,e,h,q⟩:=f;ac_rfl;refine⟨G,i,_,s,e,h,?_⟩;rintro _ ⟨c,rfl,j⟩ v k l m dv;cases dv.A8;exact⟨c,rfl,q _ j _ k l m (.bl _)⟩
def qz:gk:=λ_ P=>P []
def VI(e:aX)(t:gk):gk:=λd P=>e d λx=>t d λf=>P (x::f)
variable {es:List Expr} {t:gk} {e:Expr}
theorem ag:DA Z X [] qz:=by
 refine df.imp λg H Q d=>?_;rfl';obtain⟨G,i,P,s,e,p,q⟩:=d;ac_rfl;exact q _ p _ G H (.refl s) .nil
theorem ae(d:DE Z X e ta)(j:DA Z X es t)(k:starEach (e::es) X.env=(false,eval e X.env)::starEach es X.env:=by rfl):DA Z X (e::es) (VI ta t):=by
 refine(bM d j k).imp ?_;intro w H Q l;rfl';obtain⟨G,g,P,s,e,h,q⟩:=l;ac_rfl;refine⟨G,g,_,s,e,h,λa d v n y f dv=>?_⟩;exact⟨n,g,_,f.sub,e.mono f.gg,d,λz o A p r i u=>q _ o _ p r (f.trans i) (.cons (dv.mono i.gg) u)⟩
def ZS(t:gk):aX:=λf P=>t f λd=>d.length<=sizeLine/\P (.tup d)
def ZE(t:gk):aX:=λf P=>t f λd=>d.length<=sizeLine/\P (.lst d)
theorem dP{d}(h:DA Z X es t):DE Z X (.Tuple es d pos) (ZS t):=by
 refine(KH h).imp ?_;intro n H Q i;rfl';obtain⟨G,k,P,s,e,h,q⟩:=i;ac_rfl;refine⟨G,k,_,s,e,h,?_⟩;rintro r ⟨l,m⟩ u v w d f;exact⟨by rw[f.length];exact l,λp g=>q _ m _ _ _ (d.trans (.new d.sub g)) (.tup av (f.mono (aW (d.sub.free g) _)))⟩
theorem bg(h:DA Z X es t):DE Z X (.List es pos) (ZE t):=by
 refine(w6 h).imp ?_;intro n H Q i;rfl';obtain⟨G,k,P,s,e,h,q⟩:=i;ac_rfl;refine⟨G,k,_,s,e,h,?_⟩;rintro r ⟨l,m⟩ u v w d f;exact⟨by rw[f.length];exact l,λp g=>q _ m _ _ _ (d.trans (.new d.sub g)) (.lst av (f.mono (aW (d.sub.free g) _)))⟩
def yb(r:List D->(D->Prop)->Prop)(t:gk):aX:=λd P=>t d λf=>r f P
theorem uF:∀f H Q,fb Z (yb r t) f H Q->Dh Z t f H λg i=>ja Z r g i Q:=by
 intro f H Q k;rfl';obtain⟨G,m,P,s,e,h,q⟩:=k;ac_rfl;exact⟨G,m,_,s,e,h,λn o g p i j u=>⟨p,n,P,j.sub,u,o,λd w v x y z dv=>q d w v x y (j.trans z) dv⟩⟩
theorem Nh(F:FnOk X.prog X.w X.K X.mg X.base bZ k f g i (aT Z d))(m:bW k X.A)(n:Gl X x)(o:X.mg x=some (.ref f))(r:PySem.W.keepIn X.K (.ref f)=true)(u:Binds X.K g i [])
  (v:DA Z X (e::es) t) (y:(x==("__debug__":Str))=false:=by decide) (z:starEach (e::es) X.env=(false,eval e X.env)::starEach es X.env:=by rfl) (B:(backTo pos (starEach es X.env)).any (·.1)=false:=by rfl):
  DE Z X (.Call (.Name x p) (e::es) [] pos) (yb d t):=
 (F9 F m n o r u .nil uU v y z B).imp λC H Q h=>by
  rfl';have h:=uF C H Q h;obtain⟨G,I,P,s,e,h,q⟩:=h;ac_rfl;exact⟨G,I,P,s,e,h,λJ L j M l N O=>by show aT Z d (j++ []) l Q E0;rw[fJ];exact q J L j M l N O⟩
theorem aI{id:String}{x:Str}{p:Pos}{r:List D->(D->Prop)->Prop}(d:CallR X (.builtin id) (ja Z r))(f:Gl X x)(g:X.mg x=none)(h:bootBuiltins x=some (.builtin id))(i:DA Z X (e::es) t)(j:x≠"__name__":=by decide)(k:(x==("__debug__":Str))=false:=by decide)
  (l:starEach (e::es) X.env=(false,eval e X.env)::starEach es X.env:=by rfl) (m:(backTo pos (starEach es X.env)).any (·.1)=false:=by rfl):
  DE Z X (.Call (.Name x p) (e::es) [] pos) (yb r t):=(mE d f g h i j k l m).imp uF
theorem eQ(d:CallR X (.type T) (ja Z r))(f:Gl X x)(g:X.mg x=none)(h:bootBuiltins x=some (.type T))(i:DA Z X (e::es) t)(j:x≠"__name__":=by decide)(k:(x==("__debug__":Str))=false:=by decide)
  (l:starEach (e::es) X.env=(false,eval e X.env)::starEach es X.env:=by rfl) (m:(backTo pos (starEach es X.env)).any (·.1)=false:=by rfl):
  DE Z X (.Call (.Name x p) (e::es) [] pos) (yb r t):=(rG d f g h i j k l m).imp uF
end
end L2
namespace L2
open PySem PySem.Spec PyProof.Rows
section
variable {Z:DC} {X:Cx}
def M5:gq:=λx y P=>match x,y with
 | .int i, .int j=>P (.int (i+j))
 | .lst a, .lst b=>a.length+b.length<=sizeLine/\P (.lst (a++b))
 | .tup a, .tup b=>a≠ []/\a.length+b.length<=sizeLine/\b≠ []/\P (.tup (a++b))
 |_,_=>False
def dI(c:Int->Int->Prop)(g:Int->Int->Int):gq:=λx y P=>match x,y with
 | .int i, .int j=>c i j/\P (.int (g i j))
 |_,_=>False
def VQ(g:Int->Int->Int):gq:=λx y P=>match x,y with
 | .int i, .int j=>P (.int (g i j))
 |_,_=>False
def ZP:gq:=VQ λi j=>i-j
def Uu:gq:=λx y P=>match x,y with
 | .int i, .int j=>J5 i j/\P (.int (i*j))
 | .lst a, .int k=> -(2^63)<=k/\k<2^63/\a.length*k.toNat<=sizeLine/\P (.lst (List.replicate k.toNat a).flatten)
 |_,_=>False
def Zy:gq:=dI TC λi j=>i / j
def ZF:gq:=dI (λ_ j=>0<j) λi j=>i%j
def ZL:gq:=dI TF λi j=>i^j.toNat
theorem wY(h:OpR X f (rI c λi j=> .int (g i j))):OpR X f (bV Z (dI c g)):=by
 refine h.imp ?_;intro x y H Q e;rfl';obtain⟨G,a,b,P,s,l,m,d,q⟩:=e;ac_rfl;unfold dI at d
 split at d
 ·exact⟨_,_,l.ofInt,m.ofInt,d.1,q _ d.2 _ G H (.refl s) (.int _)⟩
 ·exact d.elim
theorem RT(h:OpR X f (Ak λi j=> .int (g i j))):OpR X f (bV Z (VQ g)):=by
 refine h.imp ?_;intro x y H Q d;rfl';obtain⟨G,a,b,P,s,k,l,c,q⟩:=d;ac_rfl;unfold VQ at c
 split at c
 ·exact⟨_,_,k.ofInt,l.ofInt,q _ c _ G H (.refl s) (.int _)⟩
 ·exact c.elim
theorem w4:OpR X (binaryOp .Sub) (bV Z ZP):=RT Sh
theorem lg:OpR X (binaryOp .FloorDiv) (bV Z Zy):=wY O8
theorem cZ:OpR X (binaryOp .Mod) (bV Z ZF):=wY Sb
theorem Dq:OpR X (binaryOp .Pow) (bV Z ZL):=wY Sf
theorem ba(e:X.K=Z.K:=by rfl):OpR X (binaryOp .Add) (bV Z M5):=by
 refine(R8.or (KG.or (O7))).imp ?_;rintro x y H Q ⟨G,a,b,P,s,h,i,c,q⟩;unfold M5 at c
 split at c
 ·exact .inl ⟨_,_,h.ofInt,i.ofInt,q _ c _ G H (.refl s) (.int _)⟩
 ·obtain⟨o,r,rfl,j,d⟩:=h.jF
  obtain⟨t,u,rfl,k,f⟩:=i.jF;obtain⟨l,m⟩:=c;refine .inr (.inl ⟨_,_,_,_,rfl,rfl,s _ _ j,s _ _ k,by rw[d.length,f.length];exact l,λp g=>?_⟩)
  exact q _ m _ _ _ (.new s g) (.lst av ((d.append f).mono (aW (s.free g) _)))
 ·obtain⟨o,r,rfl,j,d⟩:=h.oS
  obtain⟨t,u,rfl,k,f⟩:=i.oS;obtain⟨v,l,n,m⟩:=c;refine .inr (.inr ⟨_,_,_,_,rfl,rfl,fX.of (s _ _ j),fX.of (s _ _ k),?_,by rw[d.length,f.length];exact l,?_⟩)
  ·rintro rfl;cases d;exact v rfl
  ·refine⟨?_,λ_ p g=>q _ m _ _ _ (.new s g) (.tup av ((d.append f).mono (aW (s.free g) _)))⟩
   rintro rfl;cases f;exact(n rfl).elim
 ·exact c.elim
theorem DvAll.rep(h:DvAll Z G a b):∀k:Nat,DvAll Z G (List.replicate k a).flatten (List.replicate k b).flatten
 |0=> .nil
 |k+1=>by rw[zK,zK,jA,jA];exact h.append (DvAll.rep h k)
theorem gG:OpR X (binaryOp .Mult) (bV Z Uu):=by
 refine(Sd.or Sg).imp ?_;intro x y H Q h;rfl';obtain⟨G,a,b,P,s,d,e,c,q⟩:=h;ac_rfl;unfold Uu at c
 split at c
 ·exact .inl ⟨_,_,d.ofInt,e.ofInt,c.1,q _ c.2 _ G H (.refl s) (.int _)⟩
 ·obtain⟨r,t,rfl,j,f⟩:=d.jF
  obtain⟨k,l,m,n⟩:=c;refine .inr ⟨_,_,_,rfl,e.ofInt,s _ _ j,k,l,by rw[f.length];exact m,λp g=>?_⟩
  exact q _ n _ _ _ (.new s g) (.lst av ((f.rep _).mono (aW (s.free g) _)))
 ·exact c.elim
mutual
def D.py:D->Option PyData
 | .bu=>some .none
 | .bl b=>some (.bool b)
 | .int i=>some (.int i)
 | .str x=>some (.str x)
 | .lst l=>(iI l).map PyData.list
 | .tup l=>(iI l).map PyData.tuple
 | .kD _=>none
 | .rng _ _=>none
 | .obj _=>none
 | .dN _=>none
 | .set _ _=>none
 | .x _=>none
 | .err _ _ _=>none
def iI:List D->Option (List PyData)
 | []=>some []
 |d::ds=>(D.py d).bind λa=>(iI ds).map λas=>a::as
end
theorem Dv.dp{K:PySem.W.Frag}{G:Hp}{v:V}{d:D}(h:Dv Z G v d):∀{e:PyData},d.py=some e->Dp K G v e:=by
 refine Dv.rec (motive_1:=λv d _=>∀{e:PyData},d.py=some e->Dp K G v e) (motive_2:=λn f _=>∀{g:List PyData},iI f=some g->jC K G n g) ?_ ?_ ?_ ?_ ?_ ?_ ?_ ?_ ?_ ?_ ?_ ?_ ?_ ?_ ?_ h
 ·intro e h;rw[D.py] at h;cases h;exact .bu
 ·intro b e h;rw[D.py] at h;cases h;exact .bl b
 ·intro i e h;rw[D.py] at h;cases h;exact .int i
 ·intro x k e h;rw[D.py] at h;cases h;exact .str x k
 ·intro a o f q _ j e h
  rw[D.py] at h;cases c:iI f with
  |none=>rw[c] at h;cases h
  |some l=>rw[c] at h;cases h;exact .lst (b0.of q) (j c)
 ·intro a o f q _ j e h
  rw[D.py] at h;cases c:iI f with
  |none=>rw[c] at h;cases h
  |some l=>rw[c] at h;cases h;exact .tup (fX.of q) (j c)
 ·intro a e h;simp[D.py] at h
 ·intro a lo u _ e h;simp[D.py] at h
 ·intro a r _ _ e h;simp[D.py] at h
 ·intro p z R w _ _ _ _ _ _ e h;simp[D.py] at h
 ·intro a b r _ e h;simp[D.py] at h
 ·intro a A k _ _ e h;simp[D.py] at h
 ·intro a C B E o f _ _ _ _ e h;simp[D.py] at h
 ·intro g h;rw[iI] at h;cases h;exact .nil
 ·intro v n d f _ _ s t g h
  rw[iI] at h;cases c:d.py with
  |none=>rw[c] at h;cases h
  |some x=>
   rw[c] at h;cases m:iI f with
   |none=>rw[m] at h;cases h
   |some y=>rw[m] at h;cases h;exact .cons (s c) (t m)
theorem fX.mono{K:PySem.W.Frag}{H b:Hp}(s:aU H b)(h:fX K H a c):fX K b a c:=by
 rcases h with (h| ⟨o,h⟩) |h
 ·exact .inl (.inl (s _ _ h))
 ·exact .inl (.inr ⟨o,s _ _ h⟩)
 ·exact .inr h
theorem Dp.mono{K:PySem.W.Frag}{G H:Hp}(s:aU G H){v:V}{d:PyData}(h:Dp K G v d):Dp K H v d:=
 Dp.rec (motive_1:=λv d _=>Dp K H v d) (motive_2:=λc e _=>jC K H c e) .bu .bl .int .str (λh _ a=> .lst (h.mono s) a) (λh _ a=> .tup (h.mono s) a) .nil (λ_ _ a b=> .cons a b) h
def Ur(neg:Bool):gq:=λx y P=>∃a b,x.py=some a/\y.py=some b/\a.depth<=64/\P (.bl (if neg then !PyData.eqv a b else PyData.eqv a b))
abbrev Ht:gq:=Ur false
abbrev uk:gq:=Ur true
theorem ku(e:X.A.units+64<cLine):OpR X (compareOp .Eq) (bV Z Ht):=by
 refine(R9 e).imp ?_;intro x y H Q f;rfl';obtain⟨G,a,b,P,s,h,i,⟨c,d,j,k,l,m⟩,q⟩:=f;ac_rfl;exact⟨c,d,(h.dp j).mono s,(i.dp k).mono s,l,q _ m _ G H (.refl s) (.bl _)⟩
theorem lL(e:X.A.units+64<cLine):OpR X (compareOp .NotEq) (bV Z uk):=by
 refine(Se e).imp ?_;intro x y H Q f;rfl';obtain⟨G,a,b,P,s,h,i,⟨c,d,j,k,l,m⟩,q⟩:=f;ac_rfl;exact⟨c,d,(h.dp j).mono s,(i.dp k).mono s,l,q _ m _ G H (.refl s) (.bl _)⟩
theorem EN(h:P (.bl (decide (i=j)))):Ht (.int i) (.int j) P:=⟨.int i, .int j,rfl,rfl,by simp[PyData.depth],by
 have:PyData.eqv (.int i) (.int j)=decide (i=j):=by
  rw[PyData.eqv]
  by_cases z:i=j<;>simp[z]
 simpa [this] using h⟩
theorem ER(h:P (.bl (!decide (i=j)))):uk (.int i) (.int j) P:=⟨.int i, .int j,rfl,rfl,by simp[PyData.depth],by
 have:PyData.eqv (.int i) (.int j)=decide (i=j):=by
  rw[PyData.eqv]
  by_cases z:i=j<;>simp[z]
 simpa [this] using h⟩
def Az(p:Int->Int->Bool):gq:=λx y P=>match x,y with
 | .int i, .int j=>P (.bl (p i j))
 |_,_=>False
theorem tu(h:OpR X f (Ak λi j=> .bl (p i j))):OpR X f (bV Z (Az p)):=by
 refine h.imp ?_;intro x y H Q d;rfl';obtain⟨G,a,b,P,s,g,k,c,q⟩:=d;ac_rfl;unfold Az at c
 split at c
 ·exact⟨_,_,g.ofInt,k.ofInt,q _ c _ G H (.refl s) (.bl _)⟩
 ·exact c.elim
end
end L2
namespace L2
open PySem PySem.Spec PyProof.Rows
section
variable {Z:DC} {X:Cx}
abbrev dLt:gq:=Az λi j=>decide (i<j)
abbrev dLe:gq:=Az λi j=>decide (i<=j)
abbrev dGt:gq:=Az λi j=>decide (j<i)
abbrev dGe:gq:=Az λi j=>decide (j<=i)
theorem uM:OpR X (compareOp .Lt) (bV Z dLt):=tu Xn
theorem Jg:OpR X (compareOp .LtE) (bV Z dLe):=tu Xm
theorem uK:OpR X (compareOp .Gt) (bV Z dGt):=tu Xl
theorem Xh:OpR X (compareOp .GtE) (bV Z dGe):=tu Xk
def Iq:D->Bool
 | .bu=>true
 |_=>false
def Ut(neg:Bool):gq:=λx y P=>match y with
 | .bu=>P (.bl (if neg then !Iq x else Iq x))
 |_=>False
theorem AR(h:Dv Z G v d):decide (v= .bu)=Iq d:=by cases h<;>rfl
theorem Dm:OpR X (compareOp .Is) (bV Z (Ut false)):=by
 refine Sa.imp ?_;rintro x y H Q ⟨G,a,b,P,s,d,e,c,q⟩;cases e<;>first|exact c.elim|skip
 exact⟨rfl,by rw[AR d];exact q _ c _ G H (.refl s) (.bl _)⟩
theorem L4:OpR X (compareOp .IsNot) (bV Z (Ut true)):=by
 refine Pa.imp ?_;rintro x y H Q ⟨G,a,b,P,s,d,e,c,q⟩;cases e<;>first|exact c.elim|skip
 exact⟨rfl,by rw[AR d];exact q _ c _ G H (.refl s) (.bl _)⟩
def fq:D->Bool
 | .bu=>true
 | .bl _=>true
 | .int _=>true
 | .str _=>true
 |_=>false
def kS:D->D->Bool
 | .bu, .bu=>true
 | .bl a, .bl b=>a==b
 | .bl a, .int b=>(if a then 1 else 0)==b
 | .int a, .bl b=>a==(if b then 1 else 0)
 | .int a, .int b=>a==b
 | .str a, .str b=>a==b
 |_,_=>false
def inD(x:D)(l:List D):Bool:=l.any λy=>kS y x
theorem sI(h:Dv Z G v d):iz v=fq d:=by cases h<;>rfl
theorem oN(h:DvAll Z G b c):b.all iz=c.all fq:=h.ind (p:=λb c=>b.all iz=c.all fq) rfl λa _ e=>by rw[u9,u9,sI a,e]
theorem Co(h:Dv Z G v d)(k:Dv Z G u e):yf v u=kS d e:=by cases h<;>first|rfl| (cases k<;>rfl)
theorem Io(h:Dv Z G v d):∀{b:List V}{c:List D},DvAll Z G b c->RE v b=inD d c
 |_,_, .nil=>rfl
 |_,_, .cons a as=>by
  unfold RE inD;rw[afn,afn,Co a h];exact KB _ (Io h as)
def QV(neg:Bool):gq:=λx y P=>match y with
 | .lst l=>fq x=true/\l.all fq=true/\P (.bl (if neg then !inD x l else inD x l))
 | .tup l=>fq x=true/\l.all fq=true/\P (.bl (if neg then !inD x l else inD x l))
 |_=>False
theorem PQ:∀x y H Q,bV Z (QV neg) x y H Q->XB X.K neg x y H Q:=by
 rintro x y H Q ⟨G,a,b,P,s,c,k,d,q⟩;cases k<;>first|exact d.elim|skip
 ·rename_i p f l h e
  obtain⟨g,i,j⟩:=d;refine⟨p,f,rfl, .inl (b0.of (s _ _ h)),by rw[sI c];exact g,by rw[oN e];exact i,?_⟩
  rw[Io c e];exact q _ j _ G H (.refl s) (.bl _)
 ·rename_i p f l h e
  obtain⟨g,i,j⟩:=d;refine⟨p,f,rfl, .inr (fX.of (s _ _ h)),by rw[sI c];exact g,by rw[oN e];exact i,?_⟩
  rw[Io c e];exact q _ j _ G H (.refl s) (.bl _)
theorem uL:OpR X (compareOp .In) (bV Z (QV false)):=Jl.imp PQ
theorem uN:OpR X (compareOp .NotIn) (bV Z (QV true)):=Ai.imp PQ
def ZD:gq:=λx y P=>match x,y with
 | .lst l, .int i=>∃d,gL l i=some d/\P d
 | .tup l, .int i=>∃d,gL l i=some d/\P d
 | .kD l, .int i=>∃n,gL l i=some n/\P (.int n)
 |_,_=>False
theorem BS(h:DvAll Z G b a)(e:gL a i=some d):∃v,gL b i=some v/\Dv Z G v d:=by
 unfold gL at e ⊢;rw[h.length];cases z:i9 a.length i with
 |none=>rw[z] at e;cases e
 |some j=>rw[z] at e;exact h.get e
theorem MR(f:a->b)(l:List a)(i:Int):gL (l.map f) i=(gL l i).map f:=by
 unfold gL;rw[aP];cases i9 l.length i with
 |none=>rfl
 |some j=>show(l.map f)[j]? =_;rw[eO];rfl
variable {a b c e:Expr} {ta tb tc te:aX} {pos:Pos}
theorem bH(p:DE Z X a ta)(r:DE Z X b tb)(t:X.K=Z.K:=by rfl)(u:rZ b:=by exact λ_ _=>rfl):DE Z X (.Subscript a b pos) (Nb ZD ta tb):=by
 refine(Jo (yD.or RG) p r u).imp λw H Q h=>?_;rfl';obtain⟨G,x,P,s,e,h,q⟩:=Dg w H Q h;ac_rfl;refine⟨G,x,P,s,e,h,λd y v z A B dv=>?_⟩;rfl';obtain⟨C,E,F,I,J,L,M⟩:=q d y v z A B dv;ac_rfl;refine⟨C,E,F,I,J,L,λN k O R T U Y=>?_⟩;obtain⟨G,a,b,P,s,l,m,f,q⟩:=M N k O R T U Y;unfold ZD at f
 split at f
 ·obtain⟨d,i,j⟩:=f
  obtain⟨_,_,rfl,h,e⟩:=l.jF;obtain⟨v,n,dv⟩:=BS e i;exact .inl ⟨_,_,_,v,rfl,m.ofInt,b0.of (s _ _ h),n,q _ j _ G _ (.refl s) dv⟩
 ·obtain⟨d,i,j⟩:=f
  obtain⟨_,_,rfl,h,e⟩:=l.oS;obtain⟨v,n,dv⟩:=BS e i;exact .inr ⟨_,_,_,v,rfl,m.ofInt,fX.of (s _ _ h),n,q _ j _ G _ (.refl s) dv⟩
 rotate_left
 ·exact f.elim
 ·obtain⟨d,i,j⟩:=f
  rfl';obtain⟨_,rfl,h,_⟩:=l.O0;ac_rfl;refine .inl ⟨_,_,_, .int d,rfl,m.ofInt,by rw[t];exact h.mono s,by rw[MR,i];rfl,q _ j _ G _ (.refl s) (.int d)⟩
def cutD{f:Type}(d:List f)(lo g:Option Int):List f:=(d.drop (HT.ck d.length 0 lo)).take (HT.ck d.length d.length g-HT.ck d.length 0 lo)
theorem Kb(h:DvAll Z G d f)(lo g:Option Int):DvAll Z G (vx d lo g) (cutD f lo g):=by
 unfold vx cutD;rw[h.length];exact(h.drop _).take _
theorem Lc(f:d->h)(l:List d)(lo g:Option Int):cutD (l.map f) lo g=(cutD l lo g).map f:=by
 unfold cutD;rw[aP,zO,aeK]
abbrev G9:=DN->(Option Int->Prop)->Prop
def Na:G9:=λ_ P=>P none
def VY(t:aX):G9:=λf P=>t f λd=>match d with
 | .int i=>P (some i)
 |_=>False
def W9(Z:DC)(t:G9):TO:=λg H Q=>∃(G:Hp)(d:DN)(P:Option Int->Prop),aU G H/\dJ Z G g d/\t d P/\∀o,P o->∀h f,Ext G H h f->Q o f
def DO(Z:DC)(X:Cx)(e:Option Expr)(t:G9):Prop:=PO X e (W9 Z t)
theorem PO.imp{e:Option Expr}{t i:TO}(h:PO X e t)(f:∀g H Q,i g H Q->t g H Q):PO X e i:=λd s g H Q I q=>h d s g H Q I (f _ _ _ q)
theorem iq:DO Z X none Na:=by
 refine Pt.imp λg H Q d=>?_;rfl';obtain⟨G,i,P,s,e,p,q⟩:=d;ac_rfl;exact q _ p G H (.refl s)
theorem iu(h:DE Z X e te):DO Z X (some e) (VY te):=by
 refine(Pu h).imp ?_;intro n H Q g;rfl';obtain⟨G,j,P,s,e,h,q⟩:=g;ac_rfl;refine⟨G,j,_,s,e,h,λd f v k l m dv=>?_⟩;cases dv<;>first|exact f.elim|skip
 exact⟨_,rfl,q _ f k l m⟩
def dSl(g:aX)(h i:G9):aX:=λf P=>g f λx=>h f λlo=>i f λd=>match x with
 | .lst l=>P (.lst (cutD l lo d))
 | .tup l=>¬(HT.ck l.length 0 lo=0/\HT.ck l.length l.length d=l.length)/\P (.tup (cutD l lo d))
 | .kD l=>P (.lst ((cutD l lo d).map D.int))
 |_=>False
variable {lo hi:Option Expr} {tl th:G9} {p2:Pos}
theorem f9(r:DE Z X e te)(m:DO Z X lo tl)(g:DO Z X hi th)(t:X.K=Z.K:=by rfl):DE Z X (.Subscript e (.Slice lo hi none p2) pos) (dSl te tl th):=by
 refine(Ma (P4.or SV) r m g).imp ?_;intro C H Q w;rfl';obtain⟨G,n,P,s,o,h,q⟩:=w;ac_rfl;refine⟨G,n,_,s,o,h,λd z v A F j dv=>?_⟩;refine⟨A,n,_,j.sub,o.mono j.gg,z,λl m B I k=>?_⟩;refine⟨B,n,_,k.sub,(o.mono j.gg).mono k.gg,m,λu g J L f=>?_⟩;have x:=(j.trans k).trans f;have dv:=(dv.mono k.gg).mono f.gg;cases dv<;>first|exact g.elim|skip
 ·rename_i h e
  exact .inl ⟨_,_,rfl,b0.of (f.sub _ _ h),λp i=>q _ g _ _ _ (x.trans (.new f.sub i)) (.lst av ((Kb e l u).mono (aW (f.sub.free i) _)))⟩
 ·rename_i h e
  refine .inr ⟨_,_,rfl,fX.of (f.sub _ _ h),by rw[e.length];exact g.1,λp i=>q _ g.2 _ _ _ (x.trans (.new f.sub i)) (.tup av ((Kb e l u).mono (aW (f.sub.free i) _)))⟩
 ·rename_i h _
  refine .inl ⟨_,_,rfl,by rw[t];exact h.mono f.sub,λp i=>q _ g _ _ _ (x.trans (.new f.sub i)) (.lst av ?_)⟩
  show DvAll Z _ (cutD _ l u) _;rw[Lc];exact .ints _
def MS:cx:=λd P=>match d with
 | [.lst l]=>P (.int l.length)
 | [.tup l]=>P (.int l.length)
 | [.kD l]=>P (.int l.length)
 |_=>False
theorem bE(f:X.K=Z.K:=by rfl):CallR X (.builtin "len") (ja Z MS):=by
 refine zT.imp ?_;rintro g H Q ⟨G,i,P,s,dv,d,q⟩;unfold MS at d
 split at d
 ·obtain⟨_,rfl,a⟩:=dv.ofOne
  obtain⟨_,_,rfl,h,e⟩:=a.jF;exact⟨_,_,rfl, .inl (b0.of (s _ _ h)),by rw[e.length];exact q _ d _ G H (.refl s) (.int _)⟩
 ·obtain⟨_,rfl,a⟩:=dv.ofOne
  obtain⟨_,_,rfl,h,e⟩:=a.oS;exact⟨_,_,rfl, .inr (fX.of (s _ _ h)),by rw[e.length];exact q _ d _ G H (.refl s) (.int _)⟩
 ·obtain⟨_,rfl,a⟩:=dv.ofOne
  obtain⟨_,rfl,h,_⟩:=a.O0;exact⟨_,_,rfl, .inl (by rw[f];exact h.mono s),by rw[aP];exact q _ d _ G H (.refl s) (.int _)⟩
 ·exact d.elim
def MT:cx:=λd P=>match d with
 | [.lst l]=>P (.lst l)
 | [.tup l]=>P (.lst l)
 |_=>False
theorem ot:CallR X (.type "list") (ja Z MT):=by
 refine qy.imp ?_;rintro g H Q ⟨G,i,P,s,dv,d,q⟩;unfold MT at d
 split at d
 ·obtain⟨_,rfl,a⟩:=dv.ofOne
  obtain⟨_,_,rfl,h,e⟩:=a.jF;exact⟨_,_,rfl, .inl (b0.of (s _ _ h)),λp f=>q _ d _ _ _ (.new s f) (.lst av (e.mono (aW (s.free f) _)))⟩
 ·obtain⟨_,rfl,a⟩:=dv.ofOne
  obtain⟨_,_,rfl,h,e⟩:=a.oS;exact⟨_,_,rfl, .inr (fX.of (s _ _ h)),λp f=>q _ d _ _ _ (.new s f) (.lst av (e.mono (aW (s.free f) _)))⟩
 ·exact d.elim
def W5:String->D->Bool
 |"int", .int _=>true
 |"int", .bl _=>true
 |"bool", .bl _=>true
 |"list", .lst _=>true
 |"tuple", .tup _=>true
 |_,_=>false
def Xj(n:String):Bool:=n=="int"||n=="bool"||n=="list"||n=="tuple"
def O3:D->Bool
 | .bu=>true
 | .bl _=>true
 | .int _=>true
 | .str _=>true
 | .lst _=>true
 | .tup _=>true
 |_=>false
def ZC(n:String)(t:aX):aX:=λf P=>t f λd=>O3 d=true/\P (.bl (W5 n d))
theorem RO{K:PySem.W.Frag}{H:Hp}{v:V}{d:D}{n:String}(hn:Xj n=true)(hd:O3 d=true)(h:Dv Z H v d):∃t,kN K H v t/\PySem.W.kitOne K t (.type n)=some (W5 n d):=by
 unfold Xj at hn;rw[Bool.or_eq_true,Bool.or_eq_true,Bool.or_eq_true,beq_iff_eq,beq_iff_eq,beq_iff_eq,beq_iff_eq] at hn;cases h with
 |bu=>refine⟨_, .bu,?_⟩;rcases hn with ((rfl|rfl) |rfl) |rfl<;>kernel_rfl
 |bl b=>refine⟨_, .bl b,?_⟩;rcases hn with ((rfl|rfl) |rfl) |rfl<;>kernel_rfl
 |int b=>refine⟨_, .int b,?_⟩;rcases hn with ((rfl|rfl) |rfl) |rfl<;>kernel_rfl
 |str b=>refine⟨_, .str b,?_⟩;rcases hn with ((rfl|rfl) |rfl) |rfl<;>kernel_rfl
 |lst h a=>refine⟨_, .lst h,?_⟩;rcases hn with ((rfl|rfl) |rfl) |rfl<;>kernel_rfl
 |tup h a=>refine⟨_, .tup h,?_⟩;rcases hn with ((rfl|rfl) |rfl) |rfl<;>kernel_rfl
 |_=>cases hd
end
section
variable {Z:DC} {X:Cx} {a b c e:Expr} {ta tb tc te:aX} {pos:Pos}
theorem Cd(n:String)(k:DE Z X a ta)(l:Gl X "isinstance")(m:X.mg "isinstance"=none)(o:Gl X x)(r:X.mg x=none)(u:bootBuiltins x=some (.type n))(ok:Xj n=true:=by decide)
  (w:x≠"__name__":=by decide) (y:(x==("__debug__":Str))=false:=by decide) (g:starEach [a, .Name x f] X.env=(false,eval a X.env)::starEach [.Name x f] X.env:=by rfl)
  (z:(backTo pos (starEach [.Name x f] X.env)).any (·.1)=false:=by rfl) (A:starEach [.Name x f] X.env=(false,eval (.Name x f) X.env)::starEach [] X.env:=by rfl):
  DE Z X (.Call (.Name "isinstance" p) [a, .Name x f] [] pos) (ZC n ta):=by
 have B:PE X (.Name x f) (tC (.ty n)):=F8 o r u rfl w y;refine(mE B0 l m (by decide+kernel) (bM k (bM B df A) g) (by decide) (by decide) g z).imp ?_
 intro O H Q C;rfl';obtain⟨G,F,P,s,e,h,q⟩:=C;ac_rfl;refine⟨G,F,_,s,e,h,?_⟩;rintro d ⟨I,J⟩ v L i j dv;obtain⟨t,M,N⟩:=RO (K:=X.K) (H:=i) ok I (dv.mono j.sub);exact⟨v,n,t,_,rfl,M,N,q _ J _ L i j (.bl _)⟩
def rA(Z:DC)(g:dZ):TG:=λv j H Q=>∃(G:Hp)(f:DN)(d:D)(P:DN->Prop),aU G H/\dJ Z G j f/\Dv Z G v d/\g d f P/\∀h,P h->∀i,dJ Z G i h->Q i H
def DG(Z:DC)(X:Cx)(e:Expr)(g:dZ):Prop:=PG X e (rA Z g)
theorem PG.imp{e:Expr}{t i:TG}(h:PG X e t)(f:∀v g H Q,i v g H Q->t v g H Q):PG X e i:=λd s g H v u Q I r q=>h d s g H v u Q I r (f _ _ _ _ q)
def qa(i:Nat):dZ:=λd f P=>P (f.set i (some d))
theorem bx(i:Nat)(f:X.N.Nodup)(g:X.N[i]? =some x:=by rfl)(j:Loc X.env.scope x:=by exact Or.inl rfl)(k:X.fn x=true\/X.env.scope.names.lookup x=some .local:=by first|exact .inl rfl|exact .inr rfl|assumption):DG Z X (.Name x l) (qa i):=by
 refine(Gb f g j k).imp λv o H Q m=>?_;rfl';obtain⟨G,r,d,P,s,e,dv,h,q⟩:=m;ac_rfl;exact q _ h _ (e.set dv)
abbrev nE:=List D->DN->(DN->Prop)->Prop
def RS(Z:DC)(g:nE):zQ:=λj k H Q=>∃(G:Hp)(d:DN)(f:List D)(P:DN->Prop),aU G H/\dJ Z G k d/\DvAll Z G j f/\g f d P/\∀h,P h->∀i,dJ Z G i h->Q i H
def QF(Z:DC)(X:Cx)(d:List Expr)(g:nE):Prop:=BM X d (RS Z g)
theorem BM.imp{i:List Expr}(h:BM X i t)(f:∀v g H Q,j v g H Q->t v g H Q):BM X i j:=λd s g H v u Q I r q=>h d s g H v u Q I r (f _ _ _ _ q)
def Nl:nE:=λd f P=>d= []/\P f
def Kk(g:dZ)(f:nE):nE:=λh i P=>match h with
 |d::r=>g d i λj=>f r j P
 | []=>False
theorem oG:QF Z X [] Nl:=by
 refine y8.imp λv g H Q d=>?_;rfl';obtain⟨G,j,k,P,s,e,dv,⟨h,p⟩,q⟩:=d;subst h;cases dv;ac_rfl;exact⟨rfl,q _ p _ e⟩
theorem fD(i:DG Z X e g)(j:QF Z X d f)(k:(assignEach (e::d) X.env).map (·.2)=assign e X.env::(assignEach d X.env).map (·.2):=by rfl):QF Z X (e::d) (Kk g f):=by
 refine(qk i j k).imp ?_;intro v t H Q l;rfl';obtain⟨G,n,w,P,s,e,dv,h,q⟩:=l;ac_rfl;cases dv with
 |nil=>exact h.elim
 |cons a as=>
  refine⟨_,_,rfl,G,n,_,_,s,e,a,h,λo p x r=>?_⟩;exact⟨G,o,_,P,s,r,as,p,q⟩
def Nm(n:Nat)(f:nE):dZ:=λd g P=>match d with
 | .tup l=>l.length=n/\f l g P
 |_=>False
theorem sE(n:Nat)(i:X.calm=true)(h:QF Z X f g)(j:(assignEach f X.env).length=n:=by rfl)(l:(assignEach f X.env).findIdx? (·.1)=none:=by rfl):DG Z X (.Tuple f k pos) (Nm n g):=by
 refine(DJ i h j l).imp ?_;rintro v r H Q ⟨G,m,d,P,s,e,dv,h,q⟩;cases dv<;>first|exact h.elim|skip
 rename_i a o t p f
 exact⟨a,o,rfl,fX.of (s _ _ p),by rw[f.length];exact h.1,G,m,_,P,s,e,f,h.2,q⟩
def vc(Z:DC)(G:Hp)(J:It)(g:List D):Prop:=∀h f,aU G h->aU h f->∀i:Nat,(i<g.length->J.go i f)/\(g.length<=i->J.stop i f)/\
 ∀x j,i<g.length->J.yld i f x j->∃k d,Ext h f k j/\g[i]? =some d/\Dv Z k x d
def uG(Z:DC)(i:hZ):TI:=λj H R=>∃(G:Hp)(d:DN)(P:List D->Prop),aU G H/\dJ Z G j d/\i d P/\∀f,P f->∀J g h,Ext G H g h->vc Z g J f->R J h
def DI(Z:DC)(X:Cx)(d e:Expr)(f:hZ):Prop:=PI X d e (uG Z f)
theorem PI.imp{i e:Expr}(h:PI X i e t)(f:∀g H Q,j g H Q->t g H Q):PI X i e j:=λd s g H Q I q=>h d s g H Q I (f _ _ _ q)
def V6(t:aX):hZ:=λf P=>t f λd=>match d with
 | .lst l=>P l
 |_=>False
theorem OF{K:PySem.W.Frag}{G:Hp}{a:Addr}{f:List V}{j:List D}(h:G a=some (.lst f))(e:DvAll Z G f j):vc Z G (U1 K a) j:=by
 intro o r k m i;have g:=b0.of (K:=K) (m _ _ (k _ _ h));have l:=e.length;refine⟨λn=>⟨f,f[i],g,b9 (by omega)⟩,λn=>⟨f,g,by omega⟩,?_⟩
 rintro x s n ⟨rfl,p⟩;obtain⟨d,q,dv⟩:=e.AO (p _ g);exact⟨o,d, .refl m,q,dv.mono k⟩
theorem bC(h:DE Z X e te):DI Z X j e (V6 te):=by
 refine(Po h).imp ?_;intro r H Q k;rfl';obtain⟨G,m,P,s,n,h,q⟩:=k;ac_rfl;refine⟨G,m,_,s,n,h,λd f v o p g dv=>?_⟩;cases dv<;>first|exact f.elim|skip
 rename_i i e
 exact⟨_,rfl,⟨_,b0.of (g.sub _ _ i)⟩,q _ f _ o p g (OF i e)⟩
def cJ(lo:Int)(n:Nat):List D:=(List.range n).map λ(k:Nat)=>D.int (lo+(k:Int))
theorem vP{lo:Int}{n i:Nat}(h:i<n):(cJ lo n)[i]? =some (.int (lo+i)):=by
 unfold cJ;rw[eO,pV h];rfl
theorem AS(lo:Int)(n:Nat):vc Z G (QI lo n) (cJ lo n):=by
 intro f h j g i;have l:(cJ lo n).length=n:=by unfold cJ;simp
 rw[l];refine⟨λd=>d,λd=>d,?_⟩;rintro x k d ⟨rfl,rfl⟩;exact⟨f,_, .refl g,vP d, .int _⟩
def Uw(t:gk):hZ:=λd P=>t d λf=>match f with
 | [.int j]=>(-(2^62)<=j/\j<2^62)/\P (cJ 0 j.toNat)
 |_=>False
variable {t:gk}
theorem qY(g:Gl X "range")(i:X.mg "range"=none)(j:DA Z X [a] t)(k:starEach [a] X.env= [(false,eval a X.env)]:=by rfl):DI Z X f (.Call (.Name "range" p) [a] [] pos) (Uw t):=by
 refine(y9 g i j k).imp ?_;intro w H Q l;rfl';obtain⟨G,n,P,s,o,h,q⟩:=l;ac_rfl;refine⟨G,n,_,s,o,h,λy d z r u v dv=>?_⟩
 split at d
 ·obtain⟨_,rfl,a⟩:=dv.ofOne
  exact⟨_,by rw[a.ofInt],d.1.1,d.1.2,q _ d.2 _ r u v (AS 0 _)⟩
 ·exact d.elim
def iw(l:List D):List D:=l.mapIdx λi x=> .tup [.int (i:Int),x]
def Q5(t:gk):hZ:=λd P=>t d λf=>match f with
 | [.lst l]=>P (iw l)
 |_=>False
theorem OE{K:PySem.W.Frag}{G:Hp}{a:Addr}{f:List V}{g:List D}(h:G a=some (.lst f))(e:DvAll Z G f g):vc Z G (U0 K a) (iw g):=by
 intro r s m j i;have k:=b0.of (K:=K) (j _ _ (m _ _ h));have l:=e.length;rw[show(iw g).length=g.length by unfold iw;simp]
 refine⟨λn=>⟨f,f[i],k,b9 (by omega)⟩,λn=>⟨f,k,by omega⟩,?_⟩
 rintro x u n ⟨t,y,rfl,o,rfl,p⟩;obtain⟨d,q,dv⟩:=e.AO (p _ k);refine⟨_,_, .new j o,by unfold iw;rw[List.getElem?_mapIdx,q];rfl,?_⟩
 exact .tup av (.cons (.int _) (.cons ((dv.mono m).mono (aW (j.free o) _)) .nil))
theorem e8{k1}(j:Gl X "enumerate")(k:X.mg "enumerate"=none)(l:DA Z X [a] t)(m:starEach [a] X.env= [(false,eval a X.env)]:=by rfl):DI Z X (.Tuple g k1 i) (.Call (.Name "enumerate" p) [a] [] pos) (Q5 t):=by
 refine(Pn j k l m).imp ?_;intro x H Q n;rfl';obtain⟨G,r,P,s,u,h,q⟩:=n;ac_rfl;refine⟨G,r,_,s,u,h,λz d A v w f dv=>?_⟩
 split at d
 ·obtain⟨_,rfl,a⟩:=dv.ofOne
  obtain⟨_,_,rfl,h,e⟩:=a.jF;exact⟨_,rfl,⟨_,f.sub _ _ h⟩,q _ d _ v w f (OE h e)⟩
 ·exact d.elim
def pT(l m:List D):List D:=List.zipWith (λx y=> .tup [x,y]) l m
def V8(t:gk):hZ:=λd P=>t d λf=>match f with
 | [.lst l, .lst m]=>P (pT l m)
 |_=>False
theorem RF{a b:Addr}(h:G a=some (.lst f))(e:DvAll Z G f j)(w:G b=some (.lst g))(r:DvAll Z G g k):vc Z G (U2 a b) (pT j k):=by
 intro J L m n i;have o:=n _ _ (m _ _ h);have p:=n _ _ (m _ _ w);have l:=e.length;have M:=r.length;rw[show(pT j k).length=min j.length k.length by unfold pT;simp]
 refine⟨λs=>⟨f,g,f[i]'(by omega),g[i]'(by omega),o,p,b9 (by omega),b9 (by omega)⟩,λs=>⟨f,g,o,p,by omega⟩,?_⟩
 intro x N s A;rfl';obtain⟨t,y,z,rfl,u,rfl,C,E⟩:=A;ac_rfl;rfl';obtain⟨d,F,dv⟩:=e.AO (C _ o);obtain⟨O,H,I⟩:=r.AO (E _ p);ac_rfl;refine⟨_,_, .new n u,by unfold pT;rw[List.getElem?_zipWith,F,H],?_⟩
 have v:=aW (n.free u) (.tup [y,z]);exact .tup av (.cons ((dv.mono m).mono v) (.cons ((I.mono m).mono v) .nil))
theorem Kl{k1}(l:Gl X "zip")(m:X.mg "zip"=none)(d:DA Z X [a,b] t)(n:starEach [a,b] X.env= [(false,eval a X.env),(false,eval b X.env)]:=by rfl)(o:starEach [b] X.env= [(false,eval b X.env)]:=by rfl):DI Z X (.Tuple j k1 k) (.Call (.Name "zip" p) [a,b] [] pos) (V8 t):=by
 refine(Su l m d n o).imp ?_;rintro B H Q ⟨G,r,P,s,u,h,q⟩;refine⟨G,r,_,s,u,h,λC f E v w g dv=>?_⟩
 split at f
 ·obtain⟨F,I,rfl,x,y⟩:=dv.Ds
  rfl';obtain⟨_,_,rfl,d,e⟩:=x.jF;obtain⟨_,_,rfl,i,A⟩:=y.jF;ac_rfl;exact⟨_,_,_,_,rfl,g.sub _ _ d,g.sub _ _ i,q _ f _ v w g (RF d e i A)⟩
 ·exact f.elim
def zj(src:List (Option Nat))(d:DN):DN:=src.map λo=>o.bind λi=>(d[i]?).bind id
theorem dJ.src(e:dJ Z G l f)(src:List (Option Nat)):dJ Z G (nU src l) (zj src f):=by
 refine⟨by unfold nU zj;simp,λi d h=>?_⟩
 unfold zj at h;unfold nU;rw[eO] at h ⊢;cases k:src[i]? with
 |none=>rw[k] at h;cases h
 |some o=>
  rw[k] at h;cases o with
  |none=>cases h
  |some j=>
   have g:(f[j]?).bind id=some d:=Do h;cases m:f[j]? with
   |none=>rw[m] at g;cases g
   |some z=>
    rw[m] at g;rfl';have p:z=some d:=g;subst p;obtain⟨v,q,dv⟩:=e.at_ j d m;ac_rfl;exact⟨v,by show some ((l[j]?).bind id)=_;rw[q];rfl,dv⟩
def lcW(g:dZ)(i:dG)(j:aX):List D->DN->List D->(DN->List D->Prop)->Prop
 | [],k,f,N=>N k f
 |x::l,k,f,N=>g x k λh=>i h λb=>if b=true then j h λd=>f.length<sizeLine/\lcW g i j l h (f++ [d]) N else lcW g i j l h f N
def VR(f:hZ)(g:dZ)(h:dG)(i:aX)(src:List (Option Nat)):aX:=λd P=>f d λj=>lcW g h i j (zj src d) [] λ_ out=>P (.lst out)
def nH(g:dZ)(h:dG)(i:hZ)(j:dZ)(k:dG)(l:aX):List D->DN->List D->(List D->Prop)->Prop
 | [],_,d,P=>P d
 |x::m,n,d,P=>g x n λf=>h f λb=>if b=true then i f λo=>lcW j k l o f d λp q=>nH g h i j k l m p q P else nH g h i j k l m f d P
def M8(f:hZ)(g:dZ)(h:dG)(i:hZ)(j:dZ)(k:dG)(l:aX)(src:List (Option Nat)):aX:=λd P=>f d λm=>nH g h i j k l m (zj src d) [] λout=>P (.lst out)
def ml:dG:=λ_ P=>P true
def xq(Z:DC)(X:Cx)(d:List Expr)(t:dG):Prop:=mP X d (liftT Z t)
theorem mP.imp{d:List Expr}{t j:TT}(h:mP X d t)(f:∀i H Q,j i H Q->t i H Q):mP X d j:=λg s i H Q I q=>h g s i H Q I (f _ _ _ q)
theorem cz:xq Z X [] ml:=by
 refine Gh.imp λg H Q d=>?_;rfl';obtain⟨G,i,P,s,e,p,q⟩:=d;ac_rfl;exact q _ p G H (.refl s)
theorem sF(h:DT Z X c d):xq Z X [c] d:=PC h
def CS(Z:DC)(f g:Hp)(h:Addr)(j:DN)(d:List D)(k:St)(H:Hp):Prop:=
 ∃(G:Hp)(i:List V),aU f G/\aU G H/\aU g H/\(∀b,g b≠none->f b=none->G b=none)/\G h=none/\H h=some (.lst i)/\DvAll Z G i d/\dJ Z G k j
theorem gD(s:aU H d){b:Addr}(h:H b≠none):d b≠none:=λz=>by
 cases e:H b with
 |none=>exact h e
 |some o=>rw[s b o e] at z;cases z
theorem oH{d:Type}{l:List d}{i:Nat}{x:d}(h:l[i]? =some x):l.drop i=x::l.drop (i+1):=by
 obtain⟨f,e⟩:=dS.mp h;rw[qK f,e]
theorem AZ(hA:n f=none)(B:Hp)(it:vc Z B J p)(i:Nat)(M:DN)(k:List D)(σ:St)(H:Hp)
  (c:CS Z m n f M k σ H) (hG:∀G,aU m G->aU B G) (hi:i<p.length) (h:lcW g w A (p.drop i) M k N):
  J.go i H/\∀x C,J.yld i H x C->rA Z g x σ C λq H4=>liftT Z w q H4 λb O=>
   if b=true then fb Z A q O λv Q=>∃l,Q f=some (.lst l)/\l.length<sizeLine/\(∃r s,CS Z m n f r s q (upd Q f (.lst (l++ [v])))/\lcW g w A (p.drop (i+1)) r s N)
   else ∃r s,CS Z m n f r s q O/\lcW g w A (p.drop (i+1)) r s N:=by
 rfl';obtain⟨T,l,U,s2,Y,off,gA,a,t,en⟩:=c;obtain⟨go,_,yld⟩:=it T H (hG _ U) s2 i;ac_rfl;refine⟨go hi,λx C y=>?_⟩;rfl';obtain⟨G3,d,E,hd,dv⟩:=yld x C hi y;rw[oH hd] at h;ac_rfl;refine⟨G3,M,d,_,E.sub,en.mono E.gg,dv,h,λF I q L=>?_⟩;refine⟨G3,F,_,E.sub,L,I,λb hb G5 O u=>?_⟩;have j:=E.trans u;have X:∀{G xw:Hp},Ext T H G xw->G f=none:=λx=>x.off f (by rw[a];exact λz=>nomatch z) gA
 have FZ:∀{G xw:Hp},Ext T H G xw->∀b,n b≠none->m b=none->G b=none:=λx b I h2=>x.off b (gD Y I) (off b I h2);cases b with
 |false=>
  refine bS ⟨F,k,⟨G5,l,U.trans j.gg,j.sub,Y.trans j.hh,FZ j,X j,j.hh _ _ a,t.mono j.gg,L.mono u.gg⟩,?_⟩;simpa using hb
 |true=>
  refine dq ⟨G5,F,_,u.sub,L.mono u.gg,(by simpa using hb),λd' gx v G6 Q x6 V9=>?_⟩
  have x:=j.trans x6;refine⟨l,x.hh _ _ a,by rw[t.length];exact gx.1,F,_,⟨G6,l++ [v],U.trans x.gg,λb o e=>?_,λb o e=>?_,FZ x,X x,av,(t.mono x.gg).snoc V9,(L.mono u.gg).mono x6.gg⟩,gx.2⟩
  ·rw[ax (aB e (X x))];exact x.sub _ _ e
  ·rw[ax (aB e hA)];exact(Y.trans x.hh) _ _ e
theorem CS.done(c:CS Z i h d p f q j)(g:Ext G H i h)(r:h d=none):∃k,Ext G H k j/\Dv Z k (.ref d) (.lst f):=by
 rfl';obtain⟨u,v,w,x,y,off,l,A,B,F⟩:=c;ac_rfl;refine⟨upd u d (.lst v),⟨(g.gg.trans w).trans (aW l _),λb o e=>?_,g.hh.trans y,λb m C=>?_⟩, .lst av (B.mono (aW l _))⟩
 ·by_cases z:b=d
  ·subst z;rw[av] at e;cases e;exact A
  ·rw[ax z] at e;exact x _ _ e
 ·have n:=gD g.hh m
  rw[ax (λz=>n (by rw[z];exact r))]
  exact off b n (g.off b m C)
theorem CS.begin(s:aU d f)(i:f g=none)(l:dJ Z d k j):CS Z d f g j [] k (upd f g (.lst [])):=
 ⟨d,[], .refl _,λb o e=>by rw[ax (aB e (s.free i))];exact s _ _ e,aW i _,λ_ _ h=>h,s.free i,av, .nil,l⟩
variable {tg iter elt:Expr} {ifs:List Expr} {scope:Scope} {NC:List Str} {src:List (Option Nat)} {wi:hZ} {g:dZ} {tt:dG}
theorem Kx:∀o H Q,fb Z (VR wi g tt te src) o H Q->Qo (uG Z wi) (rA Z g) (liftT Z tt) (fb Z te) src o H Q:=by
 intro o H Q C;rfl';obtain⟨G,E,P,s,y,h,q⟩:=C;ac_rfl;refine⟨G,E,_,s,y,h,λf F J z I p A L r=>?_⟩;refine⟨λi m u k=>m=f.length-i/\i<=f.length/\∃l d,CS Z z I L l d u k/\lcW g tt te (f.drop i) l d λ_ out=>P (.lst out),⟨_,rfl,eN _,_,[], .begin p.sub r ((y.mono p.gg).src src),F⟩,?_⟩;intro i m u k M;rfl';obtain⟨rfl,Y,l,d,c,v⟩:=M;ac_rfl
 by_cases B:i<f.length
 ·obtain⟨N,turn⟩:=AZ r z A i l d u k c (λ_ s=>s) B v
  exact .inr ⟨N,_,λa b n=>⟨f.length-(i+1),by omega,rfl,B,n⟩,turn⟩
 ·have e:f.drop i= []:=BB (by omega)
  rfl';rw[e] at v;obtain⟨O,x,dv⟩:=c.done p r;obtain⟨R,t,T,U,_⟩:=c;ac_rfl;exact .inl ⟨(A R k T U i).2.1 (by omega),q _ v _ O k x dv⟩
theorem oE(f:X.calm=true)(c:bP X scope)(h:dj scope X.N src NC)(i:DI Z X tg iter wi)
  (j:∀d s H,DG Z (bY X scope NC d s H) tg g) (k:∀d s H,xq Z (bY X scope NC d s H) ifs tt) (l:∀d s H,DE Z (bY X scope NC d s H) elt te)
  (m:∀x,foldedSetIterable iter X.env x=pure x:=by intro _;rfl):DE Z X (.ListComp elt [⟨tg,iter,ifs,0⟩] scope pos) (VR wi g tt te src):=(Ph f c h i j k l m).imp Kx
variable {t0 i0 t1 i1:Expr} {f0 f1:List Expr} {fh:hZ} {g1:dZ} {dA:dG}
theorem FL:∀σ H Q,fb Z (M8 wi g tt fh g1 dA te src) σ H Q->Qp (uG Z wi) (rA Z g) (liftT Z tt) (uG Z fh) (rA Z g1) (liftT Z dA) (fb Z te) src σ H Q:=by
 intro σ H Q aC;rfl';obtain⟨G,ρ,P,s,en,h,q⟩:=aC;ac_rfl;refine⟨G,ρ,_,s,en,h,λp hd J F u x1 it l hA=>?_⟩;refine⟨λi m fI I=>m=p.length-i/\i<=p.length/\∃w j,CS Z F u l w j fI I/\nH g tt fh g1 dA te (p.drop i) w j λout=>P (.lst out),⟨_,rfl,eN _,_,[], .begin x1.sub hA ((en.mono x1.gg).src src),hd⟩,?_⟩;intro i m fI I iL;rfl';obtain⟨rfl,hi,w,j,c,hl⟩:=iL;ac_rfl
 by_cases eW:i<p.length
 ·have c0:=c
  rfl';obtain⟨T,r,U,s2,s3,off,gA,rg,bB,Wg⟩:=c;obtain⟨go,_,yld⟩:=it T I U s2 i;ac_rfl;refine .inr ⟨go eW,λY L=>∃a t,CS Z F u l a t Y L/\nH g tt fh g1 dA te (p.drop (i+1)) a t λout=>P (.lst out),λY L n=>⟨p.length-(i+1),by omega,rfl,eW,n⟩,λx H3 y=>?_⟩
  rfl';obtain⟨G3,d,x3,Fn,dv⟩:=yld x H3 eW y;rw[oH Fn] at hl;ac_rfl;refine⟨G3,w,d,_,x3.sub,Wg.mono x3.gg,dv,hl,λX M fV wo=>?_⟩;refine⟨G3,X,_,x3.sub,wo,M,λb hb G5 H5 x5=>?_⟩;have A:=x3.trans x5;have A9:∀{G N:Hp},Ext T I G N->G l=none:=λx=>x.off l (by rw[rg];exact λz=>nomatch z) gA
  have FZ:∀{G N:Hp},Ext T I G N->∀b,u b≠none->F b=none->G b=none:=λx b M h2=>x.off b (gD s3 M) (off b M h2);cases b with
  |false=>exact bS ⟨X,j,⟨G5,r,U.trans A.gg,A.sub,s3.trans A.hh,FZ A,A9 A,A.hh _ _ rg,bB.mono A.gg,wo.mono x5.gg⟩,by simpa using hb⟩
  |true=>
   refine dq ⟨G5,X,_,x5.sub,wo.mono x5.gg,(by simpa using hb),λO hes J1 G6 H6 x6 OD=>?_⟩
   have x:=A.trans x6;have c6:CS Z G6 H6 l X j fV H6->True:=λ_=>trivial
   refine⟨λk m ue B=>m=O.length-k/\k<=O.length/\∃(QE:DN)(Ew:List D),(∃(G:Hp)(r:List V),aU G6 G/\aU G B/\aU u B/\(∀b,u b≠none->F b=none->G b=none)/\G l=none/\B l=some (.lst r)/\DvAll Z G r Ew/\dJ Z G ue QE)/\
    lcW g1 dA te (O.drop k) QE Ew λw r6=>nH g tt fh g1 dA te (p.drop (i+1)) w r6 λout=>P (.lst out),
    ⟨_,rfl,eN _,X,j,⟨G6,r, .refl _,x.sub,s3.trans x.hh,FZ x,A9 x,x.hh _ _ rg,bB.mono x.gg,(wo.mono x5.gg).mono x6.gg⟩,hes⟩,?_⟩
   intro k m ue B iL;rfl';obtain⟨rfl,hk,QE,Ew,⟨G7,Tv,a1,a2,a3,a4,a5,a6,a7,a8⟩,Rv⟩:=iL;ac_rfl;have g16:aU F G6:=U.trans x.gg
   by_cases Oi:k<O.length
   ·obtain⟨go1,_,adL⟩:=OD G7 B a1 a2 k
    refine .inr ⟨go1 Oi,λY L=>∃(a:DN)(t:List D),(∃(G:Hp)(r:List V),aU G6 G/\aU G L/\aU u L/\(∀b,u b≠none->F b=none->G b=none)/\G l=none/\L l=some (.lst r)/\DvAll Z G r t/\dJ Z G Y a)/\
     lcW g1 dA te (O.drop (k+1)) a t λw r6=>nH g tt fh g1 dA te (p.drop (i+1)) w r6 λout=>P (.lst out),λY L n=>⟨O.length-(k+1),by omega,rfl,Oi,n⟩,λy H8 hy=>?_⟩
    rfl';obtain⟨G8,d8,x8,hd8,Wa⟩:=adL y H8 Oi hy;rw[oH hd8] at Rv;ac_rfl;refine⟨G8,QE,d8,_,x8.sub,a8.mono x8.gg,Wa,Rv,λTB h9 σ9 Rb=>?_⟩;refine⟨G8,TB,_,x8.sub,Rb,h9,λb hb Yk QH Qy=>?_⟩;have C:=x8.trans Qy;have oA:∀{G N:Hp},Ext G7 B G N->G l=none:=λx=>x.off l (by rw[a6];exact λz=>nomatch z) a5
    have oB:∀{G N:Hp},Ext G7 B G N->∀b,u b≠none->F b=none->G b=none:=λx b M h2=>x.off b (gD a3 M) (a4 b M h2);cases b with
    |false=>exact bS ⟨TB,Ew,⟨Yk,Tv,a1.trans C.gg,C.sub,a3.trans C.hh,oB C,oA C,C.hh _ _ a6,a7.mono C.gg,Rb.mono Qy.gg⟩,by simpa using hb⟩
    |true=>
     refine dq ⟨Yk,TB,_,Qy.sub,Rb.mono Qy.gg,(by simpa using hb),λd' gx v G11 UY x11 aaj=>?_⟩
     have E:=C.trans x11;refine⟨Tv,E.hh _ _ a6,by rw[a7.length];exact gx.1,TB,_,⟨G11,Tv++ [v],a1.trans E.gg,λb o e=>?_,λb o e=>?_,oB E,oA E,av,(a7.mono E.gg).snoc aaj,(Rb.mono Qy.gg).mono x11.gg⟩,gx.2⟩
     ·rw[ax (aB e (oA E))];exact E.sub _ _ e
     ·rw[ax (aB e hA)];exact(a3.trans E.hh) _ _ e
   ·have e:O.drop k= []:=BB (by omega)
    rw[e] at Rv;exact .inl ⟨(OD G7 B a1 a2 k).2.1 (by omega),QE,Ew,⟨G7,Tv,g16.trans a1,a2,a3,a4,a5,a6,a7,a8⟩,Rv⟩
 ·have e:p.drop i= []:=BB (by omega)
  rfl';rw[e] at hl;obtain⟨G',x,dv⟩:=c.done x1 hA;obtain⟨T,r,U,s2,_⟩:=c;ac_rfl;exact .inl ⟨(it T I U s2 i).2.1 (by omega),q _ hl _ G' I x dv⟩
theorem Q0(f:X.calm=true)(c:bP X scope)(h:dj scope X.N src NC)(i:DI Z X t0 i0 wi)
  (j:∀d s H,DG Z (bY X scope NC d s H) t0 g) (k:∀d s H,xq Z (bY X scope NC d s H) f0 tt) (l:∀d s H,DI Z (bY X scope NC d s H) t1 i1 fh) (m:∀d s H,DG Z (bY X scope NC d s H) t1 g1)
  (n:∀d s H,xq Z (bY X scope NC d s H) f1 dA) (o:∀d s H,DE Z (bY X scope NC d s H) elt te)
  (p:∀x,foldedSetIterable i0 X.env x=pure x:=by intro _;rfl) (q:∀env x,foldedSetIterable i1 env x=pure x:=by intro _ _;rfl):
  DE Z X (.ListComp elt [⟨t0,i0,f0,0⟩,⟨t1,i1,f1,0⟩] scope pos) (M8 wi g tt fh g1 dA te src):=(Sn f c h i j k l m n o p q).imp FL
end
inductive cX (R:V->D->List Addr->Prop):List V->List D->List Addr->Prop
 |nil:cX R [] [] []
 |cons {v:V} {vs:List V} {d:D} {ds:List D} {f fs:List Addr}:R v d f->cX R vs ds fs->cX R (v::vs) (d::ds) (f++fs)
def isL:D->Bool
 | .lst _=>true
 |_=>false
def Own(Z:DC)(G H:Hp):Nat->V->D->List Addr->Prop
 |0,v,d,c=>Dv Z G v d/\c= []
 |n+1,v,d,c=>(∃a e g i,v= .ref a/\d= .lst g/\H a=some (.lst e)/\c=a::i/\cX (Own Z G H n) e g i)\/(1<=n/\∃a e g,v= .ref a/\d= .tup g/\G a=some (.tup e)/\cX (λv d f=>(isL d=true/\Own Z G H n v d f)\/(isL d=false/\Dv Z G v d/\f= [])) e g c)\/(∃a h,v= .ref a/\H a=some (.ext h)/\c= [a]/\((n=98/\∃b j,d= .set b j/\h=TJ b a j)\/(n=97/\∃k,d= .x k/\K7 G a h k)))
theorem Own.lst{Z:DC}{G H:Hp}{n:Nat}{v:V}{c:List D}{f:List Addr}(o:Own Z G H (n+1) v (.lst c) f):∃a d g h,v= .ref a/\D.lst c= .lst g/\H a=some (.lst d)/\f=a::h/\cX (Own Z G H n) d g h:=by
 rcases o with o| ⟨_,a,d,c,_,e,_⟩ | ⟨a,i,_,_,_,⟨_,b,j,e,_⟩ | ⟨_,k,e,_⟩⟩
 ·exact o
 ·cases e
 ·cases e
 ·cases e
theorem Own.xA(o:Own Z G H 98 v (.x k) d):∃a c,v= .ref a/\H a=some (.ext c)/\d= [a]/\K7 G a c k:=by
 rcases o with ⟨_,_,_,_,_,e,_⟩ | ⟨_,a,j,l,_,e,_⟩ | ⟨a,c,f,g,h,⟨_,b,m,e,n⟩ | ⟨_,k,e,i⟩⟩
 ·cases e
 ·cases e
 ·cases e
 ·cases e;exact⟨a,c,f,g,h,i⟩
theorem Own.one(o:Own Z G H 1 v d b):∃a c e f,v= .ref a/\d= .lst e/\H a=some (.lst c)/\b=a::f/\cX (Own Z G H 0) c e f:=by
 rcases o with o| ⟨z,_⟩ | ⟨_,_,_,_,_,⟨z,_⟩ | ⟨z,_⟩⟩
 ·exact o
 ·exact absurd z (by decide)
 ·exact absurd z (by decide)
 ·exact absurd z (by decide)
theorem cX.imp{i:List V}(o:cX R i j c)(h:∀v d f,(∀b∈f,b∈c)->R v d f->g v d f):cX g i j c:=by
 induction o with
 |nil=>exact .nil
 |cons a _ k=>exact .cons (h _ _ _ (λb e=>kF _ e) a) (k λv d f l r=>h v d f (λb e=>dW _ (l b e)) r)
theorem cX.length{b:List D}(o:cX R a b c):a.length=b.length:=by
 induction o with
 |nil=>rfl
 |cons _ _ d=>exact KB (·+1) d
section
variable {Z:DC} {G G' H H':Hp}
theorem Own.keep:∀{v:V}{d:D}{g:List Addr},Own Z G H n v d g->aU G G'->(∀b∈g,H' b=H b)->Own Z G' H' n v d g:=by
 induction n with
 |zero=>exact λh s _=>⟨h.1.mono s,h.2⟩
 |succ n u=>
  intro v d g h s k
  rcases h with ⟨a,j,l,w,c,m,e,i,o⟩ | ⟨p,a,j,l,c,m,e,o⟩ | ⟨a,x,c,e,i,y⟩
  ·subst i
   exact .inl ⟨a,j,l,w,c,m,by rw[k a (bO ..)];exact e,rfl,o.imp λv d f t r=>u r s λb q=>k b (bU _ (t b q))⟩
  ·exact .inr (.inl ⟨p,a,j,l,c,m,s _ _ e,o.imp λv d f t r=>r.imp (λr=>⟨r.1,u r.2 s λb q=>k b (t b q)⟩) λr=>⟨r.1,r.2.1.mono s,r.2.2⟩⟩)
  ·exact .inr (.inr ⟨a,x,c,by rw[k a (by rw[i];exact bO ..)];exact e,i,y.imp id λ⟨p,k,z,A⟩=>⟨p,k,z,A.mono s⟩⟩)
theorem cX.Uy(o:cX R e g h)(k:∀v d f,(∀b∈f,b∈h)->R v d f->Dv Z G' v d):DvAll Z G' e g:=by
 induction o with
 |nil=>exact .nil
 |cons a _ i=>exact .cons (k _ _ _ (λb c=>kF _ c) a) (i λv d f j r=>k v d f (λb c=>dW _ (j b c)) r)
theorem Own.Ux(o:HO->Prop)(y:∀j,o (.lst j))(t:∀u,o (.ext u)):∀{v:V}{d:D}{l:List Addr},Own Z G H n v d l->aU G G'->(∀b∈l,∀x,o x->H b=some x->G' b=some x)->Dv Z G' v d:=by
 induction n with
 |zero=>exact λh s _=>h.1.mono s
 |succ n w=>
  intro v d l h s k
  rcases h with ⟨a,j,z,B,i,c,g,e,m⟩ | ⟨_,a,j,z,i,c,g,m⟩ | ⟨a,u,i,g,e,A⟩
  ·subst e i c
   exact .lst (k a (bO ..) _ (y _) g) (m.Uy λv d f e r=>w r s λb p=>k b (bU _ (e b p)))
  ·subst i c
   exact .tup (s _ _ g) (m.Uy λv d f e r=>r.elim (λr=>w r.2 s λb p=>k b (e b p)) λr=>r.2.1.mono s)
  ·subst i e
   rcases A with ⟨_,b,C,c,q⟩ | ⟨_,E,c,q⟩
   ·subst c q
    exact .set (k a (bO ..) _ (t _) g)
   ·subst c
    exact .x (k a (bO ..) _ (t _) g) (q.mono s)
theorem Own.dv{v:V}{d:D}(h:Own Z G H n v d a)(s:aU G G')(k:∀b∈a,∀o,H b=some o->G' b=some o):Dv Z G' v d:=h.Ux (λ_=>True) (λ_=>trivial) (λ_=>trivial) s λb c x _ e=>k b c x e
theorem cX.flat(o:cX (Own Z G H 0) b c d):DvAll Z G b c/\d= []:=by
 induction o with
 |nil=>exact⟨.nil,rfl⟩
 |cons a _ e=>exact⟨.cons a.1 e.1,by rw[a.2,e.2];rfl⟩
theorem DvAll.own(h:DvAll Z G c d):cX (Own Z G H 0) c d []:=h.ind (p:=λc d=>cX (Own Z G H 0) c d []) .nil λa _ b=> .cons (f:= []) (fs:= []) ⟨a,rfl⟩ b
theorem Dv.flat{v:V}{d:D}(h:Dv Z G v d)(f:fq d=true):Dv Z G' v d:=by
 cases h with
 |bu=>exact .bu
 |bl b=>exact .bl b
 |int i=>exact .int i
 |str x k=>exact .str x k
 |_=>cases f
end
mutual
def mD:D->Bool
 | .bu=>true
 | .bl _=>true
 | .int _=>true
 | .str _=>true
 | .tup l=>oR l
 |_=>false
def oR:List D->Bool
 | []=>true
 |d::ds=>mD d&&oR ds
end
theorem Dv.mD(k:∀b g,G b=some (.tup g)->e b=some (.tup g))(h:Dv Z G v d):L2.mD d=true->Dv Z e v d:=by
 have c:∀{p:Prop}{d:D},L2.mD d=false->L2.mD d=true->p:=λa b=>by rw[a] at b;cases b
 refine Dv.rec (motive_1:=λv d _=>L2.mD d=true->Dv Z e v d) (motive_2:=λl j _=>oR j=true->DvAll Z e l j) (λ_=> .bu) (λb _=> .bl b) (λi _=> .int i) (λx h _=> .str x h) (λ_ _ _=>c (by rw[L2.mD]<;>simp)) (λh _ m f=> .tup (k _ _ h) (m (by rw[L2.mD] at f;exact f))) (λ_=>c (by rw[L2.mD]<;>simp)) (λ_=>c (by rw[L2.mD]<;>simp)) (λ_ _=>c (by rw[L2.mD]<;>simp)) (λ_ _ _ _ _ _=>c (by rw[L2.mD]<;>simp)) (λ_=>c (by rw[L2.mD]<;>simp)) (λ_ _=>c (by rw[L2.mD]<;>simp)) (λ_ _ _ _=>c (by rw[L2.mD]<;>simp)) (λ_=> .nil) (λ_ _ n o f=>?_) h
 rw[oR,ub] at f;exact .cons (n f.1) (o f.2)
theorem DvAll.mD(k:∀b g,G b=some (.tup g)->e b=some (.tup g))(h:DvAll Z G d c):oR c=true->DvAll Z e d c:=by
 refine h.ind (p:=λd c=>oR c=true->DvAll Z e d c) (λ_=> .nil) λa _ i f=>?_;rw[oR,ub] at f;exact .cons (a.mD k f.1) (i f.2)
def Pb:HO->Bool
 | .lst _=>true
 | .ext _=>true
 |_=>false
theorem Own.dvL(h:Own Z G H n v d c)(s:aU G a)(k:∀b∈c,∀o,Pb o=true->H b=some o->a b=some o):Dv Z a v d:=h.Ux (λo=>Pb o=true) (λ_=>rfl) (λ_=>rfl) s k
structure Bs where
 G₀:Hp
 H₀:Hp
 Gf:Hp
structure SIx (Z:DC) (B:Bs) (md:List Nat) (ρ:DN) (σ:St) (H G:Hp) (fp:Nat->List Addr):Prop where
 ex:Ext B.G₀ B.H₀ G H
 fl:aU B.Gf G
 len:ρ.length=σ.length
 at_:∀(i:Nat)(d:D),ρ[i]? =some (some d)->∃v,σ[i]? =some (some v)/\Own Z G H (md.getD i 0) v d (fp i)
 nd:∀i,(fp i).Nodup
 ap:∀i j b,i≠j->b∈fp i->b∉fp j
 nw:∀i b,b∈fp i->B.H₀ b=none/\H b≠none/\G b=none
def SI(Z:DC)(B:Bs)(a:List Nat)(b:DN)(c:St)(H:Hp):Prop:=∃G d,SIx Z B a b c H G d
def cH:List Nat->DN->DN
 |_,[]=> []
 | [],o::a=>o::a
 |0::b,o::a=>o::cH b a
 | (_+1)::b,_::a=>none::cH b a
theorem rJ:∀(a:List Nat)(b:DN),(cH a b).length=b.length
 |a,[]=>by cases a<;>rfl
 | [],o::b=>rfl
 |0::a,o::b=>by rw[cH,eX,rJ a b,eX]
 | (_+1)::a,_::b=>by rw[cH,eX,rJ a b,eX]
theorem uX:∀(c:List Nat)(e:DN)(i:Nat),(cH c e)[i]? =some (some d)->c.getD i 0=0/\e[i]? =some (some d)
 |c,[],i,h=>by cases c<;>simp[cH] at h
 | [],o::e,i,h=>⟨by simp,h⟩
 |0::c,o::e,0,h=>⟨rfl,by simpa [cH] using h⟩
 |0::c,o::e,i+1,h=>by
  rw[cH,v8] at h;obtain⟨a,b⟩:=uX c e i h;exact⟨by rw[Ef];exact a,by rw[v8];exact b⟩
 | (_+1)::c,_::e,0,h=>by simp[cH] at h
 | (_+1)::c,_::e,i+1,h=>by
  rw[cH,v8] at h;obtain⟨a,b⟩:=uX c e i h;exact⟨by rw[Ef];exact a,by rw[v8];exact b⟩
def wL(b:List Nat):Bool->DN->DN
 |true,a=>a
 |false,a=>cH b a
def wR:Bool->D->Prop
 |true,d=>mD d=true
 |false,_=>True
section
variable {Z:DC} {B:Bs} {md:List Nat} {ρ:DN} {σ:St} {H G:Hp} {fp:Nat->List Addr}
theorem Jt(h:(cH md ρ)[i]? =some (some d)):md.getD i 0=0/\ρ[i]? =some (some d):=uX md ρ i h
theorem SIx.qB(S:SIx Z B md ρ σ H G fp):dJ Z G σ (cH md ρ):=by
 refine⟨by rw[rJ];exact S.len,λi d h=>?_⟩
 obtain⟨z,h⟩:=Jt h;obtain⟨v,a,o⟩:=S.at_ i d h;rw[z] at o;exact⟨v,a,o.1⟩
theorem SIx.vz(S:SIx Z B md ρ σ H G fp):dJ Z H σ ρ:=by
 refine⟨S.len,λi d h=>?_⟩;obtain⟨v,a,o⟩:=S.at_ i d h;exact⟨v,a,o.dv S.ex.sub λb _ u e=>e⟩
theorem SIx.grow{c f:Hp}(S:SIx Z B md ρ σ H G fp)(x:Ext G H c f):SIx Z B md ρ σ f c fp where
 ex:=S.ex.trans x
 fl:=S.fl.trans x.gg
 len:=S.len
 at_:=λi d h=>by
  obtain⟨v,j,o⟩:=S.at_ i d h;refine⟨v,j,o.keep x.gg λb a=>?_⟩;cases e:H b with
  |none=>exact absurd e (S.nw i b a).2.1
  |some u=>exact x.hh _ _ e
 nd:=S.nd
 ap:=S.ap
 nw:=λi b a=>let ⟨k,g,l⟩:=S.nw i b a;⟨k,gD x.hh g,x.off b g l⟩
theorem Ext.all(s:aU G H)(x:Ext H H b a):Ext G H G a:=⟨.refl _,s.trans x.hh,x.hh,λ_ _ h=>h⟩
open Classical in
noncomputable def je(G H:Hp)(fp:Nat->List Addr):Hp:=λb=>if ∃i,b∈fp i then(match H b with|some (.lst xs)=>some (.lst xs) |some (.ext φ)=>some (.ext φ) |_=>none) else G b
open Classical in
noncomputable def rm(G:Hp)(fp:Nat->List Addr):Hp:=λb=>if ∃i,b∈fp i then none else G b
theorem MC(i:Nat)(h:b∈fp i)(a:Pb o=true)(e:H b=some o):je G H fp b=some o:=by
 unfold je;rw[tz ⟨i,h⟩,e];cases o<;>first|rfl|cases a
theorem rW(h:¬∃i,b∈fp i):je G H fp b=G b:=AC h
theorem SIx.Nz(S:SIx Z B md ρ σ H G fp):aU G (je G H fp)/\aU (je G H fp) H/\dJ Z (je G H fp) σ ρ:=by
 have c:aU G (je G H fp):=λb o e=>by
  by_cases h:∃i,b∈fp i
  ·obtain⟨i,f⟩:=h
   rw[(S.nw i b f).2.2] at e;cases e
  ·rw[rW h];exact e
 refine⟨c,λb o e=>?_,S.len,λi d h=>?_⟩
 ·by_cases h:∃i,b∈fp i
  ·unfold je at e
   rw[tz h] at e
   split at e
   ·next l a=>rw[a];exact e
   ·next m a=>rw[a];exact e
   ·cases e
  ·rw[rW h] at e;exact S.ex.sub _ _ e
 ·obtain⟨v,g,o⟩:=S.at_ i d h
  exact⟨v,g,o.dvL c λb j u k a=>MC i j k a⟩
theorem SIx.UO(S:SIx Z B md ρ σ H G fp)(x:Ext (je G H fp) H a g):Ext G H (rm a fp) g/\∀b d,a b=some (.tup d)->rm a fp b=some (.tup d):=by
 obtain⟨j,l,_⟩:=S.Nz;refine⟨⟨λb o e=>?_,λb o e=>?_,x.hh,λb f k=>?_⟩,λb d e=>?_⟩
 ·have h:¬∃i,b∈fp i:=by
   rintro⟨i,c⟩;rw[(S.nw i b c).2.2] at e;cases e
  unfold rm;rw[AC h];exact x.gg _ _ (j _ _ e)
 ·unfold rm at e
  split at e
  ·cases e
  ·exact x.sub _ _ e
 ·unfold rm
  split
  ·rfl
  ·next h=>exact x.off b f (by rw[rW h];exact k)
 ·have h:¬∃i,b∈fp i:=by
   rintro⟨i,c⟩;have f:=(S.nw i b c).2.1;cases hw:je G H fp b with
   |none=>rw[x.off b f hw] at e;cases e
   |some o=>
    have:=x.gg _ _ hw
    rw[e] at this;cases Do this;unfold je at hw;rw[tz ⟨i,c⟩] at hw
    split at hw<;>cases hw
  unfold rm;rw[AC h];exact e
theorem SIx.ev(S:SIx Z B md ρ σ H G fp)(m:Bool)(h:t (wL md m ρ) P)
  (f:∀d,P d->wR m d/\∀v b a,SIx Z B md ρ σ a b fp->Ext G H b a->Dv Z b v d->Q v a):fb Z t σ H Q:=by
 cases m with
 |false=>exact⟨G,_,P,S.ex.sub,S.qB,h,λd c v b a x dv=>(f d c).2 v b a (S.grow x) x dv⟩
 |true=>
  obtain⟨j,i,e⟩:=S.Nz;refine⟨je G H fp,_,P,i,e,h,λd c v b a x dv=>?_⟩;obtain⟨g,k⟩:=S.UO x;exact(f d c).2 v _ a (S.grow g) g (dv.mD k (f d c).1)
theorem SIx.evT(S:SIx Z B md ρ σ H G fp)(h:t ρ P)(c:∀b,P b->∀a,SIx Z B md ρ σ a G fp->Q b a):liftT Z t σ H Q:=
 ⟨H,ρ,P, .refl _,S.vz,h,λb d e a x=>c b d a (S.grow (Ext.all S.ex.sub x))⟩
theorem SIx.kE{i:Nat}{v:V}{d:D}(S:SIx Z B md ρ σ H G fp)(l:md.getD i 0=0)(dv:Dv Z G v d):SIx Z B md (ρ.set i (some d)) (σ.set i (some v)) H G (λj=>if j=i then[] else fp j) where
 ex:=S.ex
 fl:=S.fl
 len:=by rw[jB,jB];exact S.len
 at_:=λj c h=>by
  by_cases z:i=j
  ·subst z
   by_cases a:i<ρ.length
   ·rw[iR a] at h
    cases Do h;exact⟨v,iR (by rw[<-S.len];exact a),by rw[l,tz rfl];exact⟨dv,rfl⟩⟩
   ·rw[zI (gj a),eM (gj a)] at h;cases h
  ·rw[iS z] at h ⊢
   rw[AC (Ne.symm z)];exact S.at_ j c h
 nd:=λj=>by split;exact gZ;exact S.nd j
 ap:=λj k b ne e f=>by
  split at e
  ·cases e
  ·split at f
   ·cases f
   ·exact S.ap j k b ne e f
 nw:=λj b g=>by
  split at g
  ·cases g
  ·exact S.nw j b g
theorem SIx.Br{f:List Addr}(S:SIx Z B md ρ σ H G fp)(m:md.getD i 0=n)(o:Own Z G H n v d f)(nd:f.Nodup)(nw:∀b∈f,B.H₀ b=none/\H b≠none/\G b=none)(ap:∀b∈f,∀j,j≠i->b∉fp j):
  SIx Z B md (ρ.set i (some d)) (σ.set i (some v)) H G (λj=>if j=i then f else fp j) where
 ex:=S.ex
 fl:=S.fl
 len:=by rw[jB,jB];exact S.len
 at_:=λj c h=>by
  by_cases z:i=j
  ·subst z
   by_cases e:i<ρ.length
   ·rw[iR e] at h
    cases Do h;exact⟨v,iR (by rw[<-S.len];exact e),by rw[m,tz rfl];exact o⟩
   ·rw[zI (gj e),eM (gj e)] at h;cases h
  ·rw[iS z] at h ⊢
   rw[AC (Ne.symm z)];exact S.at_ j c h
 nd:=λj=>by split;exact nd;exact S.nd j
 ap:=λj k b ne g a=>by
  split at g
  ·next z=>
   rw[AC (λw=>ne (z.trans w.symm))] at a;exact ap b g k (λw=>ne (z.trans w.symm)) a
  ·next z=>
   split at a
   ·exact ap b a j z g
   ·exact S.ap j k b ne g a
 nw:=λj b l=>by
  split at l
  ·exact nw b l
  ·exact S.nw j b l
noncomputable def plus(G H:Hp)(F:Addr->Prop):Hp:=λb=>open Classical in if F b then H b else G b
theorem mG(h:F b):plus G H F b=H b:=by unfold plus;rw[tz h]
theorem jb(h:¬F b):plus G H F b=G b:=by unfold plus;rw[AC h]
theorem j5(s:aU G H):aU (plus G H F) H:=λb o e=>by
 by_cases h:F b
 ·rw[mG h] at e;exact e
 ·rw[jb h] at e;exact s _ _ e
theorem fE(s:aU G H):aU G (plus G H F):=λb o e=>by
 by_cases h:F b
 ·rw[mG h];exact s _ _ e
 ·rw[jb h];exact e
theorem SIx.evR(S:SIx Z B md ρ σ H G fp)(h:t ρ P)(g:∀d,P d->∀v a c,Ext B.G₀ B.H₀ a c->Dv Z a v d->Q v c):fb Z t σ H Q:=by
 let F:Addr->Prop:=λb=>∃i,b∈fp i
 have s:=S.ex.sub
 have j:Ext B.G₀ B.H₀ (plus G H F) H:=⟨S.ex.gg.trans (fE s),j5 s,S.ex.hh,λb f k=>by
  rw[jb (λ⟨i,l⟩=>f (S.nw i b l).1)];exact S.ex.off b f k⟩
 refine⟨plus G H F,ρ,P,j5 s,⟨S.len,λi d h=>?_⟩,h,λd m v a c x dv=>g d m v a c (j.trans x) dv⟩;obtain⟨v,n,o⟩:=S.at_ i d h;exact⟨v,n,o.dv (fE s) λb f u e=>by rw[mG ⟨i,f⟩];exact e⟩
end
structure cT where
 nx:DN->Prop
 rt:D->Prop
 bk:DN->Prop:=λ_=>False
 ct:DN->Prop:=λ_=>False
 xc:DN->D->Prop:=λ_ _=>False
abbrev cy:=cT->DN->Prop
structure Meets (Z:DC) (X:Cx) (B:Bs) (md:List Nat) (rn:Nat) (E:cT) (Dn:Ends):Prop where
 nx:∀ρ,E.nx ρ->∀σ H,SI Z B md ρ σ H->Dn.nx σ H
 rt:∀d,E.rt d->∀v f G' H',Ext B.G₀ B.H₀ G' H'->Own Z G' H' rn v d f->f.Nodup->(∀b∈f,B.H₀ b=none/\H' b≠none/\G' b=none)->Dn.rt v H'
 bk:∀ρ,E.bk ρ->∀σ H,SI Z B md ρ σ H->Dn.bk σ H
 ct:∀ρ,E.ct ρ->∀σ H,SI Z B md ρ σ H->Dn.ct σ H
 xc:∀ρ d,E.xc ρ d->∀σ H G fp a,SIx Z B md ρ σ H G fp->Dv Z G (.ref a) d->Et X σ H a
def mV(Z:DC)(X:Cx)(a:List Nat)(c:Nat)(t:cy):TS:=λd e H=>∃(B:Bs)(b:DN)(E:cT),SI Z B a b e H/\t E b/\Meets Z X B a c E d
def DSt(Z:DC)(X:Cx)(a:List Nat)(b:Nat)(st:Stmt)(t:cy):Prop:=PS X st (mV Z X a b t)
def DSs(Z:DC)(X:Cx)(a:List Nat)(b:Nat)(c:List Stmt)(t:cy):Prop:=kH X c (mV Z X a b t)
theorem PS.imp{X:Cx}{st:Stmt}{t c:TS}(h:PS X st t)(f:∀D b H,c D b H->t D b H):PS X st c:=λa s b H D I q=>h a s b H D I (f _ _ _ q)
theorem kH.imp{X:Cx}{st:List Stmt}{t c:TS}(h:kH X st t)(f:∀D b H,c D b H->t D b H):kH X st c:=λa s b H D I q=>h a s b H D I (f _ _ _ q)
section
variable {Z:DC} {X:Cx} {md:List Nat} {rn:Nat} {st:Stmt} {Ql:List Stmt} {t u:cy} {e:Expr} {te:aX} {pos:Pos}
def um:cy:=λE a=>E.nx a
def AB(t u:cy):cy:=λE a=>t {E with nx:=u E} a
theorem aM:DSs Z X md rn [] um:=by
 refine Gg.imp λD b H a=>?_;obtain⟨B,c,E,S,h,M⟩:=a;exact M.nx _ h _ _ S
theorem ah(a:DSt Z X md rn st t)(b:DSs Z X md rn Ql u):DSs Z X md rn (st::Ql) (AB t u):=by
 refine(fF a b).imp λD k H c=>?_;rfl';obtain⟨B,f,E,S,h,M⟩:=c;ac_rfl;exact⟨B,f,_,S,h,⟨λg i m n j=>⟨B,g,E,j,i,M⟩,M.rt,M.bk,M.ct,M.xc⟩⟩
theorem ao(a:DSt Z X md rn st t):DSs Z X md rn [st] t:=oZ a
theorem ur:DSt Z X md rn st (λ_ _=>False):=by
 refine Mg.imp λD b H a=>?_;obtain⟨B,c,E,S,h,M⟩:=a;exact h
def ZO(a:aX):cy:=λE b=>a b E.rt
theorem aK(a:DE Z X e te):DSt Z X md 0 (.Return (some e) pos) (ZO te):=by
 refine(xg a).imp λD l H c=>?_;rfl';obtain⟨B,n,E,⟨G,o,S⟩,h,M⟩:=c;ac_rfl;exact S.evR h λd g v i j x dv=>M.rt d g v [] i j x ⟨dv,rfl⟩ gZ (λb k=>by cases k)
def V0(i:Nat):cy:=λE a=>∃d,a[i]? =some (some d)/\E.rt d
theorem E2(i:Nat)(f:md.getD i 0=rn:=by rfl)(g:X.N[i]? =some x:=by rfl)(a:mh X.env.scope x:=by first|exact Or.inl rfl|exact Or.inr (Or.inl rfl) |exact Or.inr (Or.inr rfl))(b:(x==("__debug__":Str))=false:=by decide)(j:(x==("__classdict__":Str))=false:=by decide):
  DSt Z X md rn (.Return (some (.Name x c)) pos) (V0 i):=by
 refine(xg (DH g a b j)).imp λD n H k=>?_;rfl';obtain⟨B,q,E,⟨G,m,S⟩,⟨d,b,h⟩,M⟩:=k;obtain⟨v,a,o⟩:=S.at_ i d b;rw[f] at o;ac_rfl;exact⟨v,a,M.rt d h v (m i) G H S.ex o (S.nd i) (S.nw i)⟩
def AA(c:dG)(t u:cy):cy:=λE a=>c a λb=>if b=true then t E a else u E a
theorem bA(j:DT Z X c tc)(k:DSs Z X md rn a t)(d:DSs Z X md rn b u):DSt Z X md rn (.If c a b pos) (AA tc t u):=by
 refine(Py j k d).imp ?_;intro D n H l;rfl';obtain⟨B,f,E,⟨G,g,S⟩,h,M⟩:=l;ac_rfl;refine S.evT h λb d p i=>?_;cases b with
 |true=>exact dq ⟨B,f,E,⟨G,g,i⟩,(d),M⟩
 |false=>exact bS ⟨B,f,E,⟨G,g,i⟩,(d),M⟩
def AD(b:List Nat)(m:Bool)(i:Nat)(c:aX):cy:=λE a=>c (wL b m a) λd=>wR m d/\E.nx (a.set i (some d))
theorem aJ(m:Bool)(i:Nat)(g:X.N.Nodup)(j:DE Z X e k)(l:c.getD i 0=0:=by rfl)(n:X.N[i]? =some x:=by rfl)(o:Loc X.env.scope x:=by first|exact Or.inl rfl|exact Or.inr rfl)(p:swapsWith e (some (.Name x a)) b.line X.env=pure false:=by rfl)
  (q:X.fn x=true\/X.env.scope.names.lookup x=some .local:=by first|exact .inl rfl|exact .inr rfl|assumption):DSt Z X c z (.Assign [.Name x a] e b) (AD c m i k):=by
 refine(jj g n o j p q).imp ?_;intro D A H r;rfl';obtain⟨B,F,E,⟨G,I,S⟩,h,M⟩:=r;ac_rfl;exact S.ev m h λd f=>⟨f.1,λv w J y x dv=>M.nx _ f.2 _ _ ⟨w,_,y.kE l dv⟩⟩
theorem qe(i:Nat){NC:List Str}{src:List (Option Nat)}(q:X.calm=true)(r:X.N.Nodup)(c:bP X a)(w:dj a X.N src NC)(y:DI Z X k iter n)
  (z:∀j s H,DG Z (bY X a NC j s H) k g) (A:∀j s H,xq Z (bY X a NC j s H) f o) (C:∀j s H,DE Z (bY X a NC j s H) b te)
  (F:swapsWith (.ListComp b [⟨k,iter,f,0⟩] a pos) (some (.Name x l)) m.line X.env=pure true:=by rfl) (I:md.getD i 0=0:=by rfl) (J:X.N[i]? =some x:=by rfl) (L:Loc X.env.scope x:=by first|exact Or.inl rfl|exact Or.inr rfl)
  (O:X.fn x=true\/X.env.scope.names.lookup x=some .local:=by first|exact .inl rfl|exact .inr rfl|assumption)
  (Q:∀x,foldedSetIterable iter X.env x=pure x:=by intro _;rfl):DSt Z X md rn (.Assign [.Name x l] (.ListComp b [⟨k,iter,f,0⟩] a pos) m) (AD md false i (VR n g o te src)):=by
 refine(ql q r J L c w y z A C F O Q).imp ?_;intro D R H T;rfl';obtain⟨B,u,E,⟨G,fp,S⟩,h,M⟩:=T;ac_rfl;refine Kx R H _ (S.ev false h λd p=>⟨p.1,λv Y H' e x dv=>M.nx _ p.2 _ _ ⟨Y,_,e.kE I dv⟩⟩)
end
end L2
namespace L2
open PySem PySem.Spec PyProof.Rows
section
variable {Z:DC} {X:Cx} {B:Bs} {md:List Nat} {rn:Nat} {ρ:DN} {σ:St} {H G:Hp} {fp:Nat->List Addr}
def Kw(Z:DC)(a:List Nat)(g:dZ):TG:=λv f H Q=>∃(B:Bs)(b:DN)(d:D)(P:DN->Prop)(G:Hp)(h:Nat->List Addr),SIx Z B a b f H G h/\Dv Z G v d/\g d b P/\∀c,P c->∀e i,SIx Z B a c e H G i->Q e H
def OP(Z:DC)(a:List Nat)(g:nE):zQ:=λf h H Q=>∃(B:Bs)(b:DN)(c:List D)(P:DN->Prop)(G:Hp)(i:Nat->List Addr),SIx Z B a b h H G i/\DvAll Z G f c/\g c b P/\∀d,P d->∀e j,SIx Z B a d e H G j->Q e H
def GZ(Z:DC)(X:Cx)(a:List Nat)(e:Expr)(g:dZ):Prop:=PG X e (Kw Z a g)
def J6(Z:DC)(X:Cx)(a:List Nat)(b:List Expr)(g:nE):Prop:=BM X b (OP Z a g)
theorem aE(i:Nat)(b:X.N.Nodup)(c:e.getD i 0=0:=by rfl)(f:X.N[i]? =some x:=by rfl)(g:Loc X.env.scope x:=by first|exact Or.inl rfl|exact Or.inr rfl)(j:X.fn x=true\/X.env.scope.names.lookup x=some .local:=by first|exact .inl rfl|exact .inr rfl|assumption):GZ Z X e (.Name x a) (qa i):=by
 refine(Gb b f g j).imp λv m H Q k=>?_;rfl';obtain⟨B,o,d,P,G,p,S,dv,h,q⟩:=k;ac_rfl;exact q _ h _ _ (S.kE c dv)
theorem cL:J6 Z X md [] Nl:=by
 refine y8.imp λv c H Q a=>?_;rfl';obtain⟨B,e,f,P,G,g,S,dv,⟨h,p⟩,q⟩:=a;subst h;cases dv;ac_rfl;exact⟨rfl,q _ p _ _ S⟩
theorem aV(d:GZ Z X md e g)(f:J6 Z X md b c)(i:(assignEach (e::b) X.env).map (·.2)=assign e X.env::(assignEach b X.env).map (·.2):=by rfl):J6 Z X md (e::b) (Kk g c):=by
 refine(qk d f i).imp ?_;intro v s H Q j;rfl';obtain⟨B,l,u,P,G,m,S,dv,h,q⟩:=j;ac_rfl;cases dv with
 |nil=>exact h.elim
 |cons a as=>exact⟨_,_,rfl,B,l,_,_,G,m,S,a,h,λn o w p r=>⟨B,n,_,P,G,p,r,as,o,q⟩⟩
theorem fo(n:Nat)(f:X.calm=true)(h:J6 Z X md b e)(g:(assignEach b X.env).length=n:=by rfl)(i:(assignEach b X.env).findIdx? (·.1)=none:=by rfl):GZ Z X md (.Tuple b k c) (Nm n e):=by
 refine(DJ f h g i).imp ?_;rintro v p H Q ⟨B,j,d,P,G,l,S,dv,h,q⟩;cases dv<;>first|exact h.elim|skip
 rename_i a m r o b
 exact⟨a,m,rfl,fX.of (S.ex.sub _ _ o),by rw[b.length];exact h.1,B,j,_,P,G,l,S,b,h.2,q⟩
def Zx(b:List Nat)(c:aX)(g:dZ):cy:=λE a=>c (cH b a) λd=>g d a E.nx
theorem Kn(i:DE Z X e c)(j:GZ Z X md a g)(k:swapsWithSole [a] e b.line X.env=pure false:=by rfl)(hw:swappedStores [a] e X.env=pure none:=by rfl)
  (l:(assignEach [a] X.env).map (·.2)= [assign a X.env]:=by rfl):DSt Z X md rn (.Assign [a] e b) (Zx md c g):=by
 refine(xf i j k hw l).imp ?_;intro D w H m;rfl';obtain⟨B,o,E,⟨G,p,S⟩,h,M⟩:=m;ac_rfl;exact S.ev false h λd q=>⟨trivial,λv f z r x dv=>⟨B,o,d,E.nx,f,p,r,dv,q,λA s C t u=>M.nx _ s _ _ ⟨f,t,u⟩⟩⟩
def kU(g:dZ)(a:cy)(E:cT):List D->DN->Prop
 | [],b=>E.nx b
 |x::c,b=>g x b λd=>a {nx:=kU g a E c,ct:=kU g a E c,bk:=E.nx,rt:=E.rt,xc:=E.xc} d
def Us(b:List Nat)(m:Bool)(c:hZ)(g:dZ)(d:cy):cy:=λE a=>c (wL b m a) λe=>kU g d E e a
theorem AM(S:SIx Z B md h c H G fp)(O:vc Z G J k)(Q:kU g r E k h)(M:Meets Z X B md rn E q):
  ∃W:Nat->Nat->St->Hp->Prop,(∃m,W 0 m c H)/\∀i m c H,W i m c H->
   (J.stop i H/\q.nx c H)\/(J.go i H/\∃N:St->Hp->Prop,(∀j a,N j a->∃F,F<m/\W (i+1) F j a)/\∀x a,J.yld i H x a->Kw Z md g x c a λI v=>mV Z X md rn r {q with nx:=N,ct:=N,bk:=q.nx} I v):=by
 let p:Bs:={B with Gf:=G}
 have back:∀h c H,SI Z p md h c H->SI Z B md h c H:=λh c H ⟨s,t,f⟩=>⟨s,t,⟨f.ex,S.fl.trans f.fl,f.len,f.at_,f.nd,f.ap,f.nw⟩⟩;have R:SIx Z p md h c H G fp:=⟨S.ex, .refl _,S.len,S.at_,S.nd,S.ap,S.nw⟩;refine⟨λi m c H=>m=k.length-i/\i<=k.length/\∃h,SI Z p md h c H/\kU g r E (k.drop i) h,⟨_,rfl,eN _,h,⟨G,fp,R⟩,Q⟩,?_⟩;intro i m I v T;rfl';obtain⟨rfl,hi,Y,⟨s,t,f⟩,u⟩:=T;obtain⟨go,stop,yld⟩:=O s v f.fl f.ex.sub i;ac_rfl
 by_cases z:i<k.length
 ·refine .inr ⟨go z,λj a=>∃l,SI Z p md l j a/\kU g r E (k.drop (i+1)) l,λj a n=>⟨k.length-(i+1),by omega,rfl,z,n⟩,λx a y=>?_⟩
  rfl';obtain⟨L,d,x3,Fn,dv⟩:=yld x a z y;rw[oH Fn] at u;ac_rfl;refine⟨p,Y,d,_,L,t,f.grow x3,dv,u,λA h4 fV C S4=>?_⟩;exact⟨p,A,_,⟨L,C,S4⟩,h4,⟨λl o j a b=>⟨l,b,o⟩,M.rt,λl o j a b=>M.nx _ o _ _ (back _ _ _ b),λl o j a b=>⟨l,b,o⟩,λl d o j a G' qZ a' b iZ=>M.xc l d o j a G' qZ a' ⟨b.ex,S.fl.trans b.fl,b.len,b.at_,b.nd,b.ap,b.nw⟩ iZ⟩⟩
 ·have e:k.drop i= []:=BB (by omega)
  rw[e] at u;exact .inl ⟨stop (by omega),M.nx _ u _ _ (back _ _ _ ⟨s,t,f⟩)⟩
variable {tg iter:Expr} {body:List Stmt} {wi:hZ} {g:dZ} {tb:cy} {pos:Pos}
theorem b6(a:X.calm=true)(b:PassesOwn (model X.prog X.w) X.A X.env X.xe)(c:DI Z X tg iter wi)(d:GZ Z X md tg g)(e:DSs Z X md rn body tb)
  (f:∀x,foldedSetIterable iter X.env x=pure x:=by intro _;rfl):DSt Z X md rn (.For tg iter body [] pos) (Us md false wi g tb):=by
 refine(DL b a c d e f).imp ?_;intro D n H i;rfl';obtain⟨B,p,E,⟨G,q,S⟩,h,M⟩:=i;ac_rfl;exact⟨G,_,_,S.ex.sub,S.qB,h,λr k J s t l m=>AM (S.grow l) m k M⟩
def RU(Z:DC)(d:hZ):TI:=λe H R=>∃(G:Hp)(a:DN)(P:List D->Prop),aU G H/\dJ Z G e a/\d a P/\∀b,P b->∀J f c,Ext G H f c->(∀h,vc Z h J b)->R J c
def Yi(Z:DC)(X:Cx)(a e:Expr)(b:hZ):Prop:=PI X a e (RU Z b)
theorem ke(a:X.calm=true)(b:PassesOwn (model X.prog X.w) X.A X.env X.xe)(c:Yi Z X tg iter wi)(d:GZ Z X md tg g)(e:DSs Z X md rn body tb)
  (f:∀x,foldedSetIterable iter X.env x=pure x:=by intro _;rfl):DSt Z X md rn (.For tg iter body [] pos) (Us md true wi g tb):=by
 refine(DL b a c d e f).imp ?_;intro D o H i;rfl';obtain⟨B,k,E,⟨G,q,S⟩,h,M⟩:=i;ac_rfl;exact⟨H,k,_, .refl _,S.vz,h,λr l J s t m n=>AM (S.grow (Ext.all S.ex.sub m)) (n _) l M⟩
variable {a b e:Expr} {ta te:aX} {t:gk}
theorem gN(d:Gl X "range")(f:X.mg "range"=none)(i:DA Z X [a] t)(j:starEach [a] X.env= [(false,eval a X.env)]:=by rfl):Yi Z X tg (.Call (.Name "range" p) [a] [] pos) (Uw t):=by
 refine(y9 d f i j).imp ?_;intro v H Q k;rfl';obtain⟨G,m,P,s,n,h,q⟩:=k;ac_rfl;refine⟨G,m,_,s,n,h,λx c y o r u dv=>?_⟩
 split at c
 ·obtain⟨_,rfl,a⟩:=dv.ofOne
  exact⟨_,by rw[a.ofInt],c.1.1,c.1.2,q _ c.2 _ o r u λ_=>AS 0 _⟩
 ·exact c.elim
def Kf(c:dG)(i:cy):cy:=λE d=>∃W:Nat->DN->Prop,(∃m,W m d)/\∀m d,W m d->c d λb=>if b=true then i {nx:=λh=>∃f,f<m/\W f h,ct:=λh=>∃f,f<m/\W f h,bk:=E.nx,rt:=E.rt,xc:=E.xc} d else E.nx d
theorem qf(y:PassesOwn (model X.prog X.w) X.A X.env X.xe)(z:DT Z X c tc)(k:DSs Z X md rn body tb):DSt Z X md rn (.While c body [] pos) (Kf tc tb):=by
 refine(Mh y z k).imp ?_;intro D r H o;rfl';obtain⟨B,l,E,S,⟨W,⟨F,I⟩,turn⟩,M⟩:=o;ac_rfl;refine⟨λm r H=>∃l,SI Z B md l r H/\W m l,⟨F,l,S,I⟩,?_⟩;intro m O Q o;rfl';obtain⟨s,⟨u,v,J⟩,L⟩:=o;ac_rfl;refine J.evT (turn m s L) λb k h x=>?_;cases b with
 |false=>exact bS (M.nx _ (k) _ _ ⟨u,v,x⟩)
 |true=>
  refine dq ⟨λn h=>∃d f,f<m/\SI Z B md d n h/\W f d,λn h ⟨d,f,i,j,N⟩=>⟨f,i,d,j,N⟩,B,s,_,⟨u,v,x⟩,(k),?_⟩;exact⟨λd ⟨f,i,j⟩ n h q=>⟨d,f,i,q,j⟩,M.rt,M.nx,λd ⟨f,i,j⟩ n h q=>⟨d,f,i,q,j⟩,M.xc⟩
abbrev hU:=DN->(List D->Prop)->Prop
def rz(Z:DC)(n:Nat)(t:hU):TE:=λj H Q=>∃(G:Hp)(h:DN)(P:List D->Prop),aU G H/\dJ Z G j h/\t h P/\∀i,P i->∀v f d c,Ext G H d c->Own Z d c n v (.lst i) f->f.Nodup->(∀b∈f,H b=none/\c b≠none/\d b=none)->Q v c
def DF(Z:DC)(X:Cx)(n:Nat)(e:Expr)(t:hU):Prop:=PE X e (rz Z n t)
theorem Ext.side(x:Ext G H d c)(f:c p=none):Ext G H d (upd c p o):=
 ⟨x.gg,λb u e=>by rw[ax (aB e (x.sub.free f))];exact x.sub _ _ e,x.hh.trans (aW f _),x.off⟩
theorem oX(x:Ext G H d f)(i:f p=none)(dv:DvAll Z d c h):
  Own Z d (upd f p (.lst c)) 1 (.ref p) (.lst h) [p]/\([p]:List Addr).Nodup/\∀b∈([p]:List Addr),H b=none/\(upd f p (.lst c)) b≠none/\d b=none:=by
 refine⟨.inl ⟨p,c,h,[],rfl,rfl,av,rfl,dv.own⟩,by simp,λb j=>?_⟩
 have:b=p:=by simpa using j
 subst this;exact⟨x.hh.free i,(av▸λz=>nomatch z),x.sub.free i⟩
def UG(t:gk):hU:=λd P=>t d λc=>c.length<=sizeLine/\P c
theorem fm(h:DA Z X c t):DF Z X 1 (.List c pos) (UG t):=by
 refine(w6 h).imp ?_;intro v H Q j;rfl';obtain⟨G,l,P,s,e,h,q⟩:=j;ac_rfl;refine⟨G,l,_,s,e,h,?_⟩;rintro x ⟨m,n⟩ y z A d f;refine⟨by rw[f.length];exact m,λp i=>?_⟩
 obtain⟨o,r,u⟩:=oX d i f;exact q _ n _ _ _ _ (d.side i) o r u
def ND(c:aX):hU:=λf P=>c f λd=>match d with
 | .lst l=>P l
 | .tup l=>P l
 |_=>False
theorem EZ{x:Str}{p:Pos}(F:x="list")(n:Gl X x)(o:X.mg x=none)(r:bootBuiltins x=some (.type "list"))(u:DE Z X a ta)(w:x≠"__name__":=by decide)(y:(x==("__debug__":Str))=false:=by decide)
  (m:starEach [a] X.env=(false,eval a X.env)::starEach [] X.env:=by rfl) (z:(backTo pos (starEach [] X.env)).any (·.1)=false:=by rfl):DF Z X 1 (.Call (.Name x p) [a] [] pos) (ND ta):=by
 refine(rG qy n o r (bM u df m) w y m z).imp ?_;intro I H Q A;rfl';obtain⟨G,E,P,s,e,h,q⟩:=A;ac_rfl;refine⟨G,E,_,s,e,h,λd i v L M c dv=>?_⟩;cases dv<;>first|exact i.elim|skip
 ·rename_i h e
  refine⟨_,_,rfl, .inl (b0.of (c.sub _ _ h)),λp f=>?_⟩;obtain⟨j,k,l⟩:=oX c f e;exact q _ i _ _ _ _ (c.side f) j k l
 ·rename_i h e
  refine⟨_,_,rfl, .inr (fX.of (c.sub _ _ h)),λp f=>?_⟩;obtain⟨j,k,l⟩:=oX c f e;exact q _ i _ _ _ _ (c.side f) j k l
def Rg(d:hZ)(g:dZ)(f:dG)(h:aX)(src:List (Option Nat)):hU:=λc P=>d c λi=>lcW g f h i (zj src c) [] λ_ out=>P out
theorem yK:∀u H Q,rz Z 1 (Rg wi g r te src) u H Q->Qo (uG Z wi) (rA Z g) (liftT Z r) (fb Z te) src u H Q:=by
 intro u H Q O;rfl';obtain⟨G,T,P,s,w,h,q⟩:=O;ac_rfl;refine⟨G,T,_,s,w,h,λj U J C Y f E k x=>?_⟩;refine⟨λi m y l=>m=j.length-i/\i<=j.length/\∃o d,CS Z C Y k o d y l/\lcW g r te (j.drop i) o d λ_ out=>P out,⟨_,rfl,eN _,_,[], .begin f.sub x ((w.mono f.gg).src src),U⟩,?_⟩;rintro i m y l ⟨rfl,hi,o,d,c,A⟩
 by_cases F:i<j.length
 ·obtain⟨a,turn⟩:=AZ x C E i o d y l c (λ_ s=>s) F A
  exact .inr ⟨a,_,λay H' n=>⟨j.length-(i+1),by omega,rfl,F,n⟩,turn⟩
 ·have e:j.drop i= []:=BB (by omega)
  rfl';rw[e] at A;obtain⟨I,t,L,M,B,off,X,N,bB,w⟩:=c;ac_rfl;refine .inl ⟨(E I l L M i).2.1 (by omega),q _ A (.ref k) [k] I l ⟨f.gg.trans L,M,f.hh.trans B,λb p hg=>off b (gD f.hh p) (f.off b p hg)⟩ (.inl ⟨k,t,d,[],rfl,rfl,N,rfl,bB.own⟩) (by simp) λb p=>?_⟩
  have:b=k:=by simpa using p
  subst this;exact⟨f.hh.free x,(by rw[N];exact λz=>nomatch z),X⟩
variable {elt:Expr} {ifs:List Expr} {scope:Scope} {NC:List Str} {src:List (Option Nat)} {tt:dG}
def M9(d:List Nat)(i:Nat)(t:hU):cy:=λE c=>t (cH d c) λf=>E.nx (c.set i (some (.lst f)))
theorem uI{t:hU}(p:md.getD i 0=n)(S:SIx Z B md ρ σ H G fp)(h:t (cH md ρ) λl=>E.nx (ρ.set i (some (.lst l))))(M:Meets Z X B md rn E k):rz Z n t σ H λv m=>k.nx (σ.set i (some v)) m:=by
 refine⟨G,_,_,S.ex.sub,S.qB,h,λl q v f r m x o s d=>?_⟩;refine M.nx _ q _ _ ⟨r,_,(S.grow x).Br p o s (λb c=>⟨S.ex.hh.free (d b c).1,(d b c).2⟩) λb c j _ u=>(S.nw j b u).2.1 (d b c).1⟩
theorem eJ(i:Nat){t:hU}(j:X.N.Nodup)(k:DF Z X n e t)(l:f.getD i 0=n:=by rfl)(m:X.N[i]? =some x:=by rfl)(o:Loc X.env.scope x:=by first|exact Or.inl rfl|exact Or.inr rfl)(p:swapsWith e (some (.Name x c)) d.line X.env=pure false:=by rfl)
  (q:X.fn x=true\/X.env.scope.names.lookup x=some .local:=by first|exact .inl rfl|exact .inr rfl|assumption):DSt Z X f u (.Assign [.Name x c] e d) (M9 f i t):=by
 refine(jj j m o k p q).imp ?_;intro D v H r;rfl';obtain⟨B,y,E,⟨G,z,S⟩,h,M⟩:=r;ac_rfl;exact uI l S h M
theorem mn(i:Nat)(k:X.calm=true)(l:X.N.Nodup)(c:bP X scope)(m:dj scope X.N src NC)(n:DI Z X tg iter wi)
  (o:∀d s H,DG Z (bY X scope NC d s H) tg g) (p:∀d s H,xq Z (bY X scope NC d s H) ifs tt) (q:∀d s H,DE Z (bY X scope NC d s H) elt te)
  (r:swapsWith (.ListComp elt [⟨tg,iter,ifs,0⟩] scope pos) (some (.Name x f)) j.line X.env=pure true:=by rfl) (u:md.getD i 0=1:=by rfl) (v:X.N[i]? =some x:=by rfl) (w:Loc X.env.scope x:=by first|exact Or.inl rfl|exact Or.inr rfl)
  (y:X.fn x=true\/X.env.scope.names.lookup x=some .local:=by first|exact .inl rfl|exact .inr rfl|assumption)
  (z:∀x,foldedSetIterable iter X.env x=pure x:=by intro _;rfl):DSt Z X md rn (.Assign [.Name x f] (.ListComp elt [⟨tg,iter,ifs,0⟩] scope pos) j) (M9 md i (Rg wi g tt te src)):=by
 refine(ql k l v w c m n o p q r y z).imp ?_;intro D A H C;rfl';obtain⟨B,J,E,⟨G,L,S⟩,h,M⟩:=C;ac_rfl;exact yK A H _ (uI u S h M)
end
section
variable {Z:DC} {X:Cx} {B:Bs} {md:List Nat} {rn:Nat} {ρ:DN} {σ:St} {H G:Hp} {fp:Nat->List Addr} {a e k o:Expr} {ta te tk tp:aX} {pos apos aN p2:Pos}
theorem SIx.mut{b:Addr}(S:SIx Z B md ρ σ H G fp)(r:σ[i]? =some (some v))(n:b∈fp i)(o:Own Z G (upd H b c) (md.getD i 0) v m (fp i)):SIx Z B md (ρ.set i (some m)) σ (upd H b c) G fp where
 ex:=by
  obtain⟨d,p,f⟩:=S.nw i b n;exact⟨S.ex.gg,λx u e=>by rw[ax (aB e f)];exact S.ex.sub _ _ e,λx u e=>by rw[ax (aB e d)];exact S.ex.hh _ _ e,S.ex.off⟩
 fl:=S.fl
 len:=by rw[jB];exact S.len
 at_:=λj w h=>by
  by_cases z:i=j
  ·subst z
   by_cases g:i<ρ.length
   ·rw[iR g] at h
    cases Do h;exact⟨v,r,o⟩
   ·rw[zI (gj g),eM (gj g)] at h;cases h
  ·rw[iS z] at h
   obtain⟨u,s,t⟩:=S.at_ j w h;exact⟨u,s,t.keep (.refl _) λx l=>ax λq=>S.ap i j b z n (q▸l)⟩
 nd:=S.nd
 ap:=S.ap
 nw:=λj x l=>by
  obtain⟨d,p,f⟩:=S.nw j x l;refine⟨d,?_,f⟩
  by_cases z:x=b
  ·rw[z,av];exact λq=>nomatch q
  ·rw[ax z];exact p
theorem SIx.one(S:SIx Z B md ρ σ H G fp)(j:md.getD i 0=1)(h:ρ[i]? =some (some d)):∃l b c,d= .lst c/\σ[i]? =some (some (.ref l))/\H l=some (.lst b)/\DvAll Z G b c/\
  ∀f g,DvAll Z G f g->SIx Z B md (ρ.set i (some (.lst g))) σ (upd H l (.lst f)) G fp:=by
 rfl';obtain⟨v,m,o⟩:=S.at_ i d h;rw[j] at o;obtain⟨l,b,c,u,rfl,rfl,q,n,r⟩:=o.one;obtain⟨dv,rfl⟩:=r.flat;ac_rfl;refine⟨l,b,c,rfl,m,q,dv,λf g s=>S.mut m (by rw[n];simp) ?_⟩
 rw[j,n];exact .inl ⟨l,f,g,[],rfl,rfl,av,rfl,s.own⟩
theorem cX.U9:∀{n:List V}{q:List D}{m:List Addr}(p:Nat){dp:D},cX (Own Z G H 1) n q m->m.Nodup->q[p]? =some dp->∃l c g,dp= .lst g/\n[p]? =some (.ref l)/\H l=some (.lst c)/\DvAll Z G c g/\l∈m/\
  ∀i j,DvAll Z G i j->cX (Own Z G (upd H l (.lst i)) 1) n (q.set p (.lst j)) m
 |_,_,_,_,_, .nil,_,h=>by simp at h
 |_,_,_,0,dp, .cons (f:=f) (fs:=fs) a as,s,h=>by
  simp at h;subst h;rfl';obtain⟨l,c,g,m,rfl,rfl,E,u,F⟩:=a.one;obtain⟨dv,rfl⟩:=F.flat;subst u;ac_rfl;refine⟨l,c,g,rfl,rfl,E,dv,by simp,λi j w=> .cons (.inl ⟨l,i,j,[],rfl,rfl,av,rfl,w.own⟩) (as.imp λv d f u r=>r.keep (.refl _) λb x=>ax λz=>?_)⟩
  have:=(gF.mp s).1
  exact this (z▸u _ x)
 |_,_,_,p+1,dp, .cons (f:=f) (fs:=fs) a as,s,h=>by
  rfl';obtain⟨I,J,y⟩:=gX.mp s;obtain⟨l,c,g,L,M,N,O,A,Q⟩:=cX.U9 p (dp:=dp) as J (by simpa using h)
  ac_rfl;refine⟨l,c,g,L,by simpa using M,N,O,dW _ A,λi j w=>?_⟩
  refine .cons (a.keep (.refl _) λb x=>ax λz=>?_) (Q i j w);exact y b x l A z
theorem SIx.two{i p:Nat}(S:SIx Z B md ρ σ H G fp)(n:md.getD i 0=2)(h:ρ[i]? =some (some (.lst c)))(w:c[p]? =some dp):∃T b l d f,dp= .lst f/\σ[i]? =some (some (.ref T))/\H T=some (.lst b)/\b.length=c.length/\b[p]? =some (.ref l)/\H l=some (.lst d)/\DvAll Z G d f/\
  ∀g j,DvAll Z G g j->SIx Z B md (ρ.set i (some (.lst (c.set p (.lst j))))) σ (upd H l (.lst g)) G fp:=by
 rfl';obtain⟨v,q,o⟩:=S.at_ i _ h;rw[n] at o;obtain⟨T,b,Q,y,rfl,A,r,m,s⟩:=o.lst;cases A;have t:=S.nd i;rw[m] at t;obtain⟨C,E⟩:=gF.mp t;obtain⟨l,d,f,F,I,J,L,u,M⟩:=cX.U9 p s E w;ac_rfl;refine⟨T,b,l,d,f,F,q,r,s.length,I,J,L,λg j N=>S.mut q (by rw[m];exact bU _ u) ?_⟩
 rw[n,m];exact .inl ⟨T,b,_,y,rfl,rfl,by rw[ax (λz=>C (by rw[z];exact u))];exact r,rfl,M g j N⟩
theorem ty_list{K:PySem.W.Frag}{l:Addr}{b:List V}(h:H l=some (.lst b)):Tq K "list" (.ref l) H:= .inl ⟨rfl,_,b0.of h⟩
def Uq(f:List Nat)(m:Bool)(i:Nat)(g:aX):cy:=λE b=>∃c,b[i]? =some (some (.lst c))/\g (wL f m b) λd=>wR m d/\c.length<sizeLine/\E.nx (b.set i (some (.lst (c++ [d]))))
theorem eY(m:Bool)(i:Nat)(t:DE Z X e te)(g:md.getD i 0=1:=by rfl)(u:X.N[i]? =some x:=by rfl)(w:mh X.env.scope x:=by first|exact Or.inl rfl|exact Or.inr (Or.inl rfl) |exact Or.inr (Or.inr rfl))(f:(x==("__debug__":Str))=false:=by decide)(y:(x==("__classdict__":Str))=false:=by decide)
  (z:attributeBase (.Name x b) "append" X.env (eval (.Name x b) X.env)=eval (.Name x b) X.env:=by rfl)
  (A:((backTo aN (starEach [e] X.env)).all (λx=>!x.1)&&(backToKw aN (keywordEach [] X.env)).all (λx=>x.1.isSome)&&decide (([e]:List Expr).length+([]:List Keyword).length+(if ([]:List Keyword).isEmpty then 0 else 1)<30))=true:=by rfl)
  (C:(apos.endLine==aN.line)=true:=by rfl) (j:starEach [e] X.env=(false,eval e X.env)::starEach [] X.env:=by rfl) (F:(backTo aN (starEach [] X.env)).any (·.1)=false:=by rfl)
  (I:swapsWith (.Call (.Attribute (.Name x b) "append" apos) [e] [] aN) none pos.line X.env=pure false:=by rfl):
  DSt Z X md rn (.Expr (.Call (.Attribute (.Name x b) "append" apos) [e] [] aN) pos) (Uq md m i te):=by
 refine(iH (y6 SZ aet aeu kq (pv i u w f y) (bM t df j) z A C j F) I).imp ?_;intro D o H J;rfl';obtain⟨B,ρ,E,⟨G,L,S⟩,⟨ds,p,h⟩,M⟩:=J;ac_rfl;rfl';obtain⟨l,xs,_,_,q,O,_⟩:=S.one g p;ac_rfl;refine⟨_,q,ty_list O,S.ev m h λd f=>⟨f.1,λv Q H' R x dv=>?_⟩⟩;rfl';obtain⟨_,T,U⟩:=f;obtain⟨l',Y,gw,a,r,k,s,put⟩:=R.one g p;cases a;ac_rfl;rw[q] at r;cases r;exact⟨l,Y,v,rfl,rfl,k,by rw[s.length];exact T,M.nx _ U _ _ ⟨Q,L,put _ _ (s.snoc dv)⟩⟩
theorem BU{i:Int}{j n:Nat}{v:c}(d:b.length=n)(h:i9 n i=some j)(e:b[j]? =some v):gL b i=some v:=by unfold gL;rw[d,h];exact e
def QY(f:List Nat)(m:Bool)(i:Nat)(g h:aX):cy:=λE b=>h (wL f m b) λd=>wR m d/\∃c,b[i]? =some (some (.lst c))/\g b λl=>∃k j,l= .int k/\i9 c.length k=some j/\E.nx (b.set i (some (.lst (c.set j d))))
theorem qc(m:Bool)(i:Nat)(z:DE Z X k tk)(A:DE Z X e te)(r:md.getD i 0=1:=by rfl)(C:X.N[i]? =some x:=by rfl)(F:mh X.env.scope x:=by first|exact Or.inl rfl|exact Or.inr (Or.inl rfl) |exact Or.inr (Or.inr rfl))(g:(x==("__debug__":Str))=false:=by decide)(I:(x==("__classdict__":Str))=false:=by decide)
  (J:∀v,assign (.Subscript (.Name x b) k c) X.env v=(do
   let n <-holding [v] (eval (.Name x b) X.env)
   let q <-holding [v,n] (eval k X.env)
   standAt c
   holding [v,n,q] (setItem n q v)
   release [v,n,q] []):=by intro _;rfl)
  (L:swapsWithSole [.Subscript (.Name x b) k c] e pos.line X.env=pure false:=by rfl) (hw:swappedStores [.Subscript (.Name x b) k c] e X.env=pure none:=by rfl)
  (p:(assignEach [.Subscript (.Name x b) k c] X.env).map (·.2)= [assign (.Subscript (.Name x b) k c) X.env]:=by rfl):DSt Z X md rn (.Assign [.Subscript (.Name x b) k c] e pos) (QY md m i tk te):=by
 refine(xf A (w9 (pv i C F g I) z set_list J) L hw p).imp ?_;intro D σ H O;rfl';obtain⟨B,ρ,E,⟨G,Q,S⟩,h,M⟩:=O;ac_rfl;refine S.ev m h λd g=>⟨g.1,λv G' H' t x dv=>?_⟩;rfl';obtain⟨_,ds,p,h⟩:=g;obtain⟨l,xs,_,_,u,e3,_⟩:=t.one r p;ac_rfl;refine⟨_,u,t.ev true h ?_⟩;rintro _ ⟨k,j,rfl,R,T⟩;refine⟨rfl,λv1 U H1 Y a o=>?_⟩;rfl';cases o.ofInt;obtain⟨l',jJ,gw,e1,w,Cj,y,put⟩:=Y.one r p;cases e1;ac_rfl;rw[u] at w;cases w;exact⟨l,jJ,k,j,rfl,rfl,Cj,by rw[y.length];exact R,M.nx _ T _ _ ⟨U,Q,put _ _ (y.set (dv.mono a.gg) j)⟩⟩
def ZK(f:List Nat)(i j:Nat):cy:=λE b=>∃c d,b[j]? =some (some (.lst (c++ [d])))/\E.nx ((b.set j (some (.lst c))).set i (some d))
theorem Q7(i j:Nat)(u:X.N.Nodup)(w:f.getD i 0=0:=by rfl)(z:f.getD j 0=1:=by rfl)(A:X.N[i]? =some x:=by rfl)(C:Loc X.env.scope x:=by first|exact Or.inl rfl|exact Or.inr rfl)
  (I:X.N[j]? =some y:=by rfl) (J:mh X.env.scope y:=by first|exact Or.inl rfl|exact Or.inr (Or.inl rfl) |exact Or.inr (Or.inr rfl)) (L:(y==("__debug__":Str))=false:=by decide) (O:(y==("__classdict__":Str))=false:=by decide)
  (Q:attributeBase (.Name y py) "pop" X.env (eval (.Name y py) X.env)=eval (.Name y py) X.env:=by rfl) (R:(b.endLine==r.line)=true:=by rfl)
  (T:swapsWith (.Call (.Attribute (.Name y py) "pop" b) [] [] r) (some (.Name x q)) g.line X.env=pure false:=by rfl)
  (U:X.fn x=true\/X.env.scope.names.lookup x=some .local:=by first|exact .inl rfl|exact .inr rfl|assumption):DSt Z X f rn (.Assign [.Name x q] (.Call (.Attribute (.Name y py) "pop" b) [] [] r) g) (ZK f i j):=by
 refine(jj u A C (Sj SZ PySem.F.slot_list_pop PySem.F.type_list_pop RY (pv j I J L O) Q R) T U).imp ?_;intro D σ H Y;rfl';obtain⟨B,ρ,E,⟨G,fp,S⟩,⟨n,d,e,h⟩,M⟩:=Y;ac_rfl;rfl';obtain⟨l,c,gw,k,o,s,p,put⟩:=S.one z e;cases k;have t:c.length=n.length+1:=by rw[p.length];simp
 obtain⟨v,uA,dv⟩:=p.get (i:=c.length-1) (d:=d) (by rw[t];simp)
 ac_rfl;refine⟨_,o,ty_list s,l,c,v,rfl,rfl,s,uA,M.nx _ h _ _ ⟨G,_,(put c.dropLast n ?_).kE w dv⟩⟩
 have:=p.take n.length
 rw[List.take_left'] at this
 ·rw[List.dropLast_eq_take,t];exact this
 ·rfl
theorem SIx.SK(S:SIx Z B md ρ σ H G fp)(h:ρ[j]? =some (some d)):∃v,σ[j]? =some (some v)/\Dv Z (plus G H λb=>b∈fp j) v d/\SIx Z B md (ρ.set j none) σ H (plus G H λb=>b∈fp j) (λk=>if k=j then[] else fp k):=by
 have s:=S.ex.sub;obtain⟨v,m,o⟩:=S.at_ j d h;refine⟨v,m,o.dv (fE s) λb g u e=>by rw[mG g];exact e,?_⟩
 refine⟨⟨S.ex.gg.trans (fE s),j5 s,S.ex.hh,λb g n=>?_⟩,S.fl.trans (fE s),by rw[jB];exact S.len,λk c f=>?_,λk=>by split;exact gZ;exact S.nd k,λk p b ne f i=>?_,λk b g=>?_⟩
 ·rw[jb (λz=>g (S.nw j b z).1)];exact S.ex.off b g n
 ·by_cases z:j=k
  ·subst z
   by_cases l:j<ρ.length
   ·rw[iR l] at f;cases f
   ·rw[zI (gj l),eM (gj l)] at f;cases f
  ·rw[iS z] at f
   obtain⟨u,q,r⟩:=S.at_ k c f;exact⟨u,q,by rw[AC (Ne.symm z)];exact r.keep (fE s) λ_ _=>rfl⟩
 ·split at f
  ·cases f
  ·split at i
   ·cases i
   ·exact S.ap k p b ne f i
 ·split at g
  ·cases g
  ·next z=>
   obtain⟨t,x,y⟩:=S.nw k b g;exact⟨t,x,by rw[jb (λw=>S.ap k j b z g w)];exact y⟩
def VH(f:List Nat)(i j:Nat):cy:=λE b=>∃c d,b[i]? =some (some (.lst c))/\b[j]? =some (some d)/\c.length<sizeLine/\E.nx ((b.set j none).set i (some (.lst (c++ [d]))))
theorem Nr(i j:Nat)(r:i≠j:=by decide)(s:md.getD i 0=1:=by rfl)(t:X.N[j]? =some y:=by rfl)(c:mh X.env.scope y:=by first|exact Or.inl rfl|exact Or.inr (Or.inl rfl) |exact Or.inr (Or.inr rfl))(f:(y==("__debug__":Str))=false:=by decide)(g:(y==("__classdict__":Str))=false:=by decide)(u:X.N[i]? =some x:=by rfl)(w:mh X.env.scope x:=by first|exact Or.inl rfl|exact Or.inr (Or.inl rfl) |exact Or.inr (Or.inr rfl))(z:(x==("__debug__":Str))=false:=by decide)(A:(x==("__classdict__":Str))=false:=by decide)
  (C:attributeBase (.Name x b) "append" X.env (eval (.Name x b) X.env)=eval (.Name x b) X.env:=by rfl)
  (F:((backTo aN (starEach [.Name y py] X.env)).all (λx=>!x.1)&&(backToKw aN (keywordEach [] X.env)).all (λx=>x.1.isSome)&&decide (([.Name y py]:List Expr).length+([]:List Keyword).length+(if ([]:List Keyword).isEmpty then 0 else 1)<30))=true:=by rfl)
  (I:(apos.endLine==aN.line)=true:=by rfl) (n:starEach [.Name y py] X.env=(false,eval (.Name y py) X.env)::starEach [] X.env:=by rfl) (J:(backTo aN (starEach [] X.env)).any (·.1)=false:=by rfl)
  (L:swapsWith (.Call (.Attribute (.Name x b) "append" apos) [.Name y py] [] aN) none pos.line X.env=pure false:=by rfl):
  DSt Z X md rn (.Expr (.Call (.Attribute (.Name x b) "append" apos) [.Name y py] [] aN) pos) (VH md i j):=by
 refine(iH (y6 SZ aet aeu kq (pv i u w z A) (bM (pv j t c f g) df n) C F I n J) L).imp ?_;intro D σ H O;rfl';obtain⟨B,R,E,⟨G,fp,S⟩,⟨T,d,U,Y,a,h⟩,M⟩:=O;ac_rfl;rfl';obtain⟨v,e,dv,k⟩:=S.SK Y;have o:(R.set j none)[i]? =some (some (.lst T)):=by rw[iS (Ne.symm r)];exact U
 obtain⟨l,xs,gw,e1,e2,p,q,put⟩:=k.one s o;cases e1;ac_rfl;exact⟨_,e2,ty_list p,_,e,l,xs,v,rfl,rfl,p,by rw[q.length];exact a,M.nx _ h _ _ ⟨_,_,put _ _ (q.snoc dv)⟩⟩
end
structure Yg (mg:Str->Option Value):Prop where
 len:mg "len"=none
 range:mg "range"=none
 max:mg "max"=none
 min:mg "min"=none
 enumerate:mg "enumerate"=none
 zip:mg "zip"=none
 sorted:mg "sorted"=none
 all:mg "all"=none
 isinstance:mg "isinstance"=none
 int:mg "int"=none
 bool:mg "bool"=none
 list:mg "list"=none
 tuple:mg "tuple"=none
 sum:mg "sum"=none
 reversed:mg "reversed"=none
theorem QO:bootBuiltins "max"=some (.builtin "max"):=by decide+kernel
theorem J9:bootBuiltins "min"=some (.builtin "min"):=by decide+kernel
theorem EB:bootBuiltins "bool"=some (.type "bool"):=by decide+kernel
theorem QN:bootBuiltins "int"=some (.type "int"):=by decide+kernel
theorem gr:bootBuiltins "list"=some (.type "list"):=by decide+kernel
theorem qV:bootBuiltins "sorted"=some (.builtin "sorted"):=by decide+kernel
theorem bD:bootBuiltins "len"=some (.builtin "len"):=by decide+kernel
theorem uj:bootBuiltins "range"=some (.type "range"):=by decide+kernel
section
variable {P:Program} {w:World} {K:PySem.W.Frag} {mg:Str->Option Value} {base:Heap} {Z:DC}
def jq(N:List Str)(a:List D):DN:=a.map some++List.replicate (N.length-a.length) none
def fQ(Z:DC)(n:Nat)(g:cx):Sp:=λh H Q _=>∃(G:Hp)(e:List D)(P:D->Prop),aU G H/\DvAll Z G h e/\g e P/\∀d,P d->∀v f c a,Ext G H c a->Own Z c a n v d f->f.Nodup->(∀b∈f,H b=none/\a b≠none/\c b=none)->Q v a
theorem Own.pure(x:Ext G H c a)(o:Own Z c a n v d f)(i:∀b∈f,H b=none/\a b≠none/\c b=none):∃h,Ext G H h a/\Dv Z h v d:=by
 refine⟨plus c a λb=>b∈f,⟨x.gg.trans (fE x.sub),j5 x.sub,x.hh,λb g j=>?_⟩,o.dv (fE x.sub) λb g u e=>by rw[mG g];exact e⟩
 rw[jb (λz=>g (i b z).1)];exact x.off b g j
theorem SW:∀a H Q E,aT Z b a H Q E->fQ Z n b a H Q E:=by
 intro a H Q E c;rfl';obtain⟨G,g,P,s,dv,h,q⟩:=c;ac_rfl;exact⟨G,g,P,s,dv,h,λd i v f t j x o u k=>let ⟨l,m,p⟩:=o.pure x k;q d i v l j m p⟩
theorem qh(l:Nat){x a:Str}{st:Stmt}{f:Addr}{n:FuncData}{N g:List Str}{k:Nat}{m:cx}(F:oh K x a st f n)(S:aD N g (ar st))(o:List Nat)(u:∀i,i<g.length->o.getD i 0=0)(len:∀c P,m c P->c.length=g.length)
  (y:∀(j:Value)(A:Around)(outer:List Env)(s:Shared)(H:Hp)(E:XK)(c:List D)(R:D->Prop),bW k (A.deeper (envOfC a (ar st) s.heap.objs.size f j))->m c R->
   ∃t,DSs Z (j9 bZ P w K mg base N a (ar st) f j A outer s H E).lK o l (eI st) t/\t {nx:=λ_=>l=0/\R .bu,rt:=R} (jq N c)):FnOk P w K mg base bZ (k+1) f n g (fQ Z l m):=by
 refine F.ok S (λB H Q E h=>?_) (λj A outer s H B Q E C h=>?_)
 ·obtain⟨G,c,R,s,dv,h,q⟩:=h
  rw[dv.length];exact len _ _ h
 rfl';obtain⟨G,c,R,J,dv,h,q⟩:=h;have L:=q;obtain⟨t,M,O⟩:=y j A outer s H E c R C h;have hl:=len _ _ h;ac_rfl;refine⟨_,M,⟨G,H,G⟩,_,_,⟨G,λ_=> [],?_⟩,O,⟨λρ p ay T ⟨U,fp,X⟩=>q _ p.2 _ [] U T X.ex (by rw[p.1];exact⟨.bu,rfl⟩) gZ (λb Y=>by cases Y),L,λ_ z=>z.elim,λ_ z=>z.elim,λ_ _ z=>z.elim⟩⟩
 refine⟨.refl J, .refl _,by unfold jq start;simp[dv.length],λi d e=>?_,λ_=>gZ,(λ_ _ _ _ z=>by cases z),(λ_ _ z=>by cases z)⟩
 unfold jq at e
 have r:i<c.length:=by
  apply FB;intro z;rw[iQ (by simpa using gj z),qL] at e
  split at e<;>cases e
 rw[iM (by simpa using r),eO] at e
 have gx:c[i]? =some d:=by
  cases z:c[i]? with
  |none=>rw[z] at e;cases e
  |some d'=>rw[z] at e;cases e;rfl
 obtain⟨v,hv,iZ⟩:=dv.get gx;refine⟨v,?_,by rw[u i (by omega)];exact⟨iZ,rfl⟩⟩
 unfold start;rw[iM (by simpa [dv.length] using r),eO,hv];rfl
theorem bc{x c:Str}{st:Stmt}{f:Addr}{m:FuncData}{N e:List Str}{k:Nat}{j:cx}(F:oh K x c st f m)(S:aD N e (ar st))(l:List Nat)(n:∀i,i<e.length->l.getD i 0=0)(len:∀d P,j d P->d.length=e.length)
  (o:∀(g:Value)(A:Around)(outer:List Env)(s:Shared)(H:Hp)(E:XK)(d:List D)(R:D->Prop),bW k (A.deeper (envOfC c (ar st) s.heap.objs.size f g))->j d R->
   ∃t,DSs Z (j9 bZ P w K mg base N c (ar st) f g A outer s H E).lK l 0 (eI st) t/\t {nx:=λ_=>0=0/\R .bu,rt:=R} (jq N d)):FnOk P w K mg base bZ (k+1) f m e (aT Z j):=
 (qh 0 F S l n len λg A outer s H E d R p h=>let ⟨t,a,b⟩:=o g A outer s H E d R p h;⟨t,a,b⟩).imp SW
end
section
variable {Z:DC} {X:Cx} {a b c e o:Expr} {ta tb te:aX} {t:gk} {es:List Expr} {pos apos:Pos}
def ZG(f:aX):aX:=λg P=>f g λd=>match d with
 | .int i=>P (.int (-i))
 |_=>False
theorem Q1(g:DE Z X a ta):DE Z X (.UnaryOp .USub a pos) (ZG ta):=by
 refine(Xu Tr g).imp ?_;intro r H Q i;rfl';obtain⟨G,k,P,s,l,h,q⟩:=i;ac_rfl;refine⟨G,k,_,s,l,h,λd f v m n p dv=>?_⟩;cases dv<;>first|exact f.elim|skip
 exact⟨_,rfl,q _ f _ m n p (.int _)⟩
def Vc:cx:=λd P=>∃i j,d= [.int i, .int j]/\P (.int (if j<i then j else i))
def Va:cx:=λd P=>∃i j,d= [.int i, .int j]/\P (.int (if j>i then j else i))
theorem GL(h:DvAll Z G d [.int i, .int j]):d= [.int i, .int j]:=by
 cases h with
 |cons a as=>
  cases as with
  |cons b bs=>cases bs;cases a;cases b;rfl
theorem M0(d:X.calm=true):CallR X (.builtin "max") (ja Z Va):=by
 refine(Hm d).imp ?_;intro k H Q f;rfl';obtain⟨G,m,P,s,dv,⟨i,j,rfl,h⟩,q⟩:=f;ac_rfl;exact⟨i,j,GL dv,q _ h _ G H (.refl s) (.int _)⟩
theorem M3(d:X.calm=true):CallR X (.builtin "min") (ja Z Vc):=by
 refine(Ho d).imp ?_;intro k H Q f;rfl';obtain⟨G,m,P,s,dv,⟨i,j,rfl,h⟩,q⟩:=f;ac_rfl;exact⟨i,j,GL dv,q _ h _ G H (.refl s) (.int _)⟩
theorem oJ:∀{d:List V}{f:List Int},DvAll Z G d (f.map D.int)->d=f.map V.int
 |d,[],h=>by cases h;rfl
 |d,b::bs,h=>by
  cases h with
  |cons a as=>cases a;rw[oJ as];rfl
def pairD(k:Nat×Nat):D:= .tup [.int (k.1:Nat), .int (k.2:Nat)]
theorem AE:∀{d:List V}{f:List (Nat×Nat)},DvAll Z G d (f.map pairD)->∃L:List (Addr×(Nat×Nat)),d=L.map (λe=>V.ref e.1)/\L.map (·.2)=f/\K6 G L
 |d,[],h=>by cases h;exact⟨[],rfl,rfl,λp g=>by cases g⟩
 |d,n::f,h=>by
  cases h with
  |cons a as=>
   obtain⟨L,j,k,l⟩:=AE as;unfold pairD at a;cases a with
   | @tup p m w g e=>
    refine⟨(p,n)::L,by rw[j];rfl,by rw[<-k];rfl,λq i=>?_⟩
    rcases bT.mp i with rfl|i
    ·have:m=Jn n:=by
      cases e with
      |cons r s=>
       cases s with
       |cons u v=>cases r;cases u;cases v;rfl
     rw[<-this];exact g
    ·exact l q i
theorem K6.dv:∀{L:List (Addr×(Nat×Nat))},K6 G L->DvAll Z G (L.map λe=>V.ref e.1) ((L.map (·.2)).map pairD)
 | [],_=> .nil
 |x::L,h=> .cons (.tup (h x (bO ..)) (.cons (.int _) (.cons (.int _) .nil))) (K6.dv λp d=>h p (bU _ d))
def QW(g h:aX):aX:=λf P=>g f λd=>∃l,d= .lst l/\h f λy=>fq y=true/\l.all fq=true/\∃(j:Nat)(z:D),l[j]? =some z/\kS z y=true/\(∀(m:Nat) z,m<j->l[m]? =some z->kS z y=false)/\P (.int (j:Nat))
theorem p8(E:DE Z X o ta)(I:DE Z X e tb)
  (J:attributeBase o "index" X.env (eval o X.env)=eval o X.env:=by rfl)
  (L:((backTo d (starEach [e] X.env)).all (λx=>!x.1)&&(backToKw d (keywordEach [] X.env)).all (λx=>x.1.isSome)&&decide (([e]:List Expr).length+([]:List Keyword).length+(if ([]:List Keyword).isEmpty then 0 else 1)<30))=true:=by rfl)
  (M:(apos.endLine==d.line)=true:=by rfl) (r:starEach [e] X.env=(false,eval e X.env)::starEach [] X.env:=by rfl) (N:(backTo d (starEach [] X.env)).any (·.1)=false:=by rfl):
  DE Z X (.Call (.Attribute o "index" apos) [e] [] d) (QW ta tb):=by
 refine(y6 SZ PySem.F.slot_list_index PySem.F.type_list_index LV E (bM I df r) J L M r N).imp ?_;intro σ H Q O;rfl';obtain⟨G,A,P,s,B,h,q⟩:=O;ac_rfl;refine⟨G,A,_,s,B,h,?_⟩;rintro _ ⟨l,rfl,T⟩ v U H1 f dv;cases dv with
 | @lst p Y ds C e=>
  refine⟨ty_list (f.sub _ _ C),U,A,_,f.sub,B.mono f.gg,T,λy a u b c i k=>?_⟩;rfl';obtain⟨t,h2,j,z,h3,h4,h5,h6⟩:=a;have n:=e.mono i.gg;obtain⟨w,hw,dw⟩:=n.get h3;ac_rfl;refine⟨p,Y,u,j,w,rfl,rfl,i.hh _ _ (f.sub _ _ C),by rw[sI k];exact t,by rw[oN n];exact h2,hw,by rw[Co dw k];exact h4,λm z' hm hz=>?_,q _ h6 _ b c (f.trans i) (.int _)⟩
  obtain⟨d',gx,iZ⟩:=n.AO hz;rw[Co iZ k];exact h5 m d' hm gx
end
structure J8 (Z:DC):Prop where
 cl:xk Z.K Z.C
 nR:fW Z.K Z.C "rows"
section
variable {Z:DC} {X:Cx} {a b c e o:Expr} {ta tb te:aX} {t:gk} {es:List Expr} {pos apos:Pos}
def V1(f:aX):aX:=λg P=>f g λd=>∃w,d= .dN w/\P (aO w)
theorem sC(T:J8 Z)(i:DE Z X o ta)(d:X.K=Z.K:=by rfl)(j:attributeBase o "rows" X.env (eval o X.env)=eval o X.env:=by rfl):DE Z X (.Attribute o "rows" apos) (V1 ta):=by
 refine(Sl i j).imp ?_;intro B H Q k;rfl';obtain⟨G,m,P,s,n,h,q⟩:=k;ac_rfl;refine⟨G,m,_,s,n,h,?_⟩;rintro _ ⟨w,rfl,r⟩ v u x f dv;cases dv with
 | @dN p y R w z A g F I=>exact⟨p,Z.C,y,_, .ref R,rfl,f.sub _ _ z,by rw[d];exact T.cl,by rw[d];exact T.nR,rfl,q _ r _ u x f A⟩
def Hu(g:cx)(h:aX)(t:gk):aX:=λf P=>h f λd=>∃w,d= .dN w/\t f λi=>g (.dN w::i) P
theorem A4(y:([("rows",V.ref 0)]:List (Str×V)).lookup m=none):∀j H Q,fb Z (Hu i ta t) j H Q->JN Z.C m (aT Z i) [] E0 (fb Z ta) (Dh Z t) j H Q:=by
 intro j H Q A;rfl';obtain⟨G,u,P,s,x,h,q⟩:=A;ac_rfl;refine⟨G,u,_,s,x,h,?_⟩;rintro _ ⟨w,rfl,k⟩ v E c f dv;have l:=dv;cases dv with
 | @dN p F R w I e g o X=>
  refine⟨p,F,_,rfl,f.sub _ _ I,?_,E,u,_,f.sub,x.mono f.gg,k,λds J L M N n O=>?_⟩
  ·have T:(m==("rows":Str))=false:=by
    cases z:(m==("rows":Str)) with
    |false=>rfl
    |true=>simp[List.lookup,z] at y
   simp[List.lookup,T]
  ·show aT Z i (V.ref p::(L++ [])) N Q E0
   rw[fJ];exact⟨M,_,P,n.sub, .cons (l.mono n.gg) O,J,λd k v U Y a r=>q d k v U Y ((f.trans n).trans a) r⟩
variable {sd:cx} {k:Nat} {f:Addr} {fd:FuncData} {ps:List Str} {m:Str}
theorem EW(T:J8 Z)(h:DE Z X o ta)(i:Meth Z.K Z.C m f)(F:FnOk X.prog X.w X.K X.mg X.base bZ k f fd ps (aT Z sd))(j:bW k X.A)(l:Binds X.K fd ps [])(n:DA Z X (e::es) t)(d:X.K=Z.K:=by rfl)
  (p:([("rows",V.ref 0)]:List (Str×V)).lookup m=none:=by decide) (q:starEach (e::es) X.env=(false,eval e X.env)::starEach es X.env:=by rfl) (r:(backTo pos (starEach es X.env)).any (·.1)=false:=by rfl)
  (s:eval (.Call (.Attribute o m apos) (e::es) [] pos) X.env=(do
   let g <-eval o X.env
   standAt apos.atName
   let (f,first) <-holding [g] (getMethod g m pl)
   callWith pos f first (backTo pos (starEach (e::es) X.env)) (backToKw pos (keywordEach [] X.env))):=by rfl):DE Z X (.Call (.Attribute o m apos) (e::es) [] pos) (Hu sd ta t):=
 (Pk (pl:=pl) h (by rw[d];exact T.cl) (by rw[d];exact i) F j l .nil uU n q r s).imp (A4 p)
theorem cD(T:J8 Z)(l:DE Z X o ta)(n:Meth Z.K Z.C m f)(F:FnOk X.prog X.w X.K X.mg X.base bZ k f fd ps (aT Z sd))(r:bW k X.A)(u:Binds X.K fd ps [])(i:X.K=Z.K:=by rfl)
  (x:([("rows",V.ref 0)]:List (Str×V)).lookup m=none:=by decide)
  (y:eval (.Call (.Attribute o m apos) [] [] pos) X.env=(do
   let j <-eval o X.env
   standAt apos.atName
   let (f,first) <-holding [j] (getMethod j m pl)
   callWith pos f first (backTo pos (starEach [] X.env)) (backToKw pos (keywordEach [] X.env))):=by rfl):DE Z X (.Call (.Attribute o m apos) [] [] pos) (Hu sd ta qz):=
 (L8 (pl:=pl) l (by rw[i];exact T.cl) (by rw[i];exact n) F r u .nil uU y).imp λz H Q h=>by
  rfl';obtain⟨G,E,P,s,I,h,q⟩:=A4 x z H Q h;ac_rfl;refine⟨G,E,P,s,I,h,λd J v L M N dv=>?_⟩;rfl';obtain⟨p,O,fs,R,U,Y,a,aF,P',b,c,e,t⟩:=q d J v L M N dv;ac_rfl;exact⟨p,O,fs,R,U,Y,t _ e _ a _ (.refl b) .nil⟩
def Gy(Z:DC):Sp:=λi H Q _=>∃(p h:Addr)(v:V)(G:Hp)(w:List (List Nat)),i= [.ref p,v]/\H p=some (.ins Z.C h [])/\aU G H/\G p=none/\Dv Z G v (aO w)/\Wb.Good w/\1<=w.length/\w.length<=14/\
 ∀(R:Addr)(d g:Hp),aU G d->aU d g->(∀b o,H b=some o->b≠p->g b=some o)->(∀b,H b≠none->G b=none->d b=none)->g p=some (.ins Z.C h [("rows", .ref R)])->Dv Z d (.ref R) (aO w)->Q .bu g
def VS(t:gk):aX:=λd P=>t d λg=>∃w,g= [aO w]/\Wb.Good w/\1<=w.length/\w.length<=14/\P (.dN w)
theorem Ni(M:Mk Z.K Z.C f)(F:FnOk X.prog X.w X.K X.mg X.base bZ k f fd ps (Gy Z))(O:bW (k+1) X.A)(r:Gl X x)(T:X.mg x=some (.ref Z.C))(l:Binds X.K fd ps [])
  (U:DA Z X (e::es) t) (Y:X.K=Z.K:=by rfl) (a:(x==("__debug__":Str))=false:=by decide) (c:starEach (e::es) X.env=(false,eval e X.env)::starEach es X.env:=by rfl) (m:(backTo pos (starEach es X.env)).any (·.1)=false:=by rfl):
  DE Z X (.Call (.Name x p) (e::es) [] pos) (VS t):=by
 refine(Pj (by rw[Y];exact M) F O r T l .nil uU U a c m).imp ?_
 intro σ H Q aC;rfl';obtain⟨G,ρ,P,s,en,h,q⟩:=aC;ac_rfl;refine⟨G,ρ,_,s,en,h,?_⟩;rintro _ ⟨w,rfl,g,E,I,hp⟩ vs G1 H1 d u p n i qt ne;cases u with
 | @cons v _ _ _ dv u=>
  cases u;have Ik:upd H1 n (.own p) p=none:=by rw[ax (Ne.symm ne)];exact i
  have y:=(aW qt (.own p)).trans (aW Ik (.ins Z.C n []));refine⟨p,n,v,G1,w,rfl,av,d.sub.trans y,d.sub.free i,dv,g,E,I,λR J H2 g1 g2 kp off B uu=>⟨rfl,?_⟩⟩;have L:J p=none:=off p (by rw[av];exact λz=>nomatch z) (d.sub.free i)
  refine q _ hp _ (upd J p (.ins Z.C n [("rows", .ref R)])) H2 ⟨(d.gg.trans g1).trans (aW L _),λb o e=>?_,λb o e=>?_,λb l r=>?_⟩ (.dN av (uu.mono (aW L _)) g E I)
  ·by_cases z:b=p
   ·subst z;rw[av] at e;cases e;exact B
   ·rw[ax z] at e;exact g2 _ _ e
  ·have N:=d.hh _ _ e
   exact kp b o (y _ _ N) (aB N i)
  ·have j:=gD d.hh l
   have nb:b≠p:=λz=>j (by rw[z];exact i)
   rw[ax nb];exact off b (gD y j) (d.off b l r)
end
section
variable {Z:DC} {X:Cx} {pos:Pos}
def OK(g:dZ)(b:hU):List D->DN->List D->(List D->Prop)->Prop
 | [],_,a,N=>N a
 |x::d,e,a,N=>g x e λc=>b c λf=>a.length<sizeLine/\OK g b d c (a++ [.lst f]) N
def UE(b:hZ)(g:dZ)(c:hU)(src:List (Option Nat)):hU:=λa P=>b a λd=>OK g c d (zj src a) [] P
def Yh(Z:DC)(n:Nat)(e a:Hp)(c:Addr)(g:DN)(d:List D)(h:St)(H:Hp):Prop:=
 ∃(G:Hp)(f:List V)(fs:List Addr),aU e G/\aU G H/\aU a H/\(∀b,a b≠none->e b=none->G b=none)/\H c=some (.lst f)/\cX (Own Z G H n) f d fs/\(c::fs).Nodup/\(∀b∈c::fs,a b=none/\H b≠none/\G b=none)/\dJ Z G h g
theorem cX.snoc:∀{b:List V}{c:List D}{fs:List Addr}{v:V}{d:D}{f:List Addr},cX R b c fs->R v d f->cX R (b++ [v]) (c++ [d]) (fs++f)
 |_,_,_,v,d,f, .nil,r=>by simpa using cX.cons r .nil
 |_,_,_,v,d,f, .cons a as,r=>by rw[jP];exact .cons a (as.snoc r)
theorem LP:∀X H Q,rz Z (n+1) (UE wi g M src) X H Q->Qo (uG Z wi) (rA Z g) Qt (rz Z n M) src X H Q:=by
 intro X H Q aC;rfl';obtain⟨G,ρ,P,s,en,h,q⟩:=aC;ac_rfl;refine⟨G,ρ,_,s,en,h,λw hd J G1 H1 p it l A=>?_⟩;refine⟨λi m fI u=>m=w.length-i/\i<=w.length/\∃N t,Yh Z n G1 H1 l N t fI u/\OK g M (w.drop i) N t P,⟨_,rfl,eN _,_,[],⟨G1,[],[], .refl _,λb o e=>?_,aW A _,λ_ _ h=>h,av, .nil,by simp,λb j=>?_,(en.mono p.gg).src src⟩,hd⟩,?_⟩
 ·rw[ax (aB e (p.sub.free A))];exact p.sub _ _ e
 ·have:b=l:=by simpa using j
  subst this;exact⟨A,(by rw[av];exact λz=>nomatch z),p.sub.free A⟩
 intro i m fI u iL;rfl';obtain⟨rfl,hi,N,t,⟨G2,O,fs,R,s2,T,off,rg,ol,nd,B,Wg⟩,U⟩:=iL;ac_rfl
 by_cases eW:i<w.length
 ·obtain⟨go,_,yld⟩:=it G2 u R s2 i
  refine .inr ⟨go eW,λay H'=>∃aF kO,Yh Z n G1 H1 l aF kO ay H'/\OK g M (w.drop (i+1)) aF kO P,λay H' k=>⟨w.length-(i+1),by omega,rfl,eW,k⟩,λx H3 y=>?_⟩
  obtain⟨G3,d,E,Fn,dv⟩:=yld x H3 eW y;rw[oH Fn] at U;refine⟨G3,N,d,_,E.sub,Wg.mono E.gg,dv,U,λbw h1 fV wo=>?_⟩;unfold Qt;dsimp only;rw[tz rfl];refine⟨G3,bw,_,E.sub,wo,h1,λgw gx v f G6 H6 x6 ow fnd F=>?_⟩;have x:=E.trans x6;have Y:l∈l::fs:=bO ..
  have C:∀b∈l::fs,H6 b=u b/\G6 b=none:=λb j=>by
   obtain⟨_,q2,q3⟩:=B b j;refine⟨?_,x.off b q2 q3⟩;cases e:u b with
   |none=>exact absurd e q2
   |some o=>exact x.hh _ _ e
  have hA6:H6 l=some (.lst O):=by rw[(C l Y).1];exact rg
  have I:∀b∈f,u b=none:=λb j=>E.hh.free (F b j).1;have L:∀b∈f,∀c∈l::fs,b≠c:=λb j c hc z=>(B c hc).2.1 (by rw[<-z];exact I b j)
  refine⟨O,hA6,by rw[ol.length];exact gx.1,bw,_,⟨G6,O++ [v],fs++f,R.trans x.gg,λb o e=>?_,λb o e=>?_,λb j hg=>x.off b (gD T j) (off b j hg),av,?_,?_,λb j=>?_,wo.mono x6.gg⟩,gx.2⟩
  ·rw[ax (aB e (C l Y).2)];exact x.sub _ _ e
  ·rw[ax (aB e A)];exact(T.trans x.hh) _ _ e
  ·refine cX.snoc (ol.imp λv d f' hf r=>r.keep x.gg λb j=>?_) (ow.keep (.refl _) λb j=>?_)
   ·have kJ:b∈fs:=hf b j
    rw[ax (λz=>(gF.mp nd).1 (by rw[<-z];exact kJ))]
    exact(C b (bU _ kJ)).1
   ·exact ax (L b j l Y)
  ·rw[<-zF]
   exact gX.mpr ⟨nd,fnd,λa ha b j=>Ne.symm (L b j a ha)⟩
  ·rw[<-zF] at j
   by_cases z:b=l
   ·subst z
    exact⟨A,(by rw[av];exact λz=>nomatch z),(C b Y).2⟩
   ·rcases cV.mp j with j|j
    ·rw[ax z,(C b j).1]
     exact⟨(B b j).1,(B b j).2.1,(C b j).2⟩
    ·rw[ax z]
     exact⟨T.free (I b j),(F b j).2⟩
 ·have e:w.drop i= []:=BB (by omega)
  rw[e] at U;refine .inl ⟨(it G2 u R s2 i).2.1 (by omega),q _ U (.ref l) (l::fs) G2 u ⟨p.gg.trans R,s2,p.hh.trans T,λb j hg=>off b (gD p.hh j) (p.off b j hg)⟩ (.inl ⟨l,O,t,fs,rfl,rfl,rg,rfl,ol⟩) nd λb j=>⟨p.hh.free (B b j).1,(B b j).2⟩⟩
variable {tg iter elt:Expr} {scope:Scope} {NC:List Str} {src:List (Option Nat)} {wi:hZ} {g:dZ} {tf:hU} {md:List Nat} {rn:Nat}
theorem Hy(i:Nat)(e:X.calm=true)(f:X.N.Nodup)(c:bP X scope)(j:dj scope X.N src NC)(k:DI Z X tg iter wi)
  (l:∀a s H,DG Z (bY X scope NC a s H) tg g) (m:∀a s H,DF Z (bY X scope NC a s H) n elt tf)
  (o:swapsWith (.ListComp elt [⟨tg,iter,[],0⟩] scope pos) (some (.Name x b)) d.line X.env=pure true:=by rfl) (p:md.getD i 0=n+1:=by rfl) (q:X.N[i]? =some x:=by rfl) (r:Loc X.env.scope x:=by first|exact Or.inl rfl|exact Or.inr rfl)
  (t:X.fn x=true\/X.env.scope.names.lookup x=some .local:=by first|exact .inl rfl|exact .inr rfl|assumption)
  (u:∀x,foldedSetIterable iter X.env x=pure x:=by intro _;rfl):DSt Z X md rn (.Assign [.Name x b] (.ListComp elt [⟨tg,iter,[],0⟩] scope pos) d) (M9 md i (UE wi g tf src)):=by
 refine(ql e f q r c j k l (λ_ _ _=>Gh) m o t u).imp ?_;intro D v H w;rfl';obtain⟨B,A,E,⟨G,C,S⟩,h,M⟩:=w;ac_rfl;exact LP v H _ (uI p S h M)
end
abbrev gS:=inClass
structure Hd (Z:DC) (m qual:Str) (st:Stmt) (ps:List Str) where
 f:Addr
 fd:FuncData
 F:oh Z.K m qual st f fd
 b:Binds Z.K fd ps []
 m:Meth Z.K Z.C m f
def tW(K:PySem.W.Frag):Sp:=λc H Q _=>∃(a:Addr)(b:List Int),c= [.ref a]/\b0 K H a (b.map V.int)/\b.length<=63/\∀d,Q (.bl true) d
def KR:cx:=λb P=>∃a:List Int,b= [.kD a]/\a.length<=63/\P (.bl true)
theorem RP{Z:DC}:∀b H Q E,tW Z.K b H Q E->aT Z KR b H Q E:=by
 rintro b H Q E ⟨a,c,rfl,f,e,q⟩;exact⟨H,[.kD c],λd=>d= .bl true, .refl _, .cons (.kD f e) .nil,⟨c,rfl,e,rfl⟩,λd g v i h x dv=>by subst g;cases dv;exact q h⟩
theorem X7(k:Nat){l:PySem.W.OpenLaw}{q:Program}{e:List Str}{o:(Str->Option Value)->Heap->Prop}{m:World->Heap->Prop}{d:DefRec}{K:Params->PySem.W.Frag}(p:3*k<150)(r:l.most=some 63)(t:d.params.defaults= [])
  (v:∀(w:World)(h:Heap),m w h->(K w.params).In h)
  (F:∀(w:World)(g:Str->Option Value)(i:Addr)(h:Heap),(K w.params).In h->h.Ns mainGlobals g->g d.name=some (.ref i)->
   ∃j:FuncData,(∀(s:Shared)(u:Value),BindsTo s j ⟨[u],[]⟩ [("_law_script",u)])/\∀base:Heap,(K w.params).In base->base.Ns mainGlobals g->FnOk l.prog w (K w.params) g base bZ k i j ["_law_script"] (tW (K w.params))):
  PySem.W.WalkO q e o m l.row.toRowW d [] (λf A=>PySem.call f A):=
 L2.Qx (n:=63) (k:=50) (x:="_law_script") (CX:=λ_=>bZ) (sp:=λw=>tW (K w.params)) r (by decide) t ⟨rfl,by decide,by decide⟩ v (λw g i h a b c=>by
  obtain⟨j,B,C⟩:=F w g i h a b c;exact⟨j,B,λbase x y=>(C base x y).mono (by omega)⟩) (λ_ _ a E G _ H=>⟨a,E,rfl,H,G,λ_=>rfl⟩) λ_ _ _ _ _ z=>z
theorem bF{c:Bool}{A B:Prop}(a:c=true->A)(b:c=false->B):if c=true then A else B:=by
 cases c with
 |true=>exact dq (a rfl)
 |false=>exact bS (b rfl)
theorem my{ρ:DN}(c:j->D)(p:j->Bool)(f:j->D):∀(e:List j)(d:DN)(a:List D)(N:DN->List D->Prop),(∀y∈e,∀(Y:D->Prop)(r:Prop),(p y=true->Y (f y))->(p y=false->r)->k (ρ.set i (some (c y))) λb=>if b=true then q (ρ.set i (some (c y))) Y else r)->
  (∃o,d=ρ.set i o)->a.length+e.length<=sizeLine->(∀d,N d (a++(e.filter p).map f))->lcW (qa i) k q (e.map c) d a N
 | [],d,a,N,_,_,_,h=>by
  show N d a;simpa using h d
 |y::e,d,a,N,l,⟨o,s⟩,g,h=>by
  show k (d.set i (some (c y))) _;rw[s,afG];rw[eX] at g;refine l y (bO ..) _ _ (λm=>⟨by omega,?_⟩) (λm=>?_)
  ·refine my c p f e _ (a++ [f y]) N (λz g=>l z (bU _ g)) ⟨_,rfl⟩ (by simp;omega) λn=>?_
   have:=h n
   rw[BG,m] at this;simpa using this
  ·refine my c p f e _ a N (λz g=>l z (bU _ g)) ⟨_,rfl⟩ (by omega) λn=>?_
   have:=h n
   rw[BG,m] at this;simpa using this
theorem kX{i:Nat}{te:aX}{ρ:DN}(a:c->D)(f:c->D)(b:List c)(N:DN->List D->Prop)(g:∀y∈b,∀(Y:D->Prop),Y (f y)->te (ρ.set i (some (a y))) Y)(j:ρ[i]? =some none)(k:b.length<=sizeLine)(h:∀d,N d (b.map f)):lcW (qa i) ml te (b.map a) ρ [] N:=by
 refine my (ρ:=ρ) a (λ_=>true) f b ρ [] N (λy l Y n m _=>?_) ⟨none,?_⟩ (by simpa using k) λd=>by rw[Eg.mpr (λ_ _=>rfl),nX];exact h d
 ·unfold ml
  dsimp only;rw[tz rfl];exact g y l Y (m rfl)
 ·obtain⟨o,e⟩:=dS.mp j
  rw[<-e,aeV]
theorem AL(I:Nat->DN->Prop):∀(b:List D)(k:Nat)(a:DN),I k a->(∀(j:Nat)(d:D)(a:DN),b[j]? =some d->I (k+j) a->∀A:DN->Prop,(∀a,I (k+j+1) a->A a)->g d a λm=>l {nx:=A,ct:=A,bk:=E.nx,rt:=E.rt,xc:=E.xc} m)->
  (∀a,I (k+b.length) a->E.nx a)->kU g l E b a
 | [],k,a,c,e,f=>f a c
 |d::b,k,a,c,e,f=>by
  refine e 0 d a rfl c _ λn o=>?_
  exact AL I b (k+1) n o (λj p h q i A r=>by
   refine e (j+1) p h (by simpa using q) (by rw[show k+(j+1)=k+1+j by omega];exact i) A λs t=>r s ?_
   rw[show k+1+j+1=k+(j+1)+1 by omega];exact t) (λh i=>f h (by rw[eX,show k+(b.length+1)=k+1+b.length by omega];exact i))
theorem bQ(I:Nat->DN->Prop)(e:I 0 a)(f:∀(j:Nat)(d:D)(a:DN),b[j]? =some d->I j a->∀A:DN->Prop,(∀a,I (j+1) a->A a)->g d a λi=>c {nx:=A,ct:=A,bk:=E.nx,rt:=E.rt,xc:=E.xc} i)
  (k:∀a,I b.length a->E.nx a):kU g c E b a:=AL I b 0 a e (λj d a l h A m=>f j d a l (by simpa using h) A λn o=>m n (by simpa using o)) (λa h=>k a (by simpa using h))
theorem NM{g:dZ}{c:cy}{E:cT}{lo:Int}{n:Nat}{a:DN}(I:Nat->DN->Prop)(f:I 0 a)(i:∀(j:Nat)(a:DN),j<n->I j a->∀A:DN->Prop,(∀a,I (j+1) a->A a)->g (.int (lo+j)) a λk=>c {nx:=A,ct:=A,bk:=E.nx,rt:=E.rt,xc:=E.xc} k)
  (m:∀a,I n a->E.nx a):kU g c E (cJ lo n) a:=by
 have l:(cJ lo n).length=n:=by unfold cJ;simp
 refine bQ I f (λj d a b h A o=>?_) (λa h=>m a (by rw[l] at h;exact h))
 have e:j<n:=by
  have:=(dS.mp b).1
  rw[l] at this;exact this
 rw[vP e] at b;cases Do b;exact i j a e h A o
theorem nB(I:Nat->DN->Prop)(g:Nat)(h:I g a)(i:∀m a,I m a->c a λb=>if b=true then f {nx:=λe=>∃d,d<m/\I d e,ct:=λe=>∃d,d<m/\I d e,bk:=E.nx,rt:=E.rt,xc:=E.xc} a else E.nx a):Kf c f E a:=⟨I,⟨g,h⟩,i⟩
def Ym(K:PySem.W.Frag)(a:Addr)(n:Nat):It:=
 ⟨λi H=>i<n/\∃b,b0 K H a b/\b.length=n,λi H x c=>c=H/\∀b,b0 K H a b->b[n-1-i]? =some x,λi H=>n<=i⟩
theorem Mz{P:Program}{w:World}{K:PySem.W.Frag}{Y:Expr}(a g:Addr)(n:Nat):Turn P w K Y (Ym K a n) [g] g (λi h=>i<=n/\h.IsRevIter g a ((n:Int)-1-(i:Int))) where
 mem:=by simp
 obj:=λi h st b j=>by
  have e:b=g:=by simpa using j
  subst e;obtain⟨_,o,e,c,d⟩:=st;exact⟨o,e,λv z=>by rw[d] at z;cases z⟩
 keep:=λi h l st k=>⟨st.1,st.2.at λo e=>k g (by simp) o e⟩
 item:=by
  intro X r hw t L i f s M H E I m st q;rfl';subst r hw t;obtain⟨N,O,Q,hl⟩:=q;obtain⟨its,R,p,hz⟩:=I.list Q;have T:=R.length;have U:O[n-1-i]? =some (O[n-1-i]'(by omega)):=b9 (by omega)
  obtain⟨u,hu,ru⟩:=R.get U;obtain⟨A,B,f2,C,F,G⟩:=m g (by simp)
  have e:(n:Int)-1-(i:Int)=((n-1-i:Nat):Int):=by omega
  obtain⟨_,st⟩:=st;rw[e] at st;ac_rfl;refine wpAny_pyNext_rev_item st p.isList (x:=u) (by simpa using hu) λl J sb=>?_
  have I1:Inv X f M H {s with heap:=l}:=I.turned (t':=s.toks) (λb o j e=>(sb.2 b j).trans e) A B C F G
  have e2:((n-1-i:Nat):Int)-1=(n:Int)-1-((i+1:Nat):Int):=by omega
  rw[e2] at J;obtain⟨o,e,c,d⟩:=id J;exact⟨u,rfl,HV (s:={s with heap:=l}) e c d (by decide) ⟨_,H,I1,ru,⟨rfl,λys hy=>by rw[I.uH hy Q];exact U⟩,⟨N,J⟩,λb j=>(m b j).1⟩⟩
 done:=by
  intro X r hw t L i f s M H E I m st q;rfl';subst r hw t;obtain⟨N,st⟩:=st;have q:n<=i:=q;have e:(n:Int)-1-(i:Int)= -1:=by omega
  rw[e] at st;obtain⟨A,B,f2,C,F,G⟩:=m g (by simp)
  ac_rfl;exact wpAny_pyNext_rev_end (I.ok.hd L) st λl eb=>⟨rfl,I.turned (t':=s.toks) (λb o j e=>eb b o j e) A B C F G⟩
 self:=λ_ _ _ _ _ st h=>wpAny_pyIter_revIter st.2 h
theorem BW:bootBuiltins "reversed"=some (.type "reversed"):=by decide+kernel
section
variable {Z:DC} {X:Cx} {a b c e:Expr} {ta tb te:aX} {t:gk} {pos:Pos}
def aaO(K:PySem.W.Frag)(g:TA):TI:=λh H R=>g h H λi d=>∃a f,i= [.ref a]/\b0 K d a f/\R (Ym K a f.length) d
theorem KI(v:Gl X "reversed")(w:X.mg "reversed"=none)(x:PA X [a] m)(y:starEach [a] X.env= [(false,eval a X.env)]:=by rfl):
  PI X r (.Call (.Name "reversed" p) [a] [] pos) (aaO X.K m):=by
 intro f s z H R I h;refine Call_ (lb I v w BW (Wp (thn (x pos f s z H _ I h) λM d ⟨N,A,j,B,C⟩=>?_) y rfl));rfl';obtain⟨l,n,e,F,q⟩:=C;subst e;obtain⟨u,rfl,G⟩:=B.one;subst G;obtain⟨k,J,p,Q⟩:=j.list F;have g:=J.length;ac_rfl;refine call_reversed_list p.isList ?_;have i:(d.heap.push (revObj l ((k.toArray.size:Int)-1))).IsRevIter d.heap.objs.size l ((n.length:Int)-1-((0:Nat):Int)):=⟨_,FS _ rfl,rfl,by simp[revObj,g]⟩
 refine wpAny_pyIter_revIter i ?_;refine⟨d.heap.objs.size,[d.heap.objs.size],_,_,A,rfl,j.kept (t':=d.toks) λb o e=>Da _ e,Mz l _ n.length,⟨eN _,i⟩,λb L=>?_,q⟩;have e:b=d.heap.objs.size:=by simpa using L
 subst e;exact j.Fd (bK _) (j.hok.fresh (bK _))
def V7(t:gk):hZ:=λd P=>t d λf=>match f with
 | [.lst l]=>P l.reverse
 |_=>False
theorem Ce(v:Gl X "reversed")(w:X.mg "reversed"=none)(f:DA Z X [a] t)(y:starEach [a] X.env= [(false,eval a X.env)]:=by rfl):DI Z X u (.Call (.Name "reversed" p) [a] [] pos) (V7 t):=by
 refine(KI v w f y).imp ?_;rintro M H Q ⟨G,z,P,s,A,h,q⟩;refine⟨G,z,_,s,A,h,λB g N C E m dv=>?_⟩;cases dv with
 |nil=>exact g.elim
 |cons a as=>
  cases as with
  |cons _ _=>cases a<;>exact g.elim
  |nil=>
   cases a<;>first|exact g.elim|skip
   rename_i p j B f e
   refine⟨_,j,rfl,b0.of (m.sub _ _ f),q _ g _ C E m ?_⟩;intro F O n o i;have r:=b0.of (K:=X.K) (o _ _ (n _ _ f));have l:=e.length;rw[Eh];refine⟨λk=>⟨by omega,j,r,rfl⟩,λk=>(show j.length<=i by omega),?_⟩
   rintro x R k ⟨rfl,I⟩;obtain⟨d,J,L⟩:=e.AO (I _ r);refine⟨F,d, .refl o,?_,L.mono n⟩;rw[List.getElem?_reverse k,<-l];exact J
theorem Lv:TH X (UQ X.K):=by
 intro d s o H x y v u Q I A B h;rfl';obtain⟨p,R,i,z,rfl,rfl,E,F,q⟩:=h;subst A;obtain⟨t,rfl⟩:=B;obtain⟨g,r,l,T⟩:=I.list E;obtain⟨j,f,G,U,J,L⟩:=xF F;obtain⟨w,m,M⟩:=r.get G;have N:=r.length;have Y:=mW;have fin:EP X d o Q w s:=⟨z,H,I,M,q⟩;ac_rfl
 by_cases n:0<=i
 ·have k:i.toNat=j:=by
   rw[afS n L] at f;exact Do f
  exact wpAny_getItem_list l.isList n (by omega) (by rw[k];simpa using m) fin
 ·have k:(i+(g.toArray.size:Int)).toNat=j:=by
   rw[seqIndex_neg (by omega) J] at f
   rw[di,<-N];exact Do f
  exact afU l.isList (by omega) (by rw[di]<;>omega) (by omega) (by rw[k];simpa using m) fin
variable {md:List Nat} {rn:Nat} {k:Expr} {tk:aX}
def QU(i:Nat)(f:Int->Int->Int)(l m:aX):cy:=λE g=>∃h,g[i]? =some (some (.lst h))/\l g λo=>∃k j n,o= .int k/\i9 h.length k=some j/\h[j]? =some (.int n)/\m g λd=>∃q,d= .int q/\E.nx (g.set i (some (.lst (h.set j (.int (f n q))))))
theorem uq(i:Nat)(Q:DE Z X k tk)(R:U5 X y (ipI f))(T:DE Z X e te)(p:md.getD i 0=1:=by rfl)
  (U:X.N[i]? =some x:=by rfl) (Y:mh X.env.scope x:=by first|exact Or.inl rfl|exact Or.inr (Or.inl rfl) |exact Or.inr (Or.inr rfl)) (a:(x==("__debug__":Str))=false:=by decide) (b:(x==("__classdict__":Str))=false:=by decide)
  (c:∀m o new,augStore k m o new=(do holding [new,m,o] (setItem m o new);release [new,m,o] [];pure .next):=by intros;rfl):DSt Z X md rn (.AugAssign (.Subscript (.Name x L) k O) y e pos) (QU i f tk te):=by
 refine(Px (pv i U Y a b) Q Lv T R set_list c).imp ?_;intro D σ H t;rfl';obtain⟨B,ρ,E,⟨G,fp,S⟩,⟨ds,r,h⟩,M⟩:=t;ac_rfl;rfl';obtain⟨l,xs,_,_,s,e3,_⟩:=S.one p r;ac_rfl;refine⟨_,s,S.ev true h ?_⟩;intro _ QC;rfl';obtain⟨k,j,n,rfl,z,hn,h⟩:=QC;ac_rfl;refine⟨rfl,λv1 G1 H1 A x1 HF=>?_⟩;rfl';cases HF.ofInt;obtain⟨l1,QA,ds1,u,C,Cj,F,_⟩:=A.one p r;cases u;ac_rfl;rw[s] at C;rfl';cases C;obtain⟨v,uA,dv⟩:=F.get hn;cases dv.ofInt;ac_rfl;refine⟨l,QA,k, .int n,rfl,rfl,b0.of Cj,BU F.length z uA,A.ev true h ?_⟩;rintro _ ⟨q,rfl,h⟩;refine⟨rfl,λv2 G2 H2 S2 x2 uu=>?_⟩;rfl';cases uu.ofInt;obtain⟨l2,Tu,ds2,u,I,w,J,put⟩:=S2.one p r;cases u;ac_rfl;rw[s] at I;cases I;exact⟨n,q,rfl,rfl,l,Tu,k,j,rfl,rfl,w,by rw[J.length];exact z,M.nx _ h _ _ ⟨G2,fp,put _ _ (J.set (.int _) j)⟩⟩
variable {apos aN:Pos}
variable {es:List Expr}
def NB(g:cx)(t:gk):hU:=λh P=>t h λas=>g as λd=>∃f,d= .lst f/\P f
theorem Nj{k:Nat}(F:FnOk X.prog X.w X.K X.mg X.base bZ k f l m (fQ Z n g))(u:bW k X.A)(y:Gl X x)(z:X.mg x=some (.ref f))(B:PySem.W.keepIn X.K (.ref f)=true)(d:Binds X.K l m [])
  (C:DA Z X (e::es) t) (E:(x==("__debug__":Str))=false:=by decide) (I:starEach (e::es) X.env=(false,eval e X.env)::starEach es X.env:=by rfl) (J:(backTo pos (starEach es X.env)).any (·.1)=false:=by rfl):
  DF Z X n (.Call (.Name x p) (e::es) [] pos) (NB g t):=by
 refine(F9 F u y z B d .nil uU C E I J).imp ?_;intro σ H Q L;rfl';obtain⟨G,N,P,s,O,h,q⟩:=L;ac_rfl;refine⟨G,N,_,s,O,h,λR T U Y a j c=>?_⟩;show fQ Z n g (U++ []) a Q E0;rw[fJ];refine⟨Y,R,_,j.sub,c,T,?_⟩;intro _ QC v f G2 H2 x2 o nd r;rfl';obtain⟨gw,rfl,hp⟩:=QC;ac_rfl;exact q _ hp v f G2 H2 (j.trans x2) o nd λb d=>⟨j.hh.free (r b d).1,(r b d).2⟩
end
section
variable {X:Cx} {elt t0 i0 t1 i1:Expr} {f0 f1:List Expr} {scope:Scope} {pos:Pos} {wi fh:TI} {g g1:TG} {tt dA:TT} {te:TE} {src:List (Option Nat)} {NC:List Str}
def Qn(b:TI)(g:TG)(c:TT)(d:TI)(e:TG)(f:TT)(h:TE)(src:List (Option Nat))(i:Nat):TS:=λD a H=>Qp b g c d e f h src a H λv j=>D.nx (a.set i (some v)) j
theorem Jr(hc:X.calm=true)(hN:X.N.Nodup)(iN:X.N[i]? =some x)(hx:Loc X.env.scope x)(c:bP X scope)(dU:dj scope X.N src NC)(hi:PI X t0 i0 wi)
  (hg:∀j s H,PG (bY X scope NC j s H) t0 g) (ht:∀j s H,mP (bY X scope NC j s H) f0 tt) (qu:∀j s H,PI (bY X scope NC j s H) t1 i1 fh) (CB:∀j s H,PG (bY X scope NC j s H) t1 g1)
  (CK:∀j s H,mP (bY X scope NC j s H) f1 dA) (he:∀j s H,PE (bY X scope NC j s H) elt te)
  (kg:swapsWith (.ListComp elt [⟨t0,i0,f0,0⟩,⟨t1,i1,f1,0⟩] scope pos) (some (.Name x t)) O.line X.env=pure true)
  (hf:X.fn x=true\/X.env.scope.names.lookup x=some .local:=by first|exact .inl rfl|exact .inr rfl|assumption)
  (hs:∀x,foldedSetIterable i0 X.env x=pure x:=by intro _;rfl) (wx:∀env x,foldedSetIterable i1 env x=pure x:=by intro _ _;rfl):PS X (.Assign [.Name x t] (.ListComp elt [⟨t0,i0,f0,0⟩,⟨t1,i1,f1,0⟩] scope pos) O) (Qn wi g tt fh g1 dA te src i):=by
 intro f s u H D I h;rw[exec_Assign_Name_used _ _ _ _ kg];refine ir (SL (ir ?_));show wpAny _ X.A (do let _ <-comprehension (.ListComp elt [⟨t0,i0,f0,0⟩,⟨t1,i1,f1,0⟩] scope pos) scope X.env _ (newList []) false (eval i0 X.env) (some (assign (.Name x t) X.env))) _ _ s
 refine ir (wpAny_mono (ael (use:=some (assign (.Name x t) X.env)) (Q:=λ_ k=>SP X f D .next k) rfl hs (f7 (c.cells I.ok)) c.kind c.names
  (thn (hi f s u H _ I h) λv s1 h1=>thn h1 λqv s2 h2=>?_)) (λ_ k hq=>mo (mo hq)) λ_ _ e=>e)
 rfl';obtain⟨it,fp,tn,J,H2,rfl,I2,T,pO,f2,hW⟩:=h2;ac_rfl;refine sr (RR:=λF C=>compPost (model X.prog X.w) X.A X.xe (some (assign (.Name x t) X.env)) (λ_ k=>SP X f D .next k) F C) (Q:=λv l=>D.nx (u.set i (some v)) l) hc c dU I2 T pO f2 hg ht qu CB CK he wx hW ?_;intro a n H3 ay l k r f3 G q;obtain⟨m,hn,_⟩:=G.loc;have R:Inv X f u l k:=comp_back r f3 G (.refl ..);have U:n.heap.objs.size≠X.env.locals:=ae1 r.lt
 have nc:∀y d,X.env.cells.lookup y=some d->d≠n.heap.objs.size:=λy d e z=>by
  obtain⟨v,hv⟩:=r.cell y d e
  have:=hv.lt
  rw[z] at this;exact absurd this (hJ _)
 have np:∀p∈X.pn++f,p.1≠n.heap.objs.size:=λp B z=>by
  have:=Fk (r.pin p B).1
  rw[z] at this;exact absurd this (hJ _)
 rfl';obtain⟨L,es,ep,WT,Y,rC⟩:=id hn;have Z:l n.heap.objs.size=none:=G.free;ac_rfl
 have IP:Inv X ((n.heap.objs.size,L)::f) u l k:=R.mF λp B=>by
  rcases bT.mp B with z|z
  ·rw[z]
   exact⟨WT,Z,U,r.OY (bK _),λv w=>by rw[Y] at w;cases w⟩
  ·exact R.pin p (dW _ z)
 refine aft (jc (x:=x) IP hN iN hx (v:= .ref a) rfl (λs5 M=>?_) hf);have Wo:=(M.pin (n.heap.objs.size,L) (dW _ bO)).1;refine⟨m,⟨L,es,ep,Wo,Y,rC⟩,λh6 sb=>?_⟩;have MK:Inv X f (u.set i (some (.ref a))) l s5:=M.mF λp B=>M.pin p (dW _ (bU _ B));exact⟨_,l,MK.turned (t':=s5.toks) (it:=n.heap.objs.size) (λb o hb e=>sb.extBut b o hb e) Z U (.inr r.sz) nc np,q⟩
end
section
variable {Z:DC} {X:Cx} {md:List Nat} {rn:Nat} {elt t0 i0 t1 i1:Expr} {f0 f1:List Expr} {scope:Scope} {pos:Pos} {wi fh:hZ} {g g1:dZ} {tt dA:dG} {te:aX} {src:List (Option Nat)} {NC:List Str}
theorem HC(i:Nat)(j:X.calm=true)(k:X.N.Nodup)(c:bP X scope)(l:dj scope X.N src NC)(m:DI Z X t0 i0 wi)
  (n:∀a s H,DG Z (bY X scope NC a s H) t0 g) (o:∀a s H,xq Z (bY X scope NC a s H) f0 tt) (p:∀a s H,DI Z (bY X scope NC a s H) t1 i1 fh) (q:∀a s H,DG Z (bY X scope NC a s H) t1 g1)
  (r:∀a s H,xq Z (bY X scope NC a s H) f1 dA) (t:∀a s H,DE Z (bY X scope NC a s H) elt te)
  (u:swapsWith (.ListComp elt [⟨t0,i0,f0,0⟩,⟨t1,i1,f1,0⟩] scope pos) (some (.Name x b)) e.line X.env=pure true:=by rfl) (w:md.getD i 0=0:=by rfl) (y:X.N[i]? =some x:=by rfl) (z:Loc X.env.scope x:=by first|exact Or.inl rfl|exact Or.inr rfl)
  (A:X.fn x=true\/X.env.scope.names.lookup x=some .local:=by first|exact .inl rfl|exact .inr rfl|assumption)
  (C:∀x,foldedSetIterable i0 X.env x=pure x:=by intro _;rfl) (F:∀env x,foldedSetIterable i1 env x=pure x:=by intro _ _;rfl):
  DSt Z X md rn (.Assign [.Name x b] (.ListComp elt [⟨t0,i0,f0,0⟩,⟨t1,i1,f1,0⟩] scope pos) e) (AD md false i (M8 wi g tt fh g1 dA te src)):=by
 refine(Jr j k y z c l m n o p q r t u A C F).imp ?_;intro D I H J;rfl';obtain⟨B,T,E,⟨G,U,S⟩,h,M⟩:=J;ac_rfl;refine FL I H _ (S.ev false h λd f=>⟨f.1,λv O Y Q x dv=>M.nx _ f.2 _ _ ⟨O,_,Q.kE w dv⟩⟩)
end
section
variable {Z:DC} {X:Cx} {md:List Nat} {rn:Nat} {e:Expr} {pos:Pos}
def VV(i:Nat)(t:hU):cy:=λE a=>t a λb=>b.all fq=true/\E.nx (a.set i (some (.lst b)))
theorem DvAll.flat:∀{c:List V}{b:List D},DvAll Z G c b->b.all fq=true->DvAll Z d c b
 |_,_, .nil,_=> .nil
 |_,_, .cons a as,h=>by
  rw[u9,ub] at h;exact .cons (a.flat h.1) (as.flat h.2)
theorem Nw(i:Nat)(n:X.N.Nodup)(p:DF Z X 1 e t)(q:r.getD i 0=1:=by rfl)(s:X.N[i]? =some x:=by rfl)(u:Loc X.env.scope x:=by first|exact Or.inl rfl|exact Or.inr rfl)(w:swapsWith e (some (.Name x c)) d.line X.env=pure false:=by rfl)
  (y:X.fn x=true\/X.env.scope.names.lookup x=some .local:=by first|exact .inl rfl|exact .inr rfl|assumption):DSt Z X r rn (.Assign [.Name x c] e d) (VV i t):=by
 refine(jj n s u p w y).imp ?_;intro D σ H z;rfl';obtain⟨B,C,E,⟨G,fp,S⟩,h,M⟩:=z;ac_rfl;refine⟨H,C,_, .refl _,S.vz,h,?_⟩;rintro F ⟨I,J⟩ v f G' H' x o nd l;have L:=Ext.all S.ex.sub x;have O:=S.grow L;obtain⟨a,Q,gw,eD,rfl,R,T,m,U⟩:=o.lst;cases R;obtain⟨dv,rfl⟩:=U.flat;have g:H a=none:=(l a (by rw[m];simp)).1
 refine M.nx _ J _ _ ⟨G,_,O.Br (f:= [a]) q (.inl ⟨a,Q,F,[],rfl,rfl,T,rfl,(dv.flat I).own⟩) (by simp) (λb k=>?_) λb k j _ Y=>?_⟩
 ·have:b=a:=by simpa using k
  subst this;exact⟨S.ex.hh.free g,(l b (by rw[m];simp)).2.1,S.ex.sub.free g⟩
 ·have:b=a:=by simpa using k
  subst this;exact(S.nw j b Y).2.1 g
end
theorem i6{l:List D}{j:Nat}{d:D}(h:(iw l)[j]? =some d):∃x,l[j]? =some x/\d= .tup [.int (j:Int),x]:=by
 unfold iw at h;rw[List.getElem?_mapIdx] at h;cases e:l[j]? with
 |none=>rw[e] at h;cases h
 |some x=>rw[e] at h;cases h;exact⟨x,rfl,rfl⟩
theorem i7(l:List D):(iw l).length=l.length:=by unfold iw;simp
theorem cC{a b:Type}{f:a->b}{l:List a}{j:Nat}{y:b}(h:(l.map f)[j]? =some y):∃x,l[j]? =some x/\y=f x:=by
 rw[eO] at h;cases e:l[j]? with
 |none=>rw[e] at h;cases h
 |some x=>rw[e] at h;cases h;exact⟨x,rfl,rfl⟩
theorem dH(r:List Nat):(r.map aq).all fq=true:=by simp[aq,fq]
theorem kh{r:List Nat}{p:Nat}:inD (aq p) (r.map aq)=decide (p∈r):=by
 unfold inD;rw[List.any_map]
 have:((λy=>kS y (aq p))∘aq)=λq:Nat=>decide (q=p):=by
  funext q
  simp[aq,kS,Function.comp]
  by_cases z:q=p
  ·simp[z]
  ·have:¬(q:Int)=(p:Int):=by omega
   simp[z,this]
 rw[this]
 by_cases h:p∈r
 ·rw[KM h,List.any_eq_true];exact⟨p,h,by simp⟩
 ·rw[Gc h]
  apply ua.mpr;intro z;rw[List.any_eq_true] at z;obtain⟨q,a,e⟩:=z
  exact h (by have:q=p:=by simpa using e
              rw[<-this];exact a)
theorem iV{l:List D}{p:Nat}{d:D}(h:l[p]? =some d):gL l (p:Int)=some d:=Ey h
theorem tZ(h:p<w.length):(w.map au)[p]? =some (au (Wb.row w p)):=by
 rw[eO,Wb.Gk h];rfl
section
variable {Z:DC} {X:Cx} {md:List Nat} {rn:Nat} {e:Expr} {te:aX} {pos:Pos}
def VL(b:aX):cy:=λE a=>b a λ_=>E.nx a
theorem Nu(a:DE Z X e te)(b:swapsWith e none pos.line X.env=pure false:=by rfl):DSt Z X md rn (.Expr e pos) (VL te):=by
 refine(iH a b).imp ?_;intro D k H c;rfl';obtain⟨B,g,E,⟨G,i,S⟩,h,M⟩:=c;ac_rfl;exact⟨H,g,_, .refl _,S.vz,h,λd j v m n x dv=>M.nx _ j _ _ ⟨G,i,S.grow (Ext.all S.ex.sub x)⟩⟩
end
theorem QB(h:A):ml a (λb=>if b=true then A else B):=by
 unfold ml;dsimp only;rw[tz rfl];exact h
theorem aaS{c:Bool}{A B:Prop}(e:c=false)(h:B):if c=true then A else B:=by rw[AC (by rw[e];exact cQ)];exact h
theorem kY(I:DN->Prop)(e:n->D)(p:n->Bool)(f:n->D):∀(j:List n)(i:DN)(a:List D)(N:DN->List D->Prop),(∀y∈j,∀i,I i->∀(Y:DN->D->Prop)(v:DN->Prop),(∀c,I c->p y=true->Y c (f y))->(∀c,I c->p y=false->v c)->g (e y) i λc=>l c λb=>if b=true then m c (Y c) else v c)->
  I i->a.length+j.length<=sizeLine->(∀i,I i->N i (a++(j.filter p).map f))->lcW g l m (j.map e) i a N
 | [],i,a,N,_,o,_,h=>by
  show N i a;simpa using h i o
 |y::j,i,a,N,q,o,k,h=>by
  rw[eX] at k;refine q y (bO ..) i o (λc d=>a.length<sizeLine/\lcW g l m (j.map e) c (a++ [d]) N) (λc=>lcW g l m (j.map e) c a N) (λc r s=>⟨by omega,?_⟩) (λc r s=>?_)
  ·refine kY I e p f j _ (a++ [f y]) N (λz k=>q z (bU _ k)) r (by simp;omega) λt u=>?_
   have:=h t u
   rw[BG,s] at this;simpa using this
  ·refine kY I e p f j _ a N (λz k=>q z (bU _ k)) r (by omega) λt u=>?_
   have:=h t u
   rw[BG,s] at this;simpa using this
theorem FJ(I:DN->Prop)(i:p->D)(f:p->List q)(d:q->D):∀(j:List p)(e:DN)(a:List q)(P:List D->Prop),
  (∀y∈j,∀e,I e->∀(Y:DN->List D->Prop),(∀c,I c->Y c ((f y).map d))->g (i y) e λc=>o c (Y c))->
  (∀y∈j,∀b∈f y,∀e,I e->∀(Y:DN->D->Prop),(∀c,I c->Y c (d b))->m (d b) e λc=>n c (Y c))->
  I e->a.length+(j.flatMap f).length<=sizeLine->P ((a++j.flatMap f).map d)->nH g ml o m ml n (j.map i) e (a.map d) P
 | [],e,a,P,_,_,t,_,h=>by
  show P (a.map d);simpa using h
 |y::j,e,a,P,u,v,t,k,h=>by
  rw[t9,cI] at k;refine u y (bO ..) e t (λc w=>lcW m ml n w c (a.map d) λl x=>nH g ml o m ml n (j.map i) l x P) λc r=>?_;refine kY I d (λ_=>true) d (f y) c (a.map d) _ (λb A l s Y F B _=>?_) r (by rw[aP];omega) λl s=>?_
  ·exact v y (bO ..) b A l s Y λC E=>B C E rfl
  ·rw[Eg.mpr (λ_ _=>rfl),<-cR]
   refine FJ I i f d j l (a++f y) P (λz k=>u z (bU _ k)) (λz k=>v z (bU _ k)) s (by rw[cI];omega) ?_
   rw[t9] at h;rw[jP];exact h
theorem Bz(c:d->D):∀(u v:List d),pT (u.map c) (v.map c)=(u.zip v).map λy=> .tup [c y.1,c y.2]
 | [],_=>by simp[pT]
 |_::_,[]=>by simp[pT]
 |a::u,b::v=>by
  have:=Bz c u v
  simp[pT] at this ⊢;exact this
theorem fP(h:b.length=1):∃d,b= [d]:=by
 cases b with
 |nil=>cases h
 |cons a l=>
  cases l with
  |nil=>exact⟨a,rfl⟩
  |cons _ _=>cases h
theorem km(h:b.length=2):∃e c,b= [e,c]:=by
 cases b with
 |nil=>cases h
 |cons a l=>
  obtain⟨c,rfl⟩:=fP (afH h);exact⟨a,c,rfl⟩
theorem A2(h:b.length=3):∃f c d,b= [f,c,d]:=by
 cases b with
 |nil=>cases h
 |cons a l=>
  obtain⟨c,d,rfl⟩:=km (afH h);exact⟨a,c,d,rfl⟩
theorem OL(h:b.length=4):∃g c d e,b= [g,c,d,e]:=by
 cases b with
 |nil=>cases h
 |cons a l=>
  obtain⟨c,d,e,rfl⟩:=A2 (afH h);exact⟨a,c,d,e,rfl⟩
theorem abk(h:b.length=5):∃i c d e f,b= [i,c,d,e,f]:=by
 cases b with
 |nil=>cases h
 |cons a l=>
  rfl';obtain⟨c,d,e,f,rfl⟩:=OL (afH h);ac_rfl;exact⟨a,c,d,e,f,rfl⟩
section
variable {Z:DC} {X:Cx}
def MF(i j:Int):Prop:=i.natAbs<2^10000/\j.natAbs<2^10000
theorem ED(h:a.natAbs<2^10000):Builtin.Int.intBits a<=2^20:=fK (intBits_le h) (by decide)
theorem O9:OpR X (binaryOp .Mult) (rI MF λi j=> .int (i*j)):=O6 λ_ _ _ _ _ _ _ a q=>mul_int q (IntMulOk.of_bits (ED a.1) (ED a.2))
def VT:gq:=dI MF λi j=>i*j
theorem FY:OpR X (binaryOp .Mult) (bV Z VT):=wY O9
end
theorem bP.nest(k:f.kind= .function)(a:∀x∈f.names,x.2= .local->f.names.lookup x.1=some .local)(b:∀x∈f.names,x.2≠ .cell)
  (d:∀x∈f.names,x.2= .free->c.names.lookup x.1=some .free):bP (bY X c g i s H) f where
 kind:=k
 names:=a
 nocell:=b
 free:=λx j e=>by
  have h:(bY X c g i s H).env.kindOf x.1=(c.names.lookup x.1).map λk=>if (k==NameKind.free&&X.env.scope.kind== .function&&X.env.kindOf x.1==some .cell) then NameKind.cell else k:=gH c.names x.1;rw[h,d x j e,zM]
  split
  ·exact .inl rfl
  ·exact .inr rfl
section
variable {Z:DC} {X:Cx} {e:Expr} {es:List Expr} {t:gk} {pos:Pos}
theorem aH{a:cx}{k j:Nat}{x:Str}{st:Stmt}{c:List Str}{p:Pos}(d:eF X.K X.mg x st c)(F:FnOk X.prog X.w X.K X.mg X.base bZ k d.f d.fd c (aT Z a))(g:bW j X.A)(h:DA Z X (e::es) t)(i:Gl X x:=by rfl)(l:k<=j:=by first|decide|omega)
  (n:(x==("__debug__":Str))=false:=by decide) (o:starEach (e::es) X.env=(false,eval e X.env)::starEach es X.env:=by rfl) (q:(backTo pos (starEach es X.env)).any (·.1)=false:=by rfl):
  DE Z X (.Call (.Name x p) (e::es) [] pos) (yb a t):=Nh F (g.mono l) i d.m d.F.kp d.b h n o q
theorem Lh{n:Nat}{a:cx}{k j:Nat}{x:Str}{st:Stmt}{c:List Str}{p:Pos}(d:eF X.K X.mg x st c)(F:FnOk X.prog X.w X.K X.mg X.base bZ k d.f d.fd c (fQ Z n a))(g:bW j X.A)(h:DA Z X (e::es) t)(i:Gl X x:=by rfl)(l:k<=j:=by first|decide|omega)
  (o:(x==("__debug__":Str))=false:=by decide) (q:starEach (e::es) X.env=(false,eval e X.env)::starEach es X.env:=by rfl) (r:(backTo pos (starEach es X.env)).any (·.1)=false:=by rfl):
  DF Z X n (.Call (.Name x p) (e::es) [] pos) (NB a t):=Nj F (g.mono l) i d.m d.F.kp d.b h o q r
theorem lE(f:Scope)(e:X.env.scope=f:=by rfl)(k:d.kind= .function:=by rfl)(a:∀x∈d.names,x.2= .local->d.names.lookup x.1=some .local:=by decide+kernel)(b:∀x∈d.names,x.2≠ .cell:=by decide+kernel)
  (c:∀x∈d.names,x.2= .free->f.names.lookup x.1=some .cell\/f.names.lookup x.1=some .free:=by decide+kernel):bP X d:=bP.of f e k a b c
theorem Y4{NC:List Str}(k:f.kind= .function:=by rfl)(a:∀x∈f.names,x.2= .local->f.names.lookup x.1=some .local:=by decide+kernel)(b:∀x∈f.names,x.2≠ .cell:=by decide+kernel)
  (d:∀x∈f.names,x.2= .free->c.names.lookup x.1=some .free:=by decide+kernel):bP (bY X c NC g s H) f:=bP.nest k a b d
end
section
variable {K:PySem.W.Frag} {h:Heap} {mg:Str->Option Value}
abbrev fG(K:PySem.W.Frag)(x:Str)(d:Addr):Prop:=PySem.W.nsIn K mainGlobals x=some (some (.ref d))
abbrev dR(K:PySem.W.Frag)(x a:Str)(st:Stmt)(d:Addr)(b c:Option Addr)(e:Array (Option Value))(f kV g i j k:Value):Prop:=K.lookup d=some ⟨f,b, .func (PySem.W.fnOf x a (kc st) (eI st) (ar st) .none kV g i c j k),e⟩
def eF.of{x:Str}{st:Stmt}{ps:List Str}{d:Addr}{n e:Option Addr}{o:Array (Option Value)}{p kV q f m g:Value}(X:K.In h)(G:h.Ns mainGlobals mg)(a:fG K x d)(l:dR K x x st d n e o p kV q f m g)(c:PySem.W.codeIn K m x=true)(k:PySem.W.keepIn K (.ref d)=true)
  (b:∀(kV i f:Value)(e:Option Addr)(r g:Value)(j:List Value),j.length=ps.length->bindArgs (PySem.W.fnOf x x (kc st) (eI st) (ar st) .none kV i f e r g) ⟨j,[]⟩=pure (ps.zip j)):eF K mg x st ps:=
 ⟨d,_,jT l c k,(jT l c k).binds b,GT X G a⟩
def Hd.of{Z:DC}{m e:Str}{st:Stmt}{ps:List Str}{d:Addr}{q g:Option Addr}{r:Array (Option Value)}{s kV t i p j:Value}(a:PySem.W.findIn Z.K (.ref Z.C) m=some (some (.ref d)))(f:PySem.W.isFn Z.K (.ref d)=true)(l:dR Z.K m e st d q g r s kV t i p j)(c:PySem.W.codeIn Z.K p e=true)(k:PySem.W.keepIn Z.K (.ref d)=true)
  (b:∀(kV n i:Value)(g:Option Addr)(u j:Value)(o:List Value),o.length=ps.length->bindArgs (PySem.W.fnOf m e (kc st) (eI st) (ar st) .none kV n i g u j) ⟨o,[]⟩=pure (ps.zip o)):Hd Z m e st ps:=
 ⟨d,_,jT l c k,(jT l c k).binds b,⟨a,f,k⟩⟩
end
end L2
namespace Wb
def gu(w:W):Nat:=(w.map List.length).sum
theorem EX{r:List Nat}:∀{w:W}{p:Nat},p<w.length->gu (w.set p r)+(row w p).length=gu w+r.length
 | [],_,h=>by simp at h
 |a::w,0,_=>by simp[gu,row];omega
 |a::w,p+1,h=>by
  have b:=EX (r:=r) (w:=w) (p:=p) (by simpa using h)
  have e:row (a::w) (p+1)=row w p:=by simp[row]
  rw[e];simp only[gu,List.set_cons_succ,dF,aeL] at b ⊢;omega
theorem uo(w:W):gu w=((List.range w.length).map λp=>(row w p).length).sum:=by
 unfold gu
 congr 1
 refine List.ext_getElem (by simp) λi b c=>?_
 rw[List.getElem_map,List.getElem_map,List.getElem_range];have a:i<w.length:=by simpa using b
 have:=Gk a
 rw[b9 a] at this;rw[Do this]
theorem fN(w:W):(aZ w).length=gu w:=by
 rw[uo];unfold aZ;rw[List.length_flatMap]
 congr 1
 apply zL;intro p _;rw[aP]
theorem eG(g:Good w):(aZ w).Nodup:=by
 unfold aZ List.Nodup;refine oY (λp _=>?_) ?_
 ·rw[pX]
  exact(g.nod p).imp λne e=>ne (KB Prod.snd e)
 ·refine List.Pairwise.imp ?_ aeF
  intro a b lt x c y d e;obtain⟨_,_,rfl⟩:=bL.mp c;obtain⟨_,_,rfl⟩:=bL.mp d
  have:=KB Prod.fst e
  simp at this;omega
theorem pP(w:W):jV (row w) w.length=(aZ w).filter λd=>decide (d.1<d.2):=by
 unfold jV aZ;rw[List.filter_flatMap]
 congr 1
 funext p
 rw[List.filter_map];rfl
theorem zw(g:Good w):2*(jV (row w) w.length).length<=gu w:=by
 rw[pP,<-fN];have f:=List.length_eq_countP_add_countP (λd:Nat×Nat=>decide (d.1<d.2)) (l:=aZ w)
 have p:((aZ w).filter λd=>decide (d.1<d.2)).length<=((aZ w).filter λd=>decide (d.2<d.1)).length:=by
  have:=bf (l:=((aZ w).filter λd=>decide (d.1<d.2)).map λd=>(d.2,d.1)) (m:=(aZ w).filter λd=>decide (d.2<d.1)) ?_ ?_
  ·rwa [aP] at this
  ·unfold List.Nodup
   rw[pX];refine List.Pairwise.imp ?_ ((eG g).filter _);intro a b ne e;have i:=KB Prod.fst e;have j:=KB Prod.snd e;exact ne (UF j i)
  ·intro x k
   obtain⟨d,n,rfl⟩:=bL.mp k;obtain⟨o,c⟩:=zG.mp n;refine zG.mpr ⟨bI.mpr (g.sym _ _ (bI.mp o)),?_⟩;simpa using c
 have q:((aZ w).filter λd=>decide (d.2<d.1)).length<=(aZ w).countP λd=>!decide (d.1<d.2):=by
  rw[<-afd];apply List.countP_mono_left;intro d _ h;simp at h ⊢;omega
 rw[afd] at f
 have r:(aZ w).countP (λd=>!decide (d.1<d.2))=List.countP (λa=>decide ¬(decide (a.1<a.2)=true)) (aZ w):=by
  congr 1
  funext d
  by_cases h:d.1<d.2<;>simp[h]
 omega
structure RI (w:W) (bs:List Bool) (ws ex:List Nat) (c:Nat):Prop where
 len:bs.length=w.length
 z:bs[0]? =some true
 wt:∀x∈ws,bs[x]? =some true
 cl:∀x,bs[x]? =some true->x∈ws\/x∈ex\/∀q∈row w x,bs[q]? =some true
 cnt:bs.count false+ws.length<=c
theorem RI.pop(h:RI w bs (b++ [p]) [] (c+1)):RI w bs b [p] c:=
 ⟨h.len,h.z,λx a=>h.wt x (kF _ a),λx a=>by
  rcases h.cl x a with q|q|q
  ·rcases cV.mp q with q|q
   ·exact .inl q
   ·exact .inr (.inl q)
  ·cases q
  ·exact .inr (.inr q),by have:=h.cnt;rw[cI] at this;simp at this;omega⟩
theorem RI.push(h:RI w bs d f c)(i:bs[q]? =some false):RI w (bs.set q true) (d++ [q]) f c:=by
 obtain⟨b,g⟩:=dS.mp i
 have up:∀x,bs[x]? =some true->(bs.set q true)[x]? =some true:=λx a=>by
  rw[pW]
  by_cases e:q=x
  ·rw[tz e,tz b]
  ·rw[AC e];exact a
 refine⟨by rw[jB];exact h.len,up _ h.z,λx a=>?_,λx a=>?_,?_⟩
 ·rcases cV.mp a with z|z
  ·exact up _ (h.wt x z)
  ·have:x=q:=by simpa using z
   rw[this,pW,tz rfl,tz b]
 ·by_cases e:q=x
  ·exact .inl (by rw[e];simp)
  ·rw[pW,AC e] at a
   rcases h.cl x a with z|z|z
   ·exact .inl (kF _ z)
   ·exact .inr (.inl z)
   ·exact .inr (.inr λy j=>up _ (z y j))
 ·have k:=h.cnt
  have:0<bs.count false:=List.count_pos_iff.mpr (by rw[<-g];exact pZ b)
  rw[afe b,g,cI];simp;omega
theorem RI.close(h:RI w bs a [p] c)(b:∀q∈row w p,bs[q]? =some true):RI w bs a [] c:=
 ⟨h.len,h.z,h.wt,λx d=>by
  rcases h.cl x d with q|q|q
  ·exact .inl q
  ·have:x=p:=by simpa using q
   rw[this];exact .inr (.inr b)
  ·exact .inr (.inr q),h.cnt⟩
theorem RI.all(g:Good w)(h:RI w bs [] [] c):bs=List.replicate w.length true:=by
 have:=kQ g (S:=λx=>bs[x]? =some true) h.z λp q b d=>by
  rcases h.cl p b with z|z|z
  ·cases z
  ·cases z
  ·exact z q d
 refine qN λi=>?_
 by_cases a:i<w.length
 ·rw[this i a,qL,tz a]
 ·rw[eM (by rw[h.len];omega),eM (by simp;omega)]
structure Au (w:W):Prop where
 rng:∀p q,q∈row w p->q<w.length
 irr:∀p,p∉row w p
 nod:∀p,(row w p).Nodup
 sym:∀p q,q∈row w p->p∈row w q
theorem Good.near(g:Good w):Au w:=⟨g.rng,g.irr,g.nod,g.sym⟩
theorem Au.good(n:Au w)(h:∀p,p<w.length->Reach w 0 p):Good w:=⟨n.rng,n.irr,n.nod,n.sym,h⟩
end Wb
namespace L2
open PySem PySem.Spec PyProof.Rows
section
variable {X:Cx} {Z:DC} {pins:List (Addr×Obj)} {σ:St} {H:Hp} {s:Shared}
open Classical in
open Classical in
end
section
variable {X:Cx} {Z:DC}
theorem Hq:CallR X (.type "range") (λa H Q=>∃i:Int,a= [.int i]/\∀q,H q=none->Q (.ref q) (upd H q (.rng 0 i))):=by
 intro c s f H a g Q I d h;obtain⟨i,rfl,q⟩:=h;obtain⟨j,rfl,⟨k,rfl⟩⟩:=d.one;refine call_range_1 ?_;exact⟨.ref s.heap.objs.size,_,I.laid (λb o e=>Da _ e) (bK _) (o:= .rng 0 i) ⟨_,_,_,FS _ rfl⟩,rfl,q _ (I.hok.fresh (bK _))⟩
def Vd:cx:=λa P=>∃i:Int,a= [.int i]/\P (.rng 0 i)
theorem xR:CallR X (.type "range") (ja Z Vd):=by
 refine Hq.imp ?_;intro f H Q b;rfl';obtain⟨G,h,P,s,dv,⟨i,rfl,d⟩,q⟩:=b;obtain⟨v,rfl,a⟩:=dv.ofOne;ac_rfl;refine⟨i,by rw[a.ofInt],λp e=>q _ d _ _ _ (.new s e) (.rng av)⟩
def QM:cx:=λa P=>∃i j:Int,a= [.rng i j]/\(-(2^62)<=i/\i<2^62/\-(2^62)<=j/\j<2^62/\(j-i).toNat<=1000)/\P (.lst (cJ i (j-i).toNat))
theorem zc(i:Int)(n:Nat):DvAll Z G (m9 i n) (cJ i n):=by
 unfold m9 cJ
 induction List.range n with
 |nil=>exact .nil
 |cons k l a=>exact .cons (.int _) a
theorem Aw(b:X.calm=true):CallR X (.type "list") (ja Z QM):=by
 refine(oq b).imp ?_;intro o H Q c;rfl';obtain⟨G,t,P,s,dv,⟨i,j,rfl,⟨e,f,g,k,l⟩,m⟩,q⟩:=c;obtain⟨v,rfl,a⟩:=dv.ofOne;ac_rfl;cases a with
 |rng h=>exact⟨_,i,j,rfl,s _ _ h,e,f,g,k,l,λp n=>q _ m _ _ _ (.new s n) (.lst av (zc i _))⟩
end
section
variable {Z:DC} {X:Cx} {md:List Nat} {rn:Nat} {a b e k:Expr} {pos:Pos} {ta tb te tk:aX} {t:hU}
def aan(g h:aX):hU:=λf P=>g f λi=>∃c,i= .lst c/\h f λj=>∃d,j= .lst d/\c.length+d.length<=sizeLine/\P (c++d)
theorem Kj(l:DE Z X a ta)(m:DE Z X b tb):DF Z X 1 (.BinOp a .Add b pos) (aan ta tb):=by
 refine(Pl KG l m).imp ?_;intro I H Q n;rfl';obtain⟨G,f,P,s,e,h,q⟩:=n;ac_rfl;refine⟨G,f,_,s,e,h,?_⟩;rintro _ ⟨L,rfl,h⟩ M r N c u;refine⟨r,f,_,c.sub,e.mono c.gg,h,?_⟩;rintro _ ⟨O,rfl,v,w⟩ R T U d y;obtain⟨Y,k,rfl,z,g⟩:=u.jF;obtain⟨t,Tu,rfl,A,i⟩:=y.jF;have B:=g.mono d.gg;have x:=c.trans d;refine⟨_,_,_,_,rfl,rfl,d.hh _ _ (c.sub _ _ z),d.sub _ _ A,by rw[g.length,i.length];exact v,λp j=>?_⟩
 obtain⟨C,E,F⟩:=oX x j (B.append i);exact q _ w _ _ _ _ (x.side j) C E F
variable {tg iter elt:Expr} {ifs:List Expr} {scope:Scope} {NC:List Str} {src:List (Option Nat)} {wi:hZ} {g:dZ} {tt:dG}
theorem V4(f:X.calm=true)(c:bP X scope)(h:dj scope X.N src NC)(i:DI Z X tg iter wi)
  (j:∀d s H,DG Z (bY X scope NC d s H) tg g) (l:∀d s H,xq Z (bY X scope NC d s H) ifs tt) (m:∀d s H,DE Z (bY X scope NC d s H) elt te)
  (n:∀x,foldedSetIterable iter X.env x=pure x:=by intro _;rfl):DF Z X 1 (.ListComp elt [⟨tg,iter,ifs,0⟩] scope pos) (Rg wi g tt te src):=(Ph f c h i j l m n).imp yK
variable {B:Bs} {ρ:DN} {σ:St} {H G:Hp} {fp:Nat->List Addr}
theorem SIx.evF(S:SIx Z B md ρ σ H G fp)(h:t ρ P)
  (m:∀c,P c->c.all fq=true/\∀v i d,SIx Z B md ρ σ d i fp->Ext G H i d->Dv Z i v (.lst c)->Q v d):rz Z 1 t σ H Q:=by
 refine⟨H,ρ,P, .refl _,S.vz,h,?_⟩;intro c n v f i d x o I p;obtain⟨q,k⟩:=m c n;obtain⟨a,r,J,L,rfl,u,w,y,A⟩:=o.lst;cases u;obtain⟨dv,rfl⟩:=A.flat;have j:H a=none:=(p a (by rw[y];simp)).1
 have C:G a=none:=S.ex.sub.free j
 have l:Ext G H (upd G a (.lst r)) d:=by
  refine⟨aW C _,λb o e=>?_,x.hh,λb E F=>?_⟩
  ·by_cases z:b=a
   ·subst z
    rw[av] at e;rw[<-e];exact w
   ·rw[ax z] at e
    exact x.hh _ _ (S.ex.sub _ _ e)
  ·rw[ax (λz=>E (by rw[z];exact j))];exact F
 exact k _ _ _ (S.grow l) l (.lst av (dv.flat q))
def Nf(i:Nat)(h:aX)(t:hU):cy:=λE c=>t c λd=>d.all fq=true/\∃f,c[i]? =some (some (.lst f))/\h c λl=>∃k j,l= .int k/\i9 f.length k=some j/\E.nx (c.set i (some (.lst (f.set j (.lst d)))))
theorem HB(i:Nat)(C:DE Z X k tk)(F:DF Z X 1 e t)(r:md.getD i 0=1:=by rfl)(I:X.N[i]? =some x:=by rfl)(J:mh X.env.scope x:=by first|exact Or.inl rfl|exact Or.inr (Or.inl rfl) |exact Or.inr (Or.inr rfl))(n:(x==("__debug__":Str))=false:=by decide)(L:(x==("__classdict__":Str))=false:=by decide)
  (O:∀v,assign (.Subscript (.Name x c) k f) X.env v=(do
   let o <-holding [v] (eval (.Name x c) X.env)
   let q <-holding [v,o] (eval k X.env)
   standAt f
   holding [v,o,q] (setItem o q v)
   release [v,o,q] []):=by intro _;rfl)
  (Q:swapsWithSole [.Subscript (.Name x c) k f] e pos.line X.env=pure false:=by rfl) (hw:swappedStores [.Subscript (.Name x c) k f] e X.env=pure none:=by rfl)
  (p:(assignEach [.Subscript (.Name x c) k f] X.env).map (·.2)= [assign (.Subscript (.Name x c) k f) X.env]:=by rfl):DSt Z X md rn (.Assign [.Subscript (.Name x c) k f] e pos) (Nf i tk t):=by
 refine(xf F (w9 (pv i I J n L) C set_list O) Q hw p).imp ?_;intro D σ H R;rfl';obtain⟨B,ρ,E,⟨G,T,S⟩,h,M⟩:=R;ac_rfl;refine S.evF h λd n=>⟨n.1,λv G' H' w x dv=>?_⟩;rfl';obtain⟨_,ds,p,h⟩:=n;obtain⟨l,xs,_,_,y,e3,_⟩:=w.one r p;ac_rfl;refine⟨_,y,w.ev true h ?_⟩;rintro _ ⟨k,j,rfl,U,Y⟩;refine⟨rfl,λv1 a H1 b g s=>?_⟩;rfl';cases s.ofInt;obtain⟨l',jJ,gw,e1,z,Cj,A,put⟩:=b.one r p;cases e1;ac_rfl;rw[y] at z;cases z;exact⟨l,jJ,k,j,rfl,rfl,Cj,by rw[A.length];exact U,M.nx _ Y _ _ ⟨a,T,put _ _ (A.set (dv.mono g.gg) j)⟩⟩
end
open PySem.Calls PySem.W
section
variable {X:Cx} {C:Addr} {x:Str} {p pos:Pos} {e:Expr} {es:List Expr} {te:TE} {t:TA}
def Qs(C:Addr)(t:TA):TE:=λb H Q=>t b H λc a=>c.length<=1000/\∀e,a e=none->Q (.ref e) (upd a e (qp C e none))
theorem Gp{H:Hp}{s:Shared}(M:Hh X.K C (.builtin "ValueError.__init__"))(I:Inv X a f H s)(F:c.length<=1000)(h:∀e,H e=none->Q (.ref e) (upd H e (qp C e none))):
  wpAny (model X.prog X.w) X.A (call (.ref C) c) (EP X a f Q) X.xe s:=by
 obtain⟨G,q,N,bs,J,L,O,sub,R,l,T,U,Y,p,t,x,i,j,m,n⟩:=M.obj;have r:=h (s.heap.objs.size+1) (I.hok.fresh (qP _));have k:c.length<=sizeLine:=by rw[aee];omega
 have v:((s.heap.push {cls:= .type "tuple",data:= .seq c.toArray}).push (cw C s.heap.objs.size none)).get? (s.heap.objs.size+1)=some (cw C s.heap.objs.size none):=by
  have:=FS (s.heap.push {cls:= .type "tuple",data:= .seq c.toArray}) (o:=cw C s.heap.objs.size none) rfl
  rwa [aev] at this
 obtain⟨y,g,d,z,os⟩:=s
 refine aeb (vY (init:= .builtin "ValueError.__init__") aej j m n (I.cW _ _ i) (afL I.cW M.call) (PySem.W.looks_instIn I.cW M.typ) (ae2 I.cW M.ini)
  (λself=>PySem.W.Looks.of_pure (aej.init.bind self)) k ?_)
 refine vA aej j (Da _ (Da _ (I.cW _ _ i))) v (λZ t' B E=>?_) k;refine⟨rfl,⟨V.ref (y.objs.size+1),_,I.laid (t':=z) (λb u q=>E b u ?_ (Da _ (Da _ q))) (qP _) (D9 B),rfl,r⟩⟩;exact cp (aeA (Fk q))
theorem Jp(M:Hh X.K C (.builtin "ValueError.__init__"))(c:Gl X x)(d:X.mg x=some (.ref C))(f:PA X (e::es) t)(g:(x==("__debug__":Str))=false:=by decide)
  (i:starEach (e::es) X.env=(false,eval e X.env)::starEach es X.env:=by rfl) (j:(backTo pos (starEach es X.env)).any (·.1)=false:=by rfl):
  PE X (.Call (.Name x p) (e::es) [] pos) (Qs C t):=by
 intro a s k H Q I h;refine P3 (iF I c d ?_ g);refine aea (h₀:=X.base) I.ok.mod.kin M.kp (thn (f pos a s k H _ I h) λm n ⟨o,u,b,r,l,q⟩=>⟨b.cW,?_⟩) i j;exact Gp M b (by rw[nX,<-r.length];exact l) q
def Tf(X:Cx)(f:TE):TS:=λ_ b H=>f b H λv c=>∃a C d,v= .ref a/\c a=some (qp C a d)/\qw X.K C/\mroIn X.K C (.type "BaseException")=some true/\Et X b (upd c a (kG C a d)) a
theorem Bj(y:X.calm=true)(z:PE X e te):PS X (.Raise (some e) none pos) (Tf X te):=by
 intro c s m H D I h;rw[arm_exec_Raise];refine wpAny_bind (wpAny_standAt ?_);simp only[evalOpt,Option.map];unfold raiseStmt;refine wpAny_bind (wpAny_bind (thn (z c s m H _ I h) λu f ⟨v,B,l,E,a,C,d,ev,n,F,j,q⟩=>wpAny_bind (wpAny_standAt (wpAny_pure ?_))));subst ev;obtain rfl:u=Value.ref a:=E;obtain⟨t,k⟩:=xi l.hok n;obtain⟨p,Z,N,bs,G,iB,sn,sub,ab,J,dd,r,k1,k2,k3,k5,w,cB,cA,cN⟩:=F.obj;have i:=l.cW _ _ w
 have L:(Value.ref C::G).contains (.type "BaseException")=true:=by
  unfold mroIn clsIn at j;rw[w] at j;simpa using j
 have M:Inv X c m (upd B a (kG C a d)) f:=by
  refine af λG0 r=>?_;have O:=l.write (x:=a) (e:=a) (o:=kG C a d) (h':=f.heap) (t':=f.toks) (by rw[n];exact True.intro) (.inl rfl) (λb u j q=>q) ⟨_,k⟩ (NJ (tb:= .none) k)
  obtain⟨Q,g,R,T,os⟩:=f;refine r ?_;exact O
 have U:X.xe (.ref a) f:=q f M.MV ⟨C,t, .none,d,av,k, .inl rfl⟩;have Y:X.A.handled=none:=I.ok.hd y;obtain⟨Q,g,R,T,os⟩:=f
 repeat (first|with_reducible refine wpAny_loadPart_at k ?_|with_reducible refine wpAny_loadPart_at i ?_| (with_reducible refine wpAny_isSubtype_exc i ?_;rw[L]) |wp_step)
 exact wpAny_raiseNew_none Y U
end
section
variable {X:Cx} {k:Nat} {f C:Addr} {fd:FuncData} {ps:List Str} {sp:Sp} {x m:Str} {p pos apos:Pos} {e o:Expr} {es:List Expr} {ta:TE} {t:TA}
def U7(X:Cx)(b:St):XK:=λe _ c=>∃a,e= .ref a/\Et X b c a
theorem PZ{pins:List (Addr×Obj)}{σ:St}{H:Hp}{s:Shared}{Q:VK}{us:List Value}{vs:List V}(F:FnOk X.prog X.w X.K X.mg X.base (mN X.prog X.w) k f fd ps sp)(hr:bW k X.A)(hb:Binds X.K fd ps [])
  (I:Inv X pins σ H s) (r:Vals vs us) (h:sp vs H Q (U7 X σ)):wpAny (model X.prog X.w) X.A (call (.ref f) us) (EP X pins σ Q) X.xe s:=by
 have hl:(us++ []).length=ps.length:=by rw[fJ,<-r.length];exact F.len _ _ _ _ h
 have z6:=hb s us I.cW hl;rw[fJ] at z6;refine wpAny_call (codeAny_mono (F.run X.A X.stack s H ⟨us,[]⟩ us vs Q (U7 X σ) hr I.E4 z6 r h) λr s' hq=>?_);cases r with
 |error e=>
  rfl';obtain⟨a,H',rfl,fl,a',ea,q⟩:=hq;cases ea;obtain⟨I2,f2⟩:=Ri I fl;ac_rfl;exact q s' I2 f2
 |ok fl=>
  cases fl with
  |ret u=>exact I.after hq
  |next=>exact False.elim hq
  |brk=>exact False.elim hq
  |cont=>exact False.elim hq
def KW(X:Cx)(b:Sp)(t:TA):TE:=λa H Q=>t a H λc d=>b c d Q (U7 X a)
theorem Bg(F:FnOk X.prog X.w X.K X.mg X.base (mN X.prog X.w) k f fd ps sp)(c:bW k X.A)(d:Gl X x)(g:X.mg x=some (.ref f))(i:PySem.W.keepIn X.K (.ref f)=true)(j:Binds X.K fd ps [])
  (l:PA X (e::es) t) (n:(x==("__debug__":Str))=false:=by decide) (u:starEach (e::es) X.env=(false,eval e X.env)::starEach es X.env:=by rfl) (v:(backTo pos (starEach es X.env)).any (·.1)=false:=by rfl):
  PE X (.Call (.Name x p) (e::es) [] pos) (KW X sp t):=by
 intro a s y H Q I h;refine P3 (iF I d g ?_ n);refine aea (h₀:=X.base) I.ok.mod.kin i (thn (l pos a s y H _ I h) λz B ⟨E,G,b,r,q⟩=>⟨b.cW,?_⟩) u v;exact PZ F c j b r q
end
section
variable {X:Cx} {pins:List (Addr×Obj)} {σ:St} {H:Hp} {s:Shared}
theorem sQ(I:Inv X pins σ H s)(O:X.N.Nodup)(F:X.N[i]? =some x)(R:X.env.scope.names.lookup x=some .local)
  (h:∀G,Inv X pins (σ.set i none) H G->Q () G):wpAny M A (do bindName X.env x .none;unbindBehindTheSuite X.env x u) Q E s:=by
 obtain⟨m,J,T⟩:=id I.loc;have U:(X.env.scope.kind== .class|| (X.env.scope.kind== .module&&X.env.locals !=X.env.globals))=false:=by rw[I.ok.kind];rfl
 have Y:i<σ.length:=by rw[I.len];exact(dS.mp F).1
 have xV:=I.xV;refine wpAny_nameGoes_keeps R J U λZ v CD f=>?_;rfl';obtain⟨oL,_,_,hoL,_⟩:=id J;ac_rfl
 have a:gK X.prog X.w H Z:=λb ob e=>by
  refine(I.hok b ob e).nV (λc L r q=>(f.2 c ?_).trans q) (λ_ q=>q) λ_ _ q=>q;rintro rfl
  rcases r with rfl|r
  ·rw[I.free] at e;cases e
  ·rw[I.free] at r;cases r
 refine h _ ⟨I.ok,I.os,I.bare,⟨λb o e n B l=>?_,λb o e n B l=>?_,I.base.free,λb o e l=>?_,I.base.tups,I.base.frzs,I.base.tbls⟩,⟨_,CD,λj y v' g t e3=>?_⟩,λy c e=>?_,I.free,I.freeC,λp hp=>?_,a,by simpa using I.len⟩
 ·exact(f.2 b (cp (fC (Fk e) I.ok.above))).trans (I.base.keep b o e n B l)
 ·obtain⟨sl,g⟩:=I.base.slot b o e n B l
  exact⟨sl,(f.2 b (cp (fC (Fk e) I.ok.above))).trans g⟩
 ·obtain⟨o',g⟩:=I.base.there b o e l
  exact⟨o',(f.2 b (cp (fC (Fk e) I.ok.above))).trans g⟩
 ·by_cases C:j=i
  ·subst C
   rw[iR Y] at t;cases Do t
  ·rw[iS (Ne.symm C)] at t
   obtain⟨u',r',q⟩:=T j y v' g t e3;refine⟨u',r',?_⟩
   rcases q with ⟨k,e⟩ | ⟨k,c,e,z⟩
   ·refine .inl ⟨k,?_⟩
    have:y≠x:=λe=>C (uJ O g (e▸F))
    simp[this,e]
   ·exact .inr ⟨k,c,e,z.sameBut f (xV y c e)⟩
 ·obtain⟨L,z⟩:=I.cell y c e
  exact⟨L,z.sameBut f (xV y c e)⟩
 ·obtain⟨e,n,ne,nf,d⟩:=I.pin p hp
  exact⟨(f.2 p.1 ne).trans e,n,ne,nf,d⟩
theorem Fj{K:PySem.W.Frag}{C:Addr}{b:Value}{r:Bool}{f q:Str}{N:Addr}{bs e:List Value}{g:Bool}{h:List Str}{sub:List Value}{i:Bool}{c:Option Bool}{j:Option Addr}{k l m n o:Option Value}{a:String}
  (p:K.lookup C=some (excClassObj f q C N bs e g h sub i c j k l m n o a)) (d:mroIn K C b=some r):(Value.ref C::e).contains b=r:=by
 unfold mroIn clsIn at d;rw[p] at d;simpa using d
theorem NA{M:Model}{A:Around}{E:Value->Shared->Prop}{Q:Bool->Shared->Prop}{K:PySem.W.Frag}{a C e t:Addr}{j:Value}{d:Option Addr}{b:Bool}(X:K.In s.heap)(k:s.heap.get? a=some (ju C t j d))(l:qw K C)(m:qw K e)(n:mroIn K e (.type "BaseException")=some true)(o:mroIn K C (.ref e)=some b)
  (h:Q b s):wpAny M A (excMatches (.ref a) (.ref e)) Q E s:=by
 obtain⟨U,Y,N,bs,H,Z,sn,sub,ab,p,dd,k0,k1,k2,k3,k5,i,_⟩:=l.obj;obtain⟨q,r,N',u,v,w,x,y,z,B,F,G,I,J,L,O,c,_⟩:=m.obj;have R:=Fj i o;have T:=Fj c n
 replace i:=X _ _ i
 replace c:=X _ _ c
 have f:=tc_notTuple;obtain⟨hp,g,dr,tk,os⟩:=s;unfold excMatches
 repeat (first|with_reducible refine wpAny_loadPart_at k ?_|with_reducible refine wpAny_loadPart_at c ?_| (with_reducible refine wpAny_isSubtype_exc c ?_;rw[T]) | (with_reducible refine wpAny_isSubtype_exc i ?_;rw[R]) |wp_step)
 cases b<;>(wp_walk;exact h)
end
abbrev Cx.yv(X:Cx)(a:Addr):Cx:={X with A:=X.A.mark (some (.ref a)),calm:=false,xe:=λ_ _=>False}
abbrev Cx.tr(X:Cx)(pn:List (Addr×Obj))(E:Value->Shared->Prop):Cx:={X with pn:=pn,xe:=E}
section
variable {X:Cx} {pins pn:List (Addr×Obj)} {σ:St} {H:Hp} {s:Shared} {E:Value->Shared->Prop} {a:Addr}
theorem Inv.yv(I:Inv X pins σ H s)(a:Addr):Inv (X.yv a) pins σ H s:=
 ⟨⟨I.ok.mod,I.ok.kind,I.ok.glob,I.ok.blt,I.ok.above,I.ok.inj,I.ok.has,I.ok.cab,(λz=>nomatch z),I.ok.frames,I.ok.stk,I.ok.exf,I.ok.bs,I.ok.bsz,I.ok.noex,I.ok.exfs,I.ok.funs,I.ok.frf⟩,I.os,I.bare,I.base,I.loc,I.cell,I.free,I.freeC,I.pin,I.hok,I.len⟩
theorem Inv.D7(ok:X.Ok)(I:Inv (X.yv a) pins σ H s):Inv X pins σ H s:=⟨ok,I.os,I.bare,I.base,I.loc,I.cell,I.free,I.freeC,I.pin,I.hok,I.len⟩
theorem Inv.tr(I:Inv X pins σ H s)(E:Value->Shared->Prop):Inv (X.tr (X.pn++pins) E) [] σ H s:=
 ⟨⟨I.ok.mod,I.ok.kind,I.ok.glob,I.ok.blt,I.ok.above,I.ok.inj,I.ok.has,I.ok.cab,I.ok.hd,I.ok.frames,I.ok.stk,I.ok.exf,I.ok.bs,I.ok.bsz,I.ok.noex,I.ok.exfs,I.ok.funs,I.ok.frf⟩,I.os,I.bare,I.base,I.loc,I.cell,I.free,I.freeC,λp b=>I.pin p (by rw[fJ] at b;exact b),I.hok,I.len⟩
theorem Inv.GO(ok:X.Ok)(I:Inv (X.tr (X.pn++pins) E) [] σ H s):Inv X pins σ H s:=⟨ok,I.os,I.bare,I.base,I.loc,I.cell,I.free,I.freeC,λp b=>I.pin p (by rw[fJ];exact b),I.hok,I.len⟩
theorem Cp{X:Cx}(f:xv X H s a)(h:Q () s):wpAny M A (setFlight (.ref a) none) Q E s:=by
 rfl';obtain⟨C,t,l,d,_,c,b⟩:=f;ac_rfl
 rcases b with rfl| ⟨T,rfl,_,_,_,_,_,o,j,e,g,b⟩
 ·unfold setFlight
  refine ir (aeq (x:= .none) c rfl rfl ?_);rw[AC (by decide)]
  exact mo h
 ·refine wpAny_setFlight_none c rfl rfl e g (zH.mp b).1 ?_
  rw[Heap.update_setField_same _ _ o j 3 .none e g b];exact h
end
def aam:Option Nat->Ends->Ends
 |none,D=>D
 |some i,D=>{nx:=λa H=>D.nx (a.set i none) H,rt:=D.rt,bk:=λa H=>D.bk (a.set i none) H,ct:=λa H=>D.ct (a.set i none) H}
def acZ:Option Nat->Addr->St->St
 |none,_,b=>b
 |some i,a,b=>b.set i (some (.ref a))
abbrev MH:=List (Addr×Option Nat×(Addr->TS))
def D4(K:PySem.W.Frag):MH->Ends->St->Hp->Addr->Addr->Prop
 | [],_,_,_,_,_=>False
 | (d,n,e)::r,D,c,H,a,C=>∃b,mroIn K C (.ref d)=some b/\if b=true then e a (aam n D) (acZ n a c) H else D4 K r D c H a C
def PH(X:Cx)(e:List ExceptHandler)(l:MH):Prop:=
 ∀(b:List (Addr×Obj))(c:St)(H:Hp)(s:Shared)(a C:Addr)(d:Option Addr)(D:Ends),Inv X b c H s->xv X H s a->H a=some (kG C a d)->qw X.K C->D4 X.K l D c H a C->wpAny (model X.prog X.w) X.A (handleBy (.ref a) X.env e) (SP X b D) X.xe s
section
variable {X:Cx} {pos p:Pos} {c n:Str} {Cm:Addr} {EH:Stmt} {zu:List Stmt} {rest:List ExceptHandler} {l:MH} {th:Addr->TS}
theorem Ss:PH X [] []:=λ_ _ _ _ _ _ _ _ _ _ _ _ h=>h.elim
theorem NI{C f a:Addr}{d i:Option Addr}{t:Addr}{b:Value}{h:Heap}(e:kG C a d=kG f a i)(g:h.get? a=some (ju C t b d)):C=f:=by
 have:=KB (λo=>match o with|HO.ext k=>k h|_=>True) e
 have m:∃t b,h.get? a=some (ju f t b i):=by
  have:(∃t b,h.get? a=some (ju C t b d))=(∃t b,h.get? a=some (ju f t b i)):=this
  rw[<-this];exact⟨t,b,g⟩
 obtain⟨r,q,j⟩:=m;rw[g] at j;cases j;rfl
theorem Xv(i:Nat)(hN:X.N.Nodup)(hi:X.N[i]? =some n)(hk:X.env.scope.names.lookup n=some .local)(hg:Gl X c)(hm:X.mg c=some (.ref Cm))(xm:qw X.K Cm)(rh:mroIn X.K Cm (.type "BaseException")=some true)(hs:∀a,kH (X.yv a) (EH::zu) (th a))(hr:PH X rest l)(dB:(c==("__debug__":Str))=false:=by decide):
  PH X (.ExceptHandler (some (.Name c p)) (some n) (EH::zu) pos::rest) ((Cm,some i,th)::l):=by
 intro pins σ H s a C d D I fl ha xc h;rfl';obtain⟨C',t,tb,d',h1,h2,h3⟩:=id fl;have eC:C'=C:=NI (Option.some.inj (h1.symm.trans ha)) h2;subst eC;obtain⟨b,hb,h⟩:=h;ac_rfl;refine wpAny_handleBy_cons (codeAny_handlers_test (wpAny_mono (iF (I.yv a) hg hm ?_ dB) (λ_ _ x=>x) λ_ _ z=>z)) (by intro q;cases q)
 refine NA I.cW h2 xc xm rh hb ?_;cases b with
 |false=>exact hr pins σ H s a C' d D I fl ha xc h
 |true=>
  refine codeAny_handlers_suite_as (Cp fl ?_);refine jc (X:=X.yv a) (v:= .ref a) (I.yv a) hN hi (.inl hk) rfl (λs1 I1=>?_) (.inr hk);refine wpAny_mono (hs a pins s1 _ H _ I1 h) (λf s2 q=>?_) λ_ _ z=>z.elim;cases f with
  |next=>obtain⟨ay,H',I',q⟩:=q;exact sQ (I'.D7 I.ok) hN hi hk λs3 I3=>⟨_,H',I3,q⟩
  |brk=>obtain⟨ay,H',I',q⟩:=q;exact sQ (I'.D7 I.ok) hN hi hk λs3 I3=>⟨_,H',I3,q⟩
  |cont=>obtain⟨ay,H',I',q⟩:=q;exact sQ (I'.D7 I.ok) hN hi hk λs3 I3=>⟨_,H',I3,q⟩
  |ret u=>obtain⟨v,ay,H',I',r,q⟩:=q;exact sQ (I'.D7 I.ok) hN hi hk λs3 I3=>⟨v,_,H',I3,r,q⟩
def adJ(X:Cx)(g:List (Addr×Obj)->(Value->Shared->Prop)->TS)(h:TS)(l:MH):TS:=λD i H=>∀e E,(∀f b a C d,b a=some (kG C a d)->qw X.K C->D4 X.K l D f b a C->Et (X.tr e E) f b a)->g e E {D with nx:=h D} i H
theorem SA{body orelse:List Stmt}{h₀:ExceptHandler}{hs:List ExceptHandler}{tb:List (Addr×Obj)->(Value->Shared->Prop)->TS}{to:TS}(nZ:X.stack=X.env::X.outer)(Oe:X.env.frame=some X.env.locals)
  (hb:∀pn E,kH (X.tr pn E) body (tb pn E)) (ho:kH X orelse to) (hh:PH X (h₀::hs) l):PS X (.Try body (h₀::hs) orelse [] pos) (adJ X tb to l):=by
 intro pins s σ H D I h;refine wpAny_Try_except ?_
 let E':Value->Shared->Prop:=λe s₁=>wpAny (model X.prog X.w) X.A (noteFrame e X.env) (λ_ Bu=>wpAny (model X.prog X.w) X.A (setFlight e none) (λ_ GG=>wpAny (model X.prog X.w) X.A (handleBy e X.env (h₀::hs)) (SP X pins D) X.xe GG) X.xe Bu) X.xe s₁
 have hw:=h (X.pn++pins) E' λay H' a C d h1 h2 h3=>by
  intro s1 I1 f1;refine A1 (X:=X.tr (X.pn++pins) E') nZ Oe I1 f1 λs2 I2 f2=>?_;rfl';have I2':=I2.GO I.ok;obtain⟨C',t,tb,d',g1,g2,g3⟩:=f2;ac_rfl;refine hh pins ay H' s2 a C d D I2' ⟨C',t,tb,d',g1,g2,g3.imp id λ⟨T,e1,e2,e3,e4,e5,e6⟩=>⟨T,e1,e2,e3,e4,λp hp=>e5 p (kF _ hp),e6⟩⟩ h1 h2 h3
 refine wpAny_mono (hb _ E' [] s σ H _ (I.tr E') hw) (λf s1 q=>?_) λ_ _ z=>z;cases f with
 |next=>obtain⟨ay,H',I',q⟩:=q;exact ho pins s1 ay H' D (I'.GO I.ok) q
 |brk=>obtain⟨ay,H',I',q⟩:=q;exact⟨ay,H',I'.GO I.ok,q⟩
 |cont=>obtain⟨ay,H',I',q⟩:=q;exact⟨ay,H',I'.GO I.ok,q⟩
 |ret u=>obtain⟨v,ay,H',I',r,q⟩:=q;exact⟨v,ay,H',I'.GO I.ok,r,q⟩
end
theorem Aa:(List.range 100).all (λn=>decide ((Str.ofString (toString (n:Int))).length<=3))=true:=by decide+kernel
theorem int_text{i:Int}(a:0<=i)(b:i<100):(Str.ofString (toString i)).length<=3/\i.natAbs.log2<1920:=by
 obtain⟨n,rfl⟩:∃n:Nat,i=n:=⟨i.toNat,by omega⟩
 refine⟨GM (afD.mp Aa n (dY.mpr (by omega))),?_⟩
 have:(n:Int).natAbs=n:=by simp
 rw[this];exact BD (Nat.log2_le_self n) (by omega)
section
variable {X:Cx} {a b:Str} {x y:Expr} {k1 k2:Option String} {p1 p2 p3 p4 pos:Pos} {tx ty:TE}
def tF4(d e:TE):TE:=λc H Q=>d c H λv f=>∃i,v= .int i/\0<=i/\i<100/\e c f λu g=>∃j,u= .int j/\0<=j/\j<100/\∀z,Q (.str z) g
theorem Xs{k1 k2}(o:PE X x tx)(p:PE X y ty)(ha:a.length<=1000)(hb:b.length<=1000):
  PE X (.JoinedStr [.Constant (.str a) k1 p1, .FormattedValue x (-1) none p2, .Constant (.str b) k2 p3, .FormattedValue y (-1) none p4] pos) (tF4 tx ty):=by
 intro c s e H Q I h;have z1:(Str.empty++a).length<=1000:=by rw[afq];show 0+_<=_;omega
 have sz:∀n,n<=3000->n<=sizeLine:=λn hn=>by rw[aee];omega
 refine wpAny_JoinedStr ?_;refine thn (tF (X:=X) (x:=a) (j:=k1) (pos:=p1) c s e H (λv f=>v= .str a/\f=H) I ⟨rfl,rfl⟩) λu q ⟨v,r,w,d,ev,g⟩=>?_;subst ev g;obtain⟨z,rfl⟩:∃t,u= .str a t:=d;refine⟨a,z,rfl,sz _ (by omega),?_⟩
 refine afr (thn (o c q e r _ w h) λu s2 k=>?_);rfl';obtain⟨v,m,B,d,i,ev,C,E,F⟩:=k;ac_rfl;subst ev;obtain⟨t2,rfl⟩:∃t,u= .int i t:=d;obtain⟨n1,G⟩:=int_text C E;refine wpAny_formatField_int G ?_;have z2:(Str.empty++a++Str.ofString (toString i)).length<=1003:=by rw[afq];omega
 refine⟨_,_,rfl,sz _ (by omega),?_⟩
 refine thn (tF (X:=X) (x:=b) (j:=k2) (pos:=p3) c _ e m (λv f=>v= .str b/\f=m) (B.tok _) ⟨rfl,rfl⟩) λu J ⟨v,L,M,d,ev,g⟩=>?_;subst ev g;obtain⟨N,rfl⟩:∃t,u= .str b t:=d;have z3:(Str.empty++a++Str.ofString (toString i)++b).length<=2003:=by rw[afq];omega
 refine⟨b,N,rfl,sz _ (by omega),?_⟩
 refine afr (thn (p c J e L _ M F) λu s4 k=>?_);rfl';obtain⟨v,O,R,d,j,ev,T,U,Y⟩:=k;ac_rfl;subst ev;obtain⟨t4,rfl⟩:∃t,u= .int j t:=d;obtain⟨m1,Z⟩:=int_text T U;refine wpAny_formatField_int Z ?_;have z4:(Str.empty++a++Str.ofString (toString i)++b++Str.ofString (toString j)).length<=2006:=by rw[afq];omega
 refine⟨_,_,rfl,sz _ (by omega),sz _ (by omega),?_⟩
 exact⟨.str _,O,(R.tok _).tok _,⟨_,rfl⟩,Y _⟩
end
abbrev xp:=List D->(D->Prop)->(D->Prop)->Prop
def fe(Z:DC)(f:xp):Sp:=λg H Q E=>∃(G:Hp)(e:List D)(P R:D->Prop),aU G H/\DvAll Z G g e/\f e P R/\(∀d,P d->∀v b c,Ext G H b c->Dv Z b v d->Q v c)/\∀d,R d->∀a b c,Ext G H b c->Dv Z b (.ref a) d->E (.ref a) none c
section
variable {P:Program} {w:World} {K:PySem.W.Frag} {mg:Str->Option Value} {base:Heap} {Z:DC}
theorem oh.okX{x a:Str}{st:Stmt}{f:Addr}{g:FuncData}{N d:List Str}{k:Nat}{e:Sp}{h:n5}(F:oh K x a st f g)(S:aD N d (ar st))(len:∀b H Q E,e b H Q E->b.length=d.length)
  (i:∀(c:Value)(A:Around)(outer:List Env)(s:Shared)(H:Hp)(b:List V)(Q:VK)(E:XK),bW k (A.deeper (envOfC a (ar st) s.heap.objs.size f c))->e b H Q E->
   ∃t,kH (j9 h P w K mg base N a (ar st) f c A outer s H E) (eI st) t/\t {nx:=λ_ j=>Q .bu j,rt:=Q} (start N b) H):FnOk P w K mg base h (k+1) f g d e:=by
 rfl';obtain⟨u,v,kV,m,y,z,c,B,C,rfl,n,o⟩:=F.ex;ac_rfl;exact NL n o S len λA outer s H b Q E p q=>i c A outer s H b Q E p q
theorem mw{x b:Str}{st:Stmt}{f:Addr}{B:FuncData}{N m:List Str}{k:Nat}{p:xp}(F:oh K x b st f B)(S:aD N m (ar st))(C:List Nat)(J:∀i,i<m.length->C.getD i 0=0)(len:∀c P R,p c P R->c.length=m.length)
  (L:∀(n:Value)(A:Around)(outer:List Env)(s:Shared)(H:Hp)(E:XK)(c:List D)(R g:D->Prop),bW k (A.deeper (envOfC b (ar st) s.heap.objs.size f n))->p c R g->
   ∃t,DSs Z (j9 (mN P w) P w K mg base N b (ar st) f n A outer s H E) C 0 (eI st) t/\t {nx:=λ_=>R .bu,rt:=R,xc:=λ_ d=>g d} (jq N c)):FnOk P w K mg base (mN P w) (k+1) f B m (fe Z p):=by
 refine F.okX S (λM H Q E h=>?_) (λn A outer s H M Q E O h=>?_)
 ·obtain⟨G,c,R,g,s,dv,h,q⟩:=h
  rw[dv.length];exact len _ _ _ h
 rfl';obtain⟨G,c,R,g,U,dv,h,q,Y⟩:=h;obtain⟨t,X,hq⟩:=L n A outer s H E c R g O h;have hl:=len _ _ _ h;ac_rfl;refine⟨_,X,⟨G,H,G⟩,_,_,⟨G,λ_=> [],?_⟩,hq,⟨λρ Il ay j ⟨l,fp,r⟩=>q _ Il _ l j r.ex .bu,λd u v f l j x o nd nw=>q d u v l j x o.1,λ_ z=>z.elim,λ_ z=>z.elim,λρ d u ay j l fp a r y s2 I2 f2=>NK I2 f2 (Y d u a l j r.ex y)⟩⟩;refine⟨.refl U, .refl _,by unfold jq start;simp[dv.length],λi d e=>?_,λ_=>gZ,(λ_ _ _ _ z=>by cases z),(λ_ _ z=>by cases z)⟩
 unfold jq at e
 have I:i<c.length:=by
  apply FB;intro z;rw[iQ (by simpa using gj z),qL] at e
  split at e<;>cases e
 rw[iM (by simpa using I),eO] at e
 have gx:c[i]? =some d:=by
  cases z:c[i]? with
  |none=>rw[z] at e;cases e
  |some d'=>rw[z] at e;cases e;rfl
 obtain⟨v,hv,y⟩:=dv.get gx;refine⟨v,?_,by rw[J i (by omega)];exact⟨y,rfl⟩⟩
 unfold start;rw[iM (by simpa [dv.length] using I),eO,hv];rfl
end
section
variable {Z:DC} {X:Cx} {md:List Nat} {rn:Nat} {st:Stmt} {Ql:List Stmt} {t:gk} {e x1 y1:Expr} {es:List Expr} {tx ty:aX} {sd:xp} {k j:Nat} {x:Str} {ps:List Str} {p pos aN:Pos}
def Kc(b:List Nat)(c:xp)(t:gk)(K:cT->DN->D->Prop):cy:=λE a=>t (cH b a) λd=>c d (K E a) (E.xc a)
theorem vh{B:Bs}{b:DN}{g:St}{H G:Hp}{i:Nat->List Addr}{E:cT}{r:Ends}{K:D->Prop}{Q:VK}(S:SIx Z B md b g H G i)(h:t (cH md b) λl=>sd l K (E.xc b))(M:Meets Z X B md rn E r)
  (q:∀d,K d->∀v c f,SIx Z B md b g f c i->Dv Z c v d->Q v f):KW X (fe Z sd) (Dh Z t) g H Q:=by
 refine⟨G,_,_,S.ex.sub,S.qB,h,λl u z w A n y=>?_⟩;have o:=S.grow n;exact⟨w,l,K,E.xc b,n.sub,y,u,λd m v c f x dv=>q d m v c f (o.grow x) dv,λd m a c f x dv=>⟨a,rfl,M.xc b d m g f c i a (o.grow x) dv⟩⟩
theorem jY(d:eF X.K X.mg x st ps)(F:FnOk X.prog X.w X.K X.mg X.base (mN X.prog X.w) k d.f d.fd ps (fe Z sd))(c:bW j X.A)(g:DA Z X (e::es) t)(i:Gl X x:=by rfl)(l:k<=j:=by first|decide|omega)
  (n:(x==("__debug__":Str))=false:=by decide) (o:starEach (e::es) X.env=(false,eval e X.env)::starEach es X.env:=by rfl) (q:(backTo aN (starEach es X.env)).any (·.1)=false:=by rfl) (r:swapsWith (.Call (.Name x p) (e::es) [] aN) none pos.line X.env=pure false:=by rfl):
  DSt Z X md rn (.Expr (.Call (.Name x p) (e::es) [] aN) pos) (Kc md sd t λE a _=>E.nx a):=by
 refine(iH (Bg F (c.mono l) i d.m d.F.kp d.b g n o q) r).imp ?_;intro D L H u;rfl';obtain⟨B,a,E,⟨G,z,S⟩,h,M⟩:=u;ac_rfl;exact vh S h M λd C v I O J dv=>M.nx _ C _ _ ⟨I,z,J⟩
structure XE (K:PySem.W.Frag) (C:Addr):Prop where
 cls:jK K C
 obj:qw K C
theorem JV(H:Hp)(a:Addr)(o u:HO):upd (upd H a o) a u=upd H a u:=by
 funext b
 by_cases h:b=a
 ·rw[h,av,av]
 ·rw[ax h,ax h,ax h]
def Nc(b:List Nat)(C:Addr)(c f:aX):cy:=λE a=>c (cH b a) λd=>∃i,d= .int i/\0<=i/\i<100/\f (cH b a) λd=>∃j,d= .int j/\0<=j/\j<100/\E.xc a (.err C [] [])
theorem Gj{H G:Hp}(S:SIx Z B md b c H G d)(h:E.xc b (.err C [] []))(M:Meets Z X B md rn E f)(g:H a=none):Et X c (upd (upd H a (qp C a none)) a (kG C a none)) a:=by
 rw[JV];have x:Ext G H (upd G a (kG C a none)) (upd H a (kG C a none)):= .new S.ex.sub g;exact M.xc b _ h c _ _ d a (S.grow x) (.err av (.inl ⟨rfl,rfl,rfl⟩) .nil)
theorem HA{k1 k2}(w:X.calm=true)(M:Hh X.K C (.builtin "ValueError.__init__"))(r:XE X.K C)(y:X.mg x=some (.ref C))(A:DE Z X c tx)(F:DE Z X y1 ty)(I:Gl X x:=by rfl)(o:a.length<=1000:=by decide+kernel)(J:b.length<=1000:=by decide+kernel)(L:(x==("__debug__":Str))=false:=by decide)
  (u:starEach [.JoinedStr [.Constant (.str a) k1 f, .FormattedValue c (-1) none g, .Constant (.str b) k2 l, .FormattedValue y1 (-1) none m] n] X.env=(false,eval (.JoinedStr [.Constant (.str a) k1 f, .FormattedValue c (-1) none g, .Constant (.str b) k2 l, .FormattedValue y1 (-1) none m] n) X.env)::starEach [] X.env:=by rfl) (N:(backTo aN (starEach [] X.env)).any (·.1)=false:=by rfl):
  DSt Z X md rn (.Raise (some (.Call (.Name x p) [.JoinedStr [.Constant (.str a) k1 f, .FormattedValue c (-1) none g, .Constant (.str b) k2 l, .FormattedValue y1 (-1) none m] n] [] aN)) none pos) (Nc md C tx ty):=by
 refine(Bj w (Jp M I y (bM (Xs A F o J) df u) L u N)).imp ?_;intro D t H O;rfl';obtain⟨B,ρ,E,⟨G,fp,S⟩,h,M⟩:=O;ac_rfl;refine⟨G,_,_,S.ex.sub,S.qB,h,?_⟩;rintro d ⟨i,rfl,R,T,h⟩ v U H1 c dv;refine⟨i,dv.ofInt,R,T,?_⟩;have q:=S.grow c;refine⟨U,_,_,q.ex.sub,q.qB,h,?_⟩;rintro d ⟨j,rfl,Y,e,h⟩ v G2 H2 k dv;refine⟨j,dv.ofInt,Y,e,λz=>?_⟩;have s:=q.grow k;refine⟨by show 1<=1000;decide,λa o=>⟨a,C,none,rfl,av,r.obj,r.cls.be,Gj s h M o⟩⟩
def Ny:Option Nat->cT->cT
 |none,E=>{E with xc:=λ_ _=>False}
 |some i,E=>{nx:=λa=>E.nx (a.set i none),rt:=E.rt,bk:=λa=>E.bk (a.set i none),ct:=λa=>E.ct (a.set i none)}
def P0:Option Nat->D->DN->DN
 |none,_,a=>a
 |some i,d,a=>a.set i (some d)
abbrev BJ:=List (Addr×Option Nat×cy)
def VP(K:PySem.W.Frag)(C:Addr):BJ->cT->DN->D->Prop
 | [],_,_,_=>False
 | (c,n,f)::r,E,a,d=>∃b,PySem.W.mroIn K C (.ref c)=some b/\if b=true then f (Ny n E) (P0 n d a) else VP K C r E a d
def VO(K:PySem.W.Frag)(l:BJ)(E:cT)(a:DN):D->Prop
 | .err C b c=>qw K C/\VP K C l E a (.err C b c)
 |_=>False
def ZR(K:PySem.W.Frag)(a b:cy)(l:BJ):cy:=λE c=>a {E with nx:=b E,xc:=VO K l E} c
theorem SIx.drop{H G:Hp}(S:SIx Z B md a d H G f):SIx Z B md (a.set i none) (d.set i none) H G f where
 ex:=S.ex
 fl:=S.fl
 len:=by rw[jB,jB];exact S.len
 at_:=λj c h=>by
  by_cases z:i=j
  ·subst z
   by_cases b:i<a.length
   ·rw[iR b] at h;cases h
   ·rw[zI (gj b),eM (gj b)] at h;cases h
  ·rw[iS z] at h ⊢
   exact S.at_ j c h
 nd:=S.nd
 ap:=S.ap
 nw:=S.nw
def UL(Z:DC)(X:Cx)(b:List Nat)(d:Nat)(l:BJ):MH:=l.map λc=>(c.1,c.2.1,λa=>mV Z (X.yv a) b d c.2.2)
def R6(a:List Nat)(l:BJ):Prop:=∀c∈l,∀i,c.2.1=some i->a.getD i 0=0
def DHs(Z:DC)(X:Cx)(a:List Nat)(b:Nat)(c:List ExceptHandler)(l:BJ):Prop:=PH X c (UL Z X a b l)/\R6 a l
theorem AQ{B:Bs}{E:cT}{u:Ends}(M:Meets Z X B md rn E u){q:DN}{v:St}{H G:Hp}{w:Nat->List Addr}(S:SIx Z B md q v H G w){a C:Addr}{d:D}(dv:Dv Z G (.ref a) d){K:PySem.W.Frag}:∀(l:BJ),R6 md l->VP K C l E q d->D4 K (UL Z X md rn l) u v H a C
 | [],_,h=>h
 | (N,n,I)::r,ok,⟨b,J,h⟩=>by
  refine⟨b,J,?_⟩;cases b with
  |false=>exact bS (AQ M S dv r (λc L=>ok c (bU _ L)) (h))
  |true=>
   have h:I (Ny n E) (P0 n d q):=h;refine dq ?_;cases n with
   |none=>exact⟨B,q,_,⟨G,w,S⟩,h,⟨M.nx,M.rt,M.bk,M.ct,λ_ _ z=>z.elim⟩⟩
   |some i=>
    refine⟨B,_,_,⟨G,_,S.kE (ok _ (bO ..) i rfl) dv⟩,h,⟨λy f A F ⟨g,m,o⟩=>M.nx _ f _ _ ⟨g,m,o.drop⟩,M.rt,λy f A F ⟨g,m,o⟩=>M.bk _ f _ _ ⟨g,m,o.drop⟩,λy f A F ⟨g,m,o⟩=>M.ct _ f _ _ ⟨g,m,o.drop⟩,λ_ _ z=>z.elim⟩⟩
theorem Q9(w:∀g E,DSs Z (X.tr g E) md rn c tb)(y:DSs Z X md rn b o)(q:DHs Z X md rn (f::n) l)(z:X.stack=X.env::X.outer:=by rfl)(A:X.env.frame=some X.env.locals:=by rfl):
  DSt Z X md rn (.Try c (f::n) b [] pos) (ZR X.K tb o l):=by
 refine(SA (tb:=λg E=>mV Z (X.tr g E) md rn tb) z A w y q.1).imp ?_;intro R T H F g U I;rfl';obtain⟨B,L,E,S,h,M⟩:=F;ac_rfl;refine⟨B,L,_,S,h,⟨λr N u v i=>⟨B,r,E,i,N,M⟩,M.rt,M.bk,M.ct,λr d m u v G e a i dv=>?_⟩⟩;cases d<;>first|exact False.elim m|skip
 rename_i C j k
 have O:=dv;cases dv with
 |err Q p s=>exact I u v a C _ (i.ex.sub _ _ Q) m.1 (AQ M i O l q.2 m.2)
theorem Q4:DHs Z X md rn [] []:=⟨Ss,λc a=>by cases a⟩
variable {c n:Str} {Cm:Addr} {EH:Stmt} {zu:List Stmt} {rest:List ExceptHandler} {l:BJ} {th:cy}
theorem V5(i:Nat)(g:X.N.Nodup)(h:X.mg c=some (.ref Cm))(d:XE X.K Cm)(m:∀a,DSs Z (X.yv a) md rn (o::zu) th)(f:DHs Z X md rn rest l)(q:Gl X c:=by rfl)(r:(c==("__debug__":Str))=false:=by decide)(u:X.N[i]? =some n:=by rfl)(v:X.env.scope.names.lookup n=some .local:=by rfl)(w:md.getD i 0=0:=by rfl):
  DHs Z X md rn (.ExceptHandler (some (.Name c p)) (some n) (o::zu) pos::rest) ((Cm,some i,th)::l):=
 ⟨Xv i g u v q h d.obj d.cls.be m f.1 r,λc b=>by
  rcases bT.mp b with rfl|b
  ·intro i z;cases z;exact w
  ·exact f.2 c b⟩
end
section
variable {X:Cx}
theorem E8{H:Hp}(hok:gK P w H h)(e:H a=some (kG C a b))(k:Ha H b c d):∃f b,PySem.W.InstAt h a f C b:=by
 obtain⟨t,j,e⟩:=Kq hok e
 rcases k with ⟨rfl,_,_⟩ | ⟨l,rfl,g,_⟩
 ·exact⟨_,none,e,rfl,rfl,trivial⟩
 ·obtain⟨_,m,⟨o,_,_,i,_⟩,_⟩:=Ea hok g
  exact⟨_,some o,e,rfl,rfl,i⟩
structure K4 (K:PySem.W.Frag):Prop where
 hn:PySem.W.specialIn K (.builtin "object.__class__") "__get__"=some (some (.builtin "getset_descriptor.__get__"))
 htk:PySem.W.takesIn K (.builtin "object.__class__")=some true
theorem zS(i:K4 X.K):
  CallR X (.builtin "isinstance") (λg H Q=>∃(a C:Addr)(f:Option Addr)(j:List Str)(k:List V)(c:V)(d:Value)(b:Bool),g= [.ref a,c]/\H a=some (kG C a f)/\Ha H f j k/\jK X.K C/\Ek c d/\PySem.W.kitOne X.K (.ref C) d=some b/\Q (.bl b) H):=by
 intro l s B H g E Q I o h;rfl';obtain⟨a,C,f,j,k,c,d,b,rfl,r,t,u,v,e,q⟩:=h;obtain⟨G,w,rfl,x,m⟩:=o.two;subst x;obtain⟨L,y,J⟩:=E8 I.hok r t;ac_rfl
 have A:w=d:=by
  cases v with
  |own D=>exact m
  |blt n=>exact m
 subst A;exact Pi (AV u i.hn i.htk) I.cW J e (λz=>nomatch z) λM=>⟨.bl b,H,I.tok _,rfl,q⟩
inductive qR:List V->List Value->Prop where
 |nil:qR [] []
 |cons {c:V} {cu:Value} {cs:List V} {qX:List Value}:Ek c cu->qR cs qX->qR (c::cs) (cu::qX)
theorem qR.vals:∀{c:List V}{d e:List Value},qR c d->Vals c e->e=d
 |_,_,_, .nil, .nil=>rfl
 |_,_,_, .cons a b, .cons r t=>by
  rw[b.vals t];cases a with
  |own D=>rw[show _=Value.ref D from r]
  |blt n=>rw[show _=Value.type n from r]
theorem xO(i:K4 X.K):
  CallR X (.builtin "isinstance") (λk H Q=>∃(a C c:Addr)(d:Option Addr)(l:List Str)(m f:List V)(g:List Value)(b:Bool),k= [.ref a, .ref c]/\H a=some (kG C a d)/\Ha H d l m/\jK X.K C/\H c=some (.tup f)/\qR f g/\PySem.W.kitAny X.K (.ref C) g=some b/\Q (.bl b) H):=by
 intro p s O H k R Q I j h;rfl';obtain⟨a,C,c,d,l,m,f,g,b,rfl,v,x,y,A,B,e,q⟩:=h;obtain⟨U,Y,rfl,E,F⟩:=j.two;subst E;subst F;obtain⟨Z,G,J⟩:=E8 I.hok v x;obtain⟨_,L,j,o,M,r,n,t⟩:=(show cc X.prog X.w H s.heap c (.tup f) from I.hok c _ A);have N:=B.vals j;subst N;obtain⟨oc,d,da,sl⟩:=o;ac_rfl;dsimp only at r t;subst r t;exact PySem.W.kia_tup (AV y i.hn i.htk) I.cW J M e (λz=>nomatch z) λtk=>⟨.bl b,H,I.tok _,rfl,q⟩
end
section
variable {Z:DC} {X:Cx} {a c:Expr} {cs:List Expr} {ta:aX} {p pos:Pos}
def QX(K:PySem.W.Frag)(e:Value)(t:aX):aX:=λf P=>t f λd=>match d with
 | .err C _ _=>jK K C/\∃b,PySem.W.kitOne K (.ref C) e=some b/\P (.bl b)
 |_=>False
theorem jX{K:PySem.W.Frag}{f:V}{g:Value}(i:K4 K)(n:Ek f g)(o:PE X c (tC f))(r:DE Z X a ta)(t:Gl X "isinstance")(u:X.mg "isinstance"=none)(l:starEach [a,c] X.env=(false,eval a X.env)::starEach [c] X.env:=by rfl)
  (w:(backTo pos (starEach [c] X.env)).any (·.1)=false:=by rfl) (x:starEach [c] X.env=(false,eval c X.env)::starEach [] X.env:=by rfl) (y:X.K=K:=by rfl):
  DE Z X (.Call (.Name "isinstance" p) [a,c] [] pos) (QX K g ta):=by
 subst y;refine(mE (zS i) t u (by decide+kernel) (bM r (bM o df x) l) (by decide) (by decide) l w).imp ?_
 intro U H Q z;rfl';obtain⟨G,B,P,s,e,h,q⟩:=z;ac_rfl;refine⟨G,B,_,s,e,h,λd m v E F k dv=>?_⟩;cases dv<;>first|exact m.elim|skip
 rename_i a C I J L Y M N h3
 rfl';obtain⟨O,b,R,T⟩:=m;ac_rfl;exact⟨a,C,I,J,L,f,g,b,rfl,k.sub _ _ M,N.mono k.sub,O,n,R,q _ T _ E F k (.bl _)⟩
theorem eZ(b:X.mg x=some (.ref C))(d:Gl X x:=by rfl)(e:(x==("__debug__":Str))=false:=by decide):PE X (.Name x pos) (tC (.ref C)):=Ga d b (v:= .ref C) rfl e
theorem Xq(b:X.mg "ValueError"=none)(d:Gl X "ValueError":=by rfl):PE X (.Name "ValueError" pos) (tC (.ty "ValueError")):=F8 d b (by decide+kernel) rfl (by decide) (by decide)
def U4(X:Cx):List Expr->List V->Prop
 | [],[]=>True
 |e::b,v::d=>PE X e (tC v)/\starEach (e::b) X.env=(false,eval e X.env)::starEach b X.env/\U4 X b d
 |_,_=>False
theorem Pc:∀{b:List Expr}{d:List V},U4 X b d->PA X b (λj H Q=>Q d H)
 | [],[],_=>df
 |e::b,v::d,⟨f,g,i⟩=>bM f (Pc i) g
 | [],_::_,h=>h.elim
 |_::_,[],h=>h.elim
def M7(K:PySem.W.Frag)(e:List Value)(t:aX):aX:=λf P=>t f λd=>match d with
 | .err C _ _=>jK K C/\∃b,PySem.W.kitAny K (.ref C) e=some b/\P (.bl b)
 |_=>False
theorem yc{K:PySem.W.Frag}{f:Nat}{g:Pos}{j:List V}{k:List Value}(i:K4 K)(r:qR j k)(t:U4 X cs j)(Y:j.length<=1000)(u:DE Z X a ta)(w:Gl X "isinstance")(x:X.mg "isinstance"=none)(n:starEach [a, .Tuple cs f g] X.env=(false,eval a X.env)::starEach [.Tuple cs f g] X.env:=by rfl)
  (y:(backTo pos (starEach [.Tuple cs f g] X.env)).any (·.1)=false:=by rfl) (z:starEach [.Tuple cs f g] X.env=(false,eval (.Tuple cs f g) X.env)::starEach [] X.env:=by rfl) (A:X.K=K:=by rfl):
  DE Z X (.Call (.Name "isinstance" p) [a, .Tuple cs f g] [] pos) (M7 K k ta):=by
 subst A;refine(mE (xO i) w x (by decide+kernel) (bM u (bM (KH (Pc t)) df z) n) (by decide) (by decide) n y).imp ?_
 intro c H Q B;rfl';obtain⟨G,F,P,s,e,h,q⟩:=B;ac_rfl;refine⟨G,F,_,s,e,h,λd o v G1 H1 f dv=>?_⟩;cases dv<;>first|exact o.elim|skip
 rename_i a C I J L ds M N h3
 rfl';obtain⟨O,b,R,T⟩:=o;ac_rfl;refine⟨by rw[aee];omega,λU m=>?_⟩
 exact⟨a,C,U,I,J,L,j,k,b,rfl,(aW m _) _ _ (f.sub _ _ M),(N.mono f.sub).mono (aW m _),O,av,r,R,q _ T _ _ _ (f.trans (.new f.sub m)) (.bl _)⟩
def VM(K:PySem.W.Frag)(f:Str)(t:aX):aX:=λb P=>t b λd=>match d with
 | .err C e g=>jK K C/\fW K C f/\∃y,(e.zip g).lookup f=some y/\P y
 |_=>False
theorem K1:∀{b:List Str}{d:List V}{e:List D},DvAll Z G d e->(b.zip e).lookup f=some y->∃v,(b.zip d).lookup f=some v/\Dv Z G v y
 | [],_,_,_,h=>by cases h
 |k::b,_,_, .nil,h=>by cases h
 |k::b,_,_, .cons a as,h=>by
  rw[afg] at h ⊢
  by_cases z:(f==k)=true
  ·rw[List.lookup,z] at h
   cases Do h;exact⟨_,by rw[List.lookup,z],a⟩
  ·have z:(f==k)=false:=by simpa using z
   rw[List.lookup,z] at h;obtain⟨v,g,i⟩:=K1 as h;exact⟨v,by rw[List.lookup,z];exact g,i⟩
def XX(K:PySem.W.Frag)(e:TE)(f:Str):TE:=λg H Q=>e g H λx b=>∃a C d fs v,x= .ref a/\b a=some (kG C a (some d))/\b d=some (zR d fs)/\jK K C/\fW K C f/\fs.lookup f=some v/\Q v b
theorem Pg(k:PE X e i)(m:attributeBase e f X.env (eval e X.env)=eval e X.env):PE X (.Attribute e f pos) (XX X.K i f):=by
 intro b s w H Q I h;refine Ez m (thn (k b s w H _ I h) λu R y=>?_);rfl';obtain⟨x,A,d,B,a,C,T,fs,v,E,F,G,c,n,l,q⟩:=y;ac_rfl;subst E;obtain rfl:u=Value.ref a:=B;rfl';obtain⟨t,U,e⟩:=Kq d.hok F;obtain⟨_,J,L,r,_⟩:=Ea d.hok G;obtain⟨u,M,j⟩:=kM.some_of (v:=v) (o:=J f) (by rw[<-l];exact r f)
 obtain⟨od,N,O⟩:=rB L;ac_rfl;exact GQ d.cW (od:=some od) ⟨e,rfl,rfl,N⟩ c (PySem.W.findObj_own c.hd n rfl (by rw[O,M])) (yq j) ⟨v,A,d.tok _,j,q⟩
theorem EV{K:PySem.W.Frag}{f:Str}(i:K4 K)(l:DE Z X a ta)(m:attributeBase a f X.env (eval a X.env)=eval a X.env:=by rfl)(n:X.K=K:=by rfl):DE Z X (.Attribute a f pos) (VM K f ta):=by
 subst n;refine(Pg l m).imp ?_;intro O H Q o;rfl';obtain⟨G,t,P,s,e,h,q⟩:=o;ac_rfl;refine⟨G,t,_,s,e,h,λd j v w x g dv=>?_⟩;cases dv<;>first|exact j.elim|skip
 rename_i a C R T U Y z A B
 rfl';obtain⟨E,F,y,k,I⟩:=j;obtain⟨u,J,L⟩:=K1 B k;ac_rfl
 rcases A with ⟨_,rfl,_⟩ | ⟨M,rfl,N,_⟩
 ·cases k
 ·exact⟨a,C,M,_,u,rfl,g.sub _ _ z,g.sub _ _ N,E,F,J,q _ I _ w x g L⟩
end
structure BN (k:Nat) (A:Around):Prop where
 dp:A.depth+3*k+5<recursionLimit
 un:A.units+16*k+200<cLine
theorem bW.toH(r:bW k A)(a:1<=k:=by decide):BN 1 (A.mark h):=⟨by have:=r.dp;show A.depth+3*1+5<_;omega,by have:=r.un;show A.units+16*1+200<_;omega⟩
structure MG (P:Program) (w:World) (K:PySem.W.Frag) (mg:Str->Option Value) (base:Heap) (k:Nat) (f:Addr) (fd:FuncData) (ps:List Str) (sp:Sp):Prop where
 len:∀vs H Q E,sp vs H Q E->vs.length=ps.length
 run:∀(A:Around)(outer:List Env)(s:Shared)(H:Hp)(args:Args)(us:List Value)(vs:List V)(Q:VK)(E:XK),BN k A->Env0 P w K mg base A outer s H->BindsTo s fd args (ps.zip us)->Vals vs us->sp vs H Q E->
  codeAny (model P w) A (.call (.ref f) args) (CR bZ outer P w H s Q E) s
abbrev QS(P:Program)(w:World)(K:PySem.W.Frag)(c:Str->Option Value)(base:Heap)(N:List Str)(b:Str)(a:Scope)(f:Addr)(d:Value)(A:Around)(outer:List Env)(s:Shared)(H:Hp):Cx:=
 {j9 bZ P w K c base N b a f d A outer s H E0 with calm:=false,xe:=λ_ _=>False}
section
variable {P:Program} {w:World} {K:PySem.W.Frag} {mg:Str->Option Value} {base:Heap} {Z:DC}
theorem oh.R6{x qual:Str}{st:Stmt}{f:Addr}{fd:FuncData}{N ps:List Str}{sp:Sp}(F:oh K x qual st f fd)(S:aD N ps (ar st))(len:∀vs H Q E,sp vs H Q E->vs.length=ps.length)
  (gO:∀(bb:Value)(A:Around)(outer:List Env)(s:Shared)(H:Hp)(vs:List V)(Q:VK)(E:XK),A.units+64<cLine->sp vs H Q E->
   ∃t,kH (QS P w K mg base N qual (ar st) f bb A outer s H) (eI st) t/\t {nx:=λ_ H'=>Q .bu H',rt:=Q} (start N vs) H):MG P w K mg base 1 f fd ps sp:=by
 rfl';obtain⟨oc,od,kV,doc,pm,an,bb,ct,Aj,rfl,lk,eS⟩:=F.ex;ac_rfl;refine⟨len,λA outer s H args us vs Q E hr e0 hb r uz=>?_⟩;have hl:=len _ _ _ _ uz;have KX:K.In s.heap:=e0.mod.kin.keeps λb o e=>(e0.bs b o e).1;have lim:s.heap.NoLimit:=e0.mod.nolimit.keeps λb o e=>(e0.bs b o e).1
 have Ie:∀y∈ps.zip us,(ar st).names.lookup y.1=some .local\/((ar st).names.lookup y.1=some .cell/\((cellsFrom (s.heap.objs.size+1) (ar st).names []).lookup y.1).isSome=true):=λ⟨n,v⟩ hy=>by
  rcases S.par n (List.of_mem_zip hy).1 with q|q
  ·exact .inl q
  ·exact .inr ⟨q,PySem.W.cellsFrom_some _ _ _ (.inl q)⟩
 refine codeAny_call_function (by have:=hr.dp;omega) (KX _ _ lk) rfl S.co S.gen rfl (PySem.W.codeRec_of KX eS) (hb _ _ _ _ ?_)
 refine wpAny_newFunctionEnv_cells S.kind Ie λenv he s1 x=>?_;subst he;obtain⟨t,ht,hq⟩:=gO bb A outer s H vs Q E (by have:=hr.un;omega) uz
 refine⟨lim.keeps x.toInCall.keep,codeAny_func ?_⟩;have e1:Env0 P w K mg base {A with handled:=none} outer s H:=⟨e0.frames,e0.mod,e0.bs,e0.bsz,e0.funs,e0.frf,e0.hok,e0.bare⟩
 have I0:=yB (CX:=bZ) (N:=N) (qual:=qual) (f:=f) (cd:=bb) (E:=E0) S (A:={A with handled:=none}) rfl e1 hl r x
 have I:Inv (QS P w K mg base N qual (ar st) f bb A outer s H) [] (start N vs) H s1:=
  ⟨⟨I0.ok.mod,I0.ok.kind,I0.ok.glob,I0.ok.blt,I0.ok.above,I0.ok.inj,I0.ok.has,I0.ok.cab,(λz=>nomatch z),I0.ok.frames,I0.ok.stk,I0.ok.exf,I0.ok.bs,I0.ok.bsz,I0.ok.noex,I0.ok.exfs,I0.ok.funs,I0.ok.frf⟩,I0.os,I0.bare,I0.base,I0.loc,I0.cell,I0.free,I0.freeC,I0.pin,I0.hok,I0.len⟩
 refine wpAny_mono (ht [] s1 (start N vs) H _ I hq) (λfl s' hs=>?_) λe s' hs=>hs.elim
 have fin:∀{ay:St}{H':Hp}{v:V}{u:Value},Inv (QS P w K mg base N qual (ar st) f bb A outer s H) [] ay H' s'->RelV v u->Q v H'->CE outer P w H s Q u s':=
  λ {ay H' v u} J rv q=>⟨v,H',J.os,J.bare,J.base,J.hok,rv,q⟩
 cases fl with
 |ret u=>
  obtain⟨v,ay,H',J,rv,q⟩:=hs;exact fin J rv q
 |next=>
  obtain⟨ay,H',J,q⟩:=hs;exact fin (v:=V.bu) (u:=Value.none) J rfl q
 |brk=>
  obtain⟨_,_,_,q⟩:=hs;exact False.elim q
 |cont=>
  obtain⟨_,_,_,q⟩:=hs;exact False.elim q
end
section
variable {Z:DC} {X:Cx} {e:Expr} {es:List Expr} {t:gk} {pos:Pos}
end
def Qu:List Value->Bool
 | []=>false
 |v::r=>if isRef v then Kv r else Kv (v::r)
theorem My(h:Qu a=true):a= [.type "ValueError", .type "Exception", .type "BaseException", .type "object"]\/∃M,a= [.ref M, .type "ValueError", .type "Exception", .type "BaseException", .type "object"]:=by
 cases a with
 |nil=>cases h
 |cons v r=>
  rw[Qu] at h;cases b:isRef v with
  |true=>
   rw[tz b] at h;cases v with
   |ref M=>rw[yC h];exact .inr ⟨M,rfl⟩
   |_=>cases b
  |false=>
   rw[AC (by rw[b];exact cQ)] at h
   exact .inl (yC h)
theorem rX{K:PySem.W.Frag}{C N:Addr}{d:ClassData}{e:List Value}{f q:Str}{bs t:List Value}{g:Bool}{h:List Str}{sub:List Value}{i:Bool}{c:Option Bool}{j:Option Addr}{k l m n o:Option Value}
  (u:PySem.W.hasDictIn K C=true) (v:PySem.W.findIn K (.ref C) "__getattribute__"=some (some (.builtin "BaseException.__getattribute__"))) (w:PySem.W.findIn K (.ref C) "__getattr__"=some none)
  (x:PySem.W.findIn K (.ref C) "__setattr__"=some (some (.builtin "object.__setattr__"))) (y:PySem.W.findIn K (.ref C) "__class__"=some (some (.builtin "object.__class__")))
  (p:PySem.W.clsIn K C=some d) (r:d.mro= .ref C::e) (lo:K.lookup C=some (excClassObj f q C N bs t g h sub i c j k l m n o "ValueError.__new__")) (z:t=e) (A:Qu e=true):XE K C:=by
 have a:∀b,PySem.W.mroIn K C b=some ((Value.ref C::e).contains b):=λb=>by
  unfold PySem.W.mroIn;rw[p,aeR,r];rfl
 subst z
 rcases My A with rfl| ⟨M,rfl⟩
 ·refine⟨⟨u,v,w,x,?_,y,?_,?_⟩,⟨f,q,N,bs,_,g,h,sub,i,c,j,k,l,m,n,o,lo,rfl,rfl,rfl⟩⟩
  ·unfold DD
   rw[p];show qj d.mro=true;rw[r];rfl
  ·rw[a];rfl
  ·rw[a];rfl
 ·refine⟨⟨u,v,w,x,?_,y,?_,?_⟩,⟨f,q,N,bs,_,g,h,sub,i,c,j,k,l,m,n,o,lo,rfl,rfl,rfl⟩⟩
  ·unfold DD
   rw[p];show qj d.mro=true;rw[r];rfl
  ·rw[a];rfl
  ·rw[a];rfl
structure U6 (K:PySem.W.Frag) (C:Addr) (qual:Str) (st:Stmt) (ps:List Str) where
 f:Addr
 fd:FuncData
 F:oh K "__init__" qual st f fd
 b:Binds K fd ps []
 made:Hh K C (.ref f)
 fn:PySem.W.isFn K (.ref f)=true
structure XBs (K:PySem.W.Frag) (mg:Str->Option Value) (M:Addr):Prop where
 m:mg "MapError"=some (.ref M)
 sg:PySem.W.specialIn K (.ref M) "__getattribute__"=some (some (.builtin "type.__getattribute__"))
 rd:PySem.W.readsIn K M (.type "type")=true
 fc:PySem.W.findCls K (.ref M) (.type "type") "__init__"=some (.val (.builtin "ValueError.__init__"))
def JG(Z:DC)(C:Addr)(g:List Str)(ok:List D->Prop):Sp:=λj H Q _=>∃(a:Addr)(h:List V)(G:Hp)(f:List D),j= .ref a::h/\H a=some (qp C a none)/\G a=none/\aU G H/\DvAll Z G h f/\ok f/\f.length=g.length/\
 ∀c i d e,aU G d->aU d e->(∀b o,b≠a->H b=some o->e b=some o)->(∀b,H b≠none->G b=none->d b=none)->e a=some (qp C a (some c))->H c=none->e c=some (zR c (g.zip i))->d c=none->DvAll Z d i f->Q .bu e
section
variable {Z:DC} {X:Cx} {md:List Nat} {rn:Nat} {st:Stmt} {t:gk} {e:Expr} {es:List Expr} {k j:Nat} {x qual:Str} {ps:List Str} {p pos aN:Pos}
def Nd(d:List Nat)(C:Addr)(b:List Str)(ok:List D->Prop)(t:gk):cy:=λE c=>t (cH d c) λa=>ok a/\a.length=b.length/\E.xc c (.err C b a)
theorem yd(hc:X.calm=true)(I:U6 X.K C qual st Y)(F:FnOk X.prog X.w X.K X.mg X.base bZ k I.f I.fd Y (JG Z C m ok))(hr:bW j X.A)(s:XE X.K C)(hm:X.mg x=some (.ref C))(g:DA Z X (e::es) t)(u:Gl X x:=by rfl)(hk:k+1<=j:=by first|decide|omega)(Ry:Y.length<=1000:=by decide)
  (dB:(x==("__debug__":Str))=false:=by decide) (he:starEach (e::es) X.env=(false,eval e X.env)::starEach es X.env:=by rfl) (cg:(backTo aN (starEach es X.env)).any (·.1)=false:=by rfl):
  DSt Z X md rn (.Raise (some (.Call (.Name x p) (e::es) [] aN)) none pos) (Nd md C m ok t):=by
 refine(Bj hc (Mb I.made I.fn F (hr.mono hk) u hm I.b Ry uU g dB he cg)).imp ?_;intro D σ H aC;rfl';obtain⟨B,ρ,E,⟨G,fp,S⟩,h,M⟩:=aC;ac_rfl;refine⟨G,_,_,S.ex.sub,S.qB,h,λds y vs n H1 J bB a g=>?_⟩;rfl';obtain⟨ok,hl,hx⟩:=y;ac_rfl;have S1:=S.grow J;have L:n a=none:=J.sub.free g;refine⟨a,vs,n,ds,rfl,av,L,J.sub.trans (aW g _),bB,ok,hl,λd zs q H' g1 g2 g3 g4 g5 r g7 g8 g9=>⟨rfl,a,C,some d,rfl,g5,s.obj,s.cls.be,?_⟩⟩;have l:d≠a:=λz=>by rw[z,av] at r;cases r
 have N:H1 d=none:=by rw[ax l] at r;exact r
 have O:n d=none:=g1.free g8;have Q:q a=none:=g4 a (by rw[av];exact λz=>nomatch z) L
 have x2:Ext n H1 (upd (upd q d (zR d (m.zip zs))) a (kG C a (some d))) (upd H' a (kG C a (some d))):=by
  refine⟨λb o c=>?_,λb o c=>?_,λb o c=>?_,λb R u=>?_⟩
  ·rw[ax (aB c L),ax (aB c O)];exact g1 _ _ c
  ·by_cases z:b=a
   ·rw[z,av] at c ⊢;exact c
   ·rw[ax z] at c ⊢
    by_cases T:b=d
    ·rw[T,av] at c;cases c;rw[T];exact g7
    ·rw[ax T] at c;exact g2 _ _ c
  ·have i:b≠a:=aB c g
   rw[ax i];exact g3 b o i (by rw[ax i];exact c)
  ·have i:b≠a:=λz=>R (by rw[z];exact g)
   have U:b≠d:=λz=>R (by rw[z];exact N)
   rw[ax i,ax U];exact g4 b (by rw[ax i];exact R) u
 have s2:aU q (upd (upd q d (zR d (m.zip zs))) a (kG C a (some d))):=λb o c=>by rw[ax (aB c Q),ax (aB c g8)];exact c
 exact M.xc ρ _ hx σ _ _ fp a (S1.grow x2) (.err av (.inr ⟨d,rfl,by rw[ax l,av],by rw[g9.length];exact hl.symm⟩) (g9.mono s2))
end
section
variable {Z:DC} {X:Cx} {a:Expr} {ta:aX} {p p1 p2 p3 p4 pos:Pos}
end
section
variable {P:Program} {w:World} {K:PySem.W.Frag} {mg:Str->Option Value} {base:Heap} {CX:n5} {k:Nat} {f:Addr} {fd:FuncData} {ps:List Str} {sp P5:Sp}
theorem FnOk.up(F:FnOk P w K mg base bZ k f fd ps sp):FnOk P w K mg base CX k f fd ps sp:=
 ⟨F.len,λA outer s H a b c Q E d g i j h=>adv (F.run A outer s H a b c Q E d g i j h) λr m q=>by
  cases r with
  |error e=>exact False.elim q
  |ok l=>cases l<;>exact q⟩
theorem FnOk.or(F:FnOk P w K mg base CX k f fd ps sp)(c:FnOk P w K mg base CX k f fd ps P5):FnOk P w K mg base CX k f fd ps (λa H Q E=>sp a H Q E\/P5 a H Q E):=
 ⟨λa H Q E h=>h.elim (F.len a H Q E) (c.len a H Q E),λA outer s H b d a Q E e g i j h=>h.elim (F.run A outer s H b d a Q E e g i j) (c.run A outer s H b d a Q E e g i j)⟩
end
section
variable {X:Cx} {k:Nat} {f C:Addr} {fd:FuncData} {ps:List Str} {sp:Sp} {x:Str} {p pos:Pos} {e:Expr} {es:List Expr} {t:TA}
end
section
variable {Z:DC} {X:Cx} {md:List Nat} {rn k j:Nat} {f:Addr} {fd:FuncData} {ps:List Str} {t:gk} {e:Expr} {es:List Expr} {x:Str} {p pos aN:Pos}
end
end L2
namespace Hc
open PySem L2 Wb
def top(i:Nat):Stmt:=PySem.Challenge.pw_mapdye_k85_ways_and_leading_refused.main.body.getD i (.Pass ⟨0,0,0,0⟩)
abbrev lV:Stmt:=top 21
abbrev pA:Stmt:=top 22
abbrev ze:Stmt:=top 23
abbrev pz:Stmt:=top 24
abbrev lU:Stmt:=top 25
abbrev lS:Stmt:=top 27
abbrev gd:Stmt:=top 29
abbrev pk:Stmt:=top 32
abbrev kz:Stmt:=top 33
abbrev lW:Stmt:=top 34
abbrev kC:Stmt:=top 35
abbrev lT:Stmt:=top 36
abbrev dQ:Stmt:=top 37
abbrev kA:Stmt:=top 38
abbrev kB:Stmt:=top 39
abbrev jI:Stmt:=top 41
abbrev lu:Stmt:=top 45
abbrev DQ:Stmt:=top 46
abbrev jo:Stmt:=top 49
abbrev dz:Stmt:=top 50
abbrev ni:Stmt:=top 51
abbrev rN:Stmt:=top 52
abbrev jG:Stmt:=top 54
abbrev jH:Stmt:=top 55
abbrev lP:Stmt:=top 56
abbrev lR:Stmt:=top 57
abbrev iJ:Stmt:=top 58
abbrev jm:Stmt:=top 59
abbrev pj:Stmt:=top 60
abbrev jn:Stmt:=top 61
abbrev gJ:Stmt:=top 62
abbrev gI:Stmt:=top 63
abbrev lQ:Stmt:=top 64
abbrev nh:Stmt:=top 65
abbrev ph:Stmt:=top 66
abbrev JA:Stmt:=top 67
abbrev fA:Stmt:=L2.gS (top 40) 0
abbrev o9:Stmt:=L2.gS (top 40) 1
abbrev jU:Stmt:=L2.gS (top 40) 2
abbrev lq:Stmt:=L2.gS (top 40) 3
abbrev vS:Stmt:=L2.gS (top 40) 4
abbrev lO:Stmt:=L2.gS (top 40) 5
abbrev fS:Stmt:=L2.gS (top 9) 0
theorem iP:aD ["self","counted"] ["self","counted"] (ar fS):=⟨rfl,rfl,rfl,by decide+kernel,rfl,by decide+kernel,by decide+kernel⟩
abbrev gP:Stmt:=L2.gS (top 14) 0
theorem jO:aD ["self","point"] ["self","point"] (ar gP):=⟨rfl,rfl,rfl,by decide+kernel,rfl,by decide+kernel,by decide+kernel⟩
theorem pM:aD ["web","side","sides","p","q"] ["web","side"] (ar lV):=⟨rfl,rfl,rfl,by decide+kernel,rfl,by decide+kernel,by decide+kernel⟩
theorem Bq:aD ["web","walked","told","side","sides","step"] ["web"] (ar pA):=⟨rfl,rfl,rfl,by decide+kernel,rfl,by decide+kernel,by decide+kernel⟩
theorem Bp:aD ["web"] ["web"] (ar ze):=⟨rfl,rfl,rfl,by decide+kernel,rfl,by decide+kernel,by decide+kernel⟩
theorem tS:aD ["web","points","ties","rounds"] ["web"] (ar pz):=⟨rfl,rfl,rfl,by decide+kernel,rfl,by decide+kernel,by decide+kernel⟩
theorem pJ:aD ["web"] ["web"] (ar lU):=⟨rfl,rfl,rfl,by decide+kernel,rfl,by decide+kernel,by decide+kernel⟩
theorem pH:aD ["taken","many","dye"] ["taken","many"] (ar lS):=⟨rfl,rfl,rfl,by decide+kernel,rfl,by decide+kernel,by decide+kernel⟩
theorem lA:aD ["web","turns","left","order","counts","least"] ["web"] (ar gd):=⟨rfl,rfl,rfl,by decide+kernel,rfl,by decide+kernel,by decide+kernel⟩
theorem tR:aD ["thing","many"] ["thing","many"] (ar pk):=⟨rfl,rfl,rfl,by decide+kernel,rfl,by decide+kernel,by decide+kernel⟩
theorem nO:aD ["rows","p","row","q"] ["rows"] (ar kz):=⟨rfl,rfl,rfl,by decide+kernel,rfl,by decide+kernel,by decide+kernel⟩
theorem pN:aD ["rows","p","row"] ["rows"] (ar lW):=⟨rfl,rfl,rfl,by decide+kernel,rfl,by decide+kernel,by decide+kernel⟩
theorem nS:aD ["rows","p","row","place","q"] ["rows"] (ar kC):=⟨rfl,rfl,rfl,by decide+kernel,rfl,by decide+kernel,by decide+kernel⟩
theorem pI:aD ["rows","p","row","q"] ["rows"] (ar lT):=⟨rfl,rfl,rfl,by decide+kernel,rfl,by decide+kernel,by decide+kernel⟩
theorem iK:aD ["rows","reached","waiting","p","q"] ["rows"] (ar dQ):=⟨rfl,rfl,rfl,by decide+kernel,rfl,by decide+kernel,by decide+kernel⟩
theorem nP:aD ["rows","q","reached"] ["rows"] (ar kA):=⟨rfl,rfl,rfl,by decide+kernel,rfl,by decide+kernel,by decide+kernel⟩
theorem nQ:aD ["rows","fault"] ["rows"] (ar kB):=⟨rfl,rfl,rfl,by decide+kernel,rfl,by decide+kernel,by decide+kernel⟩
theorem gf:aD ["web","most"] ["web","most"] (ar jI):=⟨rfl,rfl,rfl,by decide+kernel,rfl,by decide+kernel,by decide+kernel⟩
theorem tT:aD ["walk","p","near","one","other","dyeing","told","q","dye"] ["walk","p","near","one","other"] (ar lu):=⟨rfl,rfl,rfl,by decide+kernel,rfl,by decide+kernel,by decide+kernel⟩
theorem KP:aD ["web","one","other","many","turns","walk","behind","p"] ["web","one","other","many"] (ar DQ):=⟨rfl,rfl,rfl,by decide+kernel,rfl,by decide+kernel,by decide+kernel⟩
theorem pL:aD ["parts","p","row","told","place","part"] ["parts","p","row"] (ar jo):=⟨rfl,rfl,rfl,by decide+kernel,rfl,by decide+kernel,by decide+kernel⟩
theorem jz:aD ["web","fallen","p","row","counts","parts"] ["web"] (ar dz):=⟨rfl,rfl,rfl,by decide+kernel,rfl,by decide+kernel,by decide+kernel⟩
theorem tU:aD ["web","told","falling","less","many","place","factor"] ["web"] (ar ni):=⟨rfl,rfl,rfl,by decide+kernel,rfl,by decide+kernel,by decide+kernel⟩
theorem lB:aD ["web","many","total","factor"] ["web","many"] (ar rN):=⟨rfl,rfl,rfl,by decide+kernel,rfl,by decide+kernel,by decide+kernel⟩
theorem mI:aD ["_law_script","_law_k"] ["_law_script","_law_k"] (ar jG):=⟨rfl,rfl,rfl,by decide+kernel,rfl,by decide+kernel,by decide+kernel⟩
theorem mK:aD ["_law_cell","_law_k","_law_number"] ["_law_cell","_law_k"] (ar jH):=⟨rfl,rfl,rfl,by decide+kernel,rfl,by decide+kernel,by decide+kernel⟩
theorem pC:aD ["_law_script","_law_at","_law_many","_law_cell","_law_found","_law_first","_law_k","_law_number"] ["_law_script","_law_at","_law_many"] (ar lP):=⟨rfl,rfl,rfl,by decide+kernel,rfl,by decide+kernel,by decide+kernel⟩
theorem pF:aD ["_law_turns","_law_sides","_law_found","_law_p","_law_q","_law_row","_law_side","_law_turn"] ["_law_turns"] (ar lR):=⟨rfl,rfl,rfl,by decide+kernel,rfl,by decide+kernel,by decide+kernel⟩
theorem nN:aD ["_law_land","_law_number","_law_first","_law_found","_law_k"] ["_law_land","_law_number"] (ar iJ):=⟨rfl,rfl,rfl,by decide+kernel,rfl,by decide+kernel,by decide+kernel⟩
theorem pD:aD ["_law_turns","_law_land","_law_places_here","_law_made","_law_around","_law_at","_law_turn","_law_place"] ["_law_turns","_law_land","_law_places_here"] (ar jm):=⟨rfl,rfl,rfl,by decide+kernel,rfl,by decide+kernel,by decide+kernel⟩
theorem tQ:aD ["_law_draws_here","_law_turns","_law_number","_law_rows","_law_land"] ["_law_draws_here"] (ar pj):=⟨rfl,rfl,rfl,by decide+kernel,rfl,by decide+kernel,by decide+kernel⟩
theorem pG:aD ["_law_turns","_law_draws_here","_law_names","_law_k","_law_at","_law_found","_law_p","_law_turn"] ["_law_turns","_law_draws_here"] (ar jn):=⟨rfl,rfl,rfl,by decide+kernel,rfl,by decide+kernel,by decide+kernel⟩
theorem mL:aD ["_law_turns","_law_number","_law_found","_law_turn","_law_at"] ["_law_turns","_law_number"] (ar gJ):=⟨rfl,rfl,rfl,by decide+kernel,rfl,by decide+kernel,by decide+kernel⟩
theorem mJ:aD ["_law_turns","_law_ties"] ["_law_turns"] (ar gI):=⟨rfl,rfl,rfl,by decide+kernel,rfl,by decide+kernel,by decide+kernel⟩
theorem pE:aD ["_law_e","_law_kinds_here","_law_other"] ["_law_e"] (ar lQ):=⟨rfl,rfl,rfl,by decide+kernel,rfl,by decide+kernel,by decide+kernel⟩
theorem qG:aD ["_law_way","_law_web_here","_law_dyeing","_law_many","_law_told","_law_e"] ["_law_way","_law_web_here","_law_dyeing","_law_many"] (ar nh):=⟨rfl,rfl,rfl,by decide+kernel,rfl,by decide+kernel,by decide+kernel⟩
theorem tP:aD ["_law_counted_here","_law_many"] ["_law_counted_here","_law_many"] (ar ph):=⟨rfl,rfl,rfl,by decide+kernel,rfl,by decide+kernel,by decide+kernel⟩
theorem KO:aD ["_law_script","_law_turns","_law_number","_law_counted_here","_law_web_here","_law_due_here","_law_many","_law_dyes","_law_told"] ["_law_script"] (ar JA):=⟨rfl,rfl,rfl,by decide+kernel,rfl,by decide+kernel,by decide+kernel⟩
theorem mH:aD ["self","turns","rows","fault"] ["self","turns"] (ar fA):=⟨rfl,rfl,rfl,by decide+kernel,rfl,by decide+kernel,by decide+kernel⟩
theorem tN:aD ["self"] ["self"] (ar o9):=⟨rfl,rfl,rfl,by decide+kernel,rfl,by decide+kernel,by decide+kernel⟩
theorem qF:aD ["self"] ["self"] (ar jU):=⟨rfl,rfl,rfl,by decide+kernel,rfl,by decide+kernel,by decide+kernel⟩
theorem tO:aD ["self"] ["self"] (ar lq):=⟨rfl,rfl,rfl,by decide+kernel,rfl,by decide+kernel,by decide+kernel⟩
theorem pB:aD ["self","p","q","row"] ["self","p","q"] (ar lO):=⟨rfl,rfl,rfl,by decide+kernel,rfl,by decide+kernel,by decide+kernel⟩
set_option genInjectivity false in
structure Txt (Z:DC) (mg:Str->Option Value) where
 B:Yg mg
 x_set:mg "set"=none
 d_round_from:eF Z.K mg "round_from" lV ["web","side"]
 d_lands:eF Z.K mg "lands" pA ["web"]
 d_count:eF Z.K mg "count" ze ["web"]
 d_is_plane:eF Z.K mg "is_plane" pz ["web"]
 d_need_plane:eF Z.K mg "need_plane" lU ["web"]
 d_least_free:eF Z.K mg "least_free" lS ["taken","many"]
 d_order_of_five:eF Z.K mg "order_of_five" gd ["web"]
 d_is_among:eF Z.K mg "is_among" pk ["thing","many"]
 d_alien_fault:eF Z.K mg "alien_fault" kz ["rows"]
 d_self_fault:eF Z.K mg "self_fault" lW ["rows"]
 d_twice_fault:eF Z.K mg "twice_fault" kC ["rows"]
 d_lone_fault:eF Z.K mg "lone_fault" lT ["rows"]
 d_reached_from_first:eF Z.K mg "reached_from_first" dQ ["rows"]
 d_apart_fault:eF Z.K mg "apart_fault" kA ["rows"]
 d_first_fault:eF Z.K mg "first_fault" kB ["rows"]
 d_need_at_most:eF Z.K mg "need_at_most" jI ["web","most"]
 d_led_with:eF Z.K mg "led_with" lu ["walk","p","near","one","other"]
 d_led:eF Z.K mg "led" DQ ["web","one","other","many"]
 d_parts_with:eF Z.K mg "parts_with" jo ["parts","p","row"]
 d_counted_by_parts:eF Z.K mg "counted_by_parts" dz ["web"]
 d_ways:eF Z.K mg "ways" ni ["web"]
 d_ways_by:eF Z.K mg "ways_by" rN ["web","many"]
 d__law_cell_at:eF Z.K mg "_law_cell_at" jG ["_law_script","_law_k"]
 d__law_reserve:eF Z.K mg "_law_reserve" jH ["_law_cell","_law_k"]
 d__law_draws:eF Z.K mg "_law_draws" lP ["_law_script","_law_at","_law_many"]
 d__law_lands:eF Z.K mg "_law_lands" lR ["_law_turns"]
 d__law_places:eF Z.K mg "_law_places" iJ ["_law_land","_law_number"]
 d__law_grown:eF Z.K mg "_law_grown" jm ["_law_turns","_law_land","_law_places_here"]
 d__law_web:eF Z.K mg "_law_web" pj ["_law_draws_here"]
 d__law_named:eF Z.K mg "_law_named" jn ["_law_turns","_law_draws_here"]
 d__law_twisted:eF Z.K mg "_law_twisted" gJ ["_law_turns","_law_number"]
 d__law_counted:eF Z.K mg "_law_counted" gI ["_law_turns"]
 d__law_kinds:eF Z.K mg "_law_kinds" lQ ["_law_e"]
 d__law_said:eF Z.K mg "_law_said" nh ["_law_way","_law_web_here","_law_dyeing","_law_many"]
 d__law_due:eF Z.K mg "_law_due" ph ["_law_counted_here","_law_many"]
 d_law:eF Z.K mg "law" JA ["_law_script"]
 W:J8 Z
 mC:mg "Web"=some (.ref Z.C)
 i_f:Addr
 i_fd:FuncData
 i_F:oh Z.K "__init__" "Web.__init__" fA i_f i_fd
 mkW:Mk Z.K Z.C i_f
 m___init__b:Binds Z.K i_fd ["self","turns"] []
 m_many:Hd Z "many" "Web.many" o9 ["self"]
 m_turns:Hd Z "turns" "Web.turns" jU ["self"]
 m_ties:Hd Z "ties" "Web.ties" lq ["self"]
 m_tied:Hd Z "tied" "Web.tied" vS ["self","a","b"]
 m_behind:Hd Z "behind" "Web.behind" lO ["self","p","q"]
 iX:K4 Z.K
 x_ValueError:mg "ValueError"=none
 e_MapError:Addr
 g_MapError:mg "MapError"=some (.ref e_MapError)
 e_TooMany:Addr
 g_TooMany:mg "TooMany"=some (.ref e_TooMany)
 e_TooSmall:Addr
 g_TooSmall:mg "TooSmall"=some (.ref e_TooSmall)
 e_NoWeb:Addr
 g_NoWeb:mg "NoWeb"=some (.ref e_NoWeb)
 e_NotPlane:Addr
 g_NotPlane:mg "NotPlane"=some (.ref e_NotPlane)
 e_NoText:Addr
 g_NoText:mg "NoText"=some (.ref e_NoText)
 e_NoCorner:Addr
 g_NoCorner:mg "NoCorner"=some (.ref e_NoCorner)
 e_NoRing:Addr
 g_NoRing:mg "NoRing"=some (.ref e_NoRing)
 e_Alike:Addr
 g_Alike:mg "Alike"=some (.ref e_Alike)
 e_TooFew:Addr
 g_TooFew:mg "TooFew"=some (.ref e_TooFew)
 e_NotFree:Addr
 g_NotFree:mg "NotFree"=some (.ref e_NotFree)
 e_NotFilled:Addr
 g_NotFilled:mg "NotFilled"=some (.ref e_NotFilled)
 e_Odd:Addr
 g_Odd:mg "Odd"=some (.ref e_Odd)
 e_Bridge:Addr
 g_Bridge:mg "Bridge"=some (.ref e_Bridge)
 e_Shared:Addr
 g_Shared:mg "Shared"=some (.ref e_Shared)
 q_MapError:XE Z.K e_MapError
 q_TooMany:XE Z.K e_TooMany
 q_NotPlane:XE Z.K e_NotPlane
 q_TooFew:XE Z.K e_TooFew
 xb:XBs Z.K mg e_MapError
 k_TooMany:Hh Z.K e_TooMany (.builtin "ValueError.__init__")
 z_TooMany_TooMany:PySem.W.kitOne Z.K (.ref e_TooMany) (.ref e_TooMany)=some true
 z_TooMany_TooSmall:PySem.W.kitOne Z.K (.ref e_TooMany) (.ref e_TooSmall)=some false
 z_TooMany_NoWeb:PySem.W.kitOne Z.K (.ref e_TooMany) (.ref e_NoWeb)=some false
 z_TooMany_NotPlane:PySem.W.kitOne Z.K (.ref e_TooMany) (.ref e_NotPlane)=some false
 z_TooMany_NoText:PySem.W.kitOne Z.K (.ref e_TooMany) (.ref e_NoText)=some false
 z_TooMany_NoCorner:PySem.W.kitOne Z.K (.ref e_TooMany) (.ref e_NoCorner)=some false
 z_TooMany_NoRing:PySem.W.kitOne Z.K (.ref e_TooMany) (.ref e_NoRing)=some false
 z_TooMany_Alike:PySem.W.kitOne Z.K (.ref e_TooMany) (.ref e_Alike)=some false
 z_TooMany_TooFew:PySem.W.kitOne Z.K (.ref e_TooMany) (.ref e_TooFew)=some false
 z_TooMany_NotFree:PySem.W.kitOne Z.K (.ref e_TooMany) (.ref e_NotFree)=some false
 z_TooMany_NotFilled:PySem.W.kitOne Z.K (.ref e_TooMany) (.ref e_NotFilled)=some false
 z_TooMany_Odd:PySem.W.kitOne Z.K (.ref e_TooMany) (.ref e_Odd)=some false
 z_TooMany_Bridge:PySem.W.kitOne Z.K (.ref e_TooMany) (.ref e_Bridge)=some false
 z_TooMany_Shared:PySem.W.kitOne Z.K (.ref e_TooMany) (.ref e_Shared)=some false
 z_TooMany_ValueError:PySem.W.kitOne Z.K (.ref e_TooMany) (.type "ValueError")=some true
 m_TooMany_MapError:PySem.W.mroIn Z.K e_TooMany (.ref e_MapError)=some true
 j_NotPlane:U6 Z.K e_NotPlane "NotPlane.__init__" fS ["self","counted"]
 n_NotPlane_counted:fW Z.K e_NotPlane "counted"
 z_NotPlane_TooMany:PySem.W.kitOne Z.K (.ref e_NotPlane) (.ref e_TooMany)=some false
 z_NotPlane_TooSmall:PySem.W.kitOne Z.K (.ref e_NotPlane) (.ref e_TooSmall)=some false
 z_NotPlane_NoWeb:PySem.W.kitOne Z.K (.ref e_NotPlane) (.ref e_NoWeb)=some false
 z_NotPlane_NotPlane:PySem.W.kitOne Z.K (.ref e_NotPlane) (.ref e_NotPlane)=some true
 z_NotPlane_NoText:PySem.W.kitOne Z.K (.ref e_NotPlane) (.ref e_NoText)=some false
 z_NotPlane_NoCorner:PySem.W.kitOne Z.K (.ref e_NotPlane) (.ref e_NoCorner)=some false
 z_NotPlane_NoRing:PySem.W.kitOne Z.K (.ref e_NotPlane) (.ref e_NoRing)=some false
 z_NotPlane_Alike:PySem.W.kitOne Z.K (.ref e_NotPlane) (.ref e_Alike)=some false
 z_NotPlane_TooFew:PySem.W.kitOne Z.K (.ref e_NotPlane) (.ref e_TooFew)=some false
 z_NotPlane_NotFree:PySem.W.kitOne Z.K (.ref e_NotPlane) (.ref e_NotFree)=some false
 z_NotPlane_NotFilled:PySem.W.kitOne Z.K (.ref e_NotPlane) (.ref e_NotFilled)=some false
 z_NotPlane_Odd:PySem.W.kitOne Z.K (.ref e_NotPlane) (.ref e_Odd)=some false
 z_NotPlane_Bridge:PySem.W.kitOne Z.K (.ref e_NotPlane) (.ref e_Bridge)=some false
 z_NotPlane_Shared:PySem.W.kitOne Z.K (.ref e_NotPlane) (.ref e_Shared)=some false
 z_NotPlane_ValueError:PySem.W.kitOne Z.K (.ref e_NotPlane) (.type "ValueError")=some true
 m_NotPlane_MapError:PySem.W.mroIn Z.K e_NotPlane (.ref e_MapError)=some true
 j_TooFew:U6 Z.K e_TooFew "TooFew.__init__" gP ["self","point"]
 n_TooFew_point:fW Z.K e_TooFew "point"
 z_TooFew_TooMany:PySem.W.kitOne Z.K (.ref e_TooFew) (.ref e_TooMany)=some false
 z_TooFew_TooSmall:PySem.W.kitOne Z.K (.ref e_TooFew) (.ref e_TooSmall)=some false
 z_TooFew_NoWeb:PySem.W.kitOne Z.K (.ref e_TooFew) (.ref e_NoWeb)=some false
 z_TooFew_NotPlane:PySem.W.kitOne Z.K (.ref e_TooFew) (.ref e_NotPlane)=some false
 z_TooFew_NoText:PySem.W.kitOne Z.K (.ref e_TooFew) (.ref e_NoText)=some false
 z_TooFew_NoCorner:PySem.W.kitOne Z.K (.ref e_TooFew) (.ref e_NoCorner)=some false
 z_TooFew_NoRing:PySem.W.kitOne Z.K (.ref e_TooFew) (.ref e_NoRing)=some false
 z_TooFew_Alike:PySem.W.kitOne Z.K (.ref e_TooFew) (.ref e_Alike)=some false
 z_TooFew_TooFew:PySem.W.kitOne Z.K (.ref e_TooFew) (.ref e_TooFew)=some true
 z_TooFew_NotFree:PySem.W.kitOne Z.K (.ref e_TooFew) (.ref e_NotFree)=some false
 z_TooFew_NotFilled:PySem.W.kitOne Z.K (.ref e_TooFew) (.ref e_NotFilled)=some false
 z_TooFew_Odd:PySem.W.kitOne Z.K (.ref e_TooFew) (.ref e_Odd)=some false
 z_TooFew_Bridge:PySem.W.kitOne Z.K (.ref e_TooFew) (.ref e_Bridge)=some false
 z_TooFew_Shared:PySem.W.kitOne Z.K (.ref e_TooFew) (.ref e_Shared)=some false
 z_TooFew_ValueError:PySem.W.kitOne Z.K (.ref e_TooFew) (.type "ValueError")=some true
 m_TooFew_MapError:PySem.W.mroIn Z.K e_TooFew (.ref e_MapError)=some true
 t___name__:∃tk,mg "__name__"=some (.str "law_mapdye_k85_ways_and_leading_refused" tk)
 c_MOST_POINTS:∃tk,mg "MOST_POINTS"=some (.int 14 tk)
 c_MOST_LED:∃tk,mg "MOST_LED"=some (.int 10 tk)
 c_FEWEST_DYES:∃tk,mg "FEWEST_DYES"=some (.int 7 tk)
 c_MOST_COUNTED:∃tk,mg "MOST_COUNTED"=some (.int 8 tk)
variable {P:Program} {w:World} {mg:Str->Option Value} {base:Heap} {Z:DC} (T:Txt Z mg)
def P6:cx:=λa P=>∃(i n:Int),a= [.int i, .int n]/\P (.bl (decide (0<=i/\i<n)))
theorem Dz:FnOk P w Z.K mg base bZ 1 T.d_is_among.f T.d_is_among.fd ["thing","many"] (aT Z P6):=by
 have d:=tR.nd;refine bc T.d_is_among.F tR [0,0] (by decide) (λb R h=>by obtain⟨_,_,rfl,_⟩:=h;rfl) (λe A outer s H E b R c h=>?_)
 have g:=c.units;refine⟨_,(ao (aK (Kg (Cd "int" (aa 0) rfl T.B.isinstance rfl T.B.int QN) (Kg (Q2 (Cd "bool" (aa 0) rfl T.B.isinstance rfl T.B.bool EB)) (Ki (Lg Jg uM aw (aa 0) (aa 1))))))),?_⟩;obtain⟨i,n,rfl,q⟩:=h;refine⟨_,rfl,rfl,true,rfl,dq ⟨_,rfl,rfl,false,rfl,true,rfl,dq ⟨_,rfl,?_⟩⟩⟩;refine⟨_,rfl,bF (λa=>⟨_,rfl,?_⟩) (λa=>?_)⟩
 ·have a:0<=i:=GM a
  show R (.bl (decide (i<n)));rw[show decide (i<n)=decide (0<=i/\i<n) by simp[a]]
  exact q
 ·have a:¬0<=i:=KF a
  rw[show decide (0<=i/\i<n)=false by simp[a]] at q
  exact q
def xh:cx:=λa P=>∃(w:W),a= [aO w]/\Au w/\1<=w.length/\w.length<=14/\P .bu
theorem Bw{w:W}(h:(iw (w.map au))[j]? =some d):j<w.length/\d= .tup [.int (j:Int),au (row w j)]:=by
 obtain⟨x,b,rfl⟩:=i6 h;obtain⟨r,a,rfl⟩:=cC b;have c:j<w.length:=(dS.mp a).1;refine⟨c,?_⟩;rw[SN a]
theorem wF:FnOk P w Z.K mg base bZ 2 T.d_alien_fault.f T.d_alien_fault.fd ["rows"] (aT Z xh):=by
 have c:=nO.nd;refine bc T.d_alien_fault.F nO [0,0,0,0] (by decide) (λn R h=>by obtain⟨_,rfl,_⟩:=h;rfl) (λy A outer s H E n R m h=>?_)
 have z:=m.units
 refine⟨_,(ah (b6 rfl FM (e8 rfl T.B.enumerate (ae (aa 0) ag)) (fo 2 rfl (aV (aE 1 c) (aV (aE 2 c) cL))) (ao (b6 rfl FM (bC (aa 2)) (aE 3 c) (ao (bA (qg (jg (aH T.d_is_among (Dz T) m (ae (aa 3) (ae (aI bE rfl T.B.len bD (ae (aa 0) ag)) ag))))) (ao (aK (dP (ae jS (ae (aa 1) (ae (aa 3) ag)))))) aM)))))
   (ao (aK ik))),?_⟩
 obtain⟨a,rfl,g,C,G,q⟩:=h;refine⟨_,rfl,bQ (λ_ e=>∃i l b,e= [some (aO a),i,l,b]) ⟨_,_,_,rfl⟩ ?_ ?_⟩
 ·rintro j d _ o ⟨i,l,b,rfl⟩ A p
  obtain⟨I,rfl⟩:=Bw o;refine⟨rfl,rfl,?_⟩;refine⟨_,rfl,bQ (λ_ e=>∃b,e= [some (aO a),some (.int (j:Int)),some (au (row a j)),b]) ⟨_,rfl⟩ ?_ ?_⟩
  ·rintro k J _ r ⟨t,rfl⟩ L u
   obtain⟨x,v,rfl⟩:=cC r;refine⟨_,rfl,_,rfl,_,_,rfl,⟨rfl,?_⟩⟩;have M:x<a.length:=g.rng _ _ (fB v);rw[show decide ((0:Int)<=(x:Int)/\(x:Int)<((a.map au).length:Int))=true by simp;omega]
   exact bS (u _ ⟨_,rfl⟩)
  ·rintro _ ⟨t,rfl⟩
   exact p _ ⟨_,_,_,rfl⟩
 ·rintro _ ⟨i,l,b,rfl⟩
  exact q
theorem y4:FnOk P w Z.K mg base bZ 1 T.d_self_fault.f T.d_self_fault.fd ["rows"] (aT Z xh):=by
 have i:=pN.nd;refine bc T.d_self_fault.F pN [0,0,0] (by decide) (λk R h=>by obtain⟨_,rfl,_⟩:=h;rfl) (λt A outer s H E k R l h=>?_)
 have u:=l.units
 refine⟨_,(ah (b6 rfl FM (e8 rfl T.B.enumerate (ae (aa 0) ag)) (fo 2 rfl (aV (aE 1 i) (aV (aE 2 i) cL))) (ao (bA (aQ uL (aa 1) (aa 2) (by with_unfolding_all rfl)) (ao (aK (dP (ae jS (ae (aa 1) (ae (aa 1) ag)))))) aM)))
   (ao (aK ik))),?_⟩
 obtain⟨a,rfl,g,v,x,q⟩:=h;refine⟨_,rfl,bQ (λ_ m=>∃b c,m= [some (aO a),b,c]) ⟨_,_,rfl⟩ ?_ ?_⟩
 ·rintro j d _ n ⟨b,c,rfl⟩ A o
  obtain⟨y,rfl⟩:=Bw n;refine⟨rfl,rfl,?_⟩;refine⟨_,rfl,_,rfl,rfl,dH _,_,rfl,?_⟩
  have e:inD (.int (j:Int)) ((row a j).map aq)=false:=by
   have:=kh (r:=row a j) (p:=j)
   rw[Gc (g.irr j)] at this;exact this
  rw[AC cQ,e];exact bS (o _ ⟨_,_,rfl⟩)
 ·rintro _ ⟨b,c,rfl⟩
  exact q
theorem j8(l:List a)(k:Nat)(h:k<=l.length):cutD l none (some (k:Int))=l.take k:=by
 unfold cutD;have b:HT.ck l.length 0 none=0:=rfl
 have c:HT.ck l.length l.length (some (k:Int))=k:=by
  simp only[HT.ck]
  split<;>omega
 rw[b,c];simp
theorem wH:FnOk P w Z.K mg base bZ 1 T.d_twice_fault.f T.d_twice_fault.fd ["rows"] (aT Z xh):=by
 have i:=nS.nd;refine bc T.d_twice_fault.F nS [0,0,0,0,0] (by decide) (λt R h=>by obtain⟨_,rfl,_⟩:=h;rfl) (λQ A outer s H E t R u h=>?_)
 have U:=u.units
 refine⟨_,(ah (b6 rfl FM (e8 rfl T.B.enumerate (ae (aa 0) ag)) (fo 2 rfl (aV (aE 1 i) (aV (aE 2 i) cL))) (ao (b6 rfl FM (e8 rfl T.B.enumerate (ae (aa 2) ag)) (fo 2 rfl (aV (aE 3 i) (aV (aE 4 i) cL))) (ao (bA (aQ uL (aa 4) (f9 (aa 2) iq (iu (aa 3))) (by with_unfolding_all rfl)) (ao (aK (dP (ae jS (ae (aa 1) (ae (aa 4) ag)))))) aM)))))
   (ao (aK ik))),?_⟩
 obtain⟨a,rfl,g,X,Y,q⟩:=h;refine⟨_,rfl,bQ (λ_ l=>∃n o b c,l= [some (aO a),n,o,b,c]) ⟨_,_,_,_,rfl⟩ ?_ ?_⟩
 ·rintro j d _ v ⟨n,o,b,c,rfl⟩ A C
  obtain⟨hj,rfl⟩:=Bw v;refine⟨rfl,rfl,?_⟩;refine⟨_,rfl,bQ (λ_ l=>∃b c,l= [some (aO a),some (.int (j:Int)),some (au (row a j)),b,c]) ⟨_,_,rfl⟩ ?_ ?_⟩
  ·rintro k d' _ G ⟨I,J,rfl⟩ A' L
   obtain⟨y,M,rfl⟩:=i6 G;obtain⟨x,r,rfl⟩:=cC M;have iC:k<(row a j).length:=(dS.mp r).1;refine⟨rfl,rfl,?_⟩;refine⟨_,rfl,_,rfl,_,rfl,?_⟩;have N:cutD ((row a j).map aq) none (some (k:Int))=((row a j).take k).map aq:=by rw[j8 _ _ (by simp;omega),zO]
   refine(?_:QV false (aq x) (.lst (cutD ((row a j).map aq) none (some (k:Int)))) _);rw[N];refine⟨rfl,dH _,_,rfl,?_⟩
   have e:inD (aq x) (((row a j).take k).map aq)=false:=by
    rw[kh,Gc];intro z;obtain⟨m,p⟩:=zJ z
    have O:m<k:=by
     have:=(dS.mp p).1
     rw[jQ] at this;omega
    rw[K2 O] at p;exact absurd ((afv (by omega) (g.nod j)).mp (p.trans r.symm)) (by omega)
   rw[AC cQ,e];exact bS (L _ ⟨_,_,rfl⟩)
  ·rintro _ ⟨I,J,rfl⟩
   exact C _ ⟨_,_,_,_,rfl⟩
 ·rintro _ ⟨n,o,b,c,rfl⟩
  exact q
theorem yY:FnOk P w Z.K mg base bZ 1 T.d_lone_fault.f T.d_lone_fault.fd ["rows"] (aT Z xh):=by
 have i:=pI.nd;refine bc T.d_lone_fault.F pI [0,0,0,0] (by decide) (λo R h=>by obtain⟨_,rfl,_⟩:=h;rfl) (λJ A outer s H E o R t h=>?_)
 have L:=t.units
 refine⟨_,(ah (b6 rfl FM (e8 rfl T.B.enumerate (ae (aa 0) ag)) (fo 2 rfl (aV (aE 1 i) (aV (aE 2 i) cL))) (ao (b6 rfl FM (bC (aa 2)) (aE 3 i) (ao (bA (aQ uN (aa 1) (bH (aa 0) (aa 3)) (by with_unfolding_all rfl)) (ao (aK (dP (ae jS (ae (aa 1) (ae (aa 3) ag)))))) aM)))))
   (ao (aK ik))),?_⟩
 obtain⟨a,rfl,g,M,N,q⟩:=h;refine⟨_,rfl,bQ (λ_ l=>∃m n b,l= [some (aO a),m,n,b]) ⟨_,_,_,rfl⟩ ?_ ?_⟩
 ·rintro j d _ u ⟨m,n,b,rfl⟩ A v
  obtain⟨O,rfl⟩:=Bw u;refine⟨rfl,rfl,?_⟩;refine⟨_,rfl,bQ (λ_ l=>∃b,l= [some (aO a),some (.int (j:Int)),some (au (row a j)),b]) ⟨_,rfl⟩ ?_ ?_⟩
  ·rintro k Q _ y ⟨z,rfl⟩ U C
   obtain⟨x,G,rfl⟩:=cC y;have c:=fB G;have I:x<a.length:=g.rng _ _ c;refine⟨_,rfl,_,rfl,_,rfl,_,iV (tZ I),rfl,dH _,_,rfl,?_⟩
   have e:inD (.int (j:Int)) ((row a x).map aq)=true:=by
    have:=kh (r:=row a x) (p:=j)
    rw[KM (g.sym _ _ c)] at this;exact this
   rw[tz rfl,e];exact bS (C _ ⟨_,rfl⟩)
  ·rintro _ ⟨z,rfl⟩
   exact v _ ⟨_,_,_,rfl⟩
 ·rintro _ ⟨m,n,b,rfl⟩
  exact q
def we(bs:List Bool):List D:=bs.map D.bl
theorem MY{bs:List Bool}{i:Nat}{b:Bool}(h:bs[i]? =some b):(we bs)[i]? =some (.bl b):=by unfold we;rw[eO,h];rfl
theorem EF(bs:List Bool)(i:Nat)(b:Bool):(we bs).set i (.bl b)=we (bs.set i b):=by unfold we;rw[ae8]
theorem EE(bs:List Bool):(we bs).length=bs.length:=aP _
theorem qi{n k:Nat}(h:k<n):i9 n (k:Int)=some k:=by unfold i9;rw[tz (by omega),tz (by omega)];simp
def JH:cx:=λa P=>∃(w:W),a= [aO w]/\Au w/\1<=w.length/\w.length<=14/\∀bs m,RI w bs [] [] m->(∀x,bs[x]? =some true->Reach w 0 x)->P (.lst (we bs))
def Met(w:W)(bs:List Bool):Prop:=∀x,bs[x]? =some true->Reach w 0 x
theorem m6:FnOk P w Z.K mg base bZ 1 T.d_reached_from_first.f T.d_reached_from_first.fd ["rows"] (aT Z JH):=by
 have B:=iK.nd;refine bc T.d_reached_from_first.F iK [0,1,1,0,0] (by decide) (λds R h=>by obtain⟨_,rfl,_⟩:=h;rfl) (λbb A outer s H E ds R hr h=>?_)
 have hu:=hr.units
 refine⟨_,(ah (mn 1 (NC:= ["row"]) (src:= [none]) rfl B (lE (ar dQ)) trivial (bC (aa 0)) (λ_ _ _=>(bx 0 (show(["row"]:List Str).Nodup from by decide+kernel))) (λ_ _ _=>cz) (λ_ _ _=>cK))
   (ah (qc false 1 aw cK)
   (ah (eJ 2 B (fm (ae aw ag)))
   (ah (qf FM (jg (aa 2)) (ah (Q7 3 2 B)
   (ao (b6 rfl FM (bC (bH (aa 0) (aa 3))) (aE 4 B) (ao (bA (qg (jg (bH (aa 1) (aa 4)))) (ah (qc false 1 (aa 4) cK)
   (ao (eY false 2 (aa 4)))) aM))))))
   (ao (aK (aa 1))))))),?_⟩
 obtain⟨c,rfl,g,h1,dm,q⟩:=h;refine⟨_,rfl,kX (ρ:= [none]) au (λ_=> .bl false) c _ (λy b Y h=>h) rfl (small (by omega)) λaF=>?_⟩
 have e0:c.map (λ_=>D.bl false)=we (List.replicate c.length false):=by unfold we;rw[List.map_replicate,List.map_const']
 rw[e0];refine⟨trivial,_,rfl,0,0,rfl,by rw[EE,qM];exact qi (k:=0) (by omega),?_⟩
 rw[EF];refine⟨by show 1<=sizeLine;decide,?_⟩
 refine nB (λm ρ=>∃(bs:List Bool)(l:List Nat)(o3 C:Option D),ρ= [some (aO c),some (.lst (we bs)),some (.lst (l.map aq)),o3,C]/\RI c bs l [] m/\Met c bs/\m<=14/\bs.count false+l.length=m) c.length ?_ ?_
 ·refine⟨_,[0],none,none,rfl,⟨by simp,?_,?_,λx d=>?_,?_⟩,λx d=>?_,dm,?_⟩
  ·rw[pW,tz rfl,tz (by rw[qM];omega)]
  ·intro x d
   have:x=0:=by simpa using d
   rw[this,pW,tz rfl,tz (by rw[qM];omega)]
  ·by_cases e:0=x
   ·exact .inl (by rw[<-e];simp)
   ·rw[pW,AC e,qL] at d
    split at d<;>cases d
  ·rw[afe (by rw[qM];omega),afx,afZ]
   simp;omega
  ·by_cases e:0=x
   ·rw[<-e];exact .refl _
   ·rw[pW,AC e,qL] at d
    split at d<;>cases d
  ·rw[afe (by rw[qM];omega),afx,afZ]
   simp;omega
 ·rintro m _ ⟨bs,l,o3,C,rfl,G,mt,hc,o⟩
  refine⟨_,rfl,rfl,?_⟩
  rcases List.eq_nil_or_concat l with rfl| ⟨N,p,e⟩
  ·exact bS ⟨_,rfl,q bs m G mt⟩
  ·rw[aeW] at e
   subst e;rw[show vW (.lst ((N++ [p]).map aq))=true by simp[vW]]
   refine dq ?_;rw[cI] at o;simp only[BC] at o;obtain⟨r,rfl⟩:∃r,m=r+1:=⟨m-1,by omega⟩
   have O:=G.pop;have hp:bs[p]? =some true:=G.wt p (by simp)
   have Q:p<c.length:=by rw[<-G.len];exact(dS.mp hp).1
   refine⟨N.map aq,aq p,by rw[cR];rfl,?_⟩
   refine⟨_,rfl,_,rfl,_,iV (tZ Q),bQ (λj ρ=>∃(a:List Bool)(i:List Nat)(C:Option D),ρ= [some (aO c),some (.lst (we a)),some (.lst (i.map aq)),some (aq p),C]/\RI c a i [p] r/\Met c a/\(∀k y,k<j->(row c p)[k]? =some y->a[y]? =some true)/\a.count false+i.length=r) ?_ ?_ ?_⟩
   ·exact⟨bs,N,_,rfl,O,mt,(λk n t=>by omega),by omega⟩
   ·rintro j x _ d ⟨a,i,o5,rfl,u,I,J,U⟩ A hA
    obtain⟨n,L,rfl⟩:=cC d;have X:=g.rng _ _ (fB L);have WS:n<a.length:=by rw[u.len];exact X
    have v:a[n]? =some (a[n]):=b9 WS;refine⟨_,rfl,_,rfl,_,iV (MY v),rfl,?_⟩;generalize a[n]=bn at v;cases bn with
    |true=>
     refine bS (hA _ ⟨a,i,_,rfl,u,I,λk y t b=>?_,U⟩)
     by_cases e:k=j
     ·rw[e,L] at b;cases b;exact v
     ·exact J k y (by omega) b
    |false=>
     refine dq ?_;refine⟨trivial,_,rfl,_,rfl,_,n,rfl,by rw[EE];exact qi WS,?_⟩
     rw[EF];have M:=u.push v;have ad1:=M.cnt;refine⟨_,rfl,_,rfl,trivial,cj (by rw[aP];omega),?_⟩
     have er:i.map aq++ [aq n]=(i++ [n]).map aq:=by rw[cR];rfl
     rw[er];refine hA _ ⟨a.set n true,i++ [n],_,rfl,M,λy b=>?_,λk y t b=>?_,?_⟩
     ·by_cases e:n=y
      ·rw[<-e];exact .step (mt p hp) (fB L)
      ·rw[pW,AC e] at b;exact I y b
     ·rw[pW]
      by_cases e:n=y
      ·rw[tz e,tz WS]
      ·rw[AC e]
       refine J k y ?_ b;apply FB;intro z
       have:k=j:=by omega
       rw[this,L] at b;cases b;exact e rfl
     ·obtain⟨hl,he⟩:=dS.mp v
      have:0<a.count false:=List.count_pos_iff.mpr (by rw[<-he];exact pZ hl)
      rw[afe hl,he,cI];simp;omega
   ·rintro _ ⟨a,i,o5,rfl,u,I,J,U⟩
    have M:=u.close λy b=>by
     obtain⟨k,t⟩:=zJ b;exact J k y (by rw[aP];exact(dS.mp t).1) t
    exact⟨r,by omega,a,i,_,_,rfl,M,I,by omega,U⟩
def Gx:cx:=λa P=>∃(w:W),a= [aO w]/\Au w/\1<=w.length/\w.length<=14/\(Good w->P .bu)/\(¬Good w->∀q,P (.tup [.str "apart", .int 0,aq q]))
theorem wG:FnOk P w Z.K mg base bZ 2 T.d_apart_fault.f T.d_apart_fault.fd ["rows"] (aT Z Gx):=by
 have l:=nP.nd;refine bc T.d_apart_fault.F nP [0,0,0] (by decide) (λt R h=>by obtain⟨_,rfl,_⟩:=h;rfl) (λN A outer s H E t R n h=>?_)
 have O:=n.units
 refine⟨_,(ah (b6 rfl FM (e8 rfl T.B.enumerate (ae (aH T.d_reached_from_first (m6 T) n (ae (aa 0) ag)) ag)) (fo 2 rfl (aV (aE 1 l) (aV (aE 2 l) cL))) (ao (bA (qg (jg (aa 2))) (ao (aK (dP (ae jS (ae aw (ae (aa 1) ag)))))) aM)))
   (ao (aK ik))),?_⟩
 obtain⟨o,rfl,g,u,v,z,C⟩:=h;refine⟨_,rfl,o,rfl,g,u,v,λbs m q mt=>bQ (λk G=>(∀x,x<k->bs[x]? =some true)/\∃c i,G= [some (aO o),c,i]) ⟨λx r=>absurd r (Nat.not_lt_zero x),_,_,rfl⟩ ?_ ?_⟩
 ·rintro j d _ I ⟨up,c,i,rfl⟩ A J
  obtain⟨y,L,rfl⟩:=i6 I;obtain⟨b,a,rfl⟩:=cC L;refine⟨rfl,rfl,?_⟩;cases b with
  |true=>
   refine⟨_,rfl,rfl,bS (J _ ⟨λx r=>?_,_,_,rfl⟩)⟩
   by_cases e:x=j
   ·rw[e];exact a
   ·exact up x (by omega)
  |false=>
   refine⟨_,rfl,rfl,dq ⟨_,rfl,by show 3<=sizeLine;decide,C (λM=>?_) j⟩⟩
   have:=q.all M
   rw[this,qL] at a
   split at a<;>cases a
 ·rintro _ ⟨up,c,i,rfl⟩
  refine z (g.good λp Q=>mt p (up p ?_))
  have:=q.len
  unfold we iw;simp;omega
theorem nK:FnOk P w Z.K mg base bZ 3 T.d_first_fault.f T.d_first_fault.fd ["rows"] (aT Z Gx):=by
 have b:=nQ.nd;refine bc T.d_first_fault.F nQ [0,0] (by decide) (λj R h=>by obtain⟨_,rfl,_⟩:=h;rfl) (λm A outer s H E j R a h=>?_)
 have n:=a.units
 refine⟨_,(ah (aJ false 1 b (aH T.d_alien_fault (wF T) a (ae (aa 0) ag)))
   (ah (bA (aQ Dm (aa 1) ik (bq _)) (ao (aJ false 1 b (aH T.d_self_fault (y4 T) a (ae (aa 0) ag)))) aM)
   (ah (bA (aQ Dm (aa 1) ik (bq _)) (ao (aJ false 1 b (aH T.d_twice_fault (wH T) a (ae (aa 0) ag)))) aM)
   (ah (bA (aQ Dm (aa 1) ik (bq _)) (ao (aJ false 1 b (aH T.d_lone_fault (yY T) a (ae (aa 0) ag)))) aM)
   (ah (bA (aQ Dm (aa 1) ik (bq _)) (ao (aJ false 1 b (aH T.d_apart_fault (wG T) a (ae (aa 0) ag)))) aM)
   (ao (aK (aa 1)))))))),?_⟩
 obtain⟨c,rfl,g,d,e,k,l⟩:=h;refine⟨_,rfl,c,rfl,g,d,e,trivial,?_⟩;refine⟨_,rfl,_,rfl,dq ⟨_,rfl,c,rfl,g,d,e,trivial,?_⟩⟩;refine⟨_,rfl,_,rfl,dq ⟨_,rfl,c,rfl,g,d,e,trivial,?_⟩⟩;refine⟨_,rfl,_,rfl,dq ⟨_,rfl,c,rfl,g,d,e,trivial,?_⟩⟩;refine⟨_,rfl,_,rfl,dq ⟨_,rfl,c,rfl,g,d,e,λi=>⟨trivial,_,rfl,k i⟩,λi q=>⟨trivial,_,rfl,l i q⟩⟩⟩
theorem uO{P:Program}{w:World}{base:Heap}{Z:DC}(T:Txt Z m):FnOk P w Z.K m base bZ 4 T.i_f T.i_fd ["self","turns"] (Gy Z):=by
 have NP:=nK (P:=P) (w:=w) (base:=base) T;have n:=mH.nd;refine T.i_F.ok mH (λL H Q E h=>?_) (λbb A outer s H L Q E r h=>?_)
 ·obtain⟨p,u,v,G,a,rfl,_⟩:=h;rfl
 obtain⟨p,u,v,G,a,rfl,x,M,N,dv,g,O,U,q⟩:=h;have hu:=r.units
 refine⟨_,fF (t:=mV Z _ [0,0,0,0] 0 _)
   (bA (qg (Ln Jg Jg aw (aI bE rfl T.B.len bD (ae (aa 1) ag)) (jW rfl T.c_MOST_POINTS))) (ao ur) aM)
  (fF (t:=mV Z _ [0,0,0,0] 0 _)
   (qe 2 (NC:= ["row"]) (src:= [none]) rfl n (lE (ar fA)) trivial (bC (aa 1)) (λ_ _ _=>(bx 0 (show(["row"]:List Str).Nodup from by decide+kernel))) (λ_ _ _=>cz) (λ_ _ _=>(eQ ot rfl T.B.list gr (ae (aa 0) ag))))
  (fF (t:=mV Z _ [0,0,0,0] 0 _)
   (aJ false 3 n (aH T.d_first_fault (nK T) r (ae (aa 2) ag)))
  (fF (t:=mV Z _ [0,0,0,0] 0 _)
   (bA (aQ L4 (aa 3) ik (bq _)) (ao ur) aM)
  (oZ (Sy (pv 0) (pv 2) rfl))))),?_⟩
 have F:(a.map au).length=a.length:=aP _;refine⟨⟨G,H,G⟩,[some (.obj p),some (aO a),none,none],{nx:=λρ=>ρ= [some (.obj p),some (aO a),none,none],rt:=λ_=>False},⟨G,λ_=> [],?_⟩,?_,⟨?_,λ_ z=>z.elim,λ_ z=>z.elim,λ_ z=>z.elim,λ_ _ z=>z.elim⟩⟩
 ·refine⟨.refl M, .refl _,rfl,λi d c=>?_,λ_=>gZ,(λ_ _ _ _ z=>by cases z),(λ_ _ z=>by cases z)⟩
  match i,c with
  |0,c=>cases c;exact⟨_,rfl, .obj p,rfl⟩
  |1,c=>cases c;exact⟨_,rfl,dv,rfl⟩
  |2,c=>cases c
  |3,c=>cases c
  |i+4,c=>cases c
 ·have X:D.bl (decide ((1:Int)<=((a.map au).length:Int)))= .bl true:=KB D.bl (KM (by rw[F];omega))
  have e2:D.bl (decide (((a.map au).length:Int)<=14))= .bl true:=KB D.bl (KM (by rw[F];omega))
  exact⟨_,rfl,true,X,dq ⟨true,e2,bS rfl⟩⟩
 rintro _ rfl J4 H1 S1;refine⟨⟨G,H,G⟩,_,{nx:=λρ=>ρ= [some (.obj p),some (aO a),some (aO a),none],rt:=λ_=>False},S1,?_,⟨?_,λ_ z=>z.elim,λ_ z=>z.elim,λ_ z=>z.elim,λ_ _ z=>z.elim⟩⟩
 ·exact⟨_,rfl,kX (ρ:= [none]) au au a _ (λy hy Y h=>⟨_,rfl,h⟩) rfl (small (by omega)) λaF=>⟨trivial,rfl⟩⟩
 rintro _ rfl fI H2 S2;refine⟨⟨G,H,G⟩,_,{nx:=λρ=>ρ= [some (.obj p),some (aO a),some (aO a),some .bu],rt:=λ_=>False},S2,?_,⟨?_,λ_ z=>z.elim,λ_ z=>z.elim,λ_ z=>z.elim,λ_ _ z=>z.elim⟩⟩
 ·exact⟨_,rfl,a,rfl,g.near,O,U,λ_=>⟨trivial,rfl⟩,λz=>absurd g z⟩
 rintro _ rfl wM H3 S3;refine⟨⟨G,H,G⟩,_,{nx:=λρ=>ρ= [some (.obj p),some (aO a),some (aO a),some .bu],rt:=λ_=>False},S3,?_,⟨?_,λ_ z=>z.elim,λ_ z=>z.elim,λ_ z=>z.elim,λ_ _ z=>z.elim⟩⟩
 ·exact⟨_,rfl,_,rfl,bS rfl⟩
 rintro _ rfl fV H4 ⟨I,fp,f⟩;obtain⟨v0,n0,o0⟩:=f.at_ 0 _ rfl;obtain⟨v2,Fu,o2⟩:=f.at_ 2 _ rfl;obtain⟨d0,_⟩:=o0;obtain⟨J,_⟩:=o2;cases d0;have k:=J;cases J with
 | @lst R xs ds hR e=>
  have l:=f.ex.hh _ _ x;refine⟨_,Fu,_,n0,p,Z.C,u,[],rfl,l,T.W.cl,T.W.nR,by decide,?_⟩
  have g4:I p=none:=f.ex.off p (by show H p≠none;rw[x];exact λz=>nomatch z) N
  refine q R I _ f.ex.gg (λb o j=>?_) (λb o j nb=>?_) f.ex.off av k
  ·rw[ax (aB j g4)];exact f.ex.sub _ _ j
  ·rw[ax nb];exact f.ex.hh _ _ j
def SY:cx:=λa P=>∃(w:W),a= [.dN w]/\P (.int (w.length:Int))
theorem dE:FnOk P w Z.K mg base bZ 1 T.m_many.f T.m_many.fd ["self"] (aT Z SY):=by
 have d:=tN.nd;refine bc T.m_many.F tN [0] (by decide) (λb R h=>by obtain⟨_,rfl,_⟩:=h;rfl) (λe A outer s H E b R c h=>?_)
 have g:=c.units;refine⟨_,(ao (aK (aI bE rfl T.B.len bD (ae (sC T.W (aa 0)) ag)))),?_⟩;obtain⟨a,rfl,q⟩:=h;refine⟨_,rfl,a,rfl,?_⟩;refine(?_:R (.int ((a.map au).length:Int)));rw[aP];exact q
def Qh:cx:=λa P=>∃(w:W),a= [.dN w]/\w.length<=14/\P (aO w)
theorem jh:FnOk P w Z.K mg base bZ 1 T.m_turns.f T.m_turns.fd ["self"] (aT Z Qh):=by
 have d:=qF.nd;refine bc T.m_turns.F qF [0] (by decide) (λb R h=>by obtain⟨_,rfl,_⟩:=h;rfl) (λe A outer s H E b R c h=>?_)
 have g:=c.units;refine⟨_,(ao (aK (oE (NC:= ["row"]) (src:= [none]) rfl (lE (ar jU)) trivial (bC (sC T.W (aa 0))) (λ_ _ _=>(bx 0 (show(["row"]:List Str).Nodup from by decide+kernel))) (λ_ _ _=>cz) (λ_ _ _=>(eQ ot rfl T.B.list gr (ae (aa 0) ag)))))),?_⟩
 obtain⟨a,rfl,i,q⟩:=h;exact⟨_,rfl,a,rfl,kX (ρ:= [none]) au au a _ (λy j Y h=>⟨_,rfl,h⟩) rfl (small (by omega)) λk=>q⟩
end Hc
namespace L2
open PySem PySem.Spec PyProof.Rows
section
variable {Z:DC} {X:Cx} {md:List Nat} {rn:Nat} {e:Expr} {pos p2:Pos} {te:aX} {t:hU} {lo hi:Option Expr} {tl th:G9}
def VZ(t:hU):cy:=λE a=>t a λb=>E.rt (.lst b)
theorem E1(g:DF Z X rn e t):DSt Z X md rn (.Return (some e) pos) (VZ t):=by
 refine(xg g).imp λD C H j=>?_;rfl';obtain⟨B,l,E,⟨G,m,S⟩,h,M⟩:=j;ac_rfl
 let F:Addr->Prop:=λb=>∃i,b∈m i
 have s:=S.ex.sub
 have n:Ext B.G₀ B.H₀ (plus G H F) H:=⟨S.ex.gg.trans (fE s),j5 s,S.ex.hh,λb a p=>by
  rw[jb (λ⟨i,q⟩=>a (S.nw i b q).1)];exact S.ex.off b a p⟩
 refine⟨plus G H F,l,_,j5 s,⟨S.len,λi d h=>?_⟩,h,λJ r v f w y x o z c=>M.rt _ r v f w y (n.trans x) o z λb a=>⟨S.ex.hh.free (c b a).1,(c b a).2⟩⟩;obtain⟨v,A,o⟩:=S.at_ i d h;exact⟨v,A,o.dv (fE s) λb a u e=>by rw[mG ⟨i,a⟩];exact e⟩
end
open PySem.MeetsSeq
section
variable {X:Cx}
def PN:V->List V->Hp->VK->Prop:=λx b H Q=>∃(l:Addr)(a:List Int)(k:Int)(j:Nat),x= .ref l/\b= [.int k]/\H l=some (.lst (a.map V.int))/\a[j]? =some k/\(∀m,m<j->a[m]? ≠some k)/\Q .bu (upd H l (.lst ((a.eraseIdx j).map V.int)))
def W6(k:Int):Value->Bool
 | .int a _=>a==k
 |_=>false
theorem Jc:QJ X "list.remove" PN:=by
 intro G s σ H x vs v us Q I N O h;rfl';obtain⟨l,b,k,j,rfl,rfl,J,L,T,q⟩:=h;subst N;obtain⟨u,rfl,U⟩:=O.one;obtain⟨Y,rfl⟩:=U;obtain⟨z,a,n,r,hl,e⟩:=I.vN J;have len:=r.length;rw[aP] at len;have C:j<b.length:=(dS.mp L).1;ac_rfl
 have B:∀(m:Nat)(d:m<b.length),∃t,a[m]? =some (.int b[m] t):=λm d=>by
  obtain⟨w,hw,Z⟩:=r.get (i:=m) (x:= .int b[m]) (by rw[eO,b9 d];rfl)
  obtain⟨t,rfl⟩:=Z;exact⟨t,hw⟩
 have he:∀y,y∈a.toArray->EqGives y (.int k Y) (W6 k y):=λy E=>by
  have E:y∈a:=by simpa using E
  obtain⟨m,d,rfl⟩:=GW.mp E;obtain⟨t,g⟩:=B m (by omega)
  have:a[m]= .int b[m] t:=by
   rw[b9 d] at g;exact Do g
  rw[this];exact EqGives.int _ _ _ _
 have A:∀(m:Nat)(d:m<a.toArray.size),W6 k a.toArray[m]=decide (b[m]? =some k):=λm d=>by
  have rk:m<a.length:=by simpa using d
  obtain⟨t,g⟩:=B m (by omega)
  have e1:a.toArray[m]= .int (b[m]'(by omega)) t:=by
   rw[b9 rk] at g;simpa using Do g
  rw[e1,b9 (by omega)]
  show((b[m]'(by omega))==k)=_
  by_cases c:b[m]'(by omega)=k
  ·simp[c]
  ·simp[c]
 have M:a.toArray.size=b.length:=by simp[len]
 refine aew F.slot_list_remove ⟨_,e,rfl⟩ F.entry_list_remove (F.args_list_remove_2 _ _) (list_remove l a.toArray n _ (W6 k) he j (by omega) (by rw[A _ (by omega),L];simp) (λm d Fs=>by rw[A m d];exact Gc (T m Fs)) (by rw[M];simpa using z)) ⟨e,?_⟩
 refine⟨.bu,_,I.OQ (its':=a.eraseIdx j) (f:=λxs=>xs.eraseIdxIfInBounds j) J e ?_ ?_ ?_,rfl,q⟩
 ·unfold Array.eraseIdxIfInBounds
  rw[dif_pos (by rw[M];exact C)]
  simp
 ·refine Vals.of_get (by rw[aP,Ee,Ee,len]) λm x u o p=>?_
  rw[eO,af0] at o;rw[af0] at p
  by_cases c:m<j
  ·rw[tz c] at o p
   have d:m<b.length:=by omega
   obtain⟨t,g⟩:=B m d;rw[g] at p;rw[b9 d] at o;cases o;cases p;exact⟨t,rfl⟩
  ·rw[AC c] at o p
   have d:m+1<b.length:=by
    by_cases c2:m+1<b.length
    ·exact c2
    ·rw[eM (by omega)] at o;cases o
   obtain⟨t,g⟩:=B (m+1) d;rw[g] at p;rw[b9 d] at o;cases o;cases p;exact⟨t,rfl⟩
 ·have h1:(b.eraseIdx j).length<=b.length:=by rw[Ee];split<;>omega
  rw[aP] at z ⊢;omega
end
section
variable {Z:DC} {X:Cx} {md:List Nat} {rn:Nat} {e k:Expr} {pos apos aN:Pos} {te tp:aX}
end
section
variable {X:Cx} {e k:Expr} {te tk:TE} {pos p2:Pos}
end
section
variable {Z:DC} {X:Cx} {md:List Nat} {rn:Nat} {e e2 k:Expr} {es:List Expr} {pos p2 apos aN:Pos} {te tk tp:aX} {t u:hU}
def VU(b:List Nat)(i:Nat)(c:cx)(t:gk):cy:=λE a=>t (cH b a) λas=>c as λd=>E.nx (a.set i (some d))
end
section
variable {Z:DC} {X:Cx} {md:List Nat} {rn:Nat} {elt t0 i0 t1 i1:Expr} {f0 f1:List Expr} {scope:Scope} {pos:Pos} {wi fh:hZ} {g g1:dZ} {tt dA:dG} {te:aX} {src:List (Option Nat)} {NC:List Str}
end
section
variable {Z:DC} {X:Cx}
theorem tI(a:List Int):∀n,n<=a.length->preSum (λi=>a.getD i 0) n=(a.take n).sum
 |0,_=>by simp[preSum]
 |n+1,h=>by
  have:=tI a n (by omega)
  rw[preSum,this,List.take_succ_eq_append_getElem (by omega),List.sum_append,b8,b9 (by omega)]
  simp
theorem Hr(n:X.calm=true):CallR X (.builtin "sum") (λg H Q=>∃(p:Addr)(c:List Int),g= [.ref p]/\H p=some (.lst (c.map V.int))/\Q (.int c.sum) H):=by
 intro j s M H g N Q I t h;rfl';obtain⟨p,c,rfl,z,q⟩:=h;obtain⟨u,rfl,B⟩:=t.one;subst B;obtain⟨a,r,d,R⟩:=I.list (b0.of z);have k:=r.length;rw[aP] at k;ac_rfl;refine call_sum_walkG (afu d.isList ?_)
 have l:p<s.heap.objs.size:=by
  obtain⟨o,C,_⟩:=d.isList;exact Fk C
 have E:p≠s.heap.objs.size:=cp l;refine⟨_,_,_,a.toArray.size,_,_,λi=>c.getD i 0,rfl,Walks.list (show X.A.in1.handled=none from I.ok.hd n) s.heap.objs.size p E a.toArray,⟨⟨_,FS _ rfl,rfl,rfl⟩,d.isList.push _⟩,?_,?_,λF T U G=>?_⟩
 ·intro b m
  show b<(s.heap.push _).objs.size;rw[size_push'];simp only[bT,aeP,or_false] at m
  rcases m with rfl|rfl
  ·exact aeM _
  ·exact aeA l
 ·intro i v J
  have f:a[i]? =some v:=by simpa using J
  have Y:i<a.length:=(dS.mp f).1;obtain⟨w,hw,L⟩:=r.get (i:=i) (x:= .int (c.getD i 0)) (by rw[eO,b8,b9 (by omega)];rfl)
  rw[hw] at f;cases Do f;exact L
 ·have kept:∀b o,s.heap.get? b=some o->F.get? b=some o:=λb o e=>G b o (by simp;exact cp (Fk e)) (Da _ e)
  have e:preSum (λi=>c.getD i 0) a.toArray.size=c.sum:=by
   rw[di,<-k,tI c _ (bK _),af1 (bK _)]
  rw[e];exact⟨.int _,H,I.kept kept,⟨_,rfl⟩,q⟩
def YT:cx:=λb P=>∃a:List Int,b= [.lst (a.map D.int)]/\P (.int a.sum)
theorem QQ(b:X.calm=true):CallR X (.builtin "sum") (ja Z YT):=by
 refine(Hr b).imp ?_;rintro f H Q ⟨G,g,P,s,dv,⟨c,rfl,d⟩,q⟩;cases dv with
 |cons a as=>
  cases as;cases a with
  |lst h e=>exact⟨_,c,rfl,oJ e▸s _ _ h,q _ d _ G H (.refl s) (.int _)⟩
theorem QP:bootBuiltins "sum"=some (.builtin "sum"):=by decide+kernel
end
theorem fM.ok{P:Program}{w:World}{H:Hp}{a:Addr}(x:fM b a d h):cc P w H h a (.ext (fM b a d)):=by
 refine⟨x,let ⟨o,_,_,_,c,_⟩:=x;⟨o,c⟩,λg i p k=>?_⟩;obtain⟨o,e,f,t,c,r⟩:=p;exact⟨o,e,f,t,k o c,r⟩
theorem iT.mem:∀{b:List (Int×Addr)}{c:List (Int×Int)},iT H b c->∀e∈b,∃p∈c,e.1=cO p/\H e.2=some (.tup [.int p.1, .int p.2])
 |_,_, .nil,e,a=>nomatch a
 |_,_, .cons (p:=p) h t,e,a=>by
  rcases bT.mp a with rfl|a
  ·exact⟨p,bO ..,rfl,h⟩
  ·obtain⟨q,d,f⟩:=t.mem e a
   exact⟨q,bU _ d,f⟩
theorem iT.UN:∀{c:List (Int×Addr)}{d:List (Int×Int)},iT H c d->∀p∈d,∃a,(cO p,a)∈c/\H a=some (.tup [.int p.1, .int p.2])
 |_,_, .nil,p,b=>nomatch b
 |_,_, .cons (a:=a) h t,p,b=>by
  rcases bT.mp b with rfl|b
  ·exact⟨a,bO ..,h⟩
  ·obtain⟨e,f,g⟩:=t.UN p b
   exact⟨e,bU _ f,g⟩
theorem iT.len:∀{a:List (Int×Addr)}{b:List (Int×Int)},iT H a b->a.length=b.length
 |_,_, .nil=>rfl
 |_,_, .cons _ t=>KB (·+1) t.len
theorem iT.snoc(h:H a=some (.tup [.int p.1, .int p.2])):∀{b:List (Int×Addr)}{c:List (Int×Int)},iT H b c->iT H (b++ [(cO p,a)]) (c++ [p])
 |_,_, .nil=> .cons h .nil
 |_,_, .cons h' t=> .cons h' (iT.snoc h t)
section
variable {X:Cx} {pins:List (Addr×Obj)} {σ:St} {H:Hp} {s:Shared}
theorem Inv.vO{a:Addr}{p:Int×Int}(I:Inv X pins σ H s)(h:H a=some (.tup [.int p.1, .int p.2])):IsTupleKey (intKind X.prog X.w) s.heap [p.1,p.2] a:=by
 rfl';obtain⟨c,r,⟨o,d,e,n,f⟩,_⟩:=I.tuple (fX.of h);obtain⟨i,j,rfl,⟨t,rfl⟩,⟨u,rfl⟩⟩:=Vals.two r;ac_rfl;exact⟨o,_,n,d,e,f, .cons (by simp[intKind,Value.isInt]) (.cons (by simp[intKind,Value.isInt]) .nil)⟩
theorem Inv.kE(I:Inv X pins σ H s)(h:H a=some (.ext (fM b a c))):fM b a c s.heap:=(I.hok a _ h).1
theorem m7(P:Program)(w:World)(p:Int×Int):tupleKeyHash (intKind P w) [p.1,p.2]=cO p:=rfl
theorem Inv.pes(I:Inv X pins σ H s)(g:iT H b f)(h:a.toList.Perm (b.map λe=>(e.1,Value.ref e.2))):MO X.prog X.w s.heap a:=λi e c=>by
 rfl';have k:e∈a.toList:=by rw[<-mM] at c;exact fB c
 obtain⟨d,l,rfl⟩:=bL.mp (h.mem_iff.mp k);obtain⟨p,_,m,n⟩:=g.mem d l;ac_rfl;exact⟨[p.1,p.2],d.2,by rw[m7,m],I.vO n⟩
theorem Inv.oO{h:List (Int×Addr)}{j:List (Int×Int)}{b:Array (Int×Value)}(I:Inv X pins σ H s)(k:iT H h j)(l:b.toList.Perm (h.map λe=>(e.1,Value.ref e.2)))(p:Int×Int):
  (∃(i:Nat)(c:Addr),b[i]? =some (tupleKeyHash (intKind X.prog X.w) [p.1,p.2], .ref c)/\IsTupleKey (intKind X.prog X.w) s.heap [p.1,p.2] c)↔p∈j:=by
 constructor
 ·rintro⟨i,c,d,f⟩
  have g:(tupleKeyHash (intKind X.prog X.w) [p.1,p.2],Value.ref c)∈b.toList:=by rw[<-mM] at d;exact fB d
  obtain⟨m,r,t⟩:=bL.mp (l.mem_iff.mp g);obtain⟨q,u,x,n⟩:=k.mem m r
  have:m.2=c:=by have:=(aef t).2;injection this
  rw[this] at n
  have:=(I.vO n).inj f
  simp at this
  have:q=p:=UF this.1 this.2
  rw[<-this];exact u
 ·intro v
  obtain⟨a,d,f⟩:=k.UN p v;have g:(cO p,Value.ref a)∈b.toList:=l.mem_iff.mpr (bL.mpr ⟨_,d,rfl⟩);obtain⟨i,o⟩:=List.mem_iff_getElem?.mp g;rw[mM] at o;exact⟨i,a,by rw[m7];exact o,I.vO f⟩
theorem L9(d:Gl X "set")(f:X.mg "set"=none):PE X (.Call (.Name "set" p) [] [] a) (λg H Q=>∀q,H q=none->Q (.ref q) (upd H q (.ext (fM (gM X.w) q [])))):=by
 intro c s g H Q I h;refine P3 (lb I d f (u:= .type "set") (by decide+kernel) ?_ (by decide) (by decide))
 refine PyProof.Rows.callWith_type rfl (PyProof.Rows.evalArgs_nil3 (B2 ?_));have i:=I.hok.fresh (bK _);exact⟨.ref s.heap.objs.size,_,I.laid (t':=s.toks) (λb o e=>Da _ e) (bK _) (o:= .ext (fM (gM X.w) s.heap.objs.size [])) (fM.ok ⟨_,_,_,_,FS _ rfl,nF.new X.w, .refl _⟩),rfl,h _ i⟩
theorem aaQ(i:X.A.units+64<cLine)(I:Inv X pins σ H s)(j:H c=some (.tup [.int p.1, .int p.2]))(k:H a=some (.ext (fM (gM X.w) a e)))(f:iT H e b)
  (h:∀d,Q (decide (p∈b)) {s with toks:=d}):wpAny (model X.prog X.w) X.A (contains (.ref a) (.ref c)) Q E s:=by
 rfl';obtain⟨o,m,r,t,n,S,g⟩:=I.kE k;ac_rfl;refine t5 i n S (I.pes f g) (I.vO j) λd=>?_
 have:PySem.oO X.prog X.w s.heap m [p.1,p.2]=decide (p∈b):=by
  classical
  unfold PySem.oO;exact aeS.mpr (I.oO f g p)
 rw[this];exact h d
theorem Jm(f:X.A.units+64<cLine):OpR X (compareOp .NotIn) (λx y H Q=>∃c a b d p,x= .ref c/\y= .ref a/\H c=some (.tup [.int p.1, .int p.2])/\H a=some (.ext (fM (gM X.w) a b))/\iT H b d/\Q (.bl (!decide (p∈d))) H):=by
 intro e s n H x y v u Q I g i h;rfl';obtain⟨c,a,b,d,p,rfl,rfl,k,l,m,q⟩:=h;ac_rfl;cases g;cases i;exact ir (aaQ f I k l m λr=>mo ⟨.bl _,H,I.tok _,rfl,q⟩)
theorem OT(hu:X.A.units+64<cLine):QK X "set.add" (λx m H Q=>∃l c d a p,x= .ref l/\m= [.ref c]/\H c=some (.tup [.int p.1, .int p.2])/\H l=some (.ext (fM (gM X.w) l d))/\iT H d a/\a.length<=300/\
  (p∈a->Q .bu H)/\(p∉a->Q .bu (upd H l (.ext (fM (gM X.w) l (d++ [(cO p,c)])))))):=by
 intro n s σ H x m v us Q I E G h;rfl';obtain⟨l,c,d,a,p,rfl,rfl,L,q,g,hz,M,N⟩:=h;subst E;obtain⟨u,rfl,O⟩:=G.one;subst O;obtain⟨o,R,ep,t,r,S,f⟩:=I.kE q;have T:s.TypeIs (.ref l) "set":=⟨o,r,S.ex.1⟩;ac_rfl;refine aeO F.slot_set_add T F.entry_set_add ?_ (F.args_set_add_2 _ _);unfold Builtin.«set.add» Builtin.Frozenset.oneOther;simp only[List.isEmpty_nil,bind_assoc];unfold Builtin.Frozenset.addrOf setAdd;refine ir (mo ?_)
 try dsimp only
 refine ir (mo ?_)
 try dsimp only
 refine ir ?_;refine M2 ?_;have y:=I.vO L;refine ir (wpAny_pyHash_tuple ?_ y ?_)
 ·show X.A.units+1<cLine;omega
 have sz:R.size=a.length:=by
  have:=f.length_eq
  rw[pU,aP,g.len] at this;exact this
 refine D8 (s:={s with toks:=s.toks+([p.1,p.2].length+1)}) (by show X.A.units+1<cLine;omega) r S (I.pes g f) y (by omega) (λU=>?_) λY h' B Z Ck t' sb C S' j=>?_
 ·show wpAny _ _ (ret Value.none) _ _ _
  exact mo ⟨_,rfl, .bu,H,I.tok _,rfl,M ((I.oO g f p).mp U)⟩
 ·show wpAny _ _ (ret Value.none) _ _ _
  have k:p∉a:=λz=>by
   obtain⟨i,c',h1,h2⟩:=(I.oO g f p).mpr z;exact Y i _ h1 c' rfl h2
  have I':=I.write (h':=h') (t':=s.toks+([p.1,p.2].length+1)) (x:=l) (e:=l) (o:= .ext (fM (gM X.w) l (d++ [(cO p,c)]))) (by rw[q];trivial) (.inl rfl) (λb u hb e=>sb.extBut b u hb e) ⟨B,C⟩ (fM.ok ⟨B,Z,Ck,t',C,S',by
   rw[cR];exact j.trans (f.append_right _)⟩)
  exact mo ⟨_,rfl, .bu,_,I',rfl,N k⟩
def adz(b:Bool)(r:V->List V->Hp->VK->Prop)(d:TE)(t:TA):TE:=λa H Q=>d a H λx c=>(∃p e,x= .ref p/\c p=some (.ext (fM b p e)))/\t a c λf g=>r x f g Q
variable {o e:Expr} {es:List Expr} {to:TE} {t:TA} {name:Str} {apos aN:Pos} {id:String} {r:V->List V->Hp->VK->Prop}
theorem Sk{b:Bool}(n:PlainAttrs "set")(slot:Slot "set" name id)(q:typeOf (.builtin id)=pure (.type "method_descriptor"))(u:QK X id r)(w:PE X o to)(y:PA X (e::d) t)
  (z:attributeBase o name X.env (eval o X.env)=eval o X.env:=by rfl)
  (A:((backTo f (starEach (e::d) X.env)).all (λx=>!x.1)&&(backToKw f (keywordEach [] X.env)).all (λx=>x.1.isSome)
   &&decide ((e::d).length+([]:List Keyword).length+(if ([]:List Keyword).isEmpty then 0 else 1)<30))=true:=by rfl)
  (B:(apos.endLine==f.line)=true:=by rfl) (C:starEach (e::d) X.env=(false,eval e X.env)::starEach d X.env:=by rfl) (E:(backTo f (starEach d X.env)).any (·.1)=false:=by rfl):
  PE X (.Call (.Attribute o name apos) (e::d) [] f) (adz b r to t):=by
 intro c s i H Q I h;refine afV z A B rfl (thn (w c s i H _ I h) λv F G=>?_);rfl';obtain⟨x,L,k,M,N,O⟩:=G;ac_rfl;rfl';obtain⟨p,mS,rfl,R⟩:=N;subst M;obtain⟨l,_,_,_,g,S,_⟩:=k.kE R;ac_rfl;refine⟨"set",id,n,slot,q,⟨l,g,S.ex.1⟩,λa T=>?_,?_⟩
 ·cases T;exact⟨l,g,S.ex.2.1⟩
 have m:=y f c F i L _ k O;rw[C] at m ⊢;refine aeE (by show(false|| (backTo f (starEach d X.env)).any (·.1))=false;rw[E]<;>rfl) (Calls.evalArgs_plain ?_)
 exact thn m λU Y ⟨Z,H2,I2,r2,q2⟩=>u c Y i H2 (.ref p) Z (.ref p) U Q I2 rfl r2 q2
end
def Fx(a:List (Int×Int))(p:Int×Int):List (Int×Int):=if p∈a then a else a++ [p]
section
variable {Z:DC} {X:Cx} {B:Bs} {md:List Nat} {rn:Nat} {ρ:DN} {σ:St} {H G:Hp} {fp:Nat->List Addr} {a e k o:Expr} {ta te tk tp:aX} {pos apos aN p2:Pos}
def Pw(p:Int×Int):D:= .tup [.int p.1, .int p.2]
theorem Dv.KC(h:Dv Z G v (Pw p)):∃c,v= .ref c/\G c=some (.tup [.int p.1, .int p.2]):=by
 rfl';obtain⟨c,l,rfl,b,f⟩:=Dv.oS h;obtain⟨m,n,rfl,g,i⟩:=f.Ds;rw[g.ofInt,i.ofInt] at b;ac_rfl;exact⟨c,rfl,b⟩
def ZA(w:World)(neg:Bool):gq:=λa b P=>∃p c,a=Pw p/\b= .x (.tJ (gM w) c)/\P (.bl (if neg=true then !decide (p∈c) else decide (p∈c)))
theorem Ji(d:X.A.units+64<cLine):OpR X (compareOp .NotIn) (bV Z (ZA X.w true)):=by
 refine(Jm d).imp ?_;rintro x y H Q ⟨G,a,b,P,s,f,g,⟨p,i,rfl,rfl,h⟩,q⟩;obtain⟨c,rfl,j⟩:=f.KC;cases g with
 |x l ok=>
  rfl';obtain⟨_,n,rfl,r⟩:=ok;ac_rfl;exact⟨c,_,n,i,p,rfl,rfl,s _ _ j,s _ _ l,r.mono s,q _ h _ G H (.refl s) (.bl _)⟩
def QZ(w:World)(i:Nat):cy:=λE b=>E.nx (b.set i (some (.x (.tJ (gM w) []))))
theorem Lm(i:Nat)(n:X.N.Nodup)(q:Gl X "set")(r:X.mg "set"=none)(s:t.getD i 0=98:=by rfl)(u:X.N[i]? =some x:=by rfl)(v:Loc X.env.scope x:=by first|exact Or.inl rfl|exact Or.inr rfl)(y:swapsWith (.Call (.Name "set" p) [] [] A) (some (.Name x d)) m.line X.env=pure false:=by rfl)
  (C:X.fn x=true\/X.env.scope.names.lookup x=some .local:=by first|exact .inl rfl|exact .inr rfl|assumption):DSt Z X t O (.Assign [.Name x d] (.Call (.Name "set" p) [] [] A) m) (QZ X.w i):=by
 refine(jj n u v (L9 q r) y C).imp ?_;intro D Q H F;rfl';obtain⟨B,T,E,⟨G,U,S⟩,h,M⟩:=F;ac_rfl;intro c g;have J:G c=none:=S.ex.sub.free g;have x:Ext G H G (upd H c (.ext (fM (gM X.w) c []))):=⟨.refl _,S.ex.sub.trans (aW g _),aW g _,λ_ _ z=>z⟩;refine M.nx _ h _ _ ⟨G,_,(S.grow x).Br s (f:= [c]) (.inr (.inr ⟨c,_,rfl,av,rfl, .inr ⟨rfl,_,rfl,gZ,[],rfl, .nil⟩⟩)) (by simp) (λb l=>?_) λb l j _ L=>?_⟩
 ·rw[dX] at l;subst l
  exact⟨S.ex.hh.free g,(by rw[av];exact λz=>nomatch z),J⟩
 ·rw[dX] at l;subst l
  exact(S.nw j _ L).2.1 g
def VF(w:World)(f:List Nat)(m:Bool)(i:Nat)(g:aX):cy:=λE b=>∃c,b[i]? =some (some (.x (.tJ (gM w) c)))/\g (wL f m b) λd=>∃p,d=Pw p/\c.length<=300/\E.nx (b.set i (some (.x (.tJ (gM w) (Fx c p)))))
theorem Nq(m:Bool)(i:Nat)(hu:X.A.units+64<cLine)(he:DE Z X e te)(s:md.getD i 0=98:=by rfl)(hi:X.N[i]? =some x:=by rfl)(hv:mh X.env.scope x:=by first|exact Or.inl rfl|exact Or.inr (Or.inl rfl) |exact Or.inr (Or.inr rfl))(t:(x==("__debug__":Str))=false:=by decide)(eS:(x==("__classdict__":Str))=false:=by decide)
  (ft:attributeBase (.Name x g) "add" X.env (eval (.Name x g) X.env)=eval (.Name x g) X.env:=by rfl)
  (kf:((backTo aN (starEach [e] X.env)).all (λx=>!x.1)&&(backToKw aN (keywordEach [] X.env)).all (λx=>x.1.isSome)&&decide (([e]:List Expr).length+([]:List Keyword).length+(if ([]:List Keyword).isEmpty then 0 else 1)<30))=true:=by rfl)
  (eE:(apos.endLine==aN.line)=true:=by rfl) (I:starEach [e] X.env=(false,eval e X.env)::starEach [] X.env:=by rfl) (fu:(backTo aN (starEach [] X.env)).any (·.1)=false:=by rfl)
  (kg:swapsWith (.Call (.Attribute (.Name x g) "add" apos) [e] [] aN) none pos.line X.env=pure false:=by rfl):
  DSt Z X md rn (.Expr (.Call (.Attribute (.Name x g) "add" apos) [e] [] aN) pos) (VF X.w md m i te):=by
 refine(iH (Sk (b:=gM X.w) PySem.F.plainAttrs_set PySem.F.slot_set_add PySem.F.type_set_add (OT hu) (pv i hi hv t eS) (bM he df I) ft kf eE I fu) kg).imp ?_;intro D σ H aC;rfl';obtain⟨B,J,E,⟨G,L,S⟩,⟨O,n,h⟩,M⟩:=aC;ac_rfl;rfl';obtain⟨v0,y,Q⟩:=S.at_ i _ n;rw[s] at Q;obtain⟨l,φ,rfl,hl,_,nd,es,rfl,pe⟩:=Q.xA;ac_rfl;refine⟨_,y,⟨l,_,rfl,hl⟩,S.ev m h λd t=>?_⟩;obtain⟨p,rfl,hz,q⟩:=t;refine⟨by cases m<;>trivial,λv R H' C x dv=>?_⟩
 rfl';obtain⟨c,rfl,T⟩:=dv.KC;obtain⟨v1,U,Y⟩:=C.at_ i _ n;rw[y] at U;ac_rfl;cases Do U;rfl';rw[s] at Y;obtain⟨l',φ',e',WM,k,mY,mS,rfl,o⟩:=Y.xA;cases e';ac_rfl;refine⟨l,c,mS,O,p,rfl,rfl,x.sub _ _ T,WM,o.mono x.sub,hz,λr=>?_,λr=>?_⟩
 ·rw[Fx,tz r] at q
  refine M.nx _ q _ _ ⟨R,L,?_⟩
  have e:J.set i (some (.x (.tJ (gM X.w) O)))=J:=by
   refine qN λj=>?_
   by_cases z:i=j
   ·subst z
    have eW:=(dS.mp n).1;rw[iR eW,n]
   ·rw[iS z]
  rw[e];exact C
 ·rw[Fx,AC r] at q
  refine M.nx _ q _ _ ⟨R,L,C.mut y (b:=l) (by rw[k];simp) ?_⟩
  rw[s,k];refine .inr (.inr ⟨l,_,rfl,av,rfl, .inr ⟨rfl,_,rfl,?_,_,rfl,o.snoc T⟩⟩);rw[gX];refine⟨mY,by simp,λa ha b hb z=>r ?_⟩
  rw[dX] at hb;rw[<-hb,<-z];exact ha
end
section
variable {Z:DC} {X:Cx} {md:List Nat} {rn:Nat} {a b:Expr} {pos:Pos} {ta:gk}
def ZJ(d:List Nat)(i j:Nat)(e:gk):cy:=λE c=>e (cH d c) λf=>∃a b,f= [a,b]/\E.nx ((c.set i (some a)).set j (some b))
theorem Ko(i j:Nat){kt k2 Js}(d:X.calm=true)(e:X.N.Nodup)(f:DA Z X [a,b] ta)(g:X.N[i]? =some x:=by rfl)(k:X.N[j]? =some y:=by rfl)(l:i≠j:=by decide)(m:md.getD i 0=0:=by rfl)(n:md.getD j 0=0:=by rfl)
  (o:X.env.scope.names.lookup x=some .local:=by rfl) (p:X.env.scope.names.lookup y=some .local:=by rfl)
  (hw:swappedStores [.Tuple [.Name x c, .Name y py] kt pt] (.Tuple [a,b] k2 Js) X.env=pure (some [x,y]):=by rfl)
  (q:swapsWithSole [.Tuple [.Name x c, .Name y py] kt pt] (.Tuple [a,b] k2 Js) pos.line X.env=pure false:=by rfl):
  DSt Z X md rn (.Assign [.Tuple [.Name x c, .Name y py] kt pt] (.Tuple [a,b] k2 Js) pos) (ZJ md i j ta):=by
 refine(Sz d e g k l o p f hw q).imp ?_;intro D I H r;rfl';obtain⟨B,t,E,⟨G,L,S⟩,h,M⟩:=r;ac_rfl;refine⟨G,cH md t,_,S.ex.sub,S.qB,h,?_⟩;rintro _ ⟨a,b,rfl,w⟩ O z Q x A;obtain⟨v,u,rfl,C,F⟩:=A.Ds;exact⟨v,u,rfl,M.nx _ w _ _ ⟨z,_,((S.grow x).kE m C).kE n F⟩⟩
end
theorem ib.ok{P:Program}{w:World}{H:Hp}{a:Addr}{vs:List FV}(x:ib a c vs h):cc P w H h a (.ext (ib a c vs)):=by
 refine⟨x,let ⟨_,o,_,_,b,_⟩:=x;⟨o,b⟩,λf g p k=>?_⟩;obtain⟨z,o,d,e,b,r⟩:=p;exact⟨z,o,d,e,k o b,r⟩
inductive n6 (H:Hp):List (Int×Addr)->List (Int×Int)->List FV->List (List Int×Addr×Value)->Prop
 |nil:n6 H [] [] [] []
 |cons {a:Addr} {p:Int×Int} {v:FV} {u:Value} {es:List (Int×Addr)} {ks:List (Int×Int)} {vs:List FV} {xs:List (List Int×Addr×Value)}:H a=some (.tup [.int p.1, .int p.2])->QG v u->n6 H es ks vs xs->n6 H ((cO p,a)::es) (p::ks) (v::vs) (([p.1,p.2],a,u)::xs)
theorem n6.keys:∀{c:List (Int×Addr)}{a:List (Int×Int)}{d:List FV}{b:List (List Int×Addr×Value)},n6 H c a d b->b.map (·.1)=a.map λp=> [p.1,p.2]
 |_,_,_,_, .nil=>rfl
 |_,_,_,_, .cons _ _ t=>by rw[dF,dF,t.keys]
theorem n6.len:∀{c:List (Int×Addr)}{a:List (Int×Int)}{d:List FV}{b:List (List Int×Addr×Value)},n6 H c a d b->b.length=a.length
 |_,_,_,_, .nil=>rfl
 |_,_,_,_, .cons _ _ t=>KB (·+1) t.len
theorem n6.snoc(b:H a=some (.tup [.int p.1, .int p.2]))(h:QG v u):∀{c:List (Int×Addr)}{d:List (Int×Int)}{e:List FV}{f:List (List Int×Addr×Value)},n6 H c d e f->n6 H (c++ [(cO p,a)]) (d++ [p]) (e++ [v]) (f++ [([p.1,p.2],a,u)])
 |_,_,_,_, .nil=> .cons b h .nil
 |_,_,_,_, .cons k' g t=> .cons k' g (n6.snoc b h t)
theorem vy(P:Program)(w:World)(p:Int×Int)(a:Addr)(u:Value):entryOfKey (tupleKind (intKind P w)) ([p.1,p.2],a,u)=⟨cO p, .ref a,u⟩:=by
 unfold entryOfKey;rw[show(tupleKind (intKind P w)).hash [p.1,p.2]=cO p from m7 P w p]
theorem Wc(d:K3 l b g):∀{c:List (Int×Int)},iT H b c->∃f,n6 H b c g f/\∀(P:Program)(w:World),l=f.map (entryOfKey (tupleKind (intKind P w))):=by
 induction d with
 |nil=>intro c i;cases i;exact⟨[], .nil,λ_ _=>rfl⟩
 | @cons e l h a v b g j k m d n=>
  intro c i;cases i with
  | @cons _ p _ r h t=>
   obtain⟨f,o,q⟩:=n t;refine⟨([p.1,p.2],a,e.val)::f, .cons h m o,λP w=>?_⟩;rw[dF,<-q P w,vy];obtain⟨s,u,ev⟩:=e;simp only at j k ⊢;rw[j,k]
theorem Wh{e:List (Int×Int)}(d:n6 H a e b c):K3 (c.map (entryOfKey (tupleKind (intKind P w)))) a b:=by
 induction d with
 |nil=>exact .nil
 |cons _ h t f=>
  rw[dF,vy];exact .cons rfl rfl h f
theorem n6.isKey(I:Inv X a e H s)(d:n6 H f g i c):∀x∈c,IsTupleKey (intKind X.prog X.w) s.heap x.1 x.2.1:=by
 induction d with
 |nil=>intro x b;cases b
 |cons h _ _ j=>
  intro x b
  rcases bT.mp b with rfl|b
  ·exact I.vO h
  ·exact j x b
theorem om{K:Type} [DecidableEq K] {b:List (K×Addr×Value)} {k:K}:(atKey b k).isSome=true↔k∈b.map (·.1):=by
 unfold atKey;rw[Option.isSome_map,List.find?_isSome,bL]
 constructor
 ·rintro⟨x,a,e⟩;exact⟨x,a,GM e⟩
 ·rintro⟨x,a,e⟩;exact⟨x,a,KM e⟩
theorem uT{p:Int×Int}{a:List (Int×Int)}: [p.1,p.2]∈a.map (λp=> [p.1,p.2])↔p∈a:=by
 rw[bL]
 constructor
 ·rintro⟨q,b,e⟩
  simp at e;rw[<-show q=p from UF e.1 e.2];exact b
 ·intro h;exact⟨p,h,rfl⟩
theorem F7{c:List (Int×Int)}(h:c.Nodup):(c.map λp=> [p.1,p.2]).Nodup:=by
 rw[GU,pX];rw[GU] at h;exact h.imp λ {a b} n e=>n (by simp at e;exact UF e.1 e.2)
section
variable {X:Cx} {pins:List (Addr×Obj)} {σ:St} {H:Hp} {s:Shared}
theorem Inv.dic(I:Inv X pins σ H s)(h:H a=some (.ext (ib a c f)))(g:iT H c d)(i:d.Nodup):
  (a==sysModules)=false/\∃b,n6 H c d f b/\s.heap.DictOfH (tupleKind (intKind X.prog X.w)) a b:=by
 rfl';obtain⟨z,o,k,l,m,n,p,q⟩:=(I.hok a _ h).1;obtain⟨b,e,r⟩:=Wc q g;ac_rfl;exact⟨z,b,e,o,k,l,m,n,p,r _ _,e.isKey I,by rw[e.keys];exact F7 i⟩
theorem Pf:PE X (.Dict [] [] b) (λd H Q=>∀q,H q=none->Q (.ref q) (upd H q (.ext (ib q [] [])))):=by
 intro c s d H Q I h;have e:=I.hok.fresh (bK s.heap.objs.size);refine wpAny_Dict_empty ⟨.ref s.heap.objs.size,_,I.laid (a:=s.heap.objs.size) (t':=s.toks) (λ_ _ q=>Da _ q) (bK _) (o:= .ext (ib s.heap.objs.size [] [])) (ib.ok ⟨?_,_, #[],0,FS _ rfl,⟨rfl,rfl,rfl⟩,rfl, .nil⟩),rfl,h _ e⟩;have f:mainGlobals<s.heap.objs.size:=(I.mod.glob.keeps I.bk).lt;have g:sysModules<s.heap.objs.size:=Nat.lt_trans (by decide) f
 exact W1.mpr (Ne.symm (cp g))
theorem F6(F:X.A.units+64<cLine):OpR X (compareOp .NotIn) (λx y H Q=>∃c a d b g p,x= .ref c/\y= .ref a/\H c=some (.tup [.int p.1, .int p.2])/\H a=some (.ext (ib a d g))/\iT H d b/\b.Nodup/\Q (.bl (!decide (p∈b))) H):=by
 intro i s G H x y v u Q I l m h;rfl';obtain⟨c,a,d,b,g,p,rfl,rfl,o,r,t,B,q⟩:=h;ac_rfl;cases l;cases m;rfl';obtain⟨z,C,j,E⟩:=I.dic r t B;ac_rfl
 have:(atKey C [p.1,p.2]).isSome=decide (p∈b):=by
  by_cases e:p∈b
  ·rw[KM e];exact om.mpr (by rw[j.keys];exact uT.mpr e)
  ·rw[Gc e]
   apply ua.mpr;exact λz=>e (uT.mp (by rw[<-j.keys];exact om.mp z))
 exact PyProof.Rows.wpAny_notIn_heap (knd:=tupleKind (intKind X.prog X.w)) (k:= [p.1,p.2]) (by show X.A.units+1<cLine;omega) (I.vO o) z E (by rw[this];exact⟨.bl _,H,I.tok _,rfl,q⟩)
def vF:FV->V
 | .int i=> .int i
 | .bl b=> .bl b
theorem Rj(h:RelV (vF f) u):QG f u:=by
 cases f with
 |int i=>exact h
 |bl b=>exact h
variable {o i value:Expr} {td ti tv:TE} {pos pos':Pos}
def X2(j k l:TE):TS:=λD b H=>l b H λv m=>j b m λx n=>k b n λy d=>∃a c f e g p h,x= .ref a/\y= .ref c/\v=vF h/\d a=some (.ext (ib a f g))/\d c=some (.tup [.int p.1, .int p.2])/\iT d f e/\e.Nodup/\p∉e/\e.length<=300/\D.nx b (upd d a (.ext (ib a (f++ [(cO p,c)]) (g++ [h]))))
theorem Pz(hu:X.A.units+64<cLine)(L:PE X o td)(M:PE X i ti)(N:PE X value tv)(O:swapsWith value (some (.Subscript o i pos')) pos.line X.env=pure false:=by rfl):PS X (.Assign [.Subscript o i pos'] value pos) (X2 td ti tv):=by
 intro d s f H D I h;refine wpAny_Assign_Subscript (thn (N d s f H _ I h) λr Q ⟨v,R,T,U,Y⟩=>thn (L d Q f R _ T Y) λu Z ⟨x,H2,I2,rx,q2⟩=>thn (M d Z f H2 _ I2 q2) λiv s3 ⟨y,H3,g,ry,a,c,n,ks,t,p,B,e1,e2,e3,C,E,pe,nd,np,hz,q3⟩=>?_) O;subst e1 e2 e3;cases rx;cases ry;obtain⟨z,j,l,hm⟩:=g.dic C pe nd;refine wpAny_setItem_heap (knd:=tupleKind (intKind X.prog X.w)) (k:= [p.1,p.2]) (by show X.A.units+1<cLine;omega) (g.vO E) hm (λh' F sb=>?_) (small (by rw[l.len];omega))
 have na:atKey j [p.1,p.2]=none:=by
  cases e:atKey j [p.1,p.2] with
  |none=>rfl
  |some q=>exact absurd (uT.mp (by rw[<-l.keys];exact om.mp (by rw[e];rfl))) np
 rw[storedH_new na] at F;rfl';have x2:n6 H3 (n++ [(cO p,c)]) (ks++ [p]) (t++ [B]) (j++ [([p.1,p.2],c,r)]):=l.snoc E (Rj U);obtain⟨G,m,Ck,J,Ik,gx,Cz,_,_⟩:=F;have I':=g.write (h':=h') (t':=s3.toks+(tupleKind (intKind X.prog X.w)).draws [p.1,p.2]) (x:=a) (e:=a) (o:= .ext (ib a (n++ [(cO p,c)]) (t++ [B]))) (by rw[C];trivial) (.inl rfl) (λb u hb e=>sb.extBut b u hb e) ⟨G,J⟩ (ib.ok ⟨z,G,m,Ck,J,Ik,gx,by rw[Cz];exact Wh x2⟩)
 ac_rfl;exact⟨f,_,I',q3⟩
end
section
variable {Z:DC} {X:Cx} {B:Bs} {md:List Nat} {rn:Nat} {ρ:DN} {σ:St} {H G:Hp} {fp:Nat->List Addr} {a e k o:Expr} {ta te tk tp:aX} {pos apos aN p2:Pos}
def Zz(neg:Bool):gq:=λa b P=>∃p c d,a=Pw p/\b= .x (.tE c d)/\P (.bl (if neg=true then !decide (p∈c) else decide (p∈c)))
theorem Jh(d:X.A.units+64<cLine):OpR X (compareOp .NotIn) (bV Z (Zz true)):=by
 refine(F6 d).imp ?_;rintro x y H Q ⟨G,a,b,P,s,f,g,⟨p,i,j,rfl,rfl,h⟩,q⟩;obtain⟨c,rfl,l⟩:=f.KC;cases g with
 |x m ok=>
  rfl';obtain⟨r,t,rfl,u⟩:=ok;ac_rfl;exact⟨c,_,t,i,j,p,rfl,rfl,s _ _ l,s _ _ m,u.mono s,r,q _ h _ G H (.refl s) (.bl _)⟩
def VJ(i:Nat):cy:=λE b=>E.nx (b.set i (some (.x (.tE [] []))))
theorem Nt(i:Nat)(n:X.N.Nodup)(p:q.getD i 0=98:=by rfl)(r:X.N[i]? =some x:=by rfl)(s:Loc X.env.scope x:=by first|exact Or.inl rfl|exact Or.inr rfl)(t:swapsWith (.Dict [] [] u) (some (.Name x d)) m.line X.env=pure false:=by rfl)
  (v:X.fn x=true\/X.env.scope.names.lookup x=some .local:=by first|exact .inl rfl|exact .inr rfl|assumption):DSt Z X q F (.Assign [.Name x d] (.Dict [] [] u) m) (VJ i):=by
 refine(jj n r s Pf t v).imp ?_;intro D I H w;rfl';obtain⟨B,L,E,⟨G,O,S⟩,h,M⟩:=w;ac_rfl;intro c g;have A:G c=none:=S.ex.sub.free g;have x:Ext G H G (upd H c (.ext (ib c [] []))):=⟨.refl _,S.ex.sub.trans (aW g _),aW g _,λ_ _ z=>z⟩;refine M.nx _ h _ _ ⟨G,_,(S.grow x).Br p (f:= [c]) (.inr (.inr ⟨c,_,rfl,av,rfl, .inr ⟨rfl,_,rfl,gZ,[],rfl, .nil⟩⟩)) (by simp) (λb l=>?_) λb l j _ C=>?_⟩
 ·rw[dX] at l;subst l
  exact⟨S.ex.hh.free g,(by rw[av];exact λz=>nomatch z),A⟩
 ·rw[dX] at l;subst l
  exact(S.nw j _ C).2.1 g
def fvD:FV->D
 | .int i=> .int i
 | .bl b=> .bl b
theorem Dv.ack(h:Dv Z G v (fvD f)):v=vF f:=by
 cases f with
 |int i=>exact h.ofInt
 |bl b=>exact h.A8
def V2(f:List Nat)(i:Nat)(j l:aX):cy:=λE b=>l (cH f b) λd=>∃g c h,d=fvD g/\b[i]? =some (some (.x (.tE c h)))/\j (cH f b) λm=>∃p,m=Pw p/\p∉c/\c.length<=300/\E.nx (b.set i (some (.x (.tE (c++ [p]) (h++ [g])))))
theorem Nx(i:Nat)(U:X.A.units+64<cLine)(Y:DE Z X k tk)(o:DE Z X e te)(m:md.getD i 0=98:=by rfl)(hi:X.N[i]? =some x:=by rfl)(hv:mh X.env.scope x:=by first|exact Or.inl rfl|exact Or.inr (Or.inl rfl) |exact Or.inr (Or.inr rfl))(n:(x==("__debug__":Str))=false:=by decide)(eS:(x==("__classdict__":Str))=false:=by decide)
  (hs:swapsWith e (some (.Subscript (.Name x r) k g)) pos.line X.env=pure false:=by rfl):DSt Z X md rn (.Assign [.Subscript (.Name x r) k g] e pos) (V2 md i tk te):=by
 refine(Pz U (pv i hi hv n eS) Y o hs).imp ?_;intro D σ H aC;rfl';obtain⟨B,ρ,E,⟨G,fp,S⟩,h,M⟩:=aC;ac_rfl;refine S.ev false h λd n=>⟨trivial,λv G1 H1 s x1 dv=>?_⟩;rfl';obtain⟨fv,ks,vs,rfl,t,h2⟩:=n;ac_rfl;obtain rfl:=dv.ack;rfl';obtain⟨v0,q,w⟩:=s.at_ i _ t;rw[m] at w;obtain⟨l,φ,rfl,hl,_,nd,es,rfl,pe⟩:=w.xA;ac_rfl;refine⟨_,q,s.ev false h2 λkd Oh=>⟨trivial,λu G2 H2 y C du=>?_⟩⟩;rfl';obtain⟨p,rfl,F,hz,hn⟩:=Oh;obtain⟨c,rfl,I⟩:=du.KC;obtain⟨v1,J,L⟩:=y.at_ i _ t;rw[q] at J;ac_rfl;cases Do J;rfl';rw[m] at L;obtain⟨l',φ',e',WM,O,Q,mS,rfl,R⟩:=L.xA;cases e';ac_rfl;refine⟨l,c,mS,ks,vs,p,fv,rfl,rfl,rfl,WM,C.sub _ _ I,R.mono C.sub,Q,F,hz,M.nx _ hn _ _ ⟨G2,fp,y.mut q (b:=l) (by rw[O];simp) ?_⟩⟩
 rw[m,O];refine .inr (.inr ⟨l,_,rfl,av,rfl, .inr ⟨rfl,_,rfl,?_,_,rfl,R.snoc I⟩⟩);rw[gX];refine⟨Q,by simp,λa ha b T z=>F ?_⟩
 rw[dX] at T;rw[<-T,<-z];exact ha
end
section
variable {pr:Program} {wd:World} {A:Around} {R:Result->Shared->Prop} {El:Addr} {eD u7:List Addr} {n:Nat} {Pv:Nat->Value->Prop} {Sv:Nat->Heap->Prop}
def GY(b:Program)(c:World)(A:Around)(T:Heap->Prop)(a:Nat->Value->Prop)(d:Nat->Nat->Bool):Prop:=
 ∀i j u v (s:Shared) (Q:Value->Shared->Prop) (E:Value->Shared->Prop),T s.heap->a i u->a j v->Q (.bool (d i j)) s->wpAny (model b c) A (richCompare .Lt u v) Q E s
theorem Jb(p:Walks pr wd A.in1 El eD u7 n Pv Sv)(k:Nat->Nat->Bool)(T:Heap->Prop)(r:GY pr wd A.in1 T Pv k)(L:Addr)(G:L∉eD)
  (H:∀h l:Heap,T h->(∀b o,b∉u7->b≠L->h.get? b=some o->l.get? b=some o)->T l):
  ∀(d j:Nat)(s:Shared)(a:Value)(c:Nat),n-(j+1)=d->j+1<=n->Sv (j+1) s.heap->T s.heap->Pv (argBest k j) a->
  s.heap.get? L=some {cls:= .type "list",dict:=none,data:= .seq #[a,a] c,slots:= #[]}->
  (∀v l t,Pv (argBest k (n-1)) v->(∀b o,b∉u7->b≠L->s.heap.get? b=some o->l.get? b=some o)->R (.ok (.ret v)) {s with heap:=l,toks:=t})->
  codeAny (model pr wd) A (.builtin "min.loop" ⟨[.ref El, .none, .ref L],[]⟩) R s:=by
 have I:L∉u7:=λh=>G (p.sub _ h);have J:(toString "min"++toString ".loop":String)="min.loop":=by decide
 intro d
 induction d with
 |zero=>
  intro j s a c Z hj u M q m fin;have N:j+1=n:=by omega
  refine aeh aeI ?_;rw[aec SB _];refine ir (aex m rfl ?_);refine ir (aey (p.done s _ _ (N▸u) λO Q i=>?_));refine ir ?_;refine afQ (i L _ I m) rfl (ir (af2 (mo ?_)));exact fin a _ Q (by rw[<-N];exact q) λb o f g e=>(GE _ _ (Ne.symm g)).trans (i b o f e)
 |succ d U=>
  intro j s a c Z hj u M q m fin;have lt:j+1<n:=by omega
  refine aeh aeI ?_;rw[aec SB _];refine ir (aex m rfl ?_);refine ir (aey (p.item (j+1) s _ _ lt u λv O Q pv X i=>?_));have w:=i L _ I m;have x:T O:=H _ _ M λb o f _ e=>i b o f e;show wpAny _ A.in1 ((tryCatch (holding [v,v] (richCompare .Lt v a>>=_)) _)>>=_) _ _ _;refine ir (aey (M2 (ir (r (j+1) (argBest k j) v a _ _ _ x pv q ?_))));refine ir (M2 (On ?_));refine ir (af2 (mo ?_));cases Y:k (j+1) (argBest k j) with
  |true=>
   simp only[aem];refine ir ?_;refine afQ w rfl (ir (af2 ?_));rw[J];refine mo ⟨aen SB _,U (j+1) _ v _ (by omega) lt (p.frame _ _ _ X λb hb o e=>?_) (H _ _ x λb o _ g e=>?_) ?_ (Os _ w rfl) λy B C E F=>?_⟩
   ·exact(GE _ _ (λz:L=b=>G (z▸hb))).trans e
   ·exact(GE _ _ (Ne.symm g)).trans e
   ·simp only[argBest,Y,aem];exact pv
   ·exact fin y B C E λb o f g e=>F b o f g ((GE _ _ (Ne.symm g)).trans (i b o f e))
  |false=>
   simp only[gW,PP];refine ir (af2 ?_);rw[J];refine mo ⟨aen SB _,U (j+1) _ a c (by omega) lt X x ?_ w λy B C E F=>?_⟩
   ·simp only[argBest,Y,gW,PP];exact q
   ·exact fin y B C E λb o f g e=>F b o f g (i b o f e)
theorem Ja(d:Walks pr wd A.in1 El eD u7 n Pv Sv)(i:Nat->Nat->Bool)(T:Heap->Prop)(j:GY pr wd A.in1 T Pv i)(L:Addr)(k:L∉eD)
  (l:∀h a:Heap,T h->(∀b o,b∉u7->b≠L->h.get? b=some o->a.get? b=some o)->T a) (p:0<n) (u:Sv 0 s.heap) (w:T s.heap)
  (q:s.heap.get? L=some {cls:= .type "list",dict:=none,data:= .seq #[] c,slots:= #[]})
  (fin:∀v a t,Pv (argBest i (n-1)) v->(∀b o,b∉u7->b≠L->s.heap.get? b=some o->a.get? b=some o)->R (.ok (.ret v)) {s with heap:=a,toks:=t}):
  codeAny (model pr wd) A (.builtin "min.loop" ⟨[.ref El, .none, .ref L],[]⟩) R s:=by
 have x:L∉u7:=λh=>k (d.sub _ h);have y:(toString "min"++toString ".loop":String)="min.loop":=by decide
 refine aeh aeI ?_;rw[aec SB _];refine ir (aex q rfl ?_);refine ir (aey (d.item 0 s _ _ p u λv B N pv C m=>?_));have r:=m L _ x q;have E:T B:=l _ _ w λb o f _ e=>m b o f e;show wpAny _ A.in1 (updateSeq L (λ_=> #[v,v])>>=_) _ _ _;refine ir ?_;refine afQ r rfl ?_;rw[y];refine mo ⟨aen SB _,Jb d i T j L k l _ 0 _ v _ rfl p (d.frame _ _ _ C λb F o e=>?_) (l _ _ E λb o _ g e=>?_) pv (Os _ r rfl) λG H I J M=>?_⟩
 ·exact(GE _ _ (λz:L=b=>k (z▸F))).trans e
 ·exact(GE _ _ (Ne.symm g)).trans e
 ·exact fin G H I J λb o f g e=>M b o f g ((GE _ _ (Ne.symm g)).trans (m b o f e))
end
section
variable {pr:Program} {wd:World} {A:Around} {E:Value->Shared->Prop} {s:Shared}
theorem LS(T:Heap->Prop)
  (h:wpAny (model pr wd) A.in1 (pyIter x) (λq a=>∃j d f n g k i,q= .ref j/\Walks pr wd A.in1 j d f n g k/\k 0 a.heap/\(∀b∈d,b<a.heap.objs.size)/\0<n/\GY pr wd A.in1 T g i/\T a.heap/\
   (∀h c:Heap,T h->(∀b o,b∉f->b≠a.heap.objs.size->h.get? b=some o->c.get? b=some o)->T c)/\
   ∀v c l,g (argBest i (n-1)) v->(∀b o,b∉f->a.heap.get? b=some o->c.get? b=some o)->Q v {a with heap:=c,toks:=l}) E s):
  wpAny (model pr wd) A (call (.builtin "min") [x]) Q E s:=by
 have u:(toString "min"++toString ".loop":String)="min.loop":=by decide
 refine call_function_tree PySem.F.kind_min PySem.F.plain_min PySem.F.entry_min (PySem.F.args_min1 _) ?_;show wpAny _ A.in1 (Builtin.Builtins.bindParams "min" ["key","default"] 0 ⟨[],[]⟩>>=_) _ _ s;refine ir (aeG (rfl:Builtin.Builtins.bindParams "min" ["key","default"] 0 ⟨[],[]⟩=pure [none,none]) ?_);refine ir (mo ?_);refine ir (wpAny_mono h (λq a w=>?_) λ_ _ e=>e);rfl';obtain⟨j,d,f,n,g,k,i,rfl,r,z,B,C,m,G,t,H⟩:=w;ac_rfl;refine ir (SC ?_);have I:a.heap.objs.size∉d:=λJ=>hJ _ (B _ J);rw[u];refine mo ⟨aen SB _,Ja r i T m a.heap.objs.size I t C (r.frame _ _ _ z λb _ o e=>Da _ e) (t _ _ G λb o _ _ e=>Da _ e) (FS _ rfl) λv c l L M=>?_⟩;exact H v c l L λb o p e=>M b o p (cp (Fk e)) (Da _ e)
end
theorem ve(a:Nat->Nat->Bool):∀k,argBest a k<=k
 |0=>bK _
 |k+1=>by
  unfold argBest
  split
  ·exact bK _
  ·exact afw (ve a k)
theorem r8{f:Nat->List Int}:∀k i,i<=k->HT.lexLt (f i) (f (argBest (λi j=>HT.lexLt (f i) (f j)) k))=false
 |0,i,h=>by
  obtain rfl:i=0:=by omega
  exact tq _
 |k+1,i,h=>by
  have a:=r8 (f:=f) k;unfold argBest
  by_cases c:HT.lexLt (f (k+1)) (f (argBest (λi j=>HT.lexLt (f i) (f j)) k))=true
  ·rw[tz c]
   by_cases z:i=k+1
   ·subst z;exact tq _
   ·have:=a i (by omega)
    cases e:HT.lexLt (f i) (f (k+1)) with
    |false=>rfl
    |true=>rw[wX _ _ _ e c] at this;cases this
  ·rw[AC c]
   by_cases z:i=k+1
   ·subst z;exact ua.mpr c
   ·exact a i (by omega)
section
variable {X:Cx} {Z:DC}
theorem Hn(T:X.calm=true)(hu:X.A.units+64<cLine):CallR X (.builtin "min") (λJ H Q=>∃(p:Addr)(L:List (Addr×List Int)),J= [.ref p]/\H p=some (.lst (L.map λe=>V.ref e.1))/\(∀e∈L,H e.1=some (.tup (e.2.map V.int)))/\L≠ []/\
  ∀e∈L,(∀f∈L,HT.lexLt f.2 e.2=false)->Q (.ref e.1) H):=by
 intro M s σ H J us Q I U h;rfl';obtain⟨p,L,rfl,Z,N,y,q⟩:=h;obtain⟨u,rfl,ru⟩:=U.one;subst ru;obtain⟨a,r,m,hz⟩:=I.list (b0.of Z);have hl:=r.length;rw[aP] at hl;have ad5:0<L.length:=GX.mpr y;ac_rfl
 have z:∀i:Nat,(d:i<L.length)->a[i]? =some (.ref L[i].1):=λi d=>by
  obtain⟨w,hw,rM⟩:=r.get (i:=i) (x:= .ref L[i].1) (by rw[eO,b9 d];rfl)
  subst rM;exact hw
 refine LS (λh=>∀b o,s.heap.get? b=some o->h.get? b=some o) (afu m.isList ?_)
 have sU:p≠s.heap.objs.size:=by
  obtain⟨o,B,_⟩:=m.isList;exact cp (Fk B)
 let f:Nat->List Int:=λi=>(L.getD i (0,[])).2
 refine⟨_,_,_,a.toArray.size,_,_,λi j=>HT.lexLt (f i) (f j),rfl,Walks.list (show X.A.in1.handled=none from I.ok.hd T) s.heap.objs.size p sU a.toArray,⟨⟨_,FS _ rfl,rfl,rfl⟩,m.isList.push _⟩,?_,?_,?_,λb o e=>Da _ e,?_,?_⟩
 ·intro b C
  have:b=s.heap.objs.size\/b=p:=by simpa using C
  obtain⟨o,B,_⟩:=m.isList;have lt:=Fk B;have e:(s.heap.push {cls:= .type "list_iterator",data:= .fields #[.ref p, .int 0 0]}).objs.size=s.heap.objs.size+1:=by simp[Heap.push]
  rcases this with rfl|rfl
  ·exact Nat.lt_of_lt_of_eq (aeM _) e.symm
  ·exact Nat.lt_of_lt_of_eq (aeA lt) e.symm
 ·rw[di];omega
 ·intro i j u v s' Q' E' n Ov uA hq
  have E:a[i]? =some u:=by simpa using Ov
  have g:a[j]? =some v:=by simpa using uA
  have d:i<L.length:=by have:=(dS.mp E).1;omega
  have F:j<L.length:=by have:=(dS.mp g).1;omega
  rw[z i d] at E;rw[z j F] at g;obtain rfl:=Do E;obtain rfl:=Do g;rfl';obtain⟨t1,r1,p1,_⟩:=I.tuple (fX.of (N L[i] (pZ d)));obtain⟨t2,r2,p2,_⟩:=I.tuple (fX.of (N L[j] (pZ F)));obtain⟨o1,g1,c1⟩:=p1;obtain⟨o2,g2,c2⟩:=p2;have i1:IntsAre t1.toArray.toList L[i].2:=intsAre_of r1;have i2:IntsAre t2.toArray.toList L[j].2:=intsAre_of r2;ac_rfl
  have l:∀k,(c:k<L.length)->f k=L[k].2:=λk c=>by
   show(L.getD k (0,[])).2=_;rw[b8,b9 c];rfl
  have uy:Q' (.bool (HT.lexLt L[i].2 L[j].2)) s':=by rw[<-l i d,<-l j F];exact hq
  exact HT.FN (A:=X.A.in1) ⟨o1,n _ _ g1,c1⟩ ⟨o2,n _ _ g2,c2⟩ i1 i2 (by simp only[afI];omega) uy
 ·intro h O n c b o e
  have lt:=Fk e;refine c b o ?_ ?_ (n b o e)
  ·intro hm
   have:b=s.heap.objs.size:=by simpa using hm
   exact cp lt this
  ·simp only[Heap.push,Array.size_push]
   exact cp (aeA lt)
 ·intro v O tk R kk
  have kept:∀b o,s.heap.get? b=some o->O.get? b=some o:=λb o e=>kk b o (by simp;exact cp (Fk e)) (Da _ e)
  have c:=ve (λi j=>HT.lexLt (f i) (f j)) (a.toArray.size-1);generalize C:argBest (λi j=>HT.lexLt (f i) (f j)) (a.toArray.size-1)=k at R c;rw[di] at c;have G:k<L.length:=by omega
  have g:a[k]? =some v:=by simpa using R
  rw[z k G] at g;obtain rfl:=Do g;refine⟨.ref L[k].1,H,I.kept kept,rfl,q L[k] (pZ G) λe he=>?_⟩;obtain⟨i,d,rfl⟩:=GW.mp he
  have:=r8 (f:=f) (a.toArray.size-1) i (by rw[di];omega)
  rw[C] at this
  have l:∀k,(c:k<L.length)->f k=L[k].2:=λk c=>by
   show(L.getD k (0,[])).2=_;rw[b8,b9 c];rfl
  rw[l i d,l k G] at this;exact this
def tupI(l:List Int):D:= .tup (l.map D.int)
def Vb:cx:=λb P=>∃a:List (List Int),b= [.lst (a.map tupI)]/\a≠ []/\∀m∈a,(∀n∈a,HT.lexLt n m=false)->P (tupI m)
theorem AF:∀{b:List V}{d:List (List Int)},DvAll Z G b (d.map tupI)->∃L:List (Addr×List Int),b=L.map (λe=>V.ref e.1)/\L.map (·.2)=d/\∀e∈L,G e.1=some (.tup (e.2.map V.int))
 |b,[],h=>by rw[h.OZ];exact⟨[],rfl,rfl,λp c=>by cases c⟩
 |b,n::d,h=>by
  rfl';obtain⟨v,l,rfl,a,as⟩:=h.Dr;obtain⟨L,rfl,i,j⟩:=AF as;obtain⟨p,m,rfl,c,e⟩:=a.oS;rw[oJ e] at c;ac_rfl;refine⟨(p,n)::L,rfl,by rw[<-i];rfl,λq f=>?_⟩
  rcases bT.mp f with rfl|f
  ·exact c
  ·exact j q f
theorem M1(f:X.calm=true)(g:X.A.units+64<cLine):CallR X (.builtin "min") (ja Z Vb):=by
 refine(Hn f g).imp ?_;intro t H Q i;rfl';obtain⟨G,u,P,s,dv,⟨w,rfl,k,l⟩,q⟩:=i;ac_rfl;rfl';obtain⟨v,rfl,a⟩:=dv.ofOne;obtain⟨p,B,rfl,h,e⟩:=a.jF;obtain⟨L,rfl,rfl,d⟩:=AF e;ac_rfl;refine⟨p,L,rfl,s _ _ h,λx b=>s _ _ (d x b),λz=>k (by rw[z];rfl),λx b m=>?_⟩
 exact q _ (l x.2 (List.mem_map_of_mem b) λn o=>by
  obtain⟨y,r,rfl⟩:=bL.mp o;exact m y r) _ G H (.refl s) (.tup (d x b) (.ints _))
end
end L2
namespace Wy
def S{a:Type}(f:a->Int):List a->Int
 | []=>0
 |x::l=>f x+S f l
section
variable {α β:Type}
end
def Dj(m:Int)(l:List Int):List Int:=List.zipWith (λa b=>a-m*b) (0::l) (l++ [0])
def bN:Nat->List Int
 |0=> [1]
 |m+1=>Dj m (bN m)
theorem Je(m:Int)(l:List Int):(Dj m l).length=l.length+1:=by unfold Dj;simp
theorem i8:∀m,(bN m).length=m+1
 |0=>rfl
 |m+1=>by rw[bN,Je,i8 m]
def eB:List Int->List Int->List Int
 | [],_=> []
 |t,[]=>t
 |a::t,b::l=>(a+b)::eB t l
theorem qT:∀t l:List Int,(eB t l).length=t.length
 | [],_=>by simp[eB]
 |_::_,[]=>rfl
 |a::t,b::l=>by simp[eB,qT t l]
def jd:List Int->List Int->Nat->List Int
 |t,[],_=>t
 |t,c::a,m=>jd (eB t ((bN m).map (c*·))) a (m+1)
theorem rR:∀(a t:List Int)(m:Nat),(jd t a m).length=t.length
 | [],t,m=>rfl
 |c::a,t,m=>by rw[jd,rR a,qT]
abbrev Parts:=List (List Nat)
def sL(row part:List Nat):Bool:=part.all λq=>!decide (q∈row)
def dM(a:Parts)(p:Nat)(row:List Nat):List Parts:=
 (a++ [[p]])::((List.range a.length).filter λi=>sL row (a.getD i [])).map λi=>a.set i (a.getD i []++ [p])
def qE(w:Nat->List Nat):Nat->Nat->List Parts->List Parts
 |0,_,L=>L
 |m+1,p,L=>qE w m (p+1) (L.flatMap λa=>dM a p (w p))
theorem Lu(l:List a)(x d:a)(i:Nat):(l++ [x]).getD i d=if i<l.length then l.getD i d else if i=l.length then x else d:=by
 simp only[b8]
 by_cases h:i<l.length
 ·rw[tz h,iM h]
 ·rw[AC h]
  by_cases e:i=l.length
  ·rw[tz e,e,iQ (bK _)];simp
  ·rw[AC e,eM (by simp;omega)];rfl
theorem AN(l:List a)(x d:a)(i j:Nat):(l.set i x).getD j d=if i=j/\i<l.length then x else l.getD j d:=by
 simp only[b8,pW]
 by_cases e:i=j
 ·subst e
  by_cases h:i<l.length
  ·rw[tz rfl,tz h,tz ⟨rfl,h⟩];rfl
  ·rw[tz rfl,AC h,AC (λz=>h z.2),eM (by omega)]
 ·rw[AC e,AC (λz=>e z.1)]
theorem getD_mem{l:List Nat}{i:Nat}(h:i<l.length):l.getD i 0∈l:=by
 rw[b8,b9 h];exact pZ h
theorem MD(h:F∈dM a p row):a.length<=F.length/\F.length<=a.length+1:=by
 unfold dM at h
 rcases bT.mp h with h|h
 ·rw[h];simp
 ·obtain⟨i,_,rfl⟩:=bL.mp h
  simp
def bump(a:List Int)(i:Nat):List Int:=a.set i (a.getD i 0+1)
def counts(a:List Int)(L:List Parts):List Int:=L.foldl (λa F=>bump a F.length) a
theorem gR:∀(L:List Parts)(a:List Int),(counts a L).length=a.length
 | [],a=>rfl
 |F::L,a=>by
  show(counts (bump a F.length) L).length=_;rw[gR L];unfold bump;simp
theorem vv(m:Nat):∀(L:List Parts)(a:List Int),m<a.length->(counts a L).getD m 0=a.getD m 0+S (λF=>if F.length=m then 1 else 0) L
 | [],a,_=>by simp[counts,S]
 |F::L,a,h=>by
  show(counts (bump a F.length) L).getD m 0=_;rw[vv m L _ (by unfold bump;simpa using h),S]
  unfold bump;rw[AN]
  by_cases e:F.length=m
  ·rw[tz ⟨e,by omega⟩,tz e,e];omega
  ·rw[AC (λz=>e z.1),AC e];omega
theorem Bo(w:Nat->List Nat):∀(m p:Nat)(L:List Parts),qE w (m+1) p L=(qE w m p L).flatMap λx=>dM x (p+m) (w (p+m))
 |0,p,L=>by simp[qE]
 |m+1,p,L=>by
  rw[qE,Bo w m (p+1),qE];rw[show p+1+m=p+(m+1) by omega]
def jE(w:Nat->List Nat)(p:Nat):List Parts:=qE w p 0 [[]]
theorem mv(w:Nat->List Nat)(p:Nat):jE w (p+1)=(jE w p).flatMap λx=>dM x p (w p):=by
 unfold jE;rw[Bo,qO]
theorem wQ(w:Nat->List Nat):∀p,∀F∈jE w p,F.length<=p
 |0,F,h=>by
  have:F= []:=by simpa [jE,qE] using h
  rw[this];simp
 |p+1,F,h=>by
  rw[mv] at h;obtain⟨x,a,b⟩:=aeQ.mp h
  have:=wQ w p x a
  have:=(MD b).2
  omega
def vX(w:Nat->List Nat)(n:Nat):List Int:=jd (List.replicate (n+1) 0) (counts (List.replicate (n+1) 0) (jE w n)) 0
theorem MB(w:Nat->List Nat)(n:Nat):(vX w n).length=n+1:=by unfold vX;rw[rR,qM]
theorem PR(n j:Nat):(List.replicate n (0:Int)).getD j 0=0:=by
 rw[b8,qL]
 split<;>rfl
def fact:Nat->Nat
 |0=>1
 |n+1=>(n+1)*fact n
theorem JX{parts:Parts}{p:Nat}{row:List Nat}:(dM parts p row).length<=parts.length+1:=by
 unfold dM;rw[eX,aP]
 have:=aeX (λi=>sL row (parts.getD i [])) (List.range parts.length)
 rw[pY] at this;omega
theorem yh(g:a->List b)(c:Nat):∀l:List a,(∀x∈l,(g x).length<=c)->(l.flatMap g).length<=c*l.length
 | [],_=>by simp
 |x::l,h=>by
  rw[t9,cI,eX,Nat.mul_succ];have e:=h x (bO ..);have f:=yh g c l λy d=>h y (bU _ d);omega
theorem uw(w:Nat->List Nat):∀p,(jE w p).length<=fact p
 |0=>by simp[jE,qE,fact]
 |p+1=>by
  rw[mv,fact];refine fK (yh _ (p+1) _ λx a=>?_) (Nat.mul_le_mul_left _ (uw w p));have b:=wQ w p x a
  have:=JX (parts:=x) (p:=p) (row:=w p)
  omega
theorem JW(h:F∈dM a p row)(b:∀i,(a.getD i []).length<=n):∀i,(F.getD i []).length<=n+1:=λj=>by
 unfold dM at h
 rcases bT.mp h with h|h
 ·rw[h,Lu]
  split
  ·exact afw (b j)
  ·split
   ·simp
   ·simp
 ·obtain⟨i,_,rfl⟩:=bL.mp h
  rw[AN]
  split
  ·have:=b i
   simp;exact b i
  ·exact afw (b j)
theorem AJ(w:Nat->List Nat):∀p,∀F∈jE w p,∀i,(F.getD i []).length<=p
 |0,F,h,i=>by
  have:F= []:=by simpa [jE,qE] using h
  rw[this];simp
 |p+1,F,h,i=>by
  rw[mv] at h;obtain⟨x,a,b⟩:=aeQ.mp h;exact JW b (AJ w p x a) i
theorem zx(c:Int):∀(a t:List Int)(m:Nat),jd t (a++ [c]) m=eB (jd t a m) ((bN (m+a.length)).map (c*·))
 | [],t,m=>by simp[jd]
 |d::a,t,m=>by
  rw[zF,jd,zx c a,jd,eX,show m+1+a.length=m+(a.length+1) by omega]
theorem xB(t:List Int):eB t []=t:=by cases t<;>rfl
theorem vd(b:Int):∀(t l:List Int),l.length<t.length->eB t (l++ [b])=(eB t l).set l.length ((eB t l).getD l.length 0+b)
 | [],l,h=>by simp at h
 |a::t,[],h=>by simp[eB,xB]
 |a::t,c::l,h=>by
  have:=vd b t l (by simpa using h)
  simp only[zF,eB,this,eX];simp
theorem Ku(m:Nat):∀L:List Parts,0<=S (λF=>if F.length=m then 1 else 0) L/\S (λF=>if F.length=m then 1 else 0) L<=L.length
 | []=>by simp[S]
 |F::L=>by
  obtain⟨a,b⟩:=Ku m L;rw[S,eX]
  split<;>constructor<;>omega
theorem xZ(w:Nat->List Nat)(n m:Nat)(h:m<n+1):0<=(counts (List.replicate (n+1) 0) (jE w n)).getD m 0/\(counts (List.replicate (n+1) 0) (jE w n)).getD m 0<=fact n:=by
 rw[vv m _ _ (by simpa using h),PR]
 obtain⟨a,b⟩:=Ku m (jE w n)
 have:=uw w n
 constructor<;>omega
theorem zip_map(m:Int):∀u v:List Int,(u.zip v).map (λy=>y.1-m*y.2)=List.zipWith (λa b=>a-m*b) u v
 | [],_=>by simp
 |_::_,[]=>by simp
 |a::u,b::v=>by simp[zip_map m u v]
theorem B8(a:List Int)(L:List Parts)(F:Parts):counts a (L++ [F])=bump (counts a L) F.length:=by unfold counts;rw[List.foldl_append];rfl
theorem sH{n:Nat}(h:n<=8):fact n<=40320:=by
 match n,h with
 |0,_=>decide
 |1,_=>decide
 |2,_=>decide
 |3,_=>decide
 |4,_=>decide
 |5,_=>decide
 |6,_=>decide
 |7,_=>decide
 |8,_=>decide
end Wy
namespace L2
open PySem PySem.Spec PyProof.Rows
section
variable {Z:DC} {X:Cx} {B:Bs} {md:List Nat} {rn:Nat} {ρ:DN} {σ:St} {H G:Hp} {fp:Nat->List Addr} {k:Expr} {tk:aX} {pos:Pos}
def VN(c:List Nat)(i j:Nat)(e:aX):cy:=λE a=>∃b,a[j]? =some (some (.lst b))/\e (wL c false a) λf=>∃(n:Int)(d:D),f= .int n/\gL b n=some d/\E.nx (a.set i (some d))
theorem Nv(i j:Nat)(t:X.N.Nodup)(w:DE Z X k z)(A:b.getD i 0=0:=by rfl)(o:b.getD j 0=1:=by rfl)(C:X.N[i]? =some x:=by rfl)(F:Loc X.env.scope x:=by first|exact Or.inl rfl|exact Or.inr rfl)
  (I:X.N[j]? =some y:=by rfl) (J:mh X.env.scope y:=by first|exact Or.inl rfl|exact Or.inr (Or.inl rfl) |exact Or.inr (Or.inr rfl)) (L:(y==("__debug__":Str))=false:=by decide) (O:(y==("__classdict__":Str))=false:=by decide)
  (Q:rZ k:=by exact λ_ _=>rfl) (R:swapsWith (.Subscript (.Name y py) k m) (some (.Name x g)) c.line X.env=pure false:=by rfl)
  (T:X.fn x=true\/X.env.scope.names.lookup x=some .local:=by first|exact .inl rfl|exact .inr rfl|assumption):DSt Z X b rn (.Assign [.Name x g] (.Subscript (.Name y py) k m) c) (VN b i j z):=by
 refine(jj t C F (Jo yD (pv j I J L O) w Q) R T).imp ?_;intro D σ H U;rfl';obtain⟨B,ρ,E,⟨G,fp,S⟩,⟨ds,p,h⟩,M⟩:=U;ac_rfl;rfl';obtain⟨l,xs,gw,Y,q,e3,bB,put⟩:=S.one o p;cases Y;ac_rfl;refine⟨_,q,S.ev false h λkd Oh=>⟨trivial,λv G' H' r x dv=>?_⟩⟩;rfl';obtain⟨n,d,rfl,ha,hn⟩:=Oh;cases dv.ofInt;obtain⟨l',jJ,ds2,Wd,s,Cj,f,_⟩:=r.one o p;cases Wd;ac_rfl;rw[q] at s;rfl';cases s;obtain⟨u,hu,uu⟩:=BS f ha;ac_rfl;exact⟨l,jJ,n,u,rfl,rfl,b0.of Cj,hu,M.nx _ hn _ _ ⟨G',_,r.kE A uu⟩⟩
end
section
variable {Z:DC} {X:Cx} {B:Bs} {md:List Nat} {rn:Nat} {ρ:DN} {σ:St} {H G:Hp} {fp:Nat->List Addr} {k c e k1 k2 et:Expr} {tk te tt tk1 JQ:aX} {tc:dG} {pos:Pos}
def Ke(o:List Nat)(p f h:Nat)(w:aX)(tc:dG)(x y tk1 z:aX):cy:=λE a=>∃i,a[p]? =some (some (.lst i))/\(f<a.length/\h<a.length)/\w (wL o false a) λA=>∃(n:Int)(j:Nat)(g:List D),A= .int n/\i9 i.length n=some j/\i[j]? =some (.lst g)/\
 ∀l:Addr,tc (a.set f (some (.lst g))) λb=>if b=true then x (a.set f (some (.lst g))) λd=>∃m,d= .int m/\y ((a.set f (some (.lst g))).set h (some (.int m))) λd=>∃q s,d= .tup [.int q, .int s]/\
  tk1 (wL o false ((a.set f (some (.obj l))).set h (some (.int m)))) λC=>∃t r,C= .int t/\i9 g.length t=some r/\z (wL o false (((a.set f (some (.obj l))).set h (some (.int m))).set p (some (.lst (i.set j (.lst (g.set r (.int q)))))))) λF=>∃u v,F= .int u/\i9 g.length u=some v/\
   E.nx (((a.set f (some (.obj l))).set h (some (.int m))).set p (some (.lst (i.set j (.lst ((g.set r (.int q)).set v (.int s)))))))
 else E.nx (a.set f (some (.obj l)))
theorem dJ.as{a:St}{b:DN}{i:Nat}{v:V}{o:Option D}{d:D}(e:dJ Z G a (b.set i o))(h:a[i]? =some (some v))(dv:Dv Z G v d):dJ Z G a (b.set i (some d)):=by
 have:=e.set (i:=i) dv
 rw[afG] at this
 have f:a.set i (some v)=a:=by
  apply qN;intro j
  by_cases z:i=j
  ·subst z
   rw[iR (by
    apply FB;intro q;rw[eM (gj q)] at h;cases h),h]
  ·rw[iS z]
 rw[f] at this;exact this
theorem SIx.X4{i p:Nat}{b:List D}{dp:D}{T l:Addr}{d:List V}(S:SIx Z B md ρ σ H G fp)(n:md.getD i 0=2)(h:ρ[i]? =some (some (.lst b)))(q:b[p]? =some dp)(r:σ[i]? =some (some (.ref T)))(s:H T=some (.lst d))(t:d[p]? =some (.ref l)):T≠l:=by
 rfl';obtain⟨v,f,o⟩:=S.at_ i _ h;rw[n] at o;obtain⟨I,w,J,L,rfl,x,g,y,A⟩:=o.lst;cases x;rw[r] at f;ac_rfl;cases Do f;rw[s] at g;rfl';cases g;have j:=S.nd i;rw[y] at j;obtain⟨C,E⟩:=gF.mp j;obtain⟨M,N,O,Q,m,R,U,F,Y⟩:=cX.U9 p A E q;rw[t] at m;cases m;ac_rfl;exact λz=>C (by rw[z];exact F)
theorem HD(A f g:Nat)(hN:X.N.Nodup)(Wz:X.calm=true)(hk:DE Z X k tk)(hc:DT Z X c tc)(he:DE Z X e te)(ht:DE Z X et tt)(hk1:DE Z X k1 tk1)(hk2:DE Z X k2 JQ)(hu:DSs Z X md rn F u)
  (Q:A≠f:=by decide) (R:A≠g:=by decide) (T:f≠g:=by decide) (Rw:md.getD A 0=2:=by rfl) (hmy:md.getD f 0=0:=by rfl) (hma:md.getD g 0=0:=by rfl)
  (Ic:X.N[A]? =some x:=by rfl) (WJ:X.N[f]? =some y:=by rfl) (hia:X.N[g]? =some a:=by rfl) (hly:Loc X.env.scope y:=by first|exact Or.inl rfl|exact Or.inr rfl) (hla:Loc X.env.scope a:=by first|exact Or.inl rfl|exact Or.inr rfl)
  (hvx:mh X.env.scope x:=by first|exact Or.inl rfl|exact Or.inr (Or.inl rfl) |exact Or.inr (Or.inr rfl)) (U:mh X.env.scope y:=by first|exact Or.inl rfl|exact Or.inr (Or.inl rfl) |exact Or.inr (Or.inr rfl))
  (qt:(x==("__debug__":Str))=false:=by decide) (hcx:(x==("__classdict__":Str))=false:=by decide) (Y:(y==("__debug__":Str))=false:=by decide) (hcy:(y==("__classdict__":Str))=false:=by decide)
  (hp:rZ k:=by exact λ_ _=>rfl) (hs:swapsWith (.Subscript (.Name x px) k ps) (some (.Name y py)) pos.line X.env=pure false:=by rfl) (lH:swapsWith e (some (.Name a pa)) L.line X.env=pure false:=by rfl)
  (hf:X.fn y=true\/X.env.scope.names.lookup y=some .local:=by first|exact .inl rfl|exact .inr rfl|assumption) (hf2:X.fn a=true\/X.env.scope.names.lookup a=some .local:=by first|exact .inl rfl|exact .inr rfl|assumption)
  (ha1:∀v,assign (.Subscript (.Name y t) k1 w) X.env v=(do
   let C <-holding [v] (eval (.Name y t) X.env)
   let I <-holding [v,C] (eval k1 X.env)
   standAt w
   holding [v,C,I] (setItem C I v)
   release [v,C,I] []):=by intro _;rfl)
  (ha2:∀v,assign (.Subscript (.Name y p) k2 r) X.env v=(do
   let C <-holding [v] (eval (.Name y p) X.env)
   let I <-holding [v,C] (eval k2 X.env)
   standAt r
   holding [v,C,I] (setItem C I v)
   release [v,C,I] []):=by intro _;rfl)
  (q1:swapsWithSole [.Tuple [.Subscript (.Name y t) k1 w, .Subscript (.Name y p) k2 r] O pt] et pq.line X.env=pure false:=by rfl) (q2:swappedStores [.Tuple [.Subscript (.Name y t) k1 w, .Subscript (.Name y p) k2 r] O pt] et X.env=pure none:=by rfl)
  (q3:(assignEach [.Tuple [.Subscript (.Name y t) k1 w, .Subscript (.Name y p) k2 r] O pt] X.env).map (·.2)= [assign (.Tuple [.Subscript (.Name y t) k1 w, .Subscript (.Name y p) k2 r] O pt) X.env]:=by rfl)
  (q4:(assignEach [.Subscript (.Name y t) k1 w, .Subscript (.Name y p) k2 r] X.env).map (·.2)=assign (.Subscript (.Name y t) k1 w) X.env::(assignEach [.Subscript (.Name y p) k2 r] X.env).map (·.2):=by rfl)
  (q5:(assignEach [.Subscript (.Name y p) k2 r] X.env).map (·.2)=assign (.Subscript (.Name y p) k2 r) X.env::(assignEach [] X.env).map (·.2):=by rfl)
  (q6:(assignEach [.Subscript (.Name y t) k1 w, .Subscript (.Name y p) k2 r] X.env).length=2:=by rfl) (q7:(assignEach [.Subscript (.Name y t) k1 w, .Subscript (.Name y p) k2 r] X.env).findIdx? (·.1)=none:=by rfl):
  DSs Z X md rn (.Assign [.Name y py] (.Subscript (.Name x px) k ps) pos:: .If c [.Assign [.Name a pa] e L, .Assign [.Tuple [.Subscript (.Name y t) k1 w, .Subscript (.Name y p) k2 r] O pt] et pq] [] pi::F) (AB (Ke md A f g tk tc te tt tk1 JQ) u):=by
 refine(fF (jj hN WJ hly (Jo yD (pv A Ic hvx qt hcx) hk hp) hs hf) (fF (Py hc (fF (jj hN hia hla he lH hf2) (oZ (xf ht (DJ Wz (qk (w9 (pv f WJ U Y hcy) hk1 set_list ha1) (qk (w9 (pv f WJ U Y hcy) hk2 set_list ha2) y8 q5) q4) q6 q7) q1 q2 q3))) Gg) hu)).imp ?_;intro Dn σ H aC;rfl';obtain⟨B,ρ,E,⟨G,fp,S⟩,⟨jD,hx,⟨ly,la⟩,h⟩,M⟩:=aC;ac_rfl;obtain⟨v0,n0,o⟩:=S.at_ A _ hx;refine⟨_,n0,S.ev false h λkd Oh=>⟨trivial,λv G1 H1 S1 x1 dv=>?_⟩⟩;rfl';obtain⟨n,j,ds,rfl,hj,Og,h⟩:=Oh;cases dv.ofInt;obtain⟨Tl,ys,l,xs,gw,e1,e2,e3,e4,e5,e6,bB,_⟩:=S1.two Rw hx Og;cases e1;rw[e2] at n0;cases n0;ac_rfl;refine⟨Tl,ys,n, .ref l,rfl,rfl,b0.of e3,BU e4 hj e5,?_⟩;have h:=h l;have S2:=S1.kE (i:=f) (v:= .ref l) (d:= .obj l) hmy (.obj l);have ly':f<σ.length:=by rw[<-S1.len];exact ly
 have la':g<σ.length:=by rw[<-S1.len];exact la
 have gy:(σ.set f (some (V.ref l)))[f]? =some (some (.ref l)):=iR ly';have dvl:Dv Z H1 (.ref l) (.lst ds):= .lst e6 (bB.mono S1.ex.sub);refine⟨H1,_,_, .refl _,S2.vz.as gy dvl,h,λb z G3 H3 x3=>?_⟩;have S3:=S2.grow (Ext.all S2.ex.sub x3);cases b with
 |false=>exact bS ⟨B,_,E,⟨_,_,S3⟩,(by simpa using z),M⟩
 |true=>
  refine dq ?_;rw[tz rfl] at z;have Uz:Dv Z H3 (.ref l) (.lst ds):=dvl.mono x3.hh;refine⟨H3,_,_, .refl _,S3.vz.as gy Uz,z,?_⟩;rintro _ ⟨m,rfl,z⟩ v G4 H4 x4 dv4;cases dv4.ofInt;have S4:=(S3.grow (Ext.all S3.ex.sub x4)).kE (i:=g) (v:= .int m) (d:= .int m) hma (.int m);have Wn:((σ.set f (some (V.ref l))).set g (some (.int m)))[f]? =some (some (.ref l)):=by rw[iS (Ne.symm T)];exact gy
  have cm:∀o:Option D,(ρ.set f o).set g (some (.int m))=(ρ.set g (some (.int m))).set f o:=λo=>List.set_comm _ _ T;have E5:=S4.vz;rw[cm] at E5;have E5:=E5.as Wn (Uz.mono x4.hh);rw[<-cm] at E5;refine⟨H4,_,_, .refl _,E5,z,?_⟩;rintro _ ⟨i1,i2,rfl,z⟩ v G5 H5 x5 dv5;rfl';obtain⟨a5,xs5,rfl,h5,d5⟩:=dv5.oS;obtain⟨w1,w2,rfl,d51,d52⟩:=d5.Ds;cases d51.ofInt;cases d52.ofInt;have S5:=S4.grow (Ext.all S4.ex.sub x5);ac_rfl;refine⟨a5,_,rfl,fX.of (x5.sub _ _ h5),rfl,?_⟩;refine⟨_,_,rfl,_,Wn,S5.ev false z λd1 WB=>⟨trivial,λv G6 H6 S6 x6 V9=>?_⟩⟩;rfl';obtain⟨n1,j1,rfl,hj1,z⟩:=WB;cases V9.ofInt;have RB:((ρ.set f (some (.obj l))).set g (some (.int m)))[A]? =some (some (.lst jD)):=by rw[iS (Ne.symm R),iS (Ne.symm Q)];exact hx
  have sx:((σ.set f (some (V.ref l))).set g (some (.int m)))[A]? =some (some (.ref Tl)):=by rw[iS (Ne.symm R),iS (Ne.symm Q)];exact e2
  have We:H6 Tl=some (.lst ys):=x6.hh _ _ (x5.hh _ _ (x4.hh _ _ (x3.hh _ _ e3)));have ne:Tl≠l:=S6.X4 Rw RB Og sx We e5;obtain⟨T6,ys6,l6,xs6,ds6,f1,f2,f3,f4,f5,f6,UB,put⟩:=S6.two Rw RB Og;cases f1;rw[sx] at f2;cases f2;rw[We] at f3;cases f3;rw[e5] at f5;cases f5;ac_rfl;refine⟨l,xs6,n1,j1,rfl,rfl,f6,by rw[UB.length];exact hj1,?_⟩
  have S7:=put _ _ (UB.set (.int i1) j1);refine⟨_,_,rfl,_,Wn,S7.ev false z λd2 hd2=>⟨trivial,λv G8 H8 S8 x8 Wa=>?_⟩⟩;rfl';rfl';obtain⟨n2,j2,rfl,hj2,z⟩:=hd2;ac_rfl;cases Wa.ofInt;ac_rfl
  have lx:A<((ρ.set f (some (.obj l))).set g (some (.int m))).length:=by
   apply FB;intro q;rw[eM (gj q)] at RB;cases RB
  have lj:j<jD.length:=by
   apply FB;intro q;rw[eM (gj q)] at Og;cases Og
  rfl';obtain⟨T8,ys8,l8,xs8,ds8,g1,g2,g3,g4,g5,g6,UC,acN⟩:=S8.two Rw (iR lx) (iR lj);cases g1;rw[sx] at g2;cases g2;rw[x8.hh _ _ (show upd H6 l _ Tl=some (.lst ys) by rw[ax ne];exact We)] at g3
  cases g3;rw[e5] at g5;cases g5;ac_rfl;refine⟨l,xs8,n2,j2,rfl,rfl,g6,by rw[UC.length,jB];exact hj2,rfl,?_⟩
  have S9:=acN _ _ (UC.set (.int i2) j2);rw[afG,afG] at S9;exact⟨B,_,E,⟨_,_,S9⟩,z,M⟩
variable {elt tg iter:Expr} {ifs:List Expr} {scope:Scope} {NC:List Str} {src:List (Option Nat)} {X3:dG} {wi:hZ} {g:dZ}
end
section
variable {Z:DC} {X:Cx} {B:Bs} {md:List Nat} {rn:Nat} {ρ:DN} {σ:St} {H G:Hp} {fp:Nat->List Addr} {e k:Expr} {pos p2 apos aN:Pos} {tp te:aX} {t:hU}
def aao(t:hU):hU:=λb P=>t b λa=>P [.lst a]
theorem Q3(l:DF Z X 1 e t)(m:starEach [e] X.env=(false,eval e X.env)::starEach [] X.env:=by rfl):DF Z X 2 (.List [e] pos) (aao t):=by
 refine(w6 (bM l df m)).imp ?_;intro A H Q n;rfl';obtain⟨G,r,P,s,u,h,q⟩:=n;ac_rfl;refine⟨G,r,_,s,u,h,λE v w j x F f y g c=>⟨by show 1<=sizeLine;decide,λp d=>?_⟩⟩
 have i:∀b∈j,b≠p:=λb a z=>(c b a).2.1 (by rw[z];exact d)
 refine q _ v (.ref p) (p::(j++ [])) x _ (f.side d) (.inl ⟨p,[w],_,_,rfl,rfl,av,rfl, .cons (y.keep (.refl _) λb a=>ax (i b a)) .nil⟩) ?_ ?_
 ·rw[fJ,gF]
  exact⟨λz=>i p z rfl,g⟩
 ·intro b a
  rw[fJ] at a
  rcases bT.mp a with rfl|a
  ·exact⟨f.hh.free d,(by rw[av];exact λz=>nomatch z),f.sub.free d⟩
  ·exact⟨(c b a).1,(by rw[ax (i b a)];exact(c b a).2.1),(c b a).2.2⟩
theorem Nk(n:Nat):DF Z X (n+1) (.List [] pos) (UG qz):=by
 refine(w6 df).imp ?_;rintro f H Q ⟨G,g,P,s,h,⟨_,c⟩,q⟩;refine⟨by show 0<=sizeLine;decide,λp a=>?_⟩
 refine q _ c (.ref p) [p] G _ ((Ext.refl s).side a) (.inl ⟨p,[],[],[],rfl,rfl,av,rfl, .nil⟩) (by simp) λb d=>?_
 have:b=p:=by simpa using d
 subst this;exact⟨a,(by rw[av];exact λz=>nomatch z),s.free a⟩
theorem SIx.abm{b:Addr}{f':List Addr}(S:SIx Z B md ρ σ H G fp)(p:σ[i]? =some (some v))(n:b∈fp i)(o:Own Z G (upd H b c) (md.getD i 0) v m f')(nd:f'.Nodup)(nw:∀x∈f',B.H₀ x=none/\H x≠none/\G x=none)(ap:∀x∈f',∀j,j≠i->x∉fp j):
  SIx Z B md (ρ.set i (some m)) σ (upd H b c) G (λj=>if j=i then f' else fp j) where
 ex:=by
  obtain⟨r,C,s⟩:=S.nw i b n;exact⟨S.ex.gg,λx u e=>by rw[ax (aB e s)];exact S.ex.sub _ _ e,λx u e=>by rw[ax (aB e r)];exact S.ex.hh _ _ e,S.ex.off⟩
 fl:=S.fl
 len:=by rw[jB];exact S.len
 at_:=λj w h=>by
  by_cases z:i=j
  ·subst z
   by_cases g:i<ρ.length
   ·rw[iR g] at h
    cases Do h;exact⟨v,p,by rw[tz rfl];exact o⟩
   ·rw[zI (gj g),eM (gj g)] at h;cases h
  ·rw[iS z] at h
   obtain⟨u,y,A⟩:=S.at_ j w h;exact⟨u,y,by rw[AC (Ne.symm z)];exact A.keep (.refl _) λx a=>ax λq=>S.ap i j b z n (by rw[<-q];exact a)⟩
 nd:=λj=>by split;exact nd;exact S.nd j
 ap:=λj k b ne f d=>by
  split at f
  ·next z=>
   rw[AC (λw=>ne (z.trans w.symm))] at d;exact ap b f k (λw=>ne (z.trans w.symm)) d
  ·next z=>
   split at d
   ·exact ap b d j z f
   ·exact S.ap j k b ne f d
 nw:=λj x a=>by
  have l:B.H₀ x=none/\H x≠none/\G x=none:=by
   split at a
   ·exact nw x a
   ·exact S.nw j x a
  refine⟨l.1,?_,l.2.2⟩
  by_cases z:x=b
  ·rw[z,av];exact λq=>nomatch q
  ·rw[ax z];exact l.2.1
def QT(c:List Nat)(i:Nat)(t:hU):cy:=λE a=>∃b,a[i]? =some (some (.lst b))/\t (cH c a) λl=>b.length<sizeLine/\E.nx (a.set i (some (.lst (b++ [.lst l]))))
theorem Lj(i:Nat)(he:DF Z X 1 e t)(L:md.getD i 0=2:=by rfl)(hi:X.N[i]? =some x:=by rfl)(hv:mh X.env.scope x:=by first|exact Or.inl rfl|exact Or.inr (Or.inl rfl) |exact Or.inr (Or.inr rfl))(hd:(x==("__debug__":Str))=false:=by decide)(eS:(x==("__classdict__":Str))=false:=by decide)
  (ft:attributeBase (.Name x n) "append" X.env (eval (.Name x n) X.env)=eval (.Name x n) X.env:=by rfl)
  (kf:((backTo aN (starEach [e] X.env)).all (λx=>!x.1)&&(backToKw aN (keywordEach [] X.env)).all (λx=>x.1.isSome)&&decide (([e]:List Expr).length+([]:List Keyword).length+(if ([]:List Keyword).isEmpty then 0 else 1)<30))=true:=by rfl)
  (eE:(apos.endLine==aN.line)=true:=by rfl) (O:starEach [e] X.env=(false,eval e X.env)::starEach [] X.env:=by rfl) (fu:(backTo aN (starEach [] X.env)).any (·.1)=false:=by rfl)
  (kg:swapsWith (.Call (.Attribute (.Name x n) "append" apos) [e] [] aN) none pos.line X.env=pure false:=by rfl):
  DSt Z X md rn (.Expr (.Call (.Attribute (.Name x n) "append" apos) [e] [] aN) pos) (QT md i t):=by
 refine(iH (y6 SZ aet aeu kq (pv i hi hv hd eS) (bM he df O) ft kf eE O fu) kg).imp ?_;intro Dn σ H aC;rfl';obtain⟨B,ρ,E,⟨G,fp,S⟩,⟨jD,h1,h⟩,M⟩:=aC;ac_rfl;rfl';obtain⟨v0,Q,o⟩:=S.at_ i _ h1;rw[L] at o;obtain⟨T,A,Q6,w,rfl,e0,C,m,R⟩:=o.lst;cases e0;ac_rfl;refine⟨_,Q,ty_list C,G,_,_,S.ex.sub,S.qB,h,?_⟩;rintro l ⟨hz,hn⟩ v f G' F x ow nd p;have I:=S.grow x;have Rm:=x.hh _ _ C
 have W7:∀b∈w,F b=H b:=λb c=>by
  cases z:H b with
  |none=>exact absurd z (S.nw i b (by rw[m];exact bU _ c)).2.1
  |some o=>exact x.hh _ _ z
 have U:=S.nd i;rw[m] at U;obtain⟨Y,J⟩:=gF.mp U
 have k:T∉f:=λz=>by
  have:=(p T z).1
  rw[C] at this;cases this
 have ff:∀b∈w,b∉f:=λb c z=>(S.nw i b (by rw[m];exact bU _ c)).2.1 (p b z).1
 have s:∀b,b≠T->upd F T (.lst (A++ [v])) b=F b:=λb c=>ax c;refine⟨T,A,v,rfl,rfl,Rm,by rw[R.length];exact hz,M.nx _ hn _ _ ⟨G',_,I.abm (b:=T) (f':=T::(w++f)) Q (by rw[m];exact bO ..) ?_ ?_ ?_ ?_⟩⟩
 ·rw[L]
  refine .inl ⟨T,A++ [v],_,w++f,rfl,rfl,av,rfl,cX.snoc (R.imp λv d g c r=>r.keep x.gg λb q=>?_) (ow.keep (.refl _) λb c=>s b λz=>k (by rw[<-z];exact c))⟩
  rw[s b λz=>Y (by rw[<-z];exact c b q)]
  exact W7 b (c b q)
 ·rw[gF,gX]
  exact⟨λz=>(cV.mp z).elim Y k,J,nd,λa ha b c z=>ff a ha (by rw[z];exact c)⟩
 ·intro b c
  rcases bT.mp c with rfl|c
  ·exact I.nw i b (by rw[m];exact bO ..)
  ·rcases cV.mp c with c|c
   ·exact I.nw i b (by rw[m];exact bU _ c)
   ·exact⟨S.ex.hh.free (p b c).1,(p b c).2⟩
 ·intro b c j hj z
  have u:b∈fp i\/b∈f:=by
   rw[m]
   rcases bT.mp c with rfl|c
   ·exact .inl (bO ..)
   ·exact(cV.mp c).imp (bU _) id
  rcases u with u|u
  ·exact S.ap j i b hj z u
  ·exact(S.nw j b z).2.1 (p b u).1
theorem Be{H:Hp}:∀{d:List V}{L:List (List Nat)}{b:List Addr},cX (Own Z G H 1) d (L.map au) b->∃A:List (Addr×List Nat),d=A.map (λe=>V.ref e.1)/\A.map (·.2)=L/\U3 H A/\b=A.map (·.1)
 |_,[],_, .nil=>⟨[],rfl,rfl,(λp g=>by cases g),rfl⟩
 |_,r::L,_, .cons a as=>by
  rfl';obtain⟨A,i,j,l,m⟩:=Be as;obtain⟨p,n,o,b,rfl,e,f,s,u⟩:=a.one;obtain⟨dv,rfl⟩:=u.flat;have e:(r.map aq)=o:=by cases e;rfl
  subst e;ac_rfl
  have v:n=(n4 r).map V.int:=by
   have e:r.map aq=(n4 r).map D.int:=by unfold n4;rw[cG];rfl
   rw[e] at dv;exact oJ dv
  rw[v] at f;refine⟨(p,r)::A,by rw[i];rfl,by rw[<-j];rfl,λq c=>?_,by rw[s,m];rfl⟩
  rcases bT.mp c with rfl|c
  ·exact f
  ·exact l q c
theorem Bn{H:Hp}:∀{A:List (Addr×List Nat)},U3 H A->cX (Own Z G H 1) (A.map λe=>V.ref e.1) ((A.map (·.2)).map au) (A.map (·.1))
 | [],_=> .nil
 |x::A,h=>by
  have e:(x.2.map aq)=(n4 x.2).map D.int:=by unfold n4;rw[cG];rfl
  refine cX.cons (f:= [x.1]) (.inl ⟨x.1,_,_,[],rfl,rfl,h x (bO ..),rfl,?_⟩) (Bn λp a=>h p (bU _ a));rw[e];exact(DvAll.ints _).own
end
section
variable {X:Cx}
theorem RV(L:List (Addr×List Nat)):KS.Ord λi j=>HT.lexLt (n4 (L.getD i (0,[])).2) (n4 (L.getD j (0,[])).2) where
 irr:=λi=>tq _
 tr:=λi j k h a=>wX _ _ _ h a
 neg:=λi j k h=>OO _ _ _ h
theorem wg(hu:X.A.units+64<cLine):CallR X (.builtin "sorted") (λxs H Q=>∃(p:Addr)(L:List (Addr×List Nat)),xs= [.ref p]/\b0 X.K H p (L.map λe=>V.ref e.1)/\U3 H L/\L.length<64/\
  ∀(q:Addr)(M:List (Addr×List Nat)),H q=none->M.Perm L->(M.map (·.2)).Pairwise mB->Q (.ref q) (upd H q (.lst (M.map λe=>V.ref e.1)))):=by
 intro pins s σ H xs us Q I rv h;rfl';obtain⟨p,L,rfl,O,y,hz,q⟩:=h;obtain⟨u,rfl,ru⟩:=rv.one;subst ru;obtain⟨a,r,pl,_⟩:=I.list O;have hl:=r.length;rw[aP] at hl;have eE:64<=sizeLine:=by decide
 ac_rfl
 have ei:a=L.map λe=>Value.ref e.1:=by
  have:=rS (as:=L.map (·.1)) (us:=a) (by rw[cG];exact r)
  rw[this,cG];rfl
 by_cases B:L.length<2
 ·refine KS.qH pl.isList (by omega) ?_
  obtain⟨e,E⟩:=sortedAll_at s.heap a a.toArray;have fr:H (s.heap.objs.size+1)=none:=I.hok.fresh (qP _);refine⟨.ref (s.heap.objs.size+1),_,I.laid (t':=s.toks) (λb o t=>sortedAll_old t) (qP _) (o:= .lst (L.map λe=>V.ref e.1)) ⟨by rw[aP];omega,a,e,r,E⟩,rfl,q _ L fr (.refl _) ?_⟩
  match L,B with
  | [],_=>exact .nil
  | [_],_=>exact GV _ _
 ·obtain⟨m,F⟩:=I.fr
  have N:=A6 (g:=X.base) (h:=s.heap) (L:=X.env.locals);have nL:∀b u,H b=some u->b≠X.env.locals:=λb u e z=>by rw[z,I.free] at e;cases e
  refine PySem.W.kas_sorted (T:= .type "list") F N pl.isList (by omega) (by omega) (λh1 F1 N1 v hv=>?_) (by decide) λD e1 h' F' R hD=>?_
  ·rw[ei] at hv
   rfl';obtain⟨e,E,rfl⟩:=bL.mp hv;obtain⟨w,r2,U,_⟩:=I.list (b0.of (y e E));obtain⟨o,G,Y,_⟩:=U.isList;ac_rfl
   have CH:h1.get? e.1=some o:=by
    cases d:X.base.get? e.1 with
    |some u=>
     have:=I.bk e.1 u d
     rw[G] at this;cases this;exact F1.keep _ _ d
    |none=>exact(N1 (e.1,o) (fz (nL _ _ (y e E)) d G)).1
   rw[<-Y];exact(PySem.W.Looks.ld CH).andThen .now
  have kept:∀b o,b≠X.env.locals->s.heap.get? b=some o->h'.get? b=some o:=λb o t e=>by
   cases d:X.base.get? b with
   |some u=>
    have:=I.bk b u d
    rw[e] at this;cases this;exact F'.keep b _ d
   |none=>exact(R (b,o) (bU _ (fz t d e))).1
  have Z:∀i,i<L.length->∃f:Array Value,a.getD i Value.none= .ref (L.getD i (0,[])).1/\h'.IsList (L.getD i (0,[])).1 f/\IntsAre f.toList (n4 (L.getD i (0,[])).2):=λi l=>by
   have hm:L.getD i (0,[])∈L:=by
    rw[b8,b9 l];exact pZ l
   rfl';obtain⟨w,r2,U,_⟩:=I.list (b0.of (y _ hm));obtain⟨o,G,Y,n,hd⟩:=U.isList;ac_rfl;refine⟨w.toArray,?_,⟨o,kept _ _ (nL _ _ (y _ hm)) G,Y,n,hd⟩,by simpa using intsAre_of r2⟩
   rw[ei,b8,eO,b8,b9 l];rfl
  have hn:a.length=L.length:=by omega
  rw[hn];rfl';obtain⟨x,Wi,pp,ps⟩:=KS.Gu (RV L) (n:=L.length) (by omega)
  ac_rfl;refine KS.JY (lt:=λi j=>HT.lexLt (n4 (L.getD i (0,[])).2) (n4 (L.getD j (0,[])).2)) (n:=L.length) (λi j C l hj hC=>?_) _ (KS.Bt (by omega)) ?_
  ·obtain⟨i1,g1,l1,n1⟩:=Z i l
   obtain⟨i2,g2,l2,n2⟩:=Z j hj;unfold PySem.W.kas_ask;rw[g1,g2,keyLt'_oneType];exact F4 l1 l2 n1 n2 (by rw[afI,afI];omega) hC
  ·show PySem.W.KasFin _ _ _ _ _ _ _ _
   rw[Wi];refine PySem.W.KasFin.intro F' R (.head λp O=>cp (hD p O)) λB c F2 N2=>?_
   have IJ:∀b o,b≠X.env.locals->s.heap.get? b=some o->B.get? b=some o:=λb o t e=>by
    cases d:X.base.get? b with
    |some u=>
     have:=I.bk b u d
     rw[e] at this;cases this;exact F2.keep b _ d
    |none=>exact(N2 (b,o) (bU _ (fz t d e))).1
   obtain⟨_,NU,Wr⟩:=R (D,seqObj "list" #[] e1) bO
   have NW:s.heap.get? D=none:=by
    cases qd:s.heap.get? D with
    |none=>rfl
    |some o=>exact absurd (hD (D,o) (fz NU Wr qd)) (hJ _)
   have NT:H D=none:=by
    cases qd:H D with
    |none=>rfl
    |some o=>exact absurd NU (λ_=>by
      obtain⟨o',iD⟩:=KA (I.hok D o qd);rw[NW] at iD;cases iD)
   have Xe:∀m',s.heap.Ns X.env.locals m'->B.Ns X.env.locals m':=λm' rk=>by
    rw[rk.eq_nsMap,<-F.ns.eq_nsMap];exact F2.ns
   have NY:(x.toList.map λi=>L.getD i (0,[])).Perm L:=yk pp;have NV:=(N2 (D,_) bO).1;refine⟨.ref D,_,I.OJ (t':=s.toks) IJ Xe NW NT (o:= .lst ((x.toList.map λi=>L.getD i (0,[])).map λe=>V.ref e.1)) ⟨by rw[aP,NY.length_eq];omega,(x.toList.map λi=>a.getD i Value.none),c,?_,NV⟩,rfl,q D _ NT NY ?_⟩
   ·have e:(x.toList.map λi=>a.getD i Value.none)=((x.toList.map λi=>L.getD i (0,[])).map (·.1)).map Value.ref:=by
     rw[cG,cG];refine zL λi l=>?_;obtain⟨_,g,_,_⟩:=Z i (dY.mp (pp.mem_iff.mp l));exact g
    rw[e,show(λe:Addr×List Nat=>V.ref e.1)=V.ref∘(·.1) from rfl,<-cG];exact rL _
   ·rw[cG,pX]
    exact ps.imp λhle=>hle
end
section
variable {Z:DC} {X:Cx} {B:Bs} {md:List Nat} {rn:Nat} {ρ:DN} {σ:St} {H G:Hp} {fp:Nat->List Addr} {e k:Expr} {pos p2 apos aN:Pos} {tp te:aX} {t:hU}
def Lf(i:Nat):cy:=λE a=>∃L:List (List Nat),a[i]? =some (some (.lst (L.map au)))/\L.length<64/\∀M:List (List Nat),M.Perm L->M.Pairwise mB->E.rt (.lst (M.map au))
theorem E3(i:Nat)(w:X.A.units+64<cLine)(y:Gl X "sorted")(C:X.mg "sorted"=none)(F:md.getD i 0=2:=by rfl)(I:X.N[i]? =some x:=by rfl)(J:mh X.env.scope x:=by first|exact Or.inl rfl|exact Or.inr (Or.inl rfl) |exact Or.inr (Or.inr rfl))(O:(x==("__debug__":Str))=false:=by decide)(Q:(x==("__classdict__":Str))=false:=by decide)
  (r:starEach [.Name x l] X.env=(false,eval (.Name x l) X.env)::starEach [] X.env:=by rfl) (R:(backTo aN (starEach [] X.env)).any (·.1)=false:=by rfl):DSt Z X md 2 (.Return (some (.Call (.Name "sorted" p) [.Name x l] [] aN)) pos) (Lf i):=by
 refine(xg (mE (wg w) y C qV (bM (pv i I J O Q) df r) (by decide) (by decide) r R)).imp ?_
 intro Dn σ H U;rfl';obtain⟨B,ρ,E,⟨G,fp,S⟩,⟨L,e,hz,h⟩,M⟩:=U;ac_rfl;rfl';obtain⟨v0,k,o⟩:=S.at_ i _ e;rw[F] at o;obtain⟨T,ys,Q6,t,rfl,e0,hT,s,ol⟩:=o.lst;cases e0;obtain⟨A,rfl,c,d,f⟩:=Be ol;have u:=S.nd i;rw[s] at u;have hl:A.length=L.length:=by rw[<-c];simp
 ac_rfl;refine⟨_,k,T,A,rfl,b0.of hT,d,by omega,λq N g j DY=>?_⟩
 have n:=S.nw i;rw[s] at n;have mem:∀b,b∈N.map (·.1)->b∈t:=λb a=>by rw[f];exact(j.map _).mem_iff.mp a
 have ne:∀b,b∈N.map (·.1)->b≠q:=λb a z=>(n b (bU _ (mem b a))).2.1 (by rw[z];exact g)
 refine M.rt _ (h (N.map (·.2)) (by rw[<-c];exact j.map _) DY) (.ref q) (q::N.map (·.1)) G _ (S.ex.side g) (.inl ⟨q,_,_,_,rfl,rfl,av,rfl,Bn λp v=>?_⟩) ?_ ?_
 ·rw[ax (ne p.1 (bL.mpr ⟨p,v,rfl⟩))]
  exact d p (j.mem_iff.mp v)
 ·rw[gF]
  refine⟨λz=>ne q z rfl,((j.map _).nodup_iff).mpr ?_⟩;rw[<-f];exact(gF.mp u).2
 ·intro b a
  rcases bT.mp a with rfl|a
  ·exact⟨S.ex.hh.free g,(by rw[av];exact λz=>nomatch z),S.ex.sub.free g⟩
  ·obtain⟨k1,k2,k3⟩:=n b (bU _ (mem b a))
   exact⟨k1,(by rw[ax (ne b a)];exact k2),k3⟩
end
section
variable {Z:DC} {X:Cx}
def MU:cx:=λc P=>∃a:List (Nat×Nat),c= [.lst (a.map pairD)]/\a.length<64/\∀b:List (Nat×Nat),b.Perm a->b.Pairwise Wb.lexLe->P (.lst (b.map pairD))
theorem xS(j:X.A.units+64<cLine):CallR X (.builtin "sorted") (ja Z MU):=by
 refine(zU j).imp ?_;rintro r H Q ⟨G,k,P,s,dv,⟨c,rfl,t,b⟩,q⟩;cases dv with
 |cons a as=>
  cases as;cases a with
  | @lst p u k h e=>
   obtain⟨L,rfl,d,f⟩:=AE e;have v:L.length=c.length:=by rw[<-d];simp
   refine⟨_,L,rfl,b0.of (s _ _ h),λp b=>s _ _ (f p b),by omega,λp M g i l=>?_⟩
   have m:(M.map (·.2)).Perm c:=by rw[<-d];exact i.map _
   have n:K6 (upd G p (.lst (M.map λe=>V.ref e.1))) M:=λx o=>aW (s.free g) _ _ _ (f x (i.mem_iff.mp o));exact q _ (b _ m l) _ _ _ (.new s g) (.lst av n.dv)
end
end L2
namespace Wb
def fk(w:W)(d:Nat×Nat)(r:List (Nat×Nat)):Prop:=∃k,0<k/\bh w k d=d/\(∀j,0<j->j<k->bh w j d≠d)/\r=walk w d k
theorem cE:e∈walk w d k↔∃i,i<k/\e=bh w i d:=by
 unfold walk;rw[bL]
 constructor
 ·rintro⟨i,a,rfl⟩;exact⟨i,dY.mp a,rfl⟩
 ·rintro⟨i,a,rfl⟩;exact⟨i,dY.mpr a,rfl⟩
theorem fk.first(h:fk w d r):d∈r:=by
 obtain⟨k,a,_,_,rfl⟩:=h;exact cE.mpr ⟨0,a,rfl⟩
theorem fk.next(h:fk w d r)(a:e∈r):fH w e∈r:=by
 obtain⟨k,b,f,_,rfl⟩:=h;obtain⟨i,g,rfl⟩:=cE.mp a
 by_cases c:i+1<k
 ·exact cE.mpr ⟨i+1,c,rfl⟩
 ·have:i+1=k:=by omega
  refine cE.mpr ⟨0,b,?_⟩;show bh w (i+1) d=d;rw[this];exact f
theorem fk.iter(h:fk w d r)(a:e∈r):∀n,bh w n e∈r
 |0=>a
 |n+1=>h.next (h.iter a n)
theorem fk.back(h:fk w d r)(a:e∈r):∃n,bh w n e=d:=by
 obtain⟨k,c,b,_,rfl⟩:=h;obtain⟨i,f,rfl⟩:=cE.mp a;refine⟨k-i,?_⟩;rw[<-e9 i (k-i),show k-i+i=k by omega]
 exact b
theorem fk.nodup(g:Good w)(h:fk w d r)(a:bp w d):r.Nodup:=by
 obtain⟨k,c,e,b,rfl⟩:=h;exact pQ g a b
theorem fk.aZ(g:Good w)(h:fk w d r)(a:bp w d):∀e∈r,bp w e:=by
 obtain⟨k,b,c,f,rfl⟩:=h;exact nA g a
structure Wk (w:W) (ds:List (Nat×Nat)) (i:Nat) (rs:List (List (Nat×Nat))):Prop where
 rnd:∀r∈rs,∃d,fk w d r/\bp w d/\∀e∈r,lexLe d e
 nod:rs.flatten.Nodup
 met:∀j e,j<i->ds[j]? =some e->e∈rs.flatten
theorem Wk.zero(w:W)(a:List (Nat×Nat)):Wk w a 0 []:=⟨(λr h=>by cases h),gZ,(λj e h=>by omega)⟩
theorem Wk.skip(h:Wk w a i b)(g:a[i]? =some d)(k:d∈b.flatten):Wk w a (i+1) b:=
 ⟨h.rnd,h.nod,λj e l f=>by
  by_cases c:j=i
  ·subst c;rw[g] at f;cases f;exact k
  ·exact h.met j e (by omega) f⟩
theorem Wk.take(g:Good w)(all:∀e,bp w e->e∈k)(dart:∀e∈k,bp w e)(u:k.Pairwise lexLe){o:List (List (Nat×Nat))}(h:Wk w k i o)(p:k[i]? =some d)(v:d∉o.flatten)(l:fk w d r):Wk w k (i+1) (o++ [r]):=by
 have s:bp w d:=dart d (fB p)
 have off:∀e∈r,e∉o.flatten:=λe f x=>by
  obtain⟨q,t,y⟩:=jR.mp x;obtain⟨M,A,_,_⟩:=h.rnd q t;obtain⟨n,B⟩:=l.back f;exact v (jR.mpr ⟨q,t,by rw[<-B];exact A.iter y n⟩)
 refine⟨λq C=>?_,?_,λj e m f=>?_⟩
 ·rcases cV.mp C with z|z
  ·exact h.rnd q z
  ·rw[dX.mp z]
   refine⟨d,l,s,λe f=>?_⟩;obtain⟨j,m⟩:=zJ (all e (l.aZ g s e f))
   by_cases c:j<i
   ·exact absurd (h.met j e c m) (off e f)
   ·by_cases E:j=i
    ·subst E;rw[p] at m;cases m
     exact .inr ⟨rfl,bK _⟩
    ·obtain⟨F,G⟩:=dS.mp p
     obtain⟨H,I⟩:=dS.mp m;rw[<-G,<-I];exact J2.mp u i j F H (by omega)
 ·rw[v9,gX]
  refine⟨h.nod,by simpa using l.nodup g s,λa J b L e=>?_⟩
  subst e;exact off a (by simpa using L) J
 ·rw[v9,cV]
  by_cases c:j=i
  ·subst c;rw[p] at f;cases f
   exact .inr (by simpa using l.first)
  ·exact .inl (h.met j e (by omega) f)
theorem Wk.fin(g:Good w)(all:∀e,bp w e->e∈a)(h:Wk w a a.length b):b.flatten.Perm (aZ w):=by
 have sub:∀e,e∈b.flatten↔e∈aZ w:=λe=>by
  rw[bI]
  constructor
  ·intro c
   obtain⟨r,i,k⟩:=jR.mp c;obtain⟨d,R,l,_⟩:=h.rnd r i;exact R.aZ g l e k
  ·intro c
   obtain⟨j,f⟩:=zJ (all e c);exact h.met j e (dS.mp f).1 f
 exact(v3 h.nod (eG g)).mpr sub
structure cS (w:W) (rs:List (List (Nat×Nat))):Prop where
 rnd:∀r∈rs,∃d,fk w d r/\bp w d/\∀e∈r,lexLe d e
 perm:rs.flatten.Perm (aZ w)
theorem cS.O2(R:cS w a)(p:b.Perm a):cS w b:=
 ⟨λr c=>R.rnd r (p.mem_iff.mp c),(p.flatten).trans R.perm⟩
theorem Ng(g:Good w)(h:bp w d):d.1≠d.2:=λe=>g.irr d.1 (by have:d.2∈row w d.1:=h;rw[<-e] at this;exact this)
theorem xN{w:W}(g:Good w){f:List (Nat×Nat)}(l:f.Perm (jV (row w) w.length)):(f++f.map λt=>(t.2,t.1)).Perm (aZ w):=by
 have e:=pP w;have n:=eG g
 have m:∀t,t∈f↔bp w t/\t.1<t.2:=λt=>by
  rw[l.mem_iff,e,zG,bI,decide_eq_true_eq]
 have i:f.Nodup:=l.nodup_iff.mpr (by rw[e];exact n.filter _)
 refine(v3 ?_ n).mpr λd=>?_
 ·rw[gX]
  refine⟨i,?_,λa o b p z=>?_⟩
  ·rw[GU,pX]
   rw[GU] at i;exact i.imp λ {a b} h z=>h (UF (aef z).2 (aef z).1)
  ·obtain⟨c,j,rfl⟩:=bL.mp p
   have k:=((m a).mp o).2;have q:=((m c).mp j).2;rw[z] at k;have k:c.2<c.1:=k;omega
 ·rw[cV,bL,bI]
  constructor
  ·rintro(h| ⟨c,j,rfl⟩)
   ·exact((m d).mp h).1
   ·exact g.sym _ _ ((m c).mp j).1
  ·intro h
   rcases Nat.lt_or_gt_of_ne (Ng g h) with c|c
   ·exact .inl ((m d).mpr ⟨h,c⟩)
   ·exact .inr ⟨(d.2,d.1),(m _).mpr ⟨g.sym _ _ h,c⟩,rfl⟩
theorem fk.uniq(h:fk w d r)(b:fk w d a):r=a:=by
 obtain⟨k,e,f,g,rfl⟩:=h;obtain⟨m,i,j,l,rfl⟩:=b
 rcases Nat.lt_trichotomy k m with c|c|c
 ·exact absurd f (l k e c)
 ·rw[c]
 ·exact absurd j (g m i c)
theorem cS.sub{f b:List (List (Nat×Nat))}(R:cS w f)(g:cS w b):∀r∈f,r∈b:=λr j=>by
 obtain⟨d,c,k,l⟩:=R.rnd r j;have m:d∈b.flatten:=g.perm.mem_iff.mpr (bI.mpr k);obtain⟨o,h,a⟩:=jR.mp m;obtain⟨p,i,u,q⟩:=g.rnd o h;obtain⟨n,s⟩:=i.back a;have t:lexLe d p:=by rw[<-s];exact l _ (c.iter c.first n)
 have e:=A3 t (q d a);subst e;rw[c.uniq i];exact h
theorem cS.ne{a:List (List (Nat×Nat))}(R:cS w a):∀r∈a,r≠ []:=λr b z=>by
 obtain⟨d,c,_⟩:=R.rnd r b
 have:=c.first
 rw[z] at this;cases this
theorem vB:∀{l:List (List c)},l.flatten.Nodup->(∀r∈l,r≠ [])->l.Nodup
 | [],_,_=>gZ
 |a::l,h,b=>by
  rw[jA,gX] at h;refine gF.mpr ⟨λd=>?_,vB h.2.1 λr e=>b r (bU _ e)⟩;cases a with
  |nil=>exact b [] (bO ..) rfl
  |cons x a=>exact h.2.2 x (bO ..) x (jR.mpr ⟨_,d,bO ..⟩) rfl
theorem cS.nodup(g:Good w)(R:cS w a):a.Nodup:=vB (R.perm.nodup_iff.mpr (eG g)) R.ne
abbrev iA(a:List (List (Nat×Nat))):List (List Nat):=a.map λr=>r.map (·.1)
theorem IW(h:L2.mB a b)(c:L2.mB b a):a=b:=by
 have:=L2.yI (L2.n4 a) (L2.n4 b) c h
 exact L2.Qv (by rw[this])
theorem cS.uniq(g:Good w)(R:cS w a)(c:cS w b)(s:(iA a).Pairwise L2.mB)(d:(iA b).Pairwise L2.mB):iA a=iA b:=by
 have e:a.Perm b:=(v3 (R.nodup g) (c.nodup g)).mpr λr=>⟨R.sub c r,c.sub R r⟩;exact afJ (λ_ _ _ _=>IW) s d (e.map _)
open Classical in
noncomputable def lJ(w:W):List (List Nat):=if h:∃rs,cS w rs/\(iA rs).Pairwise L2.mB then iA h.choose else[]
theorem LL(g:Good w)(R:cS w a)(s:(iA a).Pairwise L2.mB):lJ w=iA a:=by
 have h:∃a,cS w a/\(iA a).Pairwise L2.mB:=⟨a,R,s⟩;unfold lJ;rw[dif_pos h];exact h.choose_spec.1.uniq g R h.choose_spec.2 s
theorem PX(h:fk w d r)(a:i<r.length):r.getD ((i+1)%r.length) (0,0)=fH w (r.getD i (0,0)):=by
 obtain⟨k,b,f,l,rfl⟩:=h;rw[dh] at a ⊢
 have at_:∀j,j<k->(walk w d k).getD j (0,0)=bh w j d:=λj g=>by
  unfold walk;rw[b8,eO,pV g];rfl
 rw[at_ i a]
 by_cases c:i+1<k
 ·rw[gY c,at_ _ c];rfl
 ·have e:i+1=k:=by omega
  rw[e,rY,at_ 0 b];show d=bh w (i+1) d;rw[e,f]
theorem mx(r:List (Nat×Nat))(i:Nat):(r.map (·.1)).getD i 0=(r.getD i (0,0)).1:=by
 rw[b8,b8,eO];cases r[i]? <;>rfl
theorem fU{a b:List Nat}{x y:Nat}(c:(a++x::y::b).Nodup):aS (a++x::y::b) x=y:=by
 have d:x∉a:=λh=>by
  have:=(gX.mp c).2.2 x h x (bO ..)
  exact this rfl
 have e:(a++x::y::b).idxOf x=a.length:=by
  rw[List.idxOf_append,AC d,List.idxOf_cons_self];simp
 unfold aS;rw[e,gY (by simp),b8,iQ (by omega)]
 simp
theorem gU{b:List Nat}{x y:Nat}(a:(y::(b++ [x])).Nodup):aS (y::(b++ [x])) x=y:=by
 have c:x∉y::b:=λh=>by
  have d:(y::b++ [x]).Nodup:=a;exact(gX.mp d).2.2 x h x (by simp) rfl
 have e:(y::(b++ [x])).idxOf x=b.length+1:=by
  show(y::b++ [x]).idxOf x=_;rw[List.idxOf_append,AC c];simp
 unfold aS;rw[e]
 have:(b.length+1+1)%(y::(b++ [x])).length=0:=by simp
 rw[this];rfl
theorem zr{a b:List Nat}{x:Nat}(f:(a++b).Nodup)(h:x∈a++b):aS (b++a) x=aS (a++b) x:=by
 have d:(b++a).Nodup:=(t8.nodup_iff).mp f;obtain⟨u,v,e⟩:=afk h;cases v with
 |cons y v=>
  rw[e,fU (e▸f)]
  rcases List.append_eq_append_iff.mp e with ⟨c,g,i⟩ | ⟨c,g,i⟩
  ·
   rw[i,show c++x::y::v++a=c++x::y::(v++a) by simp]
   refine fU ?_;rw[i] at d;simpa using d
  ·
   cases c with
   |nil=>
    have j:b=x::y::v:=by simpa using i.symm
    rw[j,show x::y::v++a= []++x::y::(v++a) by simp]
    refine fU ?_;rw[j] at d;simpa using d
   |cons z c=>
    have l:x=z/\y::v=c++b:=by simpa using i
    obtain⟨rfl,n⟩:=l;cases c with
    |nil=>
     have j:b=y::v:=by simpa using n.symm
     rw[g,j,show y::v++(u++ [x])=y::((v++u)++ [x]) by simp]
     refine gU ?_;rw[g,j] at d;simpa using d
    |cons z c=>
     have l:y=z/\v=c++b:=by simpa using n
     obtain⟨rfl,rfl⟩:=l;rw[g,show b++(u++x::y::c)=(b++u)++x::y::c by simp]
     refine fU ?_;rw[g] at d;simpa using d
 |nil=>
  cases b with
  |nil=>simp
  |cons y b=>
   rcases List.eq_nil_or_concat b with rfl| ⟨k,z,rfl⟩
   ·
    have:a=u/\y=x:=by
     have:=List.append_inj' e rfl
     exact⟨this.1,by simpa using this.2⟩
    obtain⟨rfl,rfl⟩:=this;cases a with
    |nil=>rfl
    |cons t a=>
     have m:aS (t::a++ [y]) y=t:=gU (b:=a) f;rw[m];show aS ([]++y::t::a) y=t;exact fU (d)
   ·have o:z=x:=by
     rw[aeW] at e;have e:(a++y::k)++ [z]=u++ [x]:=by simpa using e
     exact by simpa using(List.append_inj' e rfl).2
    subst o;rw[aeW] at f d ⊢;cases a with
    |nil=>simp
    |cons t a=>
     have m:aS (t::a++y::(k++ [z])) z=t:=by
      have:=gU (y:=t) (b:=a++y::k) (x:=z) (by simpa using f)
      simpa using this
     have p:aS (y::(k++ [z])++t::a) z=t:=by
      have:=fU (a:=y::k) (x:=z) (y:=t) (b:=a) (by simpa using d)
      simpa using this
     rw[m,p]
theorem u5{i:Nat}(a:l.Nodup)(h:i+1<l.length):aS l (l.getD i 0)=l.getD (i+1) 0:=by
 have e:l.getD i 0=l[i]:=by rw[b8,b9 (by omega)];rfl
 unfold aS;rw[e,a.idxOf_getElem i (by omega),gY h]
theorem JL(a:l.Nodup)(h:i+1=l.length):aS l (l.getD i 0)=l.getD 0 0:=by
 have e:l.getD i 0=l[i]:=by rw[b8,b9 (by omega)];rfl
 unfold aS;rw[e,a.idxOf_getElem i (by omega),h,rY]
section
variable {w:W} {R:List Nat} {A:Nat×Nat->Prop} {v m:Nat} {y:Nat->Nat}
end
end Wb
set_option maxHeartbeats 1000000
namespace Wb
theorem wK(a:(v::l).Nodup)(d:x∈l)(f:x≠l.getD (l.length-1) 0):aS (v::l) x=aS l x:=by
 obtain⟨i,g,rfl⟩:=GW.mp d;have e:l[i]=l.getD i 0:=by rw[b8,b9 g];rfl
 have h:i+1<l.length:=by
  apply FB;intro c;exact f (by rw[e,show l.length-1=i by omega])
 have b:=u5 (i:=i+1) a (by simp;omega)
 have j:=u5 (i:=i) (gF.mp a).2 h;rw[Ef,Ef] at b;rw[e,b,j]
section
variable {w w':W} {R:List Nat} {f:Nat}
end
theorem gE(h:i<k):(walk w d k)[i]? =some (bh w i d):=by
 unfold walk;rw[eO,pV h];rfl
theorem rT(h:¬i<k):(walk w d k)[i]? =none:=eM (by rw[dh];omega)
theorem fk.XG(g:Good w)(h:fk w d r)(b:bp w d)(c:m<r.length):fk w (r.getD m (0,0)) (r.drop m++r.take m):=by
 obtain⟨k,l,f,n,rfl⟩:=h;rw[dh] at c;have e:(walk w d k).getD m (0,0)=bh w m d:=by rw[b8,gE c];rfl
 rw[e];have per:bh w k (bh w m d)=bh w m d:=by rw[<-e9,afB,e9,f]
 refine⟨k,l,per,λj o p z=>?_,?_⟩
 ·have:bh w m (bh w j d)=bh w m d:=by rw[<-e9,afB,e9,z]
  exact n j o p (sX g (cY g b j) b m this)
 ·refine qN λi=>?_
  have a:((walk w d k).drop m).length=k-m:=by rw[BF,dh]
  by_cases q:i<k-m
  ·rw[iM (by rw[a];exact q),afj,gE (by omega),gE (by omega),<-e9,afB]
  ·rw[iQ (by rw[a];omega),a]
   by_cases s:i<k
   ·rw[List.getElem?_take,tz (by omega),gE (by omega),gE s,<-e9,show i+m=(i-(k-m))+k by omega,e9,f]
   ·rw[List.getElem?_take,AC (by omega),rT (by omega)]
theorem mU(a b:Nat×Nat):lexLe a b\/lexLe b a:=by unfold lexLe;omega
theorem Df(h:lexLe a b)(d:lexLe b c):lexLe a c:=by unfold lexLe at*;omega
theorem A0:∀c:List (Nat×Nat),c≠ []->∃e∈c,∀x∈c,lexLe e x
 | [],h=>absurd rfl h
 | [a],_=>⟨a,by simp,λx d=>by rw[dX] at d;subst d;exact(mU x x).elim id id⟩
 |a::b::c,_=>by
  obtain⟨e,g,f⟩:=A0 (b::c) (by simp)
  rcases mU a e with h|h
  ·refine⟨a,by simp,λx d=>?_⟩
   rcases bT.mp d with rfl|d
   ·exact(mU x x).elim id id
   ·exact Df h (f x d)
  ·refine⟨e,bU _ g,λx d=>?_⟩
   rcases bT.mp d with rfl|d
   ·exact h
   ·exact f x d
open Classical in
noncomputable def wz(c:List (Nat×Nat)):Nat:=if h:∃e,e∈c/\∀x∈c,lexLe e x then c.idxOf h.choose else 0
theorem LK(h:c≠ []):wz c<c.length/\c.getD (wz c) (0,0)∈c/\(∀x∈c,lexLe (c.getD (wz c) (0,0)) x)/\wz c=c.idxOf (c.getD (wz c) (0,0)):=by
 have d:∃e,e∈c/\∀x∈c,lexLe e x:=let ⟨e,a,b⟩:=A0 c h;⟨e,a,b⟩;have f:wz c=c.idxOf d.choose:=by unfold wz;rw[dif_pos d]
 have s:=d.choose_spec;have l:=v7.mpr s.1
 have g:c.getD (wz c) (0,0)=d.choose:=by
  rw[f,b8,b9 l];exact BE l
 rw[g,f];exact⟨l,s.1,s.2,rfl⟩
noncomputable def Av(c:List (Nat×Nat)):List (Nat×Nat):=c.drop (wz c)++c.take (wz c)
theorem xG(c:List (Nat×Nat)):(Av c).Perm c:=by
 unfold Av
 have:=t8 (l₁:=c.drop (wz c)) (l₂:=c.take (wz c))
 rwa [t7] at this
theorem K8(g:Good w)(h:fk w d r)(a:bp w d):∃e,fk w e (Av r)/\bp w e/\∀x∈Av r,lexLe e x:=by
 have ne:r≠ []:=λz=>by have:=h.first;rw[z] at this;cases this
 obtain⟨b,c,f,_⟩:=LK ne;exact⟨_,h.XG g a b,h.aZ g a _ c,λx i=>f x ((xG r).mem_iff.mp i)⟩
theorem qC{b:Type}{f:List b->List b}(h:∀r,(f r).Perm r):∀a:List (List b),(a.map f).flatten.Perm a.flatten
 | []=> .nil
 |r::a=>by
  rw[dF,jA,jA];exact(h r).append (qC h a)
abbrev Dt:=Nat×Nat
def qS(w:W):Dt->List Dt->Dt->Prop
 |x,[],y=>x=y
 |x,a::l,y=>x=a/\qS w (fH w a) l y
theorem tK:∀{l m:List Dt}{x z:Dt},qS w x (l++m) z↔∃y,qS w x l y/\qS w y m z
 | [],m,x,z=>⟨λh=>⟨x,rfl,h⟩,λ⟨y,e,h⟩=>by have e:x=y:=e;subst e;exact h⟩
 |a::l,m,x,z=>⟨λ⟨e,h⟩=>let ⟨y,b,c⟩:=tK.mp h;⟨y,⟨e,b⟩,c⟩,λ⟨y,⟨e,b⟩,c⟩=>⟨e,tK.mpr ⟨y,b,c⟩⟩⟩
theorem zB(w:W)(d:Dt)(n:Nat):walk w d (n+1)=d::walk w (fH w d) n:=by
 refine qN λi=>?_;cases i with
 |zero=>rw[gE (by omega)];rfl
 |succ i=>
  rw[v8]
  by_cases h:i<n
  ·rw[gE (by omega),gE h]
   exact KB some (e9 (w:=w) (d:=d) 1 i)
  ·rw[rT (by omega),rT h]
theorem qm:∀{l:List Dt}{x y:Dt},qS w x l y↔l=walk w x l.length/\y=bh w l.length x
 | [],x,y=>⟨λh=>⟨rfl,(show x=y from h).symm⟩,λh=>h.2.symm⟩
 |a::l,x,y=>by
  have e:bh w (l.length+1) x=bh w l.length (fH w x):=e9 (w:=w) (d:=x) 1 l.length
  constructor
  ·rintro⟨rfl,h⟩
   obtain⟨b,c⟩:=qm.mp h;rw[eX,zB,e];exact⟨KB (x::·) b,c⟩
  ·rintro⟨b,c⟩
   rw[eX,zB] at b;obtain⟨f,g⟩:=afs b;rw[eX,e] at c;subst f;exact⟨rfl,qm.mpr ⟨g,c⟩⟩
theorem fk.SE(h:fk w d r):qS w d r d:=by
 obtain⟨k,b,a,c,rfl⟩:=h;exact qm.mpr ⟨by rw[dh],by rw[dh,a]⟩
theorem DM(h:qS w d r d)(ne:r≠ [])(e:r.Nodup):fk w d r:=by
 obtain⟨c,f⟩:=qm.mp h;refine⟨r.length,GX.mpr ne,f.symm,λj i g z=>?_,c⟩;have a:r[j]? =some (bh w j d):=by rw[c];exact gE g
 have b:r[0]? =some (bh w 0 d):=by rw[c];exact gE (by omega)
 rw[z] at a;have b:r[0]? =some d:=b
 have:=(afv (by omega:j<r.length) e).mp (a.trans b.symm)
 omega
theorem Bk:∀{l:List Dt}{x y:Dt},qS w x l y->(∀e∈l,fH v e=fH w e)->qS v x l y
 | [],x,y,h,_=>h
 |a::l,x,y,⟨e,h⟩,k=>⟨e,by rw[k a (bO ..)];exact Bk h λe b=>k e (bU _ b)⟩
theorem IU{l:List b}(h:l≠ []):∃a z,l=a++ [z]:=⟨l.dropLast,l.getLast h,(List.dropLast_concat_getLast h).symm⟩
theorem Mu(d:(u::r::t).Nodup):aS (u::r::t) u=r/\∀x∈r::t,aS (u::r::t) x=if aS (r::t) x=r then u else aS (r::t) x:=by
 have f:=(gF.mp d).2;refine⟨fU (a:= []) d,λx g=>?_⟩;obtain⟨b,z,e⟩:=IU (l:=r::t) (by simp)
 have i:aS (r::t) z=r:=by
  cases t with
  |nil=>
   have:b= []/\z=r:=by
    cases b with
    |nil=>simp at e;exact⟨rfl,e.symm⟩
    |cons a b=>simp at e
   rw[this.2];unfold aS;simp
  |cons a t=>
   cases b with
   |nil=>simp at e
   |cons c b=>
    have j:a::t=b++ [z]:=(afs e).2
    have:=gU (b:=b) (x:=z) (y:=r) (by rw[<-j];exact f)
    rw[j];exact this
 have k:z∈r::t:=by rw[e];simp
 by_cases c:x=z
 ·subst c
  rw[tz i]
  have:=gU (b:=b) (x:=x) (y:=u) (by rw[<-e];exact d)
  rw[e];exact this
 ·rw[AC (λh=>c (zq f g k (h.trans i.symm)))]
  refine wK d g ?_;rw[e];intro h;apply c;rw[h,b8,cI,iQ (by simp),show b.length+ [z].length-1-b.length=0 by simp];rfl
def Hf(l e:List Nat)(r u:Nat):Prop:=∃a t b,l=b++a/\a++b=r::t/\∃c d,e=d++c/\c++d=u::r::t
theorem Hf.succ(P:Hf l d r u)(o:l.Nodup)(p:u∉l):aS d u=r/\(∀x∈l,aS d x=if aS l x=r then u else aS l x)/\d.Nodup/\(∀x,x∈d↔x=u\/x∈l)/\r∈l:=by
 rfl';obtain⟨a,t,b,rfl,f,h,i,rfl,g⟩:=P;have e:(b++a).Perm (r::t):=by rw[<-f];exact t8
 have k:(i++h).Perm (u::r::t):=by rw[<-g];exact t8
 have m:(r::t).Nodup:=e.nodup_iff.mp o;have j:(u::r::t).Nodup:=gF.mpr ⟨λz=>p (e.mem_iff.mpr z),m⟩;obtain⟨s,v⟩:=Mu j;ac_rfl
 have w:∀x∈r::t,aS (b++a) x=aS (r::t) x:=λx c=>by
  have:=zr (a:=a) (b:=b) (x:=x) (by rw[f];exact m) (by rw[f];exact c)
  rw[this,f]
 have n:∀x∈u::r::t,aS (i++h) x=aS (u::r::t) x:=λx c=>by
  have:=zr (a:=h) (b:=i) (x:=x) (by rw[g];exact j) (by rw[g];exact c)
  rw[this,g]
 refine⟨by rw[n u (by simp),s],λx c=>?_,k.nodup_iff.mpr j,λx=>?_,e.mem_iff.mpr (by simp)⟩
 ·have c:=e.mem_iff.mp c
  rw[n x (bU _ c),w x c,v x c]
 ·rw[k.mem_iff,bT,e.mem_iff]
theorem PF(h:l[i]? =some r):Hf l (ins l i u) r u:=by
 obtain⟨b,e⟩:=dS.mp h;have a:l.drop i=r::l.drop (i+1):=by rw[qK b,e]
 refine⟨l.drop i,l.drop (i+1)++l.take i,l.take i,(t7 ..).symm,by rw[a];rfl,u::l.drop i,l.take i,rfl,by rw[a];rfl⟩
theorem PD(h:l[0]? =some r):Hf l (ins l l.length u) r u:=by
 cases l with
 |nil=>simp at h
 |cons a t=>
  simp at h;subst h;refine⟨a::t,t,[],rfl,by simp,[u],a::t,?_,rfl⟩
  unfold ins;simp
def kL(w:W)(a:List (List Dt)):Prop:=∀r∈a,∃d,fk w d r/\bp w d
def Fc(w:W)(n:Nat):Prop:=∃a,kL w a/\a.flatten.Perm (aZ w)/\a.length=n
theorem Lq(a:List (List c))(r:List c)(b:List (List c)):(a++r::b).flatten.Perm (r++(a++b).flatten):=by
 rw[v9,v9,jA,<-jP,<-jP];exact aeJ _ t8
theorem Jy(g:Good w)(h:kL w j)(s:d∈j.flatten):∃k c,fk w d k/\bp w d/\(k++c.flatten).Perm j.flatten/\kL w c/\c.length+1=j.length:=by
 rfl';obtain⟨r,l,m⟩:=jR.mp s;obtain⟨e,n,o⟩:=h r l;obtain⟨i,p,u⟩:=GW.mp m;have v:r.getD i (0,0)=d:=by rw[b8,b9 p];exact u
 have q:=n.XG g o p;rw[v] at q;obtain⟨a,b,rfl⟩:=afk l;ac_rfl
 have y:(r.drop i++r.take i).Perm r:=by
  have:=t8 (l₁:=r.drop i) (l₂:=r.take i)
  rwa [t7] at this
 refine⟨_,a++b,q,n.aZ g o d m,?_,λx f=>h x ?_,by simp;omega⟩
 ·exact(y.append_right _).trans (Lq a r b).symm
 ·rcases cV.mp f with f|f
  ·exact kF _ f
  ·exact dW _ (bU _ f)
theorem kL.dart(g:Good w)(h:kL w a):∀e∈a.flatten,bp w e:=λe b=>by
 obtain⟨r,c,f⟩:=jR.mp b;obtain⟨d,R,i⟩:=h r c;exact R.aZ g i e f
theorem kL.keep(g:Good w)(h:kL w a)(k:∀e∈a.flatten,fH v e=fH w e)(dv:∀d,bp w d->bp v d):kL v a:=λr b=>by
 obtain⟨d,R,c⟩:=h r b;refine⟨d,DM (Bk R.SE λe f=>k e (jR.mpr ⟨r,b,f⟩)) (λz=>?_) (R.nodup g c),dv d c⟩
 have:=R.first
 rw[z] at this;cases this
abbrev bJ(s:List Dt):Dt:=s.headD (0,0)
def iG(a:Nat):List (List Dt)->List (List Dt×Nat)
 | []=> []
 | [s]=> [(s,a)]
 |s::t::l=>(s,(bJ t).1)::iG a (t::l)
def ring(z:Nat)(p:List Dt×Nat):List Dt:=(z,(bJ p.1).1)::(p.1++ [(p.2,z)])
theorem yO(a:Nat):∀b,(iG a b).map (·.1)=b
 | []=>rfl
 | [s]=>rfl
 |s::t::l=>by rw[iG,dF,yO a (t::l)]
theorem yR(a:Nat):∀(s:List Dt)(b:List (List Dt)),(iG a (s::b)).map (·.2)=b.map (λt=>(bJ t).1)++ [a]
 |s,[]=>rfl
 |s,t::l=>by rw[iG,dF,yR a t l];rfl
theorem yQ:∀{c:List (List Dt)}{x:Dt},qS w x c.flatten d->(∀s∈c,s≠ [])->∀p∈iG d.1 c,∃y,qS w (bJ p.1) p.1 y/\p.2=y.1/\(y=d\/∃t∈c,y=bJ t)
 | [],_,_,_,p,b=>nomatch b
 | [s],x,h,ne,p,b=>by
  rw[iG,dX] at b;subst b;have h:qS w x (s++ []) d:=h;rw[fJ] at h;cases s with
  |nil=>exact absurd rfl (ne [] (bO ..))
  |cons a s=>exact⟨d,⟨rfl,h.2⟩,rfl, .inl rfl⟩
 |s::t::l,x,h,ne,p,b=>by
  rw[jA] at h;obtain⟨y,i,f⟩:=tK.mp h;have j:=ne t (by simp)
  have g:y=bJ t:=by
   cases t with
   |nil=>exact absurd rfl j
   |cons a t=>exact f.1
  rw[iG,bT] at b
  rcases b with rfl|b
  ·refine⟨y,?_,by rw[g], .inr ⟨t,by simp,g⟩⟩
   cases s with
   |nil=>exact absurd rfl (ne [] (bO ..))
   |cons a s=>exact⟨rfl,i.2⟩
  ·obtain⟨u,k,m,n⟩:=yQ f (λs o=>ne s (bU _ o)) p b
   exact⟨u,k,m,n.imp id λ⟨q,r,e⟩=>⟨q,bU _ r,e⟩⟩
theorem vQ(z:Nat):∀l:List (List Dt×Nat),(l.map (ring z)).flatten.Perm ((l.map (·.1)).flatten++((l.map λp=>(z,(bJ p.1).1))++l.map λp=>(p.2,z)))
 | []=> .refl _
 |p::l=>by
  have b:=vQ z l;rw[dF,jA,dF,jA,dF,dF];refine(aei _ b).trans ?_;rw[List.perm_iff_count];intro a;simp only[ring,List.count_append,List.count_cons,List.count_nil];omega
theorem KJ:∀{s:List Dt}{x y c:Dt},s≠ []->qS w x s y->(∀e∈s,fH w e=y->fH v e=c)->(∀e∈s,fH w e∈s.tail->fH v e=fH w e)->qS v x s c
 | [],_,_,_,ne,_,_,_=>absurd rfl ne
 | [a],x,y,c,_,⟨e,h⟩,d,f=>⟨e,(d a (dX.mpr rfl) h)⟩
 |a::b::s,x,y,c,_,⟨e,h⟩,d,f=>by
  refine⟨e,?_⟩;have i:fH w a=b:=h.1;rw[f a (bO ..) (by rw[i];simp)]
  exact KJ (by simp) h (λe g=>d e (bU _ g)) (λe g z=>f e (bU _ g) (bU _ z))
theorem wU(h:s≠ []):bJ s∈s:=by
 cases s with
 |nil=>exact absurd rfl h
 |cons a s=>exact bO ..
theorem Rp{d:List (List Dt)}(k:d.flatten.Nodup)(ne:∀s∈d,s≠ []){s t:List Dt}(f:s∈d)(l:t∈d):bJ s∉t.tail:=λh=>by
 obtain⟨m,g⟩:=List.pairwise_flatten.mp k
 by_cases e:s=t
 ·subst e
  have:=m s f
  cases s with
  |nil=>exact ne [] f rfl
  |cons a s=>exact(gF.mp this).1 h
 ·have i:=wU (ne s f)
  have j:bJ s∈t:=List.mem_of_mem_tail h;obtain⟨a,b,rfl⟩:=afk f;rw[ae6,Ej] at g
  rcases cV.mp l with c|c
  ·exact g.2.2 t c s (bO ..) _ j _ i rfl
  ·rcases bT.mp c with c|c
   ·exact e c.symm
   ·exact g.2.1.1 t c _ i _ j rfl
theorem NF(g:Good w)(gv:Good v)(hz:z=w.length) 
  (R:fk w d (j::i).flatten) (E:bp w d) (n:∀s∈j::i,s≠ [])
  (M:((j::i).map λs=>(bJ s).1).Nodup)
  (N:∀e,bp w e->(∀s∈j::i,fH w e≠bJ s)->fH v e=fH w e)
  (k1:∀s∈j::i,∀e,bp w e->fH w e=bJ s->fH v e=((bJ s).1,z))
  (O:∀p∈iG d.1 (j::i),fH v (p.2,z)=(z,(bJ p.1).1))
  (k3:∀s∈j::i,fH v (z,(bJ s).1)=bJ s)
  (dv:∀e,bp v e↔bp w e\/∃s∈j::i,e=((bJ s).1,z)\/e=(z,(bJ s).1))
  (h:Fc w c):Fc v (c+i.length)/\(aZ v).length=(aZ w).length+2*(i.length+1):=by
 obtain⟨rs,hA,F,hl⟩:=h;obtain⟨r1,l,R1,_,Q,G,l1⟩:=Jy g hA (F.mem_iff.mpr (bI.mpr E));obtain rfl:=R1.uniq R;have nd:=R.nodup g E
 have T:d=bJ j:=by
  have:=R.SE
  cases j with
  |nil=>exact absurd rfl (n [] (bO ..))
  |cons a s=>exact this.1
 have H:∀e∈(j::i).flatten,bp w e:=R.aZ g E;have Fn:∀s∈j::i,bp w (bJ s):=λs k=>H _ (jR.mpr ⟨s,k,wU (n s k)⟩);generalize I:iG d.1 (j::i)=L at O;have B:L.map (·.1)=j::i:=by rw[<-I];exact yO _ _
 have f2:L.map (·.2)=i.map (λt=>(bJ t).1)++ [d.1]:=by rw[<-I];exact yR _ _ _
 have f3:(L.map (·.2)).Perm ((j::i).map λs=>(bJ s).1):=by
  rw[f2,dF,T];exact t8
 have f4:(L.map λp=>(z,(bJ p.1).1))=(j::i).map λs=>(z,(bJ s).1):=by rw[<-B,cG];rfl
 have f5:(L.map λp=>(p.2,z)).Perm ((j::i).map λs=>((bJ s).1,z)):=by
  have:=f3.map λa:Nat=>(a,z)
  rw[cG,cG] at this;exact this
 have lt:∀s∈j::i,(bJ s).1<z:=λs k=>by rw[hz];exact bX (Fn s k)
 have U:=vQ z L;rw[B,f4] at U
 have pv:((L.map (ring z)).flatten++l.flatten).Perm (aZ w++(((j::i).map λs=>(z,(bJ s).1))++(j::i).map λs=>((bJ s).1,z))):=by
  refine(aeJ _ (U.trans (aei _ (aei _ f5)))).trans ?_;rw[jP];refine(aei _ t8).trans ?_;rw[<-jP];exact aeJ _ (Q.trans F)
 have X:(aZ w++(((j::i).map λs=>(z,(bJ s).1))++(j::i).map λs=>((bJ s).1,z))).Nodup:=by
  refine gX.mpr ⟨eG g,gX.mpr ⟨?_,?_,?_⟩,?_⟩
  ·have:=List.Pairwise.map (S:=λa b=>a≠b) (λa:Nat=>(z,a)) (λa b h e=>h (aef e).2) M
   rw[cG] at this;exact this
  ·have:=List.Pairwise.map (S:=λa b=>a≠b) (λa:Nat=>(a,z)) (λa b h e=>h (aef e).1) M
   rw[cG] at this;exact this
  ·intro a J b o e
   obtain⟨s,k,rfl⟩:=bL.mp J;obtain⟨t,Y,rfl⟩:=bL.mp o
   have:=lt s k
   have:=(aef e).2
   omega
  ·intro a J b o e
   have Z:=bI.mp J;have x1:=bX Z;have x2:=g.rng _ _ Z
   rcases cV.mp o with o|o<;>obtain⟨s,k,rfl⟩:=bL.mp o<;>rw[e] at x1 x2
   ·have:z<w.length:=x1
    omega
   ·have:z<w.length:=x2
    omega
 have pe:=(v3 X (eG gv)).mpr λe=>by
  rw[bI (w:=v),dv e,cV,bI,cV,bL,bL];refine or_congr af6 ⟨λh=>h.elim (λ⟨s,k,e⟩=>⟨s,k, .inr e.symm⟩) λ⟨s,k,e⟩=>⟨s,k, .inl e.symm⟩,λ⟨s,k,e⟩=>e.elim (λe=> .inr ⟨s,k,e.symm⟩) λe=> .inl ⟨s,k,e.symm⟩⟩
 refine⟨⟨L.map (ring z)++l,?_,?_,?_⟩,?_⟩
 ·intro r u
  rcases cV.mp u with u|u
  ·obtain⟨p,C,rfl⟩:=bL.mp u
   have q:p.1∈j::i:=by rw[<-B];exact bL.mpr ⟨p,C,rfl⟩
   obtain⟨y,y1,y2,y3⟩:=yQ R.SE n p (by rw[I];exact C)
   obtain⟨t,Y,ey⟩:∃t∈j::i,y=bJ t:=y3.elim (λe=>⟨j,bO ..,e.trans T⟩) id
   have q1:qS v (bJ p.1) p.1 (p.2,z):=by
    refine KJ (n _ q) y1 (λe m x=>?_) λe m x=>?_
    ·rw[y2,ey]
     exact k1 t Y e (H e (jR.mpr ⟨_,q,m⟩)) (by rw[x,ey])
    ·exact N e (H e (jR.mpr ⟨_,q,m⟩)) λs k z=>Rp nd n k q (z▸x)
   have nr:(ring z p).Nodup:=(List.pairwise_flatten.mp (gX.mp (pv.nodup_iff.mpr X)).1).1 _ (bL.mpr ⟨p,C,rfl⟩);refine⟨(z,(bJ p.1).1),DM ⟨rfl,?_⟩ (by unfold ring;simp) nr,(dv _).mpr (.inr ⟨_,q, .inr rfl⟩)⟩
   rw[k3 _ q];exact tK.mpr ⟨(p.2,z),q1,rfl,O p C⟩
  ·refine kL.keep g G (λe m=>?_) (λe m=>(dv e).mpr (.inl m)) r u
   have de:=kL.dart g G e m;refine N e de λs k x=>?_
   have WC:fH w e∈l.flatten:=by
    obtain⟨r2,A,N8⟩:=jR.mp m;obtain⟨d2,R2,sA⟩:=G r2 A;exact jR.mpr ⟨r2,A,R2.iter N8 1⟩
   have hh:bJ s∈(j::i).flatten:=jR.mpr ⟨s,k,wU (n s k)⟩;exact(gX.mp ((Q.trans F).nodup_iff.mpr (eG g))).2.2 _ hh _ WC x.symm
 ·rw[v9]
  exact pv.trans pe
 ·rw[cI,aP,<-aP (f:=(·.1)) (as:=L),B,eX]
  omega
 ·have:=pe.length_eq
  rw[cI,cI,aP,aP,eX] at this;omega
theorem yP:∀{l:List (List Dt)},p∈iG b l->(∃A t B,l=A++p.1::t::B/\p.2=(bJ t).1)\/(∃A,l=A++ [p.1]/\p.2=b)
 | [],h=>nomatch h
 | [s],h=>by
  rw[iG,dX] at h;subst h;exact .inr ⟨[],rfl,rfl⟩
 |s::t::l,h=>by
  rw[iG,bT] at h
  rcases h with rfl|h
  ·exact .inl ⟨[],t,l,rfl,rfl⟩
  ·rcases yP h with ⟨A,c,B,e,a⟩ | ⟨A,e,a⟩
   ·exact .inl ⟨s::A,c,B,by rw[e];rfl,a⟩
   ·exact .inr ⟨s::A,by rw[e];rfl,a⟩
theorem FU(h:((a::d).map λs=>(bJ s).1).Nodup)(i:p∈iG (bJ a).1 (a::d)):aS ((a::d).map λs=>(bJ s).1).reverse p.2=(bJ p.1).1:=by
 have c:((a::d).map λs=>(bJ s).1).reverse.Nodup:=(List.reverse_perm _).nodup_iff.mpr h
 rcases yP i with ⟨A,t,B,e,f⟩ | ⟨A,e,f⟩
 ·rw[e] at c ⊢
  have g:((A++p.1::t::B).map λs=>(bJ s).1).reverse=(B.map λs=>(bJ s).1).reverse++(bJ t).1::(bJ p.1).1::(A.map λs=>(bJ s).1).reverse:=by simp
  rw[g] at c ⊢;rw[f];exact fU c
 ·rw[e] at c ⊢
  have g:((A++ [p.1]).map λs=>(bJ s).1).reverse=(bJ p.1).1::(A.map λs=>(bJ s).1).reverse:=by simp
  rw[g] at c ⊢;rw[f];cases A with
  |nil=>
   have:p.1=a:=by have:=(afs e).1;exact this.symm
   rw[this];unfold aS;simp
  |cons b A=>
   have j:a=b:=(afs e).1;have k:((b::A).map λs=>(bJ s).1).reverse=(A.map λs=>(bJ s).1).reverse++ [(bJ b).1]:=by simp
   rw[k] at c ⊢;rw[j];exact gU c
structure MI (w v:W) (hs:List Dt):Prop where
 len:v.length=w.length+1
 out:∀p,p<w.length->(∀h∈hs,h.1≠p)->row v p=row w p
 put:∀h∈hs,Hf (row w h.1) (row v h.1) h.2 w.length
 last:row v w.length=(hs.map (·.1)).reverse
theorem NG(g:Good w)(E:Good v)(R:fk w d (j::i).flatten)(A:bp w d)(r:∀s∈j::i,s≠ [])
  (B:((j::i).map λs=>(bJ s).1).Nodup) (h:MI w v ((j::i).map bJ)) (F:Fc w c):Fc v (c+i.length)/\(aZ v).length=(aZ w).length+2*(i.length+1):=by
 have G:∀e∈(j::i).flatten,bp w e:=R.aZ g A;have L:∀s∈j::i,bp w (bJ s):=λs b=>G _ (jR.mpr ⟨s,b,wU (r s b)⟩);have H:∀p,w.length∉row w p:=λp z=>by have:=g.rng p _ z;omega
 have m:∀s∈j::i,aS (row v (bJ s).1) w.length=(bJ s).2/\(∀x∈row w (bJ s).1,aS (row v (bJ s).1) x=if aS (row w (bJ s).1) x=(bJ s).2 then w.length else aS (row w (bJ s).1) x)/\∀x,x∈row v (bJ s).1↔x=w.length\/x∈row w (bJ s).1:=λs b=>by
  have:=(h.put _ (bL.mpr ⟨s,b,rfl⟩)).succ (g.nod _) (H _)
  exact⟨this.1,this.2.1,this.2.2.2.1⟩
 have I:d=bJ j:=by
  have:=R.SE
  cases j with
  |nil=>exact absurd rfl (r [] (bO ..))
  |cons a s=>exact this.1
 have t:row v w.length=((j::i).map λs=>(bJ s).1).reverse:=by rw[h.last,cG];rfl
 refine NF g E rfl R A r B (λe f k=>?_) (λs b e f k=>?_) (λp C=>?_) (λs b=>?_) (λe=>?_) F
 ·have q:=g.sym _ _ f
  have u:=bX q;unfold fH
  by_cases c:∃s∈j::i,(bJ s).1=e.2
  ·obtain⟨s,b,l⟩:=c
   have:=(m s b).2.1 e.1 (by rw[l];exact q)
   rw[l] at this;rw[this,AC];intro z;exact k s b (UF l.symm z)
  ·rw[h.out e.2 u λx n z=>?_]
   obtain⟨s,b,rfl⟩:=bL.mp n;exact c ⟨s,b,z⟩
 ·have q:=g.sym _ _ f
  have y:e.2=(bJ s).1:=KB Prod.fst k;have J:aS (row w e.2) e.1=(bJ s).2:=KB Prod.snd k
  have:=(m s b).2.1 e.1 (by rw[<-y];exact q)
  rw[<-y] at this;unfold fH;rw[this,tz J,y]
 ·unfold fH
  show(w.length,aS (row v w.length) p.2)=_;rw[t];rw[I] at C;rw[FU B C]
 ·exact UF rfl (m s b).1
 ·constructor
  ·intro f
   have u:=bX f;rw[h.len] at u
   by_cases c:e.1=w.length
   ·right
    have f:e.2∈row v e.1:=f;rw[c,t,ud] at f;obtain⟨s,b,l⟩:=bL.mp f;exact⟨s,b, .inr (UF c l.symm)⟩
   ·by_cases o:∃s∈j::i,(bJ s).1=e.1
    ·obtain⟨s,b,l⟩:=o
     have f:e.2∈row v e.1:=f;rw[<-l] at f
     rcases((m s b).2.2 _).mp f with x|x
     ·exact .inr ⟨s,b, .inl (UF l.symm x)⟩
     ·left;rw[l] at x;exact x
    ·left
     have f:e.2∈row v e.1:=f;rw[h.out e.1 (by omega) λx n z=>by obtain⟨s,b,rfl⟩:=bL.mp n;exact o ⟨s,b,z⟩] at f
     exact f
  ·rintro(f| ⟨s,b,rfl|rfl⟩)
   ·show e.2∈row v e.1
    by_cases o:∃s∈j::i,(bJ s).1=e.1
    ·obtain⟨s,b,l⟩:=o
     rw[<-l];exact((m s b).2.2 _).mpr (.inr (by rw[l];exact f))
    ·rw[h.out e.1 (bX f) λx n z=>by obtain⟨s,b,rfl⟩:=bL.mp n;exact o ⟨s,b,z⟩]
     exact f
   ·exact((m s b).2.2 _).mpr (.inl rfl)
   ·show(bJ s).1∈row v w.length
    rw[t,ud];exact bL.mpr ⟨s,b,rfl⟩
def kR(b a:List Dt):List Nat->List (List Dt)
 | []=> []
 | [k]=> [b.drop k++a]
 |k::c::l=>(b.drop k).take (c-k)::kR b a (c::l)
theorem ya(b a:List Dt):∀(k:Nat)(l:List Nat),(k::l).Pairwise (·<·)->(kR b a (k::l)).flatten=b.drop k++a
 |k,[],_=>by simp[kR]
 |k,c::l,h=>by
  have d:=Ej.mp h;have e:=d.1 c (bO ..);rw[kR,jA,ya b a c l d.2,<-jP]
  congr 1
  rw[show b.drop c=(b.drop k).drop (c-k) by rw[List.drop_drop];congr 1;omega,t7]
theorem Np{a:List Dt}{k:Nat}(h:k<a.length)(t:List Dt):bJ (a.drop k++t)=a.getD k (0,0)/\a.drop k++t≠ []:=by
 rw[qK h,b8,b9 h];exact⟨rfl,λz=>by rw[zF] at z;cases z⟩
theorem EM(b a:List Dt):∀(c:List Nat),c.Pairwise (·<·)->(∀k∈c,k<b.length)->(kR b a c).map bJ=(c.map λk=>b.getD k (0,0))/\∀s∈kR b a c,s≠ []
 | [],_,_=>⟨rfl,λs h=>nomatch h⟩
 | [k],_,lt=>by
  have:=Np (lt k (by simp)) a
  exact⟨by simp only[kR,dF,ae5];rw[this.1],λs h=>by rw[kR,dX] at h;rw[h];exact this.2⟩
 |k::d::l,h,lt=>by
  have g:=Ej.mp h;have q:=g.1 d (bO ..);have i:=EM b a (d::l) g.2 λx n=>lt x (bU _ n);have j:=lt k (by simp)
  obtain⟨m,o⟩:∃m,d-k=m+1:=⟨d-k-1,by omega⟩
  have e:(b.drop k).take (d-k)=b[k]::(b.drop (k+1)).take m:=by rw[qK j,o,List.take_succ_cons]
  refine⟨?_,λs f=>?_⟩
  ·have p:b.getD k (0,0)=b[k]:=by rw[b8,b9 j];rfl
   rw[kR,dF,i.1,e];show b[k]::_=b.getD k (0,0)::_;rw[p]
  ·rw[kR,bT] at f
   rcases f with rfl|f
   ·rw[e];simp
   ·exact i.2 s f
def Ep(w:W):Prop:=∃c,Fc w c/\2*(w.length+c)=gu w+4
theorem Md(g:Good w)(m:Good v)(R:fk w d a)(j:bp w d)(inc:(k::b).Pairwise (·<·))(lt:∀x∈k::b,x<a.length)
  (n:((k::b).map λx=>(a.getD x (0,0)).1).Nodup) (h:MI w v ((k::b).map λx=>a.getD x (0,0))) (P:Ep w):Ep v:=by
 obtain⟨c,F,e⟩:=P;have i:=lt k (bO ..);have R2:=R.XG g j i;have f:=EM a (a.take k) (k::b) inc lt;have o:=ya a (a.take k) k b inc;have p:bp w (a.getD k (0,0)):=R.aZ g j _ (by rw[b8,b9 i];exact pZ i)
 have l:(kR a (a.take k) (k::b)).length=b.length+1:=by have:=KB List.length f.1;rwa [aP,aP] at this
 rw[<-o] at R2;rw[<-f.1] at h
 have q:((kR a (a.take k) (k::b)).map λs=>(bJ s).1).Nodup:=by
  have:((kR a (a.take k) (k::b)).map λs=>(bJ s).1)=(k::b).map λx=>(a.getD x (0,0)).1:=by
   have:=KB (List.map (·.1)) f.1
   rw[cG,cG] at this;exact this
  rw[this];exact n
 generalize kR a (a.take k) (k::b)=S at*;cases S with
 |nil=>cases l
 |cons t u=>
  obtain⟨r,dl⟩:=NG g m R2 p f.2 q h F;refine⟨_,r,?_⟩;have y:=fN w;have z:=fN v;have A:=h.len;rw[eX] at l;omega
theorem rot_all(k:l.Nodup)(n:u∈l)(P:Nat->Prop)(s:P (aS l u))(h:∀x∈l,x≠u->P x->P (aS l x)):∀x∈l,P x:=by
 have t:0<l.length:=t6 n
 have at_:∀i,i<l.length->l.getD i 0∈l/\l[i]? =some (l.getD i 0):=λi f=>by
  have e:l[i]? =some (l.getD i 0):=by rw[b8,b9 f];rfl
  exact⟨fB e,e⟩
 have o:∀i,i<l.length->aS l (l.getD i 0)=l.getD ((i+1)%l.length) 0:=λi f=>by
  by_cases c:i+1<l.length
  ·rw[u5 k c,gY c]
  ·rw[JL k (by omega),show i+1=l.length by omega,rY]
 obtain⟨d,m,v⟩:=List.getElem_of_mem n;have p:l.getD d 0=u:=by rw[b8,b9 m];exact v
 have all:∀j,j<l.length->P (l.getD ((d+1+j)%l.length) 0):=by
  intro j
  induction j with
  |zero=>intro _;rw[<-o d m,p];exact s
  |succ j w=>
   intro B;have g:=qQ (d+1+j) t
   have q:=h _ (at_ _ g).1 (λz=>by
    have a:=(at_ _ g).2;have b:=(at_ _ m).2;rw[p] at b;rw[z] at a
    have:=(afv g k).mp (a.trans b.symm)
    by_cases c:d+1+j<l.length
    ·rw[gY c] at this;omega
    ·rw[Nat.mod_eq_sub_mod (by omega),gY (by omega)] at this;omega) (w (by omega))
   rw[o _ g] at q;rw[show(d+1+(j+1))%l.length=((d+1+j)%l.length+1)%l.length by rw[Nat.mod_add_mod];rfl]
   exact q
 intro x y;obtain⟨i,f,A⟩:=List.getElem_of_mem y;have r:l.getD i 0=x:=by rw[b8,b9 f];exact A
 by_cases c:d<i
 ·have:=all (i-d-1) (by omega)
  rw[show d+1+(i-d-1)=i by omega,gY f,r] at this;exact this
 ·have:=all (i+l.length-d-1) (by omega)
  rw[show d+1+(i+l.length-d-1)=i+l.length by omega,aeB,gY f,r] at this;exact this
theorem zt(a:l.Nodup)(b:x∈l)(e:aS l x=x):∀y∈l,y=x:=
 rot_all a b (λy=>y=x) e λy _ ne h=>absurd h ne
theorem Jx(g:Good w)(u:3<=w.length)(R:fk w d r)(f:bp w d):3<=r.length:=by
 obtain⟨k,v,j,x,rfl⟩:=R;rw[dh];refine FB λh=>?_;have l:=g.sym _ _ f;have t:=bX f;have y:=bX l
 by_cases c:k=1
 ·subst c
  have:fH w d=d:=j
  have e:d.2=d.1:=KB Prod.fst this;exact g.irr d.1 (by have:=f;unfold bp at this;rwa [e] at this)
 ·obtain rfl:k=2:=by omega
  have e:fH w (fH w d)=d:=j;have m:aS (row w d.2) d.1=d.1:=KB Prod.fst e;have n:aS (row w (aS (row w d.2) d.1)) d.2=d.2:=KB Prod.snd e;rw[m] at n;have o:=zt (g.nod _) l m;have s:=zt (g.nod _) f n
  by_cases z:0=d.1\/0=d.2
  ·have a:=kQ g (S:=λp=>p=d.1\/p=d.2) z (λp q i b=>by
    rcases i with rfl|rfl
    ·exact .inr (s q b)
    ·exact .inl (o q b))
   have A:=a 0 (by omega)
   have B:=a 1 (by omega)
   have C:=a 2 (by omega)
   omega
  ·have a:=kQ g (S:=λp=>p≠d.1/\p≠d.2) ⟨λh=>z (.inl h),λh=>z (.inr h)⟩ (λp q i b=>⟨λh=>?_,λh=>?_⟩)
   ·exact(a d.1 t).1 rfl
   ·have:=g.sym _ _ b
    rw[h] at this;exact i.2 (s p this)
   ·have:=g.sym _ _ b
    rw[h] at this;exact i.1 (o p this)
theorem vC:∀a:List (List Dt),(∀r∈a,3<=r.length)->3*a.length<=a.flatten.length
 | [],_=>bK _
 |r::a,h=>by
  have:=vC a λx b=>h x (bU _ b)
  have:=h r (bO ..)
  rw[jA,cI,eX];omega
theorem Pp(g:Good w)(a:3<=w.length)(P:Ep w):gu w+12<=6*w.length:=by
 rfl';obtain⟨c,⟨f,h,i,m⟩,e⟩:=P;ac_rfl
 have:=vC f λr j=>by
  obtain⟨d,R,k⟩:=h r j;exact Jx g a R k
 rw[i.length_eq,fN] at this;omega
theorem Pq:Ep [[1],[0]]:=by
 refine⟨1,⟨[[(0,1),(1,0)]],λr a=>?_,?_,rfl⟩,rfl⟩
 ·rw[dX] at a
  subst a;exact⟨(0,1),DM ⟨rfl,rfl,rfl⟩ (by simp) (by decide),(by decide:(1:Nat)∈([1]:List Nat))⟩
 ·exact .refl _
theorem Gi(h:x∈l):Hf l (ins l (l.idxOf x+1) z) (aS l x) z:=by
 have b:=v7.mpr h;have a:=nq h
 by_cases c:l.idxOf x+1<l.length
 ·rw[gY c] at a
  exact PF a
 ·have e:l.idxOf x+1=l.length:=by omega
  rw[e,rY] at a;rw[e];exact PD a
theorem Mn(h:fk w d r)(a:k<r.length):r.getD k (0,0)=fH w (r.getD ((k+(r.length-1))%r.length) (0,0)):=by
 have b:(k+(r.length-1))%r.length<r.length:=qQ _ (by omega)
 have:=PX h b
 rw[<-this]
 congr 1
 by_cases c:k=0
 ·subst c
  rw[qO,gY (show r.length-1<r.length by omega),show r.length-1+1=r.length by omega,rY]
 ·rw[show k+(r.length-1)=(k-1)+r.length by omega,aeB,gY (show k-1<r.length by omega),show k-1+1=k by omega,gY a]
end Wb
set_option maxHeartbeats 4000000
namespace Hc
open PySem L2 Wb
variable {P:Program} {w:World} {mg:Str->Option Value} {base:Heap} {Z:DC} (T:Txt Z mg)
open Wy
theorem oQ(a b:Int)(h:0<b):0<=a%b/\a%b<b:=⟨afO _ (by omega),afi _ h⟩
theorem E6{P:D->Prop}(h:P (.bl (decide (i=j)))):dC (.int j) a (λb=>Ht (.int i) b P):=EN h
theorem Bx(w:W)(i:Nat)(r:List Nat):(w.map au).set i (au r)=(w.set i r).map au:=by rw[ae8]
theorem mQ(l:List a)(k:Nat)(h:k<=l.length):cutD l (some (k:Int)) none=l.drop k:=by
 unfold cutD
 have b:HT.ck l.length 0 (some (k:Int))=k:=by
  simp only[HT.ck]
  split<;>omega
 have c:HT.ck l.length l.length none=l.length:=rfl;rw[b,c];exact af1 (by simp)
theorem kv{w:W}(h:p<w.length):gL (w.map au) (p:Int)=some (au (row w p)):=iV (tZ h)
theorem gz{a:List Nat}{p:Nat}(h:p<a.length):gL (a.map aq) (p:Int)=some (aq (a.getD p 0)):=iV (by rw[eO,b8,b9 h];rfl)
theorem jZ(I:Nat->DN->Prop)(c:I 0 a)(d:∀(j:Nat)(a:DN),j<n->I j a->∀A:DN->Prop,(∀a,I (j+1) a->A a)->g (aq j) a λe=>b {nx:=A,ct:=A,bk:=E.nx,rt:=E.rt,xc:=E.xc} e)
  (f:∀a,I n a->E.nx a):kU g b E (cJ 0 n) a:=NM I c (λj a i h A k=>by
 have:=d j a i h A k
 unfold aq at this;rw[Int.zero_add];exact this) f
def BL(n:Nat)(a:List Nat):Prop:=a.length=n/\a.Nodup/\∀x∈a,x<n
theorem fR(N:BL n a)(h:x<n):x∈a:=by
 apply FB;intro c
 have:(x::a).length<=(List.range n).length:=bf (gF.mpr ⟨c,N.2.1⟩) λy b=>by
  rcases bT.mp b with rfl|b
  ·exact dY.mpr h
  ·exact dY.mpr (N.2.2 y b)
 rw[pY,eX,N.1] at this;omega
theorem wZ:∀(b:List Nat)(m:Nat),m<b.idxOf x->b[m]? ≠some x
 | [],m,h=>by simp at h
 |a::b,m,h=>by
  rw[List.idxOf_cons] at h
  by_cases e:(a==x)=true
  ·rw[e] at h;simp at h
  ·rw[ua.mpr e] at h
   cases m with
   |zero=>intro z;simp at z;exact e (by simp[z])
   |succ m=>rw[v8];exact wZ b m (by simpa using h)
theorem Ip{a:List Nat}{x:Nat}{P:D->Prop}(h:x∈a)(q:P (aq (a.idxOf x))):fq (aq x)=true/\(a.map aq).all fq=true/\∃(j:Nat)(z:D),(a.map aq)[j]? =some z/\kS z (aq x)=true/\(∀(m:Nat) z,m<j->(a.map aq)[m]? =some z->kS z (aq x)=false)/\P (.int (j:Nat)):=by
 have b:=v7.mpr h;have e:a[a.idxOf x]? =some x:=by rw[b9 b];exact KB some (BE b)
 refine⟨rfl,dH _,a.idxOf x,aq x,by rw[eO,e];rfl,by simp[kS,aq],λm z c d=>?_,q⟩
 obtain⟨y,f,rfl⟩:=cC d
 have:y≠x:=by
  rintro rfl;exact wZ _ _ c f
 have:¬((y:Int)=(x:Int)):=by omega
 simpa [kS,aq] using this
theorem fw{a:List Nat}{x:Nat}(h:x∈a):(a.map aq)[a.idxOf x]? =some (aq x)/\kS (aq x) (aq x)=true/\∀(m:Nat) z,m<a.idxOf x->(a.map aq)[m]? =some z->kS z (aq x)=false:=by
 have:=Ip (P:=λd=>d=aq (a.idxOf x)) h rfl
 obtain⟨_,_,j,z,i,k,l,n⟩:=this;have b:=v7.mpr h;have e:a[a.idxOf x]? =some x:=by rw[b9 b];exact KB some (BE b)
 refine⟨by rw[eO,e];rfl,by simp[kS,aq],λm z c f=>?_⟩
 obtain⟨y,g,rfl⟩:=cC f
 have:y≠x:=by
  rintro rfl;exact wZ _ _ c g
 have:¬((y:Int)=(x:Int)):=by omega
 simpa [kS,aq] using this
theorem zd(n:Nat):cJ 0 n=(List.range n).map λ(x:Nat)=>aq x:=by unfold cJ aq;simp
theorem rK{g:b->PyData}(h:∀a,(f a).py=some (g a)):∀l:List b,iI (l.map f)=some (l.map g)
 | []=>rfl
 |a::l=>by
  have:=rK h l
  rw[dF,iI,h a,this];rfl
theorem tL(r:List Nat):(au r).py=some (nM r):=by
 unfold au nM;rw[D.py,rK (g:=nD) (λn=>rfl)];rfl
theorem KL(w:W):(aO w).py=some (tY w):=by
 unfold aO tY;rw[D.py,rK (g:=nM) tL];rfl
theorem EO{v w:W}{P:D->Prop}(h:P (.bl (decide (v=w)))):Ht (aO v) (aO w) P:=by
 refine⟨_,_,KL v,KL w,by have:=EY v;omega,?_⟩
 have:PyData.eqv (tY v) (tY w)=decide (v=w):=by
  by_cases e:v=w
  ·rw[KM e];exact(AI v w).mpr e
  ·rw[Gc e]
   apply ua.mpr;exact λz=>e ((AI v w).mp z)
 rw[AC cQ,this];exact h
theorem E7(a b:List Nat):PyData.eqv (nM a) (nM b)=decide (a=b):=by
 by_cases e:a=b
 ·rw[KM e];exact(uv a b).mpr e
 ·rw[Gc e]
  apply ua.mpr;exact λz=>e ((uv a b).mp z)
theorem M6{v w:List Nat}{P:D->Prop}(h:P (.bl (decide (v=w)))):Ht (au v) (au w) P:=by
 refine⟨_,_,tL v,tL w,by have:=oF v;omega,?_⟩
 rw[AC cQ,E7];exact h
theorem ES{v w:List Nat}{P:D->Prop}(h:P (.bl (!decide (v=w)))):uk (au v) (au w) P:=by
 refine⟨_,_,tL v,tL w,by have:=oF v;omega,?_⟩
 rw[tz rfl,E7];exact h
variable {P:Program} {w:World} {mg:Str->Option Value} {base:Heap} {Z:DC} (T:Txt Z mg)
def rF(k:Nat×Nat):PyData:= .tuple [nD k.1,nD k.2]
theorem PL(k:Nat×Nat):(pairD k).py=some (rF k):=by
 unfold pairD;rw[D.py,iI,iI,iI];rfl
theorem AH(a b:Nat×Nat):PyData.eqv (rF a) (rF b)=true↔a=b:=by
 unfold rF nD;simp[PyData.eqv,PyData.eqvAll]
 constructor
 ·rintro⟨c,d⟩;exact UF (by omega) (by omega)
 ·rintro rfl;exact⟨rfl,rfl⟩
variable {P:Program} {w:World} {mg:Str->Option Value} {base:Heap} {Z:DC} (T:Txt Z mg)
def zz(d:Nat×Nat):Int×Int:=(d.1,d.2)
theorem Tz(h:zz a=zz b):a=b:=UF (by have:=(aef h).1;omega) (by have:=(aef h).2;omega)
theorem xj{d:Nat×Nat}{l:List (Nat×Nat)}:zz d∈l.map zz↔d∈l:=by
 rw[bL];exact⟨λ⟨a,b,e⟩=>by rw[<-Tz e];exact b,λh=>⟨d,h,rfl⟩⟩
def S0:cx:=λb P=>∃(w:W),b= [.dN w]/\Good w/\w.length<=14/\gu w<64/\∀a:List (Nat×Nat),a.Perm (jV (row w) w.length)->a.Pairwise lexLe->P (.lst (a.map pairD))
theorem UK(I:DN->Prop)(J:o->DN->Prop)(m:o->D)(f:o->List u)(v:u->D)(p:o->u->Bool)(k:o->u->B)(i:B->D)(G:∀y H,J y H->I H):∀(l:List o)(j:DN)(a:List B)(P:List D->Prop),
  (∀y∈l,∀j,I j->∀(Y:DN->List D->Prop),(∀d,J y d->Y d ((f y).map v))->g (m y) j λd=>A d (Y d))->
  (∀y∈l,∀b∈f y,∀j,J y j->∀(Y:DN->D->Prop)(x:DN->Prop),(∀d,J y d->p y b=true->Y d (i (k y b)))->(∀d,J y d->p y b=false->x d)->r (v b) j λd=>s d λc=>if c=true then t d (Y d) else x d)->
  I j->a.length+(l.flatMap λy=>((f y).filter (p y)).map (k y)).length<=sizeLine->(∀y∈l,a.length+(l.flatMap λy=>((f y).filter (p y)).map (k y)).length+(f y).length<=sizeLine)->P ((a++l.flatMap λy=>((f y).filter (p y)).map (k y)).map i)->nH g ml A r s t (l.map m) j (a.map i) P
 | [],j,a,P,_,_,L,_,_,h=>by
  show P (a.map i);simpa using h
 |y::l,j,a,P,M,N,L,n,O,h=>by
  have C:=O y (bO ..);rw[t9,cI] at n C;refine M y (bO ..) j L (λd Q=>lcW r s t Q d (a.map i) λq R=>nH g ml A r s t (l.map m) q R P) λd E=>?_;refine kY (J y) v (p y) (λb=>i (k y b)) (f y) d (a.map i) _ (λb U q F Y x X w=>?_) E (by rw[aP];omega) λq F=>?_
  ·exact N y (bO ..) b U q F Y x X w
  ·have e:a.map i++((f y).filter (p y)).map (λb=>i (k y b))=(a++((f y).filter (p y)).map (k y)).map i:=by rw[cR,cG];rfl
   rw[e];refine UK I J m f v p k i G l q (a++((f y).filter (p y)).map (k y)) P (λz n=>M z (bU _ n)) (λz n=>N z (bU _ n)) (G y q F) (by rw[cI];omega) (λz n=>?_) ?_
   ·have:=O z (bU _ n)
    rw[t9,cI] at this;rw[cI];omega
   ·rw[t9] at h
    rw[jP];exact h
theorem mZ:FnOk P w Z.K mg base bZ 1 T.m_ties.f T.m_ties.fd ["self"] (aT Z S0):=by
 have M:=tO.nd;refine bc T.m_ties.F tO [0] (by decide) (λu R h=>by obtain⟨_,rfl,_⟩:=h;rfl) (λN A outer s H E u R v h=>?_)
 have x:=v.units;refine⟨_,(ao (aK (aI (xS x) rfl T.B.sorted qV (ae (Q0 (NC:= ["p","row","q"]) (src:= [none,none,none]) rfl (lE (ar lq)) trivial (e8 rfl T.B.enumerate (ae (sC T.W (aa 0)) ag)) (λ_ _ _=>(sE 2 rfl (fD (bx 0 (show(["p","row","q"]:List Str).Nodup from by decide+kernel)) (fD (bx 1 (show(["p","row","q"]:List Str).Nodup from by decide+kernel)) oG)))) (λ_ _ _=>cz) (λ_ _ _=>(bC (aa 1))) (λ_ _ _=>(bx 2 (show(["p","row","q"]:List Str).Nodup from by decide+kernel))) (λ_ _ _=>(sF (aQ uM (aa 0) (aa 2) (bq _)))) (λ_ _ _=>(dP (ae (aa 0) (ae (aa 2) ag))))) ag)))),?_⟩
 obtain⟨a,rfl,g,O,Q,q⟩:=h;have U:=zw g
 have z:iw (a.map au)=(List.range a.length).map λ(j:Nat)=>D.tup [.int (j:Int),au (row a j)]:=by
  refine qN λj=>?_;rw[eO]
  by_cases lt:j<a.length
  ·rw[pV lt]
   cases e:(iw (a.map au))[j]? with
   |none=>
    have:=List.getElem?_eq_none_iff.mp e
    rw[i7,aP] at this;omega
   |some d=>rw[(Bw e).2];rfl
  ·rw[eM (by rw[i7,aP];omega),eM (by rw[pY];omega)];rfl
 have k:((List.range a.length).flatMap λp=>((row a p).filter λq=>decide (p<q)).map λq=>(p,q))=jV (row a) a.length:=rfl
 have C:∀n,n<=a.length->(jV (row a) n).length<=n*14:=λn=>by
  induction n with
  |zero=>intro _;exact bK _
  |succ n G=>
   intro h
   have:=G (by omega)
   have X:=gB g n;have h3:=aeX (λq=>decide (n<q)) (row a n);unfold jV at this ⊢;rw[afN,List.flatMap_append,cI];simp only[t9,List.flatMap_nil,fJ,aP];omega
 have I:=C a.length (bK _);refine⟨_,rfl,a,rfl,?_⟩;refine(?_:nH _ _ _ _ _ _ (iw (a.map au)) _ _ _);rw[z];refine UK (λi=>∃o r c,i= [o,r,c]) (λp i=>∃c,i= [some (aq p),some (au (row a p)),c]) _ (λp=>row a p) aq (λp q=>decide (p<q)) (λp q=>(p,q)) pairD (λy i ⟨c,e⟩=>⟨_,_,_,e⟩) (List.range a.length) _ [] _ (λp t J l Y m=>?_) (λp t b hb J l Y Nn m L=>?_) ⟨none,none,none,rfl⟩ ?_ (λp t=>?_) ?_
 ·obtain⟨o,r,c,rfl⟩:=l
  exact⟨rfl,rfl,_,rfl,m _ ⟨_,rfl⟩⟩
 ·obtain⟨c,rfl⟩:=l
  refine⟨_,rfl,_,rfl,_,rfl,?_⟩;refine(?_:if decide ((p:Int)<(b:Int))=true then _ else _);rw[show decide ((p:Int)<(b:Int))=decide (p<b) from aeS.mpr (by omega)]
  exact bF (λe=>⟨_,rfl,_,rfl,by show 2<=sizeLine;decide,m _ ⟨_,rfl⟩ e⟩) (λe=>L _ ⟨_,rfl⟩ e)
 ·rw[k,lD,qO];exact small (by omega)
 ·have:=gB g p
  rw[k,lD,qO];exact small (by omega)
 ·rw[k,nX]
  exact⟨_,rfl,by omega,q⟩
def Mr:cx:=λa P=>∃(w:W)(p q:Nat),a= [.dN w,aq p,aq q]/\Good w/\q∈row w p/\P (aq (aS (row w p) q))
theorem oU:FnOk P w Z.K mg base bZ 1 T.m_behind.f T.m_behind.fd ["self","p","q"] (aT Z Mr):=by
 have k:=pB.nd;refine bc T.m_behind.F pB [0,0,0,0] (by decide) (λl R h=>by obtain⟨_,_,_,rfl,_⟩:=h;rfl) (λt A outer s H E l R m h=>?_)
 have u:=m.units
 refine⟨_,(ah (aJ false 3 k (bH (sC T.W (aa 0)) (aa 1)))
   (ao (aK (bH (aa 3) (az cZ (az ba (p8 (aa 3) (aa 2)) aw) (aI bE rfl T.B.len bD (ae (aa 3) ag))))))),?_⟩
 obtain⟨a,p,b,rfl,g,c,q⟩:=h;have n:=bX c;have v:=gB g p;have e:((row a p).map aq).length=(row a p).length:=aP _;have d:0<(row a p).length:=t6 c;have o:(0:Int)<(((row a p).map aq).length:Int):=by rw[e];omega
 refine⟨_,rfl,a,rfl,_,rfl,_,kv n,trivial,?_⟩;refine⟨_,rfl,_,rfl,_,rfl,_,rfl,rfl,dH _,_,_,(fw c).1,(fw c).2.1,(fw c).2.2,?_⟩;refine⟨_,rfl,o,?_⟩;have em:(((row a p).idxOf b:Nat):Int)+1=(((row a p).idxOf b+1:Nat):Int):=by omega
 have r:((((row a p).idxOf b:Nat):Int)+1)%(((row a p).map aq).length:Int)=((((row a p).idxOf b+1)%(row a p).length:Nat):Int):=by rw[e,em,Int.natCast_emod]
 refine⟨aq (aS (row a p) b),?_,q⟩;show gL ((row a p).map aq) ((λi j=>i%j) _ _)=_;dsimp only;rw[r];exact gz (qQ _ d)
theorem Ld{P:D->Prop}(h:P (.bl (!decide (a=b)))):uk (pairD a) (pairD b) P:=by
 refine⟨_,_,PL a,PL b,by unfold rF nD;simp[PyData.depth,PyData.depthAll],?_⟩
 have:PyData.eqv (rF a) (rF b)=decide (a=b):=by
  by_cases e:a=b
  ·rw[KM e];exact(AH a b).mpr e
  ·rw[Gc e]
   apply ua.mpr;exact λz=>e ((AH a b).mp z)
 rw[tz rfl,this];exact h
def Qg:cx:=λa P=>∃(w:W)(d:Nat×Nat),a= [.dN w,pairD d]/\Good w/\w.length<=14/\bp w d/\∀r,fk w d r->P (.lst (r.map pairD))
theorem y0:FnOk P w Z.K mg base bZ 2 T.d_round_from.f T.d_round_from.fd ["web","side"] (aT Z Qg):=by
 have i:=pM.nd;refine bc T.d_round_from.F pM [0,0,1,0,0] (by decide) (λv R h=>by obtain⟨_,_,rfl,_⟩:=h;rfl) (λB A outer s H E v R n h=>?_)
 have x:=n.units
 refine⟨_,(ah (eJ 2 i (fm (ae (aa 1) ag)))
   (ah (Kn (aa 1) (fo 2 rfl (aV (aE 3 i) (aV (aE 4 i) cL))))
   (ah (Ko 3 4 rfl i (ae (aa 4) (ae (EW T.W (aa 0) T.m_behind.m (oU T) (n.mono (by decide)) T.m_behind.b (ae (aa 4) (ae (aa 3) ag))) ag)))
   (ah (qf FM (aQ (lL x) (dP (ae (aa 3) (ae (aa 4) ag))) (aa 1) (bq _)) (ah (eY false 2 (dP (ae (aa 3) (ae (aa 4) ag))))
   (ao (Ko 3 4 rfl i (ae (aa 4) (ae (EW T.W (aa 0) T.m_behind.m (oU T) (n.mono (by decide)) T.m_behind.b (ae (aa 4) (ae (aa 3) ag))) ag))))))
   (ao (aK (aa 2))))))),?_⟩
 obtain⟨a,d,rfl,g,t,o,q⟩:=h;have C:=iW g;have G:a.length*a.length<=14*14:=wa t t;refine⟨_,rfl,by show 1<=sizeLine;decide,?_⟩
 refine⟨_,rfl,rfl,rfl,?_⟩;refine⟨_,rfl,_,rfl,a,rfl,_,rfl,_,rfl,a,d.2,d.1,rfl,g,g.sym _ _ o,_,_,rfl,?_⟩;refine nB (λm y=>∃k,0<k/\m+k=(aZ a).length+1/\(∀j,0<j->j<k->bh a j d≠d)/\y= [some (.dN a),some (pairD d),some (.lst ((walk a d k).map pairD)),some (aq (bh a k d).1),some (aq (bh a k d).2)]) (aZ a).length ⟨1,by omega,rfl,λj l u=>by omega,rfl⟩ ?_
 rintro m _ ⟨k,z,I,p,rfl⟩;have r:=cY g o k;refine⟨_,rfl,_,rfl,by show 2<=sizeLine;decide,_,rfl,?_⟩
 refine(?_:uk (pairD (bh a k d)) (pairD d) _);refine Ld ⟨_,rfl,bF (λe=>?_) (λe=>?_)⟩
 ·have ne:bh a k d≠d:=by simpa using e
  have lt:k<(aZ a).length:=by
   have:=zC g o (k:=k+1) λj l u=>by
    by_cases c:j=k
    ·subst c;exact ne
    ·exact p j l (by omega)
   omega
  refine⟨_,rfl,_,rfl,_,rfl,by show 2<=sizeLine;decide,trivial,cj (by rw[aP,dh];omega),?_⟩
  refine⟨_,rfl,_,rfl,a,rfl,_,rfl,_,rfl,a,(bh a k d).2,(bh a k d).1,rfl,g,g.sym _ _ r,_,_,rfl,?_⟩;refine⟨m-1,by omega,k+1,by omega,by omega,λj l u=>?_,?_⟩
  ·by_cases c:j=k
   ·subst c;exact ne
   ·exact p j l (by omega)
  ·rw[rV,cR];rfl
 ·have e:bh a k d=d:=by simpa using e
  exact⟨_,rfl,q _ ⟨k,z,e,p,rfl⟩⟩
def wW(a:List (List (Nat×Nat))):D:= .lst ((a.map λr=>r.map (·.1)).map au)
def Qc:cx:=λb P=>∃(w:W),b= [.dN w]/\Good w/\1<=w.length/\w.length<=14/\gu w<64/\(w.length=1->P (.lst [au [0]]))/\(2<=w.length->∀a,cS w a->lJ w=iA a->P (.lst ((lJ w).map au)))
theorem LJ(h:d∉l):Fx (l.map zz) (zz d)=(l++ [d]).map zz:=by
 unfold Fx;rw[AC (λz=>h (xj.mp z)),cR];rfl
theorem Jk:FnOk P w Z.K mg base bZ 3 T.d_lands.f T.d_lands.fd ["web"] (fQ Z 2 Qc):=by
 have I:=Bq.nd;refine qh 2 T.d_lands.F Bq [0,98,2,0,0,0] (by decide) (λv R h=>by obtain⟨_,rfl,_⟩:=h;rfl) (λbb A outer s H E v R o h=>?_)
 have J:=o.units
 refine⟨_,(ah (bA (aQ (ku J) (cD T.W (aa 0) T.m_many.m (dE T) (o.mono (by decide)) T.m_many.b) aw (bq _)) (ao (E1 (Q3 (fm (ae aw ag))))) aM)
   (ah (Lm 1 I rfl T.x_set)
   (ah (eJ 2 I (Nk 1))
   (ah (b6 rfl FM (bC (aI (xS J) rfl T.B.sorted qV (ae (az ba (cD T.W (aa 0) T.m_ties.m (mZ T) (o.mono (by decide)) T.m_ties.b) (oE (NC:= ["a","b"]) (src:= [none,none]) rfl (lE (ar pA)) trivial (bC (cD T.W (aa 0) T.m_ties.m (mZ T) (o.mono (by decide)) T.m_ties.b)) (λ_ _ _=>(sE 2 rfl (fD (bx 0 (show(["a","b"]:List Str).Nodup from by decide+kernel)) (fD (bx 1 (show(["a","b"]:List Str).Nodup from by decide+kernel)) oG)))) (λ_ _ _=>cz) (λ_ _ _=>(dP (ae (aa 1) (ae (aa 0) ag)))))) ag))) (aE 3 I) (ao (bA (aQ (Ji J) (aa 3) (aa 1) (by with_unfolding_all rfl)) (ah (aJ false 4 I (aH T.d_round_from (y0 T) o (ae (aa 0) (ae (aa 3) ag))))
   (ah (b6 rfl FM (bC (aa 4)) (aE 5 I) (ao (Nq false 1 J (aa 5))))
   (ao (Lj 2 (V4 (NC:= ["p","q"]) (src:= [none,none]) rfl (lE (ar pA)) trivial (bC (aa 4)) (λ_ _ _=>(sE 2 rfl (fD (bx 0 (show(["p","q"]:List Str).Nodup from by decide+kernel)) (fD (bx 1 (show(["p","q"]:List Str).Nodup from by decide+kernel)) oG)))) (λ_ _ _=>cz) (λ_ _ _=>(aa 0))))))) aM)))
   (ao (E3 2 J rfl T.B.sorted)))))),?_⟩
 obtain⟨n,rfl,g,h1,L,oz,q1,q2⟩:=h;have c1:=iW g;have c3:=fN n;have c2:n.length*n.length<=14*14:=wa L L;have lw:(n.map au).length=n.length:=aP _;refine⟨_,rfl,n,rfl,n,rfl,?_⟩;refine E6 ⟨_,rfl,bF (λe=>?_) (λe=>?_)⟩
 ·have e:n.length=1:=by have:=GM e;omega
  exact⟨by show 1<=sizeLine;decide,q1 e⟩
 have n2:2<=n.length:=by have:=KF e;omega
 refine⟨by show 0<=sizeLine;decide,?_⟩
 refine⟨_,rfl,n,rfl,n,rfl,g,L,oz,λts G X=>?_⟩;have tl:=zw g;rw[<-fN] at tl;have tl2:=G.length_eq;refine⟨_,rfl,n,rfl,n,rfl,g,L,oz,λy Sw US=>?_⟩;have e2:y=ts:=afJ (λ_ _ _ _=>A3) US X (Sw.trans G.symm);subst e2;refine kY (λC=>∃N O,C= [N,O]) pairD (λ_=>true) (λt=>pairD (t.2,t.1)) y _ [] _ (λt ht aF Q Y Nn hY hN=>?_) ⟨none,none,rfl⟩ (by rw[lD,qO];exact small (by omega)) λaF Q=>?_
 ·obtain⟨N,O,rfl⟩:=Q
  exact⟨rfl,rfl,QB ⟨_,rfl,_,rfl,by show 2<=sizeLine;decide,hY _ ⟨_,_,rfl⟩ rfl⟩⟩
 have pd:=xN g G;have pl:=pd.length_eq;rw[cI,aP] at pl;have ef:y.filter (λ_=>true)=y:=by simp
 rw[nX,ef];refine⟨by rw[aP,aP];exact small (by omega),?_⟩
 have ej:(.lst (y.map pairD++y.map λt=>pairD (t.2,t.1)):D)= .lst ((y++y.map λt=>(t.2,t.1)).map pairD):=by rw[cR,cG];rfl
 dsimp only[qz];rw[ej];refine⟨_,rfl,by rw[cI,aP];omega,λv Sx adu=>?_⟩
 have Sx:=Sx.trans pd;have all:∀e,bp n e->e∈v:=λe h=>Sx.mem_iff.mpr (bI.mpr h);have dart:∀e∈v,bp n e:=λe h=>bI.mp (Sx.mem_iff.mp h);clear G Sw X US ej pd ef;refine bQ (λi C=>∃(j:List (List (Nat×Nat)))(o3 o4 q:Option D),C= [some (.dN n),some (.x (.tJ (gM w) (j.flatten.map zz))),some (wW j),o3,o4,q]/\Wk n v i j) ⟨[],none,none,none,rfl,Wk.zero n v⟩ ?_ ?_
 ·rintro i d _ hd ⟨j,o3,o4,q,rfl,hw⟩ A hA
  obtain⟨e,he,rfl⟩:=cC hd;have de:=dart e (fB he);refine⟨_,rfl,_,rfl,zz e,j.flatten.map zz,rfl,rfl,_,rfl,?_⟩;refine(?_:if (if true=true then !decide (zz e∈j.flatten.map zz) else _)=true then _ else _);rw[tz rfl,show decide (zz e∈j.flatten.map zz)=decide (e∈j.flatten) from aeS.mpr xj]
  have sub:∀x∈j.flatten,x∈aZ n:=λx u=>by
   obtain⟨r,o,hxr⟩:=jR.mp u;obtain⟨d,R,dd,_⟩:=hw.rnd r o;exact bI.mpr (R.aZ g dd x hxr)
  have fl:=bf hw.nod sub;refine bF (λc=>?_) (λc=>?_)
  ·have c:e∉j.flatten:=by simpa using c
   refine⟨_,rfl,_,rfl,n,e,rfl,g,L,de,λr R=>⟨trivial,?_⟩⟩;have U:=hw.take g all dart adu he c R;have rd:∀x∈r,x∈aZ n:=λx u=>bI.mpr (R.aZ g de x u);have rl:=bf (R.nodup g de) rd;have Xc:(j.flatten++r).Nodup:=by have:=U.nod;rw[v9] at this;simpa using this
   have fl2:(j.flatten++r).length<=(aZ n).length:=bf Xc λx u=>(cV.mp u).elim (sub x) (rd x);rw[cI] at fl2;refine⟨_,rfl,?_⟩;refine bQ (λk C=>∃q,C= [some (.dN n),some (.x (.tJ (gM w) ((j.flatten++r.take k).map zz))),some (wW j),some (pairD e),some (.lst (r.map pairD)),q]) ⟨q,by rw[List.take_zero,fJ];rfl⟩ ?_ ?_
   ·rintro k d _ hd ⟨q,rfl⟩ A hA
    obtain⟨x,u,rfl⟩:=cC hd;have hk:=(dS.mp u).1;have tk:r.take (k+1)=r.take k++ [x]:=by rw[zN,u];rfl
    have nx:x∉j.flatten++r.take k:=λz=>by
     have sp:j.flatten++r=(j.flatten++r.take k)++(x::r.drop (k+1)):=by
      rw[jP,<-dS.mp u|>.2,List.getElem_cons_drop,t7]
     rw[sp] at Xc;exact(gX.mp Xc).2.2 x z x (bO ..) rfl
    refine⟨_,rfl,_,rfl,zz x,rfl,by rw[aP,cI,jQ];omega,?_⟩
    rw[LJ nx,jP,<-tk];exact hA _ ⟨_,rfl⟩
   ·rintro _ ⟨q,rfl⟩
    rw[aP,BH]
    have dl:j.length<=300:=by
     have h:∀p:List (List (Nat×Nat)),(∀r∈p,r≠ [])->p.length<=p.flatten.length:=λp=>by
      induction p with
      |nil=>intro _;exact bK _
      |cons a l ih=>
       intro h;have h1:=GX.mpr (h a (bO ..));have h2:=ih λr o=>h r (bU _ o);rw[jA,cI,eX];omega
     have:=h j λr o z=>by
      obtain⟨d,R,_,_⟩:=hw.rnd r o
      have:=R.first
      rw[z] at this;cases this
     omega
    refine⟨_,rfl,_,rfl,?_⟩;refine kY (λC=>∃N O,C= [N,O]) pairD (λ_=>true) (λt=>aq t.1) r _ [] _ (λt ht aF Q Y Nn hY hN=>?_) ⟨none,none,rfl⟩ (by rw[lD,qO];exact small (by omega)) λaF Q=>?_
    ·obtain⟨N,O,rfl⟩:=Q
     exact⟨rfl,rfl,QB ⟨_,rfl,hY _ ⟨_,_,rfl⟩ rfl⟩⟩
    rw[nX,show r.filter (λ_=>true)=r by simp]
    refine⟨cj (by rw[aP,aP];omega),?_⟩
    refine hA _ ⟨j++ [r],some (pairD e),some (.lst (r.map pairD)),q,?_,U⟩
    have e1:wW (j++ [r])= .lst ((j.map λr=>r.map (·.1)).map au++ [.lst (r.map λt=>aq t.1)]):=by
     unfold wW au;rw[cR,cR];simp only[dF,ae5,cG];rfl
    rw[e1,v9,show[r].flatten=r by simp];rfl
  ·have c:e∈j.flatten:=by simpa using c
   exact hA _ ⟨j,_,_,_,rfl,hw.skip he c⟩
 ·rintro _ ⟨j,o3,o4,q,rfl,hw⟩
  have hw:Wk n v v.length j:=by rw[aP] at hw;exact hw
  have fin:=hw.fin g all;have R:cS n j:=⟨hw.rnd,fin⟩
  have dl:j.length<64:=by
   have h:∀p:List (List (Nat×Nat)),(∀r∈p,r≠ [])->p.length<=p.flatten.length:=λp=>by
    induction p with
    |nil=>intro _;exact bK _
    |cons a l ih=>
     intro h;have h1:=GX.mpr (h a (bO ..));have h2:=ih λr o=>h r (bU _ o);rw[jA,cI,eX];omega
   have:=h j λr o z=>by
    obtain⟨d,R,_,_⟩:=hw.rnd r o
    have:=R.first
    rw[z] at this;cases this
   have:=fin.length_eq
   omega
  refine⟨j.map (λr=>r.map (·.1)),rfl,by rw[aP];omega,λM G X=>?_⟩
  obtain⟨p,p',rfl⟩:=L2.tG (λr:List (Nat×Nat)=>r.map (·.1)) M j G;have R':=R.O2 p';have e:=LL g R' X
  have:=q2 n2 p R' e
  rw[e] at this;exact this
variable {P:Program} {w:World} {mg:Str->Option Value} {base:Heap} {Z:DC} (T:Txt Z mg)
theorem KQ(I:DN->Prop)(h:∀b:cT,(∀a,I a->b.nx a)->AA c t um b a)(k:∀a,I a->u E a):AB (AA c t um) u E a:=h _ k
theorem BQ(b:DN)(e:a=b)(h:AB t u E b):AB t u E a:=by rw[e];exact h
theorem IQ{w:W}(h:lJ w≠ []):(lJ w).Pairwise mB:=by
 unfold lJ at h ⊢
 split
 ·next z=>exact z.choose_spec.2
 ·next z=>rw[dif_neg z] at h;exact absurd rfl h
variable {P:Program} {w:World} {mg:Str->Option Value} {base:Heap} {Z:DC} (T:Txt Z mg)
def Rs(w:W)(a:List (List (Nat×Nat))):Prop:=(w.length=1/\a= [[(0,0)]])\/(2<=w.length/\cS w a)
theorem IS{w:W}{P:D->Prop}(g:Good w)(h:∀b,Rs w b->(iA b).Pairwise mB->P (.lst ((iA b).map au))):(w.length=1->P (.lst [au [0]]))/\(2<=w.length->∀b,cS w b->lJ w=iA b->P (.lst ((lJ w).map au))):=by
 refine⟨λi=>h [[(0,0)]] (.inl ⟨i,rfl⟩) (GV _ _),λd b R e=>?_⟩
 have ne:lJ w≠ []:=λz=>by
  rw[z] at e
  have f:b= []:=by
   cases b with
   |nil=>rfl
   |cons a l=>cases e
  have c:=R.perm.length_eq;rw[f] at c;have k:(aZ w).length=0:=c.symm
  obtain⟨x,j⟩:∃x,x∈aZ w:=by
   cases g.con 1 (by omega) with
   |step i d=>exact⟨_,bI.mpr (show bp w (_,1) from d)⟩
  have:=t6 j
  omega
 have s:=IQ ne;rw[e] at s ⊢;exact h b (.inr ⟨d,R⟩) s
def tc(w:W):Nat:=(jV (row w) w.length).length
theorem Tj{w:W}(g:Good w):2*tc w=(aZ w).length:=by
 have:=(xN g (.refl _)).length_eq
 rw[cI,aP] at this;unfold tc;omega
def P7:cx:=λb P=>∃(w:W),b= [.dN w]/\Good w/\1<=w.length/\w.length<=14/\gu w<64/\∀a,Rs w a->(iA a).Pairwise mB->P (.tup [.int (w.length:Int), .int (tc w:Int), .int (a.length:Int)])
theorem Bc:FnOk P w Z.K mg base bZ 4 T.d_count.f T.d_count.fd ["web"] (aT Z P7):=by
 have y:=Bp.nd;refine bc T.d_count.F Bp [0] (by decide) (λl R h=>by obtain⟨_,rfl,_⟩:=h;rfl) (λz A outer s H E l R c h=>?_)
 have C:=c.units;refine⟨_,(ao (aK (dP (ae (cD T.W (aa 0) T.m_many.m (dE T) (c.mono (by decide)) T.m_many.b) (ae (aI bE rfl T.B.len bD (ae (cD T.W (aa 0) T.m_ties.m (mZ T) (c.mono (by decide)) T.m_ties.b) ag)) (ae (aI bE rfl T.B.len bD (ae (aH T.d_lands ((Jk T).imp SW) c (ae (aa 0) ag)) ag)) ag)))))),?_⟩
 obtain⟨a,rfl,g,n,j,k,q⟩:=h;refine⟨_,rfl,a,rfl,a,rfl,_,rfl,a,rfl,a,rfl,g,j,k,λe o G=>?_⟩
 obtain⟨p,r⟩:=IS (P:=λd=>MS [d] λx=>([.int (a.length:Int), .int ((e.map pairD).length:Int),x]:List D).length<=sizeLine/\R (.tup [.int (a.length:Int), .int ((e.map pairD).length:Int),x])) g λi t s=>by
  refine⟨by show 3<=sizeLine;decide,?_⟩
  have:=q i t s
  have u:(e.map pairD).length=tc a:=by rw[aP,o.length_eq];rfl
  have v:((iA i).map au).length=i.length:=by rw[aP,aP]
  rw[u,v];exact this
 exact⟨_,rfl,a,rfl,g,n,j,k,p,r⟩
def Qf:cx:=λb P=>∃(w:W),b= [.dN w]/\Good w/\1<=w.length/\w.length<=14/\gu w<64/\∀a,Rs w a->(iA a).Pairwise mB->P (.bl (decide ((w.length:Int)+(a.length:Int)=(tc w:Int)+2)))
theorem DB:FnOk P w Z.K mg base bZ 5 T.d_is_plane.f T.d_is_plane.fd ["web"] (aT Z Qf):=by
 have a:=tS.nd;refine bc T.d_is_plane.F tS [0,0,0,0] (by decide) (λc R h=>by obtain⟨_,rfl,_⟩:=h;rfl) (λn A outer s H E c R b h=>?_)
 have d:=b.units
 refine⟨_,(ah (Kn (aH T.d_count (Bc T) b (ae (aa 0) ag)) (fo 3 rfl (aV (aE 1 a) (aV (aE 2 a) (aV (aE 3 a) cL)))))
   (ao (aK (Kh (ku d) (az ba (aa 1) (aa 3)) (az ba (aa 2) aw) (bq _))))),?_⟩
 obtain⟨e,rfl,g,i,j,k,q⟩:=h;refine⟨_,rfl,e,rfl,g,i,j,k,λl m s=>?_⟩;refine⟨rfl,rfl,?_⟩;refine⟨_,rfl,_,rfl,_,rfl,?_⟩;exact EN (q l m s)
variable {P:Program} {w:World} {mg:Str->Option Value} {base:Heap} {Z:DC} (T:Txt Z mg)
theorem Rs.len{w:W}(g:Good w)(h:Rs w b)(d:Rs w c):b.length=c.length:=by
 rcases h with ⟨e,rfl⟩ | ⟨e,R⟩
 ·rcases d with ⟨_,rfl⟩ | ⟨f,_⟩
  ·rfl
  ·omega
 ·rcases d with ⟨f,_⟩ | ⟨_,a⟩
  ·omega
  ·exact((v3 (R.nodup g) (a.nodup g)).mpr λr=>⟨R.sub a r,a.sub R r⟩).length_eq
theorem GD:∀w:W,(w.map λr=>(r.length:Int)).sum=((gu w:Nat):Int)
 | []=>rfl
 |r::w=>by
  have:=GD w
  unfold gu at this ⊢;simp only[dF,aeL] at this ⊢;omega
theorem kL.rounds{w:W}(g:Good w)(h:kL w a)(b:a.flatten.Perm (aZ w)):cS w (a.map Av):=by
 refine⟨λm c=>?_,(qC xG a).trans b⟩;obtain⟨r,f,rfl⟩:=bL.mp c;obtain⟨d,R,i⟩:=h r f;obtain⟨e,j,k,l⟩:=K8 g R i;exact⟨e,j,k,l⟩
variable {P:Program} {w:World} {mg:Str->Option Value} {base:Heap} {Z:DC} (T:Txt Z mg)
def Ms:cx:=λa P=>∃(b:List Int)(k:Nat),a= [.kD b,aq k]/\∀v:Int,P (.int v)
theorem fg:FnOk P w Z.K mg base bZ 1 T.d__law_cell_at.f T.d__law_cell_at.fd ["_law_script","_law_k"] (aT Z Ms):=by
 have g:=mI.nd;refine bc T.d__law_cell_at.F mI [0,0] (by decide) (λa R h=>by obtain⟨_,_,rfl,_⟩:=h;rfl) (λi A outer s H E a R b h=>?_)
 have j:=b.units
 refine⟨_,(ah (bA (aQ uM (aa 1) (aI bE rfl T.B.len bD (ae (aa 0) ag)) (bq _)) (ao (aK (bH (aa 0) (aa 1)))) aM)
   (ao (aK aw))),?_⟩
 obtain⟨c,k,rfl,q⟩:=h;refine⟨_,rfl,_,rfl,?_⟩;refine⟨_,rfl,bF (λe=>?_) (λe=>?_)⟩
 ·have d:k<c.length:=by
   have:=GM e
   omega
  exact⟨_,rfl,_,rfl,_,Ey (b9 d),q _⟩
 ·exact q 0
def JJ:cx:=λa P=>∃(c k:Int),a= [.int c, .int k]/\(0<=k/\k<1000)/\∀v:Int,P (.int v)
theorem mod_lt(x:Int):0<=x%2147483629/\x%2147483629<2147483629:=⟨afO _ (by decide),afi _ (by decide)⟩
theorem uQ:FnOk P w Z.K mg base bZ 1 T.d__law_reserve.f T.d__law_reserve.fd ["_law_cell","_law_k"] (aT Z JJ):=by
 have a:=mK.nd;refine bc T.d__law_reserve.F mK [0,0,0] (by decide) (λb R h=>by obtain⟨_,_,rfl,_⟩:=h;rfl) (λe A outer s H E b R d h=>?_)
 have g:=d.units
 refine⟨_,(ah (aJ false 2 a (az cZ (az ba (az cZ (aa 0) aw) (az gG aw (az ba (aa 1) aw))) aw))
   (ao (aK (az ba aw (az cZ (az ba (az ba (az gG (aa 2) (aa 2)) (az gG aw (aa 2))) (az gG aw (aa 1))) aw))))),?_⟩
 obtain⟨c,k,rfl,i,q⟩:=h;refine⟨_,rfl,(by show(0:Int)<2147483629;decide),_,rfl, .inl ⟨by decide,by decide⟩,(by show(0:Int)<2147483629;decide),trivial,?_⟩
 have:=mod_lt (c%2147483629+48271*(k+1))
 refine⟨_,rfl,_,rfl, .inl ⟨by dsimp only;omega,by dsimp only;omega⟩,_,rfl, .inl ⟨by decide,by decide⟩,_,rfl, .inl ⟨by decide,by decide⟩,(by show(0:Int)<2147483629;decide),q _⟩
theorem ET(h:t {E with nx:=u E} a):AB t u E a:=h
theorem OC(Ok:Int->Prop)(j:a[i]? =some (some (.int d)))(k:Ok d)(l:∀Q:Bool->Prop,(∀b,Q b)->c a Q)(n:∀Q:D->Prop,(∀x:Int,Ok x->Q (.int x))->g (wL f m a) Q)
  (h:∀x:Int,Ok x->E.nx (a.set i (some (.int x)))):AA c (AD f m i g) um E a:=by
 refine l _ λb=>bF (λ_=>n _ λx o=>⟨?_,h x o⟩) (λ_=>?_)
 ·cases m
  ·trivial
  ·rfl
 ·have:=h d k
  obtain⟨p,e⟩:=dS.mp j;rw[<-e,aeV] at this;exact this
def bz(l:List Int):List D:=l.map D.int
theorem fO(l:List Int):(bz l).length=l.length:=aP _
theorem vI(l:List Int)(x:Int):bz (l++ [x])=bz l++ [.int x]:=cR ..
theorem Fy{l:List Int}{p:Nat}(h:p<l.length):gL (bz l) (p:Int)=some (.int (l.getD p 0)):=iV (by unfold bz;rw[eO,b8,b9 h];rfl)
def P8:cx:=λb P=>∃(c:List Int)(k n:Nat),b= [.kD c,aq k,aq n]/\k<=10/\n<=14/\∀a:List Int,a.length=n->P (.lst (bz a))
theorem oV:FnOk P w Z.K mg base bZ 2 T.d__law_draws.f T.d__law_draws.fd ["_law_script","_law_at","_law_many"] (aT Z P8):=by
 have b:=pC.nd;refine bc T.d__law_draws.F pC [0,0,0,0,1,0,0,0] (by decide) (λp R h=>by obtain⟨_,_,_,rfl,_⟩:=h;rfl) (λx A outer s H E p R g h=>?_)
 have r:=g.units
 refine⟨_,(ah (aJ false 3 b (aH T.d__law_cell_at (fg T) g (ae (aa 0) (ae (aa 1) ag))))
   (ah (eJ 4 b (fm ag))
   (ah (bA (aQ (ku r) (az cZ (aH T.d__law_cell_at (fg T) g (ae (aa 0) (ae aw ag))) aw) aw (bq _)) (ah (aJ false 5 b (aa 3))
   (ah (ke rfl FM (gN rfl T.B.range (ae (aa 2) ag)) (aE 6 b) (ah (bA (aQ uM (aa 3) aw (bq _)) (ao (aJ false 3 b (aH T.d__law_reserve (uQ T) g (ae (aa 5) (ae (az ba (az gG aw (aa 1)) (aa 6)) ag))))) aM)
   (ah (eY false 4 (az cZ (aa 3) (az Dq aw aw)))
   (ao (aJ false 3 b (az lg (aa 3) (az Dq aw aw)))))))
   (ao (aK (aa 4))))) aM)
   (ah (aJ false 7 b (az cZ (aa 3) aw))
   (ah (ke rfl FM (gN rfl T.B.range (ae (aa 2) ag)) (aE 6 b) (ah (aJ false 7 b (az cZ (az ba (az ba (az ba (az gG (aa 7) (aa 7)) (az gG aw (aa 7))) (az gG aw (aa 6))) aw) aw))
   (ao (eY false 4 (az lg (aa 7) aw)))))
   (ao (aK (aa 4)))))))),?_⟩
 obtain⟨i,k,n,rfl,z,C,q⟩:=h;refine⟨_,rfl,_,rfl,i,k,rfl,λc=>⟨trivial,?_⟩⟩;refine⟨by show 0<=sizeLine;decide,?_⟩
 refine⟨_,rfl,i,0,rfl,λG=>⟨(by show(0:Int)<2;decide),E6 ⟨_,rfl,bF (λ_=>?_) (λ_=>?_)⟩⟩⟩
 ·refine⟨_,rfl,trivial,?_⟩
  refine⟨_,rfl,⟨by show-(2^62)<=(n:Int);omega,by show(n:Int)<2^62;omega⟩,?_⟩
  rw[show((n:Int)).toNat=n by omega]
  refine jZ (λj l=>∃(y:Int)(a:List Int)(d:Option D),l= [some (.kD i),some (aq k),some (aq n),some (.int y),some (.lst (bz a)),some (.int c),d,none]/\a.length=j) ⟨c,[],_,rfl,rfl⟩ ?_ ?_
  ·rintro j _ t ⟨y,a,d,rfl,e⟩ A m
   refine ET ?_;refine OC (λ_=>True) rfl trivial (λQ o=>⟨_,rfl,_,rfl,o _⟩) (λQ o=>?_) λI _=>?_
   ·exact⟨_,rfl,_,rfl, .inl ⟨by decide,by decide⟩,_,rfl,_,_,rfl,⟨by omega,by omega⟩,λv=>o _ trivial⟩
   refine⟨_,rfl,_,rfl,⟨by decide,by decide⟩,(by show(0:Int)<10^9;decide),trivial,cj (by rw[fO];omega),?_⟩
   refine⟨_,rfl,⟨by decide,by decide⟩,⟨by decide,by decide⟩,trivial,?_⟩
   exact m _ ⟨_,a++ [_],some (aq j),by rw[vI];rfl,by rw[cI,e];rfl⟩
  ·rintro _ ⟨y,a,d,rfl,e⟩
   exact⟨_,rfl,q a e⟩
 ·refine⟨_,rfl,(by show(0:Int)<2147483629;decide),trivial,?_⟩
  refine⟨_,rfl,⟨by show-(2^62)<=(n:Int);omega,by show(n:Int)<2^62;omega⟩,?_⟩
  rw[show((n:Int)).toNat=n by omega]
  refine jZ (λj l=>∃(y:Int)(a:List Int)(d:Option D),l= [some (.kD i),some (aq k),some (aq n),some (.int c),some (.lst (bz a)),none,d,some (.int y)]/\a.length=j/\0<=y/\y<2147483629) ⟨_,[],_,rfl,rfl,mod_lt c⟩ ?_ ?_
  ·rintro j _ t ⟨y,a,d,rfl,e,u⟩ A m
   refine⟨_,rfl,_,rfl, .inl ⟨by omega,by omega⟩,_,rfl, .inl ⟨by decide,by decide⟩,_,rfl, .inl ⟨by decide,by decide⟩,(by show(0:Int)<2147483629;decide),trivial,?_⟩
   refine⟨_,rfl,_,rfl,⟨by decide,by decide⟩,trivial,cj (by rw[fO];omega),?_⟩
   exact m _ ⟨_,a++ [_],some (aq j),by rw[vI];rfl,by rw[cI,e];rfl,mod_lt _⟩
  ·rintro _ ⟨y,a,d,rfl,e,u⟩
   exact⟨_,rfl,q a e⟩
variable {P:Program} {w:World} {mg:Str->Option Value} {base:Heap} {Z:DC} (T:Txt Z mg)
structure mO (w:W) (r:List Nat):Prop where
 ne:0<r.length
 sz:r.length<=196
 lt:∀k,k<r.length->r.getD k 0<w.length
 tie:2<=w.length->∀k,k<r.length->r.getD ((k+(r.length-1))%r.length) 0∈row w (r.getD k 0)
structure Cl (w:W) (ds:List (Nat×Nat)):Prop where
 nd:ds.Nodup
 dart:∀e∈ds,bp w e
 step:∀e,bp w e->(e∈ds↔fH w e∈ds)
theorem Cl.bh{w:W}(c:Cl w a)(g:Good w){d:Nat×Nat}(b:bp w d):∀k,Wb.bh w k d∈a↔d∈a
 |0=>af6
 |k+1=>(c.step _ (cY g b k)).symm.trans (c.bh g b k)
theorem cE{w:W}:e∈walk w d k↔∃i,i<k/\bh w i d=e:=by
 unfold walk;rw[bL];exact⟨λ⟨i,a,e⟩=>⟨i,dY.mp a,e⟩,λ⟨i,a,e⟩=>⟨i,dY.mpr a,e⟩⟩
theorem Cl.len{w:W}(c:Cl w a)(g:Good w)(b:w.length<=14):a.length<=196:=by
 have f:=iW g;have h:w.length*w.length<=14*14:=wa b b
 have:=bf c.nd λe d=>bI.mpr (c.dart e d)
 omega
theorem Cl.nodup{w:W}(c:Cl w e)(g:Good w)(f:bp w d)(l:0<k->d∉e)(m:∀j,0<j->j<k->Wb.bh w j d≠d):(e++walk w d k).Nodup:=by
 rw[gX];refine⟨c.nd,pQ g f m,λa h b n z=>?_⟩;obtain⟨i,o,rfl⟩:=cE.mp n;rw[z] at h;exact l (by omega) ((c.bh g f i).mp h)
theorem Cl.back{w:W}(c:Cl w a)(g:Good w)(b:bp w d)(o:0<k)(l:d∉a)(m:∀j,0<j->j<k->Wb.bh w j d≠d)(h:Wb.bh w k d∈a++walk w d k):Wb.bh w k d=d:=by
 rcases cV.mp h with h|h
 ·exact absurd ((c.bh g b k).mp h) l
 ·obtain⟨i,p,e⟩:=cE.mp h
  have n:Wb.bh w i d=Wb.bh w i (Wb.bh w (k-i) d):=by rw[<-e9 (k-i) i,show i+(k-i)=k by omega];exact e
  have f:=(sX g b (cY g b _) i n).symm
  by_cases z:i=0
  ·subst z;exact f
  ·exact absurd f (m (k-i) (by omega) (by omega))
theorem Cl.grow{w:W}{f:List (Nat×Nat)}(c:Cl w f)(g:Good w){d:Nat×Nat}(b:bp w d)(l:0<k)(n:d∉f)(o:∀j,0<j->j<k->Wb.bh w j d≠d)(e:Wb.bh w k d=d):Cl w (f++walk w d k):=by
 refine⟨c.nodup g b (λ_=>n) o,λx a=>?_,λx a=>?_⟩
 ·rcases cV.mp a with h|h
  ·exact c.dart x h
  ·exact nA g b x h
 ·rw[cV,cV,<-c.step x a]
  refine or_congr af6 ⟨λh=>?_,λh=>?_⟩
  ·obtain⟨i,p,rfl⟩:=cE.mp h
   by_cases z:i+1=k
   ·exact cE.mpr ⟨0,l,by show d=Wb.bh w (i+1) d;rw[z,e]⟩
   ·exact cE.mpr ⟨i+1,by omega,rfl⟩
  ·obtain⟨i,p,z⟩:=cE.mp h
   cases i with
   |zero=>
    obtain⟨m,rfl⟩:∃m,k=m+1:=⟨k-1,by omega⟩
    refine cE.mpr ⟨m,by omega,yU g (cY g b m) a ?_⟩
    exact e.trans z
   |succ i=>exact cE.mpr ⟨i,by omega,yU g (cY g b i) a z⟩
theorem u6{w:W}(h:i<k):((walk w d k).map (·.1)).getD i 0=(bh w i d).1:=by
 unfold walk;rw[cG,b8,eO,pV h];rfl
theorem OI{w:W}(g:Good w)(c:w.length<=14)(b:bp w d)(f:0<k)(h:∀j,0<j->j<k->Wb.bh w j d≠d)(e:Wb.bh w k d=d):mO w ((walk w d k).map (·.1)):=by
 have n:=iW g;have o:w.length*w.length<=14*14:=wa c c;have p:=zC g b h;have l:((walk w d k).map (·.1)).length=k:=by rw[aP,dh]
 have st:∀i,(bh w i d).1∈row w (bh w (i+1) d).1:=λi=>g.sym _ _ (cY g b i);refine⟨by omega,by omega,λi a=>?_,λ_ i a=>?_⟩
 ·rw[l] at a
  rw[u6 a];exact bX (cY g b i)
 ·rw[l] at a ⊢
  rw[u6 a,u6 (qQ _ f)];cases i with
  |zero=>
   obtain⟨m,rfl⟩:∃m,k=m+1:=⟨k-1,by omega⟩
   have:=st m
   rw[e] at this;rw[qO,gY (by omega)];exact this
  |succ i=>
   rw[show i+1+(k-1)=i+k by omega,aeB,gY (by omega)];exact st i
theorem F5{w:W}(g:Good w)(h:w.length=1):w= [[]]:=by
 match w,h with
 | [r],_=>
  cases r with
  |nil=>rfl
  |cons a r=>
   have m:a∈row [a::r] 0:=bO
   have:=g.rng 0 a m
   have e:a=0:=by simpa using this
   subst e;exact absurd m (g.irr 0)
theorem HI{w:W}(g:Good w)(h:2<=w.length):0<(row w 0).length:=by
 apply Nat.pos_of_ne_zero;intro z;have z:row w 0= []:=afM.mp z
 have:=kQ g (S:=λp=>p=0) rfl (λp q b a=>by subst b;rw[z] at a;cases a) 1 (by omega)
 omega
def Rl(w:W)(b:List (Nat×Nat))(e:List (List Nat))(c:Nat×Nat->Prop):Prop:=∃a:List (List (Nat×Nat)),b=a.flatten/\e=iA a/\kL w a/\(∀r∈e,mO w r)/\∀d,c d->d∈b
theorem Rl.imp{w:W}{b:List (List Nat)}(h:Rl w a b c)(k:∀d,e d->c d\/d∈a):Rl w a b e:=by
 obtain⟨f,g,i,j,l,m⟩:=h;exact⟨f,g,i,j,l,λd n=>(k d n).elim (m d) id⟩
theorem Mo{w:W}(a:0<k)(e:bh w k d=d)(b:∀j,0<j->j<k->bh w j d≠d):fk w d (walk w d k):=⟨k,a,e,b,rfl⟩
def Cn(w:W)(c:Nat):Prop:=∃a,Rs w a/\a.length=c
theorem Rl.cn{w:W}(g:Good w)(f:2<=w.length)(C:Cl w b)(h:Rl w b c (bp w)):Cn w c.length:=by
 obtain⟨e,rfl,rfl,i,_,all⟩:=h;have j:e.flatten.Perm (aZ w):=(v3 C.nd (eG g)).mpr λd=>⟨λa=>bI.mpr (C.dart d a),λa=>all d (bI.mp a)⟩;exact⟨e.map Av, .inr ⟨f,kL.rounds g i j⟩,by unfold iA;rw[aP,aP]⟩
def Gz:cx:=λc P=>∃(w:W),c= [aO w]/\Good w/\1<=w.length/\w.length<=14/\∀a:List (List Nat),0<a.length->a.length<=196->(∀r∈a,mO w r)->Cn w a.length->(2<=w.length->∀r∈a,∃d b,fk w d b/\bp w d/\r=b.map (·.1))->P (.lst (a.map au))
theorem oW:FnOk P w Z.K mg base bZ 1 T.d__law_lands.f T.d__law_lands.fd ["_law_turns"] (aT Z Gz):=by
 have u:=pF.nd;refine bc T.d__law_lands.F pF [0,98,1,0,0,1,0,0] (by decide) (λl R h=>by obtain⟨_,rfl,_⟩:=h;rfl) (λbb A outer s H E l R v h=>?_)
 have hu:=v.units
 refine⟨_,(ah (bA (aQ (ku hu) (aa 0) (bg (ae (bg ag) ag)) (bq _)) (ao (aK (bg (ae (bg (ae aw ag)) ag)))) aM)
   (ah (Nt 1 u)
   (ah (eJ 2 u (fm ag))
   (ah (ke rfl FM (gN rfl T.B.range (ae (aI bE rfl T.B.len bD (ae (aa 0) ag)) ag)) (aE 3 u) (ao (b6 rfl FM (bC (bH (aa 0) (aa 3))) (aE 4 u) (ah (eJ 5 u (fm ag))
   (ah (aJ false 6 u (dP (ae (aa 3) (ae (aa 4) ag))))
   (ah (qf FM (aQ (Jh hu) (aa 6) (aa 1) (by with_unfolding_all rfl)) (ah (Nx 1 hu (aa 6) cK)
   (ah (eY false 5 (bH (aa 6) aw))
   (ah (aJ false 7 u (bH (aa 0) (bH (aa 6) aw)))
   (ao (aJ false 6 u (dP (ae (bH (aa 6) aw) (ae (bH (aa 7) (az cZ (az ba (p8 (aa 7) (bH (aa 6) aw)) aw) (aI bE rfl T.B.len bD (ae (aa 7) ag)))) ag)))))))))
   (ao (bA (aQ (lL hu) (aa 5) (bg ag) (bq _)) (ao (Nr 2 5)) aM))))))))
   (ao (aK (aa 2))))))),?_⟩
 obtain⟨a,rfl,g,h1,Y,q⟩:=h;have lw:(a.map au).length=a.length:=aP _;refine⟨_,rfl,by show 0<=sizeLine;decide,by show 1<=sizeLine;decide,?_⟩
 refine(?_:Ht (aO a) (aO [[]]) _);refine EO ⟨_,rfl,bF (λe=>?_) (λe=>?_)⟩
 ·obtain rfl:a= [[]]:=GM e
  refine⟨by show 1<=sizeLine;decide,by show 1<=sizeLine;decide,?_⟩
  refine q [[0]] (by decide) (by decide) (λr v=>?_) ⟨[[(0,0)]], .inl ⟨rfl,rfl⟩,rfl⟩ (λz=>absurd z (by decide))
  rw[dX] at v;subst v;refine⟨by decide,by decide,λk G=>?_,λh=>absurd h (by decide)⟩
  have:k=0:=by simpa using G
  subst this;decide
 have n2:2<=a.length:=FB λz=>KF e (F5 g (by omega))
 have r0:=HI g n2;refine⟨by show 0<=sizeLine;decide,?_⟩
 refine⟨_,rfl,⟨by omega,by show((a.map au).length:Int)<2^62;omega⟩,?_⟩
 rw[show(((a.map au).length:Int)).toNat=a.length by omega]
 refine jZ (λj ρ=>∃(l:List (Nat×Nat))(o:List FV)(n:List (List Nat))(o3 N O Q y:Option D),ρ= [some (aO a),some (.x (.tE (l.map zz) o)),some (.lst (n.map au)),o3,N,O,Q,y]/\Cl a l/\(0<j->0<l.length)/\(0<l.length->0<n.length)/\n.length<=l.length/\Rl a l n λd=>bp a d/\d.1<j)
  ⟨[],[],[],_,_,_,_,_,rfl,⟨gZ,(λe h=>nomatch h),λe _=>⟨(λh=>nomatch h),λh=>nomatch h⟩⟩,(λh=>by omega),id,bK _,[],rfl,rfl,(λr h=>nomatch h),(λr h=>nomatch h),λd h=>absurd h.2 (by omega)⟩ ?_ ?_
 ·rintro p _ hp ⟨l,o,n,o3,N,O,Q,y,rfl,C,U,J,X,ok⟩ A hA
  refine⟨_,rfl,_,rfl,_,kv hp,?_⟩
  refine bQ (λm ρ=>∃(l:List (Nat×Nat))(o:List FV)(n:List (List Nat))(N O Q y:Option D),ρ= [some (aO a),some (.x (.tE (l.map zz) o)),some (.lst (n.map au)),some (aq p),N,O,Q,y]/\Cl a l/\(0<p\/0<m->0<l.length)/\(0<l.length->0<n.length)/\n.length<=l.length/\Rl a l n λd=>bp a d/\(d.1<p\/(d.1=p/\d.2∈(row a p).take m)))
   ⟨l,o,n,_,_,_,_,rfl,C,(λh=>h.elim U λh=>by omega),J,X,ok.imp λd h=> .inl ⟨h.1,h.2.elim id λz=>by simp at z⟩⟩ ?_ ?_
  ·clear U J X ok C
   rintro m _ _ t ⟨l,o,n,N,O,Q,y,rfl,C,U,J,X,ok⟩ A hA;obtain⟨b,hq,rfl⟩:=cC t;have M:bp a (p,b):=fB hq;have tks:(row a p).take (m+1)=(row a p).take m++ [b]:=by rw[zN,hq];rfl
   have c1:=iW g;have c2:a.length*a.length<=14*14:=wa Y Y;have cl:=C.len g Y;refine⟨by show 0<=sizeLine;decide,?_⟩
   refine⟨_,rfl,_,rfl,by show 2<=sizeLine;decide,trivial,?_⟩
   refine nB (λm ρ=>∃(k:Nat)(o:List FV)(y:Option D),ρ= [some (aO a),some (.x (.tE ((l++walk a (p,b) k).map zz) o)),some (.lst (n.map au)),some (aq p),some (aq b),some (au ((walk a (p,b) k).map (·.1))),some (pairD (bh a k (p,b))),y]/\m+k=200/\(0<k->(p,b)∉l)/\(∀j,0<j->j<k->bh a j (p,b)≠(p,b))) 200 ⟨0,o,_,by rw[show walk a (p,b) 0= [] from rfl,fJ];rfl,rfl,(λh=>by omega),λj h1 h2=>by omega⟩ ?_
   rintro m _ ⟨k,o,y,rfl,mk,u,G⟩;have kl:=zC g M G;have nn:=C.nodup g M u G
   have nl:(l++walk a (p,b) k).length<=196:=by
    have:=bf nn λe he=>bI.mpr ((cV.mp he).elim (C.dart e) (nA g M e))
    omega
   have dk:=cY g M k;have hs:=g.sym _ _ dk;refine⟨_,rfl,_,rfl,zz (bh a k (p,b)),_,_,rfl,rfl,_,rfl,?_⟩;refine(?_:if (if true=true then !decide (zz (bh a k (p,b))∈(l++walk a (p,b) k).map zz) else _)=true then _ else _);rw[tz rfl,show decide (zz (bh a k (p,b))∈(l++walk a (p,b) k).map zz)=decide (bh a k (p,b)∈l++walk a (p,b) k) from aeS.mpr xj];refine bF (λc=>?_) (λc=>?_)
   ·have c:bh a k (p,b)∉l++walk a (p,b) k:=by simpa using c
    have eW:=bX hs;have rln:=gB g (bh a k (p,b)).2;have lr:((row a (bh a k (p,b)).2).map aq).length=(row a (bh a k (p,b)).2).length:=aP _;have pos:0<(row a (bh a k (p,b)).2).length:=t6 hs;have e0:(0:Int)<(((row a (bh a k (p,b)).2).map aq).length:Int):=by rw[lr];omega
    refine⟨.bl true,_,_,rfl,rfl,_,rfl,zz _,rfl,(λz=>c (xj.mp z)),by rw[aP];omega,?_⟩
    refine⟨_,rfl,_,rfl,_,rfl,trivial,cj (by rw[aP,aP,dh];omega),?_⟩
    refine⟨_,rfl,_,rfl,_,rfl,_,kv eW,trivial,?_⟩;have fx:=fw hs;refine⟨_,rfl,_,rfl,_,rfl,_,rfl,_,rfl,_,rfl,_,rfl,rfl,dH _,_,_,fx.1,fx.2.1,fx.2.2,?_⟩;refine⟨_,rfl,e0,?_⟩;have em:(((row a (bh a k (p,b)).2).idxOf (bh a k (p,b)).1:Nat):Int)+1=(((row a (bh a k (p,b)).2).idxOf (bh a k (p,b)).1+1:Nat):Int):=by omega
    have et:((((row a (bh a k (p,b)).2).idxOf (bh a k (p,b)).1:Nat):Int)+1)%(((row a (bh a k (p,b)).2).map aq).length:Int)=((((row a (bh a k (p,b)).2).idxOf (bh a k (p,b)).1+1)%(row a (bh a k (p,b)).2).length:Nat):Int):=by rw[lr,em,Int.natCast_emod]
    refine⟨aq (aS (row a (bh a k (p,b)).2) (bh a k (p,b)).1),?_,by show 2<=sizeLine;decide,trivial,m-1,by omega,k+1,o++ [.bl true],some (au (row a (bh a k (p,b)).2)),?_,by omega,λ_=>?_,λj h1 h2=>?_⟩
    ·show gL ((row a (bh a k (p,b)).2).map aq) ((λi j=>i%j) _ _)=_
     dsimp only;rw[et];exact gz (qQ _ pos)
    ·have e1:(l++walk a (p,b) (k+1)).map zz=(l++walk a (p,b) k).map zz++ [zz (bh a k (p,b))]:=by rw[rV,<-jP,cR];rfl
     have e2:au ((walk a (p,b) (k+1)).map (·.1))= .lst (((walk a (p,b) k).map (·.1)).map aq++ [aq (bh a k (p,b)).1]):=by unfold au;rw[rV,cR,cR];rfl
     rw[e1,e2];rfl
    ·by_cases z:0<k
     ·exact u z
     ·obtain rfl:k=0:=by omega
      exact λh=>c (kF _ h)
    ·by_cases z:j=k
     ·subst z
      exact λh=>c (dW _ (cE.mpr ⟨0,h1,h.symm⟩))
     ·exact G j h1 (by omega)
   ·have c:bh a k (p,b)∈l++walk a (p,b) k:=GM (by simpa only[Bool.not_eq_false'] using c)
    refine⟨_,rfl,by show 0<=sizeLine;decide,?_⟩
    refine(?_:uk (au _) (au []) _);refine ES ⟨_,rfl,bF (λe=>?_) (λe=>?_)⟩
    ·have I:0<k:=Nat.pos_of_ne_zero λz=>by subst z;exact absurd e (by simp[walk])
     have bk:=C.back g M I (u I) G c;have C2:=C.grow g M I (u I) G bk;have L:=OI g Y M I G bk;refine⟨_,_,rfl,rfl,cj (by rw[aP];omega),?_⟩
     refine hA _ ⟨l++walk a (p,b) k,o,n++ [(walk a (p,b) k).map (·.1)],some (aq b),none,some (pairD (bh a k (p,b))),y,?_,C2,λ_=>?_,λ_=>?_,?_,?_⟩
     ·rw[cR (f:=au)];rfl
     ·rw[cI,dh];omega
     ·rw[cI];exact Nat.succ_pos _
     ·rw[cI,cI,dh];simp only[BC];omega
     ·obtain⟨wI,d1,d2,d3,d4,d5⟩:=ok
      refine⟨wI++ [walk a (p,b) k],?_,?_,λr v=>?_,λr v=>?_,λd t=>?_⟩
      ·rw[d1,v9];simp
      ·rw[d2];unfold iA;rw[cR];rfl
      ·rcases cV.mp v with h|h
       ·exact d3 r h
       ·rw[dX] at h;rw[h]
        exact⟨(p,b),Mo I bk G,M⟩
      ·rcases cV.mp v with h|h
       ·exact d4 r h
       ·rw[dX] at h;rw[h];exact L
      ·rw[tks] at t
       by_cases z:d=(p,b)
       ·rw[z];exact dW _ (cE.mpr ⟨0,I,rfl⟩)
       ·refine kF _ (d5 d ⟨t.1,t.2.imp id λh=>⟨h.1,(cV.mp h.2).elim id λh2=>absurd (UF h.1 (dX.mp h2)) z⟩⟩)
    ·have I:k=0:=by
      have e:(walk a (p,b) k).map (·.1)= []:=GM (by simpa only[Bool.not_eq_false'] using e)
      have:=KB List.length e
      rwa [aP,dh] at this
     subst I;have e0:l++walk a (p,b) 0=l:=fJ _;rw[e0] at c;refine hA _ ⟨l,o,n,_,_,_,_,by rw[e0],C,λ_=>t6 c,J,X,ok.imp λd t=>?_⟩
     rw[tks] at t
     by_cases z:d=(p,b)
     ·rw[z];exact .inr c
     ·exact .inl ⟨t.1,t.2.imp id λh=>⟨h.1,(cV.mp h.2).elim id λh2=>absurd (UF h.1 (dX.mp h2)) z⟩⟩
  ·rintro _ ⟨l,o,n,N,O,Q,y,rfl,C,U,J,X,ok⟩
   refine hA _ ⟨l,o,n,_,_,_,_,_,rfl,C,λ_=>U ?_,J,X,ok.imp λd t=> .inl ⟨t.1,?_⟩⟩
   rotate_left
   ·rw[aP,BH]
    have:=t.2
    by_cases z:d.1=p
    ·exact .inr ⟨z,z▸t.1⟩
    ·left;omega
   by_cases z:p=0
   ·subst z;right;rw[aP];exact r0
   ·left;omega
 ·rintro _ ⟨l,o,n,o3,N,O,Q,y,rfl,C,U,J,X,ok⟩
  have:=C.len g Y
  obtain⟨wI,d1,d2,d3,d4,d5⟩:=ok
  exact⟨_,rfl,q n (J (U (by omega))) (by omega) d4 (Rl.cn g n2 C ⟨wI,d1,d2,d3,d4,λd t=>d5 d ⟨t,bX t⟩⟩) λ_ r v=>by
   rw[d2] at v;obtain⟨rd,hrd,rfl⟩:=bL.mp v;obtain⟨d,Rd,dd⟩:=d3 rd hrd;exact⟨d,rd,Rd,dd,rfl⟩⟩
variable {P:Program} {w:World} {mg:Str->Option Value} {base:Heap} {Z:DC} (T:Txt Z mg)
structure J7 (r ks:List Nat):Prop where
 ne:0<ks.length
 lt:∀k∈ks,k<r.length
 nd:(ks.map λk=>r.getD k 0).Nodup
 inc:ks.Pairwise (·<·)
def Mt:cx:=λb P=>∃(r:List Nat)(n:Int),b= [au r, .int n]/\0<r.length/\r.length<=196/\∀a,J7 r a->P (au a)
theorem wD:FnOk P w Z.K mg base bZ 1 T.d__law_places.f T.d__law_places.fd ["_law_land","_law_number"] (aT Z Mt):=by
 have p:=nN.nd;refine bc T.d__law_places.F nN [0,0,0,1,0] (by decide) (λI R h=>by obtain⟨_,_,rfl,_⟩:=h;rfl) (λQ A outer s H E I R J h=>?_)
 have C:=J.units
 refine⟨_,(ah (aJ false 2 p (aa 1))
   (ah (eJ 3 p (fm ag))
   (ah (ke rfl FM (gN rfl T.B.range (ae (aI bE rfl T.B.len bD (ae (aa 0) ag)) ag)) (aE 4 p) (ah (bA (DW.dt (Cg (aQ (ku C) (az cZ (aa 1) aw) aw (bq _)) (ye (aQ uN (bH (aa 0) (aa 4)) (oE (NC:= ["_law_at","_law_land"]) (src:= [none,some 0]) rfl (lE (ar iJ)) ⟨rfl,rfl,trivial⟩ (bC (aa 3)) (λ_ _ _=>(bx 0 (show(["_law_at","_law_land"]:List Str).Nodup from by decide+kernel))) (λ_ _ _=>cz) (λ_ _ _=>(bH (aa 1) (aa 0)))) (by with_unfolding_all rfl))))) (ao (eY false 3 (aa 4))) aM)
   (ao (aJ false 1 p (az lg (aa 1) aw)))))
   (ah (bA (aQ (ku C) (aa 3) (bg ag) (bq _)) (ao (aK (bg (ae (az cZ (aa 2) (aI bE rfl T.B.len bD (ae (aa 0) ag))) ag)))) aM)
   (ao (aK (aa 3))))))),?_⟩
 obtain⟨r,n,rfl,U,L,q⟩:=h;have X:(r.map aq).length=r.length:=aP _;refine⟨_,rfl,trivial,?_⟩;refine⟨by show 0<=sizeLine;decide,?_⟩
 refine⟨_,rfl,⟨by omega,by show((r.map aq).length:Int)<2^62;omega⟩,?_⟩
 rw[show(((r.map aq).length:Int)).toNat=r.length by omega]
 refine jZ (λj ρ=>∃(y:Int)(d:List Nat)(u:Option D),ρ= [some (au r),some (.int y),some (.int n),some (au d),u]/\d.length<=j/\(∀k∈d,k<r.length)/\(d.map λk=>r.getD k 0).Nodup/\d.Pairwise (·<·)/\∀k∈d,k<j) ⟨n,[],_,rfl,bK _,(λk h=>nomatch h),gZ, .nil,λk h=>nomatch h⟩ ?_ ?_
 ·rintro j _ G ⟨y,d,u,rfl,M,lt,i,l,t⟩ A v
  refine⟨_,rfl,(by show(0:Int)<2;decide),E6 ⟨_,rfl,bF (λ_=>?_) (λ_=>bS ⟨_,rfl,⟨by decide,by decide⟩,trivial,v _ ⟨_,d,some (aq j),rfl,by omega,lt,i,l,λk g=>by have:=t k g;omega⟩⟩)⟩⟩
  refine⟨_,rfl,_,rfl,_,gz G,_,rfl,?_⟩;refine kX (ρ:= [none,some (au r)]) aq (λk=>aq (r.getD k 0)) d _ (λk g Y N=>?_) rfl (small (by omega)) λaF=>?_
  ·exact⟨_,rfl,_,rfl,_,gz (lt k g),N⟩
  have e:(d.map λk=>aq (r.getD k 0))=(d.map λk=>r.getD k 0).map aq:=by rw[cG];rfl
  rw[e];refine⟨rfl,dH _,_,rfl,?_⟩;refine(?_:if (if true=true then !inD (aq (r.getD j 0)) ((d.map λk=>r.getD k 0).map aq) else _)=true then _ else _);rw[tz rfl,kh];refine bF (λc=>?_) (λc=>⟨_,rfl,⟨by decide,by decide⟩,trivial,v _ ⟨_,d,some (aq j),rfl,by omega,lt,i,l,λk g=>by have:=t k g;omega⟩⟩)
  have c:r.getD j 0∉d.map λk=>r.getD k 0:=KF (by simpa only[Bool.not_eq_true'] using c)
  refine⟨_,rfl,_,rfl,trivial,cj (by rw[aP];omega),?_⟩
  refine⟨_,rfl,⟨by decide,by decide⟩,trivial,v _ ⟨y / 2,d++ [j],some (aq j),?_,?_,λk g=>?_,?_,ae6.mpr ⟨l,GV ..,λa x b o=>by rw[dX.mp o];exact t a x⟩,λk g=>?_⟩⟩
  ·unfold au;rw[cR];rfl
  ·rw[cI];simp only[BC];omega
  ·rcases cV.mp g with h|h
   ·exact lt k h
   ·rw[dX] at h;rw[h];exact G
  ·rw[cR,gX]
   refine⟨i,by simp,λa x b o z=>c ?_⟩
   have o:b=r.getD j 0:=by simpa using o
   rw[<-o,<-z];exact x
  ·rcases cV.mp g with h|h
   ·have:=t k h;omega
   ·rw[dX.mp h];omega
 ·rintro _ ⟨y,d,u,rfl,M,lt,i,l,_⟩
  refine⟨_,rfl,by show 0<=sizeLine;decide,?_⟩
  refine(?_:Ht (au d) (au []) _);refine M6 ⟨_,rfl,bF (λe=>?_) (λe=>?_)⟩
  ·have m:=oQ n ((r.map aq).length:Int) (by omega)
   refine⟨_,rfl,_,rfl,(by show(0:Int)<((r.map aq).length:Int);omega),by show 1<=sizeLine;decide,?_⟩
   have:=q [(n%((r.map aq).length:Int)).toNat] ⟨Nat.succ_pos _,λk g=>by rw[dX] at g;omega,by simp,GV ..⟩
   have O:au [(n%((r.map aq).length:Int)).toNat]= .lst [.int (n%((r.map aq).length:Int))]:=by
    show D.lst [.int (((n%((r.map aq).length:Int)).toNat:Nat):Int)]=_;rw[show(((n%((r.map aq).length:Int)).toNat:Nat):Int)=n%((r.map aq).length:Int) by omega]
   rw[O] at this;exact this
  ·have e:d≠ []:=KF e
   exact⟨_,rfl,q d ⟨GX.mpr e,lt,i,l⟩⟩
variable {P:Program} {w:World} {mg:Str->Option Value} {base:Heap} {Z:DC} (T:Txt Z mg)
theorem HW{w v:W}(g:Good w){c:List Nat}(ne:0<c.length)(lt:∀p∈c,p<w.length)(len:v.length=w.length+1)(k:(row v w.length).Nodup)(last:∀x,x∈row v w.length↔x∈c)(nod:∀p,p<w.length->(row v p).Nodup)(mem:∀p,p<w.length->∀q,q∈row v p↔q∈row w p\/(q=w.length/\p∈c)):Good v:=by
 have l:w.length∉c:=λh=>hJ _ (lt _ h)
 have f:∀{p q},q∈row v p->(p<w.length/\(q∈row w p\/(q=w.length/\p∈c)))\/(p=w.length/\q∈c):=λ {p q} h=>by
  have:=bX h
  by_cases z:p=w.length
  ·subst z;exact .inr ⟨rfl,(last q).mp h⟩
  ·have:p<w.length:=by omega
   exact .inl ⟨this,(mem p this q).mp h⟩
 have up:∀{a b},Reach w a b->Reach v a b:=λ {a b} h=>by
  induction h with
  |refl=>exact .refl _
  |step _ j m=>exact .step m ((mem _ (bX j) _).mpr (.inl j))
 refine⟨λp q h=>?_,λp h=>?_,λp=>?_,λp q h=>?_,λp n=>?_⟩
 ·rcases f h with ⟨_,h| ⟨h,_⟩⟩ | ⟨_,h⟩
  ·have:=g.rng p q h;omega
  ·omega
  ·have:=lt q h;omega
 ·rcases f h with ⟨_,h| ⟨_,h⟩⟩ | ⟨e,h⟩
  ·exact g.irr p h
  ·have:=lt p h;omega
  ·subst e;exact l h
 ·by_cases z:p<w.length
  ·exact nod p z
  ·by_cases e:p=w.length
   ·subst e;exact k
   ·have:row v p= []:=ae9.mpr λq h=>by have:=bX h;omega
    rw[this];exact gZ
 ·rcases f h with ⟨n,d| ⟨e,d⟩⟩ | ⟨e,d⟩
  ·have s:=g.sym p q d
   exact(mem q (bX s) p).mpr (.inl s)
  ·subst e;exact(last p).mpr d
  ·subst e;exact(mem q (lt q d) _).mpr (.inr ⟨rfl,d⟩)
 ·by_cases z:p<w.length
  ·exact up (g.con p z)
  ·obtain rfl:p=w.length:=by omega
   obtain⟨x,i⟩:=List.exists_mem_of_length_pos ne;exact .step (up (g.con x (lt x i))) ((mem x (lt x i) _).mpr (.inr ⟨rfl,i⟩))
theorem OB{x0:Int}(B:Prop)(Ok:Int->Prop)(h:a[i]? =some (some (.int x0)))(j:¬B->Ok x0)(k:∀Q:Bool->Prop,(B->Q true)->(¬B->Q false)->c a Q)(l:B->∀Q:D->Prop,(∀x:Int,Ok x->Q (.int x))->f (wL d m a) Q)
  (g:∀x:Int,Ok x->E.nx (a.set i (some (.int x)))):AA c (AD d m i f) um E a:=by
 refine k _ (λb=>dq (l b _ λx n=>⟨?_,g x n⟩)) (λb=>bS ?_)
 ·cases m
  ·trivial
  ·rfl
 ·have:=g x0 (j b)
  obtain⟨o,e⟩:=dS.mp h;rw[<-e,aeV] at this;exact this
theorem Mf{r:List Nat}{k:Nat}(h:k<r.length):gL (r.map aq) ((k:Int)-1)=some (aq (r.getD ((k+(r.length-1))%r.length) 0)):=by
 cases k with
 |zero=>
  rw[qO,gY (by omega)]
  refine BU (j:=r.length-1) (n:=r.length) (aP _) ?_ ?_
  ·unfold i9
   rw[AC (by omega),tz (by omega)]
   exact KB some (by omega)
  ·rw[eO,b8,b9 (by omega:r.length-1<r.length)];rfl
 |succ k=>
  rw[show k+1+(r.length-1)=k+r.length by omega,aeB,gY (by omega),show((k+1:Nat):Int)-1=(k:Int) by omega]
  exact gz (by omega)
def Ic(w:W)(r:List Nat)(k:Nat):Nat:=if row w (r.getD k 0)= [] then 0 else(row w (r.getD k 0)).idxOf (r.getD ((k+(r.length-1))%r.length) 0)+1
structure BK (w v:W) (r ks:List Nat):Prop where
 len:v.length=w.length+1
 out:∀p,p<w.length->p∉(ks.map λk=>r.getD k 0)->row v p=row w p
 at_:∀k∈ks,row v (r.getD k 0)=ins (row w (r.getD k 0)) (Ic w r k) w.length
 last:row v w.length=(ks.map λk=>r.getD k 0).reverse
def Qa:cx:=λb P=>∃(w:W)(r a:List Nat),b= [aO w,au r,au a]/\Good w/\1<=w.length/\w.length<=13/\mO w r/\J7 r a/\∀v,Good v->v.length=w.length+1->BK w v r a->P (aO v)
theorem yV:FnOk P w Z.K mg base bZ 1 T.d__law_grown.f T.d__law_grown.fd ["_law_turns","_law_land","_law_places_here"] (aT Z Qa):=by
 have G:=pD.nd;refine bc T.d__law_grown.F pD [0,0,0,1,1,0,0,0] (by decide) (λds R h=>by obtain⟨_,_,_,rfl,_⟩:=h;rfl) (λbb A outer s H E ds R hr h=>?_)
 have hu:=hr.units
 refine⟨_,(ah (mn 3 (NC:= ["_law_turn"]) (src:= [none]) rfl G (lE (ar jm)) trivial (bC (aa 0)) (λ_ _ _=>(bx 0 (show(["_law_turn"]:List Str).Nodup from by decide+kernel))) (λ_ _ _=>cz) (λ_ _ _=>(eQ ot rfl T.B.list gr (ae (aa 0) ag))))
   (ah (eJ 4 G (fm ag))
   (ah (b6 rfl FM (Ce rfl T.B.reversed (ae (aa 2) ag)) (aE 5 G) (ah (Nv 6 3 G (bH (aa 1) (aa 5)))
   (ah (aJ false 7 G aw)
   (ah (bA (aQ (lL hu) (aa 6) (bg ag) (bq _)) (ao (aJ false 7 G (az ba (p8 (aa 6) (bH (aa 1) (az w4 (aa 5) aw))) aw))) aM)
   (ah (HB 3 (bH (aa 1) (aa 5)) (Kj (az ba (f9 (aa 6) iq (iu (aa 7))) (bg (ae (aI bE rfl T.B.len bD (ae (aa 0) ag)) ag))) (f9 (aa 6) (iu (aa 7)) iq)))
   (ao (eY false 4 (bH (aa 1) (aa 5)))))))))
   (ao (aK (az ba (aa 3) (bg (ae (aa 4) ag)))))))),?_⟩
 obtain⟨b,r,c,rfl,g,M,h13,L,K,q⟩:=h;have lw:(b.map au).length=b.length:=aP _;refine⟨_,rfl,?_⟩;refine kX (ρ:= [none]) au au b _ (λx d Y hY=>⟨_,rfl,hY⟩) rfl (small (by omega)) λaF=>?_
 refine⟨by show 0<=sizeLine;decide,?_⟩
 refine⟨_,rfl,?_⟩;refine(?_:kU _ _ _ (c.map aq).reverse _);rw[<-BI];have nr:(c.reverse.map λk=>r.getD k 0).Nodup:=by rw[BI];exact(List.reverse_perm _).nodup_iff.mpr K.nd
 refine bQ (λj ρ=>∃(v:W)(o5 o6 o7:Option D),ρ= [some (aO b),some (au r),some (au c),some (aO v),some (au ((c.reverse.take j).map λk=>r.getD k 0)),o5,o6,o7]/\v.length=b.length/\(∀p,p<b.length->p∉((c.reverse.take j).map λk=>r.getD k 0)->row v p=row b p)/\(∀p,p<b.length->(row v p).Nodup)/\(∀p,p<b.length->∀x,x∈row v p↔x∈row b p\/(x=b.length/\p∈(c.reverse.take j).map λk=>r.getD k 0))/\∀x∈c.reverse.take j,row v (r.getD x 0)=ins (row b (r.getD x 0)) (Ic b r x) b.length)
  ⟨b,_,_,_,rfl,rfl,(λp _ _=>rfl),(λp _=>g.nod p),(λp _ x=>⟨.inl,λh=>h.elim id λh=>nomatch h.2⟩),λx h=>by simp at h⟩ ?_ ?_
 ·rintro j _ _ hd ⟨v,o5,o6,o7,rfl,t,same,vn,J,N⟩ A hA
  obtain⟨k,u,rfl⟩:=cC hd;have kk:k∈c:=ud.mp (fB u);have O:=K.lt k kk;have al:=L.lt k O;have tk:c.reverse.take (j+1)=c.reverse.take j++ [k]:=by rw[zN,u];rfl
  generalize U:((c.reverse.take j).map λk=>r.getD k 0)=C at same J ⊢;have X:((c.reverse.take (j+1)).map λk=>r.getD k 0)=C++ [r.getD k 0]:=by rw[tk,cR,U];rfl
  have na:r.getD k 0∉C:=λz=>by
   have:=nr
   rw[<-t7 (j+1) c.reverse,cR,X] at this
   have:=(gX.mp (gX.mp this).1).2.2 _ z _ (dX.mpr rfl)
   exact this rfl
  have dl:C.length<=196:=by
   have M:=bf (m:=List.range b.length) (l:=C) (by rw[<-U,zO];exact nr.sublist (List.take_sublist ..)) λx d=>by
    rw[<-U] at d;obtain⟨y,hy,rfl⟩:=bL.mp d;exact dY.mpr (L.lt y (K.lt y (ud.mp (List.mem_of_mem_take hy))))
   rw[pY] at M;omega
  generalize ea:r.getD k 0=a at*;have rl:=gB g a;have ra:row v a=row b a:=same a al na;have U8:gL (r.map aq) (k:Int)=some (aq a):=by rw[gz O,ea]
  have lr:((row b a).map aq).length=(row b a).length:=aP _;refine⟨_,rfl,_,rfl,_,rfl,_,U8,_,_,rfl,kv (by rw[t];exact al),?_⟩
  refine⟨trivial,?_⟩;rw[ra];dsimp only;refine ET ?_;refine(?_:AA _ (AD [0,0,0,1,1,0,0,0] false 7 _) um _ [some (aO b),some (au r),some (au c),some (aO v),some (au C),some (aq k),some (au (row b a)),some (.int 0)]);refine OB (row b a≠ []) (λz=>∃i:Nat,z=(i:Int)/\i<=(row b a).length/\i=if row b a= [] then 0 else(row b a).idxOf (r.getD ((k+(r.length-1))%r.length) 0)+1) (x0:=0) (by rfl) (λnb=>⟨0,rfl,eN _,by rw[tz (Classical.not_not.mp nb)]⟩) (λQ M h2=>?_) (λne Q hQ=>?_) λz hz=>?_
  ·refine⟨_,rfl,by show 0<=sizeLine;decide,?_⟩
   refine(?_:uk (au (row b a)) (au []) _);refine ES ⟨_,rfl,?_⟩
   by_cases e:row b a= []
   ·rw[KM e];exact h2 (λz=>z e)
   ·rw[Gc e];exact M e
  ·obtain⟨x,d⟩:=List.exists_mem_of_ne_nil _ ne
   have n2:2<=b.length:=by
    have:=g.rng a x d
    have:x≠a:=λe=>g.irr a (by rw[e] at d;exact d)
    omega
   have hb:=L.tie n2 k O;rw[ea] at hb;have fx:=fw hb;have il:=v7.mpr hb;exact⟨_,rfl,_,rfl,_,rfl,_,rfl,_,Mf O,rfl,dH _,_,_,fx.1,fx.2.1,fx.2.2,hQ _ ⟨(row b a).idxOf (r.getD ((k+(r.length-1))%r.length) 0)+1,by rw[Int.natCast_add];rfl,by omega,by rw[AC ne]⟩⟩
  obtain⟨i,rfl,il,ii⟩:=hz;have ca:cutD ((row b a).map aq) none (some (i:Int))=((row b a).take i).map aq:=by rw[j8 _ _ (by rw[lr];omega),zO]
  have cb:cutD ((row b a).map aq) (some (i:Int)) none=((row b a).drop i).map aq:=by rw[mQ _ _ (by rw[lr];omega),aeK]
  have s1:(cutD ((row b a).map aq) none (some (i:Int))).length+1<=sizeLine:=by rw[ca,aP,jQ];exact small (by omega)
  have ei:(cutD ((row b a).map aq) none (some (i:Int))++ [aq (b.map au).length])++cutD ((row b a).map aq) (some (i:Int)) none=(ins (row b a) i b.length).map aq:=by
   rw[ca,cb,lw];unfold ins;rw[cR,jP];rfl
  have s2:(cutD ((row b a).map aq) none (some (i:Int))++ [aq (b.map au).length]).length+(cutD ((row b a).map aq) (some (i:Int)) none).length<=sizeLine:=by
   rw[<-cI,ei,aP,yy];exact small (by omega)
  refine⟨_,rfl,_,rfl,_,rfl,by show 1<=sizeLine;decide,s1,_,rfl,_,rfl,_,rfl,_,rfl,s2,?_⟩
  have fl:((cutD ((row b a).map aq) none (some (i:Int))++ [aq (b.map au).length])++cutD ((row b a).map aq) (some (i:Int)) none).all fq=true:=by rw[ei];exact dH _
  have ix:i9 (v.map au).length (a:Int)=some a:=by
   unfold i9;rw[tz (by omega),tz (by rw[aP,t];omega)]
   exact KB some (by omega)
  refine⟨fl,_,rfl,_,rfl,_,rfl,_,U8,_,a,rfl,ix,?_⟩;refine⟨_,rfl,_,rfl,_,rfl,_,U8,trivial,cj (by rw[aP];omega),?_⟩
  have nin:b.length∉row b a:=λz=>hJ _ (g.rng _ _ z);have o:∀p,row (v.set a (ins (row b a) i b.length)) p=if a=p then ins (row b a) i b.length else row v p:=λp=>Wb.Gm (by rw[t];exact al)
  refine hA _ ⟨v.set a (ins (row b a) i b.length),some (aq k),some (au (row b a)),some (aq i),?_,by rw[jB,t],λp n I=>?_,λp n=>?_,λp n x=>?_,λx d=>?_⟩
  ·have e3:aO (v.set a (ins (row b a) i b.length))= .lst ((v.map au).set a (.lst ((cutD ((row b a).map aq) none (some (i:Int))++ [aq (b.map au).length])++cutD ((row b a).map aq) (some (i:Int)) none))):=by
    rw[ei];exact KB D.lst (Bx ..).symm
   have e4:au (C++ [a])= .lst (C.map aq++ [aq a]):=by unfold au;rw[cR];rfl
   rw[X,e3,e4];rfl
  ·rw[X] at I
   rw[cV] at I;rw[o,AC (λe=>I (.inr (dX.mpr e.symm)))];exact same p n λz=>I (.inl z)
  ·rw[o]
   split
   ·exact yT (g.nod a) nin
   ·exact vn p n
  ·rw[o,X,cV,dX]
   split
   ·next e=>
    subst e;rw[FR];exact⟨λh=>h.elim (λh=> .inr ⟨h, .inr rfl⟩) .inl,λh=>h.elim .inr λh=> .inl h.1⟩
   ·next e=>
    rw[J p n x];exact or_congr af6 (and_congr af6 ⟨.inl,λh=>h.elim id λh=>absurd h.symm e⟩)
  ·rw[tk] at d
   rw[o]
   rcases cV.mp d with d|d
   ·rw[AC (λe=>na (by rw[e,<-U];exact bL.mpr ⟨x,d,rfl⟩))]
    exact N x d
   ·rw[dX] at d
    subst d;rw[ea,tz rfl,Ic,ea,<-ii]
 ·rintro _ ⟨v,o5,o6,o7,rfl,t,same,vn,J,N⟩
  rw[aP,BH] at same J N ⊢;have ps0:0<(c.reverse.map λk=>r.getD k 0).length:=by rw[aP,Eh];exact K.ne
  have plt:∀p∈c.reverse.map (λk=>r.getD k 0),p<b.length:=λp n=>by
   obtain⟨k,u,rfl⟩:=bL.mp n;exact L.lt k (K.lt k (ud.mp u))
  have o:∀p,row (v++ [c.reverse.map λk=>r.getD k 0]) p=if p=b.length then c.reverse.map (λk=>r.getD k 0) else row v p:=λp=>by
   unfold row;rw[b8,b8]
   by_cases e:p=b.length
   ·rw[tz e,iQ (by omega),show p-v.length=0 by omega];rfl
   ·rw[AC e]
    by_cases z:p<v.length
    ·rw[iM z]
    ·rw[eM (by rw[cI];simp only[BC];omega),eM (by omega)]
  have G2:Good (v++ [c.reverse.map λk=>r.getD k 0]):=by
   refine HW g ps0 plt (by rw[cI,t];rfl) ?_ (λx=>?_) (λp n=>?_) λp n x=>?_
   ·rw[o,tz rfl];exact nr
   ·rw[o,tz rfl]
   ·rw[o,AC (by omega)];exact vn p n
   ·rw[o,AC (by omega)];exact J p n x
  have em:∀p,p∈(c.reverse.map λk=>r.getD k 0)↔p∈c.map λk=>r.getD k 0:=λp=>by rw[BI,ud]
  have HR:BK b (v++ [c.reverse.map λk=>r.getD k 0]) r c:=⟨by rw[cI,t];rfl,λp n I=>by rw[o,AC (by omega)];exact same p n λz=>I ((em p).mp z),λk u=>by
   have:=L.lt k (K.lt k u)
   rw[o,AC (by omega)]
   exact N k (ud.mpr u),by rw[o,tz rfl,BI]⟩
  have:=q _ G2 (by rw[cI,t];rfl) HR
  have ew:aO (v++ [c.reverse.map λk=>r.getD k 0])= .lst (v.map au++ [au (c.reverse.map λk=>r.getD k 0)]):=by unfold aO;rw[cR];rfl
  rw[ew] at this;exact⟨_,rfl,_,rfl,by show 1<=sizeLine;decide,by rw[aP];exact small (by simp only[BC];omega),this⟩
variable {P:Program} {w:World} {mg:Str->Option Value} {base:Heap} {Z:DC} (T:Txt Z mg)
theorem Ox{w v:W}(g:Good w)(j:2<=w.length)(R:fk w d a)(L:mO w (a.map (·.1)))(K:J7 (a.map (·.1)) c)(h:BK w v (a.map (·.1)) c):MI w v (c.map λx=>a.getD x (0,0)):=by
 have i:(a.map (·.1)).length=a.length:=aP _;refine⟨h.len,λp l m=>h.out p l λz=>?_,λx n=>?_,?_⟩
 ·obtain⟨k,b,e⟩:=bL.mp z
  exact m _ (bL.mpr ⟨k,b,rfl⟩) (by rw[<-e,mx])
 ·obtain⟨k,b,rfl⟩:=bL.mp n
  have f:=K.lt k b;have tie:=L.tie j k f;have at_:=h.at_ k b;have ne:row w ((a.map (·.1)).getD k 0)≠ []:=List.ne_nil_of_mem tie;rw[Ic,AC ne] at at_;rw[i] at f;have pv:=Mn R f;rw[mx,i,mx] at tie at_;have o:(a.getD k (0,0)).1=(a.getD ((k+(a.length-1))%a.length) (0,0)).2:=by rw[pv];rfl
  have q:(a.getD k (0,0)).2=aS (row w (a.getD k (0,0)).1) (a.getD ((k+(a.length-1))%a.length) (0,0)).1:=by
   rw[o]
   conv=>lhs;rw[pv]
   rfl
  show Hf (row w (a.getD k (0,0)).1) (row v (a.getD k (0,0)).1) (a.getD k (0,0)).2 w.length;rw[at_,q];exact Gi tie
 ·rw[h.last,cG]
  congr 1
  exact zL λk _=>mx _ _
theorem Me{w v:W}(g:Good w)(l:Good v)(L:mO w r)(K:J7 r a)(h:BK w v r a)(m:2<=w.length->∃d e,fk w d e/\bp w d/\r=e.map (·.1))(z:1<=w.length)(P:2<=w.length->Ep w):Ep v:=by
 by_cases i:2<=w.length
 ·obtain⟨d,e,R,n,rfl⟩:=m i
  have H:=Ox g i R L K h;cases a with
  |nil=>exact absurd K.ne (by simp)
  |cons k a=>
   refine Md g l R n K.inc (λx o=>?_) ?_ H (P i)
   ·have:=K.lt x o;rwa [aP] at this
   ·have:=K.nd
    rwa [show((k::a).map λx=>(e.map (·.1)).getD x 0)=(k::a).map λx=>(e.getD x (0,0)).1 from zL λx _=>mx _ _] at this
 ·have p:w.length=1:=by omega
  obtain rfl:=F5 g p;have j:∀k∈a,r.getD k 0=0:=λk q=>by have:=L.lt k (K.lt k q);exact Nat.lt_one_iff.mp this
  cases a with
  |nil=>exact absurd K.ne (by simp)
  |cons k a=>
   have f:=j k (bO ..)
   have s:a= []:=by
    cases a with
    |nil=>rfl
    |cons t a=>
     have:=K.nd
     rw[dF,dF,f,j t (by simp)] at this
     simp at this
   subst s;have b:=h.at_ k (bO ..);rw[f,Ic,f,tz (show row ([[]]:W) 0= [] from rfl)] at b;have c:=h.last;rw[dF,f] at c;have u:=h.len
   have:v= [[1],[0]]:=by
    match v,u,b,c with
    | [x,y],_,b,c=>
     have b:x= [1]:=b;have c:y= [0]:=c;rw[b,c]
   rw[this];exact Pq
def Ta:cx:=λb P=>∃(a:List Int),b= [.lst (bz a)]/\a.length<=13/\∀w,Good w->w.length=a.length+1->(2<=w.length->Ep w)->P (aO w)
theorem Lx:Good [[]]:=⟨λp q h=>by have:=bX h;cases p<;>simp[row] at h,λp h=>by have:=bX h;cases p<;>simp[row] at h,λp=>by cases p<;>simp[row],λp q h=>by have:=bX h;cases p<;>simp[row] at h,λp a=>by
 obtain rfl:p=0:=by simpa using a
 exact .refl _⟩
theorem Dy:FnOk P w Z.K mg base bZ 2 T.d__law_web.f T.d__law_web.fd ["_law_draws_here"] (aT Z Ta):=by
 have b:=tQ.nd;refine bc T.d__law_web.F tQ [0,0,0,0,0] (by decide) (λC R h=>by obtain⟨_,rfl,_⟩:=h;rfl) (λbb A outer s H E C R c h=>?_)
 have hu:=c.units
 refine⟨_,(ah (aJ false 1 b (bg (ae (bg ag) ag)))
   (ah (b6 rfl FM (bC (aa 0)) (aE 2 b) (ah (aJ false 3 b (aH T.d__law_lands (oW T) c (ae (aa 1) ag)))
   (ah (aJ false 4 b (bH (aa 3) (az cZ (aa 2) (aI bE rfl T.B.len bD (ae (aa 3) ag)))))
   (ao (aJ false 1 b (aH T.d__law_grown (yV T) c (ae (aa 1) (ae (aa 4) (ae (aH T.d__law_places (wD T) c (ae (aa 4) (ae (az lg (aa 2) (aI bE rfl T.B.len bD (ae (aa 3) ag))) ag))) ag)))))))))
   (ao (aK (aa 1))))),?_⟩
 obtain⟨G,rfl,I,q⟩:=h;refine⟨by show 0<=sizeLine;decide,by show 1<=sizeLine;decide,trivial,?_⟩
 refine⟨_,rfl,?_⟩;refine bQ (λj J=>∃(w:W)(d e k:Option D),J= [some (.lst (bz G)),some (aO w),d,e,k]/\Good w/\w.length=j+1/\(2<=w.length->Ep w)) ⟨[[]],_,_,_,rfl,Lx,rfl,λz=>absurd z (by decide)⟩ ?_ ?_
 ·rintro j _ _ M ⟨v,d,e,k,rfl,g,r,l⟩ A N
  obtain⟨x,O,rfl⟩:=cC M;have jl:=(dS.mp O).1;refine⟨_,rfl,v,rfl,g,by omega,by omega,λa r0 rl ok _ Q=>⟨trivial,?_⟩⟩
  have t:(a.map au).length=a.length:=aP _;have n:(0:Int)<((a.map au).length:Int):=by rw[t];omega
  have m:=oQ x ((a.map au).length:Int) n;obtain⟨i,U⟩:∃i:Nat,x%((a.map au).length:Int)=(i:Int):=⟨(x%((a.map au).length:Int)).toNat,by omega⟩
  have o:i<a.length:=by omega
  have p:gL (a.map au) (x%((a.map au).length:Int))=some (au (a.getD i [])):=by
   rw[U];exact iV (by rw[eO,b8,b9 o];rfl)
  have u:a.getD i []∈a:=by rw[b8,b9 o];exact pZ o
  have L:mO v (a.getD i []):=ok _ u;refine⟨_,rfl,_,rfl,_,rfl,n,_,p,trivial,?_⟩;refine⟨_,rfl,_,rfl,_,rfl,_,rfl,_,rfl,⟨n,by show((a.map au).length:Int)<1073741824;rw[t];omega⟩,?_⟩
  refine⟨a.getD i [],_,rfl,L.ne,L.sz,λX K=>⟨v,a.getD i [],X,rfl,g,by omega,by omega,L,K,λY y l2 HR=>⟨trivial,?_⟩⟩⟩
  exact N _ ⟨Y,_,_,_,rfl,y,by omega,λ_=>Me g y L K HR (λn2=>Q n2 _ u) (by omega) l⟩
 ·rintro _ ⟨v,d,e,k,rfl,g,r,l⟩
  exact⟨_,rfl,q v g (by rw[r];unfold bz;rw[aP]) l⟩
variable {P:Program} {w:World} {mg:Str->Option Value} {base:Heap} {Z:DC} (T:Txt Z mg)
theorem yo{w v:W}(g:Good w)(len:v.length=w.length)(nod:∀p,p<w.length->(row v p).Nodup)(mem:∀p,p<w.length->∀q,q∈row v p↔q∈row w p):Good v:=by
 have all:∀{p q},q∈row v p↔q∈row w p:=λ {p q}=>by
  by_cases h:p<w.length
  ·exact mem p h q
  ·exact⟨λz=>absurd (bX z) (by omega),λz=>absurd (bX z) h⟩
 refine⟨λp q h=>by rw[len];exact g.rng p q (all.mp h),λp h=>g.irr p (all.mp h),λp=>?_,λp q h=>all.mpr (g.sym p q (all.mp h)),λp e=>?_⟩
 ·by_cases z:p<w.length
  ·exact nod p z
  ·have:row v p= []:=ae9.mpr λq h=>by have:=bX h;omega
   rw[this];exact gZ
 ·have up:∀{a b},Reach w a b->Reach v a b:=λ {a b} h=>by
   induction h with
   |refl=>exact .refl _
   |step _ c d=>exact .step d (all.mpr c)
  exact up (g.con p (by omega))
def named(w:W)(a:List Nat):W:=(List.range w.length).map λp=>(row w (a.getD p 0)).map λq=>a.idxOf q
theorem jv{a:List Nat}{x:Nat}(h:x∈a):a.getD (a.idxOf x) 0=x/\a.idxOf x<a.length:=by
 have b:=v7.mpr h;refine⟨?_,b⟩;rw[b8,b9 b];exact BE b
theorem NS{a:List Nat}(b:a.Nodup){i:Nat}(h:i<a.length):a.idxOf (a.getD i 0)=i:=by
 rw[b8,b9 h];exact b.idxOf_getElem i h
theorem ng{w:W}(h:p<w.length):row (named w a) p=(row w (a.getD p 0)).map λq=>a.idxOf q:=by
 unfold named row;rw[b8,eO,pV h];rfl
theorem Fh{w:W}(g:Good w)(N:BL w.length a):Good (named w a):=by
 have lt:∀p,p<w.length->a.idxOf p<w.length:=λp b=>by have:=(jv (fR N b)).2;rw[N.1] at this;exact this
 refine Ly (ord:=λp=>a.idxOf p) g (by unfold named;simp) lt (λp q b c e=>?_) (λy f=>?_) (λp b=>?_)
 ·have:=(jv (fR N b)).1
  have:=(jv (fR N c)).1
  have e:a.idxOf p=a.idxOf q:=e;exact(jv (fR N b)).1.symm.trans (by rw[e];exact(jv (fR N c)).1)
 ·have d:y<a.length:=by rw[N.1];exact f
  exact⟨a.getD y 0,N.2.2 _ (getD_mem d),NS N.2.1 d⟩
 ·rw[ng (lt p b),(jv (fR N b)).1]
theorem Mv{l m:List Nat}(h:l.Perm m):l.sum=m.sum:=by
 induction h with
 |nil=>rfl
 |cons x _ c=>rw[aeL,aeL,c]
 |swap x y l=>simp only[aeL];omega
 |trans _ _ a b=>exact a.trans b
theorem mR(w:W):gu w=((List.range w.length).map λp=>(row w p).length).sum:=by
 unfold gu
 congr 1
 refine qN λi=>?_;rw[eO,eO]
 by_cases h:i<w.length
 ·rw[pV h,b9 h]
  unfold row;rw[zM,zM,b8,b9 h];rfl
 ·rw[eM (by omega),eM (by rw[pY];omega)];rfl
theorem uo{w v:W}(a:v.length=w.length)(h:∀p,p<w.length->(row v p).length=(row w p).length):gu v=gu w:=by
 rw[mR,mR,a]
 congr 1
 exact zL λp b=>h p (dY.mp b)
theorem Hx{w:W}(N:BL w.length a):gu (named w a)=gu w:=by
 have b:(named w a).length=w.length:=by unfold named;simp
 have c:(List.range w.length).map (λp=>a.getD p 0)=a:=by
  refine qN λi=>?_;rw[eO]
  by_cases h:i<w.length
  ·rw[pV h,b9 (by rw[N.1];exact h),zM,b8,b9 (by rw[N.1];exact h)];rfl
  ·rw[eM (by rw[pY];omega),eM (by rw[N.1];omega)];rfl
 have d:a.Perm (List.range w.length):=(v3 N.2.1 zE).mpr λx=>⟨λh=>dY.mpr (N.2.2 x h),λh=>fR N (dY.mp h)⟩;rw[mR,b,mR w,<-Mv (d.map λx=>(row w x).length)]
 conv=>rhs;rw[<-c,cG]
 congr 1
 refine zL λp e=>?_;rw[ng (dY.mp e),aP];rfl
def Qd:cx:=λb P=>∃(w:W)(a:List Int),b= [aO w, .lst (bz a)]/\Good w/\1<=w.length/\w.length<=14/\a.length=w.length/\∀v,Good v->v.length=w.length->gu v=gu w->P (aO v)
theorem yW:FnOk P w Z.K mg base bZ 1 T.d__law_named.f T.d__law_named.fd ["_law_turns","_law_draws_here"] (aT Z Qd):=by
 have d:=pG.nd;refine bc T.d__law_named.F pG [0,0,0,0,0,1,0,0] (by decide) (λds R h=>by obtain⟨_,_,rfl,_⟩:=h;rfl) (λbb A outer s H E ds R hr h=>?_)
 have hu:=hr.units
 refine⟨_,(ah (aJ false 2 d (bg ag))
   (ah (ke rfl FM (gN rfl T.B.range (ae (aI bE rfl T.B.len bD (ae (aa 0) ag)) ag)) (aE 3 d) (ah (aJ false 4 d (az cZ (bH (aa 1) (aa 3)) (az ba (aa 3) aw)))
   (ao (aJ false 2 d (az ba (az ba (f9 (aa 2) iq (iu (aa 4))) (bg (ae (aa 3) ag))) (f9 (aa 2) (iu (aa 4)) iq))))))
   (ah (eJ 5 d (fm ag))
   (ah (ke rfl FM (gN rfl T.B.range (ae (aI bE rfl T.B.len bD (ae (aa 0) ag)) ag)) (aE 6 d) (ah (qe 7 (NC:= ["_law_q","_law_names"]) (src:= [none,some 2]) rfl d (lE (ar jn)) ⟨rfl,rfl,trivial⟩ (bC (bH (aa 0) (bH (aa 2) (aa 6)))) (λ_ _ _=>(bx 0 (show(["_law_q","_law_names"]:List Str).Nodup from by decide+kernel))) (λ_ _ _=>cz) (λ_ _ _=>(p8 (aa 1) (aa 0))))
   (ah (aJ false 4 d (az cZ (az lg (bH (aa 1) (aa 6)) aw) (aI (M0 rfl) rfl T.B.max QO (ae aw (ae (aI bE rfl T.B.len bD (ae (aa 7) ag)) ag)))))
   (ao (eY false 5 (az ba (f9 (aa 7) (iu (aa 4)) iq) (f9 (aa 7) iq (iu (aa 4)))))))))
   (ao (aK (aa 5))))))),?_⟩
 obtain⟨b,c,rfl,g,h1,dm,xl,q⟩:=h;have lw:(b.map au).length=b.length:=aP _;refine⟨by show 0<=sizeLine;decide,trivial,?_⟩
 refine⟨_,rfl,⟨by omega,by show((b.map au).length:Int)<2^62;omega⟩,?_⟩
 rw[show(((b.map au).length:Int)).toNat=b.length by omega]
 refine jZ (λj ρ=>∃(a:List Nat)(n l:Option D),ρ= [some (aO b),some (.lst (bz c)),some (au a),n,l,none,none,none]/\BL j a) ⟨[],_,_,rfl,rfl,gZ,λx h=>by cases h⟩ ?_ ?_
 ·rintro j _ hj ⟨a,n,l,rfl,U,d,lt⟩ A I
  have J:=oQ (c.getD j 0) ((j:Int)+1) (by omega)
  have X:(a.map aq).length=j:=by rw[aP,U]
  obtain⟨i,o⟩:∃i:Nat,c.getD j 0%((j:Int)+1)=(i:Int):=⟨(c.getD j 0%((j:Int)+1)).toNat,by omega⟩
  have il:i<=j:=by omega
  have r:cutD (a.map aq) none (some (c.getD j 0%((j:Int)+1)))=(a.take i).map aq:=by rw[o,j8 _ _ (by rw[X];omega),zO]
  have G:cutD (a.map aq) (some (c.getD j 0%((j:Int)+1))) none=(a.drop i).map aq:=by rw[o,mQ _ _ (by rw[X];omega),aeK]
  have ei:(cutD (a.map aq) none (some (c.getD j 0%((j:Int)+1)))++ [aq j])++cutD (a.map aq) (some (c.getD j 0%((j:Int)+1))) none=(ins a i j).map aq:=by
   rw[r,G];unfold ins;rw[cR,jP];rfl
  have s1:(cutD (a.map aq) none (some (c.getD j 0%((j:Int)+1)))).length+1<=sizeLine:=by rw[r,aP,jQ];exact small (by omega)
  have L:(cutD (a.map aq) none (some (c.getD j 0%((j:Int)+1)))++ [aq j]).length+(cutD (a.map aq) (some (c.getD j 0%((j:Int)+1))) none).length<=sizeLine:=by
   rw[<-cI,ei,aP,yy];exact small (by omega)
  refine⟨_,rfl,_,rfl,_,Fy (by omega),_,rfl,(by show(0:Int)<(j:Int)+1;omega),trivial,?_⟩
  refine⟨_,rfl,_,rfl,_,rfl,by show 1<=sizeLine;decide,s1,_,rfl,_,rfl,L,trivial,?_⟩
  refine I _ ⟨ins a i j,some (aq j),some (.int (c.getD j 0%((j:Int)+1))),?_,by rw[yy,U],yT d (λz=>by have:=lt j z;omega),λx k=>?_⟩
  ·have e:au (ins a i j)= .lst ((cutD (a.map aq) none (some (c.getD j 0%((j:Int)+1)))++ [aq j])++cutD (a.map aq) (some (c.getD j 0%((j:Int)+1))) none):=by rw[ei];rfl
   rw[e];rfl
  ·rcases FR.mp k with rfl|k
   ·omega
   ·have:=lt x k;omega
 ·rintro _ ⟨a,n,l,rfl,N⟩
  have all:∀x,x<b.length->x∈a:=λx k=>fR N k;refine⟨by show 0<=sizeLine;decide,?_⟩
  refine⟨_,rfl,⟨by omega,by show((b.map au).length:Int)<2^62;omega⟩,?_⟩
  rw[show(((b.map au).length:Int)).toNat=b.length by omega]
  refine jZ (λj ρ=>∃(v:W)(l M O:Option D),ρ= [some (aO b),some (.lst (bz c)),some (au a),n,l,some (aO v),M,O]/\v.length=j/\∀p,p<j->(row v p).Perm (row (named b a) p)) ⟨[],_,_,_,rfl,rfl,λp h=>by omega⟩ ?_ ?_
  ·rintro p _ m ⟨v,l,M,O,rfl,u,y⟩ A I
   have np:a.getD p 0<b.length:=N.2.2 _ (by rw[b8,b9 (by rw[N.1];exact m)];exact pZ _)
   have rl:=gB g (a.getD p 0);refine⟨_,rfl,_,rfl,_,rfl,_,gz (by rw[N.1];exact m),_,kv np,?_⟩
   refine kX (ρ:= [none,some (au a)]) aq (λx=>aq (a.idxOf x)) (row b (a.getD p 0)) _ (λx k Y hY=>?_) rfl (small (by omega)) λaF=>?_
   ·have Q:=fw (all x (g.rng _ _ k))
    exact⟨_,rfl,_,rfl,_,rfl,rfl,dH _,_,_,Q.1,Q.2.1,Q.2.2,hY⟩
   refine⟨trivial,?_⟩;have eT:(.lst ((row b (a.getD p 0)).map λx=>aq (a.idxOf x)):D)=au (row (named b a) p):=by rw[ng m];unfold au;rw[cG];rfl
   have tl:(row (named b a) p).length<=14:=by rw[ng m,aP];omega
   rw[eT];generalize hT:row (named b a) p=t at tl ⊢;have lt:(t.map aq).length=t.length:=aP _;have C:(0:Int)<(if ((t.map aq).length:Int)>1 then((t.map aq).length:Int) else 1):=by split<;>omega
   have J:=oQ (c.getD p 0 / 14) (if ((t.map aq).length:Int)>1 then((t.map aq).length:Int) else 1) C;refine⟨_,rfl,_,rfl,_,Fy (by omega),⟨by decide,by decide⟩,_,rfl,_,_,rfl,C,trivial,?_⟩
   obtain⟨i,o⟩:∃i:Nat,c.getD p 0 / 14%(if ((t.map aq).length:Int)>1 then((t.map aq).length:Int) else 1)=(i:Int):=⟨(c.getD p 0 / 14%(if ((t.map aq).length:Int)>1 then((t.map aq).length:Int) else 1)).toNat,by omega⟩
   have il:i<=t.length:=by
    rw[o] at J;have h2:=J.2
    split at h2<;>omega
   have r:cutD (t.map aq) none (some (i:Int))=(t.take i).map aq:=by rw[j8 _ _ (by rw[lt];omega),zO]
   have G:cutD (t.map aq) (some (i:Int)) none=(t.drop i).map aq:=by rw[mQ _ _ (by rw[lt];omega),aeK]
   have L:(cutD (t.map aq) (some (i:Int)) none).length+(cutD (t.map aq) none (some (i:Int))).length<=sizeLine:=by
    rw[r,G,aP,aP,BF,jQ];exact small (by omega)
   refine(?_:Uq _ _ _ _ _ [some (aO b),some (.lst (bz c)),some (au a),n,some (.int (c.getD p 0 / 14%(if ((t.map aq).length:Int)>1 then((t.map aq).length:Int) else 1))),some (aO v),some (aq p),some (au t)]);rw[o];refine⟨_,rfl,_,rfl,_,rfl,_,rfl,_,rfl,L,trivial,cj (by rw[aP];omega),?_⟩
   refine I _ ⟨v++ [t.drop i++t.take i],some (.int (i:Int)),some (aq p),some (au t),?_,by rw[cI,u];rfl,λx k=>?_⟩
   ·have e:aO (v++ [t.drop i++t.take i])= .lst (v.map au++ [.lst (cutD (t.map aq) (some (i:Int)) none++cutD (t.map aq) none (some (i:Int)))]):=by
     rw[r,G,<-cR];unfold aO;rw[cR];rfl
    rw[e];rfl
   ·by_cases z:x=p
    ·subst z
     have:row (v++ [t.drop i++t.take i]) x=t.drop i++t.take i:=by
      unfold row;rw[b8,iQ (by omega),show x-v.length=0 by omega];rfl
     rw[this,hT]
     have:=t8 (l₁:=t.drop i) (l₂:=t.take i)
     rwa [t7] at this
    ·have:row (v++ [t.drop i++t.take i]) x=row v x:=by
      unfold row;rw[b8,b8,iM (by omega)]
     rw[this];exact y x (by omega)
  ·rintro _ ⟨v,l,M,O,rfl,u,y⟩
   have gn:=Fh g N;have nl:(named b a).length=b.length:=by unfold named;simp
   exact⟨_,rfl,q v (yo gn (by rw[u,nl]) (λp m=>(y p (by omega)).nodup_iff.mpr (gn.nod p)) λp m x=>(y p (by omega)).mem_iff) u ((uo (by rw[u,nl]) λp m=>(y p (by omega)).length_eq).trans (Hx N))⟩
variable {P:Program} {w:World} {mg:Str->Option Value} {base:Heap} {Z:DC} (T:Txt Z mg)
theorem AY:∀(b:W)(o:Option D)(a:List D)(N:List D->Prop),a.length+b.length<=sizeLine->N (a++b.map au)->OK (qa 0) (ND (Uv 0)) (b.map au) [o] a N
 | [],o,a,N,_,h=>by
  show N a;simpa using h
 |x::c,o,a,N,d,h=>by
  rw[eX] at d;refine⟨_,rfl,(by omega:a.length<sizeLine),?_⟩
  refine AY c _ (a++ [au x]) N (by simp;omega) ?_
  rw[jP];exact h
def GF(r:List Nat)(i:Nat):List Nat:=(r.set i (r.getD (i+1) 0)).set (i+1) (r.getD i 0)
theorem Mx(r:List Nat)(i:Nat)(h:i+1<r.length):(GF r i).Perm r:=by
 unfold GF;have d:r.getD i 0=r[i]:=by rw[b8,b9 (by omega)];rfl
 have e:r.getD (i+1) 0=r[i+1]:=by rw[b8,b9 h];rfl
 have c:r=r.take i++r[i]::r[i+1]::r.drop (i+2):=by
  conv=>lhs;rw[<-t7 i r]
  rw[qK (by omega:i<r.length),qK h]
 have lt:(r.take i).length=i:=by rw[jQ];omega
 have f:(r.set i (r.getD (i+1) 0)).set (i+1) (r.getD i 0)=r.take i++r[i+1]::r[i]::r.drop (i+2):=by
  rw[d,e];generalize r[i]=a at c;generalize r[i+1]=b at c;generalize r.take i=t at c lt;generalize r.drop (i+2)=u at c;subst c;rw[List.set_append_right _ _ (by omega),List.set_append_right _ _ (by omega),lt,wb,show i+1-i=1 by omega];rfl
 rw[f]
 conv=>rhs;rw[c]
 exact aei _ (.swap ..)
def JK:cx:=λa P=>∃(w:W)(n:Int),a= [aO w, .int n]/\Good w/\1<=w.length/\w.length<=14/\∀v,Good v->v.length=w.length->gu v=gu w->P (aO v)
theorem uR:FnOk P w Z.K mg base bZ 1 T.d__law_twisted.f T.d__law_twisted.fd ["_law_turns","_law_number"] (aT Z JK):=by
 have u:=mL.nd;refine bc T.d__law_twisted.F mL [0,0,2,0,0] (by decide) (λz R h=>by obtain⟨_,_,rfl,_⟩:=h;rfl) (λN A outer s H E z R C h=>?_)
 have O:=C.units
 refine⟨_,(ah (Hy 2 (NC:= ["_law_turn"]) (src:= [none]) rfl u (lE (ar gJ)) trivial (bC (aa 0)) (λ_ _ _=>(bx 0 (show(["_law_turn"]:List Str).Nodup from by decide+kernel))) (λ_ _ _=>(EZ rfl rfl T.B.list gr (aa 0))))
   (HD 2 3 4 u rfl (az cZ (aa 1) (aI bE rfl T.B.len bD (ae (aa 0) ag))) (aQ uK (aI bE rfl T.B.len bD (ae (aa 3) ag)) aw (bq _)) (az cZ (az lg (aa 1) aw) (az w4 (aI bE rfl T.B.len bD (ae (aa 3) ag)) aw)) (dP (ae (bH (aa 3) (az ba (aa 4) aw)) (ae (bH (aa 3) (aa 4)) ag))) (aa 4) (az ba (aa 4) aw)
   (ao (aK (aa 2))))),?_⟩
 obtain⟨a,n,rfl,g,Q,U,q⟩:=h;have X:(a.map au).length=a.length:=aP _;have Y:=oQ n ((a.map au).length:Int) (by omega)
 obtain⟨p,G⟩:∃p:Nat,n%((a.map au).length:Int)=(p:Int):=⟨(n%((a.map au).length:Int)).toNat,by omega⟩
 have d:p<a.length:=by omega
 refine⟨_,rfl,AY a none [] _ (by rw[lD,qO];exact small (by omega)) ?_⟩
 rw[nX];refine(?_:Ke _ _ _ _ _ _ _ _ _ _ _ [some (aO a),some (.int n),some (aO a),none,none])
 have I:i9 (a.map au).length (p:Int)=some p:=by
  unfold i9;rw[tz (by omega),tz (by omega)]
  exact KB some (by omega)
 have rl:=gB g p;have lr:((row a p).map aq).length=(row a p).length:=aP _;refine⟨_,rfl,⟨by show 3<5;decide,by show 4<5;decide⟩,_,rfl,_,rfl,(by show(0:Int)<((a.map au).length:Int);omega),n%((a.map au).length:Int),p,_,rfl,by rw[G];exact I,tZ d,λl=>?_⟩
 refine⟨_,rfl,_,rfl,bF (λJ=>?_) λ_=>?_⟩
 ·have l3:2<(row a p).length:=by
   have:=GM J
   omega
  have m2:=oQ (n / 14) (((row a p).map aq).length-1:Int) (by omega)
  obtain⟨i,c⟩:∃i:Nat,n / 14%(((row a p).map aq).length-1:Int)=(i:Int):=⟨(n / 14%(((row a p).map aq).length-1:Int)).toNat,by omega⟩
  refine⟨_,rfl,⟨by decide,by decide⟩,_,rfl,(by show(0:Int)<(((row a p).map aq).length:Int)-1;omega),_,rfl,?_⟩
  have L:gL ((row a p).map aq) (n / 14%(((row a p).map aq).length-1:Int))=some (aq ((row a p).getD i 0)):=by rw[c];exact gz (by omega)
  have j:gL ((row a p).map aq) (n / 14%(((row a p).map aq).length-1:Int)+1)=some (aq ((row a p).getD (i+1) 0)):=by rw[c];exact gz (p:=i+1) (by omega)
  have b:∀k:Nat,k<(row a p).length->i9 ((row a p).map aq).length (k:Int)=some k:=λk hk=>by
   unfold i9;rw[tz (by omega),tz (by omega)]
   exact KB some (by omega)
  have m:i9 ((row a p).map aq).length (n / 14%(((row a p).map aq).length-1:Int))=some i:=by rw[c];exact b i (by omega)
  have o:i9 ((row a p).map aq).length (n / 14%(((row a p).map aq).length-1:Int)+1)=some (i+1):=by rw[c];exact b (i+1) (by omega)
  refine⟨_,rfl,_,rfl,_,j,_,rfl,_,rfl,_,L,by show 2<=sizeLine;decide,_,_,rfl,?_⟩
  refine⟨_,rfl,_,i,rfl,m,_,rfl,_,i+1,rfl,o,?_⟩;have t:=Mx (row a p) i (by omega)
  have v:∀x,row (a.set p (GF (row a p) i)) x=if p=x then GF (row a p) i else row a x:=λx=>Wb.Gm d
  have M:Good (a.set p (GF (row a p) i)):=by
   refine yo g (jB ..) (λx _=>?_) λx _ y=>?_
   ·rw[v]
    split
    ·exact t.nodup_iff.mpr (g.nod p)
    ·exact g.nod x
   ·rw[v]
    split
    ·next e=>subst e;exact t.mem_iff
    ·exact af6
  have e:aO (a.set p (GF (row a p) i))= .lst ((a.map au).set p (.lst ((((row a p).map aq).set i (aq ((row a p).getD (i+1) 0))).set (i+1) (aq ((row a p).getD i 0))))):=by
   unfold GF;rw[<-ae8,<-ae8];exact KB D.lst (Bx ..).symm
  exact⟨_,rfl,e▸q _ M (jB ..) (by have:=EX (r:=GF (row a p) i) d;have:=t.length_eq;omega)⟩
 ·exact⟨_,rfl,q _ g rfl rfl⟩
variable {P:Program} {w:World} {mg:Str->Option Value} {base:Heap} {Z:DC} (T:Txt Z mg)
def Mq:cx:=λa P=>∃(w:W)(m:Int),a= [.dN w, .int m]/\(w.length:Int)<=m/\P .bu
theorem uS:FnOk P w Z.K mg base bZ 2 T.d_need_at_most.f T.d_need_at_most.fd ["web","most"] (aT Z Mq):=by
 have e:=gf.nd;refine bc T.d_need_at_most.F gf [0,0] (by decide) (λd R h=>by obtain⟨_,_,rfl,_⟩:=h;rfl) (λg A outer s H E d R a h=>?_)
 have i:=a.units;refine⟨_,(ao (bA (aQ uK (cD T.W (aa 0) T.m_many.m (dE T) (a.mono (by decide)) T.m_many.b) (aa 1) (bq _)) (ao ur) aM)),?_⟩
 obtain⟨c,m,rfl,j,q⟩:=h;refine⟨_,rfl,c,rfl,c,rfl,_,rfl,_,rfl,?_⟩;exact aaS (Gc (by omega)) ⟨rfl,q⟩
def rD(L:List Parts):List D:=L.map aO
def Tb:cx:=λb P=>∃(a:Parts)(p:Nat)(row:List Nat),b= [aO a,aq p,au row]/\a.length<=100/\(∀i,(a.getD i []).length<=100)/\P (.lst (rD (dM a p row)))
theorem P1(l:List a)(k:Nat)(x:a)(h:k<l.length):l.take k++ [x]++l.drop (k+1)=l.set k x:=by
 rw[List.set_eq_take_append_cons_drop,tz h];simp
theorem yZ:FnOk P w Z.K mg base bZ 1 T.d_parts_with.f T.d_parts_with.fd ["parts","p","row"] (aT Z Tb):=by
 have o:=pL.nd;refine bc T.d_parts_with.F pL [0,0,0,1,0,0] (by decide) (λJ R h=>by obtain⟨_,_,_,rfl,_⟩:=h;rfl) (λbb A outer s H E J R L h=>?_)
 have hu:=L.units
 refine⟨_,(ah (eJ 3 o (fm (ae (az ba (aa 0) (bg (ae (bg (ae (aa 1) ag)) ag))) ag)))
   (ah (b6 rfl FM (e8 rfl T.B.enumerate (ae (aa 0) ag)) (fo 2 rfl (aV (aE 4 o) (aV (aE 5 o) cL))) (ao (bA (qg (jg (oE (NC:= ["q","row"]) (src:= [none,some 2]) rfl (lE (ar jo)) ⟨rfl,rfl,trivial⟩ (bC (aa 5)) (λ_ _ _=>(bx 0 (show(["q","row"]:List Str).Nodup from by decide+kernel))) (λ_ _ _=>(sF (aQ uL (aa 0) (aa 1) (by with_unfolding_all rfl)))) (λ_ _ _=>(aa 0))))) (ao (eY false 3 (az ba (az ba (f9 (aa 0) iq (iu (aa 4))) (bg (ae (az ba (aa 5) (bg (ae (aa 1) ag))) ag))) (f9 (aa 0) (iu (az ba (aa 4) aw)) iq)))) aM)))
   (ao (aK (aa 3))))),?_⟩
 obtain⟨b,p,row,rfl,h1,M,q⟩:=h;have k:(b.map au).length=b.length:=aP _;have c:∀n,n<=1000->n<=sizeLine:=λn h=>small h;refine⟨_,rfl,_,rfl,by show 1<=sizeLine;decide,by show 1<=sizeLine;decide,c _ (by rw[k];show b.length+1<=1000;omega),by show 1<=sizeLine;decide,?_⟩
 have N:(.lst (b.map au++ [.lst [aq p]]):D)=aO (b++ [[p]]):=by unfold aO;rw[cR];rfl
 refine⟨_,rfl,bQ (λj ρ=>∃r t,ρ= [some (aO b),some (aq p),some (au row),some (.lst (aO (b++ [[p]])::rD (((List.range j).filter λi=>sL row (b.getD i [])).map λi=>b.set i (b.getD i []++ [p])))),r,t]) ⟨_,_,by rw[<-N];rfl⟩ ?_ ?_⟩
 ·rintro j d _ C ⟨r,t,rfl⟩ A G
  obtain⟨y,u,rfl⟩:=i6 C;obtain⟨part,v,rfl⟩:=cC u;have O:j<b.length:=(dS.mp v).1;have m:b.getD j []=part:=by rw[b8,v];rfl
  have Q:part.length<=100:=by rw[<-m];exact M j
  refine⟨rfl,rfl,?_⟩;refine⟨_,rfl,my (ρ:= [none,some (au row)]) aq (λq=>decide (q∈row)) aq part _ [] _ (λy u Y Nn U X=>?_) ⟨none,rfl⟩ (by simp;exact c _ (by omega)) λaF=>⟨rfl,?_⟩⟩
  ·refine⟨_,rfl,_,rfl,rfl,dH _,_,rfl,?_⟩
   rw[AC cQ,kh];refine bF (λe=>⟨_,rfl,U e⟩) (λe=>X e)
  ·have I:vW (.lst ([]++((part.filter λq=>decide (q∈row)).map aq)))= !sL row part:=by
    simp only[vW,nX]
    congr 1
    unfold sL;clear Q m v u C
    induction part with
    |nil=>rfl
    |cons a l ih=>
     rw[BG,u9]
     by_cases h:a∈row
     ·simp[h]
     ·simp only[h,decide_false,gW,PP,Bool.not_false,Bool.true_and]
      exact ih
   have x:(List.range (j+1)).filter (λi=>sL row (b.getD i []))=(List.range j).filter (λi=>sL row (b.getD i []))++(if sL row part=true then[j] else[]):=by
    rw[afN,List.filter_append,BG,m];rfl
   refine bF (λe=>?_) (λe=>?_)
   ·rw[I,Bool.not_not] at e
    have hs:b.take j++ [part++ [p]]++b.drop (j+1)=b.set j (b.getD j []++ [p]):=by rw[P1 _ _ _ O,m]
    have z:cutD (b.map au) none (some (j:Int))=(b.take j).map au:=by rw[j8 _ _ (by rw[k];omega),zO]
    have g:cutD (b.map au) (some ((j:Int)+1)) none=(b.drop (j+1)).map au:=by
     have:=mQ (b.map au) (j+1) (by rw[k];omega)
     rw[aeK,<-this];rfl
    have l1:(b.take j).length<=100:=by rw[jQ];omega
    have l2:(b.drop (j+1)).length<=100:=by rw[BF];omega
    refine⟨_,rfl,_,rfl,_,rfl,_,rfl,_,rfl,by show 1<=sizeLine;decide,c _ ?_,by show 1<=sizeLine;decide,c _ ?_,_,rfl,_,rfl,c _ ?_,trivial,?_,?_⟩
    ·rw[aP];show part.length+1<=1000;omega
    ·rw[z,aP];show _+1<=1000;omega
    ·rw[z]
     refine(?_:_+(cutD (b.map au) (some ((j:Int)+1)) none).length<=1000);rw[g,cI,aP,aP];show _+1+_<=1000;omega
    ·refine cj ?_
     show _+1<=1000;unfold rD;rw[aP,aP]
     have:=aeX (λi=>sL row (b.getD i [])) (List.range j)
     rw[pY] at this;omega
    ·refine G _ ⟨some (.int (j:Int)),some (au part),?_⟩
     have:D.lst (cutD (b.map au) none (some (j:Int))++ [.lst (part.map aq++ [aq p])]++cutD (b.map au) (some ((j:Int)+1)) none)=aO (b.take j++ [part++ [p]]++b.drop (j+1)):=by
      rw[z,g];unfold aO;rw[cR,cR];unfold au;simp
     rw[x,e,tz rfl,this,hs];unfold rD;rw[cR,cR];rfl
   ·rw[I,Bool.not_not] at e
    rw[e,AC cQ,fJ] at x;exact G _ ⟨_,_,by rw[x];rfl⟩
 ·rintro _ ⟨r,t,rfl⟩
  refine⟨_,rfl,?_⟩;rw[i7,k];exact q
theorem yz(h:i<l.length):(bz l)[i]? =some (.int (l.getD i 0)):=by
 unfold bz;rw[eO,b8,b9 h];rfl
theorem yA(l:List Int)(i:Nat)(x:Int):(bz l).set i (.int x)=bz (l.set i x):=by unfold bz;rw[ae8]
theorem Jw(n:Nat):(cJ 0 n).map (λ_=>D.int 0)=bz (List.replicate n 0):=by
 unfold cJ bz;rw[cG,List.map_replicate];refine qN λi=>?_;rw[eO,qL]
 by_cases h:i<n
 ·rw[pV h,tz h];rfl
 ·rw[eM (by simpa using gj h),AC h];rfl
theorem FK(b:te=dC (.int 0))(c:n<=sizeLine)(h:∀a,N a (bz (List.replicate n 0))):lcW (qa 0) ml te (cJ 0 n) [none] [] N:=by
 subst b
 have:=kX (i:=0) (ρ:= [none]) (λd:D=>d) (λ_=>D.int 0) (cJ 0 n) N (λy e Y h=>h) rfl (by unfold cJ;simpa using c) (λa=>by rw[Jw];exact h a) (te:=dC (.int 0))
 simpa using this
def JF:cx:=λa P=>∃(w:W),a= [.dN w]/\1<=w.length/\w.length<=8/\P (.lst (bz (counts (List.replicate (w.length+1) 0) (jE (row w) w.length))))
theorem jx:FnOk P w Z.K mg base bZ 2 T.d_counted_by_parts.f T.d_counted_by_parts.fd ["web"] (aT Z JF):=by
 have l:=jz.nd;refine bc T.d_counted_by_parts.F jz [0,0,0,0,1,0] (by decide) (λJ R h=>by obtain⟨_,rfl,_⟩:=h;rfl) (λQ A outer s H E J R t h=>?_)
 have U:=t.units
 refine⟨_,(ah (aJ false 1 l (bg (ae (bg ag) ag)))
   (ah (b6 rfl FM (e8 rfl T.B.enumerate (ae (cD T.W (aa 0) T.m_turns.m (jh T) (t.mono (by decide)) T.m_turns.b) ag)) (fo 2 rfl (aV (aE 2 l) (aV (aE 3 l) cL))) (ao (HC 1 (NC:= ["parts","told","p","row"]) (src:= [none,none,some 2,some 3]) rfl l (lE (ar dz)) ⟨rfl,rfl,rfl,rfl,trivial⟩ (bC (aa 1)) (λ_ _ _=>(bx 0 (show(["parts","told","p","row"]:List Str).Nodup from by decide+kernel))) (λ_ _ _=>cz) (λ_ _ _=>(bC (aH T.d_parts_with (yZ T) t (ae (aa 0) (ae (aa 2) (ae (aa 3) ag)))))) (λ_ _ _=>(bx 1 (show(["parts","told","p","row"]:List Str).Nodup from by decide+kernel))) (λ_ _ _=>cz) (λ_ _ _=>(aa 1)))))
   (ah (mn 4 (NC:= ["place"]) (src:= [none]) rfl l (lE (ar dz)) trivial (qY rfl T.B.range (ae (az ba (cD T.W (aa 0) T.m_many.m (dE T) (t.mono (by decide)) T.m_many.b) aw) ag)) (λ_ _ _=>(bx 0 (show(["place"]:List Str).Nodup from by decide+kernel))) (λ_ _ _=>cz) (λ_ _ _=>aw))
   (ah (b6 rfl FM (bC (aa 1)) (aE 5 l) (ao (uq 4 (aI bE rfl T.B.len bD (ae (aa 5) ag)) CN aw)))
   (ao (aK (aa 4))))))),?_⟩
 obtain⟨a,rfl,X,L,q⟩:=h;have f8:=sH L;have o:∀n,n<=1000000->n<sizeLine:=λn h=>BD h (by decide)
 refine⟨by show 0<=sizeLine;decide,by show 1<=sizeLine;decide,trivial,?_⟩
 refine⟨_,rfl,a,rfl,a,rfl,by omega,bQ (λj p=>∃e g u k,p= [some (.dN a),some (.lst (rD (jE (row a) j))),e,g,u,k]) ⟨_,_,_,_,rfl⟩ ?_ ?_⟩
 ·rintro j d _ v ⟨e,g,u,k,rfl⟩ A x
  obtain⟨hj,rfl⟩:=Bw v;refine⟨rfl,rfl,?_⟩
  have M:(jE (row a) (j+1)).length<=1000000:=by
   have:=uw (row a) (j+1)
   have:=sH (n:=j+1) (by omega)
   omega
  refine⟨_,rfl,FJ (λp=>∃y z,p= [y,z,some (aq j),some (au (row a j))]) aO (λc=>dM c j (row a j)) aO (jE (row a) j) _ [] _ ?_ ?_ ⟨_,_,rfl⟩ (by rw[<-mv];simpa using p6 (o _ M)) ⟨trivial,?_⟩⟩
  ·rintro c C _ ⟨y,z,rfl⟩ Y G
   have l1:=wQ _ _ _ C;have N:=AJ _ _ _ C;exact⟨_,rfl,_,rfl,_,rfl,c,j,row a j,rfl,by omega,λi=>fK (N i) (by omega),G _ ⟨_,_,rfl⟩⟩
  ·rintro c C b hb _ ⟨y,z,rfl⟩ Y G
   exact⟨_,rfl,G _ ⟨_,_,rfl⟩⟩
  ·rw[nX,<-mv]
   exact x _ ⟨_,_,_,_,rfl⟩
 ·rintro _ ⟨e,g,u,k,rfl⟩
  rw[i7,aP];refine⟨_,rfl,a,rfl,a,rfl,⟨by omega,by omega⟩,?_⟩
  rw[show((a.length:Int)+1).toNat=a.length+1 by omega]
  refine FK rfl (p6 (o _ (by omega))) λaF=>?_
  refine⟨_,rfl,bQ (λj p=>∃e g k,p= [some (.dN a),some (.lst (rD (jE (row a) a.length))),e,g,some (.lst (bz (counts (List.replicate (a.length+1) 0) ((jE (row a) a.length).take j)))),k]) ⟨_,_,_,rfl⟩ ?_ ?_⟩
  ·rintro j d _ v ⟨e,g,k,rfl⟩ A x
   obtain⟨F,I,rfl⟩:=cC v;have hl:=wQ _ _ _ (fB I);have hc:(counts (List.replicate (a.length+1) 0) ((jE (row a) a.length).take j)).length=a.length+1:=by rw[gR];simp
   have r:F.length<(counts (List.replicate (a.length+1) 0) ((jE (row a) a.length).take j)).length:=by omega
   have O:((F.map au).length:Int)=((F.length:Nat):Int):=by rw[aP]
   refine⟨_,rfl,_,rfl,_,F.length,_,rfl,?_,yz r,_,rfl,?_⟩
   ·rw[O,fO];exact qi r
   ·rw[yA]
    refine x _ ⟨e,g,some (aO F),?_⟩;rw[zN,I,Ei,B8];rfl
  ·rintro _ ⟨e,g,k,rfl⟩
   refine⟨_,rfl,?_⟩
   have:(rD (jE (row a) a.length)).length=(jE (row a) a.length).length:=aP _
   rw[this,BH];exact q
def KU:cx:=λa P=>∃(w:W),a= [.dN w]/\1<=w.length/\w.length<=8/\P (.lst (bz (vX (row w) w.length)))
theorem Ba:FnOk P w Z.K mg base bZ 3 T.d_ways.f T.d_ways.fd ["web"] (fQ Z 1 KU):=by
 have o:=tU.nd;refine qh 1 T.d_ways.F tU [0,1,0,0,0,0,0] (by decide) (λX R h=>by obtain⟨_,rfl,_⟩:=h;rfl) (λbb A outer s H E X R v h=>?_)
 have hu:=v.units
 refine⟨_,(ah (Nu (aH T.d_need_at_most (uS T) v (ae (aa 0) (ae (jW rfl T.c_MOST_COUNTED) ag))))
   (ah (mn 1 (NC:= ["place"]) (src:= [none]) rfl o (lE (ar ni)) trivial (qY rfl T.B.range (ae (az ba (cD T.W (aa 0) T.m_many.m (dE T) (v.mono (by decide)) T.m_many.b) aw) ag)) (λ_ _ _=>(bx 0 (show(["place"]:List Str).Nodup from by decide+kernel))) (λ_ _ _=>cz) (λ_ _ _=>aw))
   (ah (aJ false 2 o (bg (ae aw ag)))
   (ah (b6 rfl FM (e8 rfl T.B.enumerate (ae (aH T.d_counted_by_parts (jx T) v (ae (aa 0) ag)) ag)) (fo 2 rfl (aV (aE 3 o) (aV (aE 4 o) cL))) (ah (b6 rfl FM (e8 rfl T.B.enumerate (ae (aa 2) ag)) (fo 2 rfl (aV (aE 5 o) (aV (aE 6 o) cL))) (ao (uq 1 (aa 5) CN (az gG (aa 4) (aa 6)))))
   (ao (qe 2 (NC:= ["up","same","less"]) (src:= [none,none,some 3]) rfl o (lE (ar ni)) ⟨rfl,rfl,trivial⟩ (Kl rfl T.B.zip (ae (az ba (bg (ae aw ag)) (aa 2)) (ae (az ba (aa 2) (bg (ae aw ag))) ag))) (λ_ _ _=>(sE 2 rfl (fD (bx 0 (show(["up","same","less"]:List Str).Nodup from by decide+kernel)) (fD (bx 1 (show(["up","same","less"]:List Str).Nodup from by decide+kernel)) oG)))) (λ_ _ _=>cz) (λ_ _ _=>(az w4 (aa 0) (az gG (aa 2) (aa 1))))))))
   (ao (E2 1)))))),?_⟩
 obtain⟨a,rfl,h1,M,q⟩:=h;have f8:=sH M;have g:∀n,n<=1000000->n<sizeLine:=λn h=>BD h (by decide)
 refine⟨_,rfl,a,8,rfl,by omega,?_⟩
 refine⟨_,rfl,a,rfl,a,rfl,⟨by omega,by omega⟩,?_⟩
 rw[show((a.length:Int)+1).toNat=a.length+1 by omega]
 refine FK rfl (p6 (g _ (by omega))) λaF=>?_
 refine⟨by show 1<=sizeLine;decide,trivial,?_⟩
 generalize x:counts (List.replicate (a.length+1) 0) (jE (row a) a.length)=p;have lcs:p.length=a.length+1:=by rw[<-x,gR];simp
 refine⟨_,rfl,a,rfl,h1,M,?_⟩;rw[x];refine bQ (λj r=>∃z C k l,r= [some (.dN a),some (.lst (bz (jd (List.replicate (a.length+1) 0) (p.take j) 0))),some (.lst (bz (bN j))),z,C,k,l]) ⟨_,_,_,_,rfl⟩ ?_ ?_
 ·rintro j d _ hd ⟨z,C,k,l,rfl⟩ A hA
  obtain⟨y,N,rfl⟩:=i6 hd;obtain⟨c,G,rfl⟩:=cC N;have hj:j<p.length:=(dS.mp G).1;have I:=xZ (row a) a.length j (by omega)
  rw[x,b8,G] at I;have I:0<=c/\c<=fact a.length:=I;generalize O:jd (List.replicate (a.length+1) 0) (p.take j) 0=t;have lt:t.length=a.length+1:=by rw[<-O,rR];simp
  refine⟨rfl,rfl,?_⟩;refine⟨_,rfl,bQ (λi r=>∃k l,r= [some (.dN a),some (.lst (bz (eB t (((bN j).take i).map (c*·))))),some (.lst (bz (bN j))),some (.int (j:Int)),some (.int c),k,l]) ⟨_,_,by rw[List.take_zero,ae5,xB];rfl⟩ ?_ ?_⟩
  ·rintro i d' _ gx ⟨k,l,rfl⟩ A' HY
   obtain⟨y',Fv,rfl⟩:=i6 gx;obtain⟨f,Q,rfl⟩:=cC Fv;have hi:i<(bN j).length:=(dS.mp Q).1;rw[i8] at hi;have lta:(eB t (((bN j).take i).map (c*·))).length=a.length+1:=by rw[qT,lt]
   have u:i<(eB t (((bN j).take i).map (c*·))).length:=by omega
   refine⟨rfl,rfl,?_⟩;refine⟨_,rfl,_,rfl,_,i,_,rfl,by rw[fO];exact qi u,yz u,_,rfl,_,rfl, .inl ⟨by omega,by omega⟩,_,rfl,?_⟩
   rw[yA];refine HY _ ⟨some (.int (i:Int)),some (.int f),?_⟩
   have e:eB t (((bN j).take (i+1)).map (c*·))=(eB t (((bN j).take i).map (c*·))).set i ((eB t (((bN j).take i).map (c*·))).getD i 0+c*f):=by
    have U:(((bN j).take i).map (c*·)).length=i:=by rw[aP,jQ,i8];omega
    rw[zN,Q,Ei,cR]
    have:=vd (c*f) t (((bN j).take i).map (c*·)) (by rw[U];omega)
    rw[U] at this;exact this
   rw[e];rfl
  ·rintro _ ⟨k,l,rfl⟩
   rw[i7,fO,BH];refine⟨by show 1<=sizeLine;decide,_,rfl,?_⟩
   refine⟨by rw[fO,i8];show 1+(j+1)<=sizeLine;exact p6 (g _ (by omega)),_,rfl,by show 1<=sizeLine;decide,by rw[fO,i8];show j+1+1<=sizeLine;exact p6 (g _ (by omega)),?_⟩
   have e1: [D.int 0]++bz (bN j)=bz (0::bN j):=rfl;have e2:bz (bN j)++ [D.int 0]=bz (bN j++ [0]):=by unfold bz;rw[cR];rfl
   have e0:pT (bz (0::bN j)) (bz (bN j++ [0]))=((0::bN j).zip (bN j++ [0])).map λy=>D.tup [.int y.1, .int y.2]:=Bz D.int _ _;rw[e1,e2];refine(?_:lcW _ _ _ (pT (bz (0::bN j)) (bz (bN j++ [0]))) _ _ _);rw[e0];refine kY (λr=>∃J L,r= [J,L,some (.int (j:Int))]) (λy:Int×Int=>D.tup [.int y.1, .int y.2]) (λ_=>true) (λy=> .int (y.1-j*y.2)) _ _ [] _ ?_ ⟨_,_,rfl⟩ ?_ ?_
   ·rintro y N _ ⟨J,L,rfl⟩ Y Nn hY _
    refine⟨rfl,rfl,?_⟩;exact QB ⟨_,rfl,_,rfl,_,rfl, .inl ⟨by omega,by omega⟩,hY _ ⟨_,_,rfl⟩ rfl⟩
   ·rw[List.length_zip,cI,eX,i8]
    show 0+_<=sizeLine
    have:=g (j+2) (by omega)
    simp;omega
   ·rintro _ ⟨J,L,rfl⟩
    refine⟨trivial,hA _ ⟨some (.int (j:Int)),some (.int c),k,l,?_⟩⟩;rw[Eg.mpr (λ_ _=>rfl),nX]
    have e3:((0::bN j).zip (bN j++ [0])).map (λy:Int×Int=>D.int (y.1-j*y.2))=bz (bN (j+1)):=by
     unfold bz;rw[bN,Dj,<-zip_map,cG];rfl
    rw[e3]
    have e4:jd (List.replicate (a.length+1) 0) (p.take (j+1)) 0=eB t ((bN j).map (c*·)):=by
     rw[zN,G,Ei,zx,O];rw[jQ,show 0+min j p.length=j by omega]
    rw[e4];rfl
 ·rintro _ ⟨z,C,k,l,rfl⟩
  refine⟨_,rfl,?_⟩;rw[i7,fO,BH];unfold vX at q;rw[x] at q;exact q
end Hc
namespace L2
open PySem PySem.Spec PyProof.Rows
section
variable {P:Program} {w:World} {K:PySem.W.Frag} {mg:Str->Option Value} {base:Heap} {Z:DC} {k:Nat} {f:Addr} {fd:FuncData} {ps:List Str}
theorem FnOk.both(F:FnOk P w K mg base bZ k f fd ps (aT Z a))(e:FnOk P w K mg base (mN P w) k f fd ps (fe Z b)):FnOk P w K mg base (mN P w) k f fd ps (fe Z λc P R=>a c P\/b c P R):=by
 refine(F.up.or e).imp λl H Q E g=>?_;rfl';obtain⟨G,c,P,R,s,dv,h,d,j⟩:=g;ac_rfl;exact h.elim (λh=> .inl ⟨G,c,P,s,dv,h,d⟩) (λh=> .inr ⟨G,c,P,R,s,dv,h,d,j⟩)
theorem HL(j:Nat){x e:Str}{st:Stmt}{f:Addr}{n:FuncData}{N g:List Str}{l:cx}(F:oh K x e st f n)(S:aD N g (ar st))(o:List Nat)(u:∀i,i<g.length->o.getD i 0=0)(len:∀a P,l a P->a.length=g.length)
  (y:∀(m:Value)(A:Around)(outer:List Env)(s:Shared)(H:Hp)(a:List D)(R:D->Prop),A.units+64<cLine->l a R->
   ∃t,DSs Z (QS P w K mg base N e (ar st) f m A outer s H) o j (eI st) t/\t {nx:=λ_=>j=0/\R .bu,rt:=R} (jq N a)):MG P w K mg base 1 f n g (fQ Z j l):=by
 refine F.R6 S (λB H Q E h=>?_) (λm A outer s H B Q E C h=>?_)
 ·obtain⟨G,a,R,s,dv,h,q⟩:=h
  rw[dv.length];exact len _ _ h
 rfl';obtain⟨G,a,R,J,dv,h,q⟩:=h;have L:=q;obtain⟨t,M,O⟩:=y m A outer s H a R C h;have hl:=len _ _ h;ac_rfl;refine⟨_,M,⟨G,H,G⟩,_,_,⟨G,λ_=> [],?_⟩,O,⟨λρ p ay T ⟨U,fp,X⟩=>q _ p.2 _ [] U T X.ex (by rw[p.1];exact⟨.bu,rfl⟩) gZ (λb Y=>by cases Y),L,λ_ z=>z.elim,λ_ z=>z.elim,λ_ _ z=>z.elim⟩⟩
 refine⟨.refl J, .refl _,by unfold jq start;simp[dv.length],λi d c=>?_,λ_=>gZ,(λ_ _ _ _ z=>by cases z),(λ_ _ z=>by cases z)⟩
 unfold jq at c
 have r:i<a.length:=by
  apply FB;intro z;rw[iQ (by simpa using gj z),qL] at c
  split at c<;>cases c
 rw[iM (by simpa using r),eO] at c
 have k:a[i]? =some d:=by
  cases z:a[i]? with
  |none=>rw[z] at c;cases c
  |some d'=>rw[z] at c;cases c;rfl
 obtain⟨v,hv,iZ⟩:=dv.get k;refine⟨v,?_,by rw[u i (by omega)];exact⟨iZ,rfl⟩⟩
 unfold start;rw[iM (by simpa [dv.length] using r),eO,hv];rfl
end
section
variable {Z:DC} {X:Cx} {md:List Nat} {rn:Nat} {st:Stmt} {t:gk} {e tg:Expr} {es:List Expr} {sd:xp} {k j:Nat} {x:Str} {ps:List Str} {p p0 p1 p2 pos aN:Pos} {body:List Stmt} {g:dZ} {tb:cy}
theorem L6{sp:Sp}{t:TA}(d:eF X.K X.mg x st ps)(F:MG X.prog X.w X.K X.mg X.base k d.f d.fd ps sp)(hr:BN k X.A)(ha:PA X (e::es) t)(hg:Gl X x:=by rfl)
  (dB:(x==("__debug__":Str))=false:=by decide) (he:starEach (e::es) X.env=(false,eval e X.env)::starEach es X.env:=by rfl) (cg:(backTo pos (starEach es X.env)).any (·.1)=false:=by rfl):
  PE X (.Call (.Name x p) (e::es) [] pos) (λσ H Q=>t σ H λvs H1=>sp vs H1 Q E0):=by
 intro pins s σ H Q I h;refine wpAny_Call_Name_kw (iF I hg d.m ?_ dB);refine PySem.W.callWith_K (h₀:=X.base) I.ok.mod.kin d.F.kp (thn (PA.imp ha (λ_ _ _ q=>q) pos pins s σ H _ I h) λus s1 ⟨vs,H1,I1,r,q⟩=>⟨I1.cW,?_⟩) he cg;have hl:(us++ []).length=ps.length:=by rw[fJ,<-r.length];exact F.len _ _ _ _ q
 have z6:=d.b s1 us I1.cW hl;rw[fJ] at z6;refine wpAny_call (codeAny_mono (F.run X.A X.stack s1 H1 ⟨us,[]⟩ us vs Q E0 hr I1.E4 z6 r q) λr s' hq=>?_);cases r with
 |error e=>exact hq.elim
 |ok fl=>
  cases fl with
  |ret u=>exact I1.after hq
  |next=>exact False.elim hq
  |brk=>exact False.elim hq
  |cont=>exact False.elim hq
theorem Ll(i:Nat)(L:X.N.Nodup)(d:eF X.K X.mg x st ps)(F:MG X.prog X.w X.K X.mg X.base k d.f d.fd ps (fQ Z n u))(O:BN k X.A)(Q:DA Z X (e::l) t)(R:Gl X x:=by rfl)
  (T:(x==("__debug__":Str))=false:=by decide) (U:starEach (e::l) X.env=(false,eval e X.env)::starEach l X.env:=by rfl) (Y:(backTo z (starEach l X.env)).any (·.1)=false:=by rfl)
  (g:C.getD i 0=n:=by rfl) (hi:X.N[i]? =some y:=by rfl) (hx:Loc X.env.scope y:=by first|exact Or.inl rfl|exact Or.inr rfl) (hs:swapsWith (.Call (.Name x p) (e::l) [] z) (some (.Name y a)) m.line X.env=pure false:=by rfl)
  (hf:X.fn y=true\/X.env.scope.names.lookup y=some .local:=by first|exact .inl rfl|exact .inr rfl|assumption):DSt Z X C rn (.Assign [.Name y a] (.Call (.Name x p) (e::l) [] z) m) (VU C i u t):=by
 refine(jj L hi hx (L6 d F O Q R T U Y) hs hf).imp ?_;intro D σ H aC;rfl';obtain⟨B,ρ,E,⟨G,fp,S⟩,h,M⟩:=aC;ac_rfl;refine⟨G,_,_,S.ex.sub,S.qB,h,λds q vs G1 H1 r bB=>?_⟩;refine⟨G1,ds,_,r.sub,bB,q,λd q v f I H2 x2 o nd J=>?_⟩;have x:=r.trans x2;have s:∀b∈f,H b=none/\H2 b≠none/\I b=none:=λb c=>⟨r.hh.free (J b c).1,(J b c).2⟩;exact M.nx _ q _ _ ⟨I,_,(S.grow x).Br g o nd (λb c=>⟨S.ex.hh.free (s b c).1,(s b c).2⟩) λb c j _ hj=>(S.nw j b hj).2.1 (s b c).1⟩
theorem Lk(i:X.calm=true)(l:PassesOwn (model X.prog X.w) X.A X.env X.xe)(d:eF X.K X.mg x st ps)(F:FnOk X.prog X.w X.K X.mg X.base (mN X.prog X.w) k d.f d.fd ps (fe Z sd))(n:bW j X.A)(o:DA Z X (e::es) t)(q:X.mg "reversed"=none)(a:GZ Z X md tg g)(r:DSs Z X md rn body tb)(s:Gl X "reversed":=by rfl)(u:Gl X x:=by rfl)(v:k<=j:=by first|decide|omega)
  (y:(x==("__debug__":Str))=false:=by decide) (z:starEach (e::es) X.env=(false,eval e X.env)::starEach es X.env:=by rfl) (C:(backTo aN (starEach es X.env)).any (·.1)=false:=by rfl)
  (I:starEach [.Call (.Name x p) (e::es) [] aN] X.env= [(false,eval (.Call (.Name x p) (e::es) [] aN) X.env)]:=by rfl)
  (J:∀c,foldedSetIterable (.Call (.Name "reversed" p0) [.Call (.Name x p) (e::es) [] aN] [] p1) X.env c=pure c:=by intro _;rfl):
  DSt Z X md rn (.For tg (.Call (.Name "reversed" p0) [.Call (.Name x p) (e::es) [] aN] [] p1) body [] pos) (Kc md sd t λ_ _ _=>False):=by
 refine(DL l i (KI s q (bM (Bg F (n.mono v) u d.m d.F.kp d.b o y z C) df) I) a r J).imp ?_;intro D Q H L;rfl';obtain⟨B,T,E,⟨G,U,S⟩,h,M⟩:=L;ac_rfl;exact vh S h M λd O=>O.elim
end
end L2
namespace Wy
def Bd(M:Nat)(l:List Int):Prop:=∀x∈l,x.natAbs<=M
theorem Bd.zip{M m:Nat}:∀{a b:List Int},Bd M a->Bd M b->Bd (M+m*M) (List.zipWith (λx y=>x-(m:Int)*y) a b)
 | [],_,_,_=>λx h=>by simp at h
 |_::_,[],_,_=>λx h=>by simp at h
 |a::as,b::bs,d,e=>λx h=>by
  rw[List.zipWith_cons_cons,bT] at h
  rcases h with rfl|h
  ·have g:=d a (bO ..)
   have f:=e b (bO ..);have i:((m:Int)*b).natAbs=m*b.natAbs:=by rw[af7];rfl
   have j:m*b.natAbs<=m*M:=Nat.mul_le_mul_left _ f;omega
  ·exact Bd.zip (λy c=>d y (bU _ c)) (λy c=>e y (bU _ c)) x h
theorem Bd.UH:∀m,m<=9->Bd (10^m) (bN m)
 |0,_=>λx h=>by simp[bN] at h;subst h;decide
 |m+1,f=>by
  have c:=Bd.UH m (by omega)
  have z:=Bd.zip (m:=m) (a:=0::bN m) (b:=bN m++ [0]) (λx h=>(bT.mp h).elim (λe=>by subst e;exact eN _) (c x)) (λx h=>(cV.mp h).elim (c x) λe=>by rw[dX] at e;subst e;exact eN _)
  intro x d;have g:=z x d;have i:m*10^m<=9*10^m:=Nat.mul_le_mul_right _ (by omega)
  rw[agb];omega
theorem Bd.add:∀{t l:List Int},Bd M t->Bd N l->Bd (M+N) (eB t l)
 | [],_,_,_=>λx h=>by simp[eB] at h
 |a::t,[],c,_=>λx h=>fK (c x h) (Nat.le_add_right _ _)
 |a::t,b::l,c,e=>λx h=>by
  rw[eB,bT] at h
  rcases h with rfl|h
  ·have f:=c a (bO ..)
   have g:=e b (bO ..);omega
  ·exact Bd.add (λy d=>c y (bU _ d)) (λy d=>e y (bU _ d)) x h
theorem Bd.told:∀(a t:List Int)(m M:Nat),Bd C a->m+a.length<=10->Bd M t->Bd (M+a.length*(C*10^9)) (jd t a m)
 | [],t,m,M,_,_,b=>λx h=>by have:=b x h;simpa using this
 |c::a,t,m,M,i,n,b=>by
  have j:(c::a).length=a.length+1:=rfl;have f:=Bd.UH m (by omega)
  have g:Bd (C*10^9) ((bN m).map (c*·)):=λx d=>by
   obtain⟨y,e,rfl⟩:=bL.mp d;have k:=f y e;have l:(10:Nat)^m<=10^9:=Nat.pow_le_pow_right (by decide) (by omega)
   show(c*y).natAbs<=_;rw[af7];exact wa (i c (bO ..)) (fK k l)
  have:=Bd.told a _ (m+1) _ (λy e=>i y (bU _ e)) (by omega) (b.add g)
  intro x d
  have:=this x d
  rw[j,af9];omega
theorem Bd.vX(r:Nat->List Nat)(h:n<=8):Bd (2^50) (vX r n):=by
 have b:Bd 40320 (counts (List.replicate (n+1) 0) (jE r n)):=λx a=>by
  obtain⟨i,c,e⟩:=GW.mp a;have d:i<n+1:=by rw[gR,qM] at c;exact c
  have:=xZ r n i d
  rw[b8,b9 c,e] at this
  have:=sH h
  simp only[Option.getD_some] at*;omega
 intro x a
 have:=Bd.told _ _ 0 0 b (by rw[gR,qM];omega) (λy f=>by rw[(List.mem_replicate.mp f).2];exact bK _) x a
 rw[gR,qM] at this;have g:(n+1)*(40320*10^9)<=9*(40320*10^9):=Nat.mul_le_mul_right _ (by omega)
 have j:0+9*(40320*10^9)<=2^50:=by decide
 omega
theorem Bd.horner(c:k.natAbs<=2^200):∀(l:List Int)(t:Int)(e:Nat),t.natAbs<=2^(e+50)->Bd (2^50) l->(l.foldl (λt a=>t*k+a) t).natAbs<=2^(e+50+201*l.length)
 | [],t,e,b,_=>b
 |a::l,t,e,b,d=>by
  have f:(t*k).natAbs<=2^(e+50)*2^200:=by rw[af7];exact wa b c
  have g:=d a (bO ..)
  have h:2^50<=2^(e+50)*2^200:=by
   rw[<-Nat.pow_add];exact Nat.pow_le_pow_right (by decide) (by omega)
  have i:(t*k+a).natAbs<=2^(e+201+50):=by
   have j:(t*k+a).natAbs<=(t*k).natAbs+a.natAbs:=Int.natAbs_add_le _ _
   have m:2^(e+201+50)=2^(e+50)*2^200+2^(e+50)*2^200:=by
    rw[<-Nat.two_mul,<-Nat.pow_add,Nat.mul_comm,<-agb]
   rw[m];exact fK j (Nat.add_le_add f (fK g h))
  have:=Bd.horner c l _ (e+201) i (λy n=>d y (bU _ n))
  rw[show e+50+201*(a::l).length=e+201+50+201*l.length by rw[eX];omega]
  exact this
end Wy
namespace L2
open PySem PySem.Spec PyProof.Rows
section
variable {Z:DC} {X:Cx} {a:Expr} {ta:aX} {pos:Pos}
def Rh(b:aX):hU:=λc P=>b c λd=>∃i j:Int,d= .rng i j/\(-(2^62)<=i/\i<2^62/\-(2^62)<=j/\j<2^62/\(j-i).toNat<=1000)/\P (cJ i (j-i).toNat)
theorem Li{x:Str}{p:Pos}(g:X.calm=true)(N:x="list")(k:Gl X x)(l:X.mg x=none)(m:bootBuiltins x=some (.type "list"))(n:DE Z X a ta)(o:x≠"__name__":=by decide)(r:(x==("__debug__":Str))=false:=by decide)
  (c:starEach [a] X.env=(false,eval a X.env)::starEach [] X.env:=by rfl) (t:(backTo pos (starEach [] X.env)).any (·.1)=false:=by rfl):DF Z X 1 (.Call (.Name x p) [a] [] pos) (Rh ta):=by
 refine(rG (oq g) k l m (bM n df c) o r c t).imp ?_;intro O H Q u;rfl';obtain⟨G,y,P,s,e,h,q⟩:=u;ac_rfl;refine⟨G,y,_,s,e,h,λd z v T U b dv=>?_⟩;obtain⟨i,j,rfl,⟨A,B,C,E,F⟩,I⟩:=z;cases dv with
 |rng h=>
  refine⟨_,i,j,rfl,b.sub _ _ h,A,B,C,E,F,λp f=>?_⟩;obtain⟨J,L,M⟩:=oX b f (zc i _);exact q _ I _ _ _ _ (b.side f) J L M
end
section
variable {Z:DC} {X:Cx} {md:List Nat} {rn:Nat} {e:Expr} {te:aX} {apos aN pos:Pos}
def ZM(i:Nat)(c:aX):cy:=λE b=>∃a:List Int,b[i]? =some (some (.lst (a.map D.int)))/\c b λd=>∃k q,d= .int k/\a[q]? =some k/\(∀m,m<q->a[m]? ≠some k)/\E.nx (b.set i (some (.lst ((a.eraseIdx q).map D.int))))
theorem Q8(i:Nat)(r:DE Z X e te)(j:md.getD i 0=1:=by rfl)(s:X.N[i]? =some x:=by rfl)(t:mh X.env.scope x:=by first|exact Or.inl rfl|exact Or.inr (Or.inl rfl) |exact Or.inr (Or.inr rfl))(u:(x==("__debug__":Str))=false:=by decide)(w:(x==("__classdict__":Str))=false:=by decide)
  (y:attributeBase (.Name x b) "remove" X.env (eval (.Name x b) X.env)=eval (.Name x b) X.env:=by rfl)
  (z:((backTo aN (starEach [e] X.env)).all (λx=>!x.1)&&(backToKw aN (keywordEach [] X.env)).all (λx=>x.1.isSome)&&decide (([e]:List Expr).length+([]:List Keyword).length+(if ([]:List Keyword).isEmpty then 0 else 1)<30))=true:=by rfl)
  (A:(apos.endLine==aN.line)=true:=by rfl) (m:starEach [e] X.env=(false,eval e X.env)::starEach [] X.env:=by rfl) (C:(backTo aN (starEach [] X.env)).any (·.1)=false:=by rfl)
  (I:swapsWith (.Call (.Attribute (.Name x b) "remove" apos) [e] [] aN) none pos.line X.env=pure false:=by rfl):
  DSt Z X md rn (.Expr (.Call (.Attribute (.Name x b) "remove" apos) [e] [] aN) pos) (ZM i te):=by
 refine(iH (y6 SZ PySem.F.slot_list_remove PySem.F.type_list_remove Jc (pv i s t u w) (bM r df m) y z A m C) I).imp ?_;intro D σ H J;rfl';obtain⟨B,ρ,E,⟨G,L,S⟩,⟨O,n,h⟩,M⟩:=J;ac_rfl;rfl';obtain⟨l0,Q,Q6,R,c,f,_,_⟩:=S.one j n;ac_rfl;refine⟨_,c,ty_list f,S.ev true h ?_⟩;intro _ T;rfl';obtain⟨k,q,rfl,U,Y,g⟩:=T;ac_rfl;refine⟨rfl,λv G' H' S' x dv=>?_⟩;rfl';cases dv.ofInt;obtain⟨l,xs,gw,e1,o,p,bB,put⟩:=S'.one j n;cases e1;rw[c] at o;cases o;rw[oJ bB] at p;ac_rfl;exact⟨_,O,k,q,rfl,rfl,p,U,Y,M.nx _ g _ _ ⟨G',L,put _ _ (.ints _)⟩⟩
end
section
variable {Z:DC} {X:Cx} {B:Bs} {md:List Nat} {rn:Nat} {ρ:DN} {σ:St} {H G:Hp} {fp:Nat->List Addr} {te:aX} {pos:Pos}
variable {elt tg iter:Expr} {ifs:List Expr} {scope:Scope} {NC:List Str} {src:List (Option Nat)} {X3:dG} {wi:hZ} {g:dZ}
def VW(i:Nat)(t:hU):cy:=λE a=>t a λb=>oR b=true/\E.nx (a.set i (some (.lst b)))
theorem Jd(n:md.getD i 0=1)(S:SIx Z B md ρ σ H G fp)(h:t ρ λc=>oR c=true/\E.nx (ρ.set i (some (.lst c))))(M:Meets Z X B md rn E l):rz Z 1 t σ H λv m=>l.nx (σ.set i (some v)) m:=by
 obtain⟨N,p,q⟩:=S.Nz;refine⟨je G H fp,ρ,_,p,q,h,?_⟩;rintro c ⟨r,s⟩ v f O m x o Q u;rfl';obtain⟨y,k⟩:=S.UO x;have z:=S.grow y;obtain⟨a,A,T,U,rfl,C,F,I,J⟩:=o.lst;cases C;obtain⟨dv,rfl⟩:=J.flat;have d:=u a (by rw[I];simp)
 ac_rfl;refine M.nx _ s _ _ ⟨_,_,z.Br (f:= [a]) n (.inl ⟨a,A,c,[],rfl,rfl,F,rfl,(dv.mD k r).own⟩) (by simp) (λb e=>?_) λb e j _ L=>?_⟩
 ·have:b=a:=by simpa using e
  subst this;refine⟨S.ex.hh.free d.1,d.2.1,?_⟩;unfold rm
  split
  ·rfl
  ·exact d.2.2
 ·have:b=a:=by simpa using e
  subst this;exact(S.nw j b L).2.1 d.1
theorem Hz(i:Nat)(e:X.calm=true)(f:X.N.Nodup)(c:bP X scope)(j:dj scope X.N src NC)(k:DI Z X tg iter wi)
  (l:∀a s H,DG Z (bY X scope NC a s H) tg g) (m:∀a s H,xq Z (bY X scope NC a s H) ifs X3) (n:∀a s H,DE Z (bY X scope NC a s H) elt te)
  (o:swapsWith (.ListComp elt [⟨tg,iter,ifs,0⟩] scope pos) (some (.Name x b)) d.line X.env=pure true:=by rfl) (p:md.getD i 0=1:=by rfl) (q:X.N[i]? =some x:=by rfl) (r:Loc X.env.scope x:=by first|exact Or.inl rfl|exact Or.inr rfl)
  (t:X.fn x=true\/X.env.scope.names.lookup x=some .local:=by first|exact .inl rfl|exact .inr rfl|assumption)
  (u:∀x,foldedSetIterable iter X.env x=pure x:=by intro _;rfl):DSt Z X md rn (.Assign [.Name x b] (.ListComp elt [⟨tg,iter,ifs,0⟩] scope pos) d) (VW i (Rg wi g X3 te src)):=by
 refine(ql e f q r c j k l m n o t u).imp ?_;intro z v H w;rfl';obtain⟨B,C,E,⟨G,F,S⟩,h,M⟩:=w;ac_rfl;exact yK v H _ (Jd p S h M)
end
end L2
namespace Hc
open PySem L2 Wb
variable {P:Program} {w:World} {mg:Str->Option Value} {base:Heap} {Z:DC} (T:Txt Z mg)
open Wy
def JE(c:Addr):xp:=λa P R=>∃(w:W)(m:Int),a= [.dN w, .int m]/\w.length<=14/\0<=m/\m<100/\((w.length:Int)<=m->P .bu)/\(m<(w.length:Int)->R (.err c [] []))
theorem lh:FnOk P w Z.K mg base (mN P w) 2 T.d_need_at_most.f T.d_need_at_most.fd ["web","most"] (fe Z (JE T.e_TooMany)):=by
 have n:=gf.nd;refine mw T.d_need_at_most.F gf [0,0] (by decide) (λd R g h=>by obtain⟨_,_,rfl,_⟩:=h;rfl) (λo A outer s H E d R g c h=>?_)
 have p:=c.units;refine⟨_,(ao (bA (aQ uK (cD T.W (aa 0) T.m_many.m (dE T) (c.mono (by decide)) T.m_many.b) (aa 1) (bq _)) (ao (HA rfl T.k_TooMany T.q_TooMany T.g_TooMany (aa 1) (cD T.W (aa 0) T.m_many.m (dE T) (c.mono (by decide)) T.m_many.b))) aM)),?_⟩
 obtain⟨a,m,rfl,q,i,j,k,l⟩:=h;refine⟨_,rfl,a,rfl,a,rfl,_,rfl,_,rfl,bF (λe=>?_) (λe=>?_)⟩
 ·have e:m<(a.length:Int):=GM e
  exact⟨_,rfl,m,rfl,i,j,_,rfl,a,rfl,a,rfl,_,rfl,by omega,by omega,l e⟩
 ·have e:¬m<(a.length:Int):=KF e
  exact k (by omega)
def O4(a:List D):Prop:=∃d,a= [d]
theorem Ah:FnOk P w Z.K mg base bZ 2 T.j_NotPlane.f T.j_NotPlane.fd ["self","counted"] (JG Z T.e_NotPlane ["counted"] O4):=by
 have B:=iP.nd;refine T.j_NotPlane.F.ok iP (λl H Q E h=>?_) (λC A outer s H l Q E I h=>?_)
 ·obtain⟨a,n,G,p,rfl,_,_,_,dv,_,r,_⟩:=h
  have:=dv.length
  simp at r ⊢;omega
 obtain⟨a,n,G,p,rfl,g,t,j,dv,⟨d,rfl⟩,_,q⟩:=h;obtain⟨y,rfl,u⟩:=dv.ofOne;refine⟨_,fF (iH (Bh rfl T.xb.m T.xb.sg T.xb.rd T.xb.fc (bM (pv 0) (bM tF df)))) (oZ (Ge (pv 0) (pv 1) rfl)),?_⟩;refine⟨_,rfl,a,T.e_NotPlane,none,_,rfl,g,T.q_NotPlane.obj,?_⟩;refine⟨_,rfl,_,rfl,a,T.e_NotPlane,[],rfl,T.q_NotPlane.cls,T.n_NotPlane_counted, .inl ⟨rfl,g,λi b=>?_⟩⟩;have v:a≠i:=aB g b;have k:G i=none:=j.free b;refine q i [y] G _ (.refl _) (λc o e=>?_) (λc o x e=>?_) (λc _ z=>z) ?_ b av k (.cons u .nil)
 ·rw[ax (aB e k),ax (aB e t)];exact j _ _ e
 ·rw[ax (aB e b),ax x];exact e
 ·rw[ax v,av]
theorem F0:FnOk P w Z.K mg base bZ 2 T.j_TooFew.f T.j_TooFew.fd ["self","point"] (JG Z T.e_TooFew ["point"] O4):=by
 have B:=jO.nd;refine T.j_TooFew.F.ok jO (λl H Q E h=>?_) (λC A outer s H l Q E I h=>?_)
 ·obtain⟨a,n,G,p,rfl,_,_,_,dv,_,r,_⟩:=h
  have:=dv.length
  simp at r ⊢;omega
 obtain⟨a,n,G,p,rfl,g,t,j,dv,⟨d,rfl⟩,_,q⟩:=h;obtain⟨y,rfl,u⟩:=dv.ofOne;refine⟨_,fF (iH (Bh rfl T.xb.m T.xb.sg T.xb.rd T.xb.fc (bM (pv 0) (bM tF df)))) (oZ (Ge (pv 0) (pv 1) rfl)),?_⟩;refine⟨_,rfl,a,T.e_TooFew,none,_,rfl,g,T.q_TooFew.obj,?_⟩;refine⟨_,rfl,_,rfl,a,T.e_TooFew,[],rfl,T.q_TooFew.cls,T.n_TooFew_point, .inl ⟨rfl,g,λi b=>?_⟩⟩;have v:a≠i:=aB g b;have k:G i=none:=j.free b;refine q i [y] G _ (.refl _) (λc o e=>?_) (λc o x e=>?_) (λc _ z=>z) ?_ b av k (.cons u .nil)
 ·rw[ax (aB e k),ax (aB e t)];exact j _ _ e
 ·rw[ax (aB e b),ax x];exact e
 ·rw[ax v,av]
def nG(w:W)(k:Nat):D:= .tup [.int (w.length:Int), .int (tc w:Int), .int (k:Int)]
theorem Cn.uniq{w:W}(g:Good w)(h:Cn w a)(c:Cn w b):a=b:=by
 obtain⟨_,r,rfl⟩:=h;obtain⟨_,d,rfl⟩:=c;exact Rs.len g r d
def Am(c:Addr):xp:=λa P R=>∃(w:W),a= [.dN w]/\Good w/\1<=w.length/\w.length<=14/\gu w<64/\∀k,Cn w k->((w.length:Int)+(k:Int)=(tc w:Int)+2->P .bu)/\(¬(w.length:Int)+(k:Int)=(tc w:Int)+2->R (.err c ["counted"] [nG w k]))
theorem wC:FnOk P w Z.K mg base (mN P w) 6 T.d_need_plane.f T.d_need_plane.fd ["web"] (fe Z (Am T.e_NotPlane)):=by
 have t:=pJ.nd;refine mw T.d_need_plane.F pJ [0] (by decide) (λn R o h=>by obtain⟨_,rfl,_⟩:=h;rfl) (λu A outer s H E n R o a h=>?_)
 have v:=a.units;refine⟨_,(ao (bA (qg (jg (aH T.d_is_plane (DB T) a (ae (aa 0) ag)))) (ao (yd rfl T.j_NotPlane (Ah T) a T.q_NotPlane T.g_NotPlane (ae (aH T.d_count (Bc T) a (ae (aa 0) ag)) ag))) aM)),?_⟩;obtain⟨c,rfl,g,d,i,j,q⟩:=h;refine⟨_,rfl,c,rfl,g,d,i,j,λk l s=>?_⟩;have m:=q k.length ⟨k,l,rfl⟩;refine⟨rfl,bF (λe=>?_) (λe=>?_)⟩
 ·refine⟨_,rfl,c,rfl,g,d,i,j,λp b x=>⟨⟨_,rfl⟩,rfl,?_⟩⟩
  have r:=Rs.len g b l
  have:=m.2 (by simpa [vW] using e)
  unfold nG at this;rw[r];exact this
 ·exact m.1 (by simpa [vW] using e)
def GA(c:Addr):xp:=λa P R=>∃(w:W),a= [.dN w]/\8<w.length/\w.length<=14/\R (.err c [] [])
theorem Bb:FnOk P w Z.K mg base (mN P w) 3 T.d_ways.f T.d_ways.fd ["web"] (fe Z (GA T.e_TooMany)):=by
 have a:=tU.nd;refine mw T.d_ways.F tU [0,1,0,0,0,0,0] (by decide) (λd R g h=>by obtain⟨_,rfl,_⟩:=h;rfl) (λk A outer s H E d R g c h=>?_)
 have l:=c.units
 refine⟨_,(ah (jY T.d_need_at_most (lh T) c (ae (aa 0) (ae (jW rfl T.c_MOST_COUNTED) ag)))
   (ah (mn 1 (NC:= ["place"]) (src:= [none]) rfl a (lE (ar ni)) trivial (qY rfl T.B.range (ae (az ba (cD T.W (aa 0) T.m_many.m (dE T) (c.mono (by decide)) T.m_many.b) aw) ag)) (λ_ _ _=>(bx 0 (show(["place"]:List Str).Nodup from by decide+kernel))) (λ_ _ _=>cz) (λ_ _ _=>aw))
   (ah (aJ false 2 a (bg (ae aw ag)))
   (ah (b6 rfl aeC (e8 rfl T.B.enumerate (ae (aH T.d_counted_by_parts (jx T) c (ae (aa 0) ag)) ag)) (fo 2 rfl (aV (aE 3 a) (aV (aE 4 a) cL))) (ah (b6 rfl aeC (e8 rfl T.B.enumerate (ae (aa 2) ag)) (fo 2 rfl (aV (aE 5 a) (aV (aE 6 a) cL))) (ao (uq 1 (aa 5) CN (az gG (aa 4) (aa 6)))))
   (ao (qe 2 (NC:= ["up","same","less"]) (src:= [none,none,some 3]) rfl a (lE (ar ni)) ⟨rfl,rfl,trivial⟩ (Kl rfl T.B.zip (ae (az ba (bg (ae aw ag)) (aa 2)) (ae (az ba (aa 2) (bg (ae aw ag))) ag))) (λ_ _ _=>(sE 2 rfl (fD (bx 0 (show(["up","same","less"]:List Str).Nodup from by decide+kernel)) (fD (bx 1 (show(["up","same","less"]:List Str).Nodup from by decide+kernel)) oG)))) (λ_ _ _=>cz) (λ_ _ _=>(az w4 (aa 0) (az gG (aa 2) (aa 1))))))))
   (ao (aK (aa 1))))))),?_⟩
 obtain⟨i,rfl,n,j,q⟩:=h;exact⟨_,rfl,i,8,rfl,j,by decide,by decide,λe=>absurd e (by omega),λ_=>q⟩
theorem L5:FnOk P w Z.K mg base (mN P w) 3 T.d_ways.f T.d_ways.fd ["web"] (fe Z λa P R=>KU a P\/GA T.e_TooMany a P R):=FnOk.both ((Ba T).imp SW) (Bb T)
def zh:cx:=λa P=>∃(w:W)(k:Int),a= [.dN w, .int k]/\1<=w.length/\w.length<=8/\k.natAbs<=2^200/\∀v:Int,P (.int v)
theorem F3:FnOk P w Z.K mg base bZ 4 T.d_ways_by.f T.d_ways_by.fd ["web","many"] (aT Z zh):=by
 have c:=lB.nd;refine bc T.d_ways_by.F lB [0,0,0,0] (by decide) (λo R h=>by obtain⟨_,_,rfl,_⟩:=h;rfl) (λM A outer s H E o R g h=>?_)
 have N:=g.units
 refine⟨_,(ah (aJ false 2 c aw)
   (ah (b6 rfl FM (Ce rfl T.B.reversed (ae (aH T.d_ways ((Ba T).imp SW) g (ae (aa 0) ag)) ag)) (aE 3 c) (ao (aJ false 2 c (az ba (az FY (aa 2) (aa 1)) (aa 3)))))
   (ao (aK (aa 2))))),?_⟩
 obtain⟨b,k,rfl,p,i,m,q⟩:=h;refine⟨trivial,?_⟩;refine⟨_,rfl,b,rfl,p,i,?_⟩;have n:=Bd.vX (row b) i;have r:=MB (row b) b.length;generalize O:vX (row b) b.length=l at n r;have u:(bz l).reverse=l.reverse.map D.int:=by unfold bz;rw[BI]
 refine(?_:kU _ _ _ (bz l).reverse _);rw[u];refine bQ (λj v=>∃e,v= [some (.dN b),some (.int k),some (.int ((l.reverse.take j).foldl (λt a=>t*k+a) 0)),e]) ⟨_,rfl⟩ ?_ ?_
 ·rintro j d _ y ⟨e,rfl⟩ A z
  obtain⟨a,C,rfl⟩:=cC y;have G:=Bd.horner m (l.reverse.take j) 0 0 (eN _) (λx I=>n x (ud.mp (List.mem_of_mem_take I)));have Q:(l.reverse.take j).length<=9:=by rw[jQ,Eh];omega
  have J:((l.reverse.take j).foldl (λt a=>t*k+a) 0).natAbs<2^10000:=BD G (Nat.pow_lt_pow_right (by decide) (by omega))
  have L:k.natAbs<2^10000:=BD m (Nat.pow_lt_pow_right (by decide) (by decide))
  refine⟨_,rfl,_,rfl,⟨J,L⟩,_,rfl,trivial,z _ ⟨some (.int a),?_⟩⟩;rw[zN,C,Ei,List.foldl_append];rfl
 ·rintro _ ⟨e,rfl⟩
  exact⟨_,rfl,q _⟩
def zi(c:Addr):xp:=λa P R=>∃(w:W)(k:Int),a= [.dN w, .int k]/\8<w.length/\w.length<=14/\R (.err c [] [])
theorem Dw:FnOk P w Z.K mg base (mN P w) 4 T.d_ways_by.f T.d_ways_by.fd ["web","many"] (fe Z (zi T.e_TooMany)):=by
 have a:=lB.nd;refine mw T.d_ways_by.F lB [0,0,0,0] (by decide) (λc R d h=>by obtain⟨_,_,rfl,_⟩:=h;rfl) (λj A outer s H E c R d b h=>?_)
 have l:=b.units
 refine⟨_,(ah (aJ false 2 a aw)
   (ah (Lk rfl aeC T.d_ways (Bb T) b (ae (aa 0) ag) T.B.reversed (aE 3 a) (ao (aJ false 2 a (az ba (az FY (aa 2) (aa 1)) (aa 3)))))
   (ao (aK (aa 2))))),?_⟩
 obtain⟨e,k,rfl,g,i,q⟩:=h;exact⟨trivial,_,rfl,e,rfl,g,i,q⟩
theorem Du:FnOk P w Z.K mg base (mN P w) 4 T.d_ways_by.f T.d_ways_by.fd ["web","many"] (fe Z λa P R=>zh a P\/zi T.e_TooMany a P R):=FnOk.both (F3 T) (Dw T)
variable {P:Program} {w:World} {mg:Str->Option Value} {base:Heap} {Z:DC} (T:Txt Z mg)
theorem yg(f:b->c):∀(l:List b)(i:Nat),(l.map f).eraseIdx i=(l.eraseIdx i).map f
 | [],_=>rfl
 |_::_,0=>rfl
 |a::l,i+1=>by rw[dF,aez,aez,dF,yg f l i]
theorem A7(f:Nat->Int):∀K:List Nat,oR (K.map λp=>tupI [f p,(p:Int)])=true
 | []=>rfl
 |b::K=>by rw[dF,oR,A7 f K];rfl
def Qe:cx:=λa P=>∃(w:W),a= [.dN w]/\Good w/\1<=w.length/\w.length<=14/\∀L:List Nat,L.length<=14->(∀x∈L,x<w.length)->P (au L)
theorem tB:FnOk P w Z.K mg base bZ 2 T.d_order_of_five.f T.d_order_of_five.fd ["web"] (aT Z Qe):=by
 have d:=lA.nd;refine bc T.d_order_of_five.F lA [0,0,1,1,1,0] (by decide) (λJ R h=>by obtain⟨_,rfl,_⟩:=h;rfl) (λbb A outer s H E J R k h=>?_)
 have N:=k.units
 refine⟨_,(ah (aJ false 1 d (cD T.W (aa 0) T.m_turns.m (jh T) (k.mono (by decide)) T.m_turns.b))
   (ah (eJ 2 d (Li rfl rfl rfl T.B.list gr (eQ xR rfl T.B.range uj (ae (cD T.W (aa 0) T.m_many.m (dE T) (k.mono (by decide)) T.m_many.b) ag))))
   (ah (eJ 3 d (fm ag))
   (ah (qf FM (jg (aa 2)) (ah (Hz 4 (NC:= ["p","turns","left"]) (src:= [none,some 1,some 2]) rfl d (lE (ar gd)) ⟨rfl,rfl,rfl,rfl,trivial⟩ (bC (aa 2)) (λ_ _ _=>(bx 0 (show(["p","turns","left"]:List Str).Nodup from by decide+kernel))) (λ_ _ _=>cz) (λ_ _ _=>(dP (ae (aI bE rfl T.B.len bD (ae (oE (NC:= ["q","left"]) (src:= [none,some 2]) rfl Y4 ⟨rfl,rfl,trivial⟩ (bC (bH (aa 1) (aa 0))) (λ_ _ _=>(bx 0 (show(["q","left"]:List Str).Nodup from by decide+kernel))) (λ_ _ _=>(sF (aQ uL (aa 0) (aa 1) (by with_unfolding_all rfl)))) (λ_ _ _=>(aa 0))) ag)) (ae (aa 0) ag)))))
   (ah (aJ true 5 d (bH (aI (M1 rfl N) rfl T.B.min J9 (ae (aa 4) ag)) aw))
   (ah (eY false 3 (aa 5))
   (ao (Q8 2 (aa 5)))))))
   (ao (aK (aa 3))))))),?_⟩
 obtain⟨c,rfl,g,l1,kK,q⟩:=h;refine⟨_,rfl,c,rfl,c,rfl,by omega,trivial,?_⟩
 refine⟨_,rfl,c,rfl,c,rfl,_,rfl,_,_,rfl,⟨by decide,by decide,by omega,by omega,by omega⟩,?_⟩
 rw[show((c.length:Int)-0).toNat=c.length by omega,zd]
 refine⟨by show 0<=sizeLine;decide,?_⟩
 refine nB (λm ρ=>∃(L M:List Nat)(u v:Option D),ρ= [some (.dN c),some (aO c),some (au L),some (au M),u,v]/\L.length=m/\(∀x∈L,x<c.length)/\(∀x∈M,x<c.length)/\L.length+M.length=c.length/\L.Nodup) c.length ⟨List.range c.length,[],_,_,rfl,pY,(λx h=>dY.mp h),(λx h=>nomatch h),by simp,zE⟩ ?_
 rintro m _ ⟨L,M,u,v,rfl,lm,l,C,O,d⟩;have Q:∀x,(row c x).length<=14:=λx=>by have:=gB g x;omega
 cases L with
 |nil=>
  refine⟨_,rfl,rfl,bS ?_⟩;exact⟨_,rfl,q M (by rw[lD] at O;omega) C⟩
 |cons a L=>
  refine⟨_,rfl,rfl,dq ?_⟩;generalize U:a::L=K at*;refine⟨_,rfl,kY (λρ=>∃G,ρ= [G,some (aO c),some (au K)]) aq (λ_=>true) (λp=>tupI [(((row c p).filter λq=>decide (q∈K)).length:Int),(p:Int)]) K _ [] _ (λp i I X Y Nn hY hN=>?_) ⟨none,rfl⟩ ?_ λI _=>?_⟩
  ·obtain⟨G,rfl⟩:=X
   refine⟨_,rfl,_,rfl,_,kv (l p i),?_⟩;have rp:=Q p;refine my (ρ:= [none,some (au K)]) aq (λq=>decide (q∈K)) aq (row c p) _ [] _ (λy hy Y Nn t1 t2=>?_) ⟨none,rfl⟩ (small (by rw[lD];omega)) λI=>?_
   ·refine⟨_,rfl,_,rfl,rfl,dH _,_,rfl,?_⟩
    rw[AC cQ,kh];exact bF (λe=>⟨_,rfl,t1 e⟩) (λe=>t2 e)
   ·refine⟨_,rfl,by show 2<=sizeLine;decide,?_⟩
    have n:(D.tup [.int ((([]++((row c p).filter λq=>decide (q∈K)).map aq:List D)).length:Int), .int (p:Int)])=tupI [(((row c p).filter λq=>decide (q∈K)).length:Int),(p:Int)]:=by rw[nX,aP];rfl
    refine(?_:Y _ (D.tup [.int ((([]++((row c p).filter λq=>decide (q∈K)).map aq:List D)).length:Int), .int (p:Int)]));rw[n];exact hY _ ⟨_,rfl⟩ rfl
  ·exact small (by rw[lD];omega)
  ·rw[Eg.mpr (λ_ _=>rfl),nX]
   have nl:=A7 (λp:Nat=>(((row c p).filter λq=>decide (q∈K)).length:Int)) K;refine⟨nl,_,rfl,K.map (λp=> [(((row c p).filter λq=>decide (q∈K)).length:Int),(p:Int)]),by rw[cG];rfl,by rw[<-U];simp,λo hm _=>?_⟩
   obtain⟨p,i,rfl⟩:=bL.mp hm;refine⟨.int (p:Int),rfl,rfl,?_⟩;have pK:=l p i;have kp:0<K.length:=t6 i;have j:=jv i;have el:(K.eraseIdx (K.idxOf p)).length+1=K.length:=by rw[Ee,tz j.2];omega
   refine⟨_,rfl,_,rfl,trivial,cj (by rw[aP];omega),?_⟩
   have ix:=fw i;refine⟨K.map λ(x:Nat)=>(x:Int),by unfold au;rw[cG];rfl,_,rfl,(p:Int),K.idxOf p,rfl,?_,?_,?_⟩
   ·have j:=jv i
    rw[eO,b9 j.2];have e:=j.1;rw[b8,b9 j.2] at e;exact KB (λx:Nat=>some (x:Int)) e
   ·intro o r z
    rw[eO] at z;cases e:K[o]? with
    |none=>rw[e] at z;cases z
    |some x=>
     rw[e] at z
     have:(x:Int)=(p:Int):=Do z
     exact wZ K o r (by rw[e];congr 1;omega)
   ·refine⟨m-1,by omega,K.eraseIdx (K.idxOf p),M++ [p],some (.lst (K.map λp=>tupI [(((row c p).filter λq=>decide (q∈K)).length:Int),(p:Int)])),some (.int (p:Int)),?_,?_,?_,?_,?_,?_⟩
    ·have n:D.lst (((K.map λ(x:Nat)=>(x:Int)).eraseIdx (K.idxOf p)).map D.int)=au (K.eraseIdx (K.idxOf p)):=by unfold au;rw[yg,cG];rfl
     have e2:au (M++ [p])= .lst (M.map aq++ [aq p]):=by unfold au;rw[cR];rfl
     rw[<-n,e2];rfl
    ·omega
    ·exact λx t=>l x (List.mem_of_mem_eraseIdx t)
    ·intro x t
     rcases cV.mp t with h|h
     ·exact C x h
     ·rw[dX.mp h];exact pK
    ·rw[cI];show _+(M.length+1)=_;omega
    ·exact d.eraseIdx _
def adt:cx:=λc P=>∃a b:D,c= [a,b]/\False
theorem yX:FnOk P w Z.K mg base bZ 1 T.d_least_free.f T.d_least_free.fd ["taken","many"] (aT Z adt):=by
 have c:=pH.nd;refine bc T.d_least_free.F pH [0,0,0] (by decide) (λd R h=>by obtain⟨_,_,rfl,_⟩:=h;rfl) (λg A outer s H E d R e h=>?_)
 have i:=e.units
 refine⟨_,(ah (ke rfl FM (gN rfl T.B.range (ae (aI (M3 rfl) rfl T.B.min J9 (ae (aa 1) (ae (az ba (aI bE rfl T.B.len bD (ae (aa 0) ag)) aw) ag))) ag)) (aE 2 c) (ao (bA (aQ uN (aa 2) (aa 0) (by with_unfolding_all rfl)) (ao (aK (aa 2))) aM)))
   (ao (aK ik))),?_⟩
 obtain⟨a,b,_,z⟩:=h;exact z.elim
def Qi:cx:=λa P=>∃(p n:Nat)(l:List D),a= [.lst [],aq p, .lst l,au (List.range n),au (List.range n)]/\p<n/\n<=14/\P (.lst [])
theorem Ag:FnOk P w Z.K mg base bZ 2 T.d_led_with.f T.d_led_with.fd ["walk","p","near","one","other"] (fQ Z 1 Qi):=by
 have a:=tT.nd;refine qh 1 T.d_led_with.F tT [0,0,0,0,0,1,1,0,0] (by decide) (λe R h=>by obtain⟨_,_,_,rfl,_⟩:=h;rfl) (λg A outer s H E e R b h=>?_)
 have c:=b.units
 refine⟨_,(ah (eJ 5 a (EZ rfl rfl T.B.list gr (aa 3)))
   (ah (eJ 6 a (fm ag))
   (ah (b6 rfl FM (bC (aa 0)) (fo 2 rfl (aV (aE 7 a) (aV (aE 8 a) cL))) (ah (bA (DW.dt (Cg (aQ uL (aa 7) (aa 2) (by with_unfolding_all rfl)) (ye (aQ (ku c) (aa 8) (bH (aa 5) (aa 1)) (bq _))))) (ah (qc true 5 (aa 1) (aH T.d_least_free (yX T) b (ae (az ba (oE (NC:= ["r","dyeing"]) (src:= [none,some 5]) rfl (lE (ar lu)) ⟨rfl,rfl,trivial⟩ (bC (aa 2)) (λ_ _ _=>(bx 0 (show(["r","dyeing"]:List Str).Nodup from by decide+kernel))) (λ_ _ _=>cz) (λ_ _ _=>(bH (aa 1) (aa 0)))) (bg (ae (aa 8) ag))) (ae (jW rfl T.c_FEWEST_DYES) ag))))
   (ao (eY true 6 (dP (ae (aa 1) (ae (bH (aa 5) (aa 1)) ag)))))) aM)
   (ah (qc false 5 (aa 7) (aa 8))
   (ao (eY false 6 (dP (ae (aa 7) (ae (aa 8) ag))))))))
   (ah (bA (aQ (lL c) (bH (aa 5) (aa 1)) (bH (aa 4) (aa 1)) (bq _)) (ao (eY false 6 (dP (ae (aa 1) (ae (bH (aa 4) (aa 1)) ag))))) aM)
   (ao (E2 6)))))),?_⟩
 obtain⟨p,n,l,rfl,d,i,q⟩:=h
 have at_:gL ((List.range n).map aq) (p:Int)=some (aq p):=by
  rw[gz (by simpa using d)]
  simp[b8,d]
 refine⟨_,rfl,?_⟩;refine⟨by show 0<=sizeLine;decide,?_⟩
 refine⟨_,rfl,?_⟩;refine(?_:kU _ _ _ [] _);refine⟨_,rfl,_,rfl,_,at_,_,rfl,_,rfl,_,at_,?_⟩;refine ER ?_;rw[show(!decide ((p:Int)=(p:Int)))=false by simp]
 refine⟨_,rfl,bS ?_⟩;exact⟨_,rfl,q⟩
def SX(a b c:Addr):xp:=λe P R=>∃(w:W)(m:Int),e= [.dN w,au (List.range w.length),au (List.range w.length), .int m]/\Good w/\1<=w.length/\w.length<=14/\(w.length<=10->gu w<64)/\(10<w.length->R (.err a [] []))/\(w.length<=10->∀k,Cn w k->(¬(w.length:Int)+(k:Int)=(tc w:Int)+2->R (.err b ["counted"] [nG w k]))/\((w.length:Int)+(k:Int)=(tc w:Int)+2->(m<7->R (.err c ["point"] [.int 0]))/\(7<=m->∀d,P d)))
theorem O5:FnOk P w Z.K mg base (mN P w) 7 T.d_led.f T.d_led.fd ["web","one","other","many"] (fe Z (SX T.e_TooMany T.e_NotPlane T.e_TooFew)):=by
 have i:=KP.nd;refine mw T.d_led.F KP [0,0,0,0,0,1,1,0] (by decide) (λG R I h=>by obtain⟨_,_,rfl,_⟩:=h;rfl) (λbb A outer s H E G R I d h=>?_)
 have hu:=d.units
 refine⟨_,(ah (jY T.d_need_at_most (lh T) d (ae (aa 0) (ae (jW rfl T.c_MOST_LED) ag)))
   (ah (jY T.d_need_plane (wC T) d (ae (aa 0) ag))
   (ah (bA (aQ uM (aa 3) (jW rfl T.c_FEWEST_DYES) (bq _)) (ao (yd rfl T.j_TooFew (F0 T) d T.q_TooFew T.g_TooFew (ae aw ag))) aM)
   (ah (aJ false 4 i (cD T.W (aa 0) T.m_turns.m (jh T) (d.mono (by decide)) T.m_turns.b))
   (ah (eJ 5 i (fm ag))
   (ah (eJ 6 i (fm ag))
   (ah (b6 rfl aeC (Ce rfl T.B.reversed (ae (aH T.d_order_of_five (tB T) d (ae (aa 0) ag)) ag)) (aE 7 i) (ah (Nw 5 i (Lh T.d_led_with (Ag T) d (ae (aa 5) (ae (aa 7) (ae (oE (NC:= ["q","behind"]) (src:= [none,some 6]) rfl (lE (ar DQ)) ⟨rfl,rfl,trivial⟩ (bC (bH (aa 4) (aa 7))) (λ_ _ _=>(bx 0 (show(["q","behind"]:List Str).Nodup from by decide+kernel))) (λ_ _ _=>(sF (aQ uL (aa 0) (aa 1) (by with_unfolding_all rfl)))) (λ_ _ _=>(aa 0))) (ae (aa 1) (ae (aa 2) ag)))))))
   (ao (eY false 6 (aa 7)))))
   (ao (aK (aa 5)))))))))),?_⟩
 obtain⟨a,m,rfl,g,t,l,J,M,n⟩:=h;refine⟨_,rfl,a,10,rfl,l,by decide,by decide,λe=>?_,λe=>M (by omega)⟩
 have n:=n (by omega)
 refine⟨_,rfl,a,rfl,g,t,l,J (by omega),λk u=>⟨λo=>?_,λo=>(n k u).1 o⟩⟩
 have v:=(n k u).2 o;refine⟨_,rfl,_,rfl,bF (λc=>?_) (λc=>?_)⟩
 ·exact⟨⟨_,rfl⟩,rfl,v.1 (GM c)⟩
 have N:=v.2 (by have:=KF c;omega)
 refine⟨_,rfl,a,rfl,a,rfl,by omega,trivial,?_⟩
 refine⟨by show 0<=sizeLine;decide,?_⟩
 refine⟨by show 0<=sizeLine;decide,?_⟩
 refine⟨_,rfl,a,rfl,g,t,l,λL ll O=>?_⟩;have Q:(L.map aq).reverse=L.reverse.map aq:=by rw[BI]
 refine(?_:kU _ _ _ (L.map aq).reverse _);rw[Q];refine bQ (λj ρ=>∃(B:List Nat)(r:Option D),ρ= [some (.dN a),some (au (List.range a.length)),some (au (List.range a.length)),some (.int m),some (aO a),some (.lst []),some (au B),r]/\B.length=j) ⟨[],_,rfl,rfl⟩ ?_ ?_
 ·rintro j _ _ U ⟨B,r,rfl,x⟩ A X
  obtain⟨p,z,rfl⟩:=cC U;have C:=O p (ud.mp (fB z));have rp:=gB g p
  have jl:j<L.length:=by
   have:=(dS.mp z).1
   rwa [Eh] at this
  refine⟨_,rfl,_,rfl,?_⟩;refine⟨_,rfl,_,rfl,_,kv C,?_⟩;refine my (ρ:= [none,some (au B)]) aq (λq=>decide (q∈B)) aq (row a p) _ [] _ (λy hy Y Nn t1 t2=>?_) ⟨none,rfl⟩ (small (by rw[lD];omega)) λaF=>?_
  ·refine⟨_,rfl,_,rfl,rfl,dH _,_,rfl,?_⟩
   rw[AC cQ,kh];exact bF (λe=>⟨_,rfl,t1 e⟩) (λe=>t2 e)
  ·refine⟨_,rfl,_,rfl,p,a.length,_,rfl,C,l,[],rfl,rfl,?_⟩
   refine⟨_,rfl,_,rfl,trivial,cj (by rw[aP];omega),?_⟩
   exact X _ ⟨B++ [p],some (aq p),by rw[show au (B++ [p])= .lst (B.map aq++ [aq p]) by unfold au;rw[cR];rfl];rfl,by rw[cI,x];rfl⟩
 ·rintro _ ⟨B,r,rfl,x⟩
  exact⟨_,rfl,N _⟩
variable {P:Program} {w:World} {mg:Str->Option Value} {base:Heap} {Z:DC} (T:Txt Z mg)
def Gw:cx:=λa P=>∃(w:W),a= [aO w]/\Good w/\1<=w.length/\w.length<=14/\∀k,Cn w k->P (nG w k)
theorem uP:FnOk P w Z.K mg base bZ 2 T.d__law_counted.f T.d__law_counted.fd ["_law_turns"] (aT Z Gw):=by
 have d:=mJ.nd;refine bc T.d__law_counted.F mJ [0,0] (by decide) (λe R h=>by obtain⟨_,rfl,_⟩:=h;rfl) (λo A outer s H E e R c h=>?_)
 have p:=c.units
 refine⟨_,(ah (aJ false 1 d (az lg (aI (QQ rfl) rfl T.B.sum QP (ae (oE (NC:= ["_law_turn"]) (src:= [none]) rfl (lE (ar gI)) trivial (bC (aa 0)) (λ_ _ _=>(bx 0 (show(["_law_turn"]:List Str).Nodup from by decide+kernel))) (λ_ _ _=>cz) (λ_ _ _=>(aI bE rfl T.B.len bD (ae (aa 0) ag)))) ag)) aw))
   (ao (aK (dP (ae (aI bE rfl T.B.len bD (ae (aa 0) ag)) (ae (aa 1) (ae (aI bE rfl T.B.len bD (ae (aH T.d__law_lands (oW T) c (ae (aa 0) ag)) ag)) ag))))))),?_⟩
 obtain⟨a,rfl,g,i,j,q⟩:=h;have k:(a.map au).length=a.length:=aP _;refine⟨_,rfl,kX (ρ:= [none]) au (λr=> .int (r.length:Int)) a _ (λx t Y l=>?_) rfl (small (by omega)) λu=>?_⟩
 ·refine⟨_,rfl,?_⟩
  refine(?_:Y (.int ((x.map aq).length:Int)));rw[aP];exact l
 refine⟨a.map λr=>(r.length:Int),by rw[cG];rfl,⟨by decide,by decide⟩,trivial,?_⟩
 refine⟨_,rfl,_,rfl,_,rfl,a,rfl,g,i,j,λb _ _ _ cn _=>?_⟩;refine⟨by show 3<=sizeLine;decide,?_⟩
 have m:(a.map λr=>(r.length:Int)).sum / 2=((tc a:Nat):Int):=by
  have v:=Tj g;have y:=fN a;rw[GD];omega
 have:=q _ cn
 unfold nG at this;have n:D.tup [.int ((a.map au).length:Int), .int ((a.map λr=>(r.length:Int)).sum / 2), .int ((b.map au).length:Int)]= .tup [.int (a.length:Int), .int (tc a:Int), .int (b.length:Int)]:=by rw[k,m,aP]
 refine(?_:R (D.tup [.int ((a.map au).length:Int), .int ((a.map λr=>(r.length:Int)).sum / 2), .int ((b.map au).length:Int)]));rw[n];exact this
def okE(T:Txt Z mg)(c:Addr)(bs:List Bool):Prop:=(c=T.e_TooMany/\bs= [true,true,false,false,false])\/(c=T.e_NotPlane/\bs= [true,false,true,false,false])\/(c=T.e_TooFew/\bs= [true,false,false,true,false])
theorem bG(h:PySem.W.kitOne K t c=some false)(a:PySem.W.kitAny K t r=some false):PySem.W.kitAny K t (c::r)=some false:=by rw[PySem.W.kitAny,h];exact a
def Qb(T:Txt Z mg):cx:=λa P=>∃(c:Addr)(b:List Str)(l:List D),a= [.err c b l]/\∃bs,okE T c bs/\P (.lst (bs.map D.bl))
theorem wB:MG P w Z.K mg base 1 T.d__law_kinds.f T.d__law_kinds.fd ["_law_e"] (fQ Z 1 (Qb T)):=by
 have a:=pE.nd;refine HL 1 T.d__law_kinds.F pE [0,0,0] (by decide) (λb R h=>by obtain⟨_,_,_,rfl,_⟩:=h;rfl) (λe A outer s H b R g h=>?_)
 refine⟨_,(ah (aJ false 1 a (bg (ae (jX T.iX (.blt _) (Xq T.x_ValueError) (aa 0) rfl T.B.isinstance) (ae (jX T.iX (.own _) (eZ T.g_TooMany) (aa 0) rfl T.B.isinstance) (ae (jX T.iX (.own _) (eZ T.g_NotPlane) (aa 0) rfl T.B.isinstance) (ae (jX T.iX (.own _) (eZ T.g_TooFew) (aa 0) rfl T.B.isinstance) ag))))))
   (ah (aJ false 2 a (yc T.iX (.cons (.own _) (.cons (.own _) (.cons (.own _) (.cons (.own _) (.cons (.own _) (.cons (.own _) .nil)))))) ⟨(eZ T.g_Alike),rfl,⟨(eZ T.g_Bridge),rfl,⟨(eZ T.g_NoCorner),rfl,⟨(eZ T.g_NoRing),rfl,⟨(eZ T.g_NoText),rfl,⟨(eZ T.g_NoWeb),rfl,trivial⟩⟩⟩⟩⟩⟩ (show 6<=1000 by decide) (aa 0) rfl T.B.isinstance))
   (ao (E1 (Kj (aa 1) (bg (ae (V3 (aa 2) (Ki (yc T.iX (.cons (.own _) (.cons (.own _) (.cons (.own _) (.cons (.own _) (.cons (.own _) .nil))))) ⟨(eZ T.g_NotFilled),rfl,⟨(eZ T.g_NotFree),rfl,⟨(eZ T.g_Odd),rfl,⟨(eZ T.g_Shared),rfl,⟨(eZ T.g_TooSmall),rfl,trivial⟩⟩⟩⟩⟩ (show 5<=1000 by decide) (aa 0) rfl T.B.isinstance))) ag))))))),?_⟩
 obtain⟨c,i,l,rfl,bs,d,q⟩:=h
 rcases d with ⟨rfl,rfl⟩ | ⟨rfl,rfl⟩ | ⟨rfl,rfl⟩
 ·have x:=T.q_TooMany.cls
  refine⟨_,rfl,x,_,T.z_TooMany_ValueError,_,rfl,x,_,T.z_TooMany_TooMany,_,rfl,x,_,T.z_TooMany_NotPlane,_,rfl,x,_,T.z_TooMany_TooFew,by show 4<=sizeLine;decide,trivial,?_⟩
  refine⟨_,rfl,x,false,bG T.z_TooMany_Alike (bG T.z_TooMany_Bridge (bG T.z_TooMany_NoCorner (bG T.z_TooMany_NoRing (bG T.z_TooMany_NoText (bG T.z_TooMany_NoWeb rfl))))),trivial,?_⟩;refine⟨_,rfl,_,rfl,_,rfl,false,rfl,bS ⟨_,rfl,x,false,bG T.z_TooMany_NotFilled (bG T.z_TooMany_NotFree (bG T.z_TooMany_Odd (bG T.z_TooMany_Shared (bG T.z_TooMany_TooSmall rfl)))),by show 1<=sizeLine;decide,_,rfl,by show 5<=sizeLine;decide,q⟩⟩
 ·have x:=T.q_NotPlane.cls
  refine⟨_,rfl,x,_,T.z_NotPlane_ValueError,_,rfl,x,_,T.z_NotPlane_TooMany,_,rfl,x,_,T.z_NotPlane_NotPlane,_,rfl,x,_,T.z_NotPlane_TooFew,by show 4<=sizeLine;decide,trivial,?_⟩
  refine⟨_,rfl,x,false,bG T.z_NotPlane_Alike (bG T.z_NotPlane_Bridge (bG T.z_NotPlane_NoCorner (bG T.z_NotPlane_NoRing (bG T.z_NotPlane_NoText (bG T.z_NotPlane_NoWeb rfl))))),trivial,?_⟩;refine⟨_,rfl,_,rfl,_,rfl,false,rfl,bS ⟨_,rfl,x,false,bG T.z_NotPlane_NotFilled (bG T.z_NotPlane_NotFree (bG T.z_NotPlane_Odd (bG T.z_NotPlane_Shared (bG T.z_NotPlane_TooSmall rfl)))),by show 1<=sizeLine;decide,_,rfl,by show 5<=sizeLine;decide,q⟩⟩
 ·have x:=T.q_TooFew.cls
  refine⟨_,rfl,x,_,T.z_TooFew_ValueError,_,rfl,x,_,T.z_TooFew_TooMany,_,rfl,x,_,T.z_TooFew_NotPlane,_,rfl,x,_,T.z_TooFew_TooFew,by show 4<=sizeLine;decide,trivial,?_⟩
  refine⟨_,rfl,x,false,bG T.z_TooFew_Alike (bG T.z_TooFew_Bridge (bG T.z_TooFew_NoCorner (bG T.z_TooFew_NoRing (bG T.z_TooFew_NoText (bG T.z_TooFew_NoWeb rfl))))),trivial,?_⟩;refine⟨_,rfl,_,rfl,_,rfl,false,rfl,bS ⟨_,rfl,x,false,bG T.z_TooFew_NotFilled (bG T.z_TooFew_NotFree (bG T.z_TooFew_Odd (bG T.z_TooFew_Shared (bG T.z_TooFew_TooSmall rfl)))),by show 1<=sizeLine;decide,_,rfl,by show 5<=sizeLine;decide,q⟩⟩
def iY:D:= .lst [.str "done"]
def ko:D:= .lst [.bl true, .bl true, .bl false, .bl false, .bl false]
def tH(w:W)(k:Nat):D:= .lst [.bl true, .bl false, .bl true, .bl false, .bl false,nG w k]
def Fb:D:= .lst [.bl true, .bl false, .bl false, .bl true, .bl false, .int 0]
def DX:cx:=λa P=>∃(y:Nat)(w:W)(l:List Nat)(m:Int),a= [aq y, .dN w,au l, .int m]/\Good w/\1<=w.length/\w.length<=14/\
 ((y<2/\m.natAbs<=2^200/\(w.length<=8->P iY)/\(8<w.length->P ko))\/
  (y=2/\l=List.range w.length/\(w.length<=10->gu w<64)/\(10<w.length->P ko)/\(w.length<=10->∀k,Cn w k->(¬(w.length:Int)+(k:Int)=(tc w:Int)+2->P (tH w k))/\((w.length:Int)+(k:Int)=(tc w:Int)+2->(m<7->P Fb)/\(7<=m->P iY)))))
theorem ji:FnOk P w Z.K mg base bZ 8 T.d__law_said.f T.d__law_said.fd ["_law_way","_law_web_here","_law_dyeing","_law_many"] (aT Z DX):=by
 have p:=qG.nd;refine bc T.d__law_said.F qG [0,0,0,0,1,0] (by decide) (λC R h=>by obtain⟨_,_,_,_,rfl,_⟩:=h;rfl) (λM A outer s H E C R i h=>?_)
 have u:=i.units
 refine⟨_,(ah (eJ 4 p (fm (ae jS ag)))
   (ah (Q9 (λ_ _=>by exact(ao (bA (aQ (ku u) (aa 0) aw (bq _)) (ao (jY T.d_ways (L5 T) i (ae (aa 1) ag))) (ao (bA (aQ (ku u) (aa 0) aw (bq _)) (ao (jY T.d_ways_by (Du T) i (ae (aa 1) (ae (aa 3) ag)))) (ao (jY T.d_led (O5 T) i (ae (aa 1) (ae (eQ ot rfl T.B.list gr (ae (aa 2) ag)) (ae (eQ ot rfl T.B.list gr (ae (aa 2) ag)) (ae (aa 3) ag))))))))))) aM (V5 5 p T.g_MapError T.q_MapError (λ_=>by exact(ah (Ll 4 p T.d__law_kinds (wB T) i.toH (ae (aa 5) ag))
   (ah (bA (jg (jX T.iX (.own _) (eZ T.g_NotPlane) (aa 5) rfl T.B.isinstance)) (ao (eY false 4 (EV T.iX (aa 5)))) aM)
   (ao (bA (jg (jX T.iX (.own _) (eZ T.g_TooFew) (aa 5) rfl T.B.isinstance)) (ao (eY false 4 (EV T.iX (aa 5)))) aM))))) Q4))
   (ao (aK (aa 4))))),?_⟩
 obtain⟨y,a,l,m,rfl,g,q,r,G⟩:=h;refine⟨by show 1<=sizeLine;decide,?_⟩
 rcases G with ⟨z,I,o,b⟩ | ⟨z,J,L,o,b⟩
 ·refine⟨_,rfl,E6 ⟨_,rfl,bF (λe=>?_) (λe=>?_)⟩⟩
  ·have e:=GM e
   by_cases j:a.length<=8
   ·exact⟨_,rfl, .inl ⟨a,rfl,q,j,⟨_,rfl,o j⟩⟩⟩
   ·refine⟨_,rfl, .inr ⟨a,rfl,by omega,r,?_⟩⟩
    refine⟨T.q_TooMany.obj,true,T.m_TooMany_MapError,dq ?_⟩;have x:=T.q_TooMany.cls;refine⟨_,rfl,T.e_TooMany,[],[],rfl,_, .inl ⟨rfl,rfl⟩,?_⟩;refine⟨_,rfl,x,_,T.z_TooMany_NotPlane,rfl,bS ?_⟩;refine⟨_,rfl,x,_,T.z_TooMany_TooFew,rfl,bS ?_⟩;exact⟨_,rfl,b (by omega)⟩
  ·have e:=KF e
   refine⟨_,rfl,E6 ⟨_,rfl,bF (λc=>?_) (λc=>?_)⟩⟩
   ·by_cases j:a.length<=8
    ·exact⟨_,rfl,_,rfl, .inl ⟨a,m,rfl,q,j,I,λv=>⟨_,rfl,o j⟩⟩⟩
    ·refine⟨_,rfl,_,rfl, .inr ⟨a,m,rfl,by omega,r,?_⟩⟩
     refine⟨T.q_TooMany.obj,true,T.m_TooMany_MapError,dq ?_⟩;have x:=T.q_TooMany.cls;refine⟨_,rfl,T.e_TooMany,[],[],rfl,_, .inl ⟨rfl,rfl⟩,?_⟩;refine⟨_,rfl,x,_,T.z_TooMany_NotPlane,rfl,bS ?_⟩;refine⟨_,rfl,x,_,T.z_TooMany_TooFew,rfl,bS ?_⟩;exact⟨_,rfl,b (by omega)⟩
   ·have:=KF c
    omega
 ·subst z J
  refine⟨_,rfl,E6 ⟨_,rfl,bF (λe=>absurd (GM e) (by decide)) (λ_=>?_)⟩⟩
  refine⟨_,rfl,E6 ⟨_,rfl,bF (λe=>absurd (GM e) (by decide)) (λ_=>?_)⟩⟩
  refine⟨_,rfl,_,rfl,_,rfl,_,rfl,a,m,rfl,g,q,r,L,λn=>?_,λn k t=>⟨λe=>?_,λe=>⟨λc=>?_,λc d=>?_⟩⟩⟩
  ·refine⟨T.q_TooMany.obj,true,T.m_TooMany_MapError,dq ?_⟩
   have x:=T.q_TooMany.cls;refine⟨_,rfl,T.e_TooMany,[],[],rfl,_, .inl ⟨rfl,rfl⟩,?_⟩;refine⟨_,rfl,x,_,T.z_TooMany_NotPlane,rfl,bS ?_⟩;refine⟨_,rfl,x,_,T.z_TooMany_TooFew,rfl,bS ?_⟩;exact⟨_,rfl,o n⟩
  ·refine⟨T.q_NotPlane.obj,true,T.m_NotPlane_MapError,dq ?_⟩
   have x:=T.q_NotPlane.cls;refine⟨_,rfl,T.e_NotPlane,_,_,rfl,_, .inr (.inl ⟨rfl,rfl⟩),?_⟩;refine⟨_,rfl,x,_,T.z_NotPlane_NotPlane,rfl,dq ?_⟩;refine⟨_,rfl,_,rfl,x,T.n_NotPlane_counted,_,rfl,trivial,by show 5<sizeLine;decide,?_⟩
   refine⟨_,rfl,x,_,T.z_NotPlane_TooFew,rfl,bS ?_⟩;exact⟨_,rfl,(b n k t).1 e⟩
  ·refine⟨T.q_TooFew.obj,true,T.m_TooFew_MapError,dq ?_⟩
   have x:=T.q_TooFew.cls;refine⟨_,rfl,T.e_TooFew,_,_,rfl,_, .inr (.inr ⟨rfl,rfl⟩),?_⟩;refine⟨_,rfl,x,_,T.z_TooFew_NotPlane,rfl,bS ?_⟩;refine⟨_,rfl,x,_,T.z_TooFew_TooFew,rfl,dq ?_⟩;refine⟨_,rfl,_,rfl,x,T.n_TooFew_point,_,rfl,trivial,by show 5<sizeLine;decide,?_⟩
   exact⟨_,rfl,((b n k t).2 e).1 c⟩
  ·exact⟨_,rfl,((b n k t).2 e).2 c⟩
theorem Xd{P:D->Prop}(h:P (.bl (!decide (a=n+c)))):dC (.int c) d (λb=>M5 (.int n) b (λb=>uk (.int a) b P)):=ER h
def P9:cx:=λa P=>∃(w:W)(k:Nat)(m:Int),a= [nG w k, .int m]/\w.length<=14/\(10<w.length->P ko)/\(w.length<=10->(¬(w.length:Int)+(k:Int)=(tc w:Int)+2->P (tH w k))/\((w.length:Int)+(k:Int)=(tc w:Int)+2->(m<7->P Fb)/\(7<=m->P iY)))
theorem Dx:FnOk P w Z.K mg base bZ 1 T.d__law_due.f T.d__law_due.fd ["_law_counted_here","_law_many"] (aT Z P9):=by
 have o:=tP.nd;refine bc T.d__law_due.F tP [0,0] (by decide) (λi R h=>by obtain⟨_,_,_,rfl,_⟩:=h;rfl) (λp A outer s H E i R j h=>?_)
 have l:=j.units
 refine⟨_,(ah (bA (aQ uK (bH (aa 0) aw) aw (bq _)) (ao (aK (bg (ae cK (ae cK (ae cK (ae cK (ae cK ag)))))))) aM)
   (ah (bA (aQ (lL l) (az ba (bH (aa 0) aw) (bH (aa 0) aw)) (az ba (bH (aa 0) aw) aw) (bq _)) (ao (aK (bg (ae cK (ae cK (ae cK (ae cK (ae cK (ae (aa 0) ag))))))))) aM)
   (ah (bA (aQ uM (aa 1) aw (bq _)) (ao (aK (bg (ae cK (ae cK (ae cK (ae cK (ae cK (ae aw ag))))))))) aM)
   (ao (aK (bg (ae jS ag))))))),?_⟩
 obtain⟨d,k,m,rfl,q,n,a⟩:=h;refine⟨_,rfl,_,rfl,_,rfl,bF (λe=>?_) (λe=>?_)⟩
 ·have e:(10:Int)<(d.length:Int):=GM e
  exact⟨by show 5<=sizeLine;decide,n (by omega)⟩
 have e:¬(10:Int)<(d.length:Int):=KF e;have a:=a (by omega)
 refine⟨_,rfl,_,rfl,_,rfl,_,rfl,_,rfl,_,rfl,?_⟩;refine Xd ⟨_,rfl,bF (λb=>?_) (λb=>?_)⟩
 ·exact⟨_,rfl,by show 6<=sizeLine;decide,a.1 (by simpa using b)⟩
 have g:=a.2 (by simpa using b)
 refine⟨_,rfl,_,rfl,bF (λc=>?_) (λc=>?_)⟩
 ·exact⟨by show 6<=sizeLine;decide,g.1 (GM c)⟩
 ·exact⟨by show 1<=sizeLine;decide,g.2 (by have:=KF c;omega)⟩
variable {P:Program} {w:World} {mg:Str->Option Value} {base:Heap} {Z:DC} (T:Txt Z mg)
def oI(w:W)(k:Nat)(m:Int):D:=if 10<w.length then ko else if (w.length:Int)+(k:Int)=(tc w:Int)+2 then(if m<7 then Fb else iY) else tH w k
theorem Cf{w:W}{P:D->Prop}(h:P (oI w k m)):(10<w.length->P ko)/\(w.length<=10->(¬(w.length:Int)+(k:Int)=(tc w:Int)+2->P (tH w k))/\((w.length:Int)+(k:Int)=(tc w:Int)+2->(m<7->P Fb)/\(7<=m->P iY))):=by
 unfold oI at h;refine⟨λc=>by rwa [tz c] at h,λc=>⟨λe=>by rwa [AC (by omega),AC e] at h,λe=>⟨λf=>by rwa [AC (by omega),tz e,tz f] at h,λf=>by rwa [AC (by omega),tz e,AC (by omega)] at h⟩⟩⟩
theorem Ra{w:W}(P:D->Prop)(a:w.length<=14)(h:P (oI w k m)):P9 [nG w k, .int m] P:=⟨w,k,m,rfl,a,Cf h⟩
theorem HE(w:W)(k:Nat)(m:Int):oI w k m=ko\/oI w k m=tH w k\/oI w k m=Fb\/oI w k m=iY:=by
 unfold oI
 split
 ·exact .inl rfl
 ·split
  ·split
   ·exact .inr (.inr (.inl rfl))
   ·exact .inr (.inr (.inr rfl))
  ·exact .inr (.inl rfl)
theorem mj(p:PyData){P:D->Prop}(a:d.py=some p)(b:PyData.eqv p p=true)(c:p.depth<=64)(h:P (.bl false)):uk d d P:=by
 refine⟨p,p,a,a,c,?_⟩;rw[tz rfl,b];exact h
structure Kd (d:D):Prop where
 ne:∀R:D->Prop,(∀b,R (.bl b))->uk d iY R
 self:∀R:D->Prop,R (.bl false)->uk d d R
 last:∃(l:List D)(y:D),d= .lst l/\gL l (-1)=some y/\O3 y=true/\((∀b,y≠ .bl b)\/l.length=5)
theorem sy(p a:PyData){P:D->Prop}(c:d.py=some p)(f:e.py=some a)(g:p.depth<=64)(h:∀b,P (.bl b)):uk d e P:=⟨p,a,c,f,g,by rw[tz rfl];exact h _⟩
theorem Lo(w:W)(k:Nat)(m:Int):Kd (oI w k m):=by
 rcases HE w k m with e|e|e|e<;>rw[e]
 ·exact⟨λR h=>sy _ _ rfl rfl (by decide) h,λR h=>mj _ rfl rfl (by decide) h,_,_,rfl,rfl,rfl, .inr rfl⟩
 ·exact⟨λR h=>sy _ _ rfl rfl (by simp[PyData.depth,PyData.depthAll]) h,λR h=>mj _ rfl (by simp[PyData.eqv,PyData.eqvAll]) (by simp[PyData.depth,PyData.depthAll]) h,_,_,rfl,rfl,rfl, .inl λb h=>by cases h⟩
 ·exact⟨λR h=>sy _ _ rfl rfl (by decide) h,λR h=>mj _ rfl rfl (by decide) h,_,_,rfl,rfl,rfl, .inl λb h=>by cases h⟩
 ·exact⟨λR h=>sy _ _ rfl rfl (by decide) h,λR h=>mj _ rfl rfl (by decide) h,_,_,rfl,rfl,rfl, .inl λb h=>by cases h⟩
theorem R7:FnOk P w Z.K mg base bZ 9 T.d_law.f T.d_law.fd ["_law_script"] (aT Z KR):=by
 have r:=KO.nd;refine bc T.d_law.F KO [0,0,0,0,0,0,0,0,0] (by decide) (λds R h=>by obtain⟨_,rfl,_⟩:=h;rfl) (λbb A outer s H E ds R i h=>?_)
 have I:=i.units
 refine⟨_,(ah (aJ false 1 r (aH T.d__law_web (Dy T) i (ae (aH T.d__law_draws (oV T) i (ae (aa 0) (ae aw (ae (az cZ (aH T.d__law_cell_at (fg T) i (ae (aa 0) (ae aw ag))) aw) ag)))) ag)))
   (ah (aJ false 1 r (aH T.d__law_named (yW T) i (ae (aa 1) (ae (aH T.d__law_draws (oV T) i (ae (aa 0) (ae aw (ae (aI bE rfl T.B.len bD (ae (aa 1) ag)) ag)))) ag))))
   (ah (aJ false 2 r (aH T.d__law_cell_at (fg T) i (ae (aa 0) (ae aw ag))))
   (ah (bA (aQ (ku I) (az cZ (aa 2) aw) aw (bq _)) (ao (aJ false 1 r (aH T.d__law_twisted (uR T) i (ae (aa 1) (ae (az lg (aa 2) aw) ag))))) aM)
   (ah (aJ false 3 r (aH T.d__law_counted (uP T) i (ae (aa 1) ag)))
   (ah (aJ false 4 r (Ni T.mkW (uO T) (i.mono (by decide)) rfl T.mC T.m___init__b (ae (aa 1) ag)))
   (ah (aJ false 5 r (bg (ae jS ag)))
   (ah (bA (aQ uK (bH (aa 3) aw) aw (bq _)) (ao (aJ false 5 r (bg (ae cK (ae cK (ae cK (ae cK (ae cK ag)))))))) aM)
   (ah (aJ false 6 r (az cZ (aH T.d__law_cell_at (fg T) i (ae (aa 0) (ae aw ag))) (az Dq aw aw)))
   (ah (bA (DW.dt (HG (aQ (lL I) (aH T.d__law_said (ji T) i (ae aw (ae (aa 4) (ae (bg ag) (ae (aa 6) ag))))) (aa 5) (bq _)) (Ci (aQ (lL I) (aH T.d__law_said (ji T) i (ae aw (ae (aa 4) (ae (bg ag) (ae (aa 6) ag))))) (aa 5) (bq _))))) (ao (aK cK)) aM)
   (ah (b6 rfl FM (bC (bg (ae (az cZ (aa 6) aw) (ae aw (ae aw (ae (aI bE rfl T.B.len bD (ae (aa 1) ag)) (ae (az ba aw (aI bE rfl T.B.len bD (ae (aa 1) ag))) ag))))))) (aE 7 r) (ah (aJ false 5 r (aH T.d__law_due (Dx T) i (ae (aa 3) (ae (aa 7) ag))))
   (ao (bA (DW.dt (HG (aQ (lL I) (aa 5) (bg (ae jS ag)) (bq _)) (Ci (aQ Xh (aa 7) (aI bE rfl T.B.len bD (ae (aa 1) ag)) (bq _))))) (ah (aJ false 8 r (aH T.d__law_said (ji T) i (ae aw (ae (aa 4) (ae (eQ (Aw rfl) rfl T.B.list gr (ae (eQ xR rfl T.B.range uj (ae (aI bE rfl T.B.len bD (ae (aa 1) ag)) ag)) ag)) (ae (aa 7) ag))))))
   (ah (bA (DW.dt (HG (aQ (lL I) (aa 8) (aa 5) (bq _)) (Ci (DW.dt (Cg (jg (Cd "bool" (bH (aa 8) (Q1 aw)) rfl T.B.isinstance rfl T.B.bool EB)) (ye (aQ uK (aI bE rfl T.B.len bD (ae (aa 8) ag)) aw (bq _)))))))) (ao (aK cK)) aM)
   (ao (bA (aQ (lL I) (aH T.d__law_said (ji T) i (ae aw (ae (aa 4) (ae (eQ (Aw rfl) rfl T.B.list gr (ae (eQ xR rfl T.B.range uj (ae (aI bE rfl T.B.len bD (ae (aa 1) ag)) ag)) ag)) (ae (aa 7) ag))))) (aa 8) (bq _)) (ao (aK cK)) aM)))) aM))))
   (ao (aK (Kh (ku I) (cD T.W (aa 4) T.m_turns.m (jh T) (i.mono (by decide)) T.m_turns.b) (aa 1) (bq _))))))))))))))),?_⟩
 obtain⟨t,rfl,CG,q⟩:=h;refine⟨_,rfl,_,rfl,t,2,rfl,λv=>⟨(by show(0:Int)<14;decide),?_⟩⟩
 obtain⟨n,hn,h13⟩:∃n:Nat,v%14=(n:Int)/\n<=13:=by
  have:=oQ v 14 (by decide)
  exact⟨(v%14).toNat,by omega,by omega⟩
 dsimp only;rw[show D.int (v%14)=aq n by unfold aq;rw[hn]]
 refine⟨t,1,n,rfl,by omega,by omega,λxs xl=>⟨xs,rfl,by omega,λC U l0 X=>⟨trivial,?_⟩⟩⟩
 have lw0:(C.map au).length=C.length:=aP _;refine⟨_,rfl,_,rfl,_,rfl,t,3,(C.map au).length,rfl,by omega,by omega,λys yl=>⟨C,ys,rfl,U,by omega,by omega,by omega,λY g1 l1 L=>⟨trivial,?_⟩⟩⟩
 dsimp only;refine⟨_,rfl,t,4,rfl,λo=>⟨trivial,?_⟩⟩;dsimp only;refine BQ [some (.kD t),some (aO Y),some (.int o),none,none,none,none,none,none] rfl ?_;refine KQ (λM=>∃a,M= [some (.kD t),some (aO a),some (.int o),none,none,none,none,none,none]/\Good a/\a.length=n+1/\gu a=gu C) (λE' N=>?_) ?_
 ·refine⟨_,rfl,(by show(0:Int)<2;decide),E6 ⟨_,rfl,bF (λ_=>?_) λ_=>?_⟩⟩
  ·exact⟨_,rfl,_,rfl,⟨by decide,by decide⟩,Y,_,rfl,g1,by omega,by omega,λv gv lv dgv=>⟨trivial,N _ ⟨v,rfl,gv,by omega,dgv.trans L⟩⟩⟩
  ·exact N _ ⟨Y,rfl,g1,by omega,L⟩
 rintro _ ⟨a,rfl,g,wl,dg⟩
 have oz:a.length<=10->gu a<64:=λh=>by
  rw[dg]
  by_cases c:3<=C.length
  ·have:=Pp U c (X (by omega))
   omega
  ·have c1:=iW U
   have c2:=fN C;have c3:C.length*C.length<=2*2:=wa (by omega) (by omega)
   omega
 have lw:(a.map au).length=a.length:=aP _;refine⟨_,rfl,a,rfl,g,by omega,by omega,λk hk=>⟨trivial,?_⟩⟩
 refine⟨_,rfl,a,rfl,g,by omega,by omega,trivial,?_⟩
 refine⟨by show 1<=sizeLine;decide,trivial,?_⟩
 dsimp only;refine BQ [some (.kD t),some (aO a),some (.int o),some (nG a k),some (.dN a),some iY,none,none,none] rfl ?_;refine KQ (λM=>M= [some (.kD t),some (aO a),some (.int o),some (nG a k),some (.dN a),some (if 8<a.length then ko else iY),none,none,none]) (λE' N=>?_) ?_
 ·refine⟨_,rfl,_,rfl,_,rfl,bF (λe=>?_) (λe=>?_)⟩
  ·have e:(8:Int)<(a.length:Int):=GM e
   refine⟨by show 5<=sizeLine;decide,trivial,N _ ?_⟩
   rw[tz (by omega)];rfl
  ·have e:¬(8:Int)<(a.length:Int):=KF e
   refine N _ ?_;rw[AC (by omega)]
 rintro _ rfl;refine⟨_,rfl,t,5,rfl,λv5=>⟨⟨by decide,by decide⟩,(by show(0:Int)<10^60;decide),trivial,?_⟩⟩
 have mb:=oQ v5 (10^60) (by decide)
 obtain⟨m,hm⟩:∃m,m=v5%10^60:=⟨_,rfl⟩
 have WQ:m.natAbs<=2^200:=by
  have h1:m.natAbs<10^60:=by rw[hm];omega
  exact fK (p6 h1) (by decide)
 dsimp only;refine BQ [some (.kD t),some (aO a),some (.int o),some (nG a k),some (.dN a),some (if 8<a.length then ko else iY),some (.int m),none,none] (by rw[hm];rfl) ?_
 have same:∀(u:D->Prop),u (.bl false)->uk (if 8<a.length then ko else iY) (if 8<a.length then ko else iY) u:=λu J=>by split<;>exact mj _ rfl rfl (by decide) J
 have UR:∀(y:Nat),y<2->∀(u:D->Prop),u (if 8<a.length then ko else iY)->DX [aq y, .dN a,au [], .int m] u:=λy hy u J=>by
  refine⟨y,a,[],m,rfl,g,by omega,by omega, .inl ⟨hy,WQ,λh=>?_,λh=>?_⟩⟩
  ·rwa [AC (by omega)] at J
  ·rwa [tz h] at J
 refine⟨_,rfl,by show 0<=sizeLine;decide,_,rfl,?_⟩
 dsimp only[qz];refine UR 0 (by decide) _ ⟨_,rfl,?_⟩
 refine same _ ⟨_,rfl,bS ?_⟩;refine⟨_,rfl,by show 0<=sizeLine;decide,_,rfl,?_⟩
 dsimp only[qz];refine UR 1 (by decide) _ ⟨_,rfl,?_⟩
 refine same _ ⟨_,rfl,bS ?_⟩;refine⟨_,rfl,(by show(0:Int)<13;decide),_,rfl,_,rfl,by show 5<=sizeLine;decide,?_⟩
 refine bQ (λj M=>∃(o5 o7 Q:Option D),M= [some (.kD t),some (aO a),some (.int o),some (nG a k),some (.dN a),o5,some (.int m),o7,Q]) ⟨_,_,_,rfl⟩ ?_ ?_
 ·rintro j d _ p ⟨o5,o7,Q,rfl⟩ A hA
  obtain⟨x,rfl⟩:∃x:Int,d= .int x:=by
   match j,p with
   |0,p=>exact⟨_,(Do p).symm⟩
   |1,p=>exact⟨_,(Do p).symm⟩
   |2,p=>exact⟨_,(Do p).symm⟩
   |3,p=>exact⟨_,(Do p).symm⟩
   |4,p=>exact⟨_,(Do p).symm⟩
   |n+5,p=>cases p
  refine⟨_,rfl,_,rfl,?_⟩;dsimp only[qz];refine Ra _ (by omega) ⟨trivial,?_⟩
  have O:=Lo a k x
  have JB:∀(u:D->Prop),u (oI a k x)->DX [aq 2, .dN a, .lst (cJ 0 (((a.map au).length:Int)-0).toNat), .int x] u:=λu J=>by
   rw[lw,show((a.length:Int)-0).toNat=a.length by omega,zd]
   refine⟨2,a,List.range a.length,x,rfl,g,by omega,by omega, .inr ⟨rfl,rfl,oz,(Cf J).1,λh k' iC=>?_⟩⟩
   rw[Cn.uniq g iC hk];exact(Cf J).2 h
  generalize oI a k x=d0 at*;refine⟨_,rfl,by show 1<=sizeLine;decide,O.ne _ λb=>⟨_,rfl,?_⟩⟩
  refine(λ(G:_)=>bF (λ_=>G) (λ_=>⟨_,rfl,_,rfl,_,rfl,bF (λ_=>G) (λ_=>hA _ ⟨some d0,some (.int x),Q,rfl⟩)⟩)) ?_;refine⟨_,rfl,_,rfl,_,rfl,_,_,rfl,⟨by decide,by decide,by omega,by omega,by omega⟩,_,rfl,?_⟩
  dsimp only[qz];refine JB _ ⟨trivial,?_⟩;obtain⟨l,y,hl,hy,hi,hb⟩:=O.last;refine⟨_,rfl,_,rfl,O.self _ ⟨_,rfl,bS ?_⟩⟩;refine⟨_,rfl,?_⟩;subst hl;refine⟨y,hy,hi,rfl,?_⟩;cases hB:W5 "bool" y with
  |false=>
   refine bS ?_;refine bS ?_;refine⟨_,rfl,_,rfl,_,rfl,_,_,rfl,⟨by decide,by decide,by omega,by omega,by omega⟩,_,rfl,?_⟩
   dsimp only[qz];refine JB _ ⟨_,rfl,?_⟩;exact O.self _ ⟨_,rfl,bS (hA _ ⟨some (.lst l),some (.int x),some (.lst l),rfl⟩)⟩
  |true=>
   have l5:l.length=5:=hb.resolve_left λz=>by
    cases y with
    |bl b=>exact z b rfl
    |_=>exact absurd (show false=true from hB) cQ
   refine dq ⟨_,rfl,_,rfl,?_⟩;rw[l5];refine bS ?_;refine⟨_,rfl,_,rfl,_,rfl,_,_,rfl,⟨by decide,by decide,by omega,by omega,by omega⟩,_,rfl,?_⟩
   dsimp only[qz];refine JB _ ⟨_,rfl,?_⟩;exact O.self _ ⟨_,rfl,bS (hA _ ⟨some (.lst l),some (.int x),some (.lst l),rfl⟩)⟩
 ·rintro _ ⟨o5,o7,Q,rfl⟩
  refine⟨_,rfl,a,rfl,a,rfl,by omega,_,rfl,?_⟩
  refine EO ?_;rw[KM rfl];exact q
theorem all_mk{l:PySem.W.OpenLaw}{w:World}{K:PySem.W.Frag}{h:Heap}{g:Str->Option Value}{fa C:Addr}{tk1:Tok}{JQ:Tok}{i:Tok}{j:Tok}(X:K.In h)(G:h.Ns mainGlobals g)(Y:g "law"=some (.ref fa)){k:Tok}
  {d0:Addr} {od0 an0:Option Addr} {sl0:Array (Option Value)} {oc0 kV0 dc0 pm0 YU ct0:Value}
  {d1:Addr} {od1 an1:Option Addr} {sl1:Array (Option Value)} {oc1 kV1 dc1 Pr YV ct1:Value}
  {d2:Addr} {od2 an2:Option Addr} {rO:Array (Option Value)} {oc2 kV2 dc2 Sw YW ct2:Value}
  {d3:Addr} {od3 an3:Option Addr} {sl3:Array (Option Value)} {oc3 kV3 dc3 pm3 YX ct3:Value}
  {d4:Addr} {od4 an4:Option Addr} {sl4:Array (Option Value)} {oc4 kV4 dc4 pm4 YY ct4:Value}
  {d5:Addr} {od5 an5:Option Addr} {sl5:Array (Option Value)} {oc5 kV5 dc5 pm5 YZ ct5:Value}
  {d6:Addr} {od6 an6:Option Addr} {sl6:Array (Option Value)} {oc6 kV6 dc6 pm6 Y0 ct6:Value}
  {d7:Addr} {od7 an7:Option Addr} {sl7:Array (Option Value)} {oc7 kV7 dc7 pm7 Y1 ct7:Value}
  {d8:Addr} {od8 an8:Option Addr} {sl8:Array (Option Value)} {oc8 kV8 dc8 pm8 Y2 ct8:Value}
  {d9:Addr} {od9 an9:Option Addr} {sl9:Array (Option Value)} {oc9 kV9 dc9 pm9 Y3 ct9:Value}
  {Vf:Addr} {abT Ys:Option Addr} {ac0:Array (Option Value)} {abt aaT ZT acm TN Y6:Value}
  {Vg:Addr} {abU Yt:Option Addr} {ac1:Array (Option Value)} {abu aaU ZU acn TQ Y7:Value}
  {Vh:Addr} {abV Yu:Option Addr} {ac2:Array (Option Value)} {abv aaV ZV aco TR Y8:Value}
  {Vi:Addr} {abW Yv:Option Addr} {ac3:Array (Option Value)} {abw aaW ZW acp TU Y9:Value}
  {Vj:Addr} {abX Yw:Option Addr} {ac4:Array (Option Value)} {abx aaX ZX acq TV Za:Value}
  {Vk:Addr} {abY Yx:Option Addr} {ac5:Array (Option Value)} {aby aaY ZY acr TX Zb:Value}
  {Vl:Addr} {abZ Yy:Option Addr} {ac6:Array (Option Value)} {abz aaZ ZZ acs TY Zc:Value}
  {Vm:Addr} {ab0 Yz:Option Addr} {ac7:Array (Option Value)} {abA aa0 Z0 acu TZ Zd:Value}
  {Vn:Addr} {ab1 YA:Option Addr} {ac8:Array (Option Value)} {abB aa1 Z1 acv T3 Ze:Value}
  {Vo:Addr} {ab2 YB:Option Addr} {ac9:Array (Option Value)} {abC aa2 Z2 acw T4 Zf:Value}
  {Vp:Addr} {ab3 YC:Option Addr} {ada:Array (Option Value)} {abD aa3 Z3 acx T5 Zg:Value}
  {Vq:Addr} {ab4 YD:Option Addr} {adb:Array (Option Value)} {abE aa4 Z4 acy T7 Zh:Value}
  {Vr:Addr} {ab5 YE:Option Addr} {ade:Array (Option Value)} {abF aa5 Z5 acz T9 Zi:Value}
  {Vs:Addr} {ab6 YF:Option Addr} {adf:Array (Option Value)} {abG aa6 Z6 acA Ua Zj:Value}
  {Vt:Addr} {ab7 YG:Option Addr} {adg:Array (Option Value)} {abH aa7 Z7 acB Ub Zk:Value}
  {Vu:Addr} {ab8 YH:Option Addr} {adh:Array (Option Value)} {abI aa8 Z8 acC Uc Zl:Value}
  {Vv:Addr} {ab9 YI:Option Addr} {adi:Array (Option Value)} {abJ aa9 Z9 acD Ud Zm:Value}
  {Vw:Addr} {aca YJ:Option Addr} {adj:Array (Option Value)} {abK aba aaa acE Ue Zn:Value}
  {Vx:Addr} {acb YK:Option Addr} {adk:Array (Option Value)} {abL abb aab acF Ug Zo:Value}
  {Vy:Addr} {acd YL:Option Addr} {adl:Array (Option Value)} {abM abc aac acG Uh Zp:Value}
  {Vz:Addr} {ace YM:Option Addr} {adm:Array (Option Value)} {abN abd aad acH Ui Zq:Value}
  {VA:Addr} {acf YN:Option Addr} {adn:Array (Option Value)} {abO abe aae acI Uj Zr:Value}
  {VB:Addr} {acg YO:Option Addr} {ado:Array (Option Value)} {abP abf aaf acJ Uk Zs:Value}
  {VC:Addr} {ach YQ:Option Addr} {adp:Array (Option Value)} {abQ abg aag acK Ul Zt:Value}
  {VD:Addr} {aci YR:Option Addr} {adq:Array (Option Value)} {abR abh aah acL Um Zu:Value}
  {VE:Addr} {acj YS:Option Addr} {ads:Array (Option Value)} {abS abi aai acM Uo Zv:Value}
  {m:Addr} {jd0 jn0:Option Addr} {js0:Array (Option Value)} {jc0 jk0 jo0 jp0 n jt0:Value}
  {N:Addr} {jd1 jn1:Option Addr} {js1:Array (Option Value)} {jc1 jk1 jo1 jp1 o jt1:Value}
  {O:Addr} {jd2 jn2:Option Addr} {js2:Array (Option Value)} {jc2 jk2 jo2 jp2 p jt2:Value}
  {Q:Addr} {jd3 jn3:Option Addr} {js3:Array (Option Value)} {jc3 jk3 jo3 jp3 q jt3:Value}
  {R:Addr} {jd4 jn4:Option Addr} {js4:Array (Option Value)} {jc4 jk4 jo4 jp4 r jt4:Value}
  {U:Addr} {jd5 jn5:Option Addr} {js5:Array (Option Value)} {jc5 jk5 jo5 jp5 t jt5:Value}
  {f:Addr}
  {d:Addr}
  {u:Addr}
  {x:Addr}
  {b:Addr}
  {y:Addr}
  {z:Addr}
  {A:Addr}
  {B:Addr}
  {c:Addr}
  {E:Addr}
  {F:Addr}
  {H:Addr}
  {I:Addr}
  {J:Addr}
  {Em:Addr} {si:ClassData} {Dk q_MapError:Str} {BX r9 Ao:List Value} {yt BO:Bool} {DU:List Str} {zW:Option Bool} {Cb:Option Addr} {CZ C3 C5 C7 C9:Option Value}
  {He:Addr} {vk:ClassData} {FW q_TooMany:Str} {EG vf D1:List Value} {z9 Eu:Bool} {Gs:List Str} {B7:Option Bool} {EU:Option Addr} {FD FE FF FG FH:Option Value}
  {En:Addr} {sj:ClassData} {Dl q_NotPlane:Str} {BY se Ap:List Value} {yu BP:Bool} {DV:List Str} {zX:Option Bool} {Cc:Option Addr} {C1 C4 C6 C8 Dc:Option Value}
  {K5:Addr} {xQ:ClassData} {Jf q_TooFew:Str} {Hj xM GC:List Value} {Cy Hi:Bool} {JD:List Str} {EK:Option Bool} {Hw:Option Addr} {IE IF IG IH II:Option Value}
  {L:Addr} {CP CT:Option Addr} {CW:Array (Option Value)} {CO CQ CU CV tm CY:Value}
  {M:Addr} {Iw Iz:Option Addr} {IC:Array (Option Value)} {Iu Iy IA IB yH ID:Value}
  (gC:PySem.W.nsIn K mainGlobals "Web"=some (some (.ref C)))
  (a0:fG K "round_from" d0)
  (l0:dR K "round_from" "round_from" lV d0 od0 an0 sl0 oc0 kV0 dc0 pm0 YU ct0)
  (c0:PySem.W.codeIn K YU "round_from"=true)
  (k0:PySem.W.keepIn K (.ref d0)=true)
  (a1:fG K "lands" d1)
  (l1:dR K "lands" "lands" pA d1 od1 an1 sl1 oc1 kV1 dc1 Pr YV ct1)
  (c1:PySem.W.codeIn K YV "lands"=true)
  (k1:PySem.W.keepIn K (.ref d1)=true)
  (a2:fG K "count" d2)
  (l2:dR K "count" "count" ze d2 od2 an2 rO oc2 kV2 dc2 Sw YW ct2)
  (c2:PySem.W.codeIn K YW "count"=true)
  (k2:PySem.W.keepIn K (.ref d2)=true)
  (a3:fG K "is_plane" d3)
  (l3:dR K "is_plane" "is_plane" pz d3 od3 an3 sl3 oc3 kV3 dc3 pm3 YX ct3)
  (c3:PySem.W.codeIn K YX "is_plane"=true)
  (k3:PySem.W.keepIn K (.ref d3)=true)
  (a4:fG K "need_plane" d4)
  (l4:dR K "need_plane" "need_plane" lU d4 od4 an4 sl4 oc4 kV4 dc4 pm4 YY ct4)
  (c4:PySem.W.codeIn K YY "need_plane"=true)
  (k4:PySem.W.keepIn K (.ref d4)=true)
  (a5:fG K "least_free" d5)
  (l5:dR K "least_free" "least_free" lS d5 od5 an5 sl5 oc5 kV5 dc5 pm5 YZ ct5)
  (c5:PySem.W.codeIn K YZ "least_free"=true)
  (k5:PySem.W.keepIn K (.ref d5)=true)
  (a6:fG K "order_of_five" d6)
  (l6:dR K "order_of_five" "order_of_five" gd d6 od6 an6 sl6 oc6 kV6 dc6 pm6 Y0 ct6)
  (c6:PySem.W.codeIn K Y0 "order_of_five"=true)
  (k6:PySem.W.keepIn K (.ref d6)=true)
  (a7:fG K "is_among" d7)
  (l7:dR K "is_among" "is_among" pk d7 od7 an7 sl7 oc7 kV7 dc7 pm7 Y1 ct7)
  (c7:PySem.W.codeIn K Y1 "is_among"=true)
  (k7:PySem.W.keepIn K (.ref d7)=true)
  (a8:fG K "alien_fault" d8)
  (l8:dR K "alien_fault" "alien_fault" kz d8 od8 an8 sl8 oc8 kV8 dc8 pm8 Y2 ct8)
  (c8:PySem.W.codeIn K Y2 "alien_fault"=true)
  (k8:PySem.W.keepIn K (.ref d8)=true)
  (a9:fG K "self_fault" d9)
  (l9:dR K "self_fault" "self_fault" lW d9 od9 an9 sl9 oc9 kV9 dc9 pm9 Y3 ct9)
  (c9:PySem.W.codeIn K Y3 "self_fault"=true)
  (k9:PySem.W.keepIn K (.ref d9)=true)
  (a10:fG K "twice_fault" Vf)
  (l10:dR K "twice_fault" "twice_fault" kC Vf abT Ys ac0 abt aaT ZT acm TN Y6)
  (c10:PySem.W.codeIn K TN "twice_fault"=true)
  (k10:PySem.W.keepIn K (.ref Vf)=true)
  (a11:fG K "lone_fault" Vg)
  (l11:dR K "lone_fault" "lone_fault" lT Vg abU Yt ac1 abu aaU ZU acn TQ Y7)
  (c11:PySem.W.codeIn K TQ "lone_fault"=true)
  (k11:PySem.W.keepIn K (.ref Vg)=true)
  (a12:fG K "reached_from_first" Vh)
  (l12:dR K "reached_from_first" "reached_from_first" dQ Vh abV Yu ac2 abv aaV ZV aco TR Y8)
  (c12:PySem.W.codeIn K TR "reached_from_first"=true)
  (k12:PySem.W.keepIn K (.ref Vh)=true)
  (a13:fG K "apart_fault" Vi)
  (l13:dR K "apart_fault" "apart_fault" kA Vi abW Yv ac3 abw aaW ZW acp TU Y9)
  (c13:PySem.W.codeIn K TU "apart_fault"=true)
  (k13:PySem.W.keepIn K (.ref Vi)=true)
  (a14:fG K "first_fault" Vj)
  (kK:dR K "first_fault" "first_fault" kB Vj abX Yw ac4 abx aaX ZX acq TV Za)
  (c14:PySem.W.codeIn K TV "first_fault"=true)
  (k14:PySem.W.keepIn K (.ref Vj)=true)
  (a15:fG K "need_at_most" Vk)
  (l15:dR K "need_at_most" "need_at_most" jI Vk abY Yx ac5 aby aaY ZY acr TX Zb)
  (c15:PySem.W.codeIn K TX "need_at_most"=true)
  (k15:PySem.W.keepIn K (.ref Vk)=true)
  (a16:fG K "led_with" Vl)
  (l16:dR K "led_with" "led_with" lu Vl abZ Yy ac6 abz aaZ ZZ acs TY Zc)
  (c16:PySem.W.codeIn K TY "led_with"=true)
  (k16:PySem.W.keepIn K (.ref Vl)=true)
  (a17:fG K "led" Vm)
  (l17:dR K "led" "led" DQ Vm ab0 Yz ac7 abA aa0 Z0 acu TZ Zd)
  (c17:PySem.W.codeIn K TZ "led"=true)
  (k17:PySem.W.keepIn K (.ref Vm)=true)
  (a18:fG K "parts_with" Vn)
  (l18:dR K "parts_with" "parts_with" jo Vn ab1 YA ac8 abB aa1 Z1 acv T3 Ze)
  (c18:PySem.W.codeIn K T3 "parts_with"=true)
  (k18:PySem.W.keepIn K (.ref Vn)=true)
  (a19:fG K "counted_by_parts" Vo)
  (l19:dR K "counted_by_parts" "counted_by_parts" dz Vo ab2 YB ac9 abC aa2 Z2 acw T4 Zf)
  (c19:PySem.W.codeIn K T4 "counted_by_parts"=true)
  (k19:PySem.W.keepIn K (.ref Vo)=true)
  (a20:fG K "ways" Vp)
  (l20:dR K "ways" "ways" ni Vp ab3 YC ada abD aa3 Z3 acx T5 Zg)
  (c20:PySem.W.codeIn K T5 "ways"=true)
  (k20:PySem.W.keepIn K (.ref Vp)=true)
  (a21:fG K "ways_by" Vq)
  (l21:dR K "ways_by" "ways_by" rN Vq ab4 YD adb abE aa4 Z4 acy T7 Zh)
  (c21:PySem.W.codeIn K T7 "ways_by"=true)
  (k21:PySem.W.keepIn K (.ref Vq)=true)
  (a22:fG K "_law_cell_at" Vr)
  (l22:dR K "_law_cell_at" "_law_cell_at" jG Vr ab5 YE ade abF aa5 Z5 acz T9 Zi)
  (c22:PySem.W.codeIn K T9 "_law_cell_at"=true)
  (k22:PySem.W.keepIn K (.ref Vr)=true)
  (a23:fG K "_law_reserve" Vs)
  (l23:dR K "_law_reserve" "_law_reserve" jH Vs ab6 YF adf abG aa6 Z6 acA Ua Zj)
  (c23:PySem.W.codeIn K Ua "_law_reserve"=true)
  (k23:PySem.W.keepIn K (.ref Vs)=true)
  (a24:fG K "_law_draws" Vt)
  (l24:dR K "_law_draws" "_law_draws" lP Vt ab7 YG adg abH aa7 Z7 acB Ub Zk)
  (c24:PySem.W.codeIn K Ub "_law_draws"=true)
  (k24:PySem.W.keepIn K (.ref Vt)=true)
  (a25:fG K "_law_lands" Vu)
  (l25:dR K "_law_lands" "_law_lands" lR Vu ab8 YH adh abI aa8 Z8 acC Uc Zl)
  (c25:PySem.W.codeIn K Uc "_law_lands"=true)
  (k25:PySem.W.keepIn K (.ref Vu)=true)
  (a26:fG K "_law_places" Vv)
  (l26:dR K "_law_places" "_law_places" iJ Vv ab9 YI adi abJ aa9 Z9 acD Ud Zm)
  (c26:PySem.W.codeIn K Ud "_law_places"=true)
  (k26:PySem.W.keepIn K (.ref Vv)=true)
  (a27:fG K "_law_grown" Vw)
  (l27:dR K "_law_grown" "_law_grown" jm Vw aca YJ adj abK aba aaa acE Ue Zn)
  (c27:PySem.W.codeIn K Ue "_law_grown"=true)
  (k27:PySem.W.keepIn K (.ref Vw)=true)
  (a28:fG K "_law_web" Vx)
  (l28:dR K "_law_web" "_law_web" pj Vx acb YK adk abL abb aab acF Ug Zo)
  (c28:PySem.W.codeIn K Ug "_law_web"=true)
  (k28:PySem.W.keepIn K (.ref Vx)=true)
  (a29:fG K "_law_named" Vy)
  (l29:dR K "_law_named" "_law_named" jn Vy acd YL adl abM abc aac acG Uh Zp)
  (c29:PySem.W.codeIn K Uh "_law_named"=true)
  (k29:PySem.W.keepIn K (.ref Vy)=true)
  (a30:fG K "_law_twisted" Vz)
  (l30:dR K "_law_twisted" "_law_twisted" gJ Vz ace YM adm abN abd aad acH Ui Zq)
  (c30:PySem.W.codeIn K Ui "_law_twisted"=true)
  (k30:PySem.W.keepIn K (.ref Vz)=true)
  (a31:fG K "_law_counted" VA)
  (l31:dR K "_law_counted" "_law_counted" gI VA acf YN adn abO abe aae acI Uj Zr)
  (c31:PySem.W.codeIn K Uj "_law_counted"=true)
  (k31:PySem.W.keepIn K (.ref VA)=true)
  (a32:fG K "_law_kinds" VB)
  (l32:dR K "_law_kinds" "_law_kinds" lQ VB acg YO ado abP abf aaf acJ Uk Zs)
  (c32:PySem.W.codeIn K Uk "_law_kinds"=true)
  (k32:PySem.W.keepIn K (.ref VB)=true)
  (a33:fG K "_law_said" VC)
  (l33:dR K "_law_said" "_law_said" nh VC ach YQ adp abQ abg aag acK Ul Zt)
  (c33:PySem.W.codeIn K Ul "_law_said"=true)
  (k33:PySem.W.keepIn K (.ref VC)=true)
  (a34:fG K "_law_due" VD)
  (l34:dR K "_law_due" "_law_due" ph VD aci YR adq abR abh aah acL Um Zu)
  (c34:PySem.W.codeIn K Um "_law_due"=true)
  (k34:PySem.W.keepIn K (.ref VD)=true)
  (Yq:fG K "law" VE)
  (l35:dR K "law" "law" JA VE acj YS ads abS abi aai acM Uo Zv)
  (c35:PySem.W.codeIn K Uo "law"=true)
  (k35:PySem.W.keepIn K (.ref VE)=true)
  (m0:PySem.W.findIn K (.ref C) "__init__"=some (some (.ref m)))
  (f0:PySem.W.isFn K (.ref m)=true)
  (ml0:dR K "__init__" "Web.__init__" fA m jd0 jn0 js0 jc0 jk0 jo0 jp0 n jt0)
  (mc0:PySem.W.codeIn K n "Web.__init__"=true)
  (mk0:PySem.W.keepIn K (.ref m)=true)
  (m1:PySem.W.findIn K (.ref C) "many"=some (some (.ref N)))
  (f1:PySem.W.isFn K (.ref N)=true)
  (ml1:dR K "many" "Web.many" o9 N jd1 jn1 js1 jc1 jk1 jo1 jp1 o jt1)
  (mc1:PySem.W.codeIn K o "Web.many"=true)
  (mk1:PySem.W.keepIn K (.ref N)=true)
  (m2:PySem.W.findIn K (.ref C) "turns"=some (some (.ref O)))
  (f2:PySem.W.isFn K (.ref O)=true)
  (ml2:dR K "turns" "Web.turns" jU O jd2 jn2 js2 jc2 jk2 jo2 jp2 p jt2)
  (mc2:PySem.W.codeIn K p "Web.turns"=true)
  (mk2:PySem.W.keepIn K (.ref O)=true)
  (m3:PySem.W.findIn K (.ref C) "ties"=some (some (.ref Q)))
  (f3:PySem.W.isFn K (.ref Q)=true)
  (ml3:dR K "ties" "Web.ties" lq Q jd3 jn3 js3 jc3 jk3 jo3 jp3 q jt3)
  (mc3:PySem.W.codeIn K q "Web.ties"=true)
  (mk3:PySem.W.keepIn K (.ref Q)=true)
  (m4:PySem.W.findIn K (.ref C) "tied"=some (some (.ref R)))
  (f4:PySem.W.isFn K (.ref R)=true)
  (ml4:dR K "tied" "Web.tied" vS R jd4 jn4 js4 jc4 jk4 jo4 jp4 r jt4)
  (mc4:PySem.W.codeIn K r "Web.tied"=true)
  (mk4:PySem.W.keepIn K (.ref R)=true)
  (m5:PySem.W.findIn K (.ref C) "behind"=some (some (.ref U)))
  (f5:PySem.W.isFn K (.ref U)=true)
  (ml5:dR K "behind" "Web.behind" lO U jd5 jn5 js5 jc5 jk5 jo5 jp5 t jt5)
  (mc5:PySem.W.codeIn K t "Web.behind"=true)
  (mk5:PySem.W.keepIn K (.ref U)=true)
  (pgC:PySem.W.plainGet K C Str.empty=true)
  (H0:PySem.W.hasDictIn K C=true)
  (poC:PySem.W.plainOver K C=true)
  (saC:PySem.W.findIn K (.ref C) "__setattr__"=some (some (.builtin "object.__setattr__")))
  (mkC:PySem.W.makesIn K C=true)
  (kpC:PySem.W.keepIn K (.ref C)=true)
  (nR:PySem.W.findIn K (.ref C) "rows"=some none)
  (xn:PySem.W.specialIn K (.builtin "object.__class__") "__get__"=some (some (.builtin "getset_descriptor.__get__")))
  (xt:PySem.W.takesIn K (.builtin "object.__class__")=some true)
  (zVE:PySem.W.nsIn K mainGlobals "ValueError"=some none)
  (sO:PySem.W.nsIn K mainGlobals "MapError"=some (some (.ref f)))
  (Ff:PySem.W.nsIn K mainGlobals "TooMany"=some (some (.ref d)))
  (Cu:PySem.W.nsIn K mainGlobals "TooSmall"=some (some (.ref u)))
  (Ls:PySem.W.nsIn K mainGlobals "NoWeb"=some (some (.ref x)))
  (Ct:PySem.W.nsIn K mainGlobals "NotPlane"=some (some (.ref b)))
  (HQ:PySem.W.nsIn K mainGlobals "NoText"=some (some (.ref y)))
  (Cs:PySem.W.nsIn K mainGlobals "NoCorner"=some (some (.ref z)))
  (HP:PySem.W.nsIn K mainGlobals "NoRing"=some (some (.ref A)))
  (Lr:PySem.W.nsIn K mainGlobals "Alike"=some (some (.ref B)))
  (HU:PySem.W.nsIn K mainGlobals "TooFew"=some (some (.ref c)))
  (Fe:PySem.W.nsIn K mainGlobals "NotFree"=some (some (.ref E)))
  (zZ:PySem.W.nsIn K mainGlobals "NotFilled"=some (some (.ref F)))
  (Rk:PySem.W.nsIn K mainGlobals "Odd"=some (some (.ref H)))
  (HN:PySem.W.nsIn K mainGlobals "Bridge"=some (some (.ref I)))
  (HS:PySem.W.nsIn K mainGlobals "Shared"=some (some (.ref J)))
  (Cw:PySem.W.hasDictIn K f=true)
  (Cr:PySem.W.findIn K (.ref f) "__getattribute__"=some (some (.builtin "BaseException.__getattribute__")))
  (Cv:PySem.W.findIn K (.ref f) "__getattr__"=some none)
  (DR:PySem.W.findIn K (.ref f) "__setattr__"=some (some (.builtin "object.__setattr__")))
  (B5:PySem.W.findIn K (.ref f) "__class__"=some (some (.builtin "object.__class__")))
  (B9:PySem.W.clsIn K f=some si)
  (B6:si.mro= .ref f:: [.type "ValueError", .type "Exception", .type "BaseException", .type "object"])
  (Di:K.lookup f=some (excClassObj Dk q_MapError f Em BX r9 yt DU Ao BO zW Cb CZ C3 C5 C7 C9 "ValueError.__new__"))
  (B3:r9= [.type "ValueError", .type "Exception", .type "BaseException", .type "object"])
  (vH:PySem.W.hasDictIn K d=true)
  (vD:PySem.W.findIn K (.ref d) "__getattribute__"=some (some (.builtin "BaseException.__getattribute__")))
  (vG:PySem.W.findIn K (.ref d) "__getattr__"=some none)
  (vT:PySem.W.findIn K (.ref d) "__setattr__"=some (some (.builtin "object.__setattr__")))
  (vo:PySem.W.findIn K (.ref d) "__class__"=some (some (.builtin "object.__class__")))
  (vw:PySem.W.clsIn K d=some vk)
  (vq:vk.mro= .ref d:: [.ref f, .type "ValueError", .type "Exception", .type "BaseException", .type "object"])
  (vM:K.lookup d=some (excClassObj FW q_TooMany d He EG vf z9 Gs D1 Eu B7 EU FD FE FF FG FH "ValueError.__new__"))
  (vj:vf= [.ref f, .type "ValueError", .type "Exception", .type "BaseException", .type "object"])
  (sS:PySem.W.hasDictIn K b=true)
  (sN:PySem.W.findIn K (.ref b) "__getattribute__"=some (some (.builtin "BaseException.__getattribute__")))
  (sP:PySem.W.findIn K (.ref b) "__getattr__"=some none)
  (tM:PySem.W.findIn K (.ref b) "__setattr__"=some (some (.builtin "object.__setattr__")))
  (so:PySem.W.findIn K (.ref b) "__class__"=some (some (.builtin "object.__class__")))
  (su:PySem.W.clsIn K b=some sj)
  (sq:sj.mro= .ref b:: [.ref f, .type "ValueError", .type "Exception", .type "BaseException", .type "object"])
  (tw:K.lookup b=some (excClassObj Dl q_NotPlane b En BY se yu DV Ap BP zX Cc C1 C4 C6 C8 Dc "ValueError.__new__"))
  (sh:se= [.ref f, .type "ValueError", .type "Exception", .type "BaseException", .type "object"])
  (yr:PySem.W.hasDictIn K c=true)
  (yj:PySem.W.findIn K (.ref c) "__getattribute__"=some (some (.builtin "BaseException.__getattribute__")))
  (ym:PySem.W.findIn K (.ref c) "__getattr__"=some none)
  (zf:PySem.W.findIn K (.ref c) "__setattr__"=some (some (.builtin "object.__setattr__")))
  (xT:PySem.W.findIn K (.ref c) "__class__"=some (some (.builtin "object.__class__")))
  (x9:PySem.W.clsIn K c=some xQ)
  (xU:xQ.mro= .ref c:: [.ref f, .type "ValueError", .type "Exception", .type "BaseException", .type "object"])
  (yL:K.lookup c=some (excClassObj Jf q_TooFew c K5 Hj xM Cy JD GC Hi EK Hw IE IF IG IH II "ValueError.__new__"))
  (xP:xM= [.ref f, .type "ValueError", .type "Exception", .type "BaseException", .type "object"])
  (sgM:PySem.W.specialIn K (.ref f) "__getattribute__"=some (some (.builtin "type.__getattribute__")))
  (rdM:PySem.W.readsIn K f (.type "type")=true)
  (fcM:PySem.W.findCls K (.ref f) (.type "type") "__init__"=some (.val (.builtin "ValueError.__init__")))
  (EI:PySem.W.specialIn K (.ref d) "__call__"=some (some (.builtin "type.__call__")))
  (GN:PySem.W.instIn K (.ref d) (.type "type")=some true)
  (Fw:PySem.W.findIn K (.ref d) "__init__"=some (some (.builtin "ValueError.__init__")))
  (FI:PySem.W.keepIn K (.ref d)=true)
  (z_TooMany_TooSmall:PySem.W.kitOne K (.ref d) (.ref u)=some false)
  (z_TooMany_NoWeb:PySem.W.kitOne K (.ref d) (.ref x)=some false)
  (z_TooMany_NotPlane:PySem.W.kitOne K (.ref d) (.ref b)=some false)
  (z_TooMany_NoText:PySem.W.kitOne K (.ref d) (.ref y)=some false)
  (z_TooMany_NoCorner:PySem.W.kitOne K (.ref d) (.ref z)=some false)
  (z_TooMany_NoRing:PySem.W.kitOne K (.ref d) (.ref A)=some false)
  (z_TooMany_Alike:PySem.W.kitOne K (.ref d) (.ref B)=some false)
  (z_TooMany_TooFew:PySem.W.kitOne K (.ref d) (.ref c)=some false)
  (z_TooMany_NotFree:PySem.W.kitOne K (.ref d) (.ref E)=some false)
  (z_TooMany_NotFilled:PySem.W.kitOne K (.ref d) (.ref F)=some false)
  (z_TooMany_Odd:PySem.W.kitOne K (.ref d) (.ref H)=some false)
  (z_TooMany_Bridge:PySem.W.kitOne K (.ref d) (.ref I)=some false)
  (z_TooMany_Shared:PySem.W.kitOne K (.ref d) (.ref J)=some false)
  (z_TooMany_ValueError:PySem.W.kitOne K (.ref d) (.type "ValueError")=some true)
  (m_TooMany_MapError:PySem.W.mroIn K d (.ref f)=some true)
  (BZ:PySem.W.specialIn K (.ref b) "__call__"=some (some (.builtin "type.__call__")))
  (D6:PySem.W.instIn K (.ref b) (.type "type")=some true)
  (CM:PySem.W.findIn K (.ref b) "__init__"=some (some (.ref L)))
  (Dd:PySem.W.keepIn K (.ref b)=true)
  (Cq:PySem.W.isFn K (.ref L)=true)
  (sZ:dR K "__init__" "NotPlane.__init__" fS L CP CT CW CO CQ CU CV tm CY)
  (tj:PySem.W.codeIn K tm "NotPlane.__init__"=true)
  (sY:PySem.W.keepIn K (.ref L)=true)
  (n_NotPlane_counted:PySem.W.findIn K (.ref b) "counted"=some none)
  (z_NotPlane_TooMany:PySem.W.kitOne K (.ref b) (.ref d)=some false)
  (z_NotPlane_TooSmall:PySem.W.kitOne K (.ref b) (.ref u)=some false)
  (z_NotPlane_NoWeb:PySem.W.kitOne K (.ref b) (.ref x)=some false)
  (z_NotPlane_NoText:PySem.W.kitOne K (.ref b) (.ref y)=some false)
  (z_NotPlane_NoCorner:PySem.W.kitOne K (.ref b) (.ref z)=some false)
  (z_NotPlane_NoRing:PySem.W.kitOne K (.ref b) (.ref A)=some false)
  (z_NotPlane_Alike:PySem.W.kitOne K (.ref b) (.ref B)=some false)
  (z_NotPlane_TooFew:PySem.W.kitOne K (.ref b) (.ref c)=some false)
  (z_NotPlane_NotFree:PySem.W.kitOne K (.ref b) (.ref E)=some false)
  (z_NotPlane_NotFilled:PySem.W.kitOne K (.ref b) (.ref F)=some false)
  (z_NotPlane_Odd:PySem.W.kitOne K (.ref b) (.ref H)=some false)
  (z_NotPlane_Bridge:PySem.W.kitOne K (.ref b) (.ref I)=some false)
  (z_NotPlane_Shared:PySem.W.kitOne K (.ref b) (.ref J)=some false)
  (z_NotPlane_ValueError:PySem.W.kitOne K (.ref b) (.type "ValueError")=some true)
  (m_NotPlane_MapError:PySem.W.mroIn K b (.ref f)=some true)
  (Hk:PySem.W.specialIn K (.ref c) "__call__"=some (some (.builtin "type.__call__")))
  (JU:PySem.W.instIn K (.ref c) (.type "type")=some true)
  (Im:PySem.W.findIn K (.ref c) "__init__"=some (some (.ref M)))
  (IK:PySem.W.keepIn K (.ref c)=true)
  (HK:PySem.W.isFn K (.ref M)=true)
  (yF:dR K "__init__" "TooFew.__init__" gP M Iw Iz IC Iu Iy IA IB yH ID)
  (yG:PySem.W.codeIn K yH "TooFew.__init__"=true)
  (yE:PySem.W.keepIn K (.ref M)=true)
  (n_TooFew_point:PySem.W.findIn K (.ref c) "point"=some none)
  (z_TooFew_TooMany:PySem.W.kitOne K (.ref c) (.ref d)=some false)
  (z_TooFew_TooSmall:PySem.W.kitOne K (.ref c) (.ref u)=some false)
  (z_TooFew_NoWeb:PySem.W.kitOne K (.ref c) (.ref x)=some false)
  (z_TooFew_NotPlane:PySem.W.kitOne K (.ref c) (.ref b)=some false)
  (z_TooFew_NoText:PySem.W.kitOne K (.ref c) (.ref y)=some false)
  (z_TooFew_NoCorner:PySem.W.kitOne K (.ref c) (.ref z)=some false)
  (z_TooFew_NoRing:PySem.W.kitOne K (.ref c) (.ref A)=some false)
  (z_TooFew_Alike:PySem.W.kitOne K (.ref c) (.ref B)=some false)
  (z_TooFew_NotFree:PySem.W.kitOne K (.ref c) (.ref E)=some false)
  (z_TooFew_NotFilled:PySem.W.kitOne K (.ref c) (.ref F)=some false)
  (z_TooFew_Odd:PySem.W.kitOne K (.ref c) (.ref H)=some false)
  (z_TooFew_Bridge:PySem.W.kitOne K (.ref c) (.ref I)=some false)
  (z_TooFew_Shared:PySem.W.kitOne K (.ref c) (.ref J)=some false)
  (z_TooFew_ValueError:PySem.W.kitOne K (.ref c) (.type "ValueError")=some true)
  (m_TooFew_MapError:PySem.W.mroIn K c (.ref f)=some true)
  (Y5:PySem.W.nsIn K mainGlobals "__name__"=some (some (.str "law_mapdye_k85_ways_and_leading_refused" k)))
  (cc1:PySem.W.nsIn K mainGlobals "MOST_POINTS"=some (some (.int 14 tk1)))
  (cc2:PySem.W.nsIn K mainGlobals "MOST_LED"=some (some (.int 10 JQ)))
  (cc3:PySem.W.nsIn K mainGlobals "FEWEST_DYES"=some (some (.int 7 i)))
  (cc4:PySem.W.nsIn K mainGlobals "MOST_COUNTED"=some (some (.int 8 j)))
  (adO:PySem.W.nsIn K mainGlobals "len"=some none)
  (Tw:PySem.W.nsIn K mainGlobals "range"=some none)
  (adP:PySem.W.nsIn K mainGlobals "max"=some none)
  (adQ:PySem.W.nsIn K mainGlobals "min"=some none)
  (GS:PySem.W.nsIn K mainGlobals "enumerate"=some none)
  (adT:PySem.W.nsIn K mainGlobals "zip"=some none)
  (QD:PySem.W.nsIn K mainGlobals "sorted"=some none)
  (adM:PySem.W.nsIn K mainGlobals "all"=some none)
  (Ed:PySem.W.nsIn K mainGlobals "isinstance"=some none)
  (adN:PySem.W.nsIn K mainGlobals "int"=some none)
  (Yc:PySem.W.nsIn K mainGlobals "bool"=some none)
  (Yd:PySem.W.nsIn K mainGlobals "list"=some none)
  (Tx:PySem.W.nsIn K mainGlobals "tuple"=some none)
  (adS:PySem.W.nsIn K mainGlobals "sum"=some none)
  (J3:PySem.W.nsIn K mainGlobals "reversed"=some none)
  (adR:PySem.W.nsIn K mainGlobals "set"=some none)
  :∃fd:FuncData,(∀(s:Shared)(v:Value),BindsTo s fd ⟨[v],[]⟩ [("_law_script",v)])/\∀base:Heap,K.In base->base.Ns mainGlobals g->FnOk l.prog w K g base bZ 40 fa fd ["_law_script"] (L2.tW K):=by
 have e:=Y.symm.trans (GT X G Yq);cases e;have E0:=jT (st:=fA) ml0 mc0 mk0;have e0:=E0.binds (ps:= ["self","turns"]) (λ_ _ _ _ _ _ _ a=>by obtain⟨_,_,rfl⟩:=L2.km a;rfl)
 let Z:DC:=⟨K,C⟩
 let T:Txt Z g:=⟨⟨IR X G adO,IR X G Tw,IR X G adP,IR X G adQ,IR X G GS,IR X G adT,IR X G QD,IR X G adM,IR X G Ed,IR X G adN,IR X G Yc,IR X G Yd,IR X G Tx,IR X G adS,IR X G J3⟩,IR X G adR, .of X G a0 l0 c0 k0 (λ_ _ _ _ _ _ _ a=>by obtain⟨_,_,rfl⟩:=L2.km a;rfl), .of X G a1 l1 c1 k1 (λ_ _ _ _ _ _ _ a=>by obtain⟨_,rfl⟩:=L2.fP a;rfl), .of X G a2 l2 c2 k2 (λ_ _ _ _ _ _ _ a=>by obtain⟨_,rfl⟩:=L2.fP a;rfl), .of X G a3 l3 c3 k3 (λ_ _ _ _ _ _ _ a=>by obtain⟨_,rfl⟩:=L2.fP a;rfl), .of X G a4 l4 c4 k4 (λ_ _ _ _ _ _ _ a=>by obtain⟨_,rfl⟩:=L2.fP a;rfl), .of X G a5 l5 c5 k5 (λ_ _ _ _ _ _ _ a=>by obtain⟨_,_,rfl⟩:=L2.km a;rfl), .of X G a6 l6 c6 k6 (λ_ _ _ _ _ _ _ a=>by obtain⟨_,rfl⟩:=L2.fP a;rfl), .of X G a7 l7 c7 k7 (λ_ _ _ _ _ _ _ a=>by obtain⟨_,_,rfl⟩:=L2.km a;rfl), .of X G a8 l8 c8 k8 (λ_ _ _ _ _ _ _ a=>by obtain⟨_,rfl⟩:=L2.fP a;rfl), .of X G a9 l9 c9 k9 (λ_ _ _ _ _ _ _ a=>by obtain⟨_,rfl⟩:=L2.fP a;rfl), .of X G a10 l10 c10 k10 (λ_ _ _ _ _ _ _ a=>by obtain⟨_,rfl⟩:=L2.fP a;rfl), .of X G a11 l11 c11 k11 (λ_ _ _ _ _ _ _ a=>by obtain⟨_,rfl⟩:=L2.fP a;rfl), .of X G a12 l12 c12 k12 (λ_ _ _ _ _ _ _ a=>by obtain⟨_,rfl⟩:=L2.fP a;rfl), .of X G a13 l13 c13 k13 (λ_ _ _ _ _ _ _ a=>by obtain⟨_,rfl⟩:=L2.fP a;rfl), .of X G a14 kK c14 k14 (λ_ _ _ _ _ _ _ a=>by obtain⟨_,rfl⟩:=L2.fP a;rfl), .of X G a15 l15 c15 k15 (λ_ _ _ _ _ _ _ a=>by obtain⟨_,_,rfl⟩:=L2.km a;rfl), .of X G a16 l16 c16 k16 (λ_ _ _ _ _ _ _ a=>by obtain⟨_,_,_,_,_,rfl⟩:=L2.abk a;rfl), .of X G a17 l17 c17 k17 (λ_ _ _ _ _ _ _ a=>by obtain⟨_,_,_,_,rfl⟩:=L2.OL a;rfl), .of X G a18 l18 c18 k18 (λ_ _ _ _ _ _ _ a=>by obtain⟨_,_,_,rfl⟩:=L2.A2 a;rfl), .of X G a19 l19 c19 k19 (λ_ _ _ _ _ _ _ a=>by obtain⟨_,rfl⟩:=L2.fP a;rfl), .of X G a20 l20 c20 k20 (λ_ _ _ _ _ _ _ a=>by obtain⟨_,rfl⟩:=L2.fP a;rfl), .of X G a21 l21 c21 k21 (λ_ _ _ _ _ _ _ a=>by obtain⟨_,_,rfl⟩:=L2.km a;rfl), .of X G a22 l22 c22 k22 (λ_ _ _ _ _ _ _ a=>by obtain⟨_,_,rfl⟩:=L2.km a;rfl), .of X G a23 l23 c23 k23 (λ_ _ _ _ _ _ _ a=>by obtain⟨_,_,rfl⟩:=L2.km a;rfl), .of X G a24 l24 c24 k24 (λ_ _ _ _ _ _ _ a=>by obtain⟨_,_,_,rfl⟩:=L2.A2 a;rfl), .of X G a25 l25 c25 k25 (λ_ _ _ _ _ _ _ a=>by obtain⟨_,rfl⟩:=L2.fP a;rfl), .of X G a26 l26 c26 k26 (λ_ _ _ _ _ _ _ a=>by obtain⟨_,_,rfl⟩:=L2.km a;rfl), .of X G a27 l27 c27 k27 (λ_ _ _ _ _ _ _ a=>by obtain⟨_,_,_,rfl⟩:=L2.A2 a;rfl), .of X G a28 l28 c28 k28 (λ_ _ _ _ _ _ _ a=>by obtain⟨_,rfl⟩:=L2.fP a;rfl), .of X G a29 l29 c29 k29 (λ_ _ _ _ _ _ _ a=>by obtain⟨_,_,rfl⟩:=L2.km a;rfl), .of X G a30 l30 c30 k30 (λ_ _ _ _ _ _ _ a=>by obtain⟨_,_,rfl⟩:=L2.km a;rfl), .of X G a31 l31 c31 k31 (λ_ _ _ _ _ _ _ a=>by obtain⟨_,rfl⟩:=L2.fP a;rfl), .of X G a32 l32 c32 k32 (λ_ _ _ _ _ _ _ a=>by obtain⟨_,rfl⟩:=L2.fP a;rfl), .of X G a33 l33 c33 k33 (λ_ _ _ _ _ _ _ a=>by obtain⟨_,_,_,_,rfl⟩:=L2.OL a;rfl), .of X G a34 l34 c34 k34 (λ_ _ _ _ _ _ _ a=>by obtain⟨_,_,rfl⟩:=L2.km a;rfl), .of X G Yq l35 c35 k35 (λ_ _ _ _ _ _ _ a=>by obtain⟨_,rfl⟩:=L2.fP a;rfl),⟨⟨pgC,H0,poC,saC⟩,nR⟩,GT X G gC,m,_,E0,⟨mkC,m0,f0,kpC⟩,e0, .of m1 f1 ml1 mc1 mk1 (λ_ _ _ _ _ _ _ a=>by obtain⟨_,rfl⟩:=L2.fP a;rfl), .of m2 f2 ml2 mc2 mk2 (λ_ _ _ _ _ _ _ a=>by obtain⟨_,rfl⟩:=L2.fP a;rfl), .of m3 f3 ml3 mc3 mk3 (λ_ _ _ _ _ _ _ a=>by obtain⟨_,rfl⟩:=L2.fP a;rfl), .of m4 f4 ml4 mc4 mk4 (λ_ _ _ _ _ _ _ a=>by obtain⟨_,_,_,rfl⟩:=L2.A2 a;rfl), .of m5 f5 ml5 mc5 mk5 (λ_ _ _ _ _ _ _ a=>by obtain⟨_,_,_,rfl⟩:=L2.A2 a;rfl),⟨xn,xt⟩,IR X G zVE,f,GT X G sO,d,GT X G Ff,u,GT X G Cu,x,GT X G Ls,b,GT X G Ct,y,GT X G HQ,z,GT X G Cs,A,GT X G HP,B,GT X G Lr,c,GT X G HU,E,GT X G Fe,F,GT X G zZ,H,GT X G Rk,I,GT X G HN,J,GT X G HS,rX Cw Cr Cv DR B5 B9 B6 Di B3 rfl,rX vH vD vG vT vo vw vq vM vj rfl,rX sS sN sP tM so su sq tw sh rfl,rX yr yj ym zf xT x9 xU yL xP rfl,⟨GT X G sO,sgM,rdM,fcM⟩,⟨(rX vH vD vG vT vo vw vq vM vj rfl).obj,EI,GN,Fw,FI⟩,by unfold PySem.W.kitOne;exact tz (aep _),z_TooMany_TooSmall,z_TooMany_NoWeb,z_TooMany_NotPlane,z_TooMany_NoText,z_TooMany_NoCorner,z_TooMany_NoRing,z_TooMany_Alike,z_TooMany_TooFew,z_TooMany_NotFree,z_TooMany_NotFilled,z_TooMany_Odd,z_TooMany_Bridge,z_TooMany_Shared,z_TooMany_ValueError,m_TooMany_MapError,⟨L,_,jT sZ tj sY,(jT sZ tj sY).binds (ps:= ["self","counted"]) (λ_ _ _ _ _ _ _ a=>by obtain⟨_,_,rfl⟩:=L2.km a;rfl),⟨(rX sS sN sP tM so su sq tw sh rfl).obj,BZ,D6,CM,Dd⟩,Cq⟩,n_NotPlane_counted,z_NotPlane_TooMany,z_NotPlane_TooSmall,z_NotPlane_NoWeb,by unfold PySem.W.kitOne;exact tz (aep _),z_NotPlane_NoText,z_NotPlane_NoCorner,z_NotPlane_NoRing,z_NotPlane_Alike,z_NotPlane_TooFew,z_NotPlane_NotFree,z_NotPlane_NotFilled,z_NotPlane_Odd,z_NotPlane_Bridge,z_NotPlane_Shared,z_NotPlane_ValueError,m_NotPlane_MapError,⟨M,_,jT yF yG yE,(jT yF yG yE).binds (ps:= ["self","point"]) (λ_ _ _ _ _ _ _ a=>by obtain⟨_,_,rfl⟩:=L2.km a;rfl),⟨(rX yr yj ym zf xT x9 xU yL xP rfl).obj,Hk,JU,Im,IK⟩,HK⟩,n_TooFew_point,z_TooFew_TooMany,z_TooFew_TooSmall,z_TooFew_NoWeb,z_TooFew_NotPlane,z_TooFew_NoText,z_TooFew_NoCorner,z_TooFew_NoRing,z_TooFew_Alike,by unfold PySem.W.kitOne;exact tz (aep _),z_TooFew_NotFree,z_TooFew_NotFilled,z_TooFew_Odd,z_TooFew_Bridge,z_TooFew_Shared,z_TooFew_ValueError,m_TooFew_MapError,⟨k,GT X G Y5⟩,⟨tk1,GT X G cc1⟩,⟨JQ,GT X G cc2⟩,⟨i,GT X G cc3⟩,⟨j,GT X G cc4⟩⟩
 exact⟨_,λs v=> .of_eq rfl,λbase _ _=>(((R7 (P:=l.prog) (w:=w) (base:=base) T).mono (by decide)).imp (L2.RP (Z:=Z)))⟩
theorem walk{l:PySem.W.OpenLaw}{q:Program}{a:List Str}{i:(Str->Option Value)->Heap->Prop}{c:World->Heap->Prop}{d:DefRec}{K:Params->PySem.W.Frag}(j:l.most=some 63)(k:d.params.defaults= [])
  (m:∀(w:World)(h:Heap),c w h->(K w.params).In h)
  (F:∀(w:World)(b:Str->Option Value)(e:Addr)(h:Heap),(K w.params).In h->h.Ns mainGlobals b->b d.name=some (.ref e)->
   ∃g:FuncData,(∀(s:Shared)(u:Value),BindsTo s g ⟨[u],[]⟩ [("_law_script",u)])/\∀base:Heap,(K w.params).In base->base.Ns mainGlobals b->FnOk l.prog w (K w.params) b base bZ 40 e g ["_law_script"] (tW (K w.params))):
  PySem.W.WalkO q a i c l.row.toRowW d [] (λf n=>PySem.call f n):=L2.X7 40 (by decide) j k m F
end Hc
def PySem.W.Fast.tw4872959363449337721:Nat:=0
def PySem.W.Fast.tw5167419848347210605:Nat:=0
def PySem.W.Fast.tw11767392890888392506:Nat:=0
def PySem.W.Fast.tw3917809392796754660:Nat:=0
def PySem.W.Fast.tw17144653908060847152:Nat:=0
def PySem.W.Fast.tw1291975976753128129:Nat:=0
def PySem.W.Fast.tw18107986183665575419:Nat:=0
def PySem.W.Fast.tw11516206684578585598:Nat:=0
def PySem.W.Fast.tw10133544256098627555:Nat:=0
def PySem.W.Fast.tw4307105243572401627:Nat:=0
def PySem.W.Fast.tw4115067348335904486:Nat:=0
def PySem.W.Fast.tw9467986495945415672:Nat:=0
def PySem.W.Fast.tw3293494450021968892:Nat:=0
def PySem.W.Fast.tw3369409755731766393:Nat:=0
def PySem.W.Fast.tw17987498122335898560:Nat:=0
def PySem.W.Fast.tw6594792691889235034:Nat:=0
def PySem.W.Fast.tw12439643396596254373:Nat:=0
def PySem.W.Fast.tw8706006064308594497:Nat:=0
def PySem.W.Fast.tw4575870085321442076:Nat:=0
def PySem.W.Fast.tw13108464664485154981:Nat:=0
def PySem.W.Fast.tw1691403693897255558:Nat:=0
def PySem.W.Fast.tw5388305618481261400:Nat:=0
def PySem.W.Fast.tw6182296763121126103:Nat:=0
def PySem.W.Fast.tw15439529232229031562:Nat:=0
def PySem.W.Fast.tw15139452042756221066:Nat:=0
def PySem.W.Fast.tw12967370308805696272:Nat:=0
def PySem.W.Fast.tw11341012764066275912:Nat:=0
def PySem.W.Fast.tw10477970275953009526:Nat:=0
def PySem.W.Fast.tw16857773946126238982:Nat:=0
def PySem.W.Fast.tw8021222380885235946:Nat:=0
def PySem.W.Fast.tw11055372933103269314:Nat:=0
def PySem.W.Fast.tw6253609684716961431:Nat:=0
def PySem.W.Fast.tw5009294661595272563:Nat:=0
def PySem.W.Fast.tw6265441738410128174:Nat:=0
def PySem.W.Fast.tw10302189731926727009:Nat:=0
def PySem.W.Fast.tw1860214070409510001:Nat:=0
def PySem.W.Fast.tw13441306353487864988:Nat:=0
def PySem.W.Fast.tw9709442443074293530:Nat:=0
def PySem.W.Fast.tw16986760806236372128:Nat:=0
def PySem.W.Fast.tw6286576382968890611:Nat:=0
def PySem.W.Fast.tw2320963204956777047:Nat:=0
def PySem.W.Fast.tw10265653867980820030:Nat:=0
def PySem.W.Fast.tw2031022588099921400:Nat:=0
def PySem.W.Fast.tw235417263314613331:Nat:=0
def PySem.W.Fast.tw8001403134869356888:Nat:=0
def PySem.W.Fast.tw7496930292404151181:Nat:=0
def PySem.W.Fast.tw17877779159273709842:Nat:=0
def PySem.W.Fast.tw17932761631233933188:Nat:=0
def PySem.W.Fast.tw16386508320635945734:Nat:=0
def PySem.W.Fast.tw1795856342797163517:Nat:=0
def PySem.W.Fast.tw1327897742389686543:Nat:=0
def PySem.W.Fast.tw7186993427282219178:Nat:=0
def PySem.W.Fast.tw9771896994509570427:Nat:=0
def PySem.W.Fast.tw7213379139147205662:Nat:=0
def PySem.W.Fast.tw7218395779766335264:Nat:=0
def PySem.W.Fast.tw11382929171474217687:Nat:=0
def PySem.W.Fast.tw13357592137534847743:Nat:=0
def PySem.W.Fast.tw5413825783009860176:Nat:=0
def PySem.W.Fast.tw8400982227121282225:Nat:=0
def PySem.W.Fast.tw392928378402459674:Nat:=0
def PySem.W.Fast.tw15621788211640938709:Nat:=0
def PySem.W.Fast.tw11440282184641356654:Nat:=0
def PySem.W.Fast.tw751620570229106375:Nat:=0
def PySem.W.Fast.tw14143731178896659472:Nat:=0
def PySem.W.Fast.tw9984191212060391613:Nat:=0
def PySem.W.Fast.tw7215019372276463364:Nat:=0
def PySem.W.Fast.tw13275652593077945947:Nat:=0
def PySem.W.Fast.tw9789196844649247933:Nat:=0
def PySem.W.Fast.tw14062792026036203675:Nat:=0
def PySem.W.Fast.tw9176877829093345365:Nat:=0
def PySem.W.Fast.tw5571588755915156843:Nat:=0
def PySem.W.Fast.tw1380771317432660383:Nat:=0
def PySem.W.Fast.tw6961404890794664434:Nat:=0
def PySem.W.Fast.tw12007529641060116820:Nat:=0
def PySem.W.Fast.tw15484939305344009519:Nat:=0
def PySem.W.Fast.tw10893828870925136714:Nat:=0
def PySem.W.Fast.tw7108837424707347923:Nat:=0
def PySem.W.Fast.tw11445348841139638758:Nat:=0
def PySem.W.Fast.tw16353438599956380153:Nat:=0
def PySem.W.Fast.tw9916835421066568437:Nat:=0
def PySem.W.Fast.tw9879091859952523083:Nat:=0
def PySem.W.Fast.tw16091169812693351181:Nat:=0
def PySem.W.Fast.tw2188245481090431522:Nat:=0
def PySem.W.Fast.tw2745705722066195692:Nat:=0
def PySem.W.Fast.tw1894711857246911307:Nat:=0
def PySem.W.Fast.tw11843346742113687914:Nat:=0
def PySem.W.Fast.tw8355477020615633288:Nat:=0
def PySem.W.Fast.tw17490703006462411293:Nat:=0
def PySem.W.Fast.tw14856889935173050223:Nat:=0
def PySem.W.Fast.tw15271105551651963868:Nat:=0
def PySem.W.Fast.tw11342128808253996626:Nat:=0
def PySem.W.Fast.tw2627644436260352566:Nat:=0
def PySem.W.Fast.tw16046424734210291940:Nat:=0
def PySem.W.Fast.tw2110636847546113553:Nat:=0
def PySem.W.Fast.tw3090730986680711995:Nat:=0
def PySem.W.Fast.tw9607449248795594183:Nat:=0
def PySem.W.Fast.tw18408158917729346582:Nat:=0
def PySem.W.Fast.tw10802410460569884525:Nat:=0
def PySem.W.Fast.tw2006895287295631144:Nat:=0
def PySem.W.Fast.tw6281988097759238098:Nat:=0
def PySem.W.Fast.tw13399450182341303538:Nat:=0
def PySem.W.Fast.tw3414932633761608328:Nat:=0
def PySem.W.Fast.tw701712508522918924:Nat:=0
def PySem.W.Fast.tw3115501264222897343:Nat:=0
def PySem.W.Fast.tw12080351772550397872:Nat:=0
def PySem.W.Fast.tw16801312647426637340:Nat:=0
def PySem.W.Fast.tw12993268601062434427:Nat:=0
def PySem.W.Fast.tw2156248251198983765:Nat:=0
def PySem.W.Fast.tw2087955707385058515:Nat:=0
def PySem.W.Fast.tw15377043996030534925:Nat:=0
def PySem.W.Fast.tw15660341798904553140:Nat:=0
def PySem.W.Fast.tw9613905792451712872:Nat:=0
def PySem.W.Fast.tw9456789075938286534:Nat:=0
def PySem.W.Fast.tw2740529595682859806:Nat:=0
def PySem.W.Fast.tw4199348433995501502:Nat:=0
def PySem.W.Fast.tw11194700488463765420:Nat:=0
def PySem.W.Fast.tw14676132866556881884:Nat:=0
def PySem.W.Fast.tw275342274019106314:Nat:=0
def PySem.W.Fast.tw5579831984376195468:Nat:=0
def PySem.W.Fast.tw15507512159513622278:Nat:=0
def PySem.W.Fast.tw5366405367659248775:Nat:=0
def PySem.W.Fast.tw14480414285351643336:Nat:=0
def PySem.W.Fast.tw15954480945063747186:Nat:=0
def PySem.W.Fast.tw18073844228778347988:Nat:=0
def PySem.W.Fast.tw46084463056844166:Nat:=0
def PySem.W.Fast.tw3480949954981446347:Nat:=0
def PySem.W.Fast.tw13945369845683770535:Nat:=0
def PySem.W.Fast.tw2260940227635128877:Nat:=0
def PySem.W.Fast.tw1854574518726485653:Nat:=0
def PySem.W.Fast.tw14996152025817949938:Nat:=0
def PySem.W.Fast.tw8095853736080115680:Nat:=0
def PySem.W.Fast.tw2078016935589306923:Nat:=0
def PySem.W.Fast.tw5526972970024225640:Nat:=0
def PySem.W.Fast.tw10714181490669756078:Nat:=0
def PySem.W.Fast.tw3294294884888887781:Nat:=0
def PySem.W.Fast.tw9773580907210559424:Nat:=0
def PySem.W.Fast.tw7959767255539875335:Nat:=0
def PySem.W.Fast.tw13072105680787708778:Nat:=0
def PySem.W.Fast.tw3061703395503181247:Nat:=0
def PySem.W.Fast.tw15629959239277750394:Nat:=0
def PySem.W.Fast.tw16153144581103886399:Nat:=0
def PySem.W.Fast.tw2950789879457217693:Nat:=0
def PySem.W.Fast.tw16801587611975616376:Nat:=0
def PySem.W.Fast.tw13966376824116511868:Nat:=0
def PySem.W.Fast.tw677902674394735731:Nat:=0
def PySem.W.Fast.tw1010856907048912259:Nat:=0
def PySem.W.Fast.tw6107036819066768299:Nat:=0
def PySem.W.Fast.tw12307359989806384210:Nat:=0
def PySem.W.Fast.tw9180007876183494418:Nat:=0
def PySem.W.Fast.tw16029942049649264656:Nat:=0
def PySem.W.Fast.tw11817532966029537208:Nat:=0
def PySem.W.Fast.tw12228498768269394219:Nat:=0
def PySem.W.Fast.tw1710824394033063512:Nat:=0
def PySem.W.Fast.tw15490246605363266733:Nat:=0
def PySem.W.Fast.tw17484263353052751044:Nat:=0
def PySem.W.Fast.tw4960793783459928037:Nat:=0
def PySem.W.Fast.tw16029245899150588148:Nat:=0
def PySem.W.Fast.tw1349703206305859932:Nat:=0
def PySem.W.Fast.tw17607643679450910369:Nat:=0
def PySem.W.Fast.tw11945145690397194902:Nat:=0
def PySem.W.Fast.tw9353283145700394156:Nat:=0
def PySem.W.Fast.tw4597701075580484177:Nat:=0
def PySem.W.Fast.tw4636123217717168654:Nat:=0
def PySem.W.Fast.tw12712133496902027896:Nat:=0
def PySem.W.Fast.tw503111996371245399:Nat:=0
def PySem.W.Fast.tw9874662030874010600:Nat:=0
def PySem.W.Fast.tw17503855582340188265:Nat:=0
def PySem.W.Fast.tw8952141293081174689:Nat:=0
def PySem.W.Fast.tw10455830837635274695:Nat:=0
def PySem.W.Fast.tw17398323523770380752:Nat:=0
def PySem.W.Fast.tw17820539487396674005:Nat:=0
def PySem.W.Fast.tw16205570158251328817:Nat:=0
def PySem.W.Fast.tw18198558953447431193:Nat:=0
def PySem.W.Fast.tw9687653976493720946:Nat:=0
def PySem.W.Fast.tw3129962339121625044:Nat:=0
def PySem.W.Fast.tw5217199362538807686:Nat:=0
def PySem.W.Fast.tw4248031574175891228:Nat:=0
def PySem.W.Fast.tw9102997456796626866:Nat:=0
def PySem.W.Fast.tw54339324990939440:Nat:=0
def PySem.W.Fast.tw15417419930238733212:Nat:=0
def PySem.W.Fast.tw8633649581177531047:Nat:=0
def PySem.W.Fast.tw1420451691104259243:Nat:=0
def PySem.W.Fast.tw768925720739293700:Nat:=0
def PySem.W.Fast.tw3748895818630071689:Nat:=0
def PySem.W.Fast.tw4338046381482366226:Nat:=0
def PySem.W.Fast.tw8578910032346346413:Nat:=0
def PySem.W.Fast.tw14942702216265535556:Nat:=0
def PySem.W.Fast.tw3617679424093445100:Nat:=0
def PySem.W.Fast.tw15469149378927573276:Nat:=0
def PySem.W.Fast.tw17484070913374829298:Nat:=0
def PySem.W.Fast.tw9455801713225589639:Nat:=0
def PySem.W.Fast.tw7642250166058767082:Nat:=0
def PySem.W.Fast.tw16297994665351617404:Nat:=0
def PySem.W.Fast.tw10143025993787198852:Nat:=0
def PySem.W.Fast.tw9786808962226115051:Nat:=0
def PySem.W.Fast.tw13916019020054745620:Nat:=0
def PySem.W.Fast.tw15486814222962916310:Nat:=0
def PySem.W.Fast.tw13444814019135217531:Nat:=0
def PySem.W.Fast.tw11398879804180188190:Nat:=0
def PySem.W.Fast.tw15519463802980358724:Nat:=0
def PySem.W.Fast.tw8735661952643913496:Nat:=0
def PySem.W.Fast.tw17283471981306650381:Nat:=0
def PySem.W.Fast.tw16921144681805514585:Nat:=0
def PySem.W.Fast.tw8550026697720792219:Nat:=0
def PySem.W.Fast.tw18298066318159393771:Nat:=0
def PySem.W.Fast.tw13013998060690211517:Nat:=0
def PySem.W.Fast.tw16059732082090498895:Nat:=0
def PySem.W.Fast.tw5297999882851985280:Nat:=0
def PySem.W.Fast.tw15037967526515604806:Nat:=0
def PySem.W.Fast.tw13981274664451960321:Nat:=0
def PySem.W.Fast.tw6481962639837665399:Nat:=0
def PySem.W.Fast.tw3437816943121993480:Nat:=0
def PySem.W.Fast.tw7948631695595265836:Nat:=0
def PySem.W.Fast.tw10535271852418327903:Nat:=0
def PySem.W.Fast.tw10152362935073958137:Nat:=0
def PySem.W.Fast.tw17838382231896151072:Nat:=0
def PySem.W.Fast.tw9622435583096093813:Nat:=0
def PySem.W.Fast.tw9629355063886982852:Nat:=0
def PySem.W.Fast.tw9141968484329100852:Nat:=0
def PySem.W.Fast.tw14157302666826070581:Nat:=0
def PySem.W.Fast.tw10085686147239563500:Nat:=0
def PySem.W.Fast.tw8882905981752591159:Nat:=0
def PySem.W.Fast.tw325267599400790587:Nat:=0
def PySem.W.Fast.tw112647291740681074:Nat:=0
def PySem.W.Fast.tw15395228221375258096:Nat:=0
def PySem.W.Fast.tw16260563230106420677:Nat:=0
def PySem.W.Fast.tw5525105671497835936:Nat:=0
def PySem.W.Fast.tw15987965200961043095:Nat:=0
def PySem.W.Fast.tw13965305149703259459:Nat:=0
def PySem.W.Fast.tw6980015380488319310:Nat:=0
def PySem.W.Fast.tw1825611067916802804:Nat:=0
def PySem.W.Fast.tw4718053986406081240:Nat:=0
def PySem.W.Fast.tw2974879787851517168:Nat:=0
def PySem.W.Fast.tw7162116750238430252:Nat:=0
def PySem.W.Fast.tw6306236170141346033:Nat:=0
def PySem.W.Fast.tw4320972909886676077:Nat:=0
def PySem.W.Fast.tw12034017952928461429:Nat:=0
def PySem.W.Fast.tw16791308065218403738:Nat:=0
def PySem.W.Fast.tw9668241450943818193:Nat:=0
def PySem.W.Fast.tw1868490653070596983:Nat:=0
def PySem.W.Fast.tw7255072326737506421:Nat:=0
def PySem.W.Fast.tw4228400070794964742:Nat:=0
def PySem.W.Fast.tw13902952663483954710:Nat:=0
def PySem.W.Fast.tw18442805495590572053:Nat:=0
def PySem.W.Fast.tw14353573748860230626:Nat:=0
def PySem.W.Fast.tw13981521762669953158:Nat:=0
def PySem.W.Fast.tw4482132210416212321:Nat:=0
def PySem.W.Fast.tw17038246283860014906:Nat:=0
def PySem.W.Fast.tw16357964807834764191:Nat:=0
def PySem.W.Fast.tw11708054766058912978:Nat:=0
def PySem.W.Fast.tw2999532699565780695:Nat:=0
def PySem.W.Fast.tw14611356219435902082:Nat:=0
def PySem.W.Fast.tw3555606316788152679:Nat:=0
def PySem.W.Fast.tw7092615124074173089:Nat:=0
def PySem.W.Fast.tw16862816113257730538:Nat:=0
def PySem.W.Fast.tw2406923005595041079:Nat:=0
def PySem.W.Fast.tw1984589561513391282:Nat:=0
def PySem.W.Fast.tw2752609717477578598:Nat:=0
def PySem.W.Fast.tw18130246300598554922:Nat:=0
def PySem.W.Fast.tw11867061651814638824:Nat:=0
def PySem.W.Fast.tw9649713335228700194:Nat:=0
def PySem.W.Fast.tw17190355240863824353:Nat:=0
def PySem.W.Fast.tw17870133760664143575:Nat:=0
def PySem.W.Fast.tw3087416598031130646:Nat:=0
def PySem.W.Fast.tw18394762612294566380:Nat:=0
def PySem.W.Fast.tw4687724359997593497:Nat:=0
def PySem.W.Fast.tw4373439217419804682:Nat:=0
def PySem.W.Fast.tw813246065777554166:Nat:=0
def PySem.W.Fast.tw5130811839603014725:Nat:=0
def PySem.W.Fast.tw18239801196460381653:Nat:=0
def PySem.W.Fast.tw11104209970659640547:Nat:=0
def PySem.W.Fast.tw4674271977277411728:Nat:=0
def PySem.W.Fast.tw11736210799273606618:Nat:=0
def PySem.W.Fast.tw17128704396914246530:Nat:=0
def PySem.W.Fast.tw13690394685227816291:Nat:=0
def PySem.W.Fast.tw6763945871135775296:Nat:=0
def PySem.W.Fast.tw14374628138383191145:Nat:=0
def PySem.W.Fast.tw3984190604482372550:Nat:=0
def PySem.W.Fast.tw9579996804295708213:Nat:=0
def PySem.W.Fast.tw2274904537866193707:Nat:=0
def PySem.W.Fast.tw16129489951021620743:Nat:=0
def PySem.W.Fast.tw7602361528825823825:Nat:=0
def PySem.W.Fast.tw1614491231383446401:Nat:=0
def PySem.W.Fast.tw12664378712198381627:Nat:=0
def PySem.W.Fast.tw10815342786798726791:Nat:=0
def PySem.W.Fast.tw6468912344799404481:Nat:=0
def PySem.W.Fast.tw17311662972250716448:Nat:=0
def PySem.W.Fast.tw8375255157897843313:Nat:=0
def PySem.W.Fast.tw11355845912417350263:Nat:=0
def PySem.W.Fast.tw2746630331063157360:Nat:=0
def PySem.W.Fast.tw1337261329967849187:Nat:=0
def PySem.W.Fast.tw3133210162961303879:Nat:=0
def PySem.W.Fast.tw12089993983168044330:Nat:=0
def PySem.W.Fast.tw4899558922012068617:Nat:=0
def PySem.W.Fast.tw11474694406574881447:Nat:=0
def PySem.W.Fast.tw13087757720638958007:Nat:=0
def PySem.W.Fast.tw9177537047685210544:Nat:=0
def PySem.W.Fast.tw928632874794242455:Nat:=0
def PySem.W.Fast.tw4636192232254761266:Nat:=0
def PySem.W.Fast.tw6598350241788076411:Nat:=0
def PySem.W.Fast.tw11709838540362358066:Nat:=0
def PySem.W.Fast.tw7113527251205215310:Nat:=0
def PySem.W.Fast.tw17259084859588707142:Nat:=0
def PySem.W.Fast.tw8765124402105607786:Nat:=0
def PySem.W.Fast.tw10987591514278307879:Nat:=0
def PySem.W.Fast.tw16383465827706855444:Nat:=0
def PySem.W.Fast.tw6992168908410418539:Nat:=0
def PySem.W.Fast.tw369904344110444608:Nat:=0
def PySem.W.Fast.tw6635677281807366695:Nat:=0
def PySem.W.Fast.tw15344849833549095300:Nat:=0
def PySem.W.Fast.tw5165116153692574449:Nat:=0
def PySem.W.Fast.tw16950509109351441737:Nat:=0
def PySem.W.Fast.tw14642625076254716635:Nat:=0
open PySem PySem.W PyProof.Rows
set_option maxRecDepth 100000 in
set_option maxHeartbeats 0 in
theorem PySem.Challenge.cw_mapdye_k85_ways_and_leading_refused_holds : PySem.Challenge.rw_mapdye_k85_ways_and_leading_refused.Holds := by
 w_on;o_law;k_head;(case hw=>w_witness2)
 k_fill
 refine Hc.walk (l:=PySem.Challenge.rw_mapdye_k85_ways_and_leading_refused) rfl rfl (λw h Y=>PySem.W.kIn_of Y) ?F
 case F=>
  intro w d e h a G b
  refine' Hc.all_mk a G b ?_ ?_ ?_ ?_ ?_ ?_ ?_ ?_ ?_ ?_ ?_ ?_ ?_ ?_ ?_ ?_ ?_ ?_ ?_ ?_ ?_ ?_ ?_ ?_ ?_ ?_ ?_ ?_ ?_ ?_ ?_ ?_ ?_ ?_ ?_ ?_ ?_ ?_ ?_ ?_ ?_ ?_ ?_ ?_ ?_ ?_ ?_ ?_ ?_ ?_ ?_ ?_ ?_ ?_ ?_ ?_ ?_ ?_ ?_ ?_ ?_ ?_ ?_ ?_ ?_ ?_ ?_ ?_ ?_ ?_ ?_ ?_ ?_ ?_ ?_ ?_ ?_ ?_ ?_ ?_ ?_ ?_ ?_ ?_ ?_ ?_ ?_ ?_ ?_ ?_ ?_ ?_ ?_ ?_ ?_ ?_ ?_ ?_ ?_ ?_ ?_ ?_ ?_ ?_ ?_ ?_ ?_ ?_ ?_ ?_ ?_ ?_ ?_ ?_ ?_ ?_ ?_ ?_ ?_ ?_ ?_ ?_ ?_ ?_ ?_ ?_ ?_ ?_ ?_ ?_ ?_ ?_ ?_ ?_ ?_ ?_ ?_ ?_ ?_ ?_ ?_ ?_ ?_ ?_ ?_ ?_ ?_ ?_ ?_ ?_ ?_ ?_ ?_ ?_ ?_ ?_ ?_ ?_ ?_ ?_ ?_ ?_ ?_ ?_ ?_ ?_ ?_ ?_ ?_ ?_ ?_ ?_ ?_ ?_ ?_ ?_ ?_ ?_ ?_ ?_ ?_ ?_ ?_ ?_ ?_ ?_ ?_ ?_ ?_ ?_ ?_ ?_ ?_ ?_ ?_ ?_ ?_ ?_ ?_ ?_ ?_ ?_ ?_ ?_ ?_ ?_ ?_ ?_ ?_ ?_ ?_ ?_ ?_ ?_ ?_ ?_ ?_ ?_ ?_ ?_ ?_ ?_ ?_ ?_ ?_ ?_ ?_ ?_ ?_ ?_ ?_ ?_ ?_ ?_ ?_ ?_ ?_ ?_ ?_ ?_ ?_ ?_ ?_ ?_ ?_ ?_ ?_ ?_ ?_ ?_ ?_ ?_ ?_ ?_ ?_ ?_ ?_ ?_ ?_ ?_ ?_ ?_ ?_ ?_ ?_ ?_ ?_ ?_ ?_ ?_ ?_ ?_ ?_ ?_ ?_ ?_ ?_ ?_ ?_ ?_ ?_ ?_ ?_ ?_ ?_ ?_ ?_ ?_ ?_ ?_ ?_ ?_ ?_ ?_ ?_ ?_ ?_ ?_ ?_ ?_ ?_ ?_ ?_ ?_ ?_ ?_ ?_ ?_ ?_ ?_ ?_ ?_ ?_ ?_ ?_ ?_ ?_ ?_ ?_ ?_ ?_ ?_ ?_ ?_ ?_ ?_ ?_
  all_goals (try (first| (show _=_;k_is) | (refine' c.adV ?_ ?_ ?_ ?_ ?_ ?_ ?_<;>first| (show _=_;k_is) |rfl) | (refine' c.adW ?_ ?_ ?_ ?_<;>first| (show _=_;k_is) |rfl) |rfl))


